import PyProof.Rows.All
import Wide.All
import OpenK.AllK
import Wide.FinOn
import Lean
import PyProof.EqAt
import PyProof.EqKinds
import PyProof.TupleCall
import PySem.Challenge.RW_backindex_k14_marks
import KE.KRevIter
import KE.KSortAsk
import KE.KSortTup
import PyProof.Rows.SortKeyStr
import KE.KLam
import KE.KSortKey
import OpenK.KOwn
import KE.RegKIsAll
import PyProof.EnumMake
import PyProof.EnumFor
import PyProof.EnumStmt
import KE.KNestM
import PyProof.Rows.CallKwBuiltin
import PyProof.StrWalks
import KE.KDictOf
import PyProof.CompUse
import PyProof.NeKinds
import PyProof.ZipIter
import PyProof.Rows.SumAny
import PyProof.Rows.SetFrom
import PyProof.ListRange
import PyProof.StrLawsIn
import PyProof.CollectIter
import PyProof.JoinWalk
import PyProof.Conv_int_bool
import KE.IntBitsLaws
import PyProof.FactsAll.str
import PyProof.ListStr
import PyProof.Draws
import PyProof.CallStr
import PyProof.StrLawsFrom
import PyProof.Rows.StrNews2
import PyProof.StrCalls
import KE.KIntText
import PyProof.Rows.RegStrFacts
import PyProof.DictWalks
import PyProof.AttrMissHeap
import PyProof.LongRange
import PyProof.Rows.Range3
def PySem.W.Fast.tw5389117027871540755 : Nat := 0
def PySem.W.Fast.tw16682184989824770739 : Nat := 0
def PySem.W.Fast.tw6259634256639360531 : Nat := 0
def PySem.W.Fast.tw12174903778136143643 : Nat := 0
def PySem.W.Fast.tw12723418172560119808 : Nat := 0
def PySem.W.Fast.tw3450595749379708432 : Nat := 0
def PySem.W.Fast.tw6799261268466544395 : Nat := 0
def PySem.W.Fast.tw8995773186505189044 : Nat := 0
def PySem.W.Fast.tw7011533365570351000 : Nat := 0
def PySem.W.Fast.tw11710113309356070335 : Nat := 0
def PySem.W.Fast.tw2004035873217062028 : Nat := 0
def PySem.W.Fast.tw3495495210634204557 : Nat := 0
def PySem.W.Fast.tw1295095416408062917 : Nat := 0
def PySem.W.Fast.tw1636134135352311935 : Nat := 0
def PySem.W.Fast.tw13953871862550739390 : Nat := 0
def PySem.W.Fast.tw15841553246046439427 : Nat := 0
def PySem.W.Fast.tw6389001034098750334 : Nat := 0
def PySem.W.Fast.tw6006357700303178234 : Nat := 0
def PySem.W.Fast.tw3258992613149468122 : Nat := 0
def PySem.W.Fast.tw3712873391707323542 : Nat := 0
def PySem.W.Fast.tw2257110421702458061 : Nat := 0
def PySem.W.Fast.tw6781167184896120481 : Nat := 0
def PySem.W.Fast.tw11352960963340996312 : Nat := 0
def PySem.W.Fast.tw4029831455681876150 : Nat := 0
def PySem.W.Fast.tw3270107912626867749 : Nat := 0
def PySem.W.Fast.tw1972198321646863298 : Nat := 0
def PySem.W.Fast.tw4980046086794561471 : Nat := 0
def PySem.W.Fast.tw2618704628564286888 : Nat := 0
def PySem.W.Fast.tw12924799910370151900 : Nat := 0
def PySem.W.Fast.tw18252032976065082946 : Nat := 0
def PySem.W.Fast.tw18324957257664065315 : Nat := 0
def PySem.W.Fast.tw3843946331495256395 : Nat := 0
def PySem.W.Fast.tw13155650241577530873 : Nat := 0
def PySem.W.Fast.tw6870815603376821608 : Nat := 0
def PySem.W.Fast.tw10263321417133253742 : Nat := 0
def PySem.W.Fast.tw3724334757388690368 : Nat := 0
def PySem.W.Fast.tw4479293608407577343 : Nat := 0
def PySem.W.Fast.tw8901115134225972637 : Nat := 0
def PySem.W.Fast.tw10160612412296552857 : Nat := 0
def PySem.W.Fast.tw1807446006247325064 : Nat := 0
def PySem.W.Fast.tw14671871726689782287 : Nat := 0
def PySem.W.Fast.tw3040898941365243446 : Nat := 0
def PySem.W.Fast.tw12777974456884222818 : Nat := 0
def PySem.W.Fast.tw8888179585577319918 : Nat := 0
def PySem.W.Fast.tw5409006352051495625 : Nat := 0
def PySem.W.Fast.tw15994324964943682971 : Nat := 0
def PySem.W.Fast.tw5024776510213645326 : Nat := 0
def PySem.W.Fast.tw6956769823825494218 : Nat := 0
def PySem.W.Fast.tw18317435602851806635 : Nat := 0
def PySem.W.Fast.tw9993539374276261941 : Nat := 0
def PySem.W.Fast.tw16910966051777531626 : Nat := 0
def PySem.W.Fast.tw11233072603376230291 : Nat := 0
def PySem.W.Fast.tw2792380172836622996 : Nat := 0
def PySem.W.Fast.tw9871348410658180443 : Nat := 0
def PySem.W.Fast.tw4162861630788126131 : Nat := 0
def PySem.W.Fast.tw6266005289485460936 : Nat := 0
def PySem.W.Fast.tw13372236069549132383 : Nat := 0
def PySem.W.Fast.tw5861192184869264567 : Nat := 0
def PySem.W.Fast.tw9012301068220114881 : Nat := 0
def PySem.W.Fast.tw1177665109255570752 : Nat := 0
noncomputable section
set_option Elab.async false
set_option linter.all false
set_option maxRecDepth 100000
namespace L2
open PySem PySem.Spec PyProof.Rows
abbrev Key := Sum Int Str
noncomputable def keyIs : Key → Value → Bool
  | .inl k, v => Value.isInt k v
  | .inr x, v => Value.isStrOf x v
noncomputable def keyH (w : World) : Key → Int
  | .inl k => hashInt k
  | .inr x => hashStr w x
theorem keyIs_shape : ∀ {k : Key} {v : Value}, keyIs k v = true → (∃ i t, k = Sum.inl i ∧ v = Value.int i t) ∨ (∃ x t, k = Sum.inr x ∧ v = Value.str x t)
  | .inl i, v, h => by
    obtain ⟨t, e⟩ := Value.isInt_shape (k := i) (v := v) h
    exact .inl ⟨i, t, rfl, e⟩
  | .inr x, v, h => by
    obtain ⟨t, e⟩ := Value.isStrOf_shape (x := x) (v := v) h
    exact .inr ⟨x, t, rfl, e⟩
theorem keyIs_int (i : Int) (t : Tok) : keyIs (.inl i) (.int i t) = true := by simp [keyIs, Value.isInt]
theorem keyIs_str (x : Str) (t : Tok) : keyIs (.inr x) (.str x t) = true := by simp [keyIs, Value.isStrOf]
theorem key_ll (a b : Int) : decide ((Sum.inl a : Key) = Sum.inl b) = (a == b) := by
  by_cases e : a = b
  · subst e; simp
  · have h : ¬ (Sum.inl a : Key) = Sum.inl b := fun q => e (Sum.inl.inj q)
    rw [decide_eq_false h]
    exact (beq_eq_false_iff_ne.mpr e).symm
theorem key_rr (a b : Str) : decide ((Sum.inr a : Key) = Sum.inr b) = decide (a = b) := by
  by_cases e : a = b
  · subst e; simp
  · have h : ¬ (Sum.inr a : Key) = Sum.inr b := fun q => e (Sum.inr.inj q)
    rw [decide_eq_false h, decide_eq_false e]
theorem key_lr (a : Int) (b : Str) : decide ((Sum.inl a : Key) = Sum.inr b) = false := decide_eq_false (fun q => nomatch q)
theorem key_rl (a : Str) (b : Int) : decide ((Sum.inr a : Key) = Sum.inl b) = false := decide_eq_false (fun q => nomatch q)
noncomputable def mixKind (prog : Program) (w : World) : PySem.KeyKind prog w Key where
  is := keyIs
  hash := keyH w
  inj := fun v a b ha hb => by
    rcases keyIs_shape ha with ⟨i, t, rfl, rfl⟩ | ⟨x, t, rfl, rfl⟩
    · rcases keyIs_shape hb with ⟨j, u, rfl, e⟩ | ⟨y, u, rfl, e⟩
      · injection e with e1 _; rw [e1]
      · exact nomatch e
    · rcases keyIs_shape hb with ⟨j, u, rfl, e⟩ | ⟨y, u, rfl, e⟩
      · exact nomatch e
      · injection e with e1 _; rw [e1]
  byValue := fun k v h => by
    rcases keyIs_shape h with ⟨i, t, rfl, rfl⟩ | ⟨x, t, rfl, rfl⟩ <;> rfl
  pyHash := fun hv h => by
    rcases keyIs_shape hv with ⟨i, t, rfl, rfl⟩ | ⟨x, t, rfl, rfl⟩
    · exact wpAny_pyHash_int h
    · exact wpAny_pyHash_str h
  eqBool := fun hu hv h => by
    rcases keyIs_shape hu with ⟨i, t, rfl, rfl⟩ | ⟨x, t, rfl, rfl⟩
    · rcases keyIs_shape hv with ⟨j, u, rfl, rfl⟩ | ⟨y, u, rfl, rfl⟩
      · rw [key_ll] at h; exact wpAny_eqBool_int h
      · rw [key_lr] at h; exact SeqAt.EqAt.int_str i t y u _ _ _ _ h
    · rcases keyIs_shape hv with ⟨j, u, rfl, rfl⟩ | ⟨y, u, rfl, rfl⟩
      · rw [key_rl] at h; exact SeqAt.EqAt.str_int x t j u _ _ _ _ h
      · rw [key_rr] at h; exact wpAny_eqBool_str h
  «strs» := fun k x t v h => by
    rcases keyIs_shape h with ⟨i, u, rfl, e⟩ | ⟨y, u, rfl, e⟩
    · exact nomatch e
    · injection e with e1 _
      subst e1
      cases v <;> rfl
theorem mixKind_int (prog : Program) (w : World) (i : Int) (t : Tok) : (mixKind prog w).is (.inl i) (.int i t) = true := keyIs_int i t
theorem mixKind_str (prog : Program) (w : World) (x : Str) (t : Tok) : (mixKind prog w).is (.inr x) (.str x t) = true := keyIs_str x t
end L2
namespace L2
open PySem PySem.Spec PyProof.Rows
inductive V where
  | non | bl (b : Bool) | int (i : Int) | str (x : Str) | byt (b : Array UInt8) | flt (b : UInt64) | ref (a : Addr) | ty (n : String)
  deriving DecidableEq
noncomputable def RelV : V → Value → Prop
  | .non, u => u = Value.none
  | .bl b, u => u = Value.bool b
  | .int i, u => ∃ t, u = Value.int i t
  | .str x, u => ∃ t, u = Value.str x t
  | .byt b, u => ∃ t, u = Value.bytes b t
  | .flt b, u => ∃ t, u = Value.float b t
  | .ref a, u => u = Value.ref a
  | .ty n, u => u = Value.type n
abbrev Vals : List V → List Value → Prop := Paired RelV
theorem Vals.length {xs : List V} {us : List Value} (r : Vals xs us) : xs.length = us.length := Paired.length r
theorem Vals.get : ∀ {xs : List V} {us : List Value} {i : Nat} {x : V}, Vals xs us → xs[i]? = some x → ∃ u, us[i]? = some u ∧ RelV x u
  | _, _, _, _, .nil, e => by simp at e
  | _, _, 0, _, .cons r _, e => by simp at e; subst e; exact ⟨_, rfl, r⟩
  | _, _, i + 1, x, .cons _ t, e => by
    obtain ⟨u, h1, h2⟩ := Vals.get (i := i) (x := x) t (by simpa using e)
    exact ⟨u, by simpa using h1, h2⟩
theorem Vals.set {x : V} {u : Value} (r : RelV x u) : ∀ {xs : List V} {us : List Value} (i : Nat), Vals xs us → Vals (xs.set i x) (us.set i u)
  | _, _, _, .nil => .nil
  | _, _, 0, .cons _ t => .cons r t
  | _, _, i + 1, .cons q t => .cons q (Vals.set r i t)
theorem Vals.append : ∀ {xs ys : List V} {us ws : List Value}, Vals xs us → Vals ys ws → Vals (xs ++ ys) (us ++ ws)
  | _, _, _, _, .nil, s => s
  | _, _, _, _, .cons r t, s => .cons r (Vals.append t s)
theorem Vals.take : ∀ {xs : List V} {us : List Value} (n : Nat), Vals xs us → Vals (xs.take n) (us.take n)
  | _, _, 0, _ => .nil
  | _, _, _ + 1, .nil => .nil
  | _, _, n + 1, .cons r t => .cons r (Vals.take n t)
theorem Vals.drop : ∀ {xs : List V} {us : List Value} (n : Nat), Vals xs us → Vals (xs.drop n) (us.drop n)
  | _, _, 0, r => r
  | _, _, _ + 1, .nil => .nil
  | _, _, n + 1, .cons _ t => Vals.drop n t
theorem Vals.none_of : ∀ {xs : List V} {us : List Value} {i : Nat}, Vals xs us → xs[i]? = none → us[i]? = none := fun {xs us i} r e => by
  have h1 := r.length
  have h2 : xs.length ≤ i := List.getElem?_eq_none_iff.mp e
  exact List.getElem?_eq_none_iff.mpr (by omega)
noncomputable def RelO : Option V → Option Value → Prop
  | some v, some u => RelV v u
  | none, none => True
  | _, _ => False
noncomputable def KV {κ : Type} : List (κ × V) → List (κ × Value) → Prop := Paired fun (p : κ × V) (q : κ × Value) => p.1 = q.1 ∧ RelV p.2 q.2
noncomputable def kV : Key → V
  | .inl i => .int i
  | .inr x => .str x
inductive HO where
  | lst (xs : List V)
  | tup (xs : List V)
  | dK (kvs : List (Key × V)) | dT (kvs : List (List Key × V))
  | set (S : Int → Bool) (n : Nat)
  | ins (C dx : Addr) (fs : List (Str × V))
  | own (x : Addr)
  | xd (fs : List (Str × V))
  | met (f x : Addr)
  | rng (lo hi : Int)
  | frz (o : Obj) (u : HO)
  | tbl (ps : Array Value)
  | ext (φ : Heap → Prop)
abbrev Hp := Addr → Option HO
noncomputable def upd (H : Hp) (a : Addr) (o : HO) : Hp := fun b => if b = a then some o else H b
theorem upd_same {H : Hp} {a : Addr} {o : HO} : upd H a o a = some o := by unfold upd; rw [if_pos rfl]
theorem upd_ne {H : Hp} {a b : Addr} {o : HO} (h : b ≠ a) : upd H a o b = H b := by unfold upd; rw [if_neg h]
theorem upd_upd {H : Hp} {a : Addr} {o u : HO} : upd (upd H a o) a u = upd H a u := by
  funext b; unfold upd; split <;> rfl
theorem ne_of {H : Hp} {a b : Addr} {o u : HO} (h : H a = some o) (h' : H b = some u) (d : o ≠ u) : a ≠ b := by
  intro e; subst e; rw [h] at h'; exact d (Option.some.inj h')
theorem ne_of_none {H : Hp} {a b : Addr} {o : HO} (h : H a = some o) (h' : H b = none) : a ≠ b := by
  intro e; subst e; rw [h] at h'; cases h'
section
variable (P : Program) (w : World)
noncomputable def ObjOk (H : Hp) (h : Heap) (a : Addr) : HO → Prop
  | .lst xs => xs.length ≤ sizeLine ∧ ∃ (its : List Value) (n : Nat), Vals xs its ∧ h.get? a = some { cls := .type "list", data := .seq its.toArray n }
  | .tup xs => xs.length ≤ sizeLine ∧ ∃ its : List Value, Vals xs its ∧ IsTup h a its.toArray
  | .dK kvs => kvs.length ≤ sizeLine ∧ (a == sysModules) = false ∧ ∃ vs, KV kvs vs ∧ h.DictOf (mixKind P w) a vs
  | .dT _ => False
  | .set S n => h.SetOf (intKind P w) a S n
  | .ins C dx fs => H dx = some (.own a) ∧ fs.length ≤ 1000 ∧ dx ≠ a ∧ h.get? a = some (PySem.W.instObj C dx) ∧
      ∃ mA, h.Ns1 dx mA ∧ (∀ f, RelO (fs.lookup f) (mA f)) ∧ PySem.Within mA (fs.map (·.1))
  | .own _ => ∃ o, h.get? a = some o
  | .xd fs => ∃ mA, h.Ns1 a mA ∧ ∀ f, RelO (fs.lookup f) (mA f)
  | .rng lo hi => ∃ t u v, h.get? a = some { cls := .type "range", data := .fields #[.int lo t, .int hi u, .int 1 v] }
  | .frz o u => h.get? a = some o ∧ ObjOk H h a u
  | .tbl ps => h.get? a = some { cls := .none, data := .fields ps }
  | .met f x => h.get? a = some (PySem.W.methodObj (.ref f) (.ref x))
  | .ext φ => φ h ∧ (∃ o, h.get? a = some o) ∧ ∀ h1 h2 : Heap, φ h1 → (∀ o, h1.get? a = some o → h2.get? a = some o) → φ h2
noncomputable def HOk (H : Hp) (h : Heap) : Prop := ∀ a o, H a = some o → ObjOk P w H h a o
end
section
variable {P : Program} {w : World} {H H' : Hp} {h h' : Heap} {a : Addr} {o : HO}
theorem ObjOk.lt (x : ObjOk P w H h a o) : a < h.objs.size := by
  cases o with
  | lst xs => obtain ⟨_, _, _, _, e⟩ := x; exact Heap.lt_size e
  | tup xs => obtain ⟨_, _, _, p⟩ := x; exact p.lt
  | dK kvs => obtain ⟨_, _, _, _, o, _, _, e, _⟩ := x; exact Heap.lt_size e
  | dT kvs => exact False.elim x
  | set S n => obtain ⟨o, _, _, _, e, _⟩ := x; exact Heap.lt_size e
  | ins C dx fs => obtain ⟨_, _, _, e, _⟩ := x; exact Heap.lt_size e
  | own y => obtain ⟨_, e⟩ := x; exact Heap.lt_size e
  | xd fs => obtain ⟨_, ⟨_, _, _, e, _⟩, _⟩ := x; exact Heap.lt_size e
  | rng lo hi => obtain ⟨_, _, _, e⟩ := x; exact Heap.lt_size e
  | frz ob u => obtain ⟨e, _⟩ := x; exact Heap.lt_size e
  | tbl ps => exact Heap.lt_size (show h.get? a = some _ from x)
  | met f y => exact Heap.lt_size (show h.get? a = some _ from x)
  | ext φ => obtain ⟨_, ⟨_, e⟩, _⟩ := x; exact Heap.lt_size e
theorem Paired.mapP {α β : Type} {F G : α → β → Prop} : ∀ {l₁ : List α} {l₂ : List β}, Paired F l₁ l₂ → (∀ a b, F a b → G a b) → Paired G l₁ l₂
  | _, _, .nil, _ => .nil
  | _, _, .cons r t, f => .cons (f _ _ r) (Paired.mapP t f)
theorem ObjOk.stay (x : ObjOk P w H h a o) (k : ∀ b u, (b = a ∨ H b = some (.own a)) → h.get? b = some u → h'.get? b = some u)
    (ho : ∀ b, H b = some (.own a) → H' b = some (.own a)) (ht : ∀ b xs, H b = some (.tup xs) → H' b = some (.tup xs)) : ObjOk P w H' h' a o := by
  induction o with
  | lst xs => obtain ⟨z, its, n, r, e⟩ := x; exact ⟨z, its, n, r, k _ _ (.inl rfl) e⟩
  | tup xs => obtain ⟨z, its, r, ob, e, c⟩ := x; exact ⟨z, its, r, ob, k _ _ (.inl rfl) e, c⟩
  | dK kvs => obtain ⟨z, y, vs, r, ob, es, ep, e, c⟩ := x; exact ⟨z, y, vs, r, ob, es, ep, k _ _ (.inl rfl) e, c⟩
  | dT kvs => exact False.elim x
  | set S n => obtain ⟨ob, es, ep, t, e, c⟩ := x; exact ⟨ob, es, ep, t, k _ _ (.inl rfl) e, c⟩
  | ins C dx fs =>
    obtain ⟨d, z, ne, e, mA, ⟨od, es, ep, e2, c⟩, r⟩ := x
    exact ⟨ho _ d, z, ne, k _ _ (.inl rfl) e, mA, ⟨od, es, ep, k _ _ (.inr d) e2, c⟩, r⟩
  | own y => obtain ⟨ob, e⟩ := x; exact ⟨ob, k _ _ (.inl rfl) e⟩
  | xd fs => obtain ⟨mA, ⟨od, es, ep, e, c⟩, r⟩ := x; exact ⟨mA, ⟨od, es, ep, k _ _ (.inl rfl) e, c⟩, r⟩
  | rng lo hi => obtain ⟨t, u, v, e⟩ := x; exact ⟨t, u, v, k _ _ (.inl rfl) e⟩
  | frz ob u ih => obtain ⟨e, q⟩ := x; exact ⟨k _ _ (.inl rfl) e, ih q⟩
  | tbl ps =>
    have e : h.get? a = some { cls := .none, data := .fields ps } := x
    show h'.get? a = some { cls := .none, data := .fields ps }
    exact k a _ (.inl rfl) e
  | met f y =>
    have e : h.get? a = some (PySem.W.methodObj (.ref f) (.ref y)) := x
    show h'.get? a = some (PySem.W.methodObj (.ref f) (.ref y))
    exact k a _ (.inl rfl) e
  | ext φ => obtain ⟨p, ⟨o, e⟩, st⟩ := x; exact ⟨st _ _ p fun o q => k _ _ (.inl rfl) q, ⟨o, k _ _ (.inl rfl) e⟩, st⟩
theorem HOk.lt (x : HOk P w H h) (e : H a = some o) : a < h.objs.size := (x a o e).lt
theorem HOk.fresh (x : HOk P w H h) (e : h.objs.size ≤ a) : H a = none := by
  cases q : H a with
  | none => rfl
  | some u => exact absurd (Nat.lt_of_lt_of_le (x.lt q) e) (Nat.lt_irrefl _)
theorem HOk.kept (x : HOk P w H h) (k : ∀ b u, h.get? b = some u → h'.get? b = some u) : HOk P w H h' := fun a o e =>
  (x a o e).stay (fun b u _ q => k b u q) (fun _ q => q) fun _ _ q => q
theorem HOk.laid (x : HOk P w H h) (k : ∀ b u, h.get? b = some u → h'.get? b = some u) (hp : h.objs.size ≤ a) (new : ObjOk P w (upd H a o) h' a o) : HOk P w (upd H a o) h' := fun b u e => by
  have hn := x.fresh hp
  by_cases hb : b = a
  · subst hb; rw [upd_same] at e; cases e; exact new
  · rw [upd_ne hb] at e
    exact (x b u e).stay (fun c v _ q => k c v q) (fun c q => by rw [upd_ne (ne_of_none q hn)]; exact q) fun c xs q => by rw [upd_ne (ne_of_none q hn)]; exact q
end
noncomputable def Rd (H : Hp) (a : Addr) (u : HO) : Prop := H a = some u ∨ ∃ o, H a = some (.frz o u)
theorem Rd.of {H : Hp} {a : Addr} {u : HO} (h : H a = some u) : Rd H a u := .inl h
theorem Rd.ok {P : Program} {w : World} {H : Hp} {h : Heap} {a : Addr} {u : HO} (r : Rd H a u) (x : HOk P w H h) : ObjOk P w H h a u := by
  rcases r with r | ⟨o, r⟩
  · exact x a u r
  · obtain ⟨_, q⟩ := x a _ r
    exact q
noncomputable def Mut : Option HO → Prop
  | some (.lst _) => True
  | some (.dK _) => True
  | some (.dT _) => True
  | some (.set _ _) => True
  | some (.ins _ _ _) => True
  | some (.ext _) => True
  | _ => False
section
variable {P : Program} {w : World} {H : Hp} {h h' : Heap} {x e : Addr} {o' : HO}
theorem HOk.write (ok : HOk P w H h) (mu : Mut (H x)) (he : e = x ∨ H e = some (.own x)) (k : ∀ b u, b ≠ e → h.get? b = some u → h'.get? b = some u) (heo : ∃ u, h'.get? e = some u)
    (new : ObjOk P w (upd H x o') h' x o') : HOk P w (upd H x o') h' := fun b u q => by
  have nown : ∀ c y, H c = some (.own y) → c ≠ x := fun c y r z => by subst z; rw [r] at mu; exact mu
  have ntup : ∀ c xs, H c = some (.tup xs) → c ≠ x := fun c xs r z => by subst z; rw [r] at mu; exact mu
  by_cases hb : b = x
  · subst hb; rw [upd_same] at q; cases q; exact new
  · rw [upd_ne hb] at q
    by_cases hbe : b = e
    · have q' : H b = some (.own x) := by
        rcases he with z | z
        · exact absurd (hbe.trans z) hb
        · rw [hbe]; exact z
      rw [q] at q'; cases q'
      obtain ⟨v, hv⟩ := heo
      exact ⟨v, by rw [hbe]; exact hv⟩
    · refine (ok b u q).stay (fun c v hc r => k c v ?_ r) (fun c r => by rw [upd_ne (nown c b r)]; exact r) fun c xs r => by rw [upd_ne (ntup c xs r)]; exact r
      rcases hc with rfl | hc
      · exact hbe
      · rintro rfl
        rcases he with z | z
        · exact nown c b hc z
        · rw [hc] at z; cases z; exact hb rfl
end
structure Un (fs ex : List Addr) (H H' : Hp) (h h' : Heap) : Prop where
  keep : ∀ b o, h.get? b = some o → H b = none → b ∉ fs → b ∉ ex → h'.get? b = some o
  slot : ∀ b o, h.get? b = some o → H b = none → b ∈ fs → b ∉ ex → ∃ sl, h'.get? b = some { o with slots := sl }
  free : ∀ b o, h.get? b = some o → H b = none → b ∉ ex → H' b = none
  there : ∀ b o, h.get? b = some o → b ∉ ex → ∃ o', h'.get? b = some o'
  tups : ∀ b xs, H b = some (.tup xs) → H' b = some (.tup xs)
  frzs : ∀ b o u, H b = some (.frz o u) → H' b = some (.frz o u)
  tbls : ∀ b ps, H b = some (.tbl ps) → ∃ more, H' b = some (.tbl (ps ++ more))
section
variable {fs fs' ex ex' : List Addr} {H H1 H2 : Hp} {h h1 h2 h' : Heap} {a x e : Addr} {o : HO}
theorem Un.any (u : Un fs ex H H1 h h1) {b : Addr} {ob : Obj} (q : h.get? b = some ob) (n : H b = none) (hx : b ∉ ex) : ∃ sl, h1.get? b = some { ob with slots := sl } := by
  by_cases hb : b ∈ fs
  · exact u.slot b ob q n hb hx
  · exact ⟨ob.slots, u.keep b ob q n hb hx⟩
theorem Un.trans (a : Un fs ex H H1 h h1) (b : Un fs ex H1 H2 h1 h2) : Un fs ex H H2 h h2 where
  keep := fun c ob q n hc hx => b.keep c ob (a.keep c ob q n hc hx) (a.free c ob q n hx) hc hx
  slot := fun c ob q n hc hx => by
    obtain ⟨sl, e1⟩ := a.slot c ob q n hc hx
    obtain ⟨sl', e2⟩ := b.slot c _ e1 (a.free c ob q n hx) hc hx
    exact ⟨sl', e2⟩
  free := fun c ob q n hx => by
    obtain ⟨o', e1⟩ := a.there c ob q hx
    exact b.free c o' e1 (a.free c ob q n hx) hx
  there := fun c ob q hx => by
    obtain ⟨o', e1⟩ := a.there c ob q hx
    exact b.there c o' e1 hx
  tups := fun c xs q => b.tups c xs (a.tups c xs q)
  frzs := fun c ob xs q => b.frzs c ob xs (a.frzs c ob xs q)
  tbls := fun c ps q => by
    obtain ⟨m1, e1⟩ := a.tbls c ps q
    obtain ⟨m2, e2⟩ := b.tbls c _ e1
    exact ⟨m1 ++ m2, by rw [e2, Array.append_assoc]⟩
theorem Un.kept (k : ∀ b u, h.get? b = some u → h'.get? b = some u) : Un fs ex H H h h' :=
  ⟨fun b ob q _ _ _ => k b ob q, fun b ob q _ _ _ => ⟨ob.slots, k b ob q⟩, fun _ _ _ n _ => n, fun b ob q _ => ⟨ob, k b ob q⟩, fun _ _ q => q, fun _ _ _ q => q, fun _ ps q => ⟨#[], by rw [q]; simp⟩⟩
theorem Un.refl : Un fs ex H H h h := Un.kept fun _ _ q => q
theorem Un.laid (k : ∀ b u, h.get? b = some u → h'.get? b = some u) (hp : h.objs.size ≤ a) (hn : H a = none) : Un fs ex H (upd H a o) h h' where
  keep := fun b u q _ _ _ => k b u q
  slot := fun b u q _ _ _ => ⟨u.slots, k b u q⟩
  free := fun b u q n _ => by rw [upd_ne (Nat.ne_of_lt (Nat.lt_of_lt_of_le (Heap.lt_size q) hp))]; exact n
  there := fun b u q _ => ⟨u, k b u q⟩
  tups := fun b xs q => by rw [upd_ne (ne_of_none q hn)]; exact q
  frzs := fun b u xs q => by rw [upd_ne (ne_of_none q hn)]; exact q
  tbls := fun b ps q => ⟨#[], by rw [upd_ne (ne_of_none q hn), q]; simp⟩
theorem Un.write (mu : Mut (H x)) (he : e = x ∨ H e = some (.own x)) (k : ∀ b u, b ≠ e → h.get? b = some u → h'.get? b = some u) (heo : ∃ u, h'.get? e = some u) : Un fs ex H (upd H x o) h h' := by
  have hx : ∀ b, H b = none → b ≠ x := fun b n z => by subst z; rw [n] at mu; exact mu
  have hb : ∀ b, H b = none → b ≠ e := fun b n z => by
    subst z
    rcases he with r | r
    · exact hx b n r
    · rw [n] at r; cases r
  have hm : ∀ b u, H b = some u → ¬ Mut (some u) → b ≠ x := fun b u q nm z => by subst z; rw [q] at mu; exact nm mu
  refine ⟨fun b u q n _ _ => k b u (hb b n) q, fun b u q n _ _ => ⟨u.slots, k b u (hb b n) q⟩, fun b u q n _ => by rw [upd_ne (hx b n)]; exact n, fun b u q _ => ?_,
    fun b xs q => by rw [upd_ne (hm b _ q fun z => z)]; exact q, fun b u xs q => by rw [upd_ne (hm b _ q fun z => z)]; exact q, fun b ps q => ⟨#[], by rw [upd_ne (hm b _ q fun z => z), q]; simp⟩⟩
  by_cases hbe : b = e
  · subst hbe; exact heo
  · exact ⟨u, k b u hbe q⟩
theorem Un.mono (u : Un fs ex H H1 h h1) (hs : ∀ b ∈ fs, b ∈ fs') (hx : ∀ b ∈ ex, b ∈ ex') : Un fs' ex' H H1 h h1 :=
  ⟨fun b ob q n hb he => u.keep b ob q n (fun z => hb (hs b z)) fun z => he (hx b z), fun _ _ q n _ he => u.any q n fun z => he (hx _ z), fun b ob q n he => u.free b ob q n fun z => he (hx b z), fun b ob q he => u.there b ob q fun z => he (hx b z), u.tups, u.frzs, u.tbls⟩
end
noncomputable def trk (h : Heap) (H : Hp) : List Addr := (List.range h.objs.size).filter fun a => (H a).isSome
noncomputable def hidT (h : Heap) (H : Hp) : Heap := PySem.W.hideAll h (trk h H)
theorem hidT_size (h : Heap) (H : Hp) : (hidT h H).objs.size = h.objs.size := PySem.W.hideAll_size _ _
theorem hidT_get {h : Heap} {H : Hp} {b : Addr} {o : Obj} (e : h.get? b = some o) (n : H b = none) : (hidT h H).get? b = some o :=
  PySem.W.hideAll_get _ e fun hm => by
    have q : (H b).isSome = true := (List.mem_filter.mp hm).2
    rw [n] at q; simp at q
theorem of_hidT {h : Heap} {H : Hp} {b : Addr} {o : Obj} (e : (hidT h H).get? b = some o) : h.get? b = some o ∧ H b = none := by
  have e' : h.get? b = some o := PySem.W.of_hideAll (trk h H) e
  refine ⟨e', ?_⟩
  cases q : H b with
  | none => rfl
  | some x =>
    have hm : b ∈ trk h H := List.mem_filter.mpr ⟨List.mem_range.mpr (Heap.lt_size e'), by simp [q]⟩
    have z : (hidT h H).get? b = none := PySem.W.hideAll_none (trk h H) hm
    rw [z] at e; cases e
noncomputable def allNews (g h : Heap) (L : Addr) : List (Addr × Obj) := (List.range h.objs.size).filterMap fun a => if a = L ∨ (g.get? a).isSome = true then none else (h.get? a).map fun o => (a, o)
noncomputable def rest (g h : Heap) (L d : Addr) : List (Addr × Obj) := (allNews g h L).filter fun p => decide (p.1 ≠ d)
end L2
namespace L2
open PySem PySem.Spec PyProof.Rows
structure Mod (K : PySem.W.Frag) (mg : Str → Option Value) (base : Heap) : Prop where
  kin : K.In base
  glob : base.Ns mainGlobals mg
  blt : ∃ mb, base.Ns builtinsNs mb ∧ ∀ x : Str, x ≠ "__name__" → mb x = bootBuiltins x
  nolimit : base.NoLimit
/-- the context: a def's body (or a comprehension's block) running. base: fixed through the whole law; s₀, H₀: the entry; outer: the frames whose slots others may change (a def's callers); stack: all frames that run;
   ex: iterators that were made ahead of the entry and are walked here (a comprehension's); fn: the names whose cells were made at the entry (a def: all; a comprehension's block: its own); calm: not within an except suite; pn: pins that every state bears; xe: what is wanted of an exception that leaves the code -/
structure Cx where
  prog : Program
  w : World
  K : PySem.W.Frag
  mg : Str → Option Value
  base : Heap
  A : Around
  N : List Str
  s₀ : Shared
  H₀ : Hp
  env : Env
  outer : List Env
  stack : List Env
  ex : List Addr
  fn : Str → Bool
  calm : Bool
  pn : List (Addr × Obj)
  xe : Value → Shared → Prop
noncomputable def frs (l : List Env) : List Addr := l.filterMap (·.frame)
abbrev Cx.fs (X : Cx) : List Addr := frs X.outer
noncomputable def Vis (sc : Scope) (x : Str) : Prop := sc.names.lookup x = some .local ∨ sc.names.lookup x = some .cell ∨ sc.names.lookup x = some .free
noncomputable def Loc (sc : Scope) (x : Str) : Prop := sc.names.lookup x = some .local ∨ sc.names.lookup x = some .cell
noncomputable def Look (env : Env) (h : Heap) (m : Str → Option Value) (x : Str) (u : Value) : Prop :=
  (env.kindOf x = some .local ∧ m x = some u) ∨ ((env.kindOf x = some .cell ∨ env.kindOf x = some .free) ∧ ∃ c, env.cells.lookup x = some c ∧ h.IsCell c (some u))
structure Cx.Ok (X : Cx) : Prop where
  mod : Mod X.K X.mg X.base
  kind : X.env.scope.kind = .function
  glob : X.env.globals = mainGlobals
  blt : X.env.builtins = builtinsNs
  above : X.s₀.heap.objs.size ≤ X.env.locals
  inj : ∀ x y c, X.env.cells.lookup x = some c → X.env.cells.lookup y = some c → x = y
  has : ∀ x, (X.env.kindOf x = some .cell ∨ X.env.kindOf x = some .free) → ∃ c, X.env.cells.lookup x = some c
  cab : ∀ x c, X.fn x = true → X.env.cells.lookup x = some c → X.s₀.heap.objs.size ≤ c
  hd : X.calm = true → X.A.handled = none
  frames : X.A.frames = some X.stack
  stk : X.stack = X.outer ∨ (X.stack = X.env :: X.outer ∧ X.env.frame = some X.env.locals)
  exf : ∀ b ∈ X.ex, b ≠ X.env.locals ∧ ∀ x c, X.env.cells.lookup x = some c → c ≠ b
  bs : ∀ b o, X.base.get? b = some o → X.s₀.heap.get? b = some o ∧ X.H₀ b = none
  bsz : X.base.objs.size ≤ X.s₀.heap.objs.size
  noex : ∀ b o, X.base.get? b = some o → b ∉ X.ex
  exfs : ∀ b ∈ X.ex, b ∉ X.fs
  funs : X.s₀.heap.FunFrames X.base X.outer
  frf : ∀ b ∈ X.fs, X.H₀ b = none
structure Inv (X : Cx) (pins : List (Addr × Obj)) (σ : List (Option V)) (H : Hp) (s : Shared) : Prop where
  ok : X.Ok
  os : s.os = X.s₀.os
  bare : AllBare s.gens
  base : Un X.fs X.ex X.H₀ H X.s₀.heap s.heap
  loc : ∃ m, s.heap.Ns X.env.locals m ∧ ∀ (i : Nat) (x : Str) (v : V), X.N[i]? = some x → σ[i]? = some (some v) → Vis X.env.scope x → ∃ u, RelV v u ∧ Look X.env s.heap m x u
  cell : ∀ x c, X.env.cells.lookup x = some c → ∃ v, s.heap.IsCell c v
  free : H X.env.locals = none
  freeC : ∀ x c, X.env.cells.lookup x = some c → H c = none
  pin : ∀ p ∈ X.pn ++ pins, s.heap.get? p.1 = some p.2 ∧ H p.1 = none ∧ p.1 ≠ X.env.locals ∧ p.1 ∉ X.fs ∧ ∀ v, p.2.data ≠ .cell v
  hok : HOk X.prog X.w H s.heap
  len : σ.length = X.N.length
section
variable {X : Cx} {pins : List (Addr × Obj)} {σ : List (Option V)} {H H' : Hp} {s : Shared} {h' : Heap}
theorem Cx.Ok.nofr (ok : X.Ok) {b : Addr} {o : Obj} (e : X.base.get? b = some o) : b ∉ X.fs := fun hb => by
  have := (ok.funs.mem hb).1
  rw [e] at this; cases this
theorem Inv.bs (I : Inv X pins σ H s) : ∀ b o, X.base.get? b = some o → s.heap.get? b = some o ∧ H b = none := fun b o e =>
  ⟨I.base.keep b o (I.ok.bs b o e).1 (I.ok.bs b o e).2 (I.ok.nofr e) (I.ok.noex b o e), I.base.free b o (I.ok.bs b o e).1 (I.ok.bs b o e).2 (I.ok.noex b o e)⟩
theorem Inv.bk (I : Inv X pins σ H s) : ∀ b o, X.base.get? b = some o → s.heap.get? b = some o := fun b o e => (I.bs b o e).1
theorem Inv.mod (I : Inv X pins σ H s) : Mod X.K X.mg X.base := I.ok.mod
theorem Inv.kIn (I : Inv X pins σ H s) : X.K.In s.heap := I.ok.mod.kin.keeps I.bk
theorem Inv.nolimit (I : Inv X pins σ H s) : s.heap.NoLimit := I.ok.mod.nolimit.keeps I.bk
theorem Inv.lt (I : Inv X pins σ H s) : X.env.locals < s.heap.objs.size := let ⟨_, hn, _⟩ := I.loc; hn.lt
theorem Inv.sz (I : Inv X pins σ H s) : X.s₀.heap.objs.size ≤ s.heap.objs.size := Nat.le_trans I.ok.above (Nat.le_of_lt I.lt)
theorem Inv.nofs (I : Inv X pins σ H s) {a : Addr} (h : s.heap.objs.size ≤ a) : a ∉ X.fs := fun hb => by
  obtain ⟨_, o, ho, _⟩ := I.ok.funs.mem hb
  exact absurd (Nat.lt_of_lt_of_le (Heap.lt_size ho) (Nat.le_trans I.sz h)) (Nat.lt_irrefl _)
theorem Inv.cne (I : Inv X pins σ H s) : ∀ x c, X.env.cells.lookup x = some c → c ≠ X.env.locals := fun x c e z => by
  obtain ⟨v, o, ho, hd⟩ := I.cell x c e
  obtain ⟨m, ⟨o', es, ep, ho', hd', _⟩, _⟩ := I.loc
  rw [z, ho'] at ho; cases ho; rw [hd'] at hd; cases hd
theorem Inv.funs (I : Inv X pins σ H s) : s.heap.FunFrames X.base X.outer := by
  have all : ∀ (l : List Env), (∀ b ∈ frs l, b ∈ X.fs) → X.s₀.heap.FunFrames X.base l → s.heap.FunFrames X.base l := by
    intro l
    induction l with
    | nil => intro _ _; trivial
    | cons env r ih =>
      intro hs hl
      obtain ⟨hk, ⟨L, o, hf, hn, ho, hd⟩, hr⟩ := hl
      have hL : L ∈ X.fs := hs L (by unfold frs; rw [List.filterMap_cons, hf]; exact List.mem_cons_self)
      obtain ⟨sl, e⟩ := I.base.slot L o ho (I.ok.frf L hL) hL fun z => I.ok.exfs L z hL
      exact ⟨hk, ⟨L, _, hf, hn, e, hd⟩, ih (fun b hb => hs b (by unfold frs; rw [List.filterMap_cons, hf]; exact List.mem_cons_of_mem _ hb)) hr⟩
  exact all X.outer (fun _ hb => hb) I.ok.funs
theorem Inv.stack (I : Inv X pins σ H s) : s.heap.FunFrames X.base X.stack := by
  rcases I.ok.stk with e | ⟨e, hf⟩
  · rw [e]; exact I.funs
  · rw [e]
    obtain ⟨m, hn, _⟩ := I.loc
    refine .cons (by rw [I.ok.kind]; decide) hf hn ?_ I.funs
    exact Heap.get?_none_of_le (Nat.le_trans I.ok.bsz I.ok.above)
theorem Inv.stkSub (I : Inv X pins σ H s) : ∀ b ∈ frs X.stack, b ∈ X.env.locals :: X.fs := fun b hb => by
  rcases I.ok.stk with e | ⟨e, hf⟩
  · rw [e] at hb; exact List.mem_cons_of_mem _ hb
  · rw [e] at hb
    unfold frs at hb
    rw [List.filterMap_cons, hf] at hb
    exact hb
theorem Inv.stkFree (I : Inv X pins σ H s) : ∀ b ∈ frs X.stack, H b = none := fun b hb => by
  rcases List.mem_cons.mp (I.stkSub b hb) with e | hb
  · rw [e]; exact I.free
  · obtain ⟨_, o, ho, _⟩ := I.ok.funs.mem hb
    exact I.base.free b o ho (I.ok.frf b hb) fun z => I.ok.exfs b z hb
theorem Inv.step {g' : Array GenState} {t' : Nat} {d' : Drawn} {ch : List Addr} (I : Inv X pins σ H s)
    (hch : ∀ b ∈ ch, (b ∈ X.ex ∨ X.s₀.heap.objs.size ≤ b) ∧ b ≠ X.env.locals ∧ (∀ x c, X.env.cells.lookup x = some c → c ≠ b) ∧ ∀ p ∈ X.pn ++ pins, p.1 ≠ b)
    (keep : ∀ b o, b ≠ X.env.locals → b ∉ X.fs → b ∉ ch → s.heap.get? b = some o → H b = none → h'.get? b = some o)
    (slot : ∀ b o, b ≠ X.env.locals → b ∈ X.fs → b ∉ ch → s.heap.get? b = some o → H b = none → ∃ sl, h'.get? b = some { o with slots := sl }) (free : ∀ b o, b ∉ ch → s.heap.get? b = some o → H b = none → H' b = none)
    (there : ∀ b o, b ∉ ch → s.heap.get? b = some o → ∃ o', h'.get? b = some o')
    (tups : ∀ b xs, H b = some (.tup xs) → H' b = some (.tup xs)) (frzs : ∀ b o u, H b = some (.frz o u) → H' b = some (.frz o u)) (tbls : ∀ b ps, H b = some (.tbl ps) → ∃ more, H' b = some (.tbl (ps ++ more)))
    (ns : ∀ m, s.heap.Ns X.env.locals m → h'.Ns X.env.locals m) (hok : HOk X.prog X.w H' h') (hg : AllBare g') :
    Inv X pins σ H' { s with heap := h', gens := g', drawn := d', toks := t' } := by
  have neL : ∀ b o, X.s₀.heap.get? b = some o → b ≠ X.env.locals := fun b o e => Nat.ne_of_lt (Nat.lt_of_lt_of_le (Heap.lt_size e) I.ok.above)
  have neC : ∀ b o, X.s₀.heap.get? b = some o → b ∉ X.ex → b ∉ ch := fun b o e hx hb => by
    rcases (hch b hb).1 with z | z
    · exact hx z
    · exact absurd (Nat.lt_of_lt_of_le (Heap.lt_size e) z) (Nat.lt_irrefl _)
  have cellK : ∀ x c, X.env.cells.lookup x = some c → ∀ v, s.heap.IsCell c v → h'.IsCell c v := fun x c e v ⟨o, ho, hd⟩ => by
    have nch : c ∉ ch := fun z => (hch c z).2.2.1 x c e rfl
    by_cases hc : c ∈ X.fs
    · obtain ⟨sl, q⟩ := slot c o (I.cne x c e) hc nch ho (I.freeC x c e)
      exact ⟨_, q, hd⟩
    · exact ⟨o, keep c o (I.cne x c e) hc nch ho (I.freeC x c e), hd⟩
  refine ⟨I.ok, I.os, hg, ⟨fun b o e n hb hx => ?_, fun b o e n hb hx => ?_, fun b o e n hx => ?_, fun b o e hx => ?_, fun b xs e => tups b xs (I.base.tups b xs e), fun b o xs e => frzs b o xs (I.base.frzs b o xs e), fun b ps e => ?_⟩, ?_, fun x c e => ?_, ?_, fun x c e => ?_, fun p hp => ?_, hok, I.len⟩
  · exact keep b o (neL b o e) hb (neC b o e hx) (I.base.keep b o e n hb hx) (I.base.free b o e n hx)
  · obtain ⟨sl, e1⟩ := I.base.slot b o e n hb hx
    obtain ⟨sl', e2⟩ := slot b _ (neL b o e) hb (neC b o e hx) e1 (I.base.free b o e n hx)
    exact ⟨sl', e2⟩
  · obtain ⟨o', e1⟩ := I.base.there b o e hx
    exact free b o' (neC b o e hx) e1 (I.base.free b o e n hx)
  · obtain ⟨o', e1⟩ := I.base.there b o e hx
    exact there b o' (neC b o e hx) e1
  · obtain ⟨m1, e1⟩ := I.base.tbls b ps e
    obtain ⟨m2, e2⟩ := tbls b _ e1
    exact ⟨m1 ++ m2, by rw [e2, Array.append_assoc]⟩
  · obtain ⟨m, hn, hl⟩ := I.loc
    refine ⟨m, ns m hn, fun i x v e1 e2 e3 => ?_⟩
    obtain ⟨u, r, l⟩ := hl i x v e1 e2 e3
    refine ⟨u, r, ?_⟩
    rcases l with l | ⟨k, c, e, z⟩
    · exact .inl l
    · exact .inr ⟨k, c, e, cellK x c e _ z⟩
  · obtain ⟨v, z⟩ := I.cell x c e
    exact ⟨v, cellK x c e v z⟩
  · obtain ⟨m, ⟨o, _, _, ho, _⟩, _⟩ := I.loc
    exact free _ o (fun z => (hch _ z).2.1 rfl) ho I.free
  · obtain ⟨v, o, ho, hd⟩ := I.cell x c e
    exact free c o (fun z => (hch c z).2.2.1 x c e rfl) ho (I.freeC x c e)
  · obtain ⟨e, n, ne, nf, d⟩ := I.pin p hp
    have nch : p.1 ∉ ch := fun z => (hch p.1 z).2.2.2 p hp rfl
    exact ⟨keep p.1 p.2 ne nf nch e n, free p.1 p.2 nch e n, ne, nf, d⟩
theorem Inv.un {t' : Nat} (I : Inv X pins σ H s) (u : Un X.fs [] H H' s.heap h') (hok : HOk X.prog X.w H' h') : Inv X pins σ H' { s with heap := h', toks := t' } := by
  obtain ⟨m, ⟨o, es, ep, ho, r⟩, _⟩ := id I.loc
  obtain ⟨sl, hL⟩ := u.any ho I.free (by simp)
  exact I.step (g' := s.gens) (d' := s.drawn) (ch := []) (fun _ z => nomatch z) (fun b o _ hb _ e n => u.keep b o e n hb (by simp)) (fun b o _ hb _ e n => u.slot b o e n hb (by simp)) (fun b o _ e n => u.free b o e n (by simp)) (fun b o _ e => u.there b o e (by simp)) u.tups u.frzs u.tbls (fun m' hm => by
    obtain ⟨o', es', ep', ho', r'⟩ := hm
    rw [ho] at ho'; cases ho'
    exact ⟨_, es', ep', hL, r'⟩) hok I.bare
theorem Inv.call {g' : Array GenState} {t' : Nat} {d' : Drawn} {ch : List Addr} (I : Inv X pins σ H s) (u : Un (frs X.stack) ch H H' s.heap h') (hok : HOk X.prog X.w H' h') (hg : AllBare g')
    (hch : ∀ b ∈ ch, (b ∈ X.ex ∨ X.s₀.heap.objs.size ≤ b) ∧ b ≠ X.env.locals ∧ (∀ x c, X.env.cells.lookup x = some c → c ≠ b) ∧ ∀ p ∈ X.pn ++ pins, p.1 ≠ b) :
    Inv X pins σ H' { s with heap := h', gens := g', drawn := d', toks := t' } := by
  obtain ⟨m, ⟨o, es, ep, ho, r⟩, _⟩ := id I.loc
  obtain ⟨sl, hL⟩ := u.any ho I.free fun z => (hch _ z).2.1 rfl
  exact I.step (ch := ch) hch (fun b o hL hb hc e n => u.keep b o e n (fun z => (List.mem_cons.mp (I.stkSub b z)).elim hL hb) hc) (fun b o _ _ hc e n => u.any e n hc) (fun b o hc e n => u.free b o e n hc) (fun b o hc e => u.there b o e hc) u.tups u.frzs u.tbls (fun m' hm => by
    obtain ⟨o', es', ep', ho', r'⟩ := hm
    rw [ho] at ho'; cases ho'
    exact ⟨_, es', ep', hL, r'⟩) hok hg
theorem Inv.turned {t' : Nat} {it : Addr} (I : Inv X pins σ H s) (k : ∀ b o, b ≠ it → s.heap.get? b = some o → h'.get? b = some o) (hn : H it = none) (hL : it ≠ X.env.locals)
    (h1 : it ∈ X.ex ∨ X.s₀.heap.objs.size ≤ it) (h2 : ∀ x c, X.env.cells.lookup x = some c → c ≠ it) (h3 : ∀ p ∈ X.pn ++ pins, p.1 ≠ it) : Inv X pins σ H { s with heap := h', toks := t' } := by
  have nit : ∀ b u, H b = some u → b ≠ it := fun b u e z => by rw [z, hn] at e; cases e
  refine I.step (g' := s.gens) (d' := s.drawn) (ch := [it]) (fun b hb => ?_) (fun b o _ _ hc e _ => k b o (fun z => hc (by simp [z])) e) (fun b o _ _ hc e _ => ⟨o.slots, k b o (fun z => hc (by simp [z])) e⟩) (fun _ _ _ _ n => n)
    (fun b o hc e => ⟨o, k b o (fun z => hc (by simp [z])) e⟩) (fun _ _ e => e) (fun _ _ _ e => e) (fun b ps e => ⟨#[], by rw [e]; simp⟩) (fun m hm => ?_) (fun b u e => ?_) I.bare
  · have e : b = it := by simpa using hb
    subst e
    exact ⟨h1, hL, h2, h3⟩
  · obtain ⟨o, es, ep, ho, r⟩ := hm
    exact ⟨o, es, ep, k _ o (Ne.symm hL) ho, r⟩
  · refine (I.hok b u e).stay (fun c v hc q => k c v ?_ q) (fun _ q => q) fun _ _ q => q
    rcases hc with z | z
    · rw [z]; exact nit b u e
    · exact nit c _ z
theorem Inv.tok (I : Inv X pins σ H s) (t : Nat) : Inv X pins σ H { s with toks := t } := I.un (h' := s.heap) (t' := t) Un.refl I.hok
theorem Inv.kept {t' : Nat} (I : Inv X pins σ H s) (k : ∀ b u, s.heap.get? b = some u → h'.get? b = some u) : Inv X pins σ H { s with heap := h', toks := t' } := I.un (Un.kept k) (I.hok.kept k)
theorem Inv.laid {a : Addr} {o : HO} {t' : Nat} (I : Inv X pins σ H s) (k : ∀ b u, s.heap.get? b = some u → h'.get? b = some u) (hp : s.heap.objs.size ≤ a) (new : ObjOk X.prog X.w (upd H a o) h' a o) :
    Inv X pins σ (upd H a o) { s with heap := h', toks := t' } := I.un (Un.laid k hp (I.hok.fresh hp)) (I.hok.laid k hp new)
theorem Inv.write {x e : Addr} {o : HO} {t' : Nat} (I : Inv X pins σ H s) (mu : Mut (H x)) (he : e = x ∨ H e = some (.own x)) (k : ∀ b u, b ≠ e → s.heap.get? b = some u → h'.get? b = some u) (heo : ∃ u, h'.get? e = some u)
    (new : ObjOk X.prog X.w (upd H x o) h' x o) : Inv X pins σ (upd H x o) { s with heap := h', toks := t' } := I.un (Un.write mu he k heo) (I.hok.write mu he k heo new)
theorem Inv.weak {σ' : List (Option V)} (I : Inv X pins σ H s) (hl : σ'.length = σ.length) (w : ∀ (i : Nat) v, σ'[i]? = some (some v) → σ[i]? = some (some v)) : Inv X pins σ' H s :=
  ⟨I.ok, I.os, I.bare, I.base, let ⟨m, hn, hl'⟩ := I.loc; ⟨m, hn, fun i x v e1 e2 e3 => hl' i x v e1 (w i v e2) e3⟩, I.cell, I.free, I.freeC, I.pin, I.hok, hl.trans I.len⟩
theorem Inv.pins_of {pins' : List (Addr × Obj)} (I : Inv X pins σ H s) (h : ∀ p ∈ pins', s.heap.get? p.1 = some p.2 ∧ H p.1 = none ∧ p.1 ≠ X.env.locals ∧ p.1 ∉ X.fs ∧ ∀ v, p.2.data ≠ .cell v) : Inv X pins' σ H s :=
  ⟨I.ok, I.os, I.bare, I.base, I.loc, I.cell, I.free, I.freeC, fun p hp => (List.mem_append.mp hp).elim (fun z => I.pin p (List.mem_append_left _ z)) (h p), I.hok, I.len⟩
theorem nodup_ix {N : List Str} (hN : N.Nodup) {i j : Nat} {x : Str} (a : N[i]? = some x) (b : N[j]? = some x) : i = j := by
  obtain ⟨h1, e1⟩ := List.getElem?_eq_some_iff.mp a
  obtain ⟨h2, e2⟩ := List.getElem?_eq_some_iff.mp b
  exact (List.getElem_inj hN).mp (e1.trans e2.symm)
theorem store_ok2 {M : Model} {A : Around} {E : Value → Shared → Prop} {i : Nat} {x : Str} {v : V} {u : Value} {Q : Unit → Shared → Prop} (I : Inv X pins σ H s) (hN : X.N.Nodup) (hi : X.N[i]? = some x) (hx : Loc X.env.scope x) (r : RelV v u)
    (h : ∀ s', Inv X pins (σ.set i (some v)) H s' → (∃ a, Heap.SameBut a s.heap s'.heap ∧ (a = X.env.locals ∨ X.env.cells.lookup x = some a)) → Q () s') (hf : X.fn x = true ∨ X.env.scope.names.lookup x = some .local := by first | exact .inl rfl | exact .inr rfl | assumption) : wpAny M A (storeName X.env x u) Q E s := by
  obtain ⟨m, hn, hl⟩ := id I.loc
  have hcls : (X.env.scope.kind == .class || (X.env.scope.kind == .module && X.env.locals != X.env.globals)) = false := by rw [I.ok.kind]; rfl
  have hiσ : i < σ.length := by rw [I.len]; exact (List.getElem?_eq_some_iff.mp hi).1
  have cne := I.cne
  have tracked : ∀ {a : Addr} {h' : Heap}, (∃ o, s.heap.get? a = some o ∧ H a = none) → Heap.SameBut a s.heap h' → HOk X.prog X.w H h' := fun {a h'} ha hs b ob e => by
    obtain ⟨_, _, hfree⟩ := ha
    refine (I.hok b ob e).stay (fun c w' hc q => (hs.2 c ?_).trans q) (fun _ q => q) fun _ _ q => q
    rintro rfl
    rcases hc with rfl | hc
    · rw [hfree] at e; cases e
    · rw [hfree] at hc; cases hc
  rcases hx with hk | hk
  · refine wpAny_storeName_local hk hn (fun h' hn' hs => ?_) hcls
    obtain ⟨oL, _, _, hoL, _⟩ := id hn
    refine h _ ⟨I.ok, I.os, I.bare, ⟨fun b o e n hb hx => ?_, fun b o e n hb hx => ?_, I.base.free, fun b o e hx => ?_, I.base.tups, I.base.frzs, I.base.tbls⟩, ⟨_, hn', fun j y v' e1 e2 e3 => ?_⟩, fun y c e => ?_, I.free, I.freeC, fun p hp => ?_, tracked ⟨oL, hoL, I.free⟩ hs, by simpa using I.len⟩ ⟨_, hs, .inl rfl⟩
    · exact (hs.2 b (Nat.ne_of_lt (Nat.lt_of_lt_of_le (Heap.lt_size e) I.ok.above))).trans (I.base.keep b o e n hb hx)
    · obtain ⟨sl, e1⟩ := I.base.slot b o e n hb hx
      exact ⟨sl, (hs.2 b (Nat.ne_of_lt (Nat.lt_of_lt_of_le (Heap.lt_size e) I.ok.above))).trans e1⟩
    · obtain ⟨o', e1⟩ := I.base.there b o e hx
      exact ⟨o', (hs.2 b (Nat.ne_of_lt (Nat.lt_of_lt_of_le (Heap.lt_size e) I.ok.above))).trans e1⟩
    · by_cases hj : j = i
      · subst hj
        rw [hi] at e1; cases e1
        rw [List.getElem?_set_self hiσ] at e2
        cases e2
        exact ⟨u, r, .inl ⟨hk, by simp⟩⟩
      · rw [List.getElem?_set_ne (Ne.symm hj)] at e2
        obtain ⟨u', r', q⟩ := hl j y v' e1 e2 e3
        refine ⟨u', r', ?_⟩
        rcases q with ⟨k, e⟩ | ⟨k, c, e, z⟩
        · refine .inl ⟨k, ?_⟩
          have : y ≠ x := fun e => hj (nodup_ix hN e1 (e ▸ hi))
          simp [this, e]
        · exact .inr ⟨k, c, e, z.sameBut hs (cne y c e)⟩
    · obtain ⟨w', z⟩ := I.cell y c e
      exact ⟨w', z.sameBut hs (cne y c e)⟩
    · obtain ⟨e, n, ne, nf, d⟩ := I.pin p hp
      exact ⟨(hs.2 p.1 ne).trans e, n, ne, nf, d⟩
  · have hfn : X.fn x = true := by
      rcases hf with z | z
      · exact z
      · rw [z] at hk; cases hk
    obtain ⟨c, hc⟩ := I.ok.has x (.inl hk)
    obtain ⟨w', z⟩ := I.cell x c hc
    refine wpAny_storeName_cell I.ok.kind hk hc z (fun h' hc' hs => ?_)
    obtain ⟨oc, hoc, hocd⟩ := id z
    refine h { s with heap := h' } ⟨I.ok, I.os, I.bare, ⟨fun b o e n hb hx => ?_, fun b o e n hb hx => ?_, I.base.free, fun b o e hx => ?_, I.base.tups, I.base.frzs, I.base.tbls⟩, ⟨m, hn.sameBut hs (Ne.symm (cne x c hc)), fun j y v' e1 e2 e3 => ?_⟩, fun y c' e => ?_, I.free, I.freeC, fun p hp => ?_, tracked ⟨oc, hoc, I.freeC x c hc⟩ hs, by simpa using I.len⟩ ⟨c, hs, .inr hc⟩
    · exact (hs.2 b (Nat.ne_of_lt (Nat.lt_of_lt_of_le (Heap.lt_size e) (I.ok.cab x c hfn hc)))).trans (I.base.keep b o e n hb hx)
    · obtain ⟨sl, e1⟩ := I.base.slot b o e n hb hx
      exact ⟨sl, (hs.2 b (Nat.ne_of_lt (Nat.lt_of_lt_of_le (Heap.lt_size e) (I.ok.cab x c hfn hc)))).trans e1⟩
    · obtain ⟨o', e1⟩ := I.base.there b o e hx
      exact ⟨o', (hs.2 b (Nat.ne_of_lt (Nat.lt_of_lt_of_le (Heap.lt_size e) (I.ok.cab x c hfn hc)))).trans e1⟩
    · by_cases hj : j = i
      · subst hj
        rw [hi] at e1; cases e1
        rw [List.getElem?_set_self hiσ] at e2
        cases e2
        exact ⟨u, r, .inr ⟨.inl hk, c, hc, hc'⟩⟩
      · rw [List.getElem?_set_ne (Ne.symm hj)] at e2
        obtain ⟨u', r', q⟩ := hl j y v' e1 e2 e3
        refine ⟨u', r', ?_⟩
        rcases q with q | ⟨k, c', e, z'⟩
        · exact .inl q
        · refine .inr ⟨k, c', e, z'.sameBut hs ?_⟩
          rintro rfl
          exact hj (nodup_ix hN e1 (I.ok.inj _ _ _ e hc ▸ hi))
    · by_cases hcc : c' = c
      · subst hcc; exact ⟨_, hc'⟩
      · obtain ⟨w2, z2⟩ := I.cell y c' e
        exact ⟨w2, z2.sameBut hs hcc⟩
    · obtain ⟨e, n, ne, nf, d⟩ := I.pin p hp
      refine ⟨(hs.2 p.1 ?_).trans e, n, ne, nf, d⟩
      intro q
      rw [q, hoc] at e
      have q' : oc = p.2 := Option.some.inj e
      exact d w' (by rw [← q']; exact hocd)
theorem store_ok {M : Model} {A : Around} {E : Value → Shared → Prop} {i : Nat} {x : Str} {v : V} {u : Value} {Q : Unit → Shared → Prop} (I : Inv X pins σ H s) (hN : X.N.Nodup) (hi : X.N[i]? = some x) (hx : Loc X.env.scope x) (r : RelV v u)
    (h : ∀ s', Inv X pins (σ.set i (some v)) H s' → Q () s') (hf : X.fn x = true ∨ X.env.scope.names.lookup x = some .local := by first | exact .inl rfl | exact .inr rfl | assumption) : wpAny M A (storeName X.env x u) Q E s :=
  store_ok2 I hN hi hx r (fun s' I' _ => h s' I') hf
theorem Inv.call' {s' : Shared} {ch : List Addr} (I : Inv X pins σ H s) (ho : s'.os = s.os) (u : Un (frs X.stack) ch H H' s.heap s'.heap) (hok : HOk X.prog X.w H' s'.heap) (hg : AllBare s'.gens)
    (hch : ∀ b ∈ ch, (b ∈ X.ex ∨ X.s₀.heap.objs.size ≤ b) ∧ b ≠ X.env.locals ∧ (∀ x c, X.env.cells.lookup x = some c → c ≠ b) ∧ ∀ p ∈ X.pn ++ pins, p.1 ≠ b) : Inv X pins σ H' s' := by
  obtain ⟨h', g', d', t', o'⟩ := s'
  have e : o' = s.os := ho
  subst e
  exact I.call (g' := g') (t' := t') (d' := d') u hok hg hch
end
abbrev XK := Value → Option Addr → Hp → Prop
abbrev St := List (Option V)
abbrev VK := V → Hp → Prop
abbrev TE := St → Hp → VK → Prop
abbrev TT := St → Hp → (Bool → Hp → Prop) → Prop
abbrev TA := St → Hp → (List V → Hp → Prop) → Prop
structure Ends where
  nx : St → Hp → Prop
  rt : VK
  bk : St → Hp → Prop := fun _ _ => False
  ct : St → Hp → Prop := fun _ _ => False
abbrev TS := Ends → St → Hp → Prop
noncomputable def EP (X : Cx) (pins : List (Addr × Obj)) (σ : St) (Q : VK) (u : Value) (s' : Shared) : Prop := ∃ v H', Inv X pins σ H' s' ∧ RelV v u ∧ Q v H'
noncomputable def TP (X : Cx) (pins : List (Addr × Obj)) (σ : St) (Q : Bool → Hp → Prop) (b : Bool) (s' : Shared) : Prop := ∃ H', Inv X pins σ H' s' ∧ Q b H'
noncomputable def AP (X : Cx) (pins : List (Addr × Obj)) (σ : St) (Q : List V → Hp → Prop) (us : List Value) (s' : Shared) : Prop := ∃ vs H', Inv X pins σ H' s' ∧ Vals vs us ∧ Q vs H'
noncomputable def SP (X : Cx) (pins : List (Addr × Obj)) (D : Ends) (f : Flow) (s' : Shared) : Prop :=
  match f with
  | .next => ∃ σ' H', Inv X pins σ' H' s' ∧ D.nx σ' H'
  | .brk => ∃ σ' H', Inv X pins σ' H' s' ∧ D.bk σ' H'
  | .cont => ∃ σ' H', Inv X pins σ' H' s' ∧ D.ct σ' H'
  | .ret u => ∃ v σ' H', Inv X pins σ' H' s' ∧ RelV v u ∧ D.rt v H'
noncomputable def PE (X : Cx) (e : Expr) (t : TE) : Prop :=
  ∀ (pins : List (Addr × Obj)) (s : Shared) (σ : St) (H : Hp) (Q : VK), Inv X pins σ H s → t σ H Q → wpAny (model X.prog X.w) X.A (eval e X.env) (EP X pins σ Q) X.xe s
noncomputable def PT (X : Cx) (e : Expr) (t : TT) : Prop :=
  ∀ (pins : List (Addr × Obj)) (s : Shared) (σ : St) (H : Hp) (Q : Bool → Hp → Prop), Inv X pins σ H s → t σ H Q → wpAny (model X.prog X.w) X.A (isTrue e X.env (eval e X.env)) (TP X pins σ Q) X.xe s
noncomputable def PW (X : Cx) (e : Expr) (t : TT) : Prop :=
  ∀ (whole : Sem Value) (pins : List (Addr × Obj)) (s : Shared) (σ : St) (H : Hp) (Q : Bool → Hp → Prop), Inv X pins σ H s → t σ H Q → wpAny (model X.prog X.w) X.A (isTrue e X.env whole) (TP X pins σ Q) X.xe s
theorem PW.pt {X : Cx} {e : Expr} {t : TT} (h : PW X e t) : PT X e t := h _
noncomputable def PA (X : Cx) (es : List Expr) (t : TA) : Prop :=
  ∀ (pos : Pos) (pins : List (Addr × Obj)) (s : Shared) (σ : St) (H : Hp) (Q : List V → Hp → Prop), Inv X pins σ H s → t σ H Q → wpAny (model X.prog X.w) X.A (spliced (backTo pos (starEach es X.env))) (AP X pins σ Q) X.xe s
noncomputable def PS (X : Cx) (st : Stmt) (t : TS) : Prop :=
  ∀ (pins : List (Addr × Obj)) (s : Shared) (σ : St) (H : Hp) (D : Ends), Inv X pins σ H s → t D σ H → wpAny (model X.prog X.w) X.A (exec st X.env) (SP X pins D) X.xe s
noncomputable def PSs (X : Cx) (st : List Stmt) (t : TS) : Prop :=
  ∀ (pins : List (Addr × Obj)) (s : Shared) (σ : St) (H : Hp) (D : Ends), Inv X pins σ H s → t D σ H → wpAny (model X.prog X.w) X.A (execs st X.env) (SP X pins D) X.xe s
theorem thn {α : Type} {t : Sem α} {Q Q' : α → Shared → Prop} {M : Model} {A : Around} {E : Value → Shared → Prop} {s : Shared} (h : wpAny M A t Q E s) (hQ : ∀ a s, Q a s → Q' a s) : wpAny M A t Q' E s := wpAny_mono h hQ fun _ _ x => x
end L2
namespace L2
open PySem PySem.Spec PyProof.Rows
section
variable {X : Cx}
noncomputable def tVar (i : Nat) : TE := fun σ H Q => ∃ v, σ[i]? = some (some v) ∧ Q v H
noncomputable def tC (v : V) : TE := fun _ H Q => Q v H
theorem pe_var {i : Nat} {x : Str} {pos : Pos} (hN : X.N[i]? = some x) (hv : Vis X.env.scope x) (hd : (x == ("__debug__" : Str)) = false := by decide) (hcd : (x == ("__classdict__" : Str)) = false := by decide) : PE X (.Name x pos) (tVar i) := by
  intro pins s σ H Q I h
  obtain ⟨v, e, h⟩ := h
  obtain ⟨m, hn, hl⟩ := I.loc
  obtain ⟨u, r, l⟩ := hl i x v hN e hv
  have fin : EP X pins σ Q u s := ⟨v, H, I, r, h⟩
  rcases l with ⟨hk, hm⟩ | ⟨hk, c, hc, hcell⟩
  · exact wpAny_Name (wpAny_loadName_local I.ok.kind hk hn hm fin) hd
  · rcases hk with hk | hk
    · exact wpAny_Name (wpAny_loadName_cell I.ok.kind hk hc hcell fin) hd
    · exact wpAny_Name (wpAny_loadName_free I.ok.kind hk hc hcell fin hcd) hd
theorem pe_int {i j pos} : PE X (.Constant (.int i) j pos) (tC (.int i)) := fun _ _ _ H _ I h => wpAny_Constant_int ⟨.int i, H, I.tok _, ⟨_, rfl⟩, h⟩
theorem pe_bl {b j pos} : PE X (.Constant (.bool b) j pos) (tC (.bl b)) := fun _ _ _ H _ I h => Constant_bool ⟨.bl b, H, I, rfl, h⟩
theorem pe_non {j pos} : PE X (.Constant .none j pos) (tC .non) := fun _ _ _ H _ I h => Constant_none ⟨.non, H, I, rfl, h⟩
theorem pe_str {x j pos} : PE X (.Constant (.str x) j pos) (tC (.str x)) := fun _ _ _ H _ I h => Calls.Constant_str ⟨.str x, H, I.tok _, ⟨_, rfl⟩, h⟩
noncomputable def Gl (X : Cx) (x : Str) : Prop := X.env.kindOf x = some .globalImplicit
theorem ld_glob {E : Value → Shared → Prop} {pins : List (Addr × Obj)} {s : Shared} {σ : St} {H : Hp} {x : Str} {u : Value} {pos : Pos} {Q : Value → Shared → Prop} (I : Inv X pins σ H s) (hg : Gl X x) (hm : X.mg x = some u) (h : Q u s)
    (hd : (x == ("__debug__" : Str)) = false := by decide) : wpAny (model X.prog X.w) X.A (eval (.Name x pos) X.env) Q E s :=
  Calls.Name_function_global I.ok.kind hg (Calls.loadGlobal_global (by rw [I.ok.glob]; exact I.mod.glob.keeps I.bk) hm h) hd
theorem ld_blt {E : Value → Shared → Prop} {pins : List (Addr × Obj)} {s : Shared} {σ : St} {H : Hp} {x : Str} {u : Value} {pos : Pos} {Q : Value → Shared → Prop} (I : Inv X pins σ H s) (hg : Gl X x) (hm : X.mg x = none) (hv : bootBuiltins x = some u) (h : Q u s)
    (hn : x ≠ "__name__" := by decide) (hd : (x == ("__debug__" : Str)) = false := by decide) : wpAny (model X.prog X.w) X.A (eval (.Name x pos) X.env) Q E s := by
  obtain ⟨mb, h1, h2⟩ := I.mod.blt
  exact Calls.Name_function_global I.ok.kind hg (Calls.loadGlobal_builtin (by rw [I.ok.glob]; exact I.mod.glob.keeps I.bk) hm (by rw [I.ok.blt]; exact h1.keeps I.bk) ((h2 x hn).trans hv) h) hd
theorem pe_glob {x : Str} {v : V} {u : Value} {pos : Pos} (hg : Gl X x) (hm : X.mg x = some u) (r : RelV v u) (hd : (x == ("__debug__" : Str)) = false := by decide) : PE X (.Name x pos) (tC v) :=
  fun _ _ _ H _ I h => ld_glob I hg hm ⟨v, H, I, r, h⟩ hd
theorem pe_bltn {x : Str} {v : V} {u : Value} {pos : Pos} (hg : Gl X x) (hm : X.mg x = none) (hv : bootBuiltins x = some u) (r : RelV v u) (hn : x ≠ "__name__" := by decide) (hd : (x == ("__debug__" : Str)) = false := by decide) : PE X (.Name x pos) (tC v) :=
  fun _ _ _ H _ I h => ld_blt I hg hm hv ⟨v, H, I, r, h⟩ hn hd
variable {a b : Expr} {ta tb : TE} {pos : Pos}
variable {tA tB' : TT} {rest : List Expr}
noncomputable def tAnd (t u : TT) : TT := fun σ H Q => t σ H fun c H1 => if c = true then u σ H1 Q else Q false H1
noncomputable def tOr (t u : TT) : TT := fun σ H Q => t σ H fun c H1 => if c = true then Q true H1 else u σ H1 Q
noncomputable def tNot (t : TT) : TT := fun σ H Q => t σ H fun c H1 => Q (!c) H1
theorem pw_and1 (ha : PT X a tA) : PW X (.BoolOp .And [a] pos) tA := by
  intro wh pins s σ H Q I h
  refine isTrue_and (thn (ha pins s σ H Q I h) fun c s1 e => ?_)
  cases c with
  | true => exact isTrue_and_nil e
  | false => exact e
theorem pw_or1 (ha : PT X a tA) : PW X (.BoolOp .Or [a] pos) tA := by
  intro wh pins s σ H Q I h
  refine isTrue_or (thn (ha pins s σ H Q I h) fun c s1 e => ?_)
  cases c with
  | false => exact isTrue_or_nil e
  | true => exact e
theorem pw_and (ha : PT X a tA) (hb : PW X (.BoolOp .And (b :: rest) pos) tB') : PW X (.BoolOp .And (a :: b :: rest) pos) (tAnd tA tB') := by
  intro wh pins s σ H Q I h
  refine isTrue_and (thn (ha pins s σ H _ I h) fun c s1 ⟨H1, I1, q1⟩ => ?_)
  cases c with
  | true => exact hb wh pins s1 σ H1 Q I1 q1
  | false => exact ⟨H1, I1, q1⟩
theorem pw_or (ha : PT X a tA) (hb : PW X (.BoolOp .Or (b :: rest) pos) tB') : PW X (.BoolOp .Or (a :: b :: rest) pos) (tOr tA tB') := by
  intro wh pins s σ H Q I h
  refine isTrue_or (thn (ha pins s σ H _ I h) fun c s1 ⟨H1, I1, q1⟩ => ?_)
  cases c with
  | true => exact ⟨H1, I1, q1⟩
  | false => exact hb wh pins s1 σ H1 Q I1 q1
theorem pt_not (ha : PT X a tA) : PT X (.UnaryOp .Not a pos) (tNot tA) := by
  intro pins s σ H Q I h
  exact isTrue_not (ha pins s σ H (fun c H1 => Q (!c) H1) I h)
noncomputable def tAndV (ta tb : TE) : TE := fun σ H Q => ta σ H fun x H1 => ∃ c, x = .bl c ∧ if c = true then tb σ H1 Q else Q (.bl false) H1
noncomputable def tNotV (ta : TE) : TE := fun σ H Q => ta σ H fun x H1 => ∃ c, x = .bl c ∧ Q (.bl (!c)) H1
theorem pe_one {op} {t : TE} (h : PE X a t) : PE X (.BoolOp op [a] pos) t := fun pins s σ H Q I hw => BoolOp_one (h pins s σ H Q I hw)
theorem pe_and (ha : PE X a ta) (hb : PE X (.BoolOp .And (b :: rest) pos) tb) : PE X (.BoolOp .And (a :: b :: rest) pos) (tAndV ta tb) := by
  intro pins s σ H Q I h
  refine BoolOp_and (thn (ha pins s σ H _ I h) fun v s1 ⟨x, H1, I1, r1, q1⟩ => ?_)
  obtain ⟨c, rfl, q1⟩ := q1
  cases r1
  refine wpAny_truthy_bool ?_
  cases c with
  | true => exact hb pins s1 σ H1 Q I1 q1
  | false => exact ⟨.bl false, H1, I1, rfl, q1⟩
theorem pe_not (ha : PE X a ta) : PE X (.UnaryOp .Not a pos) (tNotV ta) := by
  intro pins s σ H Q I h
  refine UnaryOp_ (thn (ha pins s σ H _ I h) fun v s1 ⟨x, H1, I1, r1, q1⟩ => ?_)
  obtain ⟨c, rfl, q1⟩ := q1
  cases r1
  exact not_of (wpAny_truthy_bool ⟨.bl (!c), H1, I1, rfl, q1⟩)
end
end L2
namespace L2
open PySem PySem.Spec PyProof.Rows
noncomputable def SqL (K : PySem.W.Frag) (H : Hp) (a : Addr) (xs : List V) : Prop :=
  Rd H a (.lst xs) ∨
    ∃ (o : Obj) (its : Array Value) (n : Nat), K.lookup a = some o ∧ o.cls = .type "list" ∧ o.dict = none ∧ o.data = .seq its n ∧ its.size ≤ sizeLine ∧ Vals xs its.toList
noncomputable def SqT (K : PySem.W.Frag) (H : Hp) (a : Addr) (xs : List V) : Prop :=
  Rd H a (.tup xs) ∨
    ∃ (o : Obj) (its : Array Value) (n : Nat), K.lookup a = some o ∧ o.cls = .type "tuple" ∧ o.data = .seq its n ∧ its.size ≤ sizeLine ∧ Vals xs its.toList
noncomputable def absV : Value → Option V
  | .none => some .non
  | .bool b => some (.bl b)
  | .int i _ => some (.int i)
  | .str x _ => some (.str x)
  | .bytes b _ => some (.byt b)
  | .float b _ => some (.flt b)
  | .ref a => some (.ref a)
  | .type n => some (.ty n)
  | _ => none
theorem RelV.abs {x : V} {u : Value} (r : RelV x u) : absV u = some x := by
  cases x with
  | non => cases r; rfl
  | bl _ => cases r; rfl
  | int _ => obtain ⟨t, rfl⟩ := r; rfl
  | str _ => obtain ⟨t, rfl⟩ := r; rfl
  | byt _ => obtain ⟨t, rfl⟩ := r; rfl
  | flt _ => obtain ⟨t, rfl⟩ := r; rfl
  | ref _ => cases r; rfl
  | ty _ => cases r; rfl
theorem RelV.inj {x y : V} {u : Value} (r : RelV x u) (q : RelV y u) : x = y := Option.some.inj (r.abs.symm.trans q.abs)
theorem Vals.inj : ∀ {xs ys : List V} {us : List Value}, Vals xs us → Vals ys us → xs = ys
  | _, _, _, .nil, .nil => rfl
  | _, _, _, .cons r t, .cons r' t' => by rw [r.inj r', Vals.inj t t']
section
variable {X : Cx} {pins : List (Addr × Obj)} {σ : St} {H : Hp} {s : Shared} {a : Addr} {xs ys : List V}
theorem SqL.of {K : PySem.W.Frag} (h : H a = some (.lst xs)) : SqL K H a xs := .inl (.inl h)
theorem SqT.of {K : PySem.W.Frag} (h : H a = some (.tup xs)) : SqT K H a xs := .inl (.inl h)
theorem Inv.list (I : Inv X pins σ H s) (h : SqL X.K H a xs) : ∃ its : List Value, Vals xs its ∧ PlainL s.heap a its.toArray ∧ xs.length ≤ sizeLine := by
  rcases h with h | ⟨o, its, n, hk, hc, hd, hs, hz, r⟩
  · obtain ⟨z, its, n, r, e⟩ := h.ok I.hok
    exact ⟨its, r, ⟨_, n, e, rfl, rfl, rfl⟩, z⟩
  · refine ⟨its.toList, r, ⟨o, n, I.kIn a o hk, hc, hd, by simpa using hs⟩, ?_⟩
    have e := r.length
    simp only [Array.length_toList] at e
    omega
theorem Inv.tuple (I : Inv X pins σ H s) (h : SqT X.K H a xs) : ∃ its : List Value, Vals xs its ∧ IsTup s.heap a its.toArray ∧ xs.length ≤ sizeLine := by
  rcases h with h | ⟨o, its, n, hk, hc, hs, hz, r⟩
  · obtain ⟨z, its, r, p⟩ := h.ok I.hok
    exact ⟨its, r, p, z⟩
  · refine ⟨its.toList, r, ⟨o, I.kIn a o hk, hc, n, by simpa using hs⟩, ?_⟩
    have e := r.length
    simp only [Array.length_toList] at e
    omega
theorem Inv.list_inj (I : Inv X pins σ H s) (h : SqL X.K H a xs) (h' : SqL X.K H a ys) : xs = ys := by
  obtain ⟨its, r, ⟨o, n, e, _, _, d⟩, _⟩ := I.list h
  obtain ⟨its', r', ⟨o', n', e', _, _, d'⟩, _⟩ := I.list h'
  rw [e] at e'; cases e'
  rw [d] at d'
  injection d' with d1 _
  have : its = its' := by simpa using congrArg Array.toList d1
  subst this
  exact r.inj r'
end
abbrev Cx.wish (X : Cx) (E : Value → Shared → Prop) : Cx := { X with xe := E }
abbrev Cx.nox (X : Cx) : Cx := X.wish fun _ _ => False
theorem Cx.Ok.wish {X : Cx} (ok : X.Ok) (E : Value → Shared → Prop) : (X.wish E).Ok :=
  ⟨ok.mod, ok.kind, ok.glob, ok.blt, ok.above, ok.inj, ok.has, ok.cab, ok.hd, ok.frames, ok.stk, ok.exf, ok.bs, ok.bsz, ok.noex, ok.exfs, ok.funs, ok.frf⟩
theorem Cx.Ok.unwish {X : Cx} {E : Value → Shared → Prop} (ok : (X.wish E).Ok) : X.Ok :=
  ⟨ok.mod, ok.kind, ok.glob, ok.blt, ok.above, ok.inj, ok.has, ok.cab, ok.hd, ok.frames, ok.stk, ok.exf, ok.bs, ok.bsz, ok.noex, ok.exfs, ok.funs, ok.frf⟩
section
variable {X : Cx} {pins : List (Addr × Obj)} {σ : St} {H : Hp} {s : Shared} {E : Value → Shared → Prop}
theorem Inv.wish (I : Inv X pins σ H s) (E : Value → Shared → Prop) : Inv (X.wish E) pins σ H s := ⟨I.ok.wish E, I.os, I.bare, I.base, I.loc, I.cell, I.free, I.freeC, I.pin, I.hok, I.len⟩
theorem Inv.unwish (I : Inv (X.wish E) pins σ H s) : Inv X pins σ H s := ⟨I.ok.unwish, I.os, I.bare, I.base, I.loc, I.cell, I.free, I.freeC, I.pin, I.hok, I.len⟩
theorem SP.unwish {D : Ends} {f : Flow} {s' : Shared} (h : SP (X.wish E) pins D f s') : SP X pins D f s' := by
  cases f with
  | next => obtain ⟨σ', H', I, q⟩ := h; exact ⟨σ', H', I.unwish, q⟩
  | brk => obtain ⟨σ', H', I, q⟩ := h; exact ⟨σ', H', I.unwish, q⟩
  | cont => obtain ⟨σ', H', I, q⟩ := h; exact ⟨σ', H', I.unwish, q⟩
  | ret u => obtain ⟨v, σ', H', I, r, q⟩ := h; exact ⟨v, σ', H', I.unwish, r, q⟩
theorem PE.nox {e : Expr} {t : TE} (h : PE X.nox e t) : PE X e t := fun pins s σ H Q I hw =>
  wpAny_mono (h pins s σ H Q (I.wish _) hw) (fun _ _ ⟨v, H', I', r, q⟩ => ⟨v, H', I'.unwish, r, q⟩) fun _ _ z => False.elim z
theorem PT.nox {e : Expr} {t : TT} (h : PT X.nox e t) : PT X e t := fun pins s σ H Q I hw =>
  wpAny_mono (h pins s σ H Q (I.wish _) hw) (fun _ _ ⟨H', I', q⟩ => ⟨H', I'.unwish, q⟩) fun _ _ z => False.elim z
theorem PSs.nox {st : List Stmt} {t : TS} (h : PSs X.nox st t) : PSs X st t := fun pins s σ H D I hw =>
  wpAny_mono (h pins s σ H D (I.wish _) hw) (fun _ _ q => q.unwish) fun _ _ z => False.elim z
end
section
variable {X : Cx} {st : Stmt} {rest : List Stmt} {t u : TS} {e : Expr} {te : TE} {pos : Pos}
noncomputable def tNext : TS := fun D σ H => D.nx σ H
noncomputable def tSeq (t u : TS) : TS := fun D σ H => t { D with nx := u D } σ H
theorem pss_nil : PSs X [] tNext := fun _ _ σ H _ I h => wpAny_execs_nil ⟨σ, H, I, h⟩
theorem pss_cons (h1 : PS X st t) (h2 : PSs X rest u) : PSs X (st :: rest) (tSeq t u) := by
  intro pins s σ H D I h
  refine wpAny_execs_cons (thn (h1 pins s σ H { D with nx := u D } I h) fun f s1 q => ?_)
  cases f with
  | next =>
    obtain ⟨σ', H', I', q⟩ := q
    exact h2 pins s1 σ' H' D I' q
  | ret v => exact q
  | brk => exact q
  | cont => exact q
theorem pss_one (h1 : PS X st t) : PSs X [st] t := by
  intro pins s σ H D I h
  refine wpAny_execs_cons (thn (h1 pins s σ H D I h) fun f s1 q => ?_)
  cases f with
  | next => exact wpAny_execs_nil q
  | ret v => exact q
  | brk => exact q
  | cont => exact q
theorem Inv.quiet {pins : List (Addr × Obj)} {σ : St} {H : Hp} {s : Shared} (I : Inv X pins σ H s) : interactive X.env = false := by simp [interactive, I.ok.kind]
noncomputable def tDrop (te : TE) : TS := fun D σ H => te σ H fun _ H1 => D.nx σ H1
theorem ps_expr (he : PE X e te) (hs : swapsWith e none pos.line X.env = pure false := by rfl) : PS X (.Expr e pos) (tDrop te) := by
  intro pins s σ H D I h
  exact wpAny_Expr_any (thn (he pins s σ H _ I h) fun v s1 ⟨x, H1, I1, r1, q1⟩ => ⟨σ, H1, I1, q1⟩) I.quiet hs
noncomputable def tRet (te : TE) : TS := fun D σ H => te σ H D.rt
theorem ps_ret (he : PE X e te) : PS X (.Return (some e) pos) (tRet te) := by
  intro pins s σ H D I h
  exact wpAny_Return_some (thn (he pins s σ H _ I h) fun v s1 ⟨x, H1, I1, r1, q1⟩ => ⟨x, σ, H1, I1, r1, q1⟩)
noncomputable def tIfS (c : TT) (t u : TS) : TS := fun D σ H => c σ H fun b H1 => if b = true then t D σ H1 else u D σ H1
theorem ps_if {c : Expr} {a b : List Stmt} {tc : TT} (hc : PT X c tc) (ha : PSs X a t) (hb : PSs X b u) : PS X (.If c a b pos) (tIfS tc t u) := by
  intro pins s σ H D I h
  refine wpAny_If (thn (hc pins s σ H _ I h) fun d s1 ⟨H1, I1, q1⟩ => ?_)
  cases d with
  | true => exact ha pins s1 σ H1 D I1 q1
  | false => exact hb pins s1 σ H1 D I1 q1
end
abbrev TG := V → St → Hp → (St → Hp → Prop) → Prop
abbrev TGs := List V → St → Hp → (St → Hp → Prop) → Prop
noncomputable def PG (X : Cx) (target : Expr) (t : TG) : Prop :=
  ∀ (pins : List (Addr × Obj)) (s : Shared) (σ : St) (H : Hp) (v : V) (u : Value) (Q : St → Hp → Prop), Inv X pins σ H s → RelV v u → t v σ H Q →
    wpAny (model X.prog X.w) X.A (assign target X.env u) (fun _ s' => ∃ σ' H', Inv X pins σ' H' s' ∧ Q σ' H') X.xe s
abbrev TIp := V → V → Hp → VK → Prop
noncomputable def PIp (X : Cx) (op : Operator) (t : TIp) : Prop :=
  ∀ (pins : List (Addr × Obj)) (s : Shared) (σ : St) (H : Hp) (x y : V) (v u : Value) (Q : VK), Inv X pins σ H s → RelV x v → RelV y u → t x y H Q →
    wpAny (model X.prog X.w) X.A (inplaceOp op v u) (EP X pins σ Q) X.xe s
section
variable {X : Cx} {pos : Pos}
noncomputable def gName (i : Nat) : TG := fun v σ H Q => Q (σ.set i (some v)) H
theorem pg_name {i : Nat} {x : Str} (hN : X.N.Nodup) (hi : X.N[i]? = some x) (hx : Loc X.env.scope x) (hf : X.fn x = true ∨ X.env.scope.names.lookup x = some .local := by first | exact .inl rfl | exact .inr rfl | assumption) : PG X (.Name x pos) (gName i) := by
  intro pins s σ H v u Q I r h
  exact wpAny_assign_Name (store_ok I hN hi hx r (fun s' I' => ⟨_, H, I', h⟩) hf)
noncomputable def gNil : TGs := fun vs σ H Q => vs = [] ∧ Q σ H
noncomputable def gCons (t : TG) (u : TGs) : TGs := fun vs σ H Q => ∃ v r, vs = v :: r ∧ t v σ H fun σ' H' => u r σ' H' Q
noncomputable def gTup (K : PySem.W.Frag) (n : Nat) (t : TGs) : TG := fun v σ H Q => ∃ a xs, v = .ref a ∧ SqT K H a xs ∧ xs.length = n ∧ t xs σ H Q
noncomputable def tAsg (te : TE) (g : TG) : TS := fun D σ H => te σ H fun x H1 => g x σ H1 D.nx
theorem ps_set {i : Nat} {x : Str} {e : Expr} {te : TE} {pos' : Pos} (hN : X.N.Nodup) (hi : X.N[i]? = some x) (hx : Loc X.env.scope x) (he : PE X e te) (hs : swapsWith e (some (.Name x pos')) pos.line X.env = pure false := by rfl) (hf : X.fn x = true ∨ X.env.scope.names.lookup x = some .local := by first | exact .inl rfl | exact .inr rfl | assumption) :
    PS X (.Assign [.Name x pos'] e pos) (tAsg te (gName i)) := by
  intro pins s σ H D I h
  refine wpAny_Assign_Name (thn (he pins s σ H _ I h) fun v s1 ⟨y, H1, I1, r1, q1⟩ => ?_) hs
  exact store_ok I1 hN hi hx r1 (fun s2 I2 => ⟨_, H1, I2, q1⟩) hf
noncomputable def tAug (i : Nat) (te : TE) (ti : TIp) : TS := fun D σ H => ∃ x, σ[i]? = some (some x) ∧ te σ H fun y H1 => ti x y H1 fun z H2 => D.nx (σ.set i (some z)) H2
theorem ps_aug {i : Nat} {x : Str} {e : Expr} {te : TE} {op : Operator} {ti : TIp} {pos' : Pos} (hN : X.N.Nodup) (hi : X.N[i]? = some x) (hx : Loc X.env.scope x) (he : PE X e te) (ho : PIp X op ti) (hf : X.fn x = true ∨ X.env.scope.names.lookup x = some .local := by first | exact .inl rfl | exact .inr rfl | assumption) :
    PS X (.AugAssign (.Name x pos') op e pos) (tAug i te ti) := by
  intro pins s σ H D I h
  obtain ⟨v, e1, h⟩ := h
  obtain ⟨m, hn, hl⟩ := I.loc
  have vis : Vis X.env.scope x := by rcases hx with k | k; exact .inl k; exact .inr (.inl k)
  obtain ⟨u, r, l⟩ := hl i x v hi e1 vis
  refine wpAny_AugAssign_Name ?_
  have go : wpAny (model X.prog X.w) X.A (eval e X.env) (fun w s₂ => wpAny (model X.prog X.w) X.A (inplaceOp op u w) (fun r s₃ => wpAny (model X.prog X.w) X.A (storeName X.env x r) (fun _ => SP X pins D .next) X.xe s₃) X.xe s₂) X.xe s := by
    refine thn (he pins s σ H _ I h) fun w s1 ⟨y, H1, I1, r1, q1⟩ => ?_
    refine thn (ho pins s1 σ H1 v y u w _ I1 r r1 q1) fun z s2 ⟨zv, H2, I2, r2, q2⟩ => ?_
    exact store_ok I2 hN hi hx r2 (fun s3 I3 => ⟨_, H2, I3, q2⟩) hf
  rcases l with ⟨hk, hm⟩ | ⟨hk, c, hc, hcell⟩
  · exact wpAny_loadName_local I.ok.kind hk hn hm go
  · rcases hk with hk | hk
    · exact wpAny_loadName_cell I.ok.kind hk hc hcell go
    · rcases hx with k | k
      · have : X.env.scope.names.lookup x = some .free := hk
        rw [k] at this; cases this
      · have : X.env.scope.names.lookup x = some .free := hk
        rw [k] at this; cases this
end
section
variable {X : Cx} {pos : Pos}
end
structure It where
  go : Nat → Hp → Prop
  yld : Nat → Hp → V → Hp → Prop
  stop : Nat → Hp → Prop
noncomputable def FpOk (X : Cx) (pins : List (Addr × Obj)) (H : Hp) (b : Addr) : Prop :=
  H b = none ∧ b ≠ X.env.locals ∧ b ∉ X.fs ∧ (b ∈ X.ex ∨ X.s₀.heap.objs.size ≤ b) ∧ (∀ x c, X.env.cells.lookup x = some c → c ≠ b) ∧ ∀ p ∈ X.pn ++ pins, p.1 ≠ b
theorem Inv.fpOk {X : Cx} {pins : List (Addr × Obj)} {σ : St} {H H' : Hp} {s : Shared} {b : Addr} (I : Inv X pins σ H s) (hb : s.heap.objs.size ≤ b) (hn : H' b = none) : FpOk X pins H' b := by
  refine ⟨hn, Nat.ne_of_gt (Nat.lt_of_lt_of_le I.lt hb), I.nofs hb, .inr (Nat.le_trans I.sz hb), fun x c e z => ?_, fun p hp z => ?_⟩
  · obtain ⟨v, q⟩ := I.cell x c e
    exact absurd (Nat.lt_of_lt_of_le q.lt (by rw [z]; exact hb)) (Nat.lt_irrefl _)
  · exact absurd (Nat.lt_of_lt_of_le (Heap.lt_size (I.pin p hp).1) (by rw [z]; exact hb)) (Nat.lt_irrefl _)
structure Turn (P : Program) (w : World) (K : PySem.W.Frag) (tg : Expr) (J : It) (fp : List Addr) (it : Addr) (tn : Nat → Heap → Prop) : Prop where
  mem : it ∈ fp
  obj : ∀ i h, tn i h → ∀ b ∈ fp, ∃ o, h.get? b = some o ∧ ∀ v, o.data ≠ .cell v
  keep : ∀ i h h', tn i h → (∀ b ∈ fp, ∀ o, h.get? b = some o → h'.get? b = some o) → tn i h'
  item : ∀ (X : Cx), X.prog = P → X.w = w → X.K = K → X.calm = true → ∀ (i : Nat) (pins : List (Addr × Obj)) (s : Shared) (σ : St) (H : Hp) (E : Value → Shared → Prop), Inv X pins σ H s → (∀ b ∈ fp, FpOk X pins H b) → tn i s.heap → J.go i H →
    wpAny (model P w) X.A (pyNext (.ref it)) (fun r s1 => ∃ u, r = some u ∧
      wpAny (model P w) X.A (letOwnedTupleGo tg (.ref it) u) (fun _ s2 => ∃ x H', Inv X pins σ H' s2 ∧ RelV x u ∧ J.yld i H x H' ∧ tn (i + 1) s2.heap ∧ ∀ b ∈ fp, H' b = none) E s1) E s
  done : ∀ (X : Cx), X.prog = P → X.w = w → X.K = K → X.calm = true → ∀ (i : Nat) (pins : List (Addr × Obj)) (s : Shared) (σ : St) (H : Hp) (E : Value → Shared → Prop), Inv X pins σ H s → (∀ b ∈ fp, FpOk X pins H b) → tn i s.heap → J.stop i H →
    wpAny (model P w) X.A (pyNext (.ref it)) (fun r s1 => r = none ∧ Inv X pins σ H s1) E s
  self : ∀ (A : Around) (i : Nat) (s : Shared) (Q : Value → Shared → Prop) (E : Value → Shared → Prop), tn i s.heap → Q (.ref it) s → wpAny (model P w) A (pyIter (.ref it)) Q E s
abbrev TI := St → Hp → (It → Hp → Prop) → Prop
noncomputable def PIE (X : Cx) (pins : List (Addr × Obj)) (σ : St) (tg : Expr) (R : It → Hp → Prop) (itv : Value) (s2 : Shared) : Prop :=
  ∃ (it : Addr) (fp : List Addr) (tn : Nat → Heap → Prop) (J : It) (H' : Hp), itv = .ref it ∧ Inv X pins σ H' s2 ∧ Turn X.prog X.w X.K tg J fp it tn ∧ tn 0 s2.heap ∧ (∀ b ∈ fp, FpOk X pins H' b) ∧ R J H'
noncomputable def PI (X : Cx) (tg iter : Expr) (wi : TI) : Prop :=
  ∀ (pins : List (Addr × Obj)) (s : Shared) (σ : St) (H : Hp) (R : It → Hp → Prop), Inv X pins σ H s → wi σ H R →
    wpAny (model X.prog X.w) X.A (eval iter X.env) (fun v s1 => wpAny (model X.prog X.w) X.A (pyIter v) (PIE X pins σ tg R) X.xe s1) X.xe s
theorem go_of {M : Model} {A : Around} {E : Value → Shared → Prop} {s : Shared} {tg : Expr} {it : Addr} {u : Value} {o : Obj} {n : String} {vs : Array Value} {Q : Unit → Shared → Prop} (ho : s.heap.get? it = some o) (hc : o.cls = .type n) (hd : o.data = .fields vs)
    (hn : ["enumerate", "zip", "dict_itemiterator", "dict_reverseitemiterator", "odict_iterator", "itertools.zip_longest", "itertools.pairwise"].contains n = false) (hQ : Q () s) : wpAny M A (letOwnedTupleGo tg (.ref it) u) Q E s := by
  unfold letOwnedTupleGo
  cases tg <;> first
    | exact wpAny_pure hQ
    | (cases u <;> first
        | exact wpAny_pure hQ
        | (refine wpAny_bind (wpAny_load ho ?_)
           rw [hc, hd]
           show wpAny M A (if (["enumerate", "zip", "dict_itemiterator", "dict_reverseitemiterator", "odict_iterator", "itertools.zip_longest", "itertools.pairwise"].contains n && vs[0]? == some (rawInt _)) = true then _ else _) Q E s
           rw [if_neg (by intro h; rw [hn, Bool.false_and] at h; cases h)]
           exact wpAny_pure hQ))
noncomputable def Itl (K : PySem.W.Frag) (a : Addr) : It :=
  ⟨fun i H => ∃ xs x, SqL K H a xs ∧ xs[i]? = some x, fun i H x H' => H' = H ∧ ∀ xs, SqL K H a xs → xs[i]? = some x, fun i H => ∃ xs, SqL K H a xs ∧ xs.length ≤ i⟩
noncomputable def Itr (lo : Int) (n : Nat) : It := ⟨fun i _ => i < n, fun i H x H' => H' = H ∧ x = .int (lo + i), fun i _ => n ≤ i⟩
theorem turn_list {P : Program} {w : World} {K : PySem.W.Frag} {tg : Expr} (a it : Addr) : Turn P w K tg (Itl K a) [it] it (fun i h => h.IsListIter it a i) where
  mem := by simp
  obj := fun i h st b hb => by
    have e : b = it := by simpa using hb
    subst e
    obtain ⟨o, e, c, d⟩ := st
    exact ⟨o, e, fun v z => by rw [d] at z; cases z⟩
  keep := fun i h h' st k => st.at fun o e => k it (by simp) o e
  item := by
    intro X hP hw hK hc i pins s σ H E I hf st hg
    subst hP hw hK
    obtain ⟨xs, x, hq, hx⟩ := hg
    obtain ⟨its, rv, p, hz⟩ := I.list hq
    obtain ⟨u, hu, ru⟩ := rv.get hx
    obtain ⟨f0, f1, f2, f3, f4, f5⟩ := hf it (by simp)
    refine wpAny_pyNext_list_item st p.isList (x := u) (by simpa using hu) fun h' st' sb => ?_
    have I1 : Inv X pins σ H { s with heap := h' } := I.turned (t' := s.toks) (fun b o hb e => (sb.2 b hb).trans e) f0 f1 f3 f4 f5
    obtain ⟨o, e, c, d⟩ := id st'
    exact ⟨u, rfl, go_of (s := { s with heap := h' }) e c d (by decide) ⟨x, H, I1, ru, ⟨rfl, fun ys hy => by rw [I.list_inj hy hq]; exact hx⟩, st', fun b hb => (hf b hb).1⟩⟩
  done := by
    intro X hP hw hK hc i pins s σ H E I hf st hg
    subst hP hw hK
    obtain ⟨xs, hq, hx⟩ := hg
    obtain ⟨its, rv, p, hz⟩ := I.list hq
    obtain ⟨f0, f1, f2, f3, f4, f5⟩ := hf it (by simp)
    have hl := rv.length
    exact wpAny_pyNext_list_end (I.ok.hd hc) st p.isList (by simp; omega) fun h' eb => ⟨rfl, I.turned (t' := s.toks) (fun b o hb e => eb b o hb e) f0 f1 f3 f4 f5⟩
  self := fun _ _ _ _ _ st h => wpAny_pyIter_listiter st h
theorem turn_range {P : Program} {w : World} {K : PySem.W.Frag} {tg : Expr} (it : Addr) (lo : Int) (n : Nat) : Turn P w K tg (Itr lo n) [it] it (fun i h => IsRangeIter h it (lo + (i : Nat) * 1) ((n : Int) - (i : Nat)) 1) where
  mem := by simp
  obj := fun i h st b hb => by
    have e : b = it := by simpa using hb
    subst e
    exact ⟨_, st, fun v z => by
      have z' : Data.fields _ = Data.cell v := z
      cases z'⟩
  keep := fun i h h' st k => k it (by simp) _ st
  item := by
    intro X hP hw hK hc i pins s σ H E I hf st hg
    subst hP hw hK
    obtain ⟨f0, f1, f2, f3, f4, f5⟩ := hf it (by simp)
    have W := Walks.range (prog := X.prog) (w := X.w) (I.ok.hd hc) it lo 1 n
    refine W.item i s _ _ hg st fun v h' tk hv st' kk => ?_
    obtain ⟨t, rfl⟩ := hv
    have I1 : Inv X pins σ H { s with heap := h', toks := tk } := I.turned (fun b o hb e => kk b o (by simpa using hb) e) f0 f1 f3 f4 f5
    refine ⟨_, rfl, go_of (s := { s with heap := h', toks := tk }) (n := "range_iterator") st' rfl rfl (by decide) ⟨.int (lo + i), H, I1, ⟨t, ?_⟩, ⟨rfl, rfl⟩, st', fun b hb => (hf b hb).1⟩⟩
    rw [Int.mul_one]
  done := by
    intro X hP hw hK hc i pins s σ H E I hf st hg
    subst hP hw hK
    obtain ⟨f0, f1, f2, f3, f4, f5⟩ := hf it (by simp)
    exact wpAny_pyNext_range_end (I.ok.hd hc) st (by have : n ≤ i := hg; omega) fun h' eb => ⟨rfl, I.turned (t' := s.toks) (fun b o hb e => eb b o hb e) f0 f1 f3 f4 f5⟩
  self := fun _ _ _ _ _ st h => wpAny_pyIter_rangeiter st h
end L2
namespace L2
open PySem PySem.Spec PyProof.Rows
section
variable {X : Cx} {tg : Expr}
noncomputable def iList (K : PySem.W.Frag) (tl : TE) : TI := fun σ H R => tl σ H fun x H1 => ∃ a, x = .ref a ∧ (∃ xs, SqL K H1 a xs) ∧ R (Itl K a) H1
theorem pi_list {l : Expr} {tl : TE} (hl : PE X l tl) : PI X tg l (iList X.K tl) := by
  intro pins s σ H R I h
  refine thn (hl pins s σ H _ I h) fun v s1 ⟨x, H1, I1, r1, q1⟩ => ?_
  obtain ⟨a, e, ⟨xs, hq⟩, q⟩ := q1
  subst e
  cases r1
  obtain ⟨its, rv, p, hz⟩ := I1.list hq
  refine wpAny_pyIter_list p.isList ?_
  refine ⟨s1.heap.objs.size, [s1.heap.objs.size], _, _, H1, rfl, I1.kept (t' := s1.toks) fun b o e => Heap.get?_push_of_some _ e, turn_list a _, ⟨_, Heap.get?_push_size _ rfl, rfl, rfl⟩, fun b hb => ?_, q⟩
  have e : b = s1.heap.objs.size := by simpa using hb
  subst e
  exact I1.fpOk (Nat.le_refl _) (I1.hok.fresh (Nat.le_refl _))
theorem range_it {pins : List (Addr × Obj)} {σ : St} {H : Hp} {s : Shared} {R : It → Hp → Prop} {E : Value → Shared → Prop} {lo hi : Int} {t u v : Tok} {tk : Nat} (I : Inv X pins σ H s) (h1 : -(2 ^ 62) ≤ lo) (h2 : lo < 2 ^ 62) (h3 : -(2 ^ 62) ≤ hi) (h4 : hi < 2 ^ 62)
    (q : R (Itr lo (hi - lo).toNat) H) : wpAny (model X.prog X.w) X.A (pyIter (.ref s.heap.objs.size)) (PIE X pins σ tg R) E { s with heap := s.heap.push { cls := .type "range", data := .fields #[.int lo t, .int hi u, .int 1 v] }, toks := tk } := by
  refine wpAny_pyIter_range (IsRange.new ..) (small_one h1 h2 h3 h4) ?_
  have I1 : Inv X pins σ H { s with heap := s.heap.push { cls := .type "range", data := .fields #[.int lo t, .int hi u, .int 1 v] }, toks := tk } := I.kept fun b o e => Heap.get?_push_of_some _ e
  refine ⟨(s.heap.push { cls := .type "range", data := .fields #[.int lo t, .int hi u, .int 1 v] }).objs.size, [(s.heap.push { cls := .type "range", data := .fields #[.int lo t, .int hi u, .int 1 v] }).objs.size], _, _, H, rfl,
    I1.kept (t' := tk) fun b o e => Heap.get?_push_of_some _ e, turn_range _ lo (hi - lo).toNat, ?_, fun b hb => ?_, q⟩
  · have e1 : lo + ((0 : Nat) : Int) * 1 = lo := by simp
    have e2 : (((hi - lo).toNat : Nat) : Int) - ((0 : Nat) : Int) = Builtin.Range.rangeSize lo hi 1 := by rw [rangeSize_one]; split <;> omega
    show IsRangeIter _ _ (lo + ((0 : Nat) : Int) * 1) ((((hi - lo).toNat : Nat) : Int) - ((0 : Nat) : Int)) 1
    rw [e1, e2]
    exact Heap.get?_push_size _ rfl
  · have e : b = (s.heap.push { cls := .type "range", data := .fields #[.int lo t, .int hi u, .int 1 v] }).objs.size := by simpa using hb
    subst e
    exact I1.fpOk (Nat.le_refl _) (I1.hok.fresh (Nat.le_refl _))
noncomputable def iRng1 (ta : TA) : TI := fun σ H R => ta σ H fun vs H1 => ∃ j : Int, vs = [.int j] ∧ -(2 ^ 62) ≤ j ∧ j < 2 ^ 62 ∧ R (Itr 0 j.toNat) H1
noncomputable def iRng2 (ta : TA) : TI := fun σ H R => ta σ H fun vs H1 => ∃ i j : Int, vs = [.int i, .int j] ∧ (-(2 ^ 62) ≤ i ∧ i < 2 ^ 62 ∧ -(2 ^ 62) ≤ j ∧ j < 2 ^ 62) ∧ R (Itr i (j - i).toNat) H1
theorem pi_range1 {a : Expr} {ta : TA} {p pos : Pos} (hg : Gl X "range") (hm : X.mg "range" = none) (ha : PA X [a] ta) (hs : starEach [a] X.env = [(false, eval a X.env)] := by rfl) : PI X tg (.Call (.Name "range" p) [a] [] pos) (iRng1 ta) := by
  intro pins s σ H R I h
  refine Call_ (ld_blt I hg hm boot_range (PyProof.Rows.callWith_type1 (thn (ha pos pins s σ H _ I h) fun us s1 ⟨vs, H1, I1, r1, q1⟩ => ?_) hs rfl))
  obtain ⟨j, e, q1, q2, q⟩ := q1
  subst e
  cases r1 with
  | cons r rr =>
    cases rr
    obtain ⟨t, rfl⟩ := r
    exact call_range_1 (range_it I1 (by omega) (by omega) q1 q2 (by simpa using q))
theorem pi_range2 {a b : Expr} {ta : TA} {p pos : Pos} (hg : Gl X "range") (hm : X.mg "range" = none) (ha : PA X [a, b] ta) (hs : starEach [a, b] X.env = [(false, eval a X.env), (false, eval b X.env)] := by rfl) (hs2 : starEach [b] X.env = [(false, eval b X.env)] := by rfl) :
    PI X tg (.Call (.Name "range" p) [a, b] [] pos) (iRng2 ta) := by
  intro pins s σ H R I h
  refine Call_ (ld_blt I hg hm boot_range (PyProof.Rows.callWith_type1 (thn (ha pos pins s σ H _ I h) fun us s1 ⟨vs, H1, I1, r1, q1⟩ => ?_) (by rw [hs, hs2]) (by rw [hs2]; rfl)))
  obtain ⟨i, j, e, ⟨q1, q2, q3, q4⟩, q⟩ := q1
  subst e
  cases r1 with
  | cons r rr =>
    cases rr with
    | cons r' rr =>
      cases rr
      obtain ⟨t, rfl⟩ := r
      obtain ⟨t', rfl⟩ := r'
      exact call_range_2 (range_it I1 q1 q2 q3 q4 q)
noncomputable def tFor (wi : TI) (g : TG) (tb : TS) : TS := fun D σ H => wi σ H fun J H1 => ∃ W : Nat → Nat → St → Hp → Prop, (∃ m, W 0 m σ H1) ∧ ∀ i m σ H, W i m σ H →
  (J.stop i H ∧ D.nx σ H) ∨ (J.go i H ∧ ∃ N : St → Hp → Prop, (∀ σ' H', N σ' H' → ∃ m', m' < m ∧ W (i + 1) m' σ' H') ∧ ∀ x H', J.yld i H x H' → g x σ H' fun σ2 H2 => tb { D with nx := N, ct := N, bk := D.nx } σ2 H2)
noncomputable def pinsAt (fp : List Addr) (h : Heap) : List (Addr × Obj) := fp.filterMap fun b => (h.get? b).map fun o => (b, o)
theorem mem_pinsAt {fp : List Addr} {h : Heap} {b : Addr} {o : Obj} (hb : b ∈ fp) (e : h.get? b = some o) : (b, o) ∈ pinsAt fp h := List.mem_filterMap.mpr ⟨b, hb, by rw [e]; rfl⟩
theorem of_pinsAt {fp : List Addr} {h : Heap} {p : Addr × Obj} (hp : p ∈ pinsAt fp h) : p.1 ∈ fp ∧ h.get? p.1 = some p.2 := by
  obtain ⟨b, hb, e⟩ := List.mem_filterMap.mp hp
  cases q : h.get? b with
  | none => rw [q] at e; cases e
  | some o =>
    rw [q] at e
    have e' : (b, o) = p := Option.some.inj e
    subst e'
    exact ⟨hb, q⟩
theorem Inv.pinned {pins : List (Addr × Obj)} {σ : St} {H : Hp} {s : Shared} {fp : List Addr} (I : Inv X pins σ H s) (hf : ∀ b ∈ fp, FpOk X pins H b) (ho : ∀ b ∈ fp, ∃ o, s.heap.get? b = some o ∧ ∀ v, o.data ≠ .cell v) : Inv X (pins ++ pinsAt fp s.heap) σ H s :=
  I.pins_of fun p hp => (List.mem_append.mp hp).elim (fun z => I.pin p (List.mem_append_right _ z)) fun z => by
    obtain ⟨hb, e⟩ := of_pinsAt z
    obtain ⟨f0, f1, f2, _⟩ := hf p.1 hb
    obtain ⟨o, e', d⟩ := ho p.1 hb
    rw [e] at e'; cases e'
    exact ⟨e, f0, f1, f2, d⟩
theorem Inv.unpinned {pins pl : List (Addr × Obj)} {σ : St} {H : Hp} {s : Shared} (I : Inv X (pins ++ pl) σ H s) : Inv X pins σ H s := I.pins_of fun p hp => I.pin p (List.mem_append_right _ (List.mem_append_left _ hp))
theorem ps_for {iter : Expr} {body : List Stmt} {wi : TI} {g : TG} {tb : TS} {pos : Pos} (hp : PassesOwn (model X.prog X.w) X.A X.env X.xe) (hc : X.calm = true) (hi : PI X tg iter wi) (hg : PG X tg g) (hb : PSs X body tb)
    (hs : ∀ x, foldedSetIterable iter X.env x = pure x := by intro _; rfl) : PS X (.For tg iter body [] pos) (tFor wi g tb) := by
  intro pins s σ H D I h
  refine wpAny_For (thn (hi pins s σ H _ I h) fun v s1 h1 => thn h1 fun itv s2 h2 => ?_) hs
  obtain ⟨it, fp, tn, J, H2, e, I2, T, st2, f2, W, ⟨m0, w0⟩, turn⟩ := h2
  subst e
  -- what stays true of the iterator's objects through the loop
  have stat : ∀ {H' : Hp}, (∀ b ∈ fp, H' b = none) → ∀ b ∈ fp, FpOk X pins H' b := fun hn b hb => ⟨hn b hb, (f2 b hb).2⟩
  refine codeAny_forLoop_any (fun n s' => ∃ i σ' H', Inv X pins σ' H' s' ∧ tn i s'.heap ∧ (∀ b ∈ fp, H' b = none) ∧ W i n σ' H') ?_ m0 ⟨0, σ, H2, I2, st2, fun b hb => (f2 b hb).1, w0⟩
  rintro n s3 ⟨i, σ3, H3, I3, st3, fr3, w3⟩
  rcases turn i n σ3 H3 w3 with ⟨stop, qn⟩ | ⟨go, N, hN, step⟩
  · refine wpAny_passesOwn hp (thn (T.done X rfl rfl rfl hc i pins s3 σ3 H3 X.xe I3 (stat fr3) st3 stop) fun r s4 ⟨hr, I4⟩ => ?_)
    subst hr
    exact wpAny_execs_nil ⟨σ3, H3, I4, qn⟩
  · refine wpAny_passesOwn hp (thn (T.item X rfl rfl rfl hc i pins s3 σ3 H3 X.xe I3 (stat fr3) st3 go) fun r s4 ⟨u, hr, h4⟩ => ?_)
    subst hr
    refine wpAny_passesOwn hp (thn h4 fun _ s5 ⟨x, H5, I5, r5, y5, st5, fr5⟩ => ?_)
    have I5' := I5.pinned (stat fr5) (T.obj _ _ st5)
    refine wpAny_passesOwn hp (thn (hg _ s5 σ3 H5 x u _ I5' r5 (step x H5 y5)) fun _ s6 ⟨σ6, H6, I6, q6⟩ => ?_)
    refine wpAny_passesOwn hp (thn (hb _ s6 σ6 H6 _ I6 q6) fun f s7 q7 => ?_)
    have again : ∀ {σ7 : St} {H7 : Hp}, Inv X (pins ++ pinsAt fp s5.heap) σ7 H7 s7 → N σ7 H7 → ∃ m, m < n ∧ ∃ i σ' H', Inv X pins σ' H' s7 ∧ tn i s7.heap ∧ (∀ b ∈ fp, H' b = none) ∧ W i m σ' H' := fun {σ7 H7} I7 n7 => by
      obtain ⟨m', hm, w7⟩ := hN σ7 H7 n7
      refine ⟨m', hm, i + 1, σ7, H7, I7.unpinned, T.keep _ _ _ st5 fun b hb o e => (I7.pin (b, o) (List.mem_append_right _ (List.mem_append_right _ (mem_pinsAt hb e)))).1, fun b hb => ?_, w7⟩
      obtain ⟨o, e, d⟩ := T.obj _ _ st5 b hb
      exact (I7.pin (b, o) (List.mem_append_right _ (List.mem_append_right _ (mem_pinsAt hb e)))).2.1
    cases f with
    | next => obtain ⟨σ7, H7, I7, n7⟩ := q7; exact again I7 n7
    | cont => obtain ⟨σ7, H7, I7, n7⟩ := q7; exact again I7 n7
    | brk => obtain ⟨σ7, H7, I7, q7⟩ := q7; exact ⟨σ7, H7, I7.unpinned, q7⟩
    | ret v => obtain ⟨x7, σ7, H7, I7, r7, q7⟩ := q7; exact ⟨x7, σ7, H7, I7.unpinned, r7, q7⟩
end
theorem for_list {K : PySem.W.Frag} {a : Addr} {xs : List V} {g : TG} {tb : TS} {D : Ends} {σ : St} {H : Hp} (Pv : Nat → St → Hp → Prop) (h0 : Pv 0 σ H) (hl : ∀ i σ H, i ≤ xs.length → Pv i σ H → SqL K H a xs)
    (hs : ∀ i x σ H, xs[i]? = some x → Pv i σ H → g x σ H fun σ2 H2 => tb { D with nx := Pv (i + 1), ct := Pv (i + 1), bk := D.nx } σ2 H2) (hd : ∀ σ H, Pv xs.length σ H → D.nx σ H) :
    ∃ W : Nat → Nat → St → Hp → Prop, (∃ m, W 0 m σ H) ∧ ∀ i m σ H, W i m σ H →
      ((Itl K a).stop i H ∧ D.nx σ H) ∨ ((Itl K a).go i H ∧ ∃ N : St → Hp → Prop, (∀ σ' H', N σ' H' → ∃ m', m' < m ∧ W (i + 1) m' σ' H') ∧ ∀ x H', (Itl K a).yld i H x H' → g x σ H' fun σ2 H2 => tb { D with nx := N, ct := N, bk := D.nx } σ2 H2) := by
  refine ⟨fun i m σ H => m = xs.length - i ∧ i ≤ xs.length ∧ Pv i σ H, ⟨xs.length, by simp, Nat.zero_le _, h0⟩, ?_⟩
  rintro i m σ H ⟨rfl, hi, p⟩
  have q := hl i σ H hi p
  by_cases hlt : i < xs.length
  · refine .inr ⟨⟨xs, xs[i], q, by simp [hlt]⟩, Pv (i + 1), fun σ' H' p' => ⟨xs.length - (i + 1), by omega, rfl, hlt, p'⟩, fun x H' y => ?_⟩
    obtain ⟨e, y⟩ := y
    subst e
    exact hs i x σ _ (y xs q) p
  · have e : i = xs.length := by omega
    subst e
    exact .inl ⟨⟨xs, q, Nat.le_refl _⟩, hd σ H p⟩
theorem for_range {lo : Int} {n : Nat} {g : TG} {tb : TS} {D : Ends} {σ : St} {H : Hp} (Pv : Nat → St → Hp → Prop) (h0 : Pv 0 σ H)
    (hs : ∀ i σ H, i < n → Pv i σ H → g (.int (lo + i)) σ H fun σ2 H2 => tb { D with nx := Pv (i + 1), ct := Pv (i + 1), bk := D.nx } σ2 H2) (hd : ∀ σ H, Pv n σ H → D.nx σ H) :
    ∃ W : Nat → Nat → St → Hp → Prop, (∃ m, W 0 m σ H) ∧ ∀ i m σ H, W i m σ H →
      ((Itr lo n).stop i H ∧ D.nx σ H) ∨ ((Itr lo n).go i H ∧ ∃ N : St → Hp → Prop, (∀ σ' H', N σ' H' → ∃ m', m' < m ∧ W (i + 1) m' σ' H') ∧ ∀ x H', (Itr lo n).yld i H x H' → g x σ H' fun σ2 H2 => tb { D with nx := N, ct := N, bk := D.nx } σ2 H2) := by
  refine ⟨fun i m σ H => m = n - i ∧ i ≤ n ∧ Pv i σ H, ⟨n, by simp, Nat.zero_le _, h0⟩, ?_⟩
  rintro i m σ H ⟨rfl, hi, p⟩
  by_cases hlt : i < n
  · refine .inr ⟨hlt, Pv (i + 1), fun σ' H' p' => ⟨n - (i + 1), by omega, rfl, hlt, p'⟩, fun x H' y => ?_⟩
    obtain ⟨e, y⟩ := y
    subst e y
    exact hs i σ _ hlt p
  · have e : i = n := by omega
    subst e
    exact .inl ⟨Nat.le_refl _, hd σ H p⟩
end L2
namespace L2
open PySem PySem.Spec PyProof.Rows
abbrev R2 := V → V → Hp → VK → Prop
noncomputable def OpR (X : Cx) (f : Value → Value → Sem Value) (r : R2) : Prop :=
  ∀ (pins : List (Addr × Obj)) (s : Shared) (σ : St) (H : Hp) (x y : V) (v u : Value) (Q : VK), Inv X pins σ H s → RelV x v → RelV y u → r x y H Q →
    wpAny (model X.prog X.w) X.A (f v u) (EP X pins σ Q) X.xe s
noncomputable def CallR (X : Cx) (f : Value) (r : List V → Hp → VK → Prop) : Prop :=
  ∀ (pins : List (Addr × Obj)) (s : Shared) (σ : St) (H : Hp) (xs : List V) (us : List Value) (Q : VK), Inv X pins σ H s → Vals xs us → r xs H Q →
    wpAny (model X.prog X.w) X.A (call f us) (EP X pins σ Q) X.xe s
noncomputable def TruR (X : Cx) (r : V → Hp → (Bool → Hp → Prop) → Prop) : Prop :=
  ∀ (pins : List (Addr × Obj)) (s : Shared) (σ : St) (H : Hp) (x : V) (v : Value) (Q : Bool → Hp → Prop), Inv X pins σ H s → RelV x v → r x H Q →
    wpAny (model X.prog X.w) X.A (truthy v) (TP X pins σ Q) X.xe s
noncomputable def tOp (r : R2) (ta tb : TE) : TE := fun σ H Q => ta σ H fun x H1 => tb σ H1 fun y H2 => r x y H2 Q
noncomputable def rI (C : Int → Int → Prop) (g : Int → Int → V) : R2 := fun x y H Q => ∃ i j, x = .int i ∧ y = .int j ∧ C i j ∧ Q (g i j) H
noncomputable def rI0 (g : Int → Int → V) : R2 := fun x y H Q => ∃ i j, x = .int i ∧ y = .int j ∧ Q (g i j) H
section
variable {X : Cx} {a b c : Expr} {ta tb tc : TE} {pos : Pos}
theorem binT (ha : PE X a ta) (hb : PE X b tb) {pins : List (Addr × Obj)} {s : Shared} {σ : St} {H : Hp} {R : V → V → Hp → Prop} (I : Inv X pins σ H s)
    (h : ta σ H fun x H1 => tb σ H1 fun y H2 => R x y H2) {Q : Value → Shared → Prop} {f : Value → Value → Sem Value}
    (hf : ∀ v u s2 x y H2, Inv X pins σ H2 s2 → RelV x v → RelV y u → R x y H2 → wpAny (model X.prog X.w) X.A (f v u) Q X.xe s2) :
    wpAny (model X.prog X.w) X.A (eval a X.env) (fun v s₁ => wpAny (model X.prog X.w) X.A (eval b X.env) (fun u s₂ => wpAny (model X.prog X.w) X.A (f v u) Q X.xe s₂) X.xe s₁) X.xe s := by
  refine thn (ha pins s σ H _ I h) fun v s1 ⟨x, H1, I1, r1, q1⟩ => ?_
  refine thn (hb pins s1 σ H1 _ I1 q1) fun u s2 ⟨y, H2, I2, r2, q2⟩ => ?_
  exact hf v u s2 x y H2 I2 r1 r2 q2
theorem pe_op {op : Operator} {r : R2} (ho : OpR X (binaryOp op) r) (ha : PE X a ta) (hb : PE X b tb) : PE X (.BinOp a op b pos) (tOp r ta tb) := by
  intro pins s σ H Q I h
  exact wpAny_BinOp (binT ha hb I h fun v u s2 x y H2 I2 rx ry q => ho pins s2 σ H2 x y v u Q I2 rx ry q)
theorem opI {f : Value → Value → Sem Value} {C : Int → Int → Prop} {g : Int → Int → Int}
    (rule : ∀ (i j : Int) (t u : Tok) (s : Shared) (Q : Value → Shared → Prop) (E : Value → Shared → Prop), C i j → Q (.int (g i j) s.toks) { s with toks := s.toks + 1 } → wpAny (model X.prog X.w) X.A (f (.int i t) (.int j u)) Q E s) :
    OpR X f (rI C fun i j => .int (g i j)) := by
  intro pins s σ H x y v u Q I rx ry h
  obtain ⟨i, j, rfl, rfl, hc, q⟩ := h
  obtain ⟨t, rfl⟩ := rx
  obtain ⟨t', rfl⟩ := ry
  exact rule i j t t' s _ _ hc ⟨.int (g i j), H, I.tok _, ⟨_, rfl⟩, q⟩
theorem opI0 {f : Value → Value → Sem Value} {g : Int → Int → Int}
    (rule : ∀ (i j : Int) (t u : Tok) (s : Shared) (Q : Value → Shared → Prop) (E : Value → Shared → Prop), Q (.int (g i j) s.toks) { s with toks := s.toks + 1 } → wpAny (model X.prog X.w) X.A (f (.int i t) (.int j u)) Q E s) :
    OpR X f (rI0 fun i j => .int (g i j)) := by
  intro pins s σ H x y v u Q I rx ry h
  obtain ⟨i, j, rfl, rfl, q⟩ := h
  obtain ⟨t, rfl⟩ := rx
  obtain ⟨t', rfl⟩ := ry
  exact rule i j t t' s _ _ ⟨.int (g i j), H, I.tok _, ⟨_, rfl⟩, q⟩
theorem opB0 {f : Value → Value → Sem Value} {g : Int → Int → Bool}
    (rule : ∀ (i j : Int) (t u : Tok) (s : Shared) (Q : Value → Shared → Prop) (E : Value → Shared → Prop), Q (.bool (g i j)) s → wpAny (model X.prog X.w) X.A (f (.int i t) (.int j u)) Q E s) :
    OpR X f (rI0 fun i j => .bl (g i j)) := by
  intro pins s σ H x y v u Q I rx ry h
  obtain ⟨i, j, rfl, rfl, q⟩ := h
  obtain ⟨t, rfl⟩ := rx
  obtain ⟨t', rfl⟩ := ry
  exact rule i j t t' s _ _ ⟨.bl (g i j), H, I, rfl, q⟩
noncomputable def CPow (i j : Int) : Prop := 0 ≤ j ∧ j ≤ 1000000 ∧ i.natAbs < 2 ^ 64
noncomputable def CMul (i j : Int) : Prop := (-(2 ^ 64) < i ∧ i < 2 ^ 64) ∨ (-(2 ^ 64) < j ∧ j < 2 ^ 64)
theorem CMul.ok {i j : Int} (h : CMul i j) : IntMulOk i j := by
  rcases h with ⟨h1, h2⟩ | ⟨h1, h2⟩
  · exact .of_left (intBits_le_64 h1 h2)
  · exact .of_right (intBits_le_64 h1 h2)
theorem op_add : OpR X (binaryOp .Add) (rI0 fun i j => .int (i + j)) := opI0 fun _ _ _ _ _ _ _ q => add_int q
theorem op_sub : OpR X (binaryOp .Sub) (rI0 fun i j => .int (i - j)) := opI0 fun _ _ _ _ _ _ _ q => sub_int q
theorem op_mul : OpR X (binaryOp .Mult) (rI CMul fun i j => .int (i * j)) := opI fun _ _ _ _ _ _ _ hc q => mul_int q hc.ok
theorem op_mod : OpR X (binaryOp .Mod) (rI (fun _ j => 0 < j) fun i j => .int (i % j)) := opI fun i j _ _ _ _ _ hc q => by
  have h1 : (0 : Int) < j := hc
  exact mod_int' (by omega) (by rw [Int.fmod_eq_emod_of_nonneg i (by omega)]; exact q)
theorem op_pow : OpR X (binaryOp .Pow) (rI CPow fun i j => .int (i ^ j.toNat)) := opI fun _ _ _ _ _ _ _ hc q => pow_int_small hc.1 hc.2.1 hc.2.2 q
theorem iop_add : OpR X (inplaceOp .Add) (rI0 fun i j => .int (i + j)) := opI0 fun _ _ _ _ _ _ _ q => iadd_int q
end
noncomputable def scal : V → V → Bool
  | .non, .non => true | .non, .int _ => true | .int _, .non => true | .non, .bl _ => true | .bl _, .non => true | .non, .str _ => true | .str _, .non => true
  | .int _, .int _ => true | .bl _, .bl _ => true | .str _, .str _ => true | .byt _, .byt _ => true
  | .int _, .str _ => true | .str _, .int _ => true | .bl _, .str _ => true | .str _, .bl _ => true
  | _, _ => false
noncomputable def rEq : R2 := fun x y H Q => scal x y = true ∧ Q (.bl (decide (x = y))) H
noncomputable def rNe : R2 := fun x y H Q => scal x y = true ∧ Q (.bl (!decide (x = y))) H
theorem dec_int {i j : Int} : decide (V.int i = V.int j) = (i == j) := by
  rw [Bool.eq_iff_iff]
  simp
theorem dec_bl {i j : Bool} : decide (V.bl i = V.bl j) = (i == j) := by
  rw [Bool.eq_iff_iff]
  simp
theorem dec_str {i j : Str} : decide (V.str i = V.str j) = (i == j) := by
  rw [Bool.eq_iff_iff]
  simp
theorem dec_byt {i j : Array UInt8} : decide (V.byt i = V.byt j) = (i.toList == j.toList) := by
  rw [Bool.eq_iff_iff]
  cases i
  cases j
  simp
section
variable {X : Cx} {a b c : Expr} {ta tb tc : TE} {pos : Pos}
theorem fin_bl {pins : List (Addr × Obj)} {σ : St} {H : Hp} {s : Shared} {Q : VK} {k k' : Bool} (I : Inv X pins σ H s) (q : Q (.bl k) H) (e : k = k') : EP X pins σ Q (.bool k') s := by
  subst e
  exact ⟨.bl k, H, I, rfl, q⟩
theorem op_eq : OpR X (compareOp .Eq) rEq := by
  intro pins s σ H x y v u Q I rx ry h
  obtain ⟨hs, q⟩ := h
  cases x with
  | non =>
    cases rx
    cases y with
    | non => cases ry; exact PySem.EqNone.eq_none_none (fin_bl I q (by simp))
    | bl j => cases ry; exact PySem.EqNone.eq_none_bool (fin_bl I q (by simp))
    | int j => obtain ⟨t', rfl⟩ := ry; exact PySem.EqNone.eq_none_int (fin_bl I q (by simp))
    | str j => obtain ⟨t', rfl⟩ := ry; exact PySem.EqNone.eq_none_str (fin_bl I q (by simp))
    | _ => exact absurd (show false = true from hs) Bool.false_ne_true
  | bl i =>
    cases rx
    cases y with
    | non => cases ry; exact PySem.EqNone.eq_bool_none (fin_bl I q (by simp))
    | bl j => cases ry; exact eq_bool (fin_bl I q dec_bl)
    | str j => obtain ⟨t', rfl⟩ := ry; exact PySem.EqMixed.eq_bool_str (fin_bl I q (by simp))
    | _ => exact absurd (show false = true from hs) Bool.false_ne_true
  | int i =>
    obtain ⟨t, rfl⟩ := rx
    cases y with
    | non => cases ry; exact PySem.EqNone.eq_int_none (fin_bl I q (by simp))
    | int j => obtain ⟨t', rfl⟩ := ry; exact eq_int (fin_bl I q dec_int)
    | str j => obtain ⟨t', rfl⟩ := ry; exact PySem.EqMixed.eq_int_str (fin_bl I q (by simp))
    | _ => exact absurd (show false = true from hs) Bool.false_ne_true
  | str i =>
    obtain ⟨t, rfl⟩ := rx
    cases y with
    | non => cases ry; exact PySem.EqNone.eq_str_none (fin_bl I q (by simp))
    | bl j => cases ry; exact PySem.EqMixed.eq_str_bool (fin_bl I q (by simp))
    | int j => obtain ⟨t', rfl⟩ := ry; exact PySem.EqMixed.eq_str_int (fin_bl I q (by simp))
    | str j => obtain ⟨t', rfl⟩ := ry; exact eq_str (fin_bl I q dec_str)
    | _ => exact absurd (show false = true from hs) Bool.false_ne_true
  | byt i =>
    obtain ⟨t, rfl⟩ := rx
    cases y with
    | byt j => obtain ⟨t', rfl⟩ := ry; exact PySem.W.eq_bytes (fin_bl I q dec_byt)
    | _ => exact absurd (show false = true from hs) Bool.false_ne_true
  | _ => cases y <;> exact absurd (show false = true from hs) Bool.false_ne_true
theorem op_ne : OpR X (compareOp .NotEq) rNe := by
  intro pins s σ H x y v u Q I rx ry h
  obtain ⟨hs, q⟩ := h
  cases x with
  | non =>
    cases rx
    cases y with
    | non => cases ry; exact PySem.EqNone.ne_none_none (fin_bl I q (by simp))
    | bl j => cases ry; exact PySem.EqNone.ne_none_bool (fin_bl I q (by simp))
    | int j => obtain ⟨t', rfl⟩ := ry; exact PySem.EqNone.ne_none_int (fin_bl I q (by simp))
    | str j => obtain ⟨t', rfl⟩ := ry; exact PySem.EqNone.ne_none_str (fin_bl I q (by simp))
    | _ => exact absurd (show false = true from hs) Bool.false_ne_true
  | bl i =>
    cases rx
    cases y with
    | non => cases ry; exact PySem.EqNone.ne_bool_none (fin_bl I q (by simp))
    | bl j => cases ry; exact ne_bool (fin_bl I q (congrArg not dec_bl))
    | str j => obtain ⟨t', rfl⟩ := ry; exact PySem.EqMixed.ne_bool_str (fin_bl I q (by simp))
    | _ => exact absurd (show false = true from hs) Bool.false_ne_true
  | int i =>
    obtain ⟨t, rfl⟩ := rx
    cases y with
    | non => cases ry; exact PySem.EqNone.ne_int_none (fin_bl I q (by simp))
    | int j => obtain ⟨t', rfl⟩ := ry; exact ne_int (fin_bl I q (congrArg not dec_int))
    | str j => obtain ⟨t', rfl⟩ := ry; exact PySem.EqMixed.ne_int_str (fin_bl I q (by simp))
    | _ => exact absurd (show false = true from hs) Bool.false_ne_true
  | str i =>
    obtain ⟨t, rfl⟩ := rx
    cases y with
    | non => cases ry; exact PySem.EqNone.ne_str_none (fin_bl I q (by simp))
    | bl j => cases ry; exact PySem.EqMixed.ne_str_bool (fin_bl I q (by simp))
    | int j => obtain ⟨t', rfl⟩ := ry; exact PySem.EqMixed.ne_str_int (fin_bl I q (by simp))
    | str j => obtain ⟨t', rfl⟩ := ry; exact ne_str (fin_bl I q (congrArg not dec_str))
    | _ => exact absurd (show false = true from hs) Bool.false_ne_true
  | byt i =>
    obtain ⟨t, rfl⟩ := rx
    cases y with
    | byt j => obtain ⟨t', rfl⟩ := ry; exact PySem.W.ne_bytes (fin_bl I q (congrArg not dec_byt))
    | _ => exact absurd (show false = true from hs) Bool.false_ne_true
  | _ => cases y <;> exact absurd (show false = true from hs) Bool.false_ne_true
theorem op_lt : OpR X (compareOp .Lt) (rI0 fun i j => .bl (decide (i < j))) := opB0 fun _ _ _ _ _ _ _ q => lt_int q
theorem op_gt : OpR X (compareOp .Gt) (rI0 fun i j => .bl (decide (j < i))) := opB0 fun _ _ _ _ _ _ _ q => gt_int q
theorem op_lt_str : OpR X (compareOp .Lt) (fun x y H Q => ∃ i j, x = .str i ∧ y = .str j ∧ Q (.bl (decide (i.cps.toList < j.cps.toList))) H) := by
  intro pins s σ H x y v u Q I rx ry h
  obtain ⟨i, j, rfl, rfl, q⟩ := h
  obtain ⟨t, rfl⟩ := rx
  obtain ⟨t', rfl⟩ := ry
  exact lt_str (fin_bl I q rfl)
theorem op_notN : OpR X (compareOp .IsNot) (fun x y H Q => y = .non ∧ Q (.bl (!decide (x = .non))) H) := by
  intro pins s σ H x y v u Q I rx ry h
  obtain ⟨rfl, q⟩ := h
  cases ry
  refine isnot_none_gen (fin_bl I q ?_)
  cases x <;> first
    | (cases rx; rfl)
    | (obtain ⟨t, rfl⟩ := rx; rfl)
theorem OpR.or {f : Value → Value → Sem Value} {r r' : R2} (h : OpR X f r) (h' : OpR X f r') : OpR X f (fun x y H Q => r x y H Q ∨ r' x y H Q) := by
  intro pins s σ H x y v u Q I rx ry q
  rcases q with q | q
  · exact h pins s σ H x y v u Q I rx ry q
  · exact h' pins s σ H x y v u Q I rx ry q
theorem nomark (b : Expr) {op : CmpOp} (h : op ≠ .In := by decide) (h2 : op ≠ .NotIn := by decide) : behindInMarks op b = false := by
  have e1 : (op == CmpOp.In) = false := by cases op <;> first | rfl | exact absurd rfl h
  have e2 : (op == CmpOp.NotIn) = false := by cases op <;> first | rfl | exact absurd rfl h2
  cases b <;> simp [behindInMarks, e1, e2]
noncomputable def TruV (K : PySem.W.Frag) (x : V) (H : Hp) (k : Bool) : Prop :=
  match x with
  | .non => k = false
  | .bl b => k = b
  | .int i => k = (i != 0)
  | .str y => y.length ≤ sizeLine ∧ k = ((y.length : Int) != 0)
  | .byt y => y.size ≤ sizeLine ∧ k = ((y.size : Int) != 0)
  | .ref p => (∃ xs, SqL K H p xs ∧ k = !xs.isEmpty) ∨ (∃ xs, SqT K H p xs ∧ k = !xs.isEmpty) ∨ ∃ kvs, H p = some (.dK kvs) ∧ k = !kvs.isEmpty
  | _ => False
theorem isEmpty_kv {κ : Type} {kvs : List (κ × V)} {vs : List (κ × Value)} (r : KV kvs vs) : (!vs.isEmpty) = !kvs.isEmpty := by
  cases r <;> rfl
theorem isEmpty_of {xs : List V} {its : List Value} (r : Vals xs its) : (!its.toArray.isEmpty) = !xs.isEmpty := by
  cases r <;> simp
theorem line63 : (sizeLine : Nat) < 2 ^ 63 := by rw [sizeLine_eq]; decide
theorem tru_ok : TruR X (fun x H Q => ∃ k, TruV X.K x H k ∧ Q k H) := by
  intro pins s σ H x v Q I rx h
  obtain ⟨k, e, q⟩ := h
  have hl := line63
  have hs : sizeLine = 16777216 := sizeLine_eq
  cases x with
  | non =>
    cases rx
    have e' : k = false := e
    subst e'
    exact truthy_none ⟨H, I, q⟩
  | bl b =>
    cases rx
    have e' : k = b := e
    subst e'
    exact wpAny_truthy_bool ⟨H, I, q⟩
  | int i =>
    obtain ⟨t, rfl⟩ := rx
    have e' : k = (i != 0) := e
    subst e'
    exact PySem.P.truthy_int ⟨H, I, q⟩
  | str y =>
    obtain ⟨t, rfl⟩ := rx
    obtain ⟨hy, e'⟩ : y.length ≤ sizeLine ∧ k = ((y.length : Int) != 0) := e
    subst e'
    exact PySem.P.truthy_str (by omega) ⟨H, I.tok _, q⟩
  | byt y =>
    obtain ⟨t, rfl⟩ := rx
    obtain ⟨hy, e'⟩ : y.size ≤ sizeLine ∧ k = ((y.size : Int) != 0) := e
    subst e'
    exact PySem.W.truthy_bytes (by omega) ⟨H, I.tok _, q⟩
  | ref p =>
    cases rx
    have e' : (∃ xs, SqL X.K H p xs ∧ k = !xs.isEmpty) ∨ (∃ xs, SqT X.K H p xs ∧ k = !xs.isEmpty) ∨ ∃ kvs, H p = some (.dK kvs) ∧ k = !kvs.isEmpty := e
    rcases e' with ⟨xs, hx, e'⟩ | ⟨xs, hx, e'⟩ | ⟨kvs, hx, e'⟩
    · subst e'
      obtain ⟨its, r, pl, hz⟩ := I.list hx
      have hlen := r.length
      exact wpAny_truthy_list pl.isList (by simp only [List.size_toArray]; omega) ⟨H, I.tok _, by rw [isEmpty_of r]; exact q⟩
    · subst e'
      obtain ⟨its, r, pl, hz⟩ := I.tuple hx
      have hlen := r.length
      exact truthy_tuple pl (by simp only [List.size_toArray]; omega) ⟨H, I.tok _, by rw [isEmpty_of r]; exact q⟩
    · subst e'
      obtain ⟨hz, hS, vs, r, m⟩ : kvs.length ≤ sizeLine ∧ (p == sysModules) = false ∧ ∃ vs, KV kvs vs ∧ s.heap.DictOf (mixKind X.prog X.w) p vs := I.hok p _ hx
      have hlen : kvs.length = vs.length := Paired.length r
      exact wpAny_truthy_dict hS m (by omega) ⟨H, I.tok _, by rw [isEmpty_kv r]; exact q⟩
  | _ => exact (show False from e).elim
theorem op_add_str : OpR X (binaryOp .Add) (fun x y H Q => ∃ i j, x = .str i ∧ y = .str j ∧ i.length + j.length ≤ sizeLine ∧ Q (.str (i ++ j)) H) := by
  intro pins s σ H x y v u Q I rx ry h
  obtain ⟨i, j, rfl, rfl, hz, q⟩ := h
  obtain ⟨t, rfl⟩ := rx
  obtain ⟨t', rfl⟩ := ry
  exact add_str (fun t' tk => ⟨.str (i ++ j), H, I.tok _, ⟨_, rfl⟩, q⟩) hz
theorem iop_add_str : OpR X (inplaceOp .Add) (fun x y H Q => ∃ i j, x = .str i ∧ y = .str j ∧ i.length + j.length ≤ sizeLine ∧ Q (.str (i ++ j)) H) := by
  intro pins s σ H x y v u Q I rx ry h
  obtain ⟨i, j, rfl, rfl, hz, q⟩ := h
  obtain ⟨t, rfl⟩ := rx
  obtain ⟨t', rfl⟩ := ry
  exact iadd_str (fun t' tk => ⟨.str (i ++ j), H, I.tok _, ⟨_, rfl⟩, q⟩) hz
theorem vals1 {x : V} {us : List Value} (r : Vals [x] us) : ∃ u, us = [u] ∧ RelV x u := by
  cases r with
  | cons r1 r2 => cases r2; exact ⟨_, rfl, r1⟩
theorem vals2 {x y : V} {us : List Value} (r : Vals [x, y] us) : ∃ u w', us = [u, w'] ∧ RelV x u ∧ RelV y w' := by
  cases r with
  | cons r1 r2 =>
    cases r2 with
    | cons r3 r4 => cases r4; exact ⟨_, _, rfl, r1, r3⟩
end
end L2
namespace L2
open PySem PySem.Spec PyProof.Rows
structure ObjM (h : Heap) (x dx C : Addr) (mA : Str → Option Value) : Prop where
  obj : h.get? x = some (PySem.W.instObj C dx)
  ns : h.Ns1 dx mA
  ne : dx ≠ x
theorem lookIn_ns {h : Heap} {dx : Addr} {mA : Str → Option Value} (n : h.Ns1 dx mA) : ∃ od, h.get? dx = some od ∧ ∀ name, PySem.W.lookIn name od = some (mA name) := by
  obtain ⟨o, es, ep, ho, hd, hk, _, hm⟩ := n
  refine ⟨o, ho, fun name => ?_⟩
  have e := hm name
  unfold nsFind findBy at e
  rw [← Array.find?_toList] at e
  unfold PySem.W.lookIn
  rw [hd]
  dsimp only
  split
  · rename_i y q
    rw [q] at e
    exact congrArg some e
  · rename_i q
    rw [q] at e
    have a : es.toList.any (·.refKey) = false := by
      rw [List.any_eq_false]
      intro y hy
      obtain ⟨z, t, hkey⟩ := hk y (Array.mem_toList_iff.mp hy)
      simp [DictEntry.refKey, hkey]
    have a' : ¬ es.toList.any (·.refKey) = true := by rw [a]; exact Bool.false_ne_true
    rw [if_neg a']
    exact congrArg some e
theorem ObjM.look {h : Heap} {x dx C : Addr} {mA : Str → Option Value} (I : ObjM h x dx C mA) : ∃ od, PySem.W.InstAt h x (PySem.W.instObj C dx) C (some od) ∧ ∀ name, PySem.W.lookIn name od = some (mA name) :=
  let ⟨od, ho, hl⟩ := lookIn_ns I.ns
  ⟨od, ⟨I.obj, rfl, rfl, ho⟩, hl⟩
section
variable {prog : Program} {w : World} {A : Around} {E : Value → Shared → Prop} {s : Shared} {K : PySem.W.Frag} {x dx C f : Addr} {mA : Str → Option Value} {name : Str} {v : Value}
theorem get_map {expr : Bool} {Q : Value → Shared → Prop} (X : K.In s.heap) (I : ObjM s.heap x dx C mA) (hg : PySem.W.plainGet K C name = true) (hh : PySem.W.hasDictIn K C = true)
    (ha : PySem.W.findIn K (.ref C) name = some none) (hv : mA name = some v) (hv' : PySem.W.handedIn v = true) (h : Q v { s with toks := s.toks + 1 }) :
    wpAny (model prog w) A (getAttr (.ref x) name expr) Q E s := by
  obtain ⟨od, J, hl⟩ := I.look
  exact PySem.W.get_value X J (PySem.W.plainGet_of hg).1 (PySem.W.findObj_own hh ha rfl (by rw [hl, hv])) hv' h
theorem get_meth {pl : Sem Bool} {Q : Value × List Value → Shared → Prop} (X : K.In s.heap) (I : ObjM s.heap x dx C mA) (hg : PySem.W.plainGet K C name = true)
    (hf : PySem.W.findIn K (.ref C) name = some (some (.ref f))) (ht : PySem.W.isFn K (.ref f) = true) (hv : mA name = none) (h : Q (.ref f, [.ref x]) s) :
    wpAny (model prog w) A (getMethod (.ref x) name pl) Q E s := by
  obtain ⟨od, J, hl⟩ := I.look
  exact PySem.W.method_fn X J (PySem.W.plainGet_of hg).1 (PySem.W.plainGet_of hg).2 hf (beq_iff_eq.mp ht) (by show (PySem.W.lookIn name od).map (·.isSome) = some false; rw [hl, hv]; rfl) h
theorem set_map {ns : List Str} {Q : Unit → Shared → Prop} (X : K.In s.heap) (I : ObjM s.heap x dx C mA)
    (hs : PySem.W.findIn K (.ref C) "__setattr__" = some (some (.builtin "object.__setattr__"))) (hp : PySem.W.plainOver K C = true) (ht : PySem.W.takerIn K C name = some none) (hh : PySem.W.hasDictIn K C = true)
    (hw : PySem.Within mA ns) (hsz : ns.length ≤ sizeLine)
    (h : ∀ h', ObjM h' x dx C (fun y => if y = name then some v else mA y) → Heap.SameBut dx s.heap h' → Q () { s with heap := h', toks := s.toks + 2 }) :
    wpAny (model prog w) A (setAttr (.ref x) name v) Q E s := by
  obtain ⟨od, J, hl⟩ := I.look
  refine PySem.W.set_plain X J hs (PySem.W.osa_open (s := { s with toks := s.toks + 1 }) (r := none) X J hp ht fun b => ?_)
  obtain ⟨cd, hc, hd'⟩ := PySem.W.any_some hh
  have hx : s.heap.get? x = some ⟨.ref C, some dx, .plain, #[]⟩ := I.obj
  refine wpAny_bind (wpAny_pure (wpAny_bind (wpAny_bind (wpAny_loadPart hx (wpAny_bind (PySem.W.Looks.here (s := { s with toks := s.toks + 1 }) (PySem.W.looks_clsIn X hc) ?_))))))
  rw [hd']
  refine wpAny_pure (a := some dx) (wpAny_bind (wpAny_pure (wpAny_bind ?_)))
  refine wpAny_nsSet1 (s := { s with toks := s.toks + 1 }) I.ns fun h' hn2 hs2 => ?_
  obtain ⟨oD, esD, epD, hoD, hdD, hcD⟩ := hn2.count (PySem.Within.cons name v hw)
  refine wpAny_bind (wpAny_lookBehind hoD (by rw [hdD]; exact pastItsLine_dict (Nat.le_trans hcD (by rw [List.length_cons]; omega))) ?_)
  exact wpAny_pure (h _ ⟨(hs2.2 _ (Ne.symm I.ne)).trans I.obj, hn2, I.ne⟩ hs2)
theorem make_map {R : Result → Shared → Prop} {vs : List Value} {kw : List (Str × Value)} (X : K.In s.heap) (hm : PySem.W.makesIn K C = true)
    (hi : PySem.W.findIn K (.ref C) "__init__" = some (some (.ref f))) (hf : PySem.W.typeIn K (.ref f) = some (.type "function"))
    (h : codeAny (model prog w) (A.under (.builtin "type.__call__" ⟨.ref C :: vs, kw⟩)) (.call (.ref f) ⟨.ref (s.heap.objs.size + 1) :: vs, kw⟩) (PySem.W.InitBack (s.heap.objs.size + 1) R)
      { s with heap := (s.heap.push PySem.W.emptyDict).push (PySem.W.instObj C s.heap.objs.size) }) :
    codeAny (model prog w) A (.call (.ref C) ⟨vs, kw⟩) R s := by
  obtain ⟨hh, g, d, t, os⟩ := s
  exact PySem.W.make_core (PySem.W.makes_of X hm) (PySem.W.looks_findIn X hi) (fun self => PySem.W.bind_fn X self hf) (.inl rfl) h
end
noncomputable def putF (f : Str) (v : V) : List (Str × V) → List (Str × V)
  | [] => [(f, v)]
  | (g, x) :: r => if g = f then (g, v) :: r else (g, x) :: putF f v r
theorem lookup_putF (f g : Str) (v : V) : ∀ fs : List (Str × V), (putF f v fs).lookup g = if g = f then some v else fs.lookup g
  | [] => by
    show List.lookup g [(f, v)] = _
    by_cases h : g = f
    · have hb : (g == f) = true := beq_iff_eq.mpr h
      simp only [List.lookup, hb, if_pos h]
    · have hb : (g == f) = false := beq_eq_false_iff_ne.mpr h
      simp only [List.lookup, hb, if_neg h]
  | (k, x) :: r => by
    have ih := lookup_putF f g v r
    rw [show putF f v ((k, x) :: r) = (if k = f then (k, v) :: r else (k, x) :: putF f v r) from rfl]
    by_cases hk : k = f
    · rw [if_pos hk]
      by_cases h : g = k
      · have hb : (g == k) = true := beq_iff_eq.mpr h
        simp only [List.lookup, hb, if_pos (h.trans hk)]
      · have hb : (g == k) = false := beq_eq_false_iff_ne.mpr h
        simp only [List.lookup, hb, if_neg (fun e : g = f => h (e.trans hk.symm))]
    · rw [if_neg hk]
      by_cases h : g = k
      · have hb : (g == k) = true := beq_iff_eq.mpr h
        simp only [List.lookup, hb, if_neg (fun e : g = f => hk (h.symm.trans e))]
      · have hb : (g == k) = false := beq_eq_false_iff_ne.mpr h
        simp only [List.lookup, hb]
        exact ih
theorem keys_putF (f : Str) (v : V) : ∀ fs : List (Str × V), f ∈ (putF f v fs).map (·.1) ∧ ∀ g, g ∈ fs.map (·.1) → g ∈ (putF f v fs).map (·.1)
  | [] => ⟨by simp [putF], fun g h => by simp at h⟩
  | (k, x) :: r => by
    obtain ⟨i1, i2⟩ := keys_putF f v r
    rw [show putF f v ((k, x) :: r) = (if k = f then (k, v) :: r else (k, x) :: putF f v r) from rfl]
    by_cases hk : k = f
    · rw [if_pos hk]
      subst hk
      exact ⟨by simp, fun g h => by simpa using h⟩
    · rw [if_neg hk]
      refine ⟨?_, fun g h => ?_⟩
      · rw [List.map_cons]
        exact List.mem_cons_of_mem _ i1
      · rw [List.map_cons] at h ⊢
        rcases List.mem_cons.mp h with e | e
        · exact List.mem_cons.mpr (.inl e)
        · exact List.mem_cons_of_mem _ (i2 g e)
theorem length_putF (f : Str) (v : V) : ∀ fs : List (Str × V), (putF f v fs).length ≤ fs.length + 1
  | [] => by simp [putF]
  | (k, x) :: r => by
    have ih := length_putF f v r
    rw [show putF f v ((k, x) :: r) = (if k = f then (k, v) :: r else (k, x) :: putF f v r) from rfl]
    by_cases hk : k = f
    · rw [if_pos hk, List.length_cons, List.length_cons]; omega
    · rw [if_neg hk, List.length_cons, List.length_cons]; omega
theorem RelO.some_of {v : V} {o : Option Value} (r : RelO (some v) o) : ∃ u, o = some u ∧ RelV v u := by
  cases o with
  | none => exact (show False from r).elim
  | some u => exact ⟨u, rfl, r⟩
theorem RelO.none_of {o : Option Value} (r : RelO none o) : o = none := by
  cases o with
  | none => rfl
  | some u => exact (show False from r).elim
theorem handed_of {v : V} {u : Value} (r : RelV v u) : PySem.W.handedIn u = true := by
  cases v with
  | non => cases (show u = Value.none from r); rfl
  | bl b => cases (show u = Value.bool b from r); rfl
  | int i => obtain ⟨t, e⟩ := (show ∃ t, u = Value.int i t from r); cases e; rfl
  | str x => obtain ⟨t, e⟩ := (show ∃ t, u = Value.str x t from r); cases e; rfl
  | byt b => obtain ⟨t, e⟩ := (show ∃ t, u = Value.bytes b t from r); cases e; rfl
  | flt b => obtain ⟨t, e⟩ := (show ∃ t, u = Value.float b t from r); cases e; rfl
  | ref a => cases (show u = Value.ref a from r); rfl
  | ty n => cases (show u = Value.type n from r); rfl
section
variable {P : Program} {w : World} {H H' : Hp} {h h' : Heap} {a C dx : Addr} {fs fs' : List (Str × V)}
theorem ins_get (hok : HOk P w H h) (e : H a = some (.ins C dx fs)) : ∃ mA, ObjM h a dx C mA ∧ (∀ f, RelO (fs.lookup f) (mA f)) ∧ PySem.Within mA (fs.map (·.1)) ∧ fs.length ≤ 1000 ∧ H dx = some (.own a) := by
  obtain ⟨d, z, ne, ob, mA, n, r, q⟩ := (show ObjOk P w H h a (.ins C dx fs) from hok a _ e)
  exact ⟨mA, ⟨ob, n, ne⟩, r, q, z, d⟩
end
structure Cls (K : PySem.W.Frag) (C : Addr) : Prop where
  pg : PySem.W.plainGet K C Str.empty = true
  hd : PySem.W.hasDictIn K C = true
  po : PySem.W.plainOver K C = true
  sa : PySem.W.findIn K (.ref C) "__setattr__" = some (some (.builtin "object.__setattr__"))
theorem Cls.get {K : PySem.W.Frag} {C : Addr} (c : Cls K C) (f : Str) : PySem.W.plainGet K C f = true := c.pg
noncomputable def NoAttr (K : PySem.W.Frag) (C : Addr) (f : Str) : Prop := PySem.W.findIn K (.ref C) f = some none
theorem NoAttr.taker {K : PySem.W.Frag} {C : Addr} {f : Str} (n : NoAttr K C f) : PySem.W.takerIn K C f = some none := by
  unfold PySem.W.takerIn
  rw [show PySem.W.findIn K (.ref C) f = some none from n]
  rfl
structure Con (K : PySem.W.Frag) (C : Addr) (f : Str) (v : V) (u : Value) : Prop where
  at_ : PySem.W.findIn K (.ref C) f = some (some u)
  rel : RelV v u
  get : PySem.W.specialIn K u "__get__" = some none
  cp : PySem.W.copiedNames.contains f = false
structure Meth (K : PySem.W.Frag) (C : Addr) (m : Str) (f : Addr) : Prop where
  at_ : PySem.W.findIn K (.ref C) m = some (some (.ref f))
  fn : PySem.W.isFn K (.ref f) = true
  kp : PySem.W.keepIn K (.ref f) = true
section
variable {X : Cx} {pins : List (Addr × Obj)} {σ : St} {H : Hp} {s : Shared} {a C dx : Addr} {fs : List (Str × V)} {f : Str} {v : V} {A : Around} {E : Value → Shared → Prop}
theorem getattr_ok {b : Bool} {Q : Value → Shared → Prop} (I : Inv X pins σ H s) (e : H a = some (.ins C dx fs)) (c : Cls X.K C) (n : NoAttr X.K C f) (l : fs.lookup f = some v)
    (h : ∀ u s', Inv X pins σ H s' → RelV v u → Q u s') : wpAny (model X.prog X.w) A (getAttr (.ref a) f b) Q E s := by
  obtain ⟨mA, O, r, _, _, _⟩ := ins_get I.hok e
  obtain ⟨u, hu, ru⟩ := RelO.some_of (v := v) (o := mA f) (by rw [← l]; exact r f)
  exact get_map I.kIn O (c.get f) c.hd n hu (handed_of ru) (h u _ (I.tok _) ru)
theorem getmeth_ok {m : Str} {g : Addr} {pl : Sem Bool} {Q : Value × List Value → Shared → Prop} (I : Inv X pins σ H s) (e : H a = some (.ins C dx fs)) (c : Cls X.K C) (k : Meth X.K C m g) (l : fs.lookup m = none)
    (h : Q (.ref g, [.ref a]) s) : wpAny (model X.prog X.w) A (getMethod (.ref a) m pl) Q E s := by
  obtain ⟨mA, O, r, _, _, _⟩ := ins_get I.hok e
  have hn : mA m = none := RelO.none_of (by rw [← l]; exact r m)
  exact get_meth I.kIn O (c.get m) k.at_ k.fn hn h
theorem setattr_ok {y : V} {u : Value} {Q : Unit → Shared → Prop} (I : Inv X pins σ H s) (e : H a = some (.ins C dx fs)) (c : Cls X.K C) (n : NoAttr X.K C f) (hl : fs.length < 1000) (ry : RelV y u)
    (h : ∀ s', Inv X pins σ (upd H a (.ins C dx (putF f y fs))) s' → Q () s') : wpAny (model X.prog X.w) A (setAttr (.ref a) f u) Q E s := by
  obtain ⟨mA, O, r, wi, _, ho⟩ := ins_get I.hok e
  have hz : (fs.map (·.1)).length ≤ sizeLine := by rw [List.length_map, sizeLine_eq]; omega
  refine set_map I.kIn O c.sa c.po n.taker c.hd wi hz fun h' O' sb => h _ ?_
  have hd : ∃ o, h'.get? dx = some o := let ⟨o, _, _, e', _⟩ := O'.ns; ⟨o, e'⟩
  refine I.write (x := a) (e := dx) (by rw [e]; exact True.intro) (.inr ho) (fun b q hb z => (sb.2 b hb).trans z) hd ?_
  refine ⟨by rw [upd_ne O.ne]; exact ho, ?_, O.ne, O'.obj, _, O'.ns, fun g => ?_, fun g hg => ?_⟩
  · have := length_putF f y fs; omega
  · show RelO ((putF f y fs).lookup g) (if g = f then some u else mA g)
    rw [lookup_putF]
    by_cases q : g = f
    · rw [if_pos q, if_pos q]; exact ry
    · rw [if_neg q, if_neg q]; exact r g
  · by_cases q : g = f
    · rw [q]; exact (keys_putF f y fs).1
    · refine (keys_putF f y fs).2 g (wi g fun z => hg ?_)
      show (if g = f then some u else mA g) = none
      rw [if_neg q]; exact z
theorem Inv.made (I : Inv X pins σ H s) : Inv X pins σ (upd (upd H s.heap.objs.size (.own (s.heap.objs.size + 1))) (s.heap.objs.size + 1) (.ins C s.heap.objs.size []))
    { s with heap := (s.heap.push PySem.W.emptyDict).push (PySem.W.instObj C s.heap.objs.size) } := by
  have e1 : (s.heap.push PySem.W.emptyDict).get? s.heap.objs.size = some PySem.W.emptyDict := Heap.get?_push_size s.heap rfl
  have e2 : ((s.heap.push PySem.W.emptyDict).push (PySem.W.instObj C s.heap.objs.size)).get? (s.heap.objs.size + 1) = some (PySem.W.instObj C s.heap.objs.size) := by
    have := Heap.get?_push_size (s.heap.push PySem.W.emptyDict) (o := PySem.W.instObj C s.heap.objs.size) rfl
    rwa [Heap.size_push] at this
  have e3 : (s.heap.push PySem.W.emptyDict).Ns s.heap.objs.size (fun _ => none) := ⟨PySem.W.emptyDict, #[], _, e1, rfl, (fun e he => absurd he (by simp)), fun _ => rfl⟩
  have I1 := I.laid (a := s.heap.objs.size) (o := .own (s.heap.objs.size + 1)) (h' := s.heap.push PySem.W.emptyDict) (t' := s.toks) (fun b u q => Heap.get?_push_of_some _ q) (Nat.le_refl _) ⟨_, e1⟩
  refine I1.laid (a := s.heap.objs.size + 1) (o := .ins C s.heap.objs.size []) (t' := s.toks) (fun b u q => Heap.get?_push_of_some _ q) (Nat.le_of_eq (Heap.size_push _ _)) ?_
  have ne : s.heap.objs.size ≠ s.heap.objs.size + 1 := Nat.ne_of_lt (Nat.lt_succ_self _)
  refine ⟨by rw [upd_ne ne, upd_same], Nat.zero_le _, ne, e2, fun _ => none, (Heap.Ns1.of_empty e3).at fun o q => Heap.get?_push_of_some _ q, fun _ => True.intro, fun y hy => absurd rfl hy⟩
theorem attr_of {prog : Program} {w : World} {env : Env} {e : Expr} {f : Str} {pos : Pos} {s : Shared} {Q : Value → Shared → Prop} (hb : attributeBase e f env (eval e env) = eval e env)
    (h : wpAny (model prog w) A (eval e env) (fun o s₁ => wpAny (model prog w) A (getAttr o f true) Q E s₁) E s) : wpAny (model prog w) A (eval (.Attribute e f pos) env) Q E s :=
  Attribute_any_ h (by rw [arm_eval_Attribute, hb])
end
noncomputable def tFld (K : PySem.W.Frag) (ta : TE) (f : Str) : TE := fun σ H Q => ta σ H fun x H1 => ∃ a C dx fs v, x = .ref a ∧ H1 a = some (.ins C dx fs) ∧ Cls K C ∧ NoAttr K C f ∧ fs.lookup f = some v ∧ Q v H1
noncomputable def sFld (K : PySem.W.Frag) (ta tv : TE) (f : Str) : TS := fun D σ H => tv σ H fun y H1 => ta σ H1 fun x H2 => ∃ a C dx fs, x = .ref a ∧ H2 a = some (.ins C dx fs) ∧ Cls K C ∧ NoAttr K C f ∧ fs.length < 1000 ∧
  D.nx σ (upd H2 a (.ins C dx (putF f y fs)))
noncomputable def InOp (X : Cx) (op : Operator) (rd : V → V → Hp → VK → Prop) : Prop :=
  ∀ (pins : List (Addr × Obj)) (s : Shared) (σ : St) (H : Hp) (x y : V) (u v : Value) (Q : VK), Inv X pins σ H s → RelV x u → RelV y v → rd x y H Q → wpAny (model X.prog X.w) X.A (inplaceOp op u v) (EP X pins σ Q) X.xe s
section
variable {X : Cx} {o e value : Expr} {f : Str} {pos pos' tpos : Pos} {ta tv : TE}
theorem pe_fld (he : PE X e ta) (hb : attributeBase e f X.env (eval e X.env) = eval e X.env) : PE X (.Attribute e f pos) (tFld X.K ta f) := by
  intro pins s σ H Q I h
  refine attr_of hb (thn (he pins s σ H _ I h) fun u s1 ⟨x, H1, I1, rx, a, C, dx, fs, v, ex, ea, c, n, l, q⟩ => ?_)
  subst ex
  obtain rfl : u = Value.ref a := rx
  exact getattr_ok I1 ea c n l fun u' s2 I2 ru => ⟨v, H1, I2, ru, q⟩
theorem ps_fld (ha : PE X o ta) (hv : PE X value tv) (hs : swapsWith value (some (.Attribute o f pos')) pos.line X.env = pure false) : PS X (.Assign [.Attribute o f pos'] value pos) (sFld X.K ta tv f) := by
  intro pins s σ H D I h
  refine plainObj_wpAny_Assign_Attribute (thn (hv pins s σ H _ I h) fun u s1 ⟨y, H1, I1, ry, q⟩ => thn (ha pins s1 σ H1 _ I1 q) fun ov s2 ⟨x, H2, I2, rx, a, C, dx, fs, ex, ea, c, n, l, q2⟩ => ?_) hs
  subst ex
  obtain rfl : ov = Value.ref a := rx
  exact setattr_ok I2 ea c n l ry fun s3 I3 => ⟨σ, _, I3, q2⟩
end
section
variable {X : Cx} {pins : List (Addr × Obj)} {σ : St} {H : Hp} {s : Shared} {A : Around} {E : Value → Shared → Prop} {Q : Value → Shared → Prop} {c : Value} {b : Bool}
inductive TyOf (K : PySem.W.Frag) (H : Hp) : V → Value → Prop where
  | non : TyOf K H .non (.type "NoneType")
  | bl (x : Bool) : TyOf K H (.bl x) (.type "bool")
  | int (i : Int) : TyOf K H (.int i) (.type "int")
  | str (x : Str) : TyOf K H (.str x) (.type "str")
  | flt (x : UInt64) : TyOf K H (.flt x) (.type "float")
  | lst {a : Addr} {xs : List V} (e : H a = some (.lst xs)) : TyOf K H (.ref a) (.type "list")
  | frz {a : Addr} {o : Obj} {xs : List V} (e : H a = some (.frz o (.lst xs))) : TyOf K H (.ref a) (.type "list")
  | tup {a : Addr} {xs : List V} (e : H a = some (.tup xs)) : TyOf K H (.ref a) (.type "tuple")
  | dK {a : Addr} {kvs : List (Key × V)} (e : H a = some (.dK kvs)) : TyOf K H (.ref a) (.type "dict")
  | dT {a : Addr} {kvs : List (List Key × V)} (e : H a = some (.dT kvs)) : TyOf K H (.ref a) (.type "dict")
  | ins {a C dx : Addr} {fs : List (Str × V)} (e : H a = some (.ins C dx fs)) (cl : Cls K C) (ha : PySem.W.findIn K (.ref C) "__class__" = some (some (.builtin "object.__class__")))
      (hn : PySem.W.specialIn K (.builtin "object.__class__") "__get__" = some (some (.builtin "getset_descriptor.__get__"))) (htk : PySem.W.takesIn K (.builtin "object.__class__") = some true)
      (hm : PySem.W.mroIn K C (.type "object") = some true) : TyOf K H (.ref a) (.ref C)
theorem isinst_ok {x : V} {u t : Value} (I : Inv X pins σ H s) (rx : RelV x u) (ty : TyOf X.K H x t) (e : PySem.W.kitOne X.K t c = some b) (h : ∀ tk, Q (.bool b) { s with toks := tk }) :
    wpAny (model X.prog X.w) A (call (.builtin "isinstance") [u, c]) Q E s := by
  cases ty with
  | non => cases (show u = Value.none from rx); exact PySem.W.kia_one PySem.W.kitx_none I.kIn True.intro e (fun z => nomatch z) h
  | bl y => cases (show u = Value.bool y from rx); exact PySem.W.kia_one PySem.W.kitx_bool I.kIn True.intro e (fun z => nomatch z) h
  | int i => obtain ⟨t, q⟩ := (show ∃ t, u = Value.int i t from rx); cases q; exact PySem.W.kia_one PySem.W.kitx_int I.kIn True.intro e (fun z => nomatch z) h
  | str y => obtain ⟨t, q⟩ := (show ∃ t, u = Value.str y t from rx); cases q; exact PySem.W.kia_one PySem.W.kitx_str I.kIn True.intro e (fun z => nomatch z) h
  | flt y => obtain ⟨t, q⟩ := (show ∃ t, u = Value.float y t from rx); cases q; exact PySem.W.kia_one PySem.W.kitx_float I.kIn True.intro e (fun z => nomatch z) h
  | @lst a xs ea =>
    cases (show u = Value.ref a from rx)
    obtain ⟨_, _, n, _, h1⟩ := (show ObjOk X.prog X.w H s.heap a (.lst xs) from I.hok a _ ea)
    exact PySem.W.kia_one PySem.W.kitx_list I.kIn ⟨_, h1, rfl⟩ e (fun z => nomatch z) h
  | @frz a ob xs ea =>
    cases (show u = Value.ref a from rx)
    obtain ⟨_, _, _, n, _, h1⟩ := (show ObjOk X.prog X.w H s.heap a (.frz ob (.lst xs)) from I.hok a _ ea)
    exact PySem.W.kia_one PySem.W.kitx_list I.kIn ⟨_, h1, rfl⟩ e (fun z => nomatch z) h
  | @tup a xs ea =>
    cases (show u = Value.ref a from rx)
    obtain ⟨_, _, _, p⟩ := (show ObjOk X.prog X.w H s.heap a (.tup xs) from I.hok a _ ea)
    obtain ⟨o, h1, h2, _⟩ := p
    exact PySem.W.kia_one PySem.W.kitx_tuple I.kIn ⟨o, h1, h2⟩ e (fun z => nomatch z) h
  | @dK a kvs ea =>
    cases (show u = Value.ref a from rx)
    obtain ⟨_, _, vs, _, p⟩ := (show ObjOk X.prog X.w H s.heap a (.dK kvs) from I.hok a _ ea)
    obtain ⟨o, es, ep, h1, h2, _⟩ := p
    exact PySem.W.kia_one PySem.W.kitx_dict I.kIn ⟨o, h1, h2.1⟩ e (fun z => nomatch z) h
  | @dT a kvs ea => exact False.elim (show ObjOk X.prog X.w H s.heap a (.dT kvs) from I.hok a _ ea)
  | @ins a C dx fs ea cl ha hn htk hm =>
    cases (show u = Value.ref a from rx)
    obtain ⟨mA, O, _⟩ := ins_get I.hok ea
    obtain ⟨od, J, _⟩ := O.look
    exact PySem.W.kia_one (PySem.W.kitx_own (cl.get _) cl.hd ha hn htk hm) I.kIn J e (fun z => nomatch z) h
end
end L2
namespace L2
open PySem PySem.Spec PyProof.Rows
structure Room (k : Nat) (A : Around) : Prop where
  hd : A.handled = none
  dp : A.depth + 3 * k + 5 < recursionLimit
  un : A.units + 16 * k + 200 < cLine
theorem Room.mono {j k : Nat} {A : Around} (r : Room k A) (h : j ≤ k) : Room j A := ⟨r.hd, by have := r.dp; omega, by have := r.un; omega⟩
theorem Room.deeper {k : Nat} {A : Around} (r : Room (k + 1) A) (env : Env) : Room k (A.deeper env) :=
  ⟨r.hd, by have := r.dp; show A.depth + 1 + 3 * k + 5 < _; omega, by have := r.un; show A.units + 3 + 16 * k + 200 < _; omega⟩
theorem Room.in1 {k : Nat} {A : Around} (r : Room (k + 1) A) : Room k A.in1 :=
  ⟨r.hd, by have := r.dp; show A.depth + 3 * k + 5 < _; omega, by have := r.un; show A.units + 1 + 16 * k + 200 < _; omega⟩
theorem make_depth {A : Around} {C : Addr} {us : List Value} {kw : List (Str × Value)} : (A.under (.builtin "type.__call__" ⟨.ref C :: us, kw⟩)).depth = A.depth + 1 := by
  first | rfl | simp [Around.under, Code.weight, Code.isCreation, Code.isGuard, Code.isCaller, Code.frames, Code.isFrame, guardIds]
theorem make_units {A : Around} {C : Addr} {us : List Value} {kw : List (Str × Value)} : (A.under (.builtin "type.__call__" ⟨.ref C :: us, kw⟩)).units = A.units + 1 := by
  first | rfl | simp [Around.under, Code.cUnits, Code.frames, Code.isFrame]
theorem Room.make {k : Nat} {A : Around} (r : Room (k + 1) A) (C : Addr) (us : List Value) (kw : List (Str × Value)) : Room k (A.under (.builtin "type.__call__" ⟨.ref C :: us, kw⟩)) :=
  ⟨r.hd, by have := r.dp; rw [make_depth]; omega, by have := r.un; rw [make_units]; omega⟩
theorem Room.depth {k : Nat} {A : Around} (r : Room k A) : A.depth < recursionLimit := by have := r.dp; omega
theorem Room.units {k : Nat} {A : Around} (r : Room k A) : A.units + 64 < cLine := by have := r.un; omega
noncomputable def tNil : TA := fun _ H Q => Q [] H
noncomputable def tCons (ta : TE) (tr : TA) : TA := fun σ H Q => ta σ H fun x H1 => tr σ H1 fun xs H2 => Q (x :: xs) H2
section
variable {X : Cx} {e : Expr} {es : List Expr} {te : TE} {t : TA} {pos : Pos}
theorem pa_nil : PA X [] tNil := fun _ _ _ _ H Q I h => Calls.spliced_nil ⟨[], H, I, .nil, h⟩
theorem pa_cons (ha : PE X e te) (hr : PA X es t) (hs : starEach (e :: es) X.env = (false, eval e X.env) :: starEach es X.env := by rfl) : PA X (e :: es) (tCons te t) := by
  intro pos pins s σ H Q I h
  rw [hs]
  show wpAny _ _ (spliced ((false, eval e X.env) :: backTo pos (starEach es X.env))) _ _ s
  refine Calls.spliced_cons (thn (ha pins s σ H _ I h) fun u s1 ⟨x, H1, I1, r1, q1⟩ => ?_)
  exact thn (hr pos pins s1 σ H1 _ I1 q1) fun us s2 ⟨xs, H2, I2, r2, q2⟩ => ⟨x :: xs, H2, I2, .cons r1 r2, q2⟩
noncomputable def tTup (t : TA) : TE := fun σ H Q => t σ H fun xs H1 => xs.length ≤ sizeLine ∧ ∀ p, H1 p = none → Q (.ref p) (upd H1 p (.tup xs))
noncomputable def tLst (t : TA) : TE := fun σ H Q => t σ H fun xs H1 => xs.length ≤ sizeLine ∧ ∀ p, H1 p = none → Q (.ref p) (upd H1 p (.lst xs))
theorem pe_tup {x1} (h : PA X es t) : PE X (.Tuple es x1 pos) (tTup t) := by
  intro pins s σ H Q I hq
  refine wpAny_Tuple_spliced (thn (h pos pins s σ H _ I hq) fun us s1 ⟨xs, H1, I1, r, z, q⟩ => ⟨by rw [← r.length]; exact z, ?_⟩)
  have hf : H1 s1.heap.objs.size = none := I1.hok.fresh (Nat.le_refl _)
  refine ⟨.ref s1.heap.objs.size, upd H1 s1.heap.objs.size (.tup xs), I1.laid (t' := s1.toks) (fun b u e => Heap.get?_push_of_some _ e) (Nat.le_refl _) ?_, rfl, q _ hf⟩
  exact ⟨z, us, r, ⟨_, Heap.get?_push_size _ rfl, rfl, _, rfl⟩⟩
theorem pe_lst (h : PA X es t) : PE X (.List es pos) (tLst t) := by
  intro pins s σ H Q I hq
  refine wpAny_List_spliced (thn (h pos pins s σ H _ I hq) fun us s1 ⟨xs, H1, I1, r, z, q⟩ => ⟨by rw [← r.length]; exact z, ?_⟩)
  have hf : H1 s1.heap.objs.size = none := I1.hok.fresh (Nat.le_refl _)
  refine ⟨.ref s1.heap.objs.size, upd H1 s1.heap.objs.size (.lst xs), I1.laid (t' := s1.toks) (fun b u e => Heap.get?_push_of_some _ e) (Nat.le_refl _) ?_, rfl, q _ hf⟩
  exact ⟨z, us, 0, r, Heap.get?_push_size _ rfl⟩
end
abbrev Sp := List V → Hp → VK → XK → Prop
abbrev CXT := List Env → Hp → Shared → XK → Value → Shared → Prop
structure Env0 (P : Program) (w : World) (K : PySem.W.Frag) (mg : Str → Option Value) (base : Heap) (A : Around) (outer : List Env) (s : Shared) (H : Hp) : Prop where
  frames : A.frames = some outer
  mod : Mod K mg base
  bs : ∀ b o, base.get? b = some o → s.heap.get? b = some o ∧ H b = none
  bsz : base.objs.size ≤ s.heap.objs.size
  funs : s.heap.FunFrames base outer
  frf : ∀ b ∈ frs outer, H b = none
  hok : HOk P w H s.heap
  bare : AllBare s.gens
noncomputable def CE (outer : List Env) (P : Program) (w : World) (H : Hp) (s : Shared) (Q : VK) (u : Value) (s' : Shared) : Prop :=
  ∃ v H', s'.os = s.os ∧ AllBare s'.gens ∧ Un (frs outer) [] H H' s.heap s'.heap ∧ HOk P w H' s'.heap ∧ RelV v u ∧ Q v H'
noncomputable def CR (CX : CXT) (outer : List Env) (P : Program) (w : World) (H : Hp) (s : Shared) (Q : VK) (E : XK) (r : Result) (s' : Shared) : Prop :=
  match r with
  | .ok (.ret u) => CE outer P w H s Q u s'
  | .ok _ => False
  | .error e => CX outer H s E e s'
structure FnOk (P : Program) (w : World) (K : PySem.W.Frag) (mg : Str → Option Value) (base : Heap) (CX : CXT) (k : Nat) (f : Addr) (fd : FuncData) (ps : List Str) (sp : Sp) : Prop where
  len : ∀ vs H Q E, sp vs H Q E → vs.length = ps.length
  run : ∀ (A : Around) (outer : List Env) (s : Shared) (H : Hp) (args : Args) (us : List Value) (vs : List V) (Q : VK) (E : XK), Room k A → Env0 P w K mg base A outer s H → BindsTo s fd args (ps.zip us) → Vals vs us → sp vs H Q E →
    codeAny (model P w) A (.call (.ref f) args) (CR CX outer P w H s Q E) s
theorem FnOk.mono {P : Program} {w : World} {K : PySem.W.Frag} {mg : Str → Option Value} {base : Heap} {CX : CXT} {j k : Nat} {f : Addr} {fd : FuncData} {ps : List Str} {sp : Sp} (F : FnOk P w K mg base CX j f fd ps sp) (h : j ≤ k) :
    FnOk P w K mg base CX k f fd ps sp := ⟨F.len, fun A outer s H args us vs Q E hr => F.run A outer s H args us vs Q E (hr.mono h)⟩
theorem FnOk.imp {P : Program} {w : World} {K : PySem.W.Frag} {mg : Str → Option Value} {base : Heap} {CX : CXT} {k : Nat} {f : Addr} {fd : FuncData} {ps : List Str} {sp sp' : Sp} (F : FnOk P w K mg base CX k f fd ps sp)
    (h : ∀ vs H Q E, sp' vs H Q E → sp vs H Q E) : FnOk P w K mg base CX k f fd ps sp' :=
  ⟨fun vs H Q E q => F.len vs H Q E (h _ _ _ _ q), fun A outer s H args us vs Q E hr he hb hv hs => F.run A outer s H args us vs Q E hr he hb hv (h _ _ _ _ hs)⟩
theorem Env0.make {P : Program} {w : World} {K : PySem.W.Frag} {mg : Str → Option Value} {base : Heap} {A : Around} {outer : List Env} {s : Shared} {H : Hp} (e : Env0 P w K mg base A outer s H) (C : Addr) (us : List Value) (kw : List (Str × Value)) :
    Env0 P w K mg base (A.under (.builtin "type.__call__" ⟨.ref C :: us, kw⟩)) outer s H := ⟨by first | exact e.frames | (simpa [Around.under, Code.envs, Code.isFrame, pushEnvs] using e.frames), e.mod, e.bs, e.bsz, e.funs, e.frf, e.hok, e.bare⟩
theorem Env0.in1 {P : Program} {w : World} {K : PySem.W.Frag} {mg : Str → Option Value} {base : Heap} {A : Around} {outer : List Env} {s : Shared} {H : Hp} (e : Env0 P w K mg base A outer s H) :
    Env0 P w K mg base A.in1 outer s H := ⟨e.frames, e.mod, e.bs, e.bsz, e.funs, e.frf, e.hok, e.bare⟩
section
variable {X : Cx} {pins : List (Addr × Obj)} {σ : St} {H : Hp} {s s' : Shared}
theorem Inv.env0 (I : Inv X pins σ H s) : Env0 X.prog X.w X.K X.mg X.base X.A X.stack s H :=
  ⟨I.ok.frames, I.ok.mod, I.bs, Nat.le_trans I.ok.bsz I.sz, I.stack, I.stkFree, I.hok, I.bare⟩
theorem Inv.after {Q : VK} {u : Value} (I : Inv X pins σ H s) (h : CE X.stack X.prog X.w H s Q u s') : EP X pins σ Q u s' := by
  obtain ⟨v, H', os, bare, un, hok, r, q⟩ := h
  obtain ⟨hh, g, d, t, os'⟩ := s'
  obtain rfl : os' = s.os := os
  exact ⟨v, H', I.call (h' := hh) (g' := g) (d' := d) (t' := t) (ch := []) un hok bare (fun b z => absurd z (by simp)), r, q⟩
end
noncomputable def tCall (sp : Sp) (dvs : List V) (E : XK) (t : TA) : TE := fun σ H Q => t σ H fun vs H1 => sp (vs ++ dvs) H1 Q E
noncomputable def tMeth (C : Addr) (m : Str) (sp : Sp) (dvs : List V) (E : XK) (ta : TE) (t : TA) : TE := fun σ H Q => ta σ H fun x H1 => ∃ a dx fs, x = .ref a ∧ H1 a = some (.ins C dx fs) ∧ fs.lookup m = none ∧
  t σ H1 fun vs H2 => sp (x :: (vs ++ dvs)) H2 Q E
noncomputable def tMake (C : Addr) (sp : Sp) (dvs : List V) (E : XK) (t : TA) : TE := fun σ H Q => t σ H fun vs H1 => ∀ x dx, H1 x = none → H1 dx = none → dx ≠ x →
  sp (.ref x :: (vs ++ dvs)) (upd (upd H1 dx (.own x)) x (.ins C dx [])) (fun v H2 => v = .non ∧ Q (.ref x) H2) E
noncomputable def Binds (K : PySem.W.Frag) (fd : FuncData) (ps : List Str) (ds : List Value) : Prop :=
  ∀ (s : Shared) (us : List Value), K.In s.heap → (us ++ ds).length = ps.length → BindsTo s fd ⟨us, []⟩ (ps.zip (us ++ ds))
theorem Binds.all {K : PySem.W.Frag} {fd : FuncData} {ps : List Str} (h : ∀ us : List Value, us.length = ps.length → bindArgs fd ⟨us, []⟩ = pure (ps.zip us)) : Binds K fd ps [] := fun s us _ hl => by
  rw [List.append_nil] at hl ⊢
  exact .of_eq (h us hl)
noncomputable def Passes (CX : CXT) (X : Cx) (E : XK) : Prop := ∀ (pins : List (Addr × Obj)) (σ : St) (H : Hp) (s : Shared) (e : Value) (s' : Shared), Inv X pins σ H s → CX X.stack H s E e s' → X.xe e s'
section
variable {X : Cx} {CX : CXT} {k : Nat} {f C : Addr} {fd : FuncData} {ps : List Str} {sp : Sp} {dvs : List V} {ds : List Value} {E : XK} {x m : Str} {p pos apos : Pos} {e o : Expr} {es : List Expr} {ta : TE} {t : TA}
theorem run_fn {pins : List (Addr × Obj)} {σ : St} {H : Hp} {s : Shared} {Q : VK} {us : List Value} {vs : List V} (F : FnOk X.prog X.w X.K X.mg X.base CX k f fd ps sp) (hr : Room k X.A) (hb : Binds X.K fd ps ds) (hd : Vals dvs ds) (hx : Passes CX X E)
    (I : Inv X pins σ H s) (r : Vals vs us) (h : sp (vs ++ dvs) H Q E) : wpAny (model X.prog X.w) X.A (call (.ref f) us) (EP X pins σ Q) X.xe s := by
  have r2 : Vals (vs ++ dvs) (us ++ ds) := r.append hd
  have hl : (us ++ ds).length = ps.length := by rw [← r2.length]; exact F.len _ _ _ _ h
  refine wpAny_call (codeAny_mono (F.run X.A X.stack s H ⟨us, []⟩ (us ++ ds) (vs ++ dvs) Q E hr I.env0 (hb s us I.kIn hl) r2 h) fun r s' hq => ?_)
  cases r with
  | error e => exact hx pins σ H s e s' I hq
  | ok fl =>
    cases fl with
    | ret u => exact I.after hq
    | next => exact False.elim hq
    | brk => exact False.elim hq
    | cont => exact False.elim hq
theorem pe_call (F : FnOk X.prog X.w X.K X.mg X.base CX k f fd ps sp) (hr : Room k X.A) (hg : Gl X x) (hm : X.mg x = some (.ref f)) (hk : PySem.W.keepIn X.K (.ref f) = true) (hb : Binds X.K fd ps ds) (hd : Vals dvs ds) (hx : Passes CX X E)
    (ha : PA X (e :: es) t) (hdb : (x == ("__debug__" : Str)) = false := by decide) (he : starEach (e :: es) X.env = (false, eval e X.env) :: starEach es X.env := by rfl) (hpl : (backTo pos (starEach es X.env)).any (·.1) = false := by rfl) :
    PE X (.Call (.Name x p) (e :: es) [] pos) (tCall sp dvs E t) := by
  intro pins s σ H Q I h
  refine wpAny_Call_Name_kw (ld_glob I hg hm ?_ hdb)
  refine PySem.W.callWith_K (h₀ := X.base) I.ok.mod.kin hk (thn (ha pos pins s σ H _ I h) fun us s1 ⟨vs, H1, I1, r, q⟩ => ⟨I1.kIn, ?_⟩) he hpl
  exact run_fn F hr hb hd hx I1 r q
theorem pe_call0 (F : FnOk X.prog X.w X.K X.mg X.base CX k f fd ps sp) (hr : Room k X.A) (hg : Gl X x) (hm : X.mg x = some (.ref f)) (hk : PySem.W.keepIn X.K (.ref f) = true) (hb : Binds X.K fd ps ds) (hd : Vals dvs ds) (hx : Passes CX X E)
    (hdb : (x == ("__debug__" : Str)) = false := by decide) : PE X (.Call (.Name x p) [] [] pos) (tCall sp dvs E tNil) := by
  intro pins s σ H Q I h
  refine wpAny_Call_Name_kw (ld_glob I hg hm ?_ hdb)
  exact PySem.W.callWith_K0 I.kIn hk (run_fn (us := []) F hr hb hd hx I .nil h)
theorem pe_meth {pl : Sem Bool} (he : PE X o ta) (c : Cls X.K C) (hm : Meth X.K C m f) (F : FnOk X.prog X.w X.K X.mg X.base CX k f fd ps sp) (hr : Room k X.A) (hb : Binds X.K fd ps ds) (hd : Vals dvs ds) (hx : Passes CX X E) (ha : PA X (e :: es) t)
    (hst : starEach (e :: es) X.env = (false, eval e X.env) :: starEach es X.env := by rfl) (hpl : (backTo pos (starEach es X.env)).any (·.1) = false := by rfl)
    (ht : eval (.Call (.Attribute o m apos) (e :: es) [] pos) X.env = (do
      let ov ← eval o X.env
      standAt apos.atName
      let (f, first) ← holding [ov] (getMethod ov m pl)
      callWith pos f first (backTo pos (starEach (e :: es) X.env)) (backToKw pos (keywordEach [] X.env))) := by rfl) :
    PE X (.Call (.Attribute o m apos) (e :: es) [] pos) (tMeth C m sp dvs E ta t) := by
  intro pins s σ H Q I h
  refine PySem.W.methodCall_KW (pl := pl) (thn (he pins s σ H _ I h) fun u s1 ⟨x, H1, I1, rx, a, dx, fs, ex, ea, l, q⟩ => ?_) ht
  subst ex
  obtain rfl : u = Value.ref a := rx
  refine getmeth_ok I1 ea c hm l ?_
  refine PySem.W.callWith_K (first := [.ref a]) (h₀ := X.base) I.ok.mod.kin hm.kp (thn (ha pos pins s1 σ H1 _ I1 q) fun us s2 ⟨vs, H2, I2, r, q2⟩ => ⟨I2.kIn, ?_⟩) hst hpl
  exact run_fn (us := .ref a :: us) (vs := .ref a :: vs) F hr hb hd hx I2 (.cons rfl r) q2
theorem pe_meth0 {pl : Sem Bool} (he : PE X o ta) (c : Cls X.K C) (hm : Meth X.K C m f) (F : FnOk X.prog X.w X.K X.mg X.base CX k f fd ps sp) (hr : Room k X.A) (hb : Binds X.K fd ps ds) (hd : Vals dvs ds) (hx : Passes CX X E)
    (ht : eval (.Call (.Attribute o m apos) [] [] pos) X.env = (do
      let ov ← eval o X.env
      standAt apos.atName
      let (f, first) ← holding [ov] (getMethod ov m pl)
      callWith pos f first (backTo pos (starEach [] X.env)) (backToKw pos (keywordEach [] X.env))) := by rfl) :
    PE X (.Call (.Attribute o m apos) [] [] pos) (tMeth C m sp dvs E ta tNil) := by
  intro pins s σ H Q I h
  refine PySem.W.methodCall_KW (pl := pl) (thn (he pins s σ H _ I h) fun u s1 ⟨x, H1, I1, rx, a, dx, fs, ex, ea, l, q⟩ => ?_) ht
  subst ex
  obtain rfl : u = Value.ref a := rx
  refine getmeth_ok I1 ea c hm l ?_
  exact PySem.W.callWith_K0 (first := [.ref a]) I1.kIn hm.kp (run_fn (us := [.ref a]) (vs := [.ref a]) F hr hb hd hx I1 (.cons rfl .nil) q)
structure Mk (K : PySem.W.Frag) (C f : Addr) : Prop where
  makes : PySem.W.makesIn K C = true
  init : PySem.W.findIn K (.ref C) "__init__" = some (some (.ref f))
  fn : PySem.W.isFn K (.ref f) = true
  kp : PySem.W.keepIn K (.ref C) = true
theorem run_make {pins : List (Addr × Obj)} {σ : St} {H : Hp} {s : Shared} {Q : VK} {us : List Value} {vs : List V} (M : Mk X.K C f) (F : FnOk X.prog X.w X.K X.mg X.base CX k f fd ps sp) (hr : Room (k + 1) X.A) (hb : Binds X.K fd ps ds) (hd : Vals dvs ds)
    (hx : Passes CX X E) (I : Inv X pins σ H s) (r : Vals vs us)
    (h : ∀ x dx, H x = none → H dx = none → dx ≠ x → sp (.ref x :: (vs ++ dvs)) (upd (upd H dx (.own x)) x (.ins C dx [])) (fun v H2 => v = .non ∧ Q (.ref x) H2) E) :
    wpAny (model X.prog X.w) X.A (call (.ref C) us) (EP X pins σ Q) X.xe s := by
  have hq := h (s.heap.objs.size + 1) s.heap.objs.size (I.hok.fresh (Nat.le_succ _)) (I.hok.fresh (Nat.le_refl _)) (Nat.ne_of_lt (Nat.lt_succ_self _))
  have I2 := Inv.made (C := C) I
  have r2 : Vals (V.ref (s.heap.objs.size + 1) :: (vs ++ dvs)) (Value.ref (s.heap.objs.size + 1) :: (us ++ ds)) := .cons rfl (r.append hd)
  have hl : (Value.ref (s.heap.objs.size + 1) :: us ++ ds).length = ps.length := by
    have e := r2.length
    rw [F.len _ _ _ _ hq] at e
    exact e.symm
  refine wpAny_call (make_map (f := f) I.kIn M.makes M.init (beq_iff_eq.mp M.fn) (codeAny_mono (F.run _ X.stack _ _ ⟨Value.ref (s.heap.objs.size + 1) :: us, []⟩ (Value.ref (s.heap.objs.size + 1) :: (us ++ ds)) _ _ E (hr.make C us [])
    (I2.env0.make C us []) (hb _ (Value.ref (s.heap.objs.size + 1) :: us) I2.kIn hl) r2 hq) fun r s' hq' => ?_))
  cases r with
  | error e => exact hx pins σ _ _ e s' I2 hq'
  | ok fl =>
    cases fl with
    | ret u =>
      obtain ⟨v, H', I3, rv, ev, q3⟩ := I2.after hq'
      subst ev
      exact ⟨rv, ⟨V.ref (s.heap.objs.size + 1), H', I3, rfl, q3⟩⟩
    | next => exact False.elim hq'
    | brk => exact False.elim hq'
    | cont => exact False.elim hq'
theorem pe_make (M : Mk X.K C f) (F : FnOk X.prog X.w X.K X.mg X.base CX k f fd ps sp) (hr : Room (k + 1) X.A) (hg : Gl X x) (hm : X.mg x = some (.ref C)) (hb : Binds X.K fd ps ds) (hd : Vals dvs ds) (hx : Passes CX X E)
    (ha : PA X (e :: es) t) (hdb : (x == ("__debug__" : Str)) = false := by decide) (he : starEach (e :: es) X.env = (false, eval e X.env) :: starEach es X.env := by rfl) (hpl : (backTo pos (starEach es X.env)).any (·.1) = false := by rfl) :
    PE X (.Call (.Name x p) (e :: es) [] pos) (tMake C sp dvs E t) := by
  intro pins s σ H Q I h
  refine wpAny_Call_Name_kw (ld_glob I hg hm ?_ hdb)
  refine PySem.W.callWith_K (h₀ := X.base) I.ok.mod.kin M.kp (thn (ha pos pins s σ H _ I h) fun us s1 ⟨vs, H1, I1, r, q⟩ => ⟨I1.kIn, ?_⟩) he hpl
  exact run_make M F hr hb hd hx I1 r q
end
section
variable {X : Cx} {CX : CXT} {k : Nat} {f C : Addr} {fd : FuncData} {ps ks : List Str} {sp : Sp} {E : XK} {x m : Str} {p pos apos kpos : Pos} {e o : Expr} {es : List Expr} {kws : List Keyword} {te ta : TE} {t tk : TA} {nm : Option Str}
structure KBinds (K : PySem.W.Frag) (fd : FuncData) (ps ks : List Str) (g : List Value → List Value → List Value) (gV : List V → List V → List V) : Prop where
  to : ∀ (s : Shared) (us ws : List Value), K.In s.heap → (g us ws).length = ps.length → BindsTo s fd ⟨us, ks.zip ws⟩ (ps.zip (g us ws))
  rel : ∀ {vs : List V} {us : List Value} {zs : List V} {ws : List Value}, Vals vs us → Vals zs ws → Vals (gV vs zs) (g us ws)
variable {g : List Value → List Value → List Value} {gV : List V → List V → List V}
end
structure FnScope (N P : List Str) (sc : Scope) : Prop where
  kind : sc.kind = .function
  co : sc.isCoroutine = false
  gen : sc.isGenerator = false
  nd : N.Nodup
  pre : N.take P.length = P
  par : ∀ x ∈ P, sc.names.lookup x = some .local ∨ sc.names.lookup x = some .cell
  nofree : ∀ y ∈ sc.names, y.2 ≠ .free
theorem bindL_out {kindOf : Str → Option NameKind} {x : Str} : ∀ {binds : List (Str × Value)} {m : Str → Option Value}, (∀ v, (x, v) ∉ binds) → bindL kindOf binds m x = m x
  | [], _, _ => rfl
  | (n, v) :: r, m, h => by
    unfold bindL
    rw [bindL_out fun w hw => h w (List.mem_cons_of_mem _ hw)]
    split
    · have : x ≠ n := by rintro rfl; exact h v List.mem_cons_self
      simp [this]
    · rfl
theorem bindC_out {kindOf : Str → Option NameKind} {x : Str} : ∀ {binds : List (Str × Value)} {m : Str → Option Value}, (∀ v, (x, v) ∉ binds) → bindC kindOf binds m x = m x
  | [], _, _ => rfl
  | (n, v) :: r, m, h => by
    unfold bindC
    rw [bindC_out fun w hw => h w (List.mem_cons_of_mem _ hw)]
    split
    · rfl
    · have : x ≠ n := by rintro rfl; exact h v List.mem_cons_self
      simp [this]
theorem bindL_get {kindOf : Str → Option NameKind} {x : Str} {v : Value} : ∀ {P : List Str} {vs : List Value} {i : Nat} {m : Str → Option Value}, P.Nodup → P[i]? = some x → vs[i]? = some v → kindOf x = some .local →
    bindL kindOf (P.zip vs) m x = some v
  | [], _, _, _, _, h, _, _ => by simp at h
  | _ :: _, [], _, _, _, _, h, _ => by simp at h
  | p :: P, w :: vs, 0, m, nd, h1, h2, hk => by
    simp at h1 h2; subst h1; subst h2
    show bindL kindOf ((p, w) :: P.zip vs) m p = _
    unfold bindL
    rw [bindL_out fun v hv => (List.nodup_cons.mp nd).1 (List.of_mem_zip hv).1, if_pos hk]
    simp
  | p :: P, w :: vs, i + 1, m, nd, h1, h2, hk => by
    show bindL kindOf ((p, w) :: P.zip vs) m x = _
    unfold bindL
    exact bindL_get (i := i) (List.nodup_cons.mp nd).2 (by simpa using h1) (by simpa using h2) hk
theorem bindC_get {kindOf : Str → Option NameKind} {x : Str} {v : Value} : ∀ {P : List Str} {vs : List Value} {i : Nat} {m : Str → Option Value}, P.Nodup → P[i]? = some x → vs[i]? = some v → kindOf x ≠ some .local →
    bindC kindOf (P.zip vs) m x = some v
  | [], _, _, _, _, h, _, _ => by simp at h
  | _ :: _, [], _, _, _, _, h, _ => by simp at h
  | p :: P, w :: vs, 0, m, nd, h1, h2, hk => by
    simp at h1 h2; subst h1; subst h2
    show bindC kindOf ((p, w) :: P.zip vs) m p = _
    unfold bindC
    rw [bindC_out fun v hv => (List.nodup_cons.mp nd).1 (List.of_mem_zip hv).1, if_neg hk]
    simp
  | p :: P, w :: vs, i + 1, m, nd, h1, h2, hk => by
    show bindC kindOf ((p, w) :: P.zip vs) m x = _
    unfold bindC
    exact bindC_get (i := i) (List.nodup_cons.mp nd).2 (by simpa using h1) (by simpa using h2) hk
noncomputable def start (N : List Str) (vs : List V) : St := vs.map some ++ List.replicate (N.length - vs.length) none
noncomputable def cxOf (CX : CXT) (P : Program) (w : World) (K : PySem.W.Frag) (mg : Str → Option Value) (base : Heap) (N : List Str) (qual : Str) (scope : Scope) (f : Addr) (cd : Value) (A : Around) (outer : List Env) (s : Shared) (H : Hp) (E : XK) : Cx where
  prog := P
  w := w
  K := K
  mg := mg
  base := base
  A := A.deeper (envOfC qual scope s.heap.objs.size f cd)
  N := N
  s₀ := s
  H₀ := H
  env := envOfC qual scope s.heap.objs.size f cd
  outer := outer
  stack := envOfC qual scope s.heap.objs.size f cd :: outer
  ex := []
  calm := true
  fn := fun _ => true
  pn := []
  xe := fun e s' => wpAny (model P w) (A.deeper (envOfC qual scope s.heap.objs.size f cd)) (leaving (envOfC qual scope s.heap.objs.size f cd) e) (fun _ s'' => CX outer H s E e s'') (fun e' s'' => CX outer H s E e' s'') s'
theorem cell_has {sc : Scope} {n : Nat} {x : Str} (h : sc.names.lookup x = some .cell) : ∃ c, (cellsFrom n sc.names []).lookup x = some c := by
  have q := PySem.W.cellsFrom_some sc.names n [] (.inl h)
  exact Option.isSome_iff_exists.mp q
theorem inv_start {CX : CXT} {P : Program} {w : World} {K : PySem.W.Frag} {mg : Str → Option Value} {base : Heap} {N ps : List Str} {qual : Str} {scope : Scope} {f : Addr} {cd : Value} {A : Around} {outer : List Env} {s s1 : Shared} {H : Hp} {E : XK} {us : List Value} {vs : List V}
    (S : FnScope N ps scope) (hd : A.handled = none) (e0 : Env0 P w K mg base A outer s H) (hl : vs.length = ps.length) (r : Vals vs us)
    (x : InCallC s s.heap.objs.size (bindL (envOfC qual scope s.heap.objs.size f cd).kindOf (ps.zip us) fun _ => none) (cellsFrom (s.heap.objs.size + 1) scope.names []) (bindC (envOfC qual scope s.heap.objs.size f cd).kindOf (ps.zip us) fun _ => none) s1) :
    Inv (cxOf CX P w K mg base N qual scope f cd A outer s H E) [] (start N vs) H s1 := by
  have hpl : ps.length ≤ N.length := by have := congrArg List.length S.pre; rw [List.length_take] at this; omega
  obtain ⟨h1, tk, rfl, hk⟩ := x.done
  have noA : ∀ b : Addr, b ∉ (cxOf CX P w K mg base N qual scope f cd A outer s H E).ex := fun b z => absurd (show b ∈ ([] : List Addr) from z) (by simp)
  refine ⟨⟨e0.mod, S.kind, rfl, rfl, Nat.le_refl _, fun y z c h1 h2 => ?_, fun y hy => ?_, fun y c _ h => ?_, fun _ => hd, Around.frames_deeper e0.frames, .inr ⟨rfl, rfl⟩, fun b z => absurd z (noA b), e0.bs, e0.bsz, fun b _ _ => noA b, fun b z => absurd z (noA b), e0.funs, e0.frf⟩,
    rfl, e0.bare, Un.kept hk, ⟨_, x.toInCall.ns, fun i y v h1 h2 h3 => ?_⟩, fun y c h => ⟨_, x.cell y c h⟩, e0.hok.fresh (Nat.le_refl _), fun y c h => ?_, fun p hp => absurd (show p ∈ ([] : List (Addr × Obj)) from hp) (by simp), e0.hok.kept hk, ?_⟩
  · exact name_of_addr x.apart (PySem.mem_of_lookup h1) (PySem.mem_of_lookup h2)
  · have hy : scope.names.lookup y = some .cell ∨ scope.names.lookup y = some .free := hy
    rcases hy with hy | hy
    · exact cell_has hy
    · exact absurd rfl (S.nofree _ (PySem.mem_of_lookup hy))
  · exact Nat.le_of_lt (x.above y c (PySem.mem_of_lookup h))
  · have hi : i < vs.length := by
      unfold start at h2
      by_cases hi : i < vs.length
      · exact hi
      · rw [List.getElem?_append_right (by simpa using hi)] at h2
        rw [List.getElem?_replicate] at h2
        split at h2 <;> cases h2
    have ha : vs[i]? = some v := by
      unfold start at h2
      rw [List.getElem?_append_left (by simpa using hi), List.getElem?_map] at h2
      cases e : vs[i]? with
      | none => rw [e] at h2; cases h2
      | some a => rw [e] at h2; cases h2; rfl
    obtain ⟨u, hu, rv⟩ := r.get ha
    have hp : ps[i]? = some y := by
      rw [← S.pre, List.getElem?_take_of_lt (by omega)]; exact h1
    have ndP : ps.Nodup := by rw [← S.pre]; exact S.nd.sublist (List.take_sublist _ _)
    refine ⟨u, rv, ?_⟩
    rcases S.par y (List.mem_of_getElem? hp) with k | k
    · exact .inl ⟨k, bindL_get ndP hp hu k⟩
    · obtain ⟨c, e⟩ := cell_has (n := s.heap.objs.size + 1) k
      refine .inr ⟨.inl k, c, e, ?_⟩
      have q := x.cell y c e
      rw [bindC_get ndP hp hu (by show scope.names.lookup y ≠ _; rw [k]; decide)] at q
      exact q
  · exact e0.hok.fresh (Nat.le_of_lt (x.above y c (PySem.mem_of_lookup h)))
  · unfold start
    show _ = N.length
    rw [List.length_append, List.length_map, List.length_replicate]
    omega
theorem fn_of {CX : CXT} {P : Program} {w : World} {K : PySem.W.Frag} {mg : Str → Option Value} {base : Heap} {k : Nat} {f : Addr} {name qual : Str} {params : Arguments} {body : List Stmt} {scope : Scope} {dV kV doc pm cdv ct oc : Value} {an od : Option Addr}
    {osl : Array (Option Value)} {N ps : List Str} {sp : Sp} (lk : K.lookup f = some ⟨oc, od, .func (PySem.W.fnOf name qual params body scope dV kV doc pm an cdv ct), osl⟩) (hcd : PySem.W.codeIn K cdv qual = true) (S : FnScope N ps scope)
    (len : ∀ vs H Q E, sp vs H Q E → vs.length = ps.length)
    (hbody : ∀ (A : Around) (outer : List Env) (s : Shared) (H : Hp) (vs : List V) (Q : VK) (E : XK), Room k (A.deeper (envOfC qual scope s.heap.objs.size f cdv)) → sp vs H Q E →
      ∃ t, PSs (cxOf CX P w K mg base N qual scope f cdv A outer s H E) body t ∧ t { nx := fun _ H' => Q .non H', rt := Q } (start N vs) H) :
    FnOk P w K mg base CX (k + 1) f (PySem.W.fnOf name qual params body scope dV kV doc pm an cdv ct) ps sp := by
  refine ⟨len, fun A outer s H args us vs Q E hr e0 hb r hsp => ?_⟩
  have hl := len _ _ _ _ hsp
  have KX : K.In s.heap := e0.mod.kin.keeps fun b o e => (e0.bs b o e).1
  have lim : s.heap.NoLimit := e0.mod.nolimit.keeps fun b o e => (e0.bs b o e).1
  have hkind : ∀ y ∈ ps.zip us, scope.names.lookup y.1 = some .local ∨ (scope.names.lookup y.1 = some .cell ∧ ((cellsFrom (s.heap.objs.size + 1) scope.names []).lookup y.1).isSome = true) := fun ⟨n, v⟩ hy => by
    rcases S.par n (List.of_mem_zip hy).1 with q | q
    · exact .inl q
    · exact .inr ⟨q, PySem.W.cellsFrom_some _ _ _ (.inl q)⟩
  refine codeAny_call_function hr.depth (KX _ _ lk) rfl S.co S.gen rfl (PySem.W.codeRec_of KX hcd) (hb _ _ _ _ ?_)
  refine wpAny_newFunctionEnv_cells S.kind hkind fun env he s1 x => ?_
  subst he
  refine ⟨lim.keeps x.toInCall.keep, codeAny_func ?_⟩
  obtain ⟨t, ht, hq⟩ := hbody A outer s H vs Q E (hr.deeper _) hsp
  have I : Inv (cxOf CX P w K mg base N qual scope f cdv A outer s H E) [] (start N vs) H s1 := inv_start S hr.hd e0 hl r x
  refine wpAny_mono (ht [] s1 (start N vs) H _ I hq) (fun fl s' hs => ?_) fun e s' hs => hs
  have fin : ∀ {σ' : St} {H' : Hp} {v : V} {u : Value}, Inv (cxOf CX P w K mg base N qual scope f cdv A outer s H E) [] σ' H' s' → RelV v u → Q v H' → CE outer P w H s Q u s' :=
    fun {σ' H' v u} J rv q => ⟨v, H', J.os, J.bare, J.base, J.hok, rv, q⟩
  cases fl with
  | ret u =>
    obtain ⟨v, σ', H', J, rv, q⟩ := hs
    exact fin J rv q
  | next =>
    obtain ⟨σ', H', J, q⟩ := hs
    exact fin (v := V.non) (u := Value.none) J rfl q
  | brk =>
    obtain ⟨_, _, _, q⟩ := hs
    exact False.elim q
  | cont =>
    obtain ⟨_, _, _, q⟩ := hs
    exact False.elim q
end L2
namespace L2
open PySem PySem.Spec PyProof.Rows
section
variable {X : Cx} {x : Str} {p pos : Pos} {e : Expr} {es : List Expr} {t : TA} {id T : String} {r : List V → Hp → VK → Prop}
noncomputable def tCB (r : List V → Hp → VK → Prop) (t : TA) : TE := fun σ H Q => t σ H fun vs H1 => r vs H1 Q
theorem pe_callB (hc : CallR X (.builtin id) r) (hg : Gl X x) (hm : X.mg x = none) (hv : bootBuiltins x = some (.builtin id)) (ha : PA X (e :: es) t) (hn : x ≠ "__name__" := by decide) (hdb : (x == ("__debug__" : Str)) = false := by decide)
    (he : starEach (e :: es) X.env = (false, eval e X.env) :: starEach es X.env := by rfl) (hpl : (backTo pos (starEach es X.env)).any (·.1) = false := by rfl) : PE X (.Call (.Name x p) (e :: es) [] pos) (tCB r t) := by
  intro pins s σ H Q I h
  refine wpAny_Call_Name_kw (ld_blt I hg hm hv ?_ hn hdb)
  exact PyProof.Rows.callWith_builtin1 (thn (ha pos pins s σ H _ I h) fun us s1 ⟨vs, H1, I1, r1, q1⟩ => hc pins s1 σ H1 vs us Q I1 r1 q1) he hpl
theorem pe_callTy (hc : CallR X (.type T) r) (hg : Gl X x) (hm : X.mg x = none) (hv : bootBuiltins x = some (.type T)) (ha : PA X (e :: es) t) (hn : x ≠ "__name__" := by decide) (hdb : (x == ("__debug__" : Str)) = false := by decide)
    (he : starEach (e :: es) X.env = (false, eval e X.env) :: starEach es X.env := by rfl) (hpl : (backTo pos (starEach es X.env)).any (·.1) = false := by rfl) : PE X (.Call (.Name x p) (e :: es) [] pos) (tCB r t) := by
  intro pins s σ H Q I h
  refine wpAny_Call_Name_kw (ld_blt I hg hm hv ?_ hn hdb)
  exact PyProof.Rows.callWith_type1 (thn (ha pos pins s σ H _ I h) fun us s1 ⟨vs, H1, I1, r1, q1⟩ => hc pins s1 σ H1 vs us Q I1 r1 q1) he hpl
end
end L2
namespace HT
open PySem PyProof.Rows
section
open PySem.SeqAt
open PySem.AutoSeq1 (wpAny_loadPart')
open PySem.MeetsSeq PySem.MeetsSeq2 PySem.MeetsSeq3
end
section
variable {prog : Program} {w : World} {A : Around} {E : Value → Shared → Prop} {s : Shared}
noncomputable def sIx (n d : Nat) : Option Int → Nat
  | none => d
  | some v => if v < 0 then (v + (n : Int)).toNat else min v.toNat n
theorem sIx_le (n d : Nat) (hd : d ≤ n) (o : Option Int) : sIx n d o ≤ n := by
  cases o with
  | none => exact hd
  | some v =>
    show (if v < 0 then (v + (n : Int)).toNat else min v.toNat n) ≤ n
    by_cases hv : v < 0
    · rw [if_pos hv]; omega
    · rw [if_neg hv]; exact Nat.min_le_right _ _
end
end HT
namespace L2
open PySem PySem.Spec PyProof.Rows
abbrev TO := St → Hp → (Option Int → Hp → Prop) → Prop
noncomputable def PO (X : Cx) (e : Option Expr) (t : TO) : Prop :=
  ∀ (pins : List (Addr × Obj)) (s : Shared) (σ : St) (H : Hp) (Q : Option Int → Hp → Prop), Inv X pins σ H s → t σ H Q →
    wpAny (model X.prog X.w) X.A (evalPart e X.env) (fun u s' => ∃ o H', Inv X pins σ H' s' ∧ IsPart u o ∧ Q o H') X.xe s
noncomputable def tNoPart : TO := fun _ H Q => Q none H
noncomputable def tPart (t : TE) : TO := fun σ H Q => t σ H fun x H1 => ∃ i, x = .int i ∧ Q (some i) H1
section
variable {X : Cx} {e : Expr} {te : TE} {lo hi : Option Expr} {tl th : TO} {pos p2 : Pos}
theorem po_none : PO X none tNoPart := by
  intro pins s σ H Q I h
  rw [evalPart_none]
  exact wpAny_pure ⟨none, H, I, .none, h⟩
theorem po_some (h : PE X e te) : PO X (some e) (tPart te) := by
  intro pins s σ H Q I hw
  rw [evalPart_some]
  refine thn (h pins s σ H _ I hw) fun u s1 ⟨x, H1, I1, r1, q1⟩ => ?_
  obtain ⟨i, rfl, q⟩ := q1
  obtain ⟨t, rfl⟩ := r1
  exact ⟨some i, H1, I1, .int i t, q⟩
noncomputable def SlR (X : Cx) (r : V → Option Int → Option Int → Hp → VK → Prop) : Prop :=
  ∀ (pins : List (Addr × Obj)) (s : Shared) (σ : St) (H : Hp) (x : V) (v vl vu : Value) (lo hi : Option Int) (sl : Addr) (Q : VK), Inv X pins σ H s → RelV x v → s.heap.IsSliceOf sl vl vu .none → IsPart vl lo → IsPart vu hi → r x lo hi H Q →
    ∃ T id, typeLookup (.type T) "__getitem__" = pure (some (.builtin id)) ∧ s.TypeIs v T ∧ wpAny (model X.prog X.w) X.A (getItem v (.ref sl)) (EP X pins σ Q) X.xe s
theorem SlR.or {r r' : V → Option Int → Option Int → Hp → VK → Prop} (h : SlR X r) (h' : SlR X r') : SlR X (fun x lo hi H Q => r x lo hi H Q ∨ r' x lo hi H Q) := by
  intro pins s σ H x v vl vu lo hi sl Q I rx hs pl pu q
  rcases q with q | q
  · exact h pins s σ H x v vl vu lo hi sl Q I rx hs pl pu q
  · exact h' pins s σ H x v vl vu lo hi sl Q I rx hs pl pu q
noncomputable def tSl (r : V → Option Int → Option Int → Hp → VK → Prop) (te : TE) (tl th : TO) : TE := fun σ H Q => te σ H fun x H1 => tl σ H1 fun l H2 => th σ H2 fun u H3 => r x l u H3 Q
theorem pe_slice {r : V → Option Int → Option Int → Hp → VK → Prop} (hr : SlR X r) (he : PE X e te) (hl : PO X lo tl) (hu : PO X hi th) : PE X (.Subscript e (.Slice lo hi none p2) pos) (tSl r te tl th) := by
  intro pins s σ H Q I h
  refine Subscript_ (thn (he pins s σ H _ I h) fun v s1 ⟨x, H1, I1, r1, q1⟩ => ?_)
  refine wpAny_Slice (thn (hl pins s1 σ H1 _ I1 q1) fun vl s2 ⟨l, H2, I2, pl, q2⟩ => thn (hu pins s2 σ H2 _ I2 q2) fun vu s3 ⟨u, H3, I3, pu, q3⟩ => ?_)
  rw [evalPart_none]
  refine wpAny_pure ?_
  have I4 : Inv X pins σ H3 { s3 with heap := s3.heap.push { cls := .type "slice", data := .fields #[vl, vu, .none] } } := I3.kept (t' := s3.toks) fun b ob q => Heap.get?_push_of_some _ q
  obtain ⟨T, id, hT, ht, hg⟩ := hr pins { s3 with heap := s3.heap.push { cls := .type "slice", data := .fields #[vl, vu, .none] } } σ H3 x v vl vu l u s3.heap.objs.size Q I4 r1 (Heap.IsSliceOf.new ..) pl pu q3
  show wpAny (model X.prog X.w) X.A (subscriptTail e (.Slice lo hi none p2) v (.ref s3.heap.objs.size)) (EP X pins σ Q) X.xe { s3 with heap := s3.heap.push { cls := .type "slice", data := .fields #[vl, vu, .none] } }
  exact tail_any (ops := [.ref s3.heap.objs.size, v]) ht hT hg (by with_unfolding_all rfl)
noncomputable def cutV (xs : List V) (lo hi : Option Int) : List V := (xs.drop (HT.sIx xs.length 0 lo)).take (HT.sIx xs.length xs.length hi - HT.sIx xs.length 0 lo)
theorem cutV_length (xs : List V) (lo hi : Option Int) : (cutV xs lo hi).length ≤ xs.length := by
  unfold cutV
  rw [List.length_take, List.length_drop]
  omega
end
end L2
namespace L2
open PySem PySem.Spec PyProof.Rows
noncomputable def ixN (n : Nat) (i : Int) : Option Nat := if 0 ≤ i then (if i < n then some i.toNat else none) else if -(n : Int) ≤ i then some (i + n).toNat else none
noncomputable def atI {α : Type} (xs : List α) (i : Int) : Option α := (ixN xs.length i).bind fun j => xs[j]?
theorem ixN_seq {n : Nat} {i : Int} {j : Nat} (h : ixN n i = some j) : seqIndex? i n = some j ∧ j < n ∧ -(n : Int) ≤ i ∧ i < n := by
  unfold ixN at h
  by_cases h0 : 0 ≤ i
  · rw [if_pos h0] at h
    by_cases h1 : i < n
    · rw [if_pos h1] at h
      have e : i.toNat = j := Option.some.inj h
      exact ⟨by rw [seqIndex_of h0 h1, e], by omega, by omega, h1⟩
    · rw [if_neg h1] at h; cases h
  · rw [if_neg h0] at h
    by_cases h1 : -(n : Int) ≤ i
    · rw [if_pos h1] at h
      have e : (i + n).toNat = j := Option.some.inj h
      exact ⟨by rw [seqIndex_neg (by omega) h1, e], by omega, h1, by omega⟩
    · rw [if_neg h1] at h; cases h
theorem atI_get {α : Type} {xs : List α} {i : Int} {v : α} (h : atI xs i = some v) : ∃ j, seqIndex? i xs.length = some j ∧ xs[j]? = some v ∧ j < xs.length ∧ -(xs.length : Int) ≤ i ∧ i < xs.length := by
  unfold atI at h
  cases e : ixN xs.length i with
  | none => rw [e] at h; cases h
  | some j =>
    rw [e] at h
    obtain ⟨h1, h2, h3, h4⟩ := ixN_seq e
    exact ⟨j, h1, h, h2, h3, h4⟩
noncomputable def PlainIx (b : Expr) : Prop := ∀ o i, subscripted b false o i = operate [o, i] (getItem o i)
noncomputable def IxR (X : Cx) (r : R2) : Prop :=
  ∀ (value slice : Expr) (pins : List (Addr × Obj)) (s : Shared) (σ : St) (H : Hp) (x y : V) (v u : Value) (Q : VK), Inv X pins σ H s → RelV x v → RelV y u → r x y H Q →
    subscripted slice false v u = operate [v, u] (getItem v u) → wpAny (model X.prog X.w) X.A (subscriptTail value slice v u) (EP X pins σ Q) X.xe s
noncomputable def MtR (X : Cx) (id : String) (r : V → List V → Hp → VK → Prop) : Prop :=
  ∀ (pins : List (Addr × Obj)) (s : Shared) (σ : St) (H : Hp) (x : V) (xs : List V) (v : Value) (us : List Value) (Q : VK), Inv X pins σ H s → RelV x v → Vals xs us → r x xs H Q →
    wpAny (model X.prog X.w) X.A (call (.builtin id) (v :: us)) (EP X pins σ Q) X.xe s
section
variable {X : Cx} {a b : Expr} {ta tb : TE} {pos : Pos}
theorem IxR.or {r r' : R2} (h : IxR X r) (h' : IxR X r') : IxR X (fun x y H Q => r x y H Q ∨ r' x y H Q) := by
  intro value slice pins s σ H x y v u Q I rx ry q hs
  rcases q with q | q
  · exact h value slice pins s σ H x y v u Q I rx ry q hs
  · exact h' value slice pins s σ H x y v u Q I rx ry q hs
theorem MtR.or {id : String} {r r' : V → List V → Hp → VK → Prop} (h : MtR X id r) (h' : MtR X id r') : MtR X id (fun x xs H Q => r x xs H Q ∨ r' x xs H Q) := by
  intro pins s σ H x xs v us Q I rx rs q
  rcases q with q | q
  · exact h pins s σ H x xs v us Q I rx rs q
  · exact h' pins s σ H x xs v us Q I rx rs q
theorem pe_ix {r : R2} (hr : IxR X r) (ha : PE X a ta) (hb : PE X b tb) (hs : PlainIx b) : PE X (.Subscript a b pos) (tOp r ta tb) := by
  intro pins s σ H Q I h
  exact Subscript_ (binT ha hb I h fun v u s2 x y H2 I2 rx ry q => hr a b pins s2 σ H2 x y v u Q I2 rx ry q (hs _ _))
noncomputable def rIxL (K : PySem.W.Frag) : R2 := fun x y H Q => ∃ p xs i v, x = .ref p ∧ y = .int i ∧ SqL K H p xs ∧ atI xs i = some v ∧ Q v H
noncomputable def rIxT (K : PySem.W.Frag) : R2 := fun x y H Q => ∃ p xs i v, x = .ref p ∧ y = .int i ∧ SqT K H p xs ∧ atI xs i = some v ∧ Q v H
noncomputable def rIxS : R2 := fun x y H Q => ∃ z i c, x = .str z ∧ y = .int i ∧ z.length ≤ sizeLine ∧ atI z.cps.toList i = some c ∧ Q (.str ⟨#[c]⟩) H
theorem ix_list : IxR X (rIxL X.K) := by
  intro value slice pins s σ H x y v u Q I rx ry h hs
  obtain ⟨p, xs, i, z, rfl, rfl, hq, he, q⟩ := h
  cases rx
  obtain ⟨t, rfl⟩ := ry
  obtain ⟨its, r, pl, hz⟩ := I.list hq
  obtain ⟨j, h1, h2, h3, h4, h5⟩ := atI_get he
  obtain ⟨w, ew, rw'⟩ := r.get h2
  have hl := r.length
  have hn := line63
  have fin : EP X pins σ Q w s := ⟨z, H, I, rw', q⟩
  by_cases h0 : 0 ≤ i
  · have hj : i.toNat = j := by
      rw [seqIndex_of h0 h5] at h1
      exact Option.some.inj h1
    exact item_listR pl.isList h0 (by omega) (by rw [hj]; simpa using ew) fin hs
  · have hj : (i + (its.toArray.size : Int)).toNat = j := by
      rw [seqIndex_neg (by omega) h4] at h1
      rw [List.size_toArray, ← hl]
      exact Option.some.inj h1
    exact subscriptTail_builtinR (x := w) pl.isList.typeIs slot_list_getitem.lookup
      (wpAny_getItem_list_neg (Q := fun r s' => r = w ∧ EP X pins σ Q r s') pl.isList (by omega) (by rw [List.size_toArray] <;> omega) (by omega) (by rw [hj]; simpa using ew) ⟨rfl, fin⟩) hs
theorem ix_tup : IxR X (rIxT X.K) := by
  intro value slice pins s σ H x y v u Q I rx ry h hs
  obtain ⟨p, xs, i, z, rfl, rfl, hq, he, q⟩ := h
  cases rx
  obtain ⟨t, rfl⟩ := ry
  obtain ⟨its, r, pl, hz⟩ := I.tuple hq
  obtain ⟨j, h1, h2, h3, h4, h5⟩ := atI_get he
  obtain ⟨w, ew, rw'⟩ := r.get h2
  have hl := r.length
  have hn := line63
  have fin : EP X pins σ Q w s := ⟨z, H, I, rw', q⟩
  exact subscriptTail_builtinR (x := w) pl.typeIs slot_tuple_getitem.lookup
    (getItem_tuple (j := j) (Q := fun r s' => r = w ∧ EP X pins σ Q r s') pl (by omega) (by omega) (by rw [List.size_toArray, ← hl]; exact h1) (by simpa using ew) ⟨rfl, fin⟩) hs
theorem ix_str : IxR X rIxS := by
  intro value slice pins s σ H x y v u Q I rx ry h hs
  obtain ⟨z, i, c, rfl, rfl, hz, he, q⟩ := h
  obtain ⟨t, rfl⟩ := rx
  obtain ⟨t', rfl⟩ := ry
  obtain ⟨j, h1, h2, h3, h4, h5⟩ := atI_get he
  have hl : z.cps.toList.length = z.length := by simp [Str.length]
  rw [hl] at h1 h4 h5
  have hn := line63
  exact tail_any (typeIs_str s z t) slot_str_getitem.lookup (getItem_str (c := c) (by
    have e1 : decide (i < -(2 ^ 63 : Int)) = false := decide_eq_false (by omega)
    have e2 : decide (i ≥ 2 ^ 63) = false := decide_eq_false (by omega)
    rw [e1, e2, Bool.or_false]) (by rw [h1]; simpa using h2) ⟨.str ⟨#[c]⟩, H, I.tok _, ⟨_, rfl⟩, q⟩) hs
theorem Inv.lst {pins : List (Addr × Obj)} {σ : St} {H : Hp} {s : Shared} {p : Addr} {xs : List V} (I : Inv X pins σ H s) (h : H p = some (.lst xs)) :
    ∃ (its : List Value) (n : Nat), Vals xs its ∧ s.heap.get? p = some { cls := .type "list", data := .seq its.toArray n } ∧ xs.length ≤ sizeLine := by
  obtain ⟨z, its, n, r, e⟩ := I.hok p _ h
  exact ⟨its, n, r, e, z⟩
theorem slice_bounds (lo hi : Option Int) (n : Nat) : (sliceBounds lo hi none n).1 = ((HT.sIx n 0 lo : Nat) : Int) ∧ (sliceBounds lo hi none n).2.1 = ((HT.sIx n n hi : Nat) : Int) ∧ (sliceBounds lo hi none n).2.2 = 1 := by
  refine ⟨?_, ?_, rfl⟩
  · cases lo with
    | none => simp [sliceBounds, HT.sIx]
    | some i =>
      simp only [sliceBounds, HT.sIx, Option.getD_none, show (1 : Int) > 0 by decide, if_true]
      by_cases h : i < 0
      · simp only [h, if_true] <;> omega
      · simp only [h, if_false] <;> omega
  · cases hi with
    | none => simp [sliceBounds, HT.sIx]
    | some i =>
      simp only [sliceBounds, HT.sIx, Option.getD_none, show (1 : Int) > 0 by decide, if_true]
      by_cases h : i < 0
      · simp only [h, if_true] <;> omega
      · simp only [h, if_false] <;> omega
theorem slicePick_cut (its : List Value) (lo hi : Option Int) : slicePick its.toArray lo hi none = ((its.drop (HT.sIx its.length 0 lo)).take (HT.sIx its.length its.length hi - HT.sIx its.length 0 lo)).toArray := by
  obtain ⟨h1, h2, h3⟩ := slice_bounds lo hi its.toArray.size
  unfold slicePick
  rw [h1, h2, h3]
  simp only [sliceRange_one, pick_run, List.size_toArray] <;> rfl
noncomputable def rSlL (K : PySem.W.Frag) : V → Option Int → Option Int → Hp → VK → Prop := fun x lo hi H Q => ∃ a xs, x = .ref a ∧ SqL K H a xs ∧ ∀ p, H p = none → Q (.ref p) (upd H p (.lst (cutV xs lo hi)))
theorem sl_list : SlR X (rSlL X.K) := by
  intro pins s σ H x v vl vu lo hi sl Q I rx hs pl pu h
  obtain ⟨a, xs, rfl, hx, q⟩ := h
  cases rx
  obtain ⟨its, r, ht, hz⟩ := I.list hx
  have hlen := r.length
  refine ⟨"list", _, slot_list_getitem.lookup, ht.isList.typeIs, ?_⟩
  refine wpAny_getItem_list_slice ht.isList hs pl pu .none (by simp) ?_ (by rw [List.size_toArray] <;> omega)
  rw [slicePick_cut, ← hlen]
  refine ⟨.ref s.heap.objs.size, _, I.laid (t' := s.toks) (o := .lst (cutV xs lo hi)) (fun b ob q => Heap.get?_push_of_some _ q) (Nat.le_refl _) ?_, rfl, q _ (I.hok.fresh (Nat.le_refl _))⟩
  exact ⟨Nat.le_trans (cutV_length xs lo hi) hz, _, 0, (r.drop (HT.sIx xs.length 0 lo)).take (HT.sIx xs.length xs.length hi - HT.sIx xs.length 0 lo), Heap.get?_push_size _ rfl⟩
noncomputable def flatV : V → Bool
  | .non => true
  | .bl _ => true
  | .int _ => true
  | .str _ => true
  | _ => false
noncomputable def eqV : V → V → Bool
  | .non, .non => true
  | .bl a, .bl b => a == b
  | .bl a, .int b => (if a then 1 else 0) == b
  | .int a, .bl b => a == (if b then 1 else 0)
  | .int a, .int b => a == b
  | .str a, .str b => a == b
  | _, _ => false
theorem eqAt_V {A : Around} {s : Shared} {y x : V} {u v : Value} (ry : RelV y u) (rx : RelV x v) (fy : flatV y = true) (fx : flatV x = true) : SeqAt.EqAt A s u v (eqV y x) := by
  cases y with
  | non =>
    cases ry
    cases x with
    | non => cases rx; exact SeqAt.EqAt.same _
    | bl b => cases rx; exact SeqAt.EqAt.none_bool b
    | int b => obtain ⟨t, rfl⟩ := rx; exact SeqAt.EqAt.none_int b t
    | str b => obtain ⟨t, rfl⟩ := rx; exact SeqAt.EqAt.none_str b t
    | _ => exact absurd (show false = true from fx) Bool.false_ne_true
  | bl a =>
    cases ry
    cases x with
    | non => cases rx; exact SeqAt.EqAt.bool_none a
    | bl b => cases rx; exact SeqAt.EqAt.bool_bool a b
    | int b => obtain ⟨t, rfl⟩ := rx; exact SeqAt.EqAt.bool_int a b t
    | str b => obtain ⟨t, rfl⟩ := rx; exact SeqAt.EqAt.bool_str a b t
    | _ => exact absurd (show false = true from fx) Bool.false_ne_true
  | int a =>
    obtain ⟨t', rfl⟩ := ry
    cases x with
    | non => cases rx; exact SeqAt.EqAt.int_none a t'
    | bl b => cases rx; exact SeqAt.EqAt.int_bool a t' b
    | int b => obtain ⟨t, rfl⟩ := rx; exact SeqAt.EqAt.int_int a t' b t
    | str b => obtain ⟨t, rfl⟩ := rx; exact SeqAt.EqAt.int_str a t' b t
    | _ => exact absurd (show false = true from fx) Bool.false_ne_true
  | str a =>
    obtain ⟨t', rfl⟩ := ry
    cases x with
    | non => cases rx; exact SeqAt.EqAt.str_none a t'
    | bl b => cases rx; exact SeqAt.EqAt.str_bool a t' b
    | int b => obtain ⟨t, rfl⟩ := rx; exact SeqAt.EqAt.str_int a t' b t
    | str b => obtain ⟨t, rfl⟩ := rx; exact SeqAt.EqAt.str_str a t' b t
    | _ => exact absurd (show false = true from fx) Bool.false_ne_true
  | _ => exact absurd (show false = true from fy) Bool.false_ne_true
noncomputable def eqU (x : V) (u : Value) : Bool := match u with
  | .none => eqV .non x
  | .bool b => eqV (.bl b) x
  | .int i _ => eqV (.int i) x
  | .str z _ => eqV (.str z) x
  | _ => false
theorem eqU_of {x y : V} {u : Value} (r : RelV y u) (f : flatV y = true) : eqU x u = eqV y x := by
  cases y with
  | non => cases r; rfl
  | bl b => cases r; rfl
  | int i => obtain ⟨t, rfl⟩ := r; rfl
  | str z => obtain ⟨t, rfl⟩ := r; rfl
  | _ => exact absurd (show false = true from f) Bool.false_ne_true
theorem any_eqU {x : V} : ∀ {xs : List V} {us : List Value}, Vals xs us → xs.all flatV = true → us.any (eqU x) = xs.any fun y => eqV y x
  | _, _, .nil, _ => rfl
  | y :: xs, u :: us, .cons r t, f => by
    rw [List.all_cons, Bool.and_eq_true] at f
    rw [List.any_cons, List.any_cons, eqU_of r f.1, any_eqU t f.2]
theorem mem_eqAt {A : Around} {s : Shared} {x : V} {v : Value} (rx : RelV x v) (fx : flatV x = true) : ∀ {xs : List V} {us : List Value}, Vals xs us → xs.all flatV = true → ∀ u ∈ us, SeqAt.EqAt A s u v (eqU x u)
  | _, _, .nil, _ => fun u hu => by cases hu
  | y :: xs, u :: us, .cons r t, f => fun u' hu => by
    rw [List.all_cons, Bool.and_eq_true] at f
    rcases List.mem_cons.mp hu with rfl | hu
    · rw [eqU_of r f.1]; exact eqAt_V r rx f.1 fx
    · exact mem_eqAt rx fx t f.2 u' hu
noncomputable def inV (x : V) (xs : List V) : Bool := xs.any fun y => eqV y x
noncomputable def rIn (K : PySem.W.Frag) (neg : Bool) : R2 := fun x y H Q => ∃ p xs, y = .ref p ∧ (SqL K H p xs ∨ SqT K H p xs) ∧ flatV x = true ∧ xs.all flatV = true ∧ Q (.bl (if neg then !inV x xs else inV x xs)) H
theorem op_in_seq : OpR X (compareOp .In) (rIn X.K false) := by
  intro pins s σ H x y v u Q I rx ry h
  obtain ⟨p, xs, rfl, hq, fx, fs, q⟩ := h
  cases ry
  rcases hq with hq | hq
  · obtain ⟨its, r, pl, hz⟩ := I.list hq
    refine SeqAt.in_listAt (eqU x) pl.isList (fun w hw => mem_eqAt rx fx r fs w (by simpa using hw)) ⟨.bl _, H, I, rfl, ?_⟩
    rw [show its.toArray.any (eqU x) = its.any (eqU x) by simp, any_eqU r fs]
    exact q
  · obtain ⟨its, r, pl, hz⟩ := I.tuple hq
    refine SeqAt.in_tupleAt (eqU x) pl (fun w hw => mem_eqAt rx fx r fs w (by simpa using hw)) ⟨.bl _, H, I, rfl, ?_⟩
    rw [show its.toArray.any (eqU x) = its.any (eqU x) by simp, any_eqU r fs]
    exact q
theorem call_len_seq : CallR X (.builtin "len") (fun xs H Q => ∃ p ys, xs = [.ref p] ∧ (SqL X.K H p ys ∨ SqT X.K H p ys) ∧ Q (.int ys.length) H) := by
  intro pins s σ H xs us Q I r h
  obtain ⟨p, ys, rfl, hq, q⟩ := h
  obtain ⟨u, rfl, rx⟩ := vals1 r
  cases rx
  have hn := line63
  rcases hq with hq | hq
  · obtain ⟨its, r', pl, hz⟩ := I.list hq
    have hlen := r'.length
    exact Calls.call_len_list pl.isList (by simp only [List.size_toArray] <;> omega) ⟨.int ys.length, H, I.tok _, ⟨s.toks + 1, by rw [List.size_toArray, hlen]⟩, q⟩
  · obtain ⟨its, r', pl, hz⟩ := I.tuple hq
    have hlen := r'.length
    exact len_tuple pl (by simp only [List.size_toArray] <;> omega) ⟨.int ys.length, H, I.tok _, ⟨s.toks + 1, by rw [List.size_toArray, hlen]⟩, q⟩
theorem call_len_str : CallR X (.builtin "len") (fun xs H Q => ∃ z, xs = [.str z] ∧ z.length ≤ sizeLine ∧ Q (.int z.length) H) := by
  intro pins s σ H xs us Q I r h
  obtain ⟨z, rfl, hz, q⟩ := h
  obtain ⟨u, rfl, t, rfl⟩ := vals1 r
  have hn := line63
  exact len_str (by omega) ⟨.int z.length, H, I.tok _, ⟨_, rfl⟩, q⟩
theorem CallR.or {f : Value} {r r' : List V → Hp → VK → Prop} (h : CallR X f r) (h' : CallR X f r') : CallR X f (fun xs H Q => r xs H Q ∨ r' xs H Q) := by
  intro pins s σ H xs us Q I rs q
  rcases q with q | q
  · exact h pins s σ H xs us Q I rs q
  · exact h' pins s σ H xs us Q I rs q
theorem call_list_of : CallR X (.type "list") (fun xs H Q => ∃ p ys, xs = [.ref p] ∧ (SqL X.K H p ys ∨ SqT X.K H p ys) ∧ ∀ l, H l = none → Q (.ref l) (upd H l (.lst ys))) := by
  intro pins s σ H xs us Q I r h
  obtain ⟨p, ys, rfl, hq, q⟩ := h
  obtain ⟨u, rfl, rx⟩ := vals1 r
  cases rx
  have fin : ∀ (its : List Value), Vals ys its → ys.length ≤ sizeLine → ∀ (h' : Heap) (c' : Nat), (∀ b o', s.heap.get? b = some o' → h'.get? b = some o') →
      h'.get? s.heap.objs.size = some { cls := .type "list", dict := none, data := .seq its.toArray c', slots := #[] } → EP X pins σ Q (.ref s.heap.objs.size) { s with heap := h' } := fun its r' hz h' c' kp e =>
    ⟨.ref s.heap.objs.size, _, I.laid (t' := s.toks) kp (Nat.le_refl _) (show ObjOk X.prog X.w _ h' _ (.lst ys) from ⟨hz, its, c', r', e⟩), rfl, q _ (I.hok.fresh (Nat.le_refl _))⟩
  rcases hq with hq | hq
  · obtain ⟨its, r', pl, hz⟩ := I.list hq
    have hlen := r'.length
    obtain ⟨o, ho, hc, n, hd⟩ := pl.isList
    exact call_list_seq p (.inl rfl) ho hc hd (fun h' c' kp e => fin its r' hz h' c' kp e) (by simp only [List.size_toArray] <;> omega)
  · obtain ⟨its, r', pl, hz⟩ := I.tuple hq
    have hlen := r'.length
    obtain ⟨o, ho, hc, n, hd⟩ := pl
    exact call_list_seq p (.inr rfl) ho hc hd (fun h' c' kp e => fin its r' hz h' c' kp e) (by simp only [List.size_toArray] <;> omega)
noncomputable def tyV (K : PySem.W.Frag) (T : String) (x : V) (H : Hp) : Prop := match x with
  | .str _ => T = "str"
  | .int _ => T = "int"
  | .ref p => (T = "list" ∧ ∃ xs, SqL K H p xs) ∨ (T = "tuple" ∧ ∃ o, K.lookup p = some o ∧ o.cls = .type "tuple" ∧ o.dict = none) ∨
      (T = "dict" ∧ ((∃ kvs, H p = some (.dK kvs)) ∨ ∃ kvs, H p = some (.dT kvs))) ∨ (T = "set" ∧ ∃ S n, H p = some (.set S n))
  | _ => False
theorem tyV_is {pins : List (Addr × Obj)} {σ : St} {H : Hp} {s : Shared} {T : String} {x : V} {v : Value} (I : Inv X pins σ H s) (r : RelV x v) (ty : tyV X.K T x H) :
    s.TypeIs v T ∧ ∀ a, v = .ref a → ∃ ob, s.heap.get? a = some ob ∧ ob.dict = none := by
  cases x with
  | str z =>
    obtain ⟨t, rfl⟩ := r
    cases (show T = "str" from ty)
    exact ⟨typeIs_str s z t, fun _ e => nomatch e⟩
  | int i =>
    obtain ⟨t, rfl⟩ := r
    cases (show T = "int" from ty)
    exact ⟨typeIs_int s i t, fun _ e => nomatch e⟩
  | ref p =>
    cases r
    rcases ty with ⟨rfl, xs, hq⟩ | ⟨rfl, o, hk, hc, hd⟩ | ⟨rfl, hk⟩ | ⟨rfl, S, n, hk⟩
    · obtain ⟨its, _, pl, _⟩ := I.list hq
      refine ⟨pl.isList.typeIs, fun a e => ?_⟩
      cases e
      obtain ⟨o, n, e, c, hd, _⟩ := pl
      exact ⟨o, e, hd⟩
    · refine ⟨⟨o, I.kIn p o hk, hc⟩, fun a e => ?_⟩
      cases e
      exact ⟨o, I.kIn _ o hk, hd⟩
    · have z : ∃ o, s.heap.get? p = some o ∧ o.ExactDict := by
        rcases hk with ⟨kvs, hk⟩ | ⟨kvs, hk⟩
        · obtain ⟨_, _, _, _, o, _, _, e, ex, _⟩ := I.hok p _ hk
          exact ⟨o, e, ex⟩
        · exact False.elim (show ObjOk X.prog X.w H s.heap p (.dT kvs) from I.hok p _ hk)
      obtain ⟨o, e, ex⟩ := z
      refine ⟨⟨o, e, ex.1⟩, fun a e2 => ?_⟩
      cases e2
      exact ⟨o, e, ex.2.1⟩
    · obtain ⟨o, _, _, _, e, ex, _⟩ := I.hok p _ hk
      refine ⟨⟨o, e, ex.1⟩, fun a e2 => ?_⟩
      cases e2
      exact ⟨o, e, ex.2.1⟩
  | _ => exact False.elim ty
noncomputable def tBM (K : PySem.W.Frag) (T : String) (r : V → List V → Hp → VK → Prop) (to : TE) (t : TA) : TE := fun σ H Q => to σ H fun x H1 => tyV K T x H1 ∧ t σ H1 fun xs H2 => r x xs H2 Q
variable {o e : Expr} {es : List Expr} {to : TE} {t : TA} {name : Str} {apos cpos : Pos} {T id : String} {r : V → List V → Hp → VK → Prop}
theorem pe_bm (pa : PlainAttrs T) (slot : Slot T name id) (hty : typeOf (.builtin id) = pure (.type "method_descriptor")) (hm : MtR X id r) (ho : PE X o to) (ha : PA X (e :: es) t)
    (hbase : attributeBase o name X.env (eval o X.env) = eval o X.env := by rfl)
    (hfew : ((backTo cpos (starEach (e :: es) X.env)).all (fun x => !x.1) && (backToKw cpos (keywordEach [] X.env)).all (fun x => x.1.isSome)
      && decide ((e :: es).length + ([] : List Keyword).length + (if ([] : List Keyword).isEmpty then 0 else 1) < 30)) = true := by rfl)
    (hline : (apos.endLine == cpos.line) = true := by rfl) (hs : starEach (e :: es) X.env = (false, eval e X.env) :: starEach es X.env := by rfl) (hplain : (backTo cpos (starEach es X.env)).any (·.1) = false := by rfl) :
    PE X (.Call (.Attribute o name apos) (e :: es) [] cpos) (tBM X.K T r to t) := by
  intro pins s σ H Q I h
  refine wpAny_Call_method_late hbase hfew hline rfl (thn (ho pins s σ H _ I h) fun v s1 ⟨x, H1, I1, r1, ty, q1⟩ => ?_)
  obtain ⟨h1, h2⟩ := tyV_is I1 r1 ty
  refine ⟨T, id, pa, slot, hty, h1, h2, ?_⟩
  have hA := ha cpos pins s1 σ H1 _ I1 q1
  rw [hs] at hA ⊢
  refine Calls.callWith_builtin (by show (false || (backTo cpos (starEach es X.env)).any (·.1)) = false; rw [hplain] <;> rfl) (Calls.evalArgs_plain ?_)
  exact thn hA fun us s2 ⟨vs, H2, I2, r2, q2⟩ => hm pins s2 σ H2 x vs v us Q I2 r1 r2 q2
/- xs.append(e), list.index on a module's tuple .. are MtR facts of 06m -/
end
end L2
namespace L2
open PySem PySem.Spec PyProof.Rows
noncomputable def MtM (X : Cx) (id : String) (r : V → List V → Hp → VK → Prop) : Prop :=
  ∀ (pins : List (Addr × Obj)) (s : Shared) (σ : St) (H : Hp) (x : V) (xs : List V) (v : Value) (us : List Value) (Q : VK), Inv X pins σ H s → RelV x v → Vals xs us → r x xs H Q →
    wpAny (model X.prog X.w) X.A (call (.builtin id) (v :: us)) (EP X pins σ Q) X.xe s
theorem Vals.one : ∀ {x : V} {us : List Value}, Vals [x] us → ∃ u, us = [u] ∧ RelV x u
  | _, _, .cons r .nil => ⟨_, rfl, r⟩
theorem Vals.two : ∀ {x y : V} {us : List Value}, Vals [x, y] us → ∃ u v, us = [u, v] ∧ RelV x u ∧ RelV y v
  | _, _, _, .cons r (.cons q .nil) => ⟨_, _, rfl, r, q⟩
theorem Vals.eraseIdx : ∀ {xs : List V} {us : List Value} (i : Nat), Vals xs us → Vals (xs.eraseIdx i) (us.eraseIdx i)
  | _, _, _, .nil => .nil
  | _, _, 0, .cons _ t => t
  | _, _, i + 1, .cons r t => .cons r (Vals.eraseIdx i t)
theorem Vals.reverse {xs : List V} {us : List Value} (h : Vals xs us) : Vals xs.reverse us.reverse := by
  induction h with
  | nil => exact .nil
  | cons r t ih => rw [List.reverse_cons, List.reverse_cons]; exact Vals.append ih (.cons r .nil)
theorem Vals.rep {xs : List V} {us : List Value} (h : Vals xs us) : ∀ k : Nat, Vals (List.replicate k xs).flatten (List.replicate k us).flatten
  | 0 => .nil
  | k + 1 => by
    rw [List.replicate_succ, List.replicate_succ, List.flatten_cons, List.flatten_cons]
    exact Vals.append h (Vals.rep h k)
theorem foldl_rep (its : List Value) : ∀ (k : Nat) (acc : List Value),
    List.foldl (fun x1 x2 => x1 ++ x2) acc.toArray (List.replicate k its.toArray) = (acc ++ (List.replicate k its).flatten).toArray
  | 0, acc => by simp
  | k + 1, acc => by
    have e : acc.toArray ++ its.toArray = (acc ++ its).toArray := by simp
    have e2 : (acc ++ its) ++ (List.replicate k its).flatten = acc ++ (List.replicate (k + 1) its).flatten := by
      rw [List.replicate_succ, List.flatten_cons, List.append_assoc]
    rw [← e2, ← foldl_rep its k (acc ++ its), ← e, List.replicate_succ, List.foldl_cons]
section
variable {X : Cx} {pins : List (Addr × Obj)} {σ : St} {H : Hp} {s : Shared} {l b : Addr} {xs ys zs : List V}
theorem Inv.lset {its its' : List Value} {n : Nat} {f : Array Value → Array Value} {t' : Nat} (I : Inv X pins σ H s) (hH : H l = some (.lst xs))
    (e : s.heap.get? l = some { cls := .type "list", data := .seq its.toArray n }) (hf : f its.toArray = its'.toArray) (hv : Vals ys its') (hz : ys.length ≤ sizeLine) :
    Inv X pins σ (upd H l (.lst ys)) { s with heap := s.heap.update l (Obj.mapSeq f), toks := t' } := by
  have q := PySem.IsL.update e f
  rw [hf] at q
  refine I.write (x := l) (e := l) (by rw [hH]; exact trivial) (.inl rfl) (fun b' u hb hu => (Heap.get?_update_other s.heap (Obj.mapSeq f) (Ne.symm hb)).trans hu) ⟨_, q⟩ ?_
  exact ⟨hz, its', _, hv, q⟩
theorem Inv.lnew {its : List Value} {t' : Nat} (I : Inv X pins σ H s) (hv : Vals ys its) (hz : ys.length ≤ sizeLine) :
    Inv X pins σ (upd H s.heap.objs.size (.lst ys)) { s with heap := s.heap.push { cls := .type "list", data := .seq its.toArray }, toks := t' } :=
  I.laid (fun _ _ q => Heap.get?_push_of_some _ q) (Nat.le_refl _) ⟨hz, its, 0, hv, Heap.get?_push_size _ rfl⟩
theorem Inv.fresh (I : Inv X pins σ H s) : H s.heap.objs.size = none := I.hok.fresh (Nat.le_refl _)
theorem Inv.lstM (I : Inv X pins σ H s) (hH : H l = some (.lst xs)) : xs.length ≤ sizeLine ∧ ∃ (its : List Value) (n : Nat), Vals xs its ∧ xs.length = its.length ∧ s.heap.get? l = some { cls := .type "list", data := .seq its.toArray n } := by
  obtain ⟨z, its, n, r, e⟩ := I.hok l _ hH
  exact ⟨z, its, n, r, r.length, e⟩
theorem notLongL {n : Nat} (h : n ≤ sizeLine) : Builtin.List.listTooLong n = false := by
  unfold Builtin.List.listTooLong
  exact decide_eq_false (by omega)
end
section
variable {X : Cx}
noncomputable def rAppend : V → List V → Hp → VK → Prop := fun x vs H Q => ∃ l xs y, x = .ref l ∧ vs = [y] ∧ H l = some (.lst xs) ∧ xs.length < sizeLine ∧ Q .non (upd H l (.lst (xs ++ [y])))
theorem mt_append : MtM X "list.append" rAppend := by
  intro pins s σ H x vs v us Q I rx rv h
  obtain ⟨l, xs, y, rfl, rfl, hH, hz, q⟩ := h
  cases rx
  obtain ⟨u, rfl, ru⟩ := rv.one
  obtain ⟨z, its, n, r, hl, e⟩ := I.lstM hH
  refine call_meets F.slot_list_append ⟨_, e, rfl⟩ F.entry_list_append (F.args_list_append_2 _ _) (PySem.list_append l its.toArray n u (by rw [List.size_toArray]; omega)) ⟨e, ?_⟩
  refine ⟨.non, _, I.lset (its' := its ++ [u]) hH e (by simp) (r.append (.cons ru .nil)) ?_, rfl, q⟩
  rw [List.length_append, List.length_singleton]
  omega
noncomputable def rCat : R2 := fun x y H Q => ∃ l b xs zs, x = .ref l ∧ y = .ref b ∧ H l = some (.lst xs) ∧ H b = some (.lst zs) ∧ xs.length + zs.length ≤ sizeLine ∧ ∀ p, H p = none → Q (.ref p) (upd H p (.lst (xs ++ zs)))
theorem op_cat : OpR X (binaryOp .Add) rCat := by
  intro pins s σ H x y v u Q I rx ry h
  obtain ⟨l, b, xs, zs, rfl, rfl, hH, hB, hz, q⟩ := h
  cases rx
  cases ry
  obtain ⟨z, its, n, r, hl, e⟩ := I.lstM hH
  obtain ⟨z2, its2, n2, r2, hl2, e2⟩ := I.lstM hB
  refine PySem.P.add_list e e2 ?_ (by rw [List.size_toArray, List.size_toArray]; omega)
  have ea : its.toArray ++ its2.toArray = (its ++ its2).toArray := by simp
  rw [ea]
  exact ⟨.ref _, _, I.lnew (t' := s.toks) (r.append r2) (by rw [List.length_append]; omega), rfl, q _ I.fresh⟩
noncomputable def rRep : R2 := fun x y H Q => ∃ l k xs, x = .ref l ∧ y = .int k ∧ H l = some (.lst xs) ∧ -(2 ^ 63) ≤ k ∧ k < 2 ^ 63 ∧ xs.length * k.toNat ≤ sizeLine ∧
  ∀ p, H p = none → Q (.ref p) (upd H p (.lst (List.replicate k.toNat xs).flatten))
theorem len_rep {α : Type} (xs : List α) (k : Nat) : (List.replicate k xs).flatten.length = k * xs.length := by
  induction k with
  | zero => simp
  | succ k ih => rw [List.replicate_succ, List.flatten_cons, List.length_append, ih, Nat.succ_mul, Nat.add_comm]
theorem op_rep : OpR X (binaryOp .Mult) rRep := by
  intro pins s σ H x y v u Q I rx ry h
  obtain ⟨l, k, xs, rfl, rfl, hH, h1, h2, hz, q⟩ := h
  cases rx
  obtain ⟨t, rfl⟩ := ry
  obtain ⟨z, its, n, r, hl, e⟩ := I.lstM hH
  have hlen : its.toArray.size * k.toNat ≤ sizeLine := by rw [List.size_toArray, ← hl]; exact hz
  have hcap : ¬ its.toArray.size * k.toNat > (2 ^ 63 - 1) / 8 := by
    have : (sizeLine : Nat) ≤ (2 ^ 63 - 1) / 8 := by decide
    omega
  have hfit : ¬ (!Builtin.List.listFitsIndex k) = true := by
    rw [fitsIndex_both h1 h2]
    exact Bool.false_ne_true
  have hlong : ¬ Builtin.List.listTooLong (its.toArray.size * k.toNat) = true := by
    rw [notLongL hlen]
    exact Bool.false_ne_true
  have hnew : List.foldl (fun x1 x2 => x1 ++ x2) #[] (List.replicate (if its.toArray.isEmpty = true then 0 else k.toNat) its.toArray) = (List.replicate k.toNat its).flatten.toArray := by
    have f0 : ∀ m : Nat, List.foldl (fun x1 x2 => x1 ++ x2) #[] (List.replicate m its.toArray) = (List.replicate m its).flatten.toArray := fun m => by
      have := foldl_rep its m []
      rw [List.nil_append] at this
      exact this
    rw [f0]
    cases its with
    | nil => simp
    | cons a r' => rw [if_neg (by simp)]
  refine wpAny_binaryOp_repeat_ref (T := "list") (U := "int") (by decide) ⟨_, e, rfl⟩ (fun s' => typeIs_int s' k t) noFill_list_mul F.fills_int_mul F.slot_int_rmul repeat_list F.slot_int_index.lookup
    (call_meets F.slot_int_rmul (typeIs_int s k t) F.entry_int_rmul (F.args_int_rmul_2 _ _) (int___rmul___int_list k t l its.toArray n)
      ⟨e, rfl, ⟨_, e, rfl⟩, call_meets F.slot_list_mul ⟨_, e, rfl⟩ F.entry_list_mul (F.args_list_mul_2 _ _) (AutoListH.list___mul___list_int_3 l its.toArray n k t hfit hcap hlong) ⟨e, ?_⟩⟩)
  rw [hnew]
  exact ⟨.ref _, _, I.lnew (t' := s.toks) (r.rep k.toNat) (by rw [len_rep, Nat.mul_comm]; exact hz), rfl, q _ I.fresh⟩
end
section
variable {prog : Program} {w : World} {A : Around} {E : Value → Shared → Prop} {s : Shared}
end
section
variable {X : Cx}
end
end L2
namespace Att
open PySem PySem.W PySem.Calls PyProof.Rows
theorem ints_of_wellAll {P : Params} {h : Heap} : ∀ (ns : List Int) (vs : List Value), WellAll P h vs (ns.map WData.int) → IntsAre vs ns := by
  intro ns
  induction ns with
  | nil =>
    intro vs w
    rw [List.map_nil] at w
    cases w
    exact .nil
  | cons n ns ih =>
    intro vs w
    rw [List.map_cons] at w
    cases w with
    | cons a b =>
      cases a
      exact .cons _ _ (ih _ b)
theorem script_of {l : OpenLaw} {n : Nat} (hn : l.most = some n) {P : Params} {h : Heap} {args : List WData} {vals : List Value}
    (hpre : l.row.toRowW.claim.pre args = true) (hwl : WellAll P h vals args) :
    ∃ a vs ns, vals = [Value.ref a] ∧ args = [WData.list (ns.map WData.int)] ∧ h.get? a = some { cls := .type "list", data := .seq vs.toArray } ∧ IntsAre vs ns ∧ ns.length ≤ n := by
  have hsh : WShape.hasAll [] args [.list .int] = true := (pre_splitW hpre).1
  have hc : l.pre.holds [] { args := args } = true := (pre_splitW hpre).2
  obtain ⟨d, r, rfl, h1, h2⟩ := hasAllW_cons hsh
  obtain rfl := hasAllW_nil h2
  obtain ⟨xs, rfl, h3⟩ := hasW_list h1
  obtain ⟨ns, rfl⟩ := items_int h3
  have hlen : ns.length ≤ n := by
    unfold OpenLaw.pre at hc
    have h4 : (WTm.not (.lt (.lit (.int (n : Int))) (.len (.arg 0)))).holds [] { args := [.list (ns.map .int)] } = true := by
      have h4 := (holds_andW hc).1
      rw [hn] at h4
      exact h4
    have h5 := condW_of h4 (w_not (w_lt w_lit (w_len_list (w_arg rfl))))
    rw [List.length_map] at h5
    refine Nat.le_of_not_lt fun q => ?_
    have q' : (n : Int) < ((ns.length : Nat) : Int) := by omega
    first
      | (rw [decide_eq_true q'] at h5; exact absurd h5 (by decide))
      | (simp at h5; omega)
  cases hwl with
  | cons w1 w2 =>
    cases w2
    cases w1 with
    | list ho hall => exact ⟨_, _, ns, rfl, rfl, ho, ints_of_wellAll ns _ hall, hlen⟩
theorem post_true (l : OpenLaw) (args : List WData) : l.row.toRowW.claim.post args (.bool true) args = true :=
  postW_of (r := l.row.toRowW) (X := (true == true))
    (show WShape.has [] (.bool true) .bool = true by first | rfl | decide | simp [WShape.has, WShape.arms, WShape.armsAll])
    (show (WTm.eq .res (.lit (.bool true))).value [] { args := args, res := some (.bool true), after := args } = some (.bool (true == true)) from w_eq_bool (w_res rfl) w_lit) rfl
theorem attach_call {l : OpenLaw} {n : Nat} {q : Program} {loose : List Str} {XP : (Str → Option Value) → Heap → Prop} {YP : World → Heap → Prop} {d : DefRec}
    (hn : l.most = some n) (hdf : d.params.defaults = [])
    (call : ∀ (w : World) (s₀ s₁ : Shared) (mg mb : Str → Option Value) (fa : Addr) (o : Obj) (pm cd doc : Value) (a : Addr) (vs : List Value) (ns : List Int),
      Ground q loose [] XP w s₀ mg mb s₁.heap → YP w s₁.heap →
      s₁.heap.get? fa = some o → o.data = .func (docDef d.name d.params d.body d.scope pm cd doc) → s₁.heap.CodeRec cd d.name → mg d.name = some (.ref fa) →
      s₁.heap.get? a = some { cls := .type "list", data := .seq vs.toArray } → IntsAre vs ns → ns.length ≤ n → s₁.gens = #[] →
      codeAny (model l.prog w) callerA (.call (.ref fa) ⟨[.ref a], []⟩) (fun r s' => r = .ok (.ret (.bool true)) ∧ OldK s₁.heap s'.heap ∧ s'.os = s₁.os ∧ AllBare s'.gens) s₁) :
    WalkO q loose XP YP l.row.toRowW d [] (fun f vs => PySem.call f vs) := by
  intro w s₀ s₁ mg mb G Y fa o pm cd doc dV kV ho hd hcd hD hmg hg args vals as hpre hlay hrd hwl hlo
  obtain rfl : dV = .none := Dflts.none hD hdf
  obtain rfl : kV = .none := Dflts.noKw hD
  obtain ⟨a, vs, ns, rfl, rfl, hobj, hints, hlen⟩ := script_of hn hpre hwl
  refine enter_call (codeAny_mono (call w s₀ s₁ mg mb fa o pm cd doc a vs ns G Y ho (fd_plain hd) hcd hmg hobj hints hlen hg) fun r s' hq => ?_)
  obtain ⟨rfl, h2, h3, h4⟩ := hq
  exact ⟨.inl ⟨.bool true, .bool true, [], rfl, fun _ => rfl, .bool true, post_true l _, fun _ => ⟨List.Pairwise.nil, fun _ hm => (nomatch hm)⟩⟩, h2, h3, h4⟩
section
variable {prog : Program} {w : World} {A : Around} {E : Value → Shared → Prop} {s : Shared} {K : Frag}
end
end Att
namespace L2
open PySem PySem.Spec PyProof.Rows
theorem vals_ints : ∀ {vs : List Value} {ns : List Int}, IntsAre vs ns → Vals (ns.map V.int) vs
  | _, _, .nil => .nil
  | _, _, .cons n t h => .cons ⟨t, rfl⟩ (vals_ints h)
end L2
namespace L2
open PySem PySem.Spec PyProof.Rows
end L2
namespace L2
open PySem PySem.Spec PyProof.Rows
noncomputable def defArgs (s : Stmt) : Arguments := match s with
  | .FunctionDef _ a _ _ _ _ _ _ _ _ => a
  | _ => { posonlyargs := [], args := [], vararg := none, kwonlyargs := [], kw_defaults := [], kwarg := none, defaults := [] }
noncomputable def defBody (s : Stmt) : List Stmt := match s with
  | .FunctionDef _ _ b _ _ _ _ _ _ _ => b
  | _ => []
noncomputable def defScope (s : Stmt) : Scope := match s with
  | .FunctionDef _ _ _ _ _ _ sc _ _ _ => sc
  | _ => { kind := .function, names := [], isGenerator := false, isCoroutine := false }
abbrev CX0 : CXT := fun _ _ _ _ _ _ => False
abbrev E0 : XK := fun _ _ _ => False
theorem pass0 {X : Cx} : Passes CX0 X E0 := fun _ _ _ _ _ _ _ h => h.elim
structure Fun (K : PySem.W.Frag) (x qual : Str) (st : Stmt) (f : Addr) (fd : FuncData) : Prop where
  ex : ∃ (oc : Value) (od : Option Addr) (kV doc pm : Value) (an : Option Addr) (cdv ct : Value) (osl : Array (Option Value)),
    fd = PySem.W.fnOf x qual (defArgs st) (defBody st) (defScope st) .none kV doc pm an cdv ct ∧ K.lookup f = some ⟨oc, od, .func fd, osl⟩ ∧ PySem.W.codeIn K cdv qual = true
  kp : PySem.W.keepIn K (.ref f) = true
section
variable {P : Program} {w : World} {K : PySem.W.Frag} {mg : Str → Option Value} {base : Heap}
theorem Fun.ok {x qual : Str} {st : Stmt} {f : Addr} {fd : FuncData} {N ps : List Str} {k : Nat} {sp : Sp} (F : Fun K x qual st f fd) (S : FnScope N ps (defScope st)) (len : ∀ vs H Q E, sp vs H Q E → vs.length = ps.length)
    (hbody : ∀ (cdv : Value) (A : Around) (outer : List Env) (s : Shared) (H : Hp) (vs : List V) (Q : VK) (E : XK), Room k (A.deeper (envOfC qual (defScope st) s.heap.objs.size f cdv)) → sp vs H Q E →
      ∃ t, PSs (cxOf CX0 P w K mg base N qual (defScope st) f cdv A outer s H E).nox (defBody st) t ∧ t { nx := fun _ H' => Q .non H', rt := Q } (start N vs) H) : FnOk P w K mg base CX0 (k + 1) f fd ps sp := by
  obtain ⟨oc, od, kV, doc, pm, an, cdv, ct, osl, rfl, lk, hcd⟩ := F.ex
  refine fn_of lk hcd S len fun A outer s H vs Q E hr hsp => ?_
  obtain ⟨t, h, q⟩ := hbody cdv A outer s H vs Q E hr hsp
  exact ⟨t, h.nox, q⟩
theorem Fun.binds {x qual : Str} {st : Stmt} {f : Addr} {fd : FuncData} {ps : List Str} (F : Fun K x qual st f fd)
    (h : ∀ (kV doc pm : Value) (an : Option Addr) (cdv ct : Value) (us : List Value), us.length = ps.length → bindArgs (PySem.W.fnOf x qual (defArgs st) (defBody st) (defScope st) .none kV doc pm an cdv ct) ⟨us, []⟩ = pure (ps.zip us)) : Binds K fd ps [] := by
  obtain ⟨oc, od, kV, doc, pm, an, cdv, ct, osl, rfl, lk, hcd⟩ := F.ex
  exact .all (h kV doc pm an cdv ct)
theorem fun_mk {x qual : Str} {st : Stmt} {f : Addr} {oc : Value} {od an : Option Addr} {osl : Array (Option Value)} {kV doc pm cdv ct : Value} (l : K.lookup f = some ⟨oc, od, .func (PySem.W.fnOf x qual (defArgs st) (defBody st) (defScope st) .none kV doc pm an cdv ct), osl⟩)
    (c : PySem.W.codeIn K cdv qual = true) (k : PySem.W.keepIn K (.ref f) = true) : Fun K x qual st f (PySem.W.fnOf x qual (defArgs st) (defBody st) (defScope st) .none kV doc pm an cdv ct) := ⟨⟨oc, od, kV, doc, pm, an, cdv, ct, osl, rfl, l, c⟩, k⟩
end
theorem hu_of {A : Around} {k : Nat} (hr : Room k A) : A.units + 1 < cLine := Nat.lt_of_le_of_lt (Nat.add_le_add_left (by decide : 1 ≤ 64) _) hr.units
section
variable {X : Cx}
theorem pv (i : Nat) {x : Str} {pos : Pos} (hN : X.N[i]? = some x := by rfl) (hv : Vis X.env.scope x := by first | exact Or.inl rfl | exact Or.inr (Or.inl rfl) | exact Or.inr (Or.inr rfl)) (hd : (x == ("__debug__" : Str)) = false := by decide)
    (hcd : (x == ("__classdict__" : Str)) = false := by decide) : PE X (.Name x pos) (tVar i) := pe_var hN hv hd hcd
end
theorem iteF {A B : Prop} (h : B) : if false = true then A else B := by
  rw [if_neg Bool.false_ne_true]
  exact h
theorem ite2 {c A B : Prop} [Decidable c] (h1 : c → A) (h2 : ¬ c → B) : if c then A else B := by
  by_cases h : c
  · rw [if_pos h]
    exact h1 h
  · rw [if_neg h]
    exact h2 h
noncomputable def Same (H H' : Hp) : Prop := ∀ b o, H b = some o → H' b = some o
theorem Same.refl (H : Hp) : Same H H := fun _ _ h => h
theorem Same.trans {H H1 H2 : Hp} (a : Same H H1) (b : Same H1 H2) : Same H H2 := fun c o h => b c o (a c o h)
theorem Same.free {H H' : Hp} (e : Same H H') {l : Addr} (h : H' l = Option.none) : H l = Option.none := by
  cases q : H l with
  | none => rfl
  | some o =>
    rw [e l o q] at h
    cases h
theorem Same.seq {K : PySem.W.Frag} {H H' : Hp} {a : Addr} {xs : List V} (e : Same H H') (h : SqL K H a xs) : SqL K H' a xs := by
  rcases h with (h | ⟨o, h⟩) | h
  · exact .inl (.inl (e _ _ h))
  · exact .inl (.inr ⟨o, e _ _ h⟩)
  · exact .inr h
end L2
set_option maxRecDepth 100000
namespace L2
open PySem PySem.Spec PyProof.Rows
noncomputable def T (l : List Nat) : Str := ⟨l.toArray⟩
noncomputable def L (z : Str) : List Nat := z.cps.toList
theorem L_T (l : List Nat) : L (T l) = l := by
  unfold L T
  simp
theorem T_L (z : Str) : T (L z) = z := by
  cases z
  simp [T, L]
theorem L_len (z : Str) : (L z).length = z.length := by simp [L, Str.length]
theorem T_len (l : List Nat) : (T l).length = l.length := by simp [T, Str.length]
theorem T_app (a b : List Nat) : T a ++ T b = T (a ++ b) := by
  show Str.append (T a) (T b) = T (a ++ b)
  simp [Str.append, T]
theorem T_inj {a b : List Nat} : T a = T b ↔ a = b := by
  constructor
  · intro h
    have := congrArg L h
    rwa [L_T, L_T] at this
  · intro h
    rw [h]
noncomputable def gS : St → Nat → Option V
  | [], _ => none
  | a :: _, 0 => a
  | _ :: r, n + 1 => gS r n
theorem gS_get : ∀ {σ : St} {i : Nat} {v : V}, gS σ i = some v → σ[i]? = some (some v)
  | [], _, _, h => by simp [gS] at h
  | a :: _, 0, v, h => by
    have h : a = some v := h
    simp [h]
  | _ :: r, n + 1, v, h => by
    have h : gS r n = some v := h
    simpa using gS_get h
noncomputable def rVar (i : Nat) : TE := fun σ H Q => match gS σ i with
  | some v => Q v H
  | none => False
section
variable {X : Cx}
theorem qv (i : Nat) {x : Str} {pos : Pos} (hN : X.N[i]? = some x := by rfl) (hv : Vis X.env.scope x := by first | exact Or.inl rfl | exact Or.inr (Or.inl rfl) | exact Or.inr (Or.inr rfl)) (hd : (x == ("__debug__" : Str)) = false := by decide)
    (hcd : (x == ("__classdict__" : Str)) = false := by decide) : PE X (.Name x pos) (rVar i) := by
  intro pins s σ H Q I h
  refine pv i hN hv hd hcd pins s σ H Q I ?_
  unfold rVar at h
  cases e : gS σ i with
  | none => rw [e] at h; exact h.elim
  | some v => rw [e] at h; exact ⟨v, gS_get e, h⟩
noncomputable def addV : R2 := fun x y H Q => match x, y with
  | .int i, .int j => Q (.int (i + j)) H
  | .str a, .str b => (L a).length + (L b).length ≤ sizeLine ∧ Q (.str (T (L a ++ L b))) H
  | .ref l, .ref b => rCat (.ref l) (.ref b) H Q
  | _, _ => False
theorem o_add : OpR X (binaryOp .Add) addV := by
  intro pins s σ H x y v u Q I rx ry h
  cases x <;> cases y <;> first
    | exact False.elim h
    | exact op_add pins s σ H _ _ v u Q I rx ry ⟨_, _, rfl, rfl, h⟩
    | exact op_cat pins s σ H _ _ v u Q I rx ry h
    | (refine op_add_str pins s σ H _ _ v u Q I rx ry ⟨_, _, rfl, rfl, ?_, ?_⟩
       · rw [← L_len, ← L_len]; exact h.1
       · rename_i a b
         have e := T_app (L a) (L b)
         rw [T_L, T_L] at e
         rw [e]; exact h.2)
theorem o_iadd : OpR X (inplaceOp .Add) (fun x y H Q => match x, y with
    | .int i, .int j => Q (.int (i + j)) H
    | .str a, .str b => (L a).length + (L b).length ≤ sizeLine ∧ Q (.str (T (L a ++ L b))) H
    | _, _ => False) := by
  intro pins s σ H x y v u Q I rx ry h
  cases x <;> cases y <;> first
    | exact False.elim h
    | exact iop_add pins s σ H _ _ v u Q I rx ry ⟨_, _, rfl, rfl, h⟩
    | (refine iop_add_str pins s σ H _ _ v u Q I rx ry ⟨_, _, rfl, rfl, ?_, ?_⟩
       · rw [← L_len, ← L_len]; exact h.1
       · rename_i a b
         have e := T_app (L a) (L b)
         rw [T_L, T_L] at e
         rw [e]; exact h.2)
noncomputable def int2 (C : Int → Int → Prop) (g : Int → Int → V) : R2 := fun x y H Q => match x, y with
  | .int i, .int j => C i j ∧ Q (g i j) H
  | _, _ => False
noncomputable def int2' (g : Int → Int → V) : R2 := fun x y H Q => match x, y with
  | .int i, .int j => Q (g i j) H
  | _, _ => False
theorem o_int2 {f : Value → Value → Sem Value} {C : Int → Int → Prop} {g : Int → Int → V} (h : OpR X f (rI C g)) : OpR X f (int2 C g) := by
  intro pins s σ H x y v u Q I rx ry q
  cases x <;> cases y <;> first
    | exact False.elim q
    | exact h pins s σ H _ _ v u Q I rx ry ⟨_, _, rfl, rfl, q.1, q.2⟩
theorem o_int2' {f : Value → Value → Sem Value} {g : Int → Int → V} (h : OpR X f (rI0 g)) : OpR X f (int2' g) := by
  intro pins s σ H x y v u Q I rx ry q
  cases x <;> cases y <;> first
    | exact False.elim q
    | exact h pins s σ H _ _ v u Q I rx ry ⟨_, _, rfl, rfl, q⟩
abbrev subV : R2 := int2' fun i j => .int (i - j)
theorem o_sub : OpR X (binaryOp .Sub) subV := o_int2' op_sub
abbrev modV : R2 := int2 (fun _ j => 0 < j) fun i j => .int (i % j)
theorem o_mod : OpR X (binaryOp .Mod) modV := o_int2 op_mod
abbrev powV : R2 := int2 CPow fun i j => .int (i ^ j.toNat)
theorem o_pow : OpR X (binaryOp .Pow) powV := o_int2 op_pow
noncomputable def rep (n : Nat) (l : List Nat) : List Nat := (List.replicate n l).flatten
theorem foldl_app (c : List (Array Nat)) : ∀ a : Array Nat, (c.foldl (fun x y => x ++ y) a).toList = a.toList ++ (c.map Array.toList).flatten := by
  induction c with
  | nil => intro a; simp
  | cons x r ih => intro a; simp [ih]
theorem mul_T (z : Str) (n : Int) : Txt.mul z n = T (rep n.toNat (L z)) := by
  unfold Txt.mul rep
  by_cases h1 : n < 1
  · rw [if_pos h1]
    have : n.toNat = 0 := by omega
    rw [this]
    rfl
  · rw [if_neg h1]
    by_cases h2 : (n == 1 || z.length == 0) = true
    · rw [if_pos h2]
      rcases Bool.or_eq_true _ _ |>.mp h2 with e | e
      · have : n = 1 := by simpa using e
        subst this
        show z = T (List.flatten [L z])
        simp [T_L]
      · have e0 : z.length = 0 := by simpa using e
        have e1 : L z = [] := List.eq_nil_of_length_eq_zero (by rw [L_len]; exact e0)
        rw [e1]
        have e2 : z = T [] := by rw [← e1, T_L]
        rw [e2]
        congr 1
        simp
    · rw [if_neg h2]
      have e := foldl_app (List.replicate n.toNat z.cps) #[]
      rw [← T_L ⟨_⟩]
      congr 1
      show (List.foldl (fun x y => x ++ y) #[] (List.replicate n.toNat z.cps)).toList = _
      rw [e]
      simp [L]
noncomputable def mulV : R2 := fun x y H Q => match x, y with
  | .int i, .int j => CMul i j ∧ Q (.int (i * j)) H
  | .str a, .int n => (-(2 ^ 63) ≤ n ∧ n < 2 ^ 63 ∧ (L a).length * n.toNat ≤ sizeLine) ∧ Q (.str (T (rep n.toNat (L a)))) H
  | .ref l, .int k => rRep (.ref l) (.int k) H Q
  | _, _ => False
theorem o_mul : OpR X (binaryOp .Mult) mulV := by
  intro pins s σ H x y v u Q I rx ry h
  cases x <;> cases y <;> first
    | exact False.elim h
    | exact op_mul pins s σ H _ _ v u Q I rx ry ⟨_, _, rfl, rfl, h.1, h.2⟩
    | exact op_rep pins s σ H _ _ v u Q I rx ry h
    | (rename_i a n
       obtain ⟨t, e⟩ := rx
       obtain ⟨t', e'⟩ := ry
       subst e e'
       obtain ⟨⟨h1, h2, h3⟩, q⟩ := h
       rw [L_len] at h3
       have hl : sizeLine = 16777216 := sizeLine_eq
       refine SB.mul ⟨?_, fun h4 h5 => ?_, fun h4 h5 => ?_⟩ fun t' k => ?_
       · rw [decide_eq_false (by omega), decide_eq_false (by omega)]; rfl
       · intro h6
         have h7 : n ≤ (a.length : Int) * n := by
           have h8 : a.length ≠ 0 := by
             intro z
             rw [z] at h5
             simp at h5
           have h9 : (1 : Int) ≤ (a.length : Int) := by omega
           calc n = 1 * n := by omega
             _ ≤ (a.length : Int) * n := Int.mul_le_mul_of_nonneg_right h9 (by omega)
         have h10 : (a.length : Int) * n ≤ 16777216 := by
           have : ((a.length * n.toNat : Nat) : Int) ≤ 16777216 := by omega
           rw [Int.natCast_mul, Int.toNat_of_nonneg (by omega)] at this
           exact this
         have h11 : (a.length : Int) ≤ (2 ^ 63 - 1) / n := by
           rw [Int.le_ediv_iff_mul_le (by omega)]
           omega
         omega
       · unfold Builtin.Str.tooLong
         exact decide_eq_false (by omega)
       · exact ⟨.str (T (rep n.toNat (L a))), H, I.tok _, ⟨_, by rw [mul_T]⟩, q⟩)
noncomputable def ltV : R2 := fun x y H Q => match x, y with
  | .int i, .int j => Q (.bl (decide (i < j))) H
  | .str a, .str b => Q (.bl (decide (L a < L b))) H
  | _, _ => False
theorem o_lt : OpR X (compareOp .Lt) ltV := by
  intro pins s σ H x y v u Q I rx ry h
  cases x <;> cases y <;> first
    | exact False.elim h
    | exact op_lt pins s σ H _ _ v u Q I rx ry ⟨_, _, rfl, rfl, h⟩
    | exact op_lt_str pins s σ H _ _ v u Q I rx ry ⟨_, _, rfl, rfl, h⟩
abbrev gtV : R2 := int2' fun i j => .bl (decide (j < i))
theorem o_gt : OpR X (compareOp .Gt) gtV := o_int2' op_gt
noncomputable def sc : V → V → Option Bool
  | .int i, .int j => some (decide (i = j))
  | .str a, .str b => some (decide (L a = L b))
  | .bl a, .bl b => some (decide (a = b))
  | .non, .non => some true
  | .non, .int _ => some false | .int _, .non => some false | .non, .bl _ => some false | .bl _, .non => some false | .non, .str _ => some false | .str _, .non => some false
  | .int _, .str _ => some false | .str _, .int _ => some false | .bl _, .str _ => some false | .str _, .bl _ => some false
  | _, _ => none
theorem L_inj {a b : Str} : L a = L b ↔ a = b := by
  constructor
  · intro h
    rw [← T_L a, ← T_L b, h]
  · intro h
    rw [h]
theorem sc_eq {x y : V} {b : Bool} (h : sc x y = some b) : scal x y = true ∧ b = decide (x = y) := by
  cases x <;> cases y <;> first
    | exact (nomatch (show (none : Option Bool) = some b from h))
    | (have h := Option.some.inj h
       subst h
       refine ⟨rfl, ?_⟩
       simp [L_inj])
noncomputable def eqR : R2 := fun x y H Q => match sc x y with
  | some b => Q (.bl b) H
  | none => False
noncomputable def neR : R2 := fun x y H Q => match sc x y with
  | some b => Q (.bl (!b)) H
  | none => False
theorem o_eq : OpR X (compareOp .Eq) eqR := by
  intro pins s σ H x y v u Q I rx ry h
  unfold eqR at h
  cases e : sc x y with
  | none => rw [e] at h; exact h.elim
  | some b =>
    rw [e] at h
    obtain ⟨h1, h2⟩ := sc_eq e
    subst h2
    exact op_eq pins s σ H x y v u Q I rx ry ⟨h1, h⟩
theorem o_ne : OpR X (compareOp .NotEq) neR := by
  intro pins s σ H x y v u Q I rx ry h
  unfold neR at h
  cases e : sc x y with
  | none => rw [e] at h; exact h.elim
  | some b =>
    rw [e] at h
    obtain ⟨h1, h2⟩ := sc_eq e
    subst h2
    exact op_ne pins s σ H x y v u Q I rx ry ⟨h1, h⟩
noncomputable def isntV : R2 := fun x y H Q => match y, x with
  | .non, x => Q (.bl (!decide (x = .non))) H
  | .bl b, .bl c => Q (.bl (c != b)) H
  | _, _ => False
theorem o_isnt : OpR X (compareOp .IsNot) isntV := by
  intro pins s σ H x y v u Q I rx ry h
  cases y with
  | non => exact op_notN pins s σ H x _ v u Q I rx ry ⟨rfl, h⟩
  | bl b =>
    cases x with
    | bl c =>
      cases rx
      cases ry
      exact isnot_bool (fin_bl I h rfl)
    | _ => exact False.elim h
  | _ => cases x <;> exact False.elim h
noncomputable def ixV (K : PySem.W.Frag) : R2 := fun x y H Q => match x, y with
  | .str z, .int i => (L z).length ≤ sizeLine ∧ ∃ c, atI (L z) i = some c ∧ Q (.str (T [c])) H
  | .ref p, .int i => ∃ xs v, (SqL K H p xs ∨ SqT K H p xs) ∧ atI xs i = some v ∧ Q v H
  | _, _ => False
theorem i_ix : IxR X (ixV X.K) := by
  intro value slice pins s σ H x y v u Q I rx ry h hs
  cases x <;> cases y <;> first
    | exact False.elim h
    | (obtain ⟨hz, c, e, q⟩ := h
       exact ix_str value slice pins s σ H _ _ v u Q I rx ry ⟨_, _, c, rfl, rfl, (by rw [← L_len]; exact hz), e, q⟩ hs)
    | (obtain ⟨xs, w, e | e, ei, q⟩ := h
       · exact ix_list value slice pins s σ H _ _ v u Q I rx ry ⟨_, xs, _, w, rfl, rfl, e, ei, q⟩ hs
       · exact ix_tup value slice pins s σ H _ _ v u Q I rx ry ⟨_, xs, _, w, rfl, rfl, e, ei, q⟩ hs)
noncomputable def cut {α : Type} (xs : List α) (lo hi : Option Int) : List α := (xs.drop (HT.sIx xs.length 0 lo)).take (HT.sIx xs.length xs.length hi - HT.sIx xs.length 0 lo)
theorem cut_len {α : Type} (xs : List α) (lo hi : Option Int) : (cut xs lo hi).length ≤ xs.length := by
  unfold cut
  rw [List.length_take, List.length_drop]
  omega
theorem range_eq (a b : Nat) : sliceRange (a : Int) (b : Int) 1 = (List.range (b - a)).map fun k => a + k := by
  unfold sliceRange
  have h1 : (1 : Int) > 0 := by decide
  simp only [h1, if_true]
  have e2 : (if (a : Int) < (b : Int) then ((b : Int) - (a : Int) + 1 - 1) / 1 else 0).toNat = b - a := by
    split <;> omega
  rw [e2]
  apply List.map_congr_left
  intro k _
  omega
theorem ixs_eq (lo hi : Option Int) (n : Nat) : Builtin.Str.strSliceIndices lo hi 1 n = (List.range (HT.sIx n n hi - HT.sIx n 0 lo)).map fun k => HT.sIx n 0 lo + k := by
  rw [← range_eq]
  have h1 : (1 : Int) > 0 := by decide
  have cl : ∀ (i : Int) (d : Nat), max 0 (min (if i < 0 then i + (n : Int) else i) (n : Int)) = ((HT.sIx n d (some i) : Nat) : Int) := by
    intro i d
    show max 0 (min (if i < 0 then i + (n : Int) else i) (n : Int)) = (((if i < 0 then (i + (n : Int)).toNat else min i.toNat n) : Nat) : Int)
    by_cases hi : i < 0
    · rw [if_pos hi, if_pos hi]; omega
    · rw [if_neg hi, if_neg hi]; omega
  unfold Builtin.Str.strSliceIndices
  simp only [h1, if_true]
  cases lo with
  | none =>
    cases hi with
    | none => rfl
    | some j =>
      simp only [cl j n]
      rfl
  | some i =>
    cases hi with
    | none =>
      simp only [cl i 0]
      rfl
    | some j => simp only [cl i 0, cl j n]
theorem pick_L (l : List Nat) (a : Nat) : ∀ k : Nat, ((List.range k).map fun m => a + m).filterMap (fun i => l[i]?) = (l.drop a).take k
  | 0 => by simp
  | k + 1 => by
    rw [List.range_succ, List.map_append, List.filterMap_append, pick_L l a k, List.take_succ, List.getElem?_drop]
    cases e : l[a + k]? <;> simp [e]
theorem slice_T (z : Str) (lo hi : Option Int) : Txt.slice z lo hi = T (cut (L z) lo hi) := by
  unfold Txt.slice
  rw [ixs_eq]
  have e0 : (fun i : Nat => z.cps[i]?) = fun i : Nat => (L z)[i]? := by
    funext i
    simp [L]
  have hl : (L z).length = z.length := L_len z
  have h1 := HT.sIx_le z.length z.length (Nat.le_refl _) hi
  have e : T (cut (L z) lo hi) = ⟨(((List.range (HT.sIx z.length z.length hi - HT.sIx z.length 0 lo)).map fun k => HT.sIx z.length 0 lo + k).filterMap fun i => z.cps[i]?).toArray⟩ := by
    rw [e0, pick_L]
    unfold cut T
    rw [hl]
  rw [← e]
  split
  · rename_i h
    rw [List.length_map, List.length_range] at h
    have h2 : HT.sIx z.length z.length hi - HT.sIx z.length 0 lo = z.length := by simpa using h
    have h3 : HT.sIx z.length 0 lo = 0 := by
      by_cases hz : z.length = 0
      · have := HT.sIx_le z.length 0 (Nat.zero_le _) lo
        omega
      · omega
    unfold cut
    rw [hl, h2, h3, List.drop_zero, ← hl, List.take_length, T_L]
  · rfl
noncomputable def slV (K : PySem.W.Frag) : V → Option Int → Option Int → Hp → VK → Prop := fun x lo hi H Q => match x with
  | .str z => (L z).length ≤ sizeLine ∧ Q (.str (T (cut (L z) lo hi))) H
  | .ref p => ∃ xs, SqL K H p xs ∧ ∀ q, H q = none → Q (.ref q) (upd H q (.lst (cut xs lo hi)))
  | _ => False
theorem part_of {v : Value} {o : Option Int} (h : IsPart v o) : ∃ q : Option (Int × Tok), v = partValue q ∧ q.map (·.1) = o := by
  cases h with
  | none => exact ⟨none, rfl, rfl⟩
  | int i t => exact ⟨some (i, t), rfl, rfl⟩
theorem s_sl : SlR X (slV X.K) := by
  intro pins s σ H x v vl vu lo hi sl Q I rx hs pl pu h
  cases x with
  | str z =>
    obtain ⟨hz, q⟩ := h
    obtain ⟨t, rfl⟩ := rx
    obtain ⟨l, rfl, el⟩ := part_of pl
    obtain ⟨u, rfl, eu⟩ := part_of pu
    refine ⟨"str", _, F.slot_str_getitem.lookup, typeIs_str _ _ _, ?_⟩
    refine wpAny_getItem_str_slice (l := l) (u := u) (st := none) hs rfl ?_
    refine post_val_or_str ⟨?_, fun t' k => ?_⟩
    · show (Txt.slice z (l.map (·.1)) (u.map (·.1))).length ≤ sizeLine
      refine Nat.le_trans (Txt.slice_le z _ _) ?_
      rw [← L_len]
      exact hz
    · refine ⟨.str (T (cut (L z) lo hi)), H, I.tok _, ⟨t', ?_⟩, q⟩
      show Value.str (Txt.slice z (l.map (·.1)) (u.map (·.1))) t' = _
      rw [slice_T, el, eu]
  | ref p =>
    obtain ⟨xs, hx, q⟩ := h
    exact sl_list pins s σ H _ v vl vu lo hi sl Q I rx hs pl pu ⟨p, xs, rfl, hx, q⟩
  | _ => exact False.elim h
noncomputable def lenV (K : PySem.W.Frag) : List V → Hp → VK → Prop := fun xs H Q => match xs with
  | [.str z] => (L z).length ≤ sizeLine ∧ Q (.int (L z).length) H
  | [.ref p] => ∃ ys, (SqL K H p ys ∨ SqT K H p ys) ∧ Q (.int ys.length) H
  | _ => False
theorem c_len : CallR X (.builtin "len") (lenV X.K) := by
  intro pins s σ H xs us Q I r h
  unfold lenV at h
  split at h
  · exact call_len_str pins s σ H _ us Q I r ⟨_, rfl, by rw [← L_len]; exact h.1, by rw [← L_len]; exact h.2⟩
  · obtain ⟨ys, hy, q⟩ := h
    exact call_len_seq pins s σ H _ us Q I r ⟨_, ys, rfl, hy, q⟩
  · exact h.elim
noncomputable def stAt (l p : List Nat) (k : Nat) : Bool := decide (k + p.length ≤ l.length ∧ (l.drop k).take p.length = p)
theorem sub_T (x y : Str) (k : Nat) : (decide (k + y.length ≤ x.length) && Builtin.Str.subAt x y k) = stAt (L x) (L y) k := by
  unfold stAt Builtin.Str.subAt
  rw [L_len, L_len]
  rw [Bool.eq_iff_iff]
  simp only [Bool.and_eq_true, decide_eq_true_eq, beq_iff_eq]
  refine and_congr_right fun _ => ?_
  have e : (x.cps.extract k (k + y.length)).toList = ((L x).drop k).take y.length := by
    simp [L, List.extract_eq_drop_take]
  constructor
  · intro h
    rw [← e, h]
    rfl
  · intro h
    apply Array.ext'
    rw [e, h]
    rfl
noncomputable def joinL (sep : List Nat) : List (List Nat) → List Nat
  | [] => []
  | [x] => x
  | x :: y :: r => x ++ sep ++ joinL sep (y :: r)
theorem joinL_nil : ∀ xs : List (List Nat), joinL [] xs = xs.flatten
  | [] => rfl
  | [x] => by simp [joinL]
  | x :: y :: r => by
    rw [joinL, joinL_nil (y :: r)]
    simp
theorem join_T (sep : Str) : ∀ ys : List Str, Str.join sep ys = T (joinL (L sep) (ys.map L))
  | [] => rfl
  | [x] => by
    show x = T (L x)
    rw [T_L]
  | x :: y :: r => by
    show x ++ sep ++ Str.join sep (y :: r) = T (L x ++ L sep ++ joinL (L sep) ((y :: r).map L))
    rw [join_T sep (y :: r), ← T_app, ← T_app, T_L, T_L]
theorem strs_of : ∀ {zs : List Str} {us : List Value}, Vals (zs.map V.str) us → StrsAre us zs := by
  intro zs
  induction zs with
  | nil => intro us r; cases r; exact .nil
  | cons z r ih =>
    intro us h
    rw [List.map_cons] at h
    cases h with
    | cons r1 r2 =>
      obtain ⟨t, rfl⟩ := r1
      exact .cons z t (ih r2)
noncomputable def joinV (K : PySem.W.Frag) : V → List V → Hp → VK → Prop := fun x xs H Q => match x, xs with
  | .str a, [.ref p] => ∃ zs : List (List Nat), SqL K H p (zs.map fun l => V.str (T l)) ∧ (zs.map List.length).sum + zs.length * (L a).length ≤ sizeLine ∧ Q (.str (T (joinL (L a) zs))) H
  | _, _ => False
theorem m_join : MtR X "str.join" (joinV X.K) := by
  intro pins s σ H x xs v us Q I rx rs h
  unfold joinV at h
  split at h
  · rename_i a p
    obtain ⟨zs, hp, hz, q⟩ := h
    obtain ⟨t, rfl⟩ := rx
    obtain ⟨u, rfl, ru⟩ := vals1 rs
    cases ru
    obtain ⟨its, r', pl, _⟩ := I.list hp
    have e : (zs.map fun l => V.str (T l)) = (zs.map T).map V.str := by simp
    rw [e] at r'
    have hl : sizeLine = 16777216 := sizeLine_eq
    refine join_list (ys := zs.map T) pl.isList (by simpa using strs_of r') ?_ fun t' k => ?_
    · rw [List.map_map, List.length_map, ← L_len a]
      have : (Str.length ∘ T) = List.length := by
        funext l
        exact T_len l
      rw [← hl]
      show (List.map (Str.length ∘ T) zs).sum + _ ≤ _
      rw [this]
      exact hz
    · refine ⟨.str (T (joinL (L a) zs)), H, I.tok _, ⟨t', ?_⟩, q⟩
      show Value.str (Txt.join a (zs.map T)) t' = _
      have e2 : Txt.join a (zs.map T) = Str.join a (zs.map T) := StrLaws.glued_eq_join _ _
      rw [e2, join_T, List.map_map]
      congr 3
      simp [L_T, Function.comp_def]
  · exact h.elim
end
end L2
set_option maxRecDepth 100000
namespace L2
open PySem PySem.Spec PyProof.Rows
theorem ObjOk.forget {P : Program} {w : World} {H H' : Hp} {h h' : Heap} {a : Addr} {o : HO} (x : ObjOk P w H h a o) (y : ObjOk P w H' h' a o) : ObjOk P w H h' a o := by
  induction o with
  | frz ob u ih => exact ⟨y.1, ih x.2 y.2⟩
  | ins C dx fs => exact ⟨x.1, y.2⟩
  | dT kvs => exact False.elim x
  | _ => exact y
theorem HOk.forget {P : Program} {w : World} {H H' : Hp} {h h' : Heap} (x : HOk P w H h) (y : HOk P w H' h') (sm : Same H H') : HOk P w H h' := fun a o e => (x a o e).forget (y a o (sm a o e))
section
variable {X : Cx} {pins : List (Addr × Obj)} {σ σ' : St} {H H' : Hp} {s s' : Shared}
theorem Inv.forget (I : Inv X pins σ H s) (J : Inv X pins σ' H' s') (sm : Same H H') : Inv X pins σ' H s' :=
  ⟨J.ok, J.os, J.bare, ⟨J.base.keep, J.base.slot, I.base.free, J.base.there, I.base.tups, I.base.frzs, I.base.tbls⟩, J.loc, J.cell, I.free, I.freeC,
    fun p hp => ⟨(J.pin p hp).1, (I.pin p hp).2.1, (J.pin p hp).2.2⟩, I.hok.forget J.hok sm, J.len⟩
theorem Same.upd {H H' : Hp} {a : Addr} {o : HO} (e : Same H H') (n : H' a = none) : Same H (upd H' a o) := fun b u q => by
  have q' := e b u q
  rw [upd_ne (ne_of_none q' n)]
  exact q'
theorem Same.updN {H : Hp} {a : Addr} {o : HO} (n : H a = none) : Same H (L2.upd H a o) := Same.upd (Same.refl H) n
end
structure Fn (P : Program) (w : World) (K : PySem.W.Frag) (mg : Str → Option Value) (base : Heap) (k : Nat) (x : Str) (ps : List Str) (sp : Sp) : Prop where
  ex : ∃ f fd, FnOk P w K mg base CX0 k f fd ps sp ∧ mg x = some (.ref f) ∧ PySem.W.keepIn K (.ref f) = true ∧ Binds K fd ps []
section
variable {P : Program} {w : World} {K : PySem.W.Frag} {mg : Str → Option Value} {base : Heap}
theorem Fn.mono {j k : Nat} {x : Str} {ps : List Str} {sp : Sp} (F : Fn P w K mg base j x ps sp) (h : j ≤ k) : Fn P w K mg base k x ps sp := by
  obtain ⟨f, fd, F, r⟩ := F.ex
  exact ⟨f, fd, F.mono h, r⟩
theorem Fun.pure {x qual : Str} {st : Stmt} {f : Addr} {fd : FuncData} {N ps : List Str} {k : Nat} {sp : Sp} (F : Fun K x qual st f fd) (S : FnScope N ps (defScope st)) (len : ∀ vs H Q E, sp vs H Q E → vs.length = ps.length)
    (hbody : ∀ (cdv : Value) (A : Around) (outer : List Env) (s : Shared) (H : Hp) (vs : List V) (Q : VK) (E : XK), Room k (A.deeper (envOfC qual (defScope st) s.heap.objs.size f cdv)) → sp vs H Q E →
      ∃ t, PSs (cxOf CX0 P w K mg base N qual (defScope st) f cdv A outer s H E).nox (defBody st) t ∧ t { nx := fun _ H' => Same H H' ∧ Q .non H, rt := fun v H' => Same H H' ∧ Q v H } (start N vs) H) : FnOk P w K mg base CX0 (k + 1) f fd ps sp := by
  have F1 : FnOk P w K mg base CX0 (k + 1) f fd ps (fun vs H Q' E => ∃ Q, sp vs H Q E ∧ Q' = fun v H' => Same H H' ∧ Q v H) := by
    refine F.ok S (fun vs H Q E ⟨Q0, h, _⟩ => len vs H Q0 E h) fun cdv A outer s H vs Q E hr ⟨Q0, h, e⟩ => ?_
    subst e
    exact hbody cdv A outer s H vs Q0 E hr h
  refine ⟨len, fun A outer s H args us vs Q E hr e0 hb r hsp => ?_⟩
  refine codeAny_mono (F1.run A outer s H args us vs (fun v H' => Same H H' ∧ Q v H) E hr e0 hb r ⟨Q, hsp, rfl⟩) fun r s' h => ?_
  cases r with
  | error e => exact h
  | ok fl =>
    cases fl with
    | ret u =>
      obtain ⟨v, H', os, bare, un, hok, rv, sm, q⟩ := h
      exact ⟨v, H, os, bare, ⟨un.keep, un.slot, fun _ _ _ n _ => n, un.there, fun _ _ q => q, fun _ _ _ q => q, fun _ ps q => ⟨#[], by rw [q]; simp⟩⟩, e0.hok.forget hok sm, rv, q⟩
    | next => exact h
    | brk => exact h
    | cont => exact h
end
section
variable {X : Cx} {k : Nat} {x : Str} {ps : List Str} {sp : Sp} {p pos : Pos} {e : Expr} {es : List Expr} {t : TA}
noncomputable def tFn (sp : Sp) (t : TA) : TE := fun σ H Q => t σ H fun vs H1 => sp vs H1 Q E0
theorem pe_fn (F : Fn X.prog X.w X.K X.mg X.base k x ps sp) (hr : Room k X.A) (ha : PA X (e :: es) t) (hg : Gl X x := by rfl) (hdb : (x == ("__debug__" : Str)) = false := by decide)
    (he : starEach (e :: es) X.env = (false, eval e X.env) :: starEach es X.env := by rfl) (hpl : (backTo pos (starEach es X.env)).any (·.1) = false := by rfl) : PE X (.Call (.Name x p) (e :: es) [] pos) (tFn sp t) := by
  obtain ⟨f, fd, F, hm, hk, hb⟩ := F.ex
  intro pins s σ H Q I h
  refine pe_call F hr hg hm hk hb .nil pass0 ha hdb he hpl pins s σ H Q I ?_
  show t σ H fun vs H1 => sp (vs ++ []) H1 Q E0
  simp only [List.append_nil]
  exact h
theorem pe_fn0 (F : Fn X.prog X.w X.K X.mg X.base k x ps sp) (hr : Room k X.A) (hg : Gl X x := by rfl) (hdb : (x == ("__debug__" : Str)) = false := by decide) : PE X (.Call (.Name x p) [] [] pos) (fun _ H Q => sp [] H Q E0) := by
  obtain ⟨f, fd, F, hm, hk, hb⟩ := F.ex
  intro pins s σ H Q I h
  exact pe_call0 F hr hg hm hk hb .nil pass0 hdb pins s σ H Q I h
end
noncomputable def closL : List (Str × NameKind) → List (Str × Addr) → List (Str × Addr) → Option (List (Str × Addr))
  | [], _, acc => some acc
  | (n, k) :: r, cells, acc => if k == .free then (match cells.lookup n with
      | some c => closL r cells ((n, c) :: acc)
      | none => none) else closL r cells acc
theorem closureFor_L {scope : Scope} {env : Env} {cl : List (Str × Addr)} (h : closL scope.names env.cells [] = some cl) : closureFor scope env = pure cl := by
  have all : ∀ (names : List (Str × NameKind)) (acc : List (Str × Addr)), closL names env.cells acc = some cl →
      (do
        let mut cs := acc
        for (name, kind) in names do
          if kind == .free then cs := (name, ← cellOf env name) :: cs
        return cs : Sem (List (Str × Addr))) = pure cl := by
    intro names
    induction names with
    | nil =>
      intro acc h
      cases Option.some.inj (show some acc = some cl from h)
      rfl
    | cons x r ih =>
      intro acc h
      obtain ⟨n, k⟩ := x
      unfold closL at h
      dsimp only at ih ⊢
      rw [List.forIn_cons]
      dsimp only
      cases hk : (k == NameKind.free) with
      | false =>
        rw [hk] at h
        simp only [hk, Bool.false_eq_true, if_false] at h ⊢
        exact ih acc h
      | true =>
        rw [hk] at h
        simp only [hk, if_true] at h ⊢
        cases hc : env.cells.lookup n with
        | none => rw [hc] at h; cases h
        | some c =>
          rw [hc] at h
          unfold cellOf
          simp only [hc]
          exact ih ((n, c) :: acc) h
  exact all scope.names [] h
theorem closL_in {cells : List (Str × Addr)} {cl : List (Str × Addr)} : ∀ (names : List (Str × NameKind)) (acc : List (Str × Addr)), closL names cells acc = some cl →
    (∀ x c, acc.lookup x = some c → cells.lookup x = some c) → (∀ x c, cl.lookup x = some c → cells.lookup x = some c) ∧ ∀ x, ((∃ c, acc.lookup x = some c) ∨ names.lookup x = some .free) → ∃ c, cl.lookup x = some c
  | [], acc, h, ha => by
    cases Option.some.inj (show some acc = some cl from h)
    exact ⟨ha, fun x hx => hx.elim id fun z => by simp at z⟩
  | (n, k) :: r, acc, h, ha => by
    unfold closL at h
    cases hk : (k == NameKind.free) with
    | false =>
      rw [hk] at h
      simp only [Bool.false_eq_true, if_false] at h
      obtain ⟨h1, h2⟩ := closL_in r acc h ha
      refine ⟨h1, fun x hx => h2 x (hx.imp id fun z => ?_)⟩
      rw [List.lookup_cons] at z
      cases hx : x == n with
      | true =>
        rw [hx] at z
        cases Option.some.inj z
        cases hk
      | false => rw [hx] at z; exact z
    | true =>
      rw [hk] at h
      simp only [if_true] at h
      cases hc : cells.lookup n with
      | none => rw [hc] at h; cases h
      | some c =>
        rw [hc] at h
        obtain ⟨h1, h2⟩ := closL_in r ((n, c) :: acc) h (fun x d hx => by
          rw [List.lookup_cons] at hx
          cases e : x == n with
          | true =>
            rw [e] at hx
            cases Option.some.inj hx
            rw [eq_of_beq e]
            exact hc
          | false => rw [e] at hx; exact ha x d hx)
        refine ⟨h1, fun x hx => ?_⟩
        cases e : x == n with
        | true => exact h2 x (.inl ⟨c, by rw [List.lookup_cons, e]⟩)
        | false =>
          refine h2 x ?_
          rcases hx with ⟨d, hd⟩ | hx
          · exact .inl ⟨d, by rw [List.lookup_cons, e]; exact hd⟩
          · rw [List.lookup_cons, e] at hx
            exact .inr hx
theorem relabel_of {scope : Scope} {env : Env} {x : Str} {k : NameKind} (h : scope.names.lookup x = some k) : (relabel scope env).names.lookup x = some (if (k == .free && env.scope.kind == .function && env.kindOf x == some .cell) = true then .cell else k) := by
  unfold relabel
  dsimp only
  generalize scope.names = names at h
  induction names with
  | nil => simp at h
  | cons y r ih =>
    obtain ⟨n, j⟩ := y
    rw [List.map_cons]
    rw [List.lookup_cons] at h
    cases e : x == n with
    | true =>
      rw [e] at h
      cases Option.some.inj h
      have en := eq_of_beq e
      subst en
      dsimp only
      split <;> rw [List.lookup_cons, beq_self_eq_true]
    | false =>
      rw [e] at h
      have := ih h
      dsimp only
      split <;> (rw [List.lookup_cons, e]; exact this)
theorem relabel_none {scope : Scope} {env : Env} {x : Str} (h : scope.names.lookup x = none) : (relabel scope env).names.lookup x = none := by
  unfold relabel
  dsimp only
  generalize scope.names = names at h
  induction names with
  | nil => rfl
  | cons y r ih =>
    obtain ⟨n, j⟩ := y
    rw [List.map_cons]
    rw [List.lookup_cons] at h
    cases e : x == n with
    | true => rw [e] at h; cases h
    | false =>
      rw [e] at h
      have := ih h
      dsimp only
      split <;> (rw [List.lookup_cons, e]; exact this)
noncomputable def PFs (X : Cx) (ifs : List Expr) (t : TT) : Prop :=
  ∀ (pins : List (Addr × Obj)) (s : Shared) (σ : St) (H : Hp) (Q : Bool → Hp → Prop), Inv X pins σ H s → t σ H Q →
    wpAny (model X.prog X.w) X.A (forIn ifs true fun c r => if r = true then do let ok ← isTrue c X.env (eval c X.env); pure (ForInStep.yield ok) else pure (ForInStep.yield r)) (TP X pins σ Q) X.xe s
theorem pf_nil {X : Cx} : PFs X [] (fun _ H Q => Q true H) := fun _ _ _ H _ I h => wpAny_tests_nil ⟨H, I, h⟩
theorem pf_one {X : Cx} {c : Expr} {t : TT} (h : PT X c t) : PFs X [c] t := fun pins s σ H Q I q => wpAny_tests_one (h pins s σ H Q I q)
noncomputable def CapOk (X : Cx) (scope : Scope) : List (Str × Nat) → Prop
  | [] => True
  | (x, j) :: r => (X.N[j]? = some x ∧ X.env.scope.names.lookup x = some .cell ∧ scope.names.lookup x = some .free) ∧ CapOk X scope r
theorem CapOk.get {X : Cx} {scope : Scope} : ∀ {cp : List (Str × Nat)} {i : Nat} {x : Str} {j : Nat}, CapOk X scope cp → cp[i]? = some (x, j) → X.N[j]? = some x ∧ X.env.scope.names.lookup x = some .cell ∧ scope.names.lookup x = some .free
  | [], _, _, _, _, e => by simp at e
  | (y, k) :: r, 0, x, j, h, e => by
    simp at e
    obtain ⟨rfl, rfl⟩ := e
    exact h.1
  | _ :: r, i + 1, x, j, h, e => CapOk.get (cp := r) (i := i) h.2 (by simpa using e)
noncomputable def capS (n : Nat) (cp : List (Str × Nat)) (σ : St) : St := List.replicate n none ++ cp.map fun p => gS σ p.2
noncomputable def cxC (X : Cx) (scope : Scope) (cl : List (Str × Addr)) (N : List Str) (fp : List Addr) (C : Addr) (s : Shared) (H : Hp) : Cx :=
  { X with N := N, s₀ := s, H₀ := H, env := compEnvC scope cl C X.env, outer := X.stack, stack := X.stack, ex := fp, fn := fun _ => false, pn := [], xe := fun _ _ => False }
noncomputable def GKeep (n : Nat) (g : TG) : Prop := ∀ x σ H Q, g x σ H Q → g x σ H fun σ' H' => Q σ' H' ∧ ∀ j : Nat, n ≤ j → σ'[j]? = σ[j]?
theorem gk_name {n i : Nat} (h : i < n) : GKeep n (gName i) := fun x σ H Q q => ⟨q, fun j hj => List.getElem?_set_ne (by omega)⟩
noncomputable def tComp (n : Nat) (cp : List (Str × Nat)) (wi : TI) (g : TG) (tc : TT) (te : TE) : TE := fun σ H Q => wi σ H fun J H1 => ∃ W : Nat → Nat → Hp → List V → Prop, (∃ m, W 0 m H1 []) ∧ ∀ i m H2 acc, W i m H2 acc →
  acc.length < sizeLine ∧ ((J.stop i H2 ∧ ∀ l, H2 l = none → Q (.ref l) (upd H2 l (.lst acc))) ∨
    (J.go i H2 ∧ ∀ x H3, J.yld i H2 x H3 → g x (capS n cp σ) H3 fun σ' H4 => tc σ' H4 fun b H5 => if b = true then te σ' H5 fun y H6 => ∃ m', m' < m ∧ W (i + 1) m' H6 (acc ++ [y]) else ∃ m', m' < m ∧ W (i + 1) m' H5 acc))
abbrev lobj (its : List Value) (n : Nat) : Obj := { cls := .type "list", data := .seq its.toArray n }
section
variable {X : Cx} {pins : List (Addr × Obj)} {σ : St} {H2 : Hp} {s2 : Shared} {scope : Scope} {cl : List (Str × Addr)} {own : List Str} {cp : List (Str × Nat)} {fp : List Addr} {C D : Addr} {h1 : Heap}
theorem comp_ok (I : Inv X pins σ H2 s2) (hcl : closL scope.names X.env.cells [] = some cl) (hk : scope.kind = .function) (hnc : ∀ y ∈ scope.names, y.2 ≠ .cell)
    (f2 : ∀ b ∈ fp, FpOk X pins H2 b) (hC : s2.heap.objs.size ≤ C) (hlt : ∀ b ∈ fp, b < s2.heap.objs.size) (N : List Str) : (cxC X scope cl N fp C s2 H2).Ok := by
  have c1 := (closL_in scope.names [] hcl (fun x c h => by simp at h)).1
  have c2 := (closL_in scope.names [] hcl (fun x c h => by simp at h)).2
  refine ⟨I.ok.mod, hk, I.ok.glob, I.ok.blt, hC, fun x y c h1 h2 => I.ok.inj x y c (c1 x c h1) (c1 y c h2), fun x hx => ?_, fun x c h _ => absurd h (by simp [cxC]), I.ok.hd, I.ok.frames, .inl rfl, fun b hb => ⟨?_, fun x c h => ?_⟩, I.bs, Nat.le_trans I.ok.bsz I.sz, fun b o e hb => ?_, fun b hb hf => ?_, I.stack, I.stkFree⟩
  · have hx : (relabel scope X.env).names.lookup x = some .cell ∨ (relabel scope X.env).names.lookup x = some .free := hx
    cases e : scope.names.lookup x with
    | none => rw [relabel_none e] at hx; rcases hx with z | z <;> cases z
    | some k =>
      rw [relabel_of e] at hx
      refine c2 x (.inr ?_)
      by_cases hf : (k == .free && X.env.scope.kind == .function && X.env.kindOf x == some .cell) = true
      · have : k = .free := by
          simp only [Bool.and_eq_true] at hf
          exact eq_of_beq hf.1.1
        rw [e, this]
      · rw [if_neg hf] at hx
        rcases hx with z | z
        · cases Option.some.inj z
          exact absurd rfl (hnc _ (PySem.mem_of_lookup e))
        · cases Option.some.inj z
          exact e
  · exact Nat.ne_of_lt (Nat.lt_of_lt_of_le (hlt b hb) hC)
  · exact (f2 b hb).2.2.2.2.1 x c (c1 x c h)
  · rcases (f2 b hb).2.2.2.1 with z | z
    · exact I.ok.noex b o e z
    · exact absurd (Nat.lt_of_lt_of_le (Heap.lt_size e) (Nat.le_trans I.ok.bsz z)) (Nat.lt_irrefl _)
  · have hf : b ∈ frs X.stack := hf
    rcases List.mem_cons.mp (I.stkSub b hf) with z | z
    · exact (f2 b hb).2.1 z
    · exact (f2 b hb).2.2.1 z
theorem comp_start {tk : Nat} (I : Inv X pins σ H2 s2) (hcl : closL scope.names X.env.cells [] = some cl) (hk : scope.kind = .function) (hnc : ∀ y ∈ scope.names, y.2 ≠ .cell) (hcp : CapOk X scope cp)
    (f2 : ∀ b ∈ fp, FpOk X pins H2 b) (hC : s2.heap.objs.size < C) (hlt : ∀ b ∈ fp, b < s2.heap.objs.size) (hns : h1.Ns C (fun _ => none)) (old : ∀ b o, s2.heap.get? b = some o → h1.get? b = some o)
    (hD : h1.get? s2.heap.objs.size = some (lobj [] 0)) :
    Inv (cxC X scope cl (own ++ cp.map (·.1)) fp C s2 H2) [(s2.heap.objs.size, lobj [] 0)] (capS own.length cp σ) H2 { s2 with heap := h1, toks := tk } := by
  have ok := comp_ok I hcl hk hnc f2 (Nat.le_of_lt hC) hlt (own ++ cp.map (·.1))
  have c1 := (closL_in scope.names [] hcl (fun x c h => by simp at h)).1
  have c2 := (closL_in scope.names [] hcl (fun x c h => by simp at h)).2
  obtain ⟨m, hm, hl⟩ := id I.loc
  refine ⟨ok, rfl, I.bare, Un.kept old, ⟨_, hns, fun i x v e1 e2 e3 => ?_⟩, fun x c e => ?_, I.hok.fresh (Nat.le_of_lt hC), fun x c e => I.freeC x c (c1 x c e), fun p hp => ?_, I.hok.kept old, ?_⟩
  · have e1 : (own ++ cp.map (·.1))[i]? = some x := e1
    unfold capS at e2
    by_cases hi : i < own.length
    · rw [List.getElem?_append_left (by simpa using hi), List.getElem?_replicate] at e2
      split at e2 <;> cases e2
    · rw [List.getElem?_append_right (by simpa using hi), List.length_replicate, List.getElem?_map] at e2
      rw [List.getElem?_append_right (by omega), List.getElem?_map] at e1
      cases q : cp[i - own.length]? with
      | none => rw [q] at e1; cases e1
      | some p =>
        rw [q] at e1 e2
        obtain ⟨y, j⟩ := p
        cases Option.some.inj e1
        obtain ⟨g1, g2, g3⟩ := hcp.get q
        have e4 : gS σ j = some v := Option.some.inj e2
        obtain ⟨u, r, lk⟩ := hl j y v g1 (gS_get e4) (.inr (.inl g2))
        refine ⟨u, r, .inr ⟨?_, ?_⟩⟩
        · left
          show (relabel scope X.env).names.lookup y = some .cell
          rw [relabel_of g3]
          rw [if_pos]
          have : X.env.kindOf y = some .cell := g2
          rw [this, I.ok.kind]
          rfl
        · rcases lk with ⟨z, _⟩ | ⟨_, c, z, zc⟩
          · have z' : X.env.scope.names.lookup y = some .local := z
            rw [g2] at z'
            cases z'
          · obtain ⟨d, hd⟩ := c2 y (.inr g3)
            have hd' := c1 y d hd
            rw [z] at hd'
            cases Option.some.inj hd'
            obtain ⟨o, ho, hdt⟩ := zc
            exact ⟨c, hd, o, old _ _ ho, hdt⟩
  · obtain ⟨v, o, ho, hd⟩ := I.cell x c (c1 x c e)
    exact ⟨v, o, old _ _ ho, hd⟩
  · have hp : p ∈ [(s2.heap.objs.size, lobj [] 0)] := hp
    cases List.mem_singleton.mp hp
    refine ⟨hD, I.hok.fresh (Nat.le_refl _), Nat.ne_of_lt hC, fun hf => ?_, fun v z => by cases z⟩
    have hf : s2.heap.objs.size ∈ frs X.stack := hf
    rcases List.mem_cons.mp (I.stkSub _ hf) with z | z
    · exact Nat.ne_of_gt I.lt z
    · exact I.nofs (Nat.le_refl _) z
  · show (capS own.length cp σ).length = (own ++ cp.map (·.1)).length
    unfold capS
    simp
theorem comp_end {X' : Cx} {σ' : St} {H' : Hp} {s' : Shared} {h'' : Heap} {acc : List V} {its : List Value} {n : Nat} (I : Inv X pins σ H2 s2) (f2 : ∀ b ∈ fp, FpOk X pins H2 b)
    (hX : X' = cxC X scope cl (own ++ cp.map (·.1)) fp C s2 H2) (hC : s2.heap.objs.size < C) (J : Inv X' [(s2.heap.objs.size, lobj its n)] σ' H' s') (rv : Vals acc its) (hz : acc.length ≤ sizeLine)
    (hsb : Heap.SameBut C s'.heap h'') : H' s2.heap.objs.size = none ∧ Inv X pins σ (upd H' s2.heap.objs.size (.lst acc)) { s' with heap := h'' } := by
  subst hX
  obtain ⟨p1, p2, p3, p4, p5⟩ := J.pin (s2.heap.objs.size, lobj its n) (List.mem_append_right _ (List.mem_singleton.mpr rfl))
  have p1 : s'.heap.get? s2.heap.objs.size = some (lobj its n) := p1
  have p2 : H' s2.heap.objs.size = none := p2
  have hfC : H' C = none := J.free
  have up : ∀ b o, b ≠ C → s'.heap.get? b = some o → h''.get? b = some o := fun b o hb e => (hsb.2 b hb).trans e
  have ltC : ∀ b o, s2.heap.get? b = some o → b ≠ C := fun b o e => Nat.ne_of_lt (Nat.lt_trans (Heap.lt_size e) hC)
  have ltD : ∀ b o, s2.heap.get? b = some o → b ≠ s2.heap.objs.size := fun b o e => Nat.ne_of_lt (Heap.lt_size e)
  have B : Un (frs X.stack) fp H2 H' s2.heap s'.heap := J.base
  refine ⟨p2, I.call' (ch := fp) J.os ⟨fun b o e n hb hx => up b o (ltC b o e) (B.keep b o e n hb hx), fun b o e n hb hx => ?_, fun b o e n hx => ?_, fun b o e hx => ?_, fun b xs e => ?_, fun b o u e => ?_, fun b ps e => ?_⟩ (fun a o e => ?_) J.bare
    fun b hb => ⟨(f2 b hb).2.2.2.1, (f2 b hb).2.1, (f2 b hb).2.2.2.2.1, (f2 b hb).2.2.2.2.2⟩⟩
  · obtain ⟨sl, e1⟩ := B.slot b o e n hb hx
    exact ⟨sl, up b _ (ltC b o e) e1⟩
  · rw [upd_ne (ltD b o e)]
    exact B.free b o e n hx
  · obtain ⟨o', e1⟩ := B.there b o e hx
    exact ⟨o', up b o' (ltC b o e) e1⟩
  · have q := B.tups b xs e
    rw [upd_ne (ne_of_none q p2)]
    exact q
  · have q := B.frzs b o u e
    rw [upd_ne (ne_of_none q p2)]
    exact q
  · obtain ⟨more, q⟩ := B.tbls b ps e
    exact ⟨more, by rw [upd_ne (ne_of_none q p2)]; exact q⟩
  · by_cases ha : a = s2.heap.objs.size
    · subst ha
      rw [upd_same] at e
      cases e
      exact ⟨hz, its, n, rv, up _ _ (Nat.ne_of_lt hC) p1⟩
    · rw [upd_ne ha] at e
      refine (J.hok a o e).stay (fun b u hb q => up b u ?_ q) (fun b q => ?_) fun b xs q => ?_
      · rintro rfl
        rcases hb with z | z
        · subst z
          rw [hfC] at e
          cases e
        · rw [hfC] at z
          cases z
      · rw [upd_ne (ne_of_none q p2)]
        exact q
      · rw [upd_ne (ne_of_none q p2)]
        exact q
end
theorem thnE {α : Type} {t : Sem α} {Q Q' : α → Shared → Prop} {M : Model} {A : Around} {E : Value → Shared → Prop} {s : Shared} (h : wpAny M A t Q (fun _ _ => False) s) (hQ : ∀ a s, Q a s → Q' a s) : wpAny M A t Q' E s := wpAny_mono h hQ fun _ _ x => x.elim
section
variable {X : Cx}
theorem pe_comp {elt iter target : Expr} {ifs : List Expr} {scope : Scope} {pos : Pos} {cl : List (Str × Addr)} {own : List Str} {cp : List (Str × Nat)} {wi : TI} {g : TG} {tc : TT} {te : TE}
    (hc : X.calm = true) (hcl : closL scope.names X.env.cells [] = some cl) (hk : scope.kind = .function) (hnc : ∀ y ∈ scope.names, y.2 ≠ .cell)
    (hnm : ∀ x ∈ scope.names, x.2 = .local → scope.names.lookup x.1 = some .local) (hcp : CapOk X scope cp) (hi : PI X target iter wi) (gk : GKeep own.length g)
    (hg : ∀ fp C s H, PG (cxC X scope cl (own ++ cp.map (·.1)) fp C s H) target g) (ht : ∀ fp C s H, PFs (cxC X scope cl (own ++ cp.map (·.1)) fp C s H) ifs tc) (he : ∀ fp C s H, PE (cxC X scope cl (own ++ cp.map (·.1)) fp C s H) elt te)
    (hs : ∀ x, foldedSetIterable iter X.env x = pure x := by intro _; rfl) : PE X (.ListComp elt [⟨target, iter, ifs, 0⟩] scope pos) (tComp own.length cp wi g tc te) := by
  intro pins s σ H Q I h
  rw [eval_ListComp]
  refine wpAny_comprehension_free (use := none) rfl hs (closureFor_L hcl) hk hnm (thn (hi pins s σ H _ I h) fun xv s1 h1 => thn h1 fun itv s2 h2 => ?_)
  obtain ⟨it, fp, tn, J, H2, e, I2, Tn, st2, f2, W, ⟨m0, w0⟩, turn⟩ := h2
  subst e
  have hlt : ∀ b ∈ fp, b < s2.heap.objs.size := fun b hb => by
    obtain ⟨o, e, _⟩ := Tn.obj _ _ st2 b hb
    exact Heap.lt_size e
  refine wpAny_newObj_type (wpAny_newFunctionEnv hnc (by intro y hy; simp at hy) (fun h1 hns hsb => ?_) hk)
  dsimp only at hns hsb ⊢
  generalize hP : s2.heap.push { cls := .type "list", dict := none, data := .seq ([] : List Value).toArray } = h0 at hns hsb ⊢
  have hCs : h0.objs.size = s2.heap.objs.size + 1 := by rw [← hP, Heap.size_push]
  generalize hCg : h0.objs.size = C at hns hsb hCs ⊢
  have hC : s2.heap.objs.size < C := by omega
  have neC : ∀ b : Addr, b < s2.heap.objs.size → b ≠ C := fun b h => Nat.ne_of_lt (Nat.lt_trans h hC)
  have old : ∀ b o, s2.heap.get? b = some o → h1.get? b = some o := fun b o e =>
    (hsb.2 b (neC b (Heap.lt_size e))).trans (by rw [Heap.get?_push_of_some _ (by rw [← hP]; exact Heap.get?_push_of_some _ e)])
  have hD : h1.get? s2.heap.objs.size = some (lobj [] 0) :=
    (hsb.2 _ (Nat.ne_of_lt hC)).trans (by rw [Heap.get?_push_of_some _ (by rw [← hP]; exact Heap.get?_push_size _ rfl)])
  have fpok : ∀ {its : List Value} {k : Nat} {H' : Hp}, (∀ b ∈ fp, H' b = none) → ∀ b ∈ fp, FpOk (cxC X scope cl (own ++ cp.map (·.1)) fp C s2 H2) [(s2.heap.objs.size, lobj its k)] H' b := fun {its k H'} fr b hb => by
    refine ⟨fr b hb, neC b (hlt b hb), fun hf => ?_, .inl hb, fun x c e => ?_, fun p hp => ?_⟩
    · have hf : b ∈ frs X.stack := hf
      rcases List.mem_cons.mp (I2.stkSub b hf) with z | z
      · exact (f2 b hb).2.1 z
      · exact (f2 b hb).2.2.1 z
    · exact (f2 b hb).2.2.2.2.1 x c ((closL_in scope.names [] hcl (fun x c h => by simp at h)).1 x c e)
    · have hp : p ∈ [(s2.heap.objs.size, lobj its k)] := hp
      cases List.mem_singleton.mp hp
      exact Nat.ne_of_gt (hlt b hb)
  have loop : ∀ s4 : Shared, s4 = { s2 with heap := h1, toks := s2.toks + ([] : List (Str × Value)).length } →
      codeAny (model X.prog X.w) X.A (.compLoop (.ListComp elt [⟨target, iter, ifs, 0⟩] scope pos) 0 (.ref it) (.ref s2.heap.objs.size) (compEnvC scope cl C X.env))
        (compPost (model X.prog X.w) X.A X.xe none (EP X pins σ Q) (.ref s2.heap.objs.size) C) s4 := by
    intro s4 e4
    have I4 : Inv (cxC X scope cl (own ++ cp.map (·.1)) fp C s2 H2) [(s2.heap.objs.size, lobj [] 0)] (capS own.length cp σ) H2 s4 := by
      rw [e4]
      exact comp_start I2 hcl hk hnc hcp f2 hC hlt (by simpa using hns) old hD
    have st4 : tn 0 s4.heap := by
      rw [e4]
      exact Tn.keep _ _ _ st2 fun b _ o e => old b o e
    refine codeAny_loop rfl (fun n s' => ∃ i H' acc its k, Inv (cxC X scope cl (own ++ cp.map (·.1)) fp C s2 H2) [(s2.heap.objs.size, lobj its k)] (capS own.length cp σ) H' s' ∧ Vals acc its ∧ tn i s'.heap ∧ (∀ b ∈ fp, H' b = none) ∧ W i n H' acc)
      (fun n s' hI => ?_) m0 ⟨0, H2, [], [], 0, I4, .nil, st4, fun b hb => (f2 b hb).1, w0⟩
    obtain ⟨i, H', acc, its, k, I', rv, st, fr, w⟩ := hI
    show wpAny _ X.A ((compTurn (.ListComp elt [⟨target, iter, ifs, 0⟩] scope pos) 0 (.ref it) (.ref s2.heap.objs.size) (compEnvC scope cl C X.env)).onRaise (fun x => do noteFrame x (compEnvC scope cl C X.env); theTreesLotGoes x)) _ _ s'
    refine wpAny_noted ?_
    rw [compTurn_list]
    refine wpAny_bind (wpAny_standAt (wpAny_bind ?_))
    obtain ⟨hz, ⟨stop, fin⟩ | ⟨go, step⟩⟩ := turn i n H' acc w
    · refine thnE (Tn.done (cxC X scope cl (own ++ cp.map (·.1)) fp C s2 H2) rfl rfl rfl hc i _ s' _ H' (fun _ _ => False) I' (fpok fr) st stop) fun r s5 ⟨hr, I5⟩ => ?_
      subst hr
      refine wpAny_pure ?_
      obtain ⟨mm, hmm, _⟩ := I5.loc
      refine ⟨mm, hmm, fun h'' hs'' => ?_⟩
      obtain ⟨hn, I6⟩ := comp_end I2 f2 rfl hC I5 rv (Nat.le_of_lt hz) hs''
      exact ⟨.ref s2.heap.objs.size, _, I6, rfl, fin _ hn⟩
    · refine thnE (Tn.item (cxC X scope cl (own ++ cp.map (·.1)) fp C s2 H2) rfl rfl rfl hc i _ s' _ H' (fun _ _ => False) I' (fpok fr) st go) fun r s5 ⟨u, hr, h5⟩ => ?_
      subst hr
      refine wpAny_bind (thnE h5 fun _ s6 ⟨x, H6, I6, r6, y6, st6, fr6⟩ => ?_)
      have I6' := I6.pinned (fpok fr6) (Tn.obj _ _ st6)
      refine wpAny_bind (thnE (hg fp C s2 H2 _ s6 _ H6 x u _ I6' r6 (gk _ _ _ _ (step x H6 y6))) fun _ s7 ⟨σ7, H7, I7, q7, kp7⟩ => ?_)
      refine wpAny_bind (thnE (ht fp C s2 H2 _ s7 σ7 H7 _ I7 q7) fun b s8 ⟨H8, I8, q8⟩ => ?_)
      have weak : ∀ {H9 : Hp} {s9 : Shared} {ps : List (Addr × Obj)}, Inv (cxC X scope cl (own ++ cp.map (·.1)) fp C s2 H2) ps σ7 H9 s9 → Inv (cxC X scope cl (own ++ cp.map (·.1)) fp C s2 H2) ps (capS own.length cp σ) H9 s9 := fun {H9 s9 ps} I9 =>
        I9.weak (by rw [I9.len]; exact I'.len) fun j v e => by
          by_cases hj : own.length ≤ j
          · rw [kp7 j hj]
            exact e
          · unfold capS at e
            rw [List.getElem?_append_left (by rw [List.length_replicate]; omega), List.getElem?_replicate] at e
            split at e <;> cases e
      have turned : ∀ {H9 : Hp} {s9 : Shared}, Inv (cxC X scope cl (own ++ cp.map (·.1)) fp C s2 H2) ([(s2.heap.objs.size, lobj its k)] ++ pinsAt fp s6.heap) σ7 H9 s9 → (∀ b ∈ fp, H9 b = none) ∧ ∀ b ∈ fp, ∀ o, s6.heap.get? b = some o → s9.heap.get? b = some o := fun {H9 s9} I9 => by
        refine ⟨fun b hb => ?_, fun b hb o e => ?_⟩
        · obtain ⟨o, e, _⟩ := Tn.obj _ _ st6 b hb
          exact (I9.pin (b, o) (List.mem_append_right _ (List.mem_append_right _ (mem_pinsAt hb e)))).2.1
        · exact (I9.pin (b, o) (List.mem_append_right _ (List.mem_append_right _ (mem_pinsAt hb e)))).1
      cases b with
      | false =>
        obtain ⟨m', hm', w8⟩ := q8
        refine wpAny_pure ⟨rfl, m', hm', i + 1, H8, acc, its, k, weak I8.unpinned, rv, Tn.keep _ _ _ st6 (turned I8).2, (turned I8).1, w8⟩
      | true =>
        refine wpAny_bind (wpAny_bind (thnE (he fp C s2 H2 _ s8 σ7 H8 _ I8 q8) fun uy s9 ⟨y, H9, I9, r9, m', hm', w9⟩ => ?_))
        have pD := I9.pin (s2.heap.objs.size, lobj its k) (List.mem_append_right _ (List.mem_append_left _ (List.mem_singleton.mpr rfl)))
        have lenI := rv.length
        refine wpAny_bind (wpAny_list_append_plain (items := its.toArray) ⟨k, pD.1⟩ (fun h10 pl sb => ?_) (by rw [List.size_toArray]; omega))
        obtain ⟨k', hk'⟩ := pl
        have I10 : Inv (cxC X scope cl (own ++ cp.map (·.1)) fp C s2 H2) (pinsAt fp s6.heap) σ7 H9 { s9 with heap := h10 } := by
          have I9' : Inv (cxC X scope cl (own ++ cp.map (·.1)) fp C s2 H2) (pinsAt fp s6.heap) σ7 H9 s9 := I9.pins_of fun p hp => I9.pin p (List.mem_append_right _ (List.mem_append_right _ hp))
          refine I9'.turned (t' := s9.toks) (it := s2.heap.objs.size) (fun b o hb e => (sb.2 b hb).trans e) pD.2.1 pD.2.2.1 (.inr (Nat.le_refl _)) (fun x c e z => ?_) fun p hp z => ?_
          · obtain ⟨v, o, ho, hd⟩ := I9.cell x c e
            rw [z, pD.1] at ho
            cases ho
            cases hd
          · have hp : p ∈ pinsAt fp s6.heap := hp
            exact Nat.ne_of_lt (hlt p.1 (of_pinsAt hp).1) z
        have kk : ∀ b ∈ fp, ∀ o, s6.heap.get? b = some o → h10.get? b = some o := fun b hb o e => (sb.2 b (Nat.ne_of_lt (hlt b hb))).trans ((turned I9).2 b hb o e)
        have I11 : Inv (cxC X scope cl (own ++ cp.map (·.1)) fp C s2 H2) [(s2.heap.objs.size, lobj (its ++ [uy]) k')] σ7 H9 { s9 with heap := h10 } := I10.pins_of fun p hp => by
          cases List.mem_singleton.mp hp
          refine ⟨?_, pD.2.1, pD.2.2.1, pD.2.2.2.1, fun v z => by cases z⟩
          rw [hk']
          simp
        exact wpAny_pure (wpAny_pure ⟨rfl, m', hm', i + 1, H9, acc ++ [y], its ++ [uy], k', weak I11, rv.append (.cons r9 .nil), Tn.keep _ _ _ st6 kk, (turned I9).1, w9⟩)
  exact codeAny_compStart_list (loop _ rfl) (Tn.self _ 0 _ _ _ (Tn.keep _ _ _ st2 fun b _ o e => old b o e) (loop _ rfl))
end
end L2
set_option maxRecDepth 100000
namespace L2
open PySem PySem.Spec PyProof.Rows
section
variable {X : Cx} {pos : Pos}
noncomputable def trV (K : PySem.W.Frag) (t : TE) : TT := fun σ H Q => t σ H fun x H' => match x with
  | .bl b => Q b H'
  | .int i => Q (i != 0) H'
  | .non => Q false H'
  | .str z => (L z).length ≤ sizeLine ∧ Q (((L z).length : Int) != 0) H'
  | .ref p => ∃ k, TruV K (.ref p) H' k ∧ Q k H'
  | _ => False
theorem pt_tr {a : Expr} {ta : TE} (ha : PE X a ta) (he : ∀ whole, isTrue a X.env whole = (do let v ← whole; standAt a.pos; holding [v] (truthy v)) := by intro _; rfl) : PT X a (trV X.K ta) := by
  intro pins s σ H Q I h
  refine isTrue_plain (thn (ha pins s σ H _ I h) fun v s1 ⟨x, H1, I1, r1, q1⟩ => tru_ok pins s1 σ H1 x v Q I1 r1 ?_) (he _)
  cases x with
  | bl b => exact ⟨b, rfl, q1⟩
  | int i => exact ⟨_, rfl, q1⟩
  | non => exact ⟨false, rfl, q1⟩
  | str z => exact ⟨_, ⟨by rw [← L_len]; exact q1.1, rfl⟩, by rw [← L_len]; exact q1.2⟩
  | ref p => exact q1
  | _ => exact False.elim q1
noncomputable def tB2 (r : R2) (ta tb : TE) : TT := fun σ H Q => ta σ H fun x H1 => tb σ H1 fun y H2 => r x y H2 fun z H3 => match z with
  | .bl b => Q b H3
  | _ => False
theorem pt_c2 {op : CmpOp} {r : R2} {a b : Expr} {ta tb : TE} (ho : OpR X (compareOp op) r) (ha : PE X a ta) (hb : PE X b tb) (hm : behindInMarks op b = false := by first | exact nomark _ | with_unfolding_all rfl) : PT X (.Compare a [op] [b] pos) (tB2 r ta tb) := by
  intro pins s σ H Q I h
  refine wpAny_isTrue_Compare1 (thn (ha pins s σ H _ I h) fun v s1 ⟨x, H1, I1, r1, q1⟩ => thn (hb pins s1 σ H1 _ I1 q1) fun u s2 ⟨y, H2, I2, r2, q2⟩ =>
    thn (ho pins s2 σ H2 x y v u _ I2 r1 r2 q2) fun c s3 ⟨z, H3, I3, r3, q3⟩ => ?_) hm
  cases z with
  | bl k => cases r3; exact wpAny_truthy_bool ⟨H3, I3, q3⟩
  | _ => exact False.elim q3
noncomputable def vAnd (ta tb : TE) : TE := fun σ H Q => ta σ H fun x H1 => match x with
  | .bl c => if c = true then tb σ H1 Q else Q (.bl false) H1
  | _ => False
noncomputable def vNot (ta : TE) : TE := fun σ H Q => ta σ H fun x H1 => match x with
  | .bl c => Q (.bl (!c)) H1
  | _ => False
theorem mono_val {a : Expr} {ta : TE} (h : PE X a ta) (pins : List (Addr × Obj)) (s : Shared) (σ : St) (H : Hp) (Q Q' : VK) (I : Inv X pins σ H s) (q : ta σ H Q) (hq : ∀ v H', Q v H' → Q' v H') : wpAny (model X.prog X.w) X.A (eval a X.env) (EP X pins σ Q') X.xe s :=
  thn (h pins s σ H Q I q) fun u s1 ⟨v, H1, I1, r, q⟩ => ⟨v, H1, I1, r, hq v H1 q⟩
theorem PE.imp {e : Expr} {t : TE} (h : PE X e t) {t' : TE} (hi : ∀ σ H Q, t' σ H Q → ∃ Q0, t σ H Q0 ∧ ∀ v H', Q0 v H' → Q v H') : PE X e t' := fun pins s σ H Q I q => by
  obtain ⟨Q0, h0, h1⟩ := hi σ H Q q
  exact mono_val h pins s σ H Q0 Q I h0 h1
theorem pe_and2 {a b : Expr} {rest : List Expr} {ta tb : TE} (ha : PE X a ta) (hb : PE X (.BoolOp .And (b :: rest) pos) tb) : PE X (.BoolOp .And (a :: b :: rest) pos) (vAnd ta tb) := by
  have ha' : PE X a (fun σ H Q => ∃ Q0 : VK, ta σ H Q0 ∧ ∀ v H', Q0 v H' → Q v H') := ha.imp fun σ H Q h => h
  intro pins s σ H Q I h
  refine pe_and (ta := fun σ H Q => ∃ Q0 : VK, ta σ H Q0 ∧ ∀ v H', Q0 v H' → Q v H') ha' hb pins s σ H Q I ?_
  refine ⟨_, h, fun v H' q => ?_⟩
  cases v with
  | bl c => exact ⟨c, rfl, q⟩
  | _ => exact False.elim q
theorem pe_not2 {a : Expr} {ta : TE} (ha : PE X a ta) : PE X (.UnaryOp .Not a pos) (vNot ta) := by
  have ha' : PE X a (fun σ H Q => ∃ Q0 : VK, ta σ H Q0 ∧ ∀ v H', Q0 v H' → Q v H') := ha.imp fun σ H Q h => h
  intro pins s σ H Q I h
  refine pe_not (ta := fun σ H Q => ∃ Q0 : VK, ta σ H Q0 ∧ ∀ v H', Q0 v H' → Q v H') ha' pins s σ H Q I ?_
  refine ⟨_, h, fun v H' q => ?_⟩
  cases v with
  | bl c => exact ⟨c, rfl, q⟩
  | _ => exact False.elim q
noncomputable def pT (t : TE) : TO := fun σ H Q => t σ H fun x H1 => match x with
  | .int i => Q (some i) H1
  | _ => False
theorem po_t {e : Expr} {te : TE} (h : PE X e te) : PO X (some e) (pT te) := by
  have h' : PE X e (fun σ H Q => ∃ Q0 : VK, te σ H Q0 ∧ ∀ v H', Q0 v H' → Q v H') := h.imp fun σ H Q h => h
  intro pins s σ H Q I hw
  refine po_some h' pins s σ H Q I ?_
  refine ⟨_, hw, fun v H' q => ?_⟩
  cases v with
  | int i => exact ⟨i, rfl, q⟩
  | _ => exact False.elim q
noncomputable def rAug (i : Nat) (te : TE) (ti : TIp) : TS := fun D σ H => match gS σ i with
  | some x => te σ H fun y H1 => ti x y H1 fun z H2 => D.nx (σ.set i (some z)) H2
  | none => False
theorem ps_aug2 {i : Nat} {x : Str} {e : Expr} {te : TE} {op : Operator} {ti : TIp} {pos' : Pos} (ho : OpR X (inplaceOp op) ti) (hN : X.N.Nodup) (hi : X.N[i]? = some x) (hx : Loc X.env.scope x) (he : PE X e te) (hf : X.fn x = true ∨ X.env.scope.names.lookup x = some .local := by first | exact .inl rfl | exact .inr rfl | assumption) :
    PS X (.AugAssign (.Name x pos') op e pos) (rAug i te ti) := by
  intro pins s σ H D I h
  refine ps_aug hN hi hx he ho hf pins s σ H D I ?_
  unfold rAug at h
  cases e : gS σ i with
  | none => rw [e] at h; exact h.elim
  | some v => rw [e] at h; exact ⟨v, gS_get e, h⟩
noncomputable def forR (lo : Int) (n : Nat) (i : Nat) (tb : TS) : TS := fun D σ H => ∃ Pv : Nat → St → Hp → Prop, Pv 0 σ H ∧ (∀ k σ H, k < n → Pv k σ H → tb { nx := Pv (k + 1), rt := D.rt, bk := D.nx, ct := Pv (k + 1) } (σ.set i (some (.int (lo + k)))) H) ∧ ∀ σ H, Pv n σ H → D.nx σ H
noncomputable def tRng (ta : TA) (i : Nat) (tb : TS) : TS := fun D σ H => ta σ H fun vs H1 => match vs with
  | [.int j] => (-(2 ^ 62) ≤ j ∧ j < 2 ^ 62) ∧ forR 0 j.toNat i tb D σ H1
  | _ => False
theorem PA.imp {es : List Expr} {t : TA} (h : PA X es t) {t' : TA} (hi : ∀ σ H Q, t' σ H Q → ∃ Q0 : List V → Hp → Prop, t σ H Q0 ∧ ∀ v H', Q0 v H' → Q v H') : PA X es t' := fun p pins s σ H Q I q => by
  obtain ⟨Q0, h0, h1⟩ := hi σ H Q q
  exact thn (h p pins s σ H Q0 I h0) fun us s1 ⟨vs, H1, I1, r, q⟩ => ⟨vs, H1, I1, r, h1 vs H1 q⟩
theorem ps_rng1 {a : Expr} {x : Str} {i : Nat} {p p' pos' : Pos} {body : List Stmt} {ta : TA} {tb : TS} (hp : PassesOwn (model X.prog X.w) X.A X.env X.xe) (hc : X.calm = true) (hm : X.mg "range" = none) (ha : PA X [a] ta)
    (hg : PG X (.Name x pos') (gName i)) (hb : PSs X body tb) (hgl : Gl X "range" := by rfl) (hs : starEach [a] X.env = [(false, eval a X.env)] := by rfl) (hf : ∀ x, foldedSetIterable (.Call (.Name "range" p) [a] [] p') X.env x = pure x := by intro _; rfl) :
    PS X (.For (.Name x pos') (.Call (.Name "range" p) [a] [] p') body [] pos) (tRng ta i tb) := by
  have ha' : PA X [a] (fun σ H Q => ∃ Q0 : List V → Hp → Prop, ta σ H Q0 ∧ ∀ v H', Q0 v H' → Q v H') := ha.imp fun σ H Q h => h
  intro pins s σ H D I h
  refine ps_for hp hc (pi_range1 hgl hm ha' hs) hg hb hf pins s σ H D I ⟨_, h, fun vs H1 q => ?_⟩
  split at q
  · obtain ⟨⟨h1, h2⟩, Pv, h0, hs', hd⟩ := q
    exact ⟨_, rfl, h1, h2, for_range Pv h0 (fun k σ H hk pv => hs' k σ H hk pv) hd⟩
  · exact q.elim
noncomputable def forL (K : PySem.W.Frag) (a : Addr) (xs : List V) (g : TG) (tb : TS) : TS := fun D σ H => ∃ Pv : Nat → St → Hp → Prop, Pv 0 σ H ∧ (∀ i σ H, i ≤ xs.length → Pv i σ H → SqL K H a xs) ∧
  (∀ i x σ H, xs[i]? = some x → Pv i σ H → g x σ H fun σ2 H2 => tb { nx := Pv (i + 1), rt := D.rt, bk := D.nx, ct := Pv (i + 1) } σ2 H2) ∧ ∀ σ H, Pv xs.length σ H → D.nx σ H
noncomputable def tLst1 (K : PySem.W.Frag) (tl : TE) (g : TG) (tb : TS) : TS := fun D σ H => tl σ H fun v H1 => match v with
  | .ref a => ∃ xs, SqL K H1 a xs ∧ forL K a xs g tb D σ H1
  | _ => False
theorem ps_lst {l tg : Expr} {body : List Stmt} {tl : TE} {g : TG} {tb : TS} (hp : PassesOwn (model X.prog X.w) X.A X.env X.xe) (hc : X.calm = true) (hl : PE X l tl) (hg : PG X tg g) (hb : PSs X body tb)
    (hf : ∀ x, foldedSetIterable l X.env x = pure x := by intro _; rfl) : PS X (.For tg l body [] pos) (tLst1 X.K tl g tb) := by
  have hl' : PE X l (fun σ H Q => ∃ Q0 : VK, tl σ H Q0 ∧ ∀ v H', Q0 v H' → Q v H') := hl.imp fun σ H Q h => h
  intro pins s σ H D I h
  refine ps_for hp hc (pi_list hl') hg hb hf pins s σ H D I ⟨_, h, fun v H1 q => ?_⟩
  cases v with
  | ref a =>
    obtain ⟨xs, hx, Pv, h0, hs, h1, hd⟩ := q
    exact ⟨a, rfl, ⟨xs, hx⟩, for_list Pv h0 hs h1 hd⟩
  | _ => exact False.elim q
noncomputable def tMapL (K : PySem.W.Frag) (n : Nat) (cp : List (Str × Nat)) (tl : TE) (te : TE) : TE := fun σ H Q => tl σ H fun v H1 => match v with
  | .ref a => ∃ (xs : List V) (f : V → V), SqL K H1 a xs ∧ xs.length < sizeLine ∧ (∀ x ∈ xs, te ((capS n cp σ).set 0 (some x)) H1 fun y H6 => H6 = H1 ∧ y = f x) ∧ ∀ l, H1 l = none → Q (.ref l) (upd H1 l (.lst (xs.map f)))
  | _ => False
theorem pe_mapL {elt iter : Expr} {x : Str} {px : Pos} {scope : Scope} {pos : Pos} {cl : List (Str × Addr)} {own : List Str} {cp : List (Str × Nat)} {tl te : TE}
    (hc : X.calm = true) (hcl : closL scope.names X.env.cells [] = some cl) (hk : scope.kind = .function) (hnc : ∀ y ∈ scope.names, y.2 ≠ .cell)
    (hnm : ∀ x ∈ scope.names, x.2 = .local → scope.names.lookup x.1 = some .local) (hcp : CapOk X scope cp) (hi : PE X iter tl) (hn : 0 < own.length)
    (hg : ∀ fp C s H, PG (cxC X scope cl (own ++ cp.map (·.1)) fp C s H) (.Name x px) (gName 0)) (he : ∀ fp C s H, PE (cxC X scope cl (own ++ cp.map (·.1)) fp C s H) elt te)
    (hs : ∀ x, foldedSetIterable iter X.env x = pure x := by intro _; rfl) : PE X (.ListComp elt [⟨.Name x px, iter, [], 0⟩] scope pos) (tMapL X.K own.length cp tl te) := by
  have hi' : PE X iter (fun σ H Q => ∃ Q0 : VK, tl σ H Q0 ∧ ∀ v H', Q0 v H' → Q v H') := hi.imp fun σ H Q h => h
  have he' : ∀ fp C s H, PE (cxC X scope cl (own ++ cp.map (·.1)) fp C s H) elt (fun σ H Q => ∃ Q0 : VK, te σ H Q0 ∧ ∀ v H', Q0 v H' → Q v H') := fun fp C s H => (he fp C s H).imp fun σ H Q h => h
  intro pins s σ H Q I h
  refine pe_comp hc hcl hk hnc hnm hcp (pi_list hi') (gk_name hn) hg (fun _ _ _ _ => pf_nil) he' hs pins s σ H Q I ?_
  refine ⟨_, h, fun v H1 q => ?_⟩
  cases v with
  | ref a =>
    obtain ⟨xs, f, hx, hz, hst, q⟩ := q
    refine ⟨a, rfl, ⟨xs, hx⟩, fun i m H2 acc => H2 = H1 ∧ m = xs.length - i ∧ i ≤ xs.length ∧ acc = (xs.take i).map f, ⟨xs.length, rfl, rfl, Nat.zero_le _, rfl⟩, ?_⟩
    rintro i m H2 acc ⟨rfl, rfl, hi2, rfl⟩
    refine ⟨by rw [List.length_map, List.length_take]; omega, ?_⟩
    by_cases hlt : i < xs.length
    · refine .inr ⟨⟨xs, xs[i], hx, by simp [hlt]⟩, fun y H3 ⟨e3, y3⟩ => ?_⟩
      subst e3
      have ey := y3 xs hx
      have key : ∃ Q0 : VK, te ((capS own.length cp σ).set 0 (some y)) H3 Q0 ∧ ∀ z H6, Q0 z H6 → ∃ m', m' < xs.length - i ∧ H6 = H3 ∧ m' = xs.length - (i + 1) ∧ i + 1 ≤ xs.length ∧ (xs.take i).map f ++ [z] = (xs.take (i + 1)).map f := by
        refine ⟨_, hst y (List.mem_of_getElem? ey), fun z H6 ⟨e6, ez⟩ => ⟨xs.length - (i + 1), by omega, e6, rfl, hlt, ?_⟩⟩
        subst ez
        rw [List.take_succ, ey, List.map_append]
        rfl
      exact key
    · have e : i = xs.length := by omega
      subst e
      refine .inl ⟨⟨xs, hx, Nat.le_refl _⟩, fun l hl => ?_⟩
      rw [List.take_length]
      exact q l hl
  | _ => exact False.elim q
end
end L2
set_option maxRecDepth 100000
namespace LW
open PySem L2
noncomputable def byL : List Int := [48271, 69621, 16807, 39373, 21401, 60493, 87721, 31337]
noncomputable def primeL : List Int := [99991, 99989, 99971, 99961, 99929, 99923, 99907, 99901]
noncomputable def signs : List Nat := (List.range 5).map (fun k => 32 + k) ++ (List.range 89).map fun k => 38 + k
theorem signs_len : signs.length = 94 := by decide +kernel
noncomputable def cellAt (ns : List Int) (k : Int) : Int := if k < ns.length then ns.getD k.toNat 0 else 0
theorem atI_getD {α : Type} {xs : List α} {i : Int} (d : α) (h0 : 0 ≤ i) (h1 : i < xs.length) : atI xs i = some (xs.getD i.toNat d) := by
  unfold atI ixN
  rw [if_pos h0, if_pos h1]
  show xs[i.toNat]? = _
  rw [List.getD_eq_getElem?_getD]
  have : i.toNat < xs.length := by omega
  rw [List.getElem?_eq_getElem this]
  rfl
theorem getD_int (l : List Int) (i : Nat) : (l.map V.int).getD i (V.int 0) = V.int (l.getD i 0) := by
  rw [List.getD_eq_getElem?_getD, List.getD_eq_getElem?_getD, List.getElem?_map]
  cases l[i]? <;> rfl
theorem atI_int {l : List Int} {i : Int} (h0 : 0 ≤ i) (h1 : i < l.length) : atI (l.map V.int) i = some (V.int (l.getD i.toNat 0)) := by
  rw [atI_getD (V.int 0) h0 (by simpa using h1), getD_int]
theorem prime_pos {i : Int} (h0 : 0 ≤ i) (h1 : i < 8) : 0 < primeL.getD i.toNat 0 := by
  have : i.toNat < 8 := by omega
  generalize i.toNat = n at this
  have h : ∀ n : Nat, n < 8 → 0 < primeL.getD n 0 := by decide
  exact h n this
theorem flat1 {α β : Type} (g : α → β) : ∀ l : List α, (l.map fun c => [g c]).flatten = l.map g
  | [] => rfl
  | x :: r => by
    rw [List.map_cons, List.map_cons, List.flatten_cons, flat1 g r]
    rfl
theorem signs_at {i : Nat} (h : i < 94) : signs.getD i 0 ∈ signs := by
  have : i < signs.length := by rw [signs_len]; exact h
  rw [List.getD_eq_getElem?_getD, List.getElem?_eq_getElem this]
  exact List.getElem_mem this
theorem sum1 {α β : Type} (g : α → β) : ∀ l : List α, ((l.map fun c => [g c]).map List.length).sum = l.length
  | [] => rfl
  | x :: r => by
    rw [List.map_cons, List.map_cons, List.sum_cons, sum1 g r, List.length_cons]
    show 1 + r.length = r.length + 1
    omega
theorem empty_L : L (Str.ofString "") = [] := by decide +kernel
theorem cut_map {α β : Type} (f : α → β) (l : List α) (lo hi : Option Int) : cut (l.map f) lo hi = (cut l lo hi).map f := by
  unfold cut
  rw [List.map_take, List.map_drop, List.length_map]
theorem upd_old {H : Hp} {p p' : Addr} {o o' : HO} (h : upd H p o p' = none) : upd (upd H p o) p' o' p = some o := by
  have : p ≠ p' := by
    rintro rfl
    rw [upd_same] at h
    cases h
  rw [upd_ne this, upd_same]
end LW
set_option maxRecDepth 100000
namespace L2
open PySem PySem.Spec PyProof.Rows
section
variable {X : Cx} {pos : Pos}
noncomputable def isS (x : V) (n : String) : Option Bool := match x with
  | .int _ => if n = "int" then some true else if n = "bool" then some false else if n = "str" then some false else if n = "list" then some false else if n = "tuple" then some false else if n = "dict" then some false else none
  | .bl _ => if n = "int" then some true else if n = "bool" then some true else if n = "str" then some false else if n = "list" then some false else if n = "tuple" then some false else if n = "dict" then some false else none
  | .str _ => if n = "int" then some false else if n = "bool" then some false else if n = "str" then some true else if n = "list" then some false else if n = "tuple" then some false else if n = "dict" then some false else none
  | .non => if n = "int" then some false else if n = "bool" then some false else if n = "str" then some false else if n = "list" then some false else if n = "tuple" then some false else if n = "dict" then some false else none
  | _ => none
theorem isS_ok {K : PySem.W.Frag} {H : Hp} {x : V} {n : String} {b : Bool} (h : isS x n = some b) : ∃ t, TyOf K H x t ∧ PySem.W.kitOne K t (.type n) = some b := by
  cases x with
  | int i =>
    refine ⟨_, .int i, ?_⟩
    unfold isS at h
    dsimp only at h
    split at h
    · rename_i e; subst e; cases h; rfl
    split at h
    · rename_i e; subst e; cases h; rfl
    split at h
    · rename_i e; subst e; cases h; rfl
    split at h
    · rename_i e; subst e; cases h; rfl
    split at h
    · rename_i e; subst e; cases h; rfl
    split at h
    · rename_i e; subst e; cases h; rfl
    · cases h
  | bl i =>
    refine ⟨_, .bl i, ?_⟩
    unfold isS at h
    dsimp only at h
    split at h
    · rename_i e; subst e; cases h; rfl
    split at h
    · rename_i e; subst e; cases h; rfl
    split at h
    · rename_i e; subst e; cases h; rfl
    split at h
    · rename_i e; subst e; cases h; rfl
    split at h
    · rename_i e; subst e; cases h; rfl
    split at h
    · rename_i e; subst e; cases h; rfl
    · cases h
  | str i =>
    refine ⟨_, .str i, ?_⟩
    unfold isS at h
    dsimp only at h
    split at h
    · rename_i e; subst e; cases h; rfl
    split at h
    · rename_i e; subst e; cases h; rfl
    split at h
    · rename_i e; subst e; cases h; rfl
    split at h
    · rename_i e; subst e; cases h; rfl
    split at h
    · rename_i e; subst e; cases h; rfl
    split at h
    · rename_i e; subst e; cases h; rfl
    · cases h
  | non =>
    refine ⟨_, .non, ?_⟩
    unfold isS at h
    dsimp only at h
    split at h
    · rename_i e; subst e; cases h; rfl
    split at h
    · rename_i e; subst e; cases h; rfl
    split at h
    · rename_i e; subst e; cases h; rfl
    split at h
    · rename_i e; subst e; cases h; rfl
    split at h
    · rename_i e; subst e; cases h; rfl
    split at h
    · rename_i e; subst e; cases h; rfl
    · cases h
  | _ => cases h
noncomputable def isiV (K : PySem.W.Frag) : List V → Hp → VK → Prop := fun xs H Q => match xs with
  | [.ref p, .ty n] => ∃ b t, TyOf K H (.ref p) t ∧ PySem.W.kitOne K t (.type n) = some b ∧ Q (.bl b) H
  | [x, .ty n] => match isS x n with
    | some b => Q (.bl b) H
    | none => False
  | _ => False
theorem c_isi : CallR X (.builtin "isinstance") (isiV X.K) := by
  intro pins s σ H xs us Q I r h
  unfold isiV at h
  split at h
  · rename_i p n
    obtain ⟨b, t, ty, e, q⟩ := h
    obtain ⟨u, w', rfl, ru, rw'⟩ := vals2 r
    cases rw'
    exact isinst_ok I ru ty e fun tk => fin_bl (I.tok tk) q rfl
  · rename_i x n _
    split at h
    · rename_i b e
      obtain ⟨t, ty, e2⟩ := isS_ok (K := X.K) (H := H) e
      obtain ⟨u, w', rfl, ru, rw'⟩ := vals2 r
      cases rw'
      exact isinst_ok I ru ty e2 fun tk => fin_bl (I.tok tk) h rfl
    · exact h.elim
  · exact h.elim
end
end L2
namespace L2
open PySem PySem.Spec PyProof.Rows
section
variable {X : Cx} {K : PySem.W.Frag} {pos : Pos}
theorem i_ixK (h : X.K = K) : IxR X (ixV K) := h ▸ i_ix
theorem s_slK (h : X.K = K) : SlR X (slV K) := h ▸ s_sl
theorem c_lenK (h : X.K = K) : CallR X (.builtin "len") (lenV K) := h ▸ c_len
theorem c_isiK (h : X.K = K) : CallR X (.builtin "isinstance") (isiV K) := h ▸ c_isi
theorem m_joinK (h : X.K = K) : MtR X "str.join" (joinV K) := h ▸ m_join
theorem pt_trK {a : Expr} {ta : TE} (hK : X.K = K) (ha : PE X a ta) (he : ∀ whole, isTrue a X.env whole = (do let v ← whole; standAt a.pos; holding [v] (truthy v)) := by intro _; rfl) : PT X a (trV K ta) := by
  subst hK
  exact pt_tr ha he
variable {o e : Expr} {es : List Expr} {to : TE} {t : TA} {name : Str} {apos cpos : Pos} {T id : String} {r : V → List V → Hp → VK → Prop}
theorem pe_bmK (hK : X.K = K) (pa : PlainAttrs T) (slot : Slot T name id) (hty : typeOf (.builtin id) = pure (.type "method_descriptor")) (hm : MtR X id r) (ho : PE X o to) (ha : PA X (e :: es) t)
    (hbase : attributeBase o name X.env (eval o X.env) = eval o X.env := by rfl)
    (hfew : ((backTo cpos (starEach (e :: es) X.env)).all (fun x => !x.1) && (backToKw cpos (keywordEach [] X.env)).all (fun x => x.1.isSome)
      && decide ((e :: es).length + ([] : List Keyword).length + (if ([] : List Keyword).isEmpty then 0 else 1) < 30)) = true := by rfl)
    (hline : (apos.endLine == cpos.line) = true := by rfl) (hs : starEach (e :: es) X.env = (false, eval e X.env) :: starEach es X.env := by rfl) (hplain : (backTo cpos (starEach es X.env)).any (·.1) = false := by rfl) :
    PE X (.Call (.Attribute o name apos) (e :: es) [] cpos) (tBM K T r to t) := by
  subst hK
  exact pe_bm pa slot hty hm ho ha hbase hfew hline hs hplain
theorem ps_lstK {l tg : Expr} {body : List Stmt} {tl : TE} {g : TG} {tb : TS} (hK : X.K = K) (hp : PassesOwn (model X.prog X.w) X.A X.env X.xe) (hc : X.calm = true) (hl : PE X l tl) (hg : PG X tg g) (hb : PSs X body tb)
    (hf : ∀ x, foldedSetIterable l X.env x = pure x := by intro _; rfl) : PS X (.For tg l body [] pos) (tLst1 K tl g tb) := by
  subst hK
  exact ps_lst hp hc hl hg hb hf
theorem pe_mapLK {elt iter : Expr} {x : Str} {px : Pos} {scope : Scope} {pos : Pos} {cl : List (Str × Addr)} {own : List Str} {cp : List (Str × Nat)} {tl te : TE} (hK : X.K = K)
    (hc : X.calm = true) (hcl : closL scope.names X.env.cells [] = some cl) (hk : scope.kind = .function) (hnc : ∀ y ∈ scope.names, y.2 ≠ .cell)
    (hnm : ∀ x ∈ scope.names, x.2 = .local → scope.names.lookup x.1 = some .local) (hcp : CapOk X scope cp) (hi : PE X iter tl) (hn : 0 < own.length)
    (hg : ∀ fp C s H, PG (cxC X scope cl (own ++ cp.map (·.1)) fp C s H) (.Name x px) (gName 0)) (he : ∀ fp C s H, PE (cxC X scope cl (own ++ cp.map (·.1)) fp C s H) elt te)
    (hs : ∀ x, foldedSetIterable iter X.env x = pure x := by intro _; rfl) : PE X (.ListComp elt [⟨.Name x px, iter, [], 0⟩] scope pos) (tMapL K own.length cp tl te) := by
  subst hK
  exact pe_mapL hc hcl hk hnc hnm hcp hi hn hg he hs
end
end L2
namespace L2
open PySem
theorem bt_len : bootBuiltins "len" = some (.builtin "len") := by decide +kernel
theorem bt_isinstance : bootBuiltins "isinstance" = some (.builtin "isinstance") := by decide +kernel
theorem bt_sorted : bootBuiltins "sorted" = some (.builtin "sorted") := by decide +kernel
theorem bt_list : bootBuiltins "list" = some (.type "list") := by decide +kernel
theorem bt_int : bootBuiltins "int" = some (.type "int") := by decide +kernel
theorem bt_str : bootBuiltins "str" = some (.type "str") := by decide +kernel
theorem bt_tuple : bootBuiltins "tuple" = some (.type "tuple") := by decide +kernel
theorem bt_bool : bootBuiltins "bool" = some (.type "bool") := by decide +kernel
theorem bt_dict : bootBuiltins "dict" = some (.type "dict") := by decide +kernel
theorem bt_range : bootBuiltins "range" = some (.type "range") := by decide +kernel
end L2
set_option maxRecDepth 100000
namespace L2
open PySem PySem.Spec PyProof.Rows
section
variable {X : Cx} {tg : Expr}
end
end L2
set_option maxRecDepth 100000
namespace LW
open PySem L2
noncomputable def com : List Nat → List Nat → Nat
  | a :: x, b :: y => if a = b then com x y + 1 else 0
  | _, _ => 0
theorem com_le : ∀ l p : List Nat, com l p ≤ l.length ∧ com l p ≤ p.length
  | [], p => by cases p <;> exact ⟨Nat.zero_le _, Nat.zero_le _⟩
  | a :: x, [] => ⟨Nat.zero_le _, Nat.zero_le _⟩
  | a :: x, b :: y => by
    unfold com
    split
    · have := com_le x y
      exact ⟨Nat.succ_le_succ this.1, Nat.succ_le_succ this.2⟩
    · exact ⟨Nat.zero_le _, Nat.zero_le _⟩
end LW
set_option maxRecDepth 100000
namespace LS
open PySem PySem.W PyProof.Rows
abbrev gt (p : Array Nat) (k : Nat) : Nat := p.getD k 0
theorem gt_of {p r : Array Nat} {k l : Nat} (h : p[k]? = r[l]?) : gt p k = gt r l := by
  unfold gt
  rw [Array.getD_eq_getD_getElem?, Array.getD_eq_getD_getElem?, h]
theorem gt_rev {p : Array Nat} {i j : Nat} (hj : j ≤ p.size) (k : Nat) : gt (kas_rev p i j) k = if i ≤ k ∧ k < j then gt p (i + j - 1 - k) else gt p k := by
  have e := getElem?_mirror_all (i := i) hj k
  by_cases h : i ≤ k ∧ k < j
  · rw [if_pos h] at e ⊢; exact gt_of e
  · rw [if_neg h] at e ⊢; exact gt_of e
theorem gt_bub {p : Array Nat} {a d : Nat} (hs : a < p.size) (hd : d ≤ a) (k : Nat) : gt (bubble p a d) k = if k = a - d then gt p a else if a - d < k ∧ k ≤ a then gt p (k - 1) else gt p k := by
  have e := getElem?_bubble hs d hd k
  by_cases h1 : k = a - d
  · rw [if_pos h1] at e ⊢; exact gt_of e
  · rw [if_neg h1] at e ⊢
    by_cases h2 : a - d < k ∧ k ≤ a
    · rw [if_pos h2] at e ⊢; exact gt_of e
    · rw [if_neg h2] at e ⊢; exact gt_of e
noncomputable def Pm (n : Nat) (p : Array Nat) : Prop := p.toList.Perm (List.range n)
theorem Pm.size {n : Nat} {p : Array Nat} (h : Pm n p) : p.size = n := by
  have := h.length_eq
  simpa using this
theorem Pm.lt {n : Nat} {p : Array Nat} (h : Pm n p) {k : Nat} (hk : k < n) : gt p k < n := by
  have hs := h.size
  have : gt p k ∈ p.toList := by
    have hk' : k < p.size := by omega
    unfold gt
    rw [Array.getD_eq_getD_getElem?, Array.getElem?_eq_getElem hk']
    simp
  have := h.mem_iff.mp this
  simpa using this
theorem Pm.rev {n : Nat} {p : Array Nat} (h : Pm n p) (i j : Nat) : Pm n (kas_rev p i j) := (Array.perm_iff_toList_perm.mp (mirror_perm p i j _)).trans h
theorem Pm.bub {n : Nat} {p : Array Nat} (h : Pm n p) (a d : Nat) : Pm n (bubble p a d) := (Array.perm_iff_toList_perm.mp (bubble_perm p a d)).trans h
section
variable {O : KeyOrd} {key : Nat → O.α} {n : Nat}
noncomputable def Up (key : Nat → O.α) (p : Array Nat) (k : Nat) : Prop := ∀ i j, i ≤ j → j < k → O.kle (key (gt p i)) (key (gt p j))
noncomputable def Dn (key : Nat → O.α) (p : Array Nat) (k : Nat) : Prop := ∀ i j, i ≤ j → j < k → O.kle (key (gt p j)) (key (gt p i))
theorem up_one {p : Array Nat} : Up key p 1 := fun i j hij hj => by
  have : i = j := by omega
  subst this
  exact KeyOrd.kle_refl _
theorem rev_same {p : Array Nat} {i j : Nat} (hj : j ≤ p.size) (h : ∀ k, i ≤ k → k < j → key (gt p k) = key (gt p (j - 1))) (k : Nat) : key (gt (kas_rev p i j) k) = key (gt p k) := by
  rw [gt_rev hj]
  split
  · rw [h _ (by omega) (by omega), h k (by omega) (by omega)]
  · rfl
structure Asks (key : Nat → O.α) (n : Nat) (J : Shared → Prop) (cmp : Nat → Nat → (Bool → Shared → Prop) → Shared → Prop) : Prop where
  ask : ∀ i j C s, i < n → j < n → J s → (∀ s', J s' → C (O.blt (key i) (key j)) s') → cmp i j C s
variable {J : Shared → Prop} {cmp : Nat → Nat → (Bool → Shared → Prop) → Shared → Prop}
theorem place_ok (hc : Asks key n J cmp) {p : Array Nat} {k : Nat} (hp : Pm n p) (hk : k < n) (hu : Up key p k) {Q : Nat → Shared → Prop} : ∀ (f l r : Nat) (s : Shared), l ≤ r → r ≤ k → r - l ≤ f → (∀ i, i < l → O.kle (key (gt p i)) (key (gt p k))) → (∀ i, r ≤ i → i < k → O.klt (key (gt p k)) (key (gt p i))) → J s →
    (∀ l s', J s' → l ≤ k → (∀ i, i < l → O.kle (key (gt p i)) (key (gt p k))) → (∀ i, l ≤ i → i < k → O.klt (key (gt p k)) (key (gt p i))) → Q l s') → (kas_place p k f l r).kasWp cmp Q s
  | 0, l, r, s, h1, h2, h3, hlo, hhi, hj, h => by
    have : l = r := by omega
    subst this
    exact h l s hj h2 hlo hhi
  | f + 1, l, r, s, h1, h2, h3, hlo, hhi, hj, h => by
    unfold kas_place
    by_cases hge : l ≥ r
    · rw [if_pos hge]
      have : l = r := by omega
      subst this
      exact h l s hj h2 hlo hhi
    · rw [if_neg hge]
      refine hc.ask _ _ _ _ (hp.lt (by omega)) (hp.lt (by omega)) hj fun s' hj' => ?_
      cases e : O.blt (key (gt p k)) (key (gt p ((l + r) / 2))) with
      | true =>
        dsimp only
        rw [if_pos rfl]
        exact place_ok hc hp hk hu f l ((l + r) / 2) s' (by omega) (by omega) (by omega) hlo (fun i z1 z2 => KeyOrd.klt_of_klt_of_kle e (hu _ _ z1 z2)) hj' h
      | false =>
        dsimp only
        rw [if_neg Bool.false_ne_true]
        exact place_ok hc hp hk hu f ((l + r) / 2 + 1) r s' (by omega) (by omega) (by omega) (fun i z => KeyOrd.kle_trans (hu i ((l + r) / 2) (by omega) (by omega)) e) hhi hj' h
end
end LS
set_option maxRecDepth 100000
namespace LS
open PySem PySem.W PyProof.Rows
theorem Pm.inj {n : Nat} {p : Array Nat} (h : Pm n p) {i j : Nat} (hi : i < n) (hj : j < n) (e : gt p i = gt p j) : i = j := by
  have hs := h.size
  have nd : p.toList.Nodup := h.nodup_iff.mpr List.nodup_range
  have gi : gt p i = p.toList[i]'(by simp; omega) := by
    unfold gt
    rw [Array.getD_eq_getD_getElem?, Array.getElem?_eq_getElem (by omega)]
    simp
  have gj : gt p j = p.toList[j]'(by simp; omega) := by
    unfold gt
    rw [Array.getD_eq_getD_getElem?, Array.getElem?_eq_getElem (by omega)]
    simp
  rw [gi, gj] at e
  rcases Nat.lt_trichotomy i j with h1 | h1 | h1
  · exact absurd e (List.pairwise_iff_getElem.mp nd i j (by simp; omega) (by simp; omega) h1)
  · exact h1
  · exact absurd e.symm (List.pairwise_iff_getElem.mp nd j i (by simp; omega) (by simp; omega) h1)
noncomputable def Fx (n : Nat) (p : Array Nat) (a : Nat) : Prop := ∀ k, a ≤ k → k < n → gt p k = k
theorem Fx.mono {n a b : Nat} {p : Array Nat} (h : Fx n p a) (hab : a ≤ b) : Fx n p b := fun k h1 h2 => h k (Nat.le_trans hab h1) h2
theorem Fx.low {n a i : Nat} {p : Array Nat} (h : Fx n p a) (hp : Pm n p) (ha : a ≤ n) (hi : i < a) : gt p i < a := by
  have hl := hp.lt (k := i) (by omega)
  refine Nat.lt_of_not_le fun hge => ?_
  have e := h (gt p i) hge hl
  have := hp.inj hl (by omega) e
  omega
theorem Fx.rev {n a i j : Nat} {p : Array Nat} (h : Fx n p a) (hp : Pm n p) (hj : j ≤ a) (ha : a ≤ n) : Fx n (kas_rev p i j) a := fun k h1 h2 => by
  have hs := hp.size
  rw [gt_rev (by omega), if_neg (by omega)]
  exact h k h1 h2
section
variable {O : KeyOrd} {key : Nat → O.α} {n : Nat}
noncomputable def St (key : Nat → O.α) (p : Array Nat) (k : Nat) : Prop := ∀ i j, i < j → j < k → key (gt p i) = key (gt p j) → gt p i < gt p j
noncomputable def Sd (key : Nat → O.α) (p : Array Nat) (k : Nat) : Prop := ∀ i j, i < j → j < k → key (gt p i) = key (gt p j) → gt p j < gt p i
noncomputable def Ust (key : Nat → O.α) (p : Array Nat) (k : Nat) : Prop := Up key p k ∧ St key p k
variable {J : Shared → Prop} {cmp : Nat → Nat → (Bool → Shared → Prop) → Shared → Prop}
theorem st_step {p : Array Nat} (hp : Pm n p) {a : Nat} (ha : a < n) (fx : Fx n p a) (st : St key p a) : St key p (a + 1) := fun i j hij hj e => by
  by_cases h : j < a
  · exact st i j hij h e
  · have : j = a := by omega
    subst this
    rw [fx j (Nat.le_refl _) ha]
    exact fx.low hp (by omega) hij
theorem asc_st (hc : Asks key n J cmp) {p : Array Nat} (hp : Pm n p) {Q : Nat → Shared → Prop} : ∀ (f a : Nat) (s : Shared), 1 ≤ a → a + f ≤ n → Ust key p a → Fx n p a → J s →
    (∀ m s', J s' → a ≤ m → m ≤ a + f → Ust key p m → Fx n p m → (m = a + f ∨ O.klt (key (gt p m)) (key (gt p (m - 1)))) → Q m s') → (kas_asc p f a).kasWp cmp Q s
  | 0, a, s, h1, h2, hu, fx, hj, h => h a s hj (Nat.le_refl _) (Nat.le_refl _) hu fx (.inl rfl)
  | f + 1, a, s, h1, h2, hu, fx, hj, h => by
    refine hc.ask _ _ _ _ (hp.lt (by omega)) (hp.lt (by omega)) hj fun s' hj' => ?_
    cases e : O.blt (key (gt p a)) (key (gt p (a - 1))) with
    | true =>
      show (if true = true then KasT.ret a else kas_asc p f (a + 1)).kasWp cmp Q s'
      rw [if_pos rfl]
      exact h a s' hj' (Nat.le_refl _) (by omega) hu fx (.inr e)
    | false =>
      show (if false = true then KasT.ret a else kas_asc p f (a + 1)).kasWp cmp Q s'
      rw [if_neg Bool.false_ne_true]
      refine asc_st hc hp f (a + 1) s' (by omega) (by omega) ⟨fun i j hij hj2 => ?_, st_step hp (by omega) fx hu.2⟩ (fx.mono (by omega)) hj' fun m s2 q1 q2 q3 q4 q5 q6 => h m s2 q1 (by omega) (by omega) q4 q5 (q6.imp (fun z => by omega) id)
      by_cases hja : j < a
      · exact hu.1 i j hij hja
      · have : j = a := by omega
        subst this
        by_cases hi : i = j
        · subst hi; exact KeyOrd.kle_refl _
        · exact KeyOrd.kle_trans (hu.1 i (j - 1) (by omega) (by omega)) e
structure Ds (key : Nat → O.α) (n : Nat) (p : Array Nat) (a q : Nat) : Prop where
  dn : Dn key p a
  sd : Sd key p (a - (q + 1))
  lt : ∀ i j, i < a - (q + 1) → a - (q + 1) ≤ j → j < a → O.klt (key (gt p j)) (key (gt p i))
  up : ∀ i j, a - (q + 1) ≤ i → i < j → j < a → gt p i < gt p j
  fx : Fx n p a
  eq : ∀ i, a - (q + 1) ≤ i → i < a → key (gt p i) = key (gt p (a - 1))
theorem klt_ne {x y : O.α} (h : O.klt x y) : x ≠ y := fun e => by
  subst e
  have : O.blt x x = true := h
  rw [O.irrefl] at this
  cases this
theorem Ds.turn {p : Array Nat} {a q : Nat} (hp : Pm n p) (ha : a ≤ n) (hq : q + 1 ≤ a) (d : Ds key n p a q) : Sd key (kas_rev p (a - (q + 1)) a) a := fun i j hij hj e => by
  have hs := hp.size
  have rs := rev_same (key := key) (p := p) (i := a - (q + 1)) (j := a) (by omega) d.eq
  rw [rs, rs] at e
  rw [gt_rev (by omega), gt_rev (by omega)]
  by_cases h1 : a - (q + 1) ≤ i
  · rw [if_pos ⟨by omega, hj⟩, if_pos ⟨h1, by omega⟩]
    exact d.up _ _ (by omega) (by omega) (by omega)
  · by_cases h2 : a - (q + 1) ≤ j
    · exact absurd e.symm (klt_ne (d.lt i j (by omega) h2 hj))
    · rw [if_neg (by omega), if_neg (by omega)]
      exact d.sd i j hij (by omega) e
theorem Ds.one {p : Array Nat} {a : Nat} (ha : 1 ≤ a) (d : Ds key n p a 0) : Sd key p a := fun i j hij hj e => by
  by_cases h2 : j < a - 1
  · exact d.sd i j hij (by omega) e
  · exact absurd e.symm (klt_ne (d.lt i j (by omega) (by omega) hj))
theorem desc_st (hc : Asks key n J cmp) {Q : Array Nat × Nat × Nat → Shared → Prop} : ∀ (f : Nat) (p : Array Nat) (a q : Nat) (s : Shared), Pm n p → 1 ≤ a → a + f ≤ n → q + 1 ≤ a → Ds key n p a q → J s →
    (∀ p' m q' s', J s' → Pm n p' → a ≤ m → m ≤ a + f → q' + 1 ≤ m → Ds key n p' m q' → Q (p', m, q') s') → (kas_desc f p a q).kasWp cmp Q s
  | 0, p, a, q, s, hp, h1, h2, hq, d, hj, h => h p a q s hj hp (Nat.le_refl _) (Nat.le_refl _) hq d
  | f + 1, p, a, q, s, hp, h1, h2, hq, d, hj, h => by
    refine hc.ask _ _ _ _ (hp.lt (by omega)) (hp.lt (by omega)) hj fun s' hj' => ?_
    have hsz := hp.size
    cases e : O.blt (key (gt p a)) (key (gt p (a - 1))) with
    | true =>
      show (if true = true then (if q > 0 then kas_desc f (kas_rev p (a - (q + 1)) a) (a + 1) 0 else kas_desc f p (a + 1) 0) else _).kasWp cmp Q s'
      rw [if_pos rfl]
      have go : ∀ r : Array Nat, Pm n r → (∀ k, key (gt r k) = key (gt p k)) → Sd key r a → Fx n r a → (kas_desc f r (a + 1) 0).kasWp cmp Q s' := fun r hr hk sd fx => by
        have low : ∀ i, i < a → O.klt (key (gt p a)) (key (gt p i)) := fun i hi => by
          refine KeyOrd.klt_of_klt_of_kle e ?_
          exact d.dn i (a - 1) (by omega) (by omega)
        refine desc_st hc f r (a + 1) 0 s' hr (by omega) (by omega) (by omega) ⟨fun i j hij hj2 => ?_, ?_, fun i j hi hj1 hj2 => ?_, fun i j h1 h2 h3 => by omega, fx.mono (by omega), fun i z1 z2 => by congr 2; omega⟩ hj' fun p' m q' s2 y1 y2 y3 y4 y5 y6 => h p' m q' s2 y1 y2 (by omega) (by omega) y5 y6
        · rw [hk, hk]
          by_cases hja : j < a
          · exact d.dn i j hij hja
          · have : j = a := by omega
            subst this
            by_cases hi : i = j
            · subst hi; exact KeyOrd.kle_refl _
            · exact KeyOrd.kle_of_klt (low i (by omega))
        · rw [show a + 1 - (0 + 1) = a by omega]
          exact sd
        · have : j = a := by omega
          subst this
          rw [hk, hk]
          exact low i (by omega)
      by_cases h0 : q > 0
      · rw [if_pos h0]
        exact go _ (hp.rev _ _) (rev_same (by omega) d.eq) (d.turn hp (by omega) hq) (d.fx.rev hp (Nat.le_refl _) (by omega))
      · rw [if_neg h0]
        have : q = 0 := by omega
        subst this
        exact go _ hp (fun _ => rfl) (d.one h1) d.fx
    | false =>
      show (if false = true then _ else KasT.ask (gt p (a - 1)) (gt p a) fun d => if d = true then .ret (p, a, q) else kas_desc f p (a + 1) (q + 1)).kasWp cmp Q s'
      rw [if_neg Bool.false_ne_true]
      refine hc.ask _ _ _ _ (hp.lt (by omega)) (hp.lt (by omega)) hj' fun s2 hj2 => ?_
      cases e2 : O.blt (key (gt p (a - 1))) (key (gt p a)) with
      | true =>
        show (if true = true then KasT.ret (p, a, q) else kas_desc f p (a + 1) (q + 1)).kasWp cmp Q s2
        rw [if_pos rfl]
        exact h p a q s2 hj2 hp (Nat.le_refl _) (by omega) hq d
      | false =>
        show (if false = true then KasT.ret (p, a, q) else kas_desc f p (a + 1) (q + 1)).kasWp cmp Q s2
        rw [if_neg Bool.false_ne_true]
        have ex : key (gt p a) = key (gt p (a - 1)) := KeyOrd.kle_antisymm e2 e
        have eB : a + 1 - (q + 1 + 1) = a - (q + 1) := by omega
        refine desc_st hc f p (a + 1) (q + 1) s2 hp (by omega) (by omega) (by omega) ⟨fun i j hij hj3 => ?_, ?_, fun i j hi hj1 hj3 => ?_, fun i j k1 k2 k3 => ?_, d.fx.mono (by omega), fun i z1 z2 => ?_⟩ hj2 fun p' m q' s3 y1 y2 y3 y4 y5 y6 => h p' m q' s3 y1 y2 (by omega) (by omega) y5 y6
        · by_cases hja : j < a
          · exact d.dn i j hij hja
          · have : j = a := by omega
            subst this
            by_cases hi : i = j
            · subst hi; exact KeyOrd.kle_refl _
            · rw [ex]; exact d.dn i (j - 1) (by omega) (by omega)
        · rw [eB]
          exact d.sd
        · rw [eB] at hi hj1
          by_cases hja : j < a
          · exact d.lt i j hi hj1 hja
          · have : j = a := by omega
            subst this
            rw [ex]
            exact d.lt i (j - 1) hi (by omega) (by omega)
        · rw [eB] at k1
          by_cases hja : j < a
          · exact d.up i j k1 k2 hja
          · have : j = a := by omega
            subst this
            rw [d.fx j (Nat.le_refl _) (by omega)]
            exact d.fx.low hp (by omega) (by omega)
        · rw [show a + 1 - 1 = a by omega]
          by_cases hi : i = a
          · subst hi; rfl
          · rw [ex]; exact d.eq i (by omega) (by omega)
theorem tail_st (hc : Asks key n J cmp) {p : Array Nat} {a nrem : Nat} {s : Shared} {Q : Nat × Array Nat → Shared → Prop} (hp : Pm n p) (h1 : 1 ≤ a) (h2 : a ≤ nrem) (h3 : nrem ≤ n) (hd : Dn key p a) (sd : Sd key p a) (fx : Fx n p a) (hj : J s)
    (h : ∀ m p' s', J s' → Pm n p' → 1 ≤ m → m ≤ nrem → Ust key p' m → Fx n p' m → Q (m, p') s') : (kas_tail3 a nrem p).kasWp cmp Q s := by
  unfold kas_tail3
  rw [KasT.kasWp_bind]
  have hsz := hp.size
  refine asc_st hc (hp.rev 0 a) (nrem - a) a s h1 (by omega) ⟨fun i j hij hj2 => ?_, fun i j hij hj2 e => ?_⟩ (fx.rev hp (Nat.le_refl _) (by omega)) hj fun m s' y1 y2 y3 y4 y5 _ => h m _ s' y1 (hp.rev 0 a) (by omega) (by omega) y4 y5
  · rw [gt_rev (by omega), gt_rev (by omega), if_pos (by omega), if_pos (by omega)]
    exact hd _ _ (by omega) (by omega)
  · rw [gt_rev (by omega), gt_rev (by omega), if_pos (by omega), if_pos (by omega)] at e ⊢
    exact sd _ _ (by omega) (by omega) e.symm
theorem descPart_st (hc : Asks key n J cmp) {p : Array Nat} {a nrem : Nat} {s : Shared} {Q : Nat × Array Nat → Shared → Prop} (hp : Pm n p) (h2 : a + 1 ≤ nrem) (h3 : nrem ≤ n) (d : Ds key n p (a + 1) 0) (hj : J s)
    (h : ∀ m p' s', J s' → Pm n p' → 1 ≤ m → m ≤ nrem → Ust key p' m → Fx n p' m → Q (m, p') s') : (kas_descPart a nrem p).kasWp cmp Q s := by
  unfold kas_descPart
  rw [KasT.kasWp_bind]
  refine desc_st hc (nrem - (a + 1)) p (a + 1) 0 s hp (by omega) (by omega) (by omega) d hj fun p' m q' s' y1 y2 y3 y4 y5 y6 => ?_
  dsimp only
  have hsz := y2.size
  by_cases h0 : q' > 0
  · rw [if_pos h0]
    refine tail_st hc (y2.rev _ _) (by omega) (by omega) h3 (fun i j hij hj2 => ?_) (y6.turn y2 (by omega) y5) (y6.fx.rev y2 (Nat.le_refl _) (by omega)) y1 h
    rw [rev_same (by omega) y6.eq, rev_same (by omega) y6.eq]
    exact y6.dn i j hij hj2
  · rw [if_neg h0]
    have : q' = 0 := by omega
    subst this
    exact tail_st hc y2 (by omega) (by omega) h3 y6.dn (y6.one (by omega)) y6.fx y1 h
theorem count_st (hc : Asks key n J cmp) {p : Array Nat} {s : Shared} {Q : Nat × Array Nat → Shared → Prop} (hp : Pm n p) (h1 : 1 ≤ n) (fx : Fx n p 1) (hj : J s)
    (h : ∀ m p' s', J s' → Pm n p' → 1 ≤ m → m ≤ n → Ust key p' m → Fx n p' m → Q (m, p') s') : (kas_count n p).kasWp cmp Q s := by
  unfold kas_count
  rw [KasT.kasWp_bind]
  have hsz := hp.size
  refine asc_st hc hp (n - 1) 1 s (Nat.le_refl _) (by omega) ⟨up_one, fun i j h1 h2 => by omega⟩ fx hj fun m s' y1 y2 y3 y4 y6 y5 => ?_
  by_cases hm : m = n
  · rw [if_pos (by simpa using hm)]
    exact h m p s' y1 hp y2 (by omega) y4 y6
  · rw [if_neg (by simpa using hm)]
    have hlt : O.klt (key (gt p m)) (key (gt p (m - 1))) := y5.resolve_left (by omega)
    by_cases hg : m > 1
    · rw [if_pos hg]
      refine hc.ask _ _ _ _ (hp.lt (by omega)) (hp.lt (by omega)) y1 fun s2 hj2 => ?_
      cases e : O.blt (key (gt p 0)) (key (gt p (m - 1))) with
      | true =>
        dsimp only
        rw [if_pos rfl]
        exact h m p s2 hj2 hp y2 (by omega) y4 y6
      | false =>
        dsimp only
        rw [if_neg Bool.false_ne_true]
        have hall : ∀ k, 0 ≤ k → k < m → key (gt p k) = key (gt p (m - 1)) := fun k _ hk =>
          KeyOrd.kle_antisymm (y4.1 k (m - 1) (by omega) (by omega)) (KeyOrd.kle_trans e (y4.1 0 k (by omega) hk))
        have rs := rev_same (key := key) (p := p) (i := 0) (j := m) (by omega) hall
        refine descPart_st hc (hp.rev 0 m) (by omega) (Nat.le_refl _) ⟨fun i j hij hj3 => ?_, fun i j hij hj3 _ => ?_, fun i j hi hj1 hj3 => ?_, fun i j k1 k2 k3 => by omega, (y6.rev hp (Nat.le_refl _) (by omega)).mono (by omega), fun i z1 z2 => by congr 2; omega⟩ hj2 h
        · rw [rs, rs]
          by_cases hjm : j < m
          · rw [hall i (by omega) (by omega), hall j (by omega) hjm]; exact KeyOrd.kle_refl _
          · have : j = m := by omega
            subst this
            by_cases hi : i = j
            · subst hi; exact KeyOrd.kle_refl _
            · rw [hall i (by omega) (by omega)]; exact KeyOrd.kle_of_klt hlt
        · rw [gt_rev (by omega), gt_rev (by omega), if_pos (by omega), if_pos (by omega)]
          refine y4.2 _ _ (by omega) (by omega) ?_
          rw [hall _ (by omega) (by omega), hall (0 + m - 1 - i) (by omega) (by omega)]
        · have : j = m := by omega
          subst this
          rw [rs, rs, hall i (by omega) (by omega)]
          exact hlt
    · rw [if_neg hg]
      have : m = 1 := by omega
      subst this
      refine descPart_st hc hp (by omega) (Nat.le_refl _) ⟨fun i j hij hj3 => ?_, fun i j hij hj3 _ => by omega, fun i j hi hj1 hj3 => ?_, fun i j k1 k2 k3 => by omega, y6.mono (by omega), fun i z1 z2 => by congr 2; omega⟩ y1 h
      · by_cases hi : i = j
        · subst hi; exact KeyOrd.kle_refl _
        · have hi0 : i = 0 := by omega
          have hj1 : j = 1 := by omega
          subst hi0 hj1
          exact KeyOrd.kle_of_klt hlt
      · have hi0 : i = 0 := by omega
        have hj1 : j = 1 := by omega
        subst hi0 hj1
        exact hlt
theorem bin_st (hc : Asks key n J cmp) {Q : Array Nat → Shared → Prop} : ∀ (f : Nat) (p : Array Nat) (k : Nat) (s : Shared), Pm n p → k + f = n → Ust key p k → Fx n p k → J s → (∀ p' s', J s' → Pm n p' → Ust key p' n → Q p' s') → (kas_bin f p k).kasWp cmp Q s
  | 0, p, k, s, hp, hk, hu, fx, hj, h => by
    have : k = n := by omega
    subst this
    exact h p s hj hp hu
  | f + 1, p, k, s, hp, hk, hu, fx, hj, h => by
    unfold kas_bin
    rw [KasT.kasWp_bind]
    have hsz := hp.size
    refine place_ok hc hp (by omega) hu.1 k 0 k s (by omega) (Nat.le_refl _) (by omega) (fun i z => by omega) (fun i z1 z2 => by omega) hj fun l s' hj' hl hlo hhi => ?_
    refine bin_st hc f (bubble p k (k - l)) (k + 1) s' (hp.bub _ _) (by omega) ⟨fun i j hij hj2 => ?_, fun i j hij hj2 e => ?_⟩ (fun x h1 h2 => ?_) hj' h
    · rw [gt_bub (by omega) (by omega), gt_bub (by omega) (by omega), show k - (k - l) = l by omega]
      repeat' split
      all_goals first
        | (exfalso; omega)
        | exact KeyOrd.kle_refl _
        | exact hlo _ (by omega)
        | exact KeyOrd.kle_of_klt (hhi _ (by omega) (by omega))
        | exact hu.1 _ _ (by omega) (by omega)
    · rw [gt_bub (by omega) (by omega), gt_bub (by omega) (by omega), show k - (k - l) = l by omega] at e ⊢
      have ek := fx k (Nat.le_refl _) (by omega)
      have low : ∀ x, x < k → gt p x < gt p k := fun x hx => by rw [ek]; exact fx.low hp (by omega) hx
      by_cases i1 : i = l
      · rw [if_pos i1] at e ⊢
        rw [if_neg (by omega), if_pos (by omega)] at e ⊢
        exact absurd e (klt_ne (hhi (j - 1) (by omega) (by omega)))
      · rw [if_neg i1] at e ⊢
        by_cases i2 : l < i
        · rw [if_pos (by omega), if_neg (by omega), if_pos (by omega)] at e ⊢
          exact hu.2 _ _ (by omega) (by omega) e
        · rw [if_neg (by omega)] at e ⊢
          by_cases j1 : j = l
          · rw [if_pos j1] at e ⊢
            exact low i (by omega)
          · rw [if_neg j1] at e ⊢
            by_cases j2 : l < j
            · rw [if_pos (by omega)] at e ⊢
              exact hu.2 _ _ (by omega) (by omega) e
            · rw [if_neg (by omega)] at e ⊢
              exact hu.2 _ _ hij (by omega) e
    · rw [gt_bub (by omega) (by omega), if_neg (by omega), if_neg (by omega)]
      exact fx x (by omega) h2
theorem sort_st (hc : Asks key n J cmp) {s : Shared} {Q : Array Nat → Shared → Prop} (h1 : 1 ≤ n) (hj : J s) (h : ∀ p s', J s' → Pm n p → Ust key p n → Q p s') : (kas_sort n).kasWp cmp Q s := by
  unfold kas_sort
  rw [KasT.kasWp_bind]
  have hp : Pm n (List.toArray (List.range n)) := by
    unfold Pm
    simp
  refine count_st hc hp h1 (fun k hk1 hk => ?_) hj fun m p' s' y1 y2 y3 y4 y5 y6 => ?_
  · unfold gt
    rw [Array.getD_eq_getD_getElem?, List.getElem?_toArray, List.getElem?_range hk]
    rfl
  dsimp only
  by_cases hm : m < n
  · rw [if_pos hm]
    refine bin_st hc (n - max m 1) p' (max m 1) s' y2 (by omega) ?_ ?_ y1 h
    · rw [show max m 1 = m by omega]
      exact y5
    · rw [show max m 1 = m by omega]
      exact y6
  · rw [if_neg hm]
    have : m = n := by omega
    subst this
    exact h p' s' y1 y2 y5
theorem sort_ok2 (hc : Asks key n J cmp) {s : Shared} {Q : Array Nat → Shared → Prop} (h1 : 1 ≤ n) (hj : J s) (h : ∀ p s', J s' → Pm n p → Up key p n → Q p s') : (kas_sort n).kasWp cmp Q s := sort_st hc h1 hj fun p s' a b u => h p s' a b u.1
end
end LS
set_option maxRecDepth 100000
namespace LO
noncomputable def eLe (l : List Nat) (i j : Nat) : Bool := decide (l.drop i ≤ l.drop j)
noncomputable def ord (l : List Nat) : List Nat := (List.range (l.length + 1)).mergeSort (eLe l)
theorem ord_perm (l : List Nat) : (ord l).Perm (List.range (l.length + 1)) := List.mergeSort_perm _ _
theorem ord_length (l : List Nat) : (ord l).length = l.length + 1 := by
  rw [(ord_perm l).length_eq, List.length_range]
theorem mem_ord {l : List Nat} {i : Nat} : i ∈ ord l ↔ i ≤ l.length := by
  rw [(ord_perm l).mem_iff, List.mem_range]
  omega
theorem ord_nodup (l : List Nat) : (ord l).Nodup := (ord_perm l).symm.nodup List.nodup_range
theorem ord_le (l : List Nat) : (ord l).Pairwise (fun i j => l.drop i ≤ l.drop j) := by
  have h := List.pairwise_mergeSort (le := eLe l) (fun a b c h1 h2 => by
    unfold eLe at *
    simp only [decide_eq_true_eq] at *
    exact List.le_trans h1 h2) (fun a b => by
    unfold eLe
    simp only [Bool.or_eq_true, decide_eq_true_eq]
    exact List.le_total _ _) (List.range (l.length + 1))
  refine h.imp fun h => ?_
  simpa [eLe] using h
theorem drop_inj {l : List Nat} {i j : Nat} (hi : i ≤ l.length) (hj : j ≤ l.length) (h : l.drop i = l.drop j) : i = j := by
  have := congrArg List.length h
  rw [List.length_drop, List.length_drop] at this
  omega
theorem drop_lt_of {l : List Nat} {i j : Nat} (hi : i ≤ l.length) (hj : j ≤ l.length) (hn : i ≠ j) (h : l.drop i ≤ l.drop j) : l.drop i < l.drop j := by
  rcases List.le_iff_lt_or_eq.mp h with h | h
  · exact h
  · exact absurd (drop_inj hi hj h) hn
theorem ord_lt (l : List Nat) : (ord l).Pairwise (fun i j => l.drop i < l.drop j) := by
  have h1 := ord_le l
  have h2 : (ord l).Pairwise (· ≠ ·) := ord_nodup l
  have h3 := h1.and h2
  refine List.Pairwise.imp_of_mem ?_ h3
  intro a b ha hb h
  exact drop_lt_of (mem_ord.mp ha) (mem_ord.mp hb) h.2 h.1
theorem count_before {α : Type} {lt : α → α → Bool} (irr : ∀ a, lt a a = false) (asym : ∀ a b, lt a b = true → lt b a = false) : ∀ {xs : List α}, xs.Pairwise (fun a b => lt a b = true) → ∀ {k : Nat} {x : α}, xs[k]? = some x → xs.countP (fun a => lt a x) = k
  | [], _, k, x, h => by simp at h
  | a :: r, hp, 0, x, h => by
    simp at h
    subst h
    rw [List.countP_cons, irr]
    have : r.countP (fun b => lt b a) = 0 := by
      rw [List.countP_eq_zero]
      intro b hb
      have := (List.pairwise_cons.mp hp).1 b hb
      rw [asym _ _ this]
      simp
    rw [this]
    simp
  | a :: r, hp, k + 1, x, h => by
    have hx : r[k]? = some x := by simpa using h
    have ih := count_before irr asym (List.pairwise_cons.mp hp).2 hx
    have : lt a x = true := (List.pairwise_cons.mp hp).1 x (List.mem_of_getElem? hx)
    rw [List.countP_cons, ih, this]
    simp
noncomputable def rank (l : List Nat) (j : Nat) : Nat := (List.range (l.length + 1)).countP (fun i => decide (l.drop i < l.drop j))
theorem rank_of {l : List Nat} {k j : Nat} (h : (ord l)[k]? = some j) : rank l j = k := by
  have hp : (ord l).Pairwise (fun a b => decide (l.drop a < l.drop b) = true) := (ord_lt l).imp fun h => decide_eq_true h
  have := count_before (lt := fun a b => decide (l.drop a < l.drop b)) (fun a => decide_eq_false (List.lt_irrefl _)) (fun a b h => by
    have h := of_decide_eq_true h
    exact decide_eq_false fun z => List.lt_irrefl _ (List.lt_trans h z)) hp h
  rw [← this]
  exact ((ord_perm l).countP_eq _).symm
theorem ord_rank {l : List Nat} {j : Nat} (hj : j ≤ l.length) : (ord l)[rank l j]? = some j := by
  obtain ⟨k, hk⟩ := List.getElem?_of_mem (mem_ord.mpr hj)
  rw [rank_of hk]
  exact hk
theorem rank_lt {l : List Nat} {j : Nat} (hj : j ≤ l.length) : rank l j < l.length + 1 := by
  have := (List.getElem?_eq_some_iff.mp (ord_rank hj)).1
  rw [ord_length] at this
  exact this
noncomputable def ahead (l : List Nat) (p : Nat) : Option Nat := if p = 0 then none else l[p - 1]?
noncomputable def letters (l : List Nat) : List Nat := (ord l).filterMap (ahead l)
noncomputable def home (l : List Nat) : Nat := rank l 0
noncomputable def lessP (c : Nat) : Option Nat → Bool
  | some d => decide (d < c)
  | none => false
noncomputable def less (rs : List (Option Nat)) (c : Nat) : Nat := rs.countP (lessP c)
noncomputable def before (rs : List (Option Nat)) (c k : Nat) : Nat := (rs.take k).countP (fun o => o == some c)
theorem countP_add {α : Type} (f g h : α → Bool) (xs : List α) (hh : ∀ x ∈ xs, (if h x then 1 else 0) = (if f x then 1 else 0) + (if g x then 1 else 0)) : xs.countP h = xs.countP f + xs.countP g := by
  induction xs with
  | nil => rfl
  | cons x r ih =>
    have h1 := hh x (List.mem_cons_self)
    have h2 := ih fun y hy => hh y (List.mem_cons_of_mem _ hy)
    rw [List.countP_cons, List.countP_cons, List.countP_cons, h2, h1]
    omega
end LO
set_option maxRecDepth 100000
namespace LO
abbrev Rs := List (Option Nat)
noncomputable def bk (rs : Rs) (k : Nat) : Option Nat := match rs[k]? with
  | some (some c) => some (1 + less rs c + before rs c k)
  | _ => none
noncomputable def lets (rs : Rs) : List Nat := rs.filterMap id
noncomputable def rd (rs : Rs) : Nat → Option Nat
  | 0 => some 0
  | k + 1 => (rd rs k).bind (bk rs)
noncomputable def Whole (rs : Rs) : Prop := ∃ r, rd rs ((lets rs).length) = some r
end LO
set_option maxRecDepth 100000
namespace LO
noncomputable def low (l t : List Nat) : Nat := (List.range (l.length + 1)).countP (fun i => decide (l.drop i < t))
noncomputable def hasAt (l t : List Nat) (i : Nat) : Bool := t.isPrefixOf (l.drop i)
noncomputable def many (l t : List Nat) : Nat := (List.range (l.length + 1)).countP (fun i => hasAt l t i)
noncomputable def upto (l t : List Nat) (i : Nat) : Bool := decide (l.drop i < t) || hasAt l t i
noncomputable def high (l t : List Nat) : Nat := low l t + many l t
theorem pre_not_lt : ∀ {t x : List Nat}, t.isPrefixOf x = true → ¬ x < t
  | [], x, _ => List.not_lt_nil _
  | c :: t, [], h => by simp at h
  | c :: t, d :: x, h => by
    simp only [List.isPrefixOf_cons₂, Bool.and_eq_true, beq_iff_eq] at h
    rw [List.cons_lt_cons_iff]
    rintro (z | ⟨_, z⟩)
    · omega
    · exact pre_not_lt h.2 z
theorem high_eq (l t : List Nat) : high l t = (List.range (l.length + 1)).countP (upto l t) := by
  unfold high low many
  refine (countP_add _ _ _ _ fun i _ => ?_).symm
  unfold upto
  cases e : hasAt l t i with
  | false => cases decide (l.drop i < t) <;> rfl
  | true =>
    have : ¬ l.drop i < t := pre_not_lt e
    simp [this]
theorem squeeze : ∀ {t x u : List Nat}, t ≤ x → x ≤ t ++ u → t.isPrefixOf x = true
  | [], x, u, _, _ => by simp
  | c :: t, [], u, h, _ => absurd (List.nil_lt_cons c t) (List.not_lt.mpr h)
  | c :: t, d :: x, u, h1, h2 => by
    rw [List.cons_append] at h2
    have a : ¬ (d :: x < c :: t) := List.not_lt.mpr h1
    have b : ¬ (c :: (t ++ u) < d :: x) := List.not_lt.mpr h2
    rw [List.cons_lt_cons_iff] at a b
    have e : c = d := by omega
    subst e
    simp only [List.isPrefixOf_cons₂, Bool.and_eq_true, beq_self_eq_true, true_and]
    exact squeeze (List.not_lt.mp fun z => a (.inr ⟨rfl, z⟩)) (List.not_lt.mp fun z => b (.inr ⟨rfl, z⟩))
theorem upto_down {l t : List Nat} {i j : Nat} (h : l.drop i ≤ l.drop j) (hj : upto l t j = true) : upto l t i = true := by
  unfold upto hasAt at *
  rw [Bool.or_eq_true, decide_eq_true_eq] at *
  by_cases hx : l.drop i < t
  · exact .inl hx
  · right
    rcases hj with hj | hj
    · exact absurd (List.lt_of_le_of_lt h hj) hx
    · obtain ⟨u, hu⟩ := List.isPrefixOf_iff_prefix.mp hj
      refine squeeze (u := u) (List.not_lt.mp hx) ?_
      rw [hu]
      exact h
theorem low_down {l t : List Nat} {i j : Nat} (h : l.drop i ≤ l.drop j) (hj : decide (l.drop j < t) = true) : decide (l.drop i < t) = true := decide_eq_true (List.lt_of_le_of_lt h (of_decide_eq_true hj))
theorem rank_in {l t : List Nat} {i : Nat} (hi : i ≤ l.length) : hasAt l t i = true ↔ low l t ≤ rank l i ∧ rank l i < high l t := by
  have key : ∀ {D : Nat → Bool}, (∀ i j, l.drop i ≤ l.drop j → D j = true → D i = true) → (D i = true ↔ rank l i < (List.range (l.length + 1)).countP D) := by
    intro D hd
    have hs : (ord l).Pairwise (fun a b => D b = true → D a = true) := (ord_le l).imp fun {i j} h => hd i j h
    have go : ∀ {xs : List Nat} {k x : Nat}, xs.Pairwise (fun a b => D b = true → D a = true) → xs[k]? = some x → (D x = true ↔ k < xs.countP D) := by
      intro xs
      induction xs with
      | nil => intro k x _ h; simp at h
      | cons a r ih =>
        intro k x hp h
        cases ea : D a with
        | true =>
          rw [List.countP_cons_of_pos ea]
          cases k with
          | zero => simp at h; subst h; simp [ea]
          | succ k =>
            have := ih (k := k) (x := x) (List.pairwise_cons.mp hp).2 (by simpa using h)
            rw [this, Nat.add_lt_add_iff_right]
        | false =>
          have z : r.countP D = 0 := by
            rw [List.countP_eq_zero]
            intro b hb hd
            have := (List.pairwise_cons.mp hp).1 b hb hd
            rw [ea] at this
            cases this
          rw [List.countP_cons_of_neg (by rw [ea]; simp), z]
          constructor
          · intro hx
            rcases List.mem_cons.mp (List.mem_of_getElem? h) with e | e
            · rw [e, ea] at hx; cases hx
            · have := (List.pairwise_cons.mp hp).1 x e hx
              rw [ea] at this; cases this
          · intro hx; omega
    have := go hs (ord_rank hi)
    rwa [(ord_perm l).countP_eq] at this
  have k1 := key (D := fun i => decide (l.drop i < t)) fun i j => low_down
  have k2 := key (D := upto l t) fun i j => upto_down
  rw [high_eq]
  have e1 : low l t = (List.range (l.length + 1)).countP (fun i => decide (l.drop i < t)) := rfl
  rw [e1]
  constructor
  · intro h
    have n : ¬ l.drop i < t := pre_not_lt h
    refine ⟨?_, k2.mp (by unfold upto; rw [h, Bool.or_true])⟩
    have : ¬ (decide (l.drop i < t) = true) := by simpa using n
    rw [k1] at this
    omega
  · rintro ⟨h1, h2⟩
    have a := k2.mpr h2
    have b : ¬ (decide (l.drop i < t) = true) := by rw [k1]; omega
    unfold upto at a
    rw [Bool.or_eq_true] at a
    exact a.resolve_left b
end LO
set_option maxRecDepth 100000
namespace L2
open PySem PySem.Spec PyProof.Rows
noncomputable def cxL (X : Cx) (A : Around) (env : Env) (N : List Str) (s : Shared) (H : Hp) : Cx :=
  { X with A := A.deeper env, N := N, s₀ := s, H₀ := H, env := env, outer := X.stack, stack := env :: X.stack, ex := [], fn := fun _ => false, pn := [], xe := fun _ _ => False }
noncomputable def lamS (v : V) (cp : List (Str × Nat)) (σ : St) : St := some v :: cp.map fun p => gS σ p.2
section
variable {X : Cx} {pins : List (Addr × Obj)} {σ : St} {H : Hp} {s : Shared} {scope : Scope} {cl : List (Str × Addr)} {cp : List (Str × Nat)} {A : Around} {env : Env} {x : Str} {v : V} {u : Value} {h1 : Heap}
theorem lam_start {tk : Nat} (I : Inv X pins σ H s) (hA : A.frames = some X.stack) (hh : A.handled = none) (hcl : closL scope.names X.env.cells [] = some cl) (hk : scope.kind = .function) (hnc : ∀ y ∈ scope.names, y.2 ≠ .cell) (hcp : CapOk X scope cp)
    (hx : scope.names.lookup x = some .local) (hnx : x ∉ cp.map (·.1)) (r : RelV v u) (e1 : env.scope = scope) (e2 : env.locals = s.heap.objs.size) (e3 : env.globals = mainGlobals) (e4 : env.cells = cl) (e5 : env.frame = some s.heap.objs.size) (e6 : env.builtins = builtinsNs)
    (hns : h1.Ns s.heap.objs.size (fun y => [(x, u)].reverse.lookup y)) (old : ∀ b o, s.heap.get? b = some o → h1.get? b = some o) :
    Inv (cxL X A env (x :: cp.map (·.1)) s H) [] (lamS v cp σ) H { s with heap := h1, toks := tk } := by
  have c1 := (closL_in scope.names [] hcl (fun x c h => by simp at h)).1
  have c2 := (closL_in scope.names [] hcl (fun x c h => by simp at h)).2
  obtain ⟨m, hm, hl⟩ := id I.loc
  have kOf : ∀ y, env.kindOf y = scope.names.lookup y := fun y => by unfold Env.kindOf; rw [e1]
  refine ⟨⟨I.ok.mod, ?_, e3, e6, ?_, ?_, ?_, fun y c z => absurd z (by simp [cxL]), fun _ => hh, ?_, .inr ⟨rfl, ?_⟩, fun b z => absurd (show b ∈ ([] : List Addr) from z) (by simp), I.bs, Nat.le_trans I.ok.bsz I.sz, fun b o _ z => absurd (show b ∈ ([] : List Addr) from z) (by simp), fun b z => absurd (show b ∈ ([] : List Addr) from z) (by simp), I.stack, I.stkFree⟩,
    rfl, I.bare, Un.kept old, ⟨fun y => [(x, u)].reverse.lookup y, ?_, fun i y w' q1 q2 q3 => ?_⟩, fun y c q => ?_, ?_, fun y c q => ?_, fun p hp => absurd (show p ∈ ([] : List (Addr × Obj)) from hp) (by simp), I.hok.kept old, ?_⟩
  · show env.scope.kind = .function
    rw [e1]; exact hk
  · show s.heap.objs.size ≤ env.locals
    rw [e2]; exact Nat.le_refl _
  · intro y z c h1 h2
    have h1 : env.cells.lookup y = some c := h1
    have h2 : env.cells.lookup z = some c := h2
    rw [e4] at h1 h2
    exact I.ok.inj y z c (c1 y c h1) (c1 z c h2)
  · intro y hy
    show ∃ c, env.cells.lookup y = some c
    rw [e4]
    have hy : env.kindOf y = some .cell ∨ env.kindOf y = some .free := hy
    rw [kOf] at hy
    rcases hy with z | z
    · exact absurd rfl (hnc _ (PySem.mem_of_lookup z))
    · exact c2 y (.inr z)
  · exact Around.frames_deeper hA
  · show env.frame = some env.locals
    rw [e5, e2]
  · show h1.Ns env.locals _
    rw [e2]; exact hns
  · have q1 : (x :: cp.map (·.1))[i]? = some y := q1
    unfold lamS at q2
    cases i with
    | zero =>
      cases q1
      cases (show some v = some w' from by simpa using q2)
      exact ⟨u, r, .inl ⟨by show env.kindOf x = _; rw [kOf]; exact hx, by simp⟩⟩
    | succ i =>
      have q1 : (cp.map (·.1))[i]? = some y := by simpa using q1
      have q2 : (cp.map fun p => gS σ p.2)[i]? = some (some w') := by simpa using q2
      rw [List.getElem?_map] at q1 q2
      cases q : cp[i]? with
      | none => rw [q] at q1; cases q1
      | some p =>
        rw [q] at q1 q2
        obtain ⟨y', j⟩ := p
        cases Option.some.inj q1
        obtain ⟨g1, g2, g3⟩ := hcp.get q
        have e4' : gS σ j = some w' := Option.some.inj q2
        obtain ⟨u', r', lk⟩ := hl j y' w' g1 (gS_get e4') (.inr (.inl g2))
        refine ⟨u', r', .inr ⟨.inr (by show env.kindOf y' = _; rw [kOf]; exact g3), ?_⟩⟩
        rcases lk with ⟨z, _⟩ | ⟨_, c, z, zc⟩
        · have z' : X.env.scope.names.lookup y' = some .local := z
          rw [g2] at z'
          cases z'
        · obtain ⟨d, hd⟩ := c2 y' (.inr g3)
          have hd' := c1 y' d hd
          rw [z] at hd'
          cases Option.some.inj hd'
          obtain ⟨o, ho, hdt⟩ := zc
          exact ⟨c, by show env.cells.lookup y' = _; rw [e4]; exact hd, o, old _ _ ho, hdt⟩
  · have q : env.cells.lookup y = some c := q
    rw [e4] at q
    obtain ⟨w', o, ho, hd⟩ := I.cell y c (c1 y c q)
    exact ⟨w', o, old _ _ ho, hd⟩
  · show H env.locals = none
    rw [e2]; exact I.hok.fresh (Nat.le_refl _)
  · have q : env.cells.lookup y = some c := q
    rw [e4] at q
    exact I.freeC y c (c1 y c q)
  · show (lamS v cp σ).length = (x :: cp.map (·.1)).length
    unfold lamS
    simp
theorem lam_call {name qual : Str} {params : Arguments} {body : Expr} {pm ctv : Value} {c' f : Addr} {te : TE} {Q : VK} (I : Inv X pins σ H s) (hA : A.frames = some X.stack) (hh : A.handled = none) (hd : A.depth < recursionLimit)
    (hcl : closL scope.names X.env.cells [] = some cl) (hk : scope.kind = .function) (hnc : ∀ y ∈ scope.names, y.2 ≠ .cell) (hcp : CapOk X scope cp) (hx : scope.names.lookup x = some .local) (hnx : x ∉ cp.map (·.1)) (hco : scope.isCoroutine = false) (hgen : scope.isGenerator = false)
    (ho : s.heap.get? f = some (PySem.W.kla_obj name qual params body scope cl pm c' ctv)) (hcd : s.heap.CodeRec (.ref c') qual)
    (hb : ∀ u : Value, bindArgs (PySem.W.kla_fn name qual params body scope cl pm (.ref c') ctv) ⟨[u], []⟩ = pure [(x, u)]) (r : RelV v u)
    (he : ∀ A L f c' s H, PE (cxL X A (newEnv scope L mainGlobals cl (qual ++ ".<locals>.") (some f) (.ref c') none builtinsNs) (x :: cp.map (·.1)) s H) body te) (h : te (lamS v cp σ) H Q) :
    wpAny (model X.prog X.w) A (call (.ref f) [u]) (EP X pins σ Q) (fun _ _ => False) s := by
  refine wpAny_call (PySem.W.kla_callFunE hd ho rfl hco hgen rfl hcd ?_)
  rw [hb u]
  refine wpAny_pure (wpAny_newFunctionEnv hnc (fun y hy => ?_) (fun h1 hns hsb => ?_) hk)
  · cases List.mem_singleton.mp hy
    exact hx
  · have old : ∀ b o, s.heap.get? b = some o → h1.get? b = some o := fun b o e => (hsb.2 b (Nat.ne_of_lt (Heap.lt_size e))).trans (Heap.get?_push_of_some _ e)
    refine ⟨I.nolimit.keeps old, PySem.W.kla_codeExpr ?_⟩
    generalize hE : newEnv scope s.heap.objs.size mainGlobals cl (qual ++ ".<locals>.") (some f) (.ref c') none builtinsNs = env
    have e1 : env.scope = scope := by rw [← hE]; rfl
    have e4 : env.cells = cl := by rw [← hE]; rfl
    have J : Inv (cxL X A env (x :: cp.map (·.1)) s H) [] (lamS v cp σ) H { s with heap := h1, toks := s.toks + [(x, u)].length } :=
      lam_start I hA hh hcl hk hnc hcp hx hnx r e1 (by rw [← hE]; rfl) (by rw [← hE]; rfl) e4 (by rw [← hE]; rfl) (by rw [← hE]; rfl) hns old
    refine wpAny_mono ((hE ▸ he A s.heap.objs.size f c' s H : PE (cxL X A env (x :: cp.map (·.1)) s H) body te) [] _ _ H Q J h) (fun w' s' ⟨y, H', J', ry, q⟩ => ?_) fun _ _ z => False.elim z
    exact I.after ⟨y, H', J'.os, J'.bare, J'.base, J'.hok, ry, q⟩
end
end L2
namespace L2
open PySem PySem.Spec PyProof.Rows
noncomputable def CodeO (c : Addr) (q : Str) : HO := .ext fun h => h.CodeRec (.ref c) q
theorem codeO_ok {P : Program} {w : World} {H : Hp} {h : Heap} {c : Addr} {q : Str} (x : h.CodeRec (.ref c) q) : ObjOk P w H h c (CodeO c q) := by
  obtain ⟨c2, o, vs, t, e, ho, hd, hv⟩ := id x
  cases e
  refine ⟨x, ⟨o, ho⟩, fun h1 h2 z k => ?_⟩
  obtain ⟨c3, o', vs', t', e, a, b, d⟩ := z
  cases e
  exact ⟨_, o', vs', t', rfl, k o' a, b, d⟩
noncomputable def Bk (P : Addr) (pos : Pos) (q : Str) (H : Hp) : Prop := H P = some (.tbl #[]) ∨ ∃ c', H P = some (.tbl #[rawInt pos.line, rawInt pos.col, .ref c']) ∧ H c' = some (CodeO c' q)
noncomputable def SameN (H H' : Hp) : Prop := ∀ b o, H b = some o → H' b ≠ none ∧ ((∀ ps, o ≠ .tbl ps) → H' b = some o)
theorem SameN.at {H H' : Hp} (a : SameN H H') {b : Addr} {o : HO} (h : H b = some o) (n : ∀ ps, o ≠ .tbl ps) : H' b = some o := (a b o h).2 n
theorem SameN.free {H H' : Hp} (a : SameN H H') {b : Addr} (h : H' b = none) : H b = none := by
  cases q : H b with
  | none => rfl
  | some o => exact absurd h (a b o q).1
theorem SameN.refl (H : Hp) : SameN H H := fun _ _ h => ⟨by rw [h]; simp, fun _ => h⟩
theorem SameN.trans {H H1 H2 : Hp} (a : SameN H H1) (b : SameN H1 H2) : SameN H H2 := fun c o h => ⟨fun z => (a c o h).1 (b.free z), fun n => b.at ((a c o h).2 n) n⟩
theorem Same.toN {H H' : Hp} (a : Same H H') : SameN H H' := fun c o h => ⟨by rw [a c o h]; simp, fun _ => a c o h⟩
theorem SameN.upd {H H' : Hp} {a : Addr} {o : HO} (e : SameN H H') (n : H' a = none) : SameN H (L2.upd H' a o) := fun b u q => by
  have hb : b ≠ a := by
    rintro rfl
    exact (e b u q).1 n
  rw [upd_ne hb]
  exact e b u q
theorem SameN.seq {K : PySem.W.Frag} {H H' : Hp} {a : Addr} {xs : List V} (e : SameN H H') (h : SqL K H a xs) : SqL K H' a xs := by
  rcases h with (h | ⟨o, h⟩) | h
  · exact .inl (.inl (e.at h (by intro ps z; cases z)))
  · exact .inl (.inr ⟨o, e.at h (by intro ps z; cases z)⟩)
  · exact .inr h
theorem Bk.put {P : Addr} {pos : Pos} {q : Str} {H : Hp} {a : Addr} {o : HO} (h : Bk P pos q H) (n : H a = none) : Bk P pos q (L2.upd H a o) := by
  rcases h with h | ⟨c', h, g⟩
  · exact .inl (by rw [upd_ne (ne_of_none h n)]; exact h)
  · exact .inr ⟨c', by rw [upd_ne (ne_of_none h n)]; exact h, by rw [upd_ne (ne_of_none g n)]; exact g⟩
noncomputable def SameE (P : Addr) (H H' : Hp) : Prop := ∀ b o, b ≠ P → H b = some o → H' b = some o
theorem SameE.refl (P : Addr) (H : Hp) : SameE P H H := fun _ _ _ h => h
theorem SameE.trans {P : Addr} {H H1 H2 : Hp} (a : SameE P H H1) (b : SameE P H1 H2) : SameE P H H2 := fun c o n h => b c o n (a c o n h)
theorem SameE.upd {P : Addr} {H H' : Hp} {a : Addr} {o : HO} (e : SameE P H H') (n : H' a = none) : SameE P H (L2.upd H' a o) := fun b u nb q => by
  have q' := e b u nb q
  rw [upd_ne (ne_of_none q' n)]
  exact q'
theorem Bk.isTbl {P : Addr} {pos : Pos} {q : Str} {H : Hp} (h : Bk P pos q H) : ∃ ps, H P = some (.tbl ps) := by
  rcases h with h | ⟨c', h, _⟩
  · exact ⟨_, h⟩
  · exact ⟨_, h⟩
theorem Bk.keep {P P2 : Addr} {pos pos2 : Pos} {q q2 : Str} {H H' : Hp} (b2 : Bk P2 pos2 q2 H) (b1 : Bk P pos q H) (ne : P2 ≠ P) (se : SameE P H H') : Bk P2 pos2 q2 H' := by
  obtain ⟨ps, hP⟩ := b1.isTbl
  rcases b2 with h | ⟨c', h, g⟩
  · exact .inl (se _ _ ne h)
  · exact .inr ⟨c', se _ _ ne h, se _ _ (ne_of g hP (by intro z; cases z)) g⟩
structure LamAt (X : Cx) (c P : Addr) : Prop where
  code : X.env.code = .ref c
  hd : PySem.W.CodeHd X.base c P
  bm : ∃ bm ob, X.mg "__builtins__" = some (.ref bm) ∧ bm ≠ builtinsNs ∧ X.base.get? bm = some ob ∧ ob.cls = .type "module" ∧ ob.dict = some builtinsNs ∧ ob.data = .plain
section
variable {X : Cx} {pins : List (Addr × Obj)} {σ : St} {H : Hp} {s : Shared} {scope : Scope} {cl : List (Str × Addr)} {A : Around} {c P : Addr} {params : Arguments} {body : Expr} {pos : Pos} {q : Str} {M : Model} {E : Value → Shared → Prop} {Q : Value → Shared → Prop}
theorem lam_bt (I : Inv X pins σ H s) (L : LamAt X c P) {o : HO} (hP : H P = some o) : s.heap.BuiltinsAt X.mg P ∧ mainGlobals ≠ P := by
  obtain ⟨bm, ob, b1, b2, b3, b4, b5, b6⟩ := L.bm
  have hb := I.bs bm ob b3
  obtain ⟨og, es, ep, g1, g2, _⟩ := id I.mod.glob
  have hg := I.bs mainGlobals og g1
  refine ⟨⟨bm, ob, b1, b2, ?_, ?_, hb.1, b4, b5, b6⟩, ?_⟩
  · rintro rfl
    rw [g1] at b3
    cases b3
    rw [g2] at b6
    cases b6
  · rintro rfl
    rw [hb.2] at hP
    cases hP
  · intro z
    rw [← z, hg.2] at hP
    cases hP
theorem lam_make (I : Inv X pins σ H s) (L : LamAt X c P) (hcl : closL scope.names X.env.cells [] = some cl) (hdef : defaultsOf params X.env = ([], [])) (bk : Bk P pos q H) (hq : X.env.qual ++ "<lambda>" = q)
    (hQ : ∀ f c' pm ctv H' s', Inv X (pins ++ [(f, PySem.W.kla_obj "<lambda>" q params body scope cl pm c' ctv)]) σ H' s' → H' c' = some (CodeO c' q) → Bk P pos q H' → SameN H H' → SameE P H H' → Q (.ref f) s') :
    wpAny M A (eval (.Lambda params body scope pos) X.env) Q E s := by
  refine PySem.W.kla_eval hdef ?_
  rw [hq]
  have hg : s.heap.Ns mainGlobals X.mg := I.mod.glob.keeps I.bk
  have C : PySem.W.CodeHd s.heap c P := L.hd.keeps I.bk
  rcases bk with hP | ⟨c', hP, hc'⟩
  · have hPo : s.heap.get? P = some (PySem.W.tabObj #[]) := I.hok P _ hP
    obtain ⟨hb, hgP⟩ := lam_bt I L hP
    refine PySem.W.kla_makeFunction (mg := X.mg) (closureFor_L hcl) I.ok.glob hg L.code C hPo trivial rfl hgP hb fun c' ctv h' tk hx hge hlt hrec htb => ?_
    have hnc : H c' = none := I.hok.fresh hge
    have hPc : P ≠ c' := ne_of_none hP hnc
    have nP : ∀ b, H b = none → b ≠ P := fun b n z => by rw [z, hP] at n; cases n
    have old : ∀ b o, b ≠ P → s.heap.get? b = some o → (h'.push (PySem.W.kla_obj "<lambda>" q params body scope cl ((X.mg "__name__").getD .none) c' ctv)).get? b = some o := fun b o hb e => Heap.get?_push_of_some _ (hx b o hb e)
    have htb' : (h'.push (PySem.W.kla_obj "<lambda>" q params body scope cl ((X.mg "__name__").getD .none) c' ctv)).get? P = some (PySem.W.tabObj #[rawInt pos.line, rawInt pos.col, .ref c']) := Heap.get?_push_of_some _ (by simpa using htb)
    have I1 : Inv X pins σ (upd (upd H P (.tbl #[rawInt pos.line, rawInt pos.col, .ref c'])) c' (CodeO c' q)) { s with heap := h'.push (PySem.W.kla_obj "<lambda>" q params body scope cl ((X.mg "__name__").getD .none) c' ctv), toks := tk } := by
      have other : ∀ b, b ≠ P → b ≠ c' → upd (upd H P (.tbl #[rawInt pos.line, rawInt pos.col, .ref c'])) c' (CodeO c' q) b = H b := fun b h1 h2 => by rw [upd_ne h2, upd_ne h1]
      refine I.un ⟨fun b o e n _ _ => old b o (nP b n) e, fun b o e n _ _ => ⟨o.slots, old b o (nP b n) e⟩, fun b o e n _ => ?_, fun b o e _ => ?_, fun b xs e => ?_, fun b o u e => ?_, fun b ps e => ?_⟩ fun b o e => ?_
      · rw [other b (nP b n) (Nat.ne_of_lt (Nat.lt_of_lt_of_le (Heap.lt_size e) hge))]
        exact n
      · by_cases hb : b = P
        · subst hb; exact ⟨_, htb'⟩
        · exact ⟨o, old b o hb e⟩
      · rw [other b (ne_of e hP (by intro z; cases z)) (ne_of_none e hnc)]
        exact e
      · rw [other b (ne_of e hP (by intro z; cases z)) (ne_of_none e hnc)]
        exact e
      · by_cases hb : b = P
        · subst hb
          rw [hP] at e
          cases e
          exact ⟨#[rawInt pos.line, rawInt pos.col, .ref c'], by rw [upd_ne hPc, upd_same]; simp⟩
        · exact ⟨#[], by rw [other b hb (ne_of_none e hnc), e]; simp⟩
      · by_cases hb : b = c'
        · subst hb
          rw [upd_same] at e
          cases e
          exact codeO_ok (hrec.push _)
        · rw [upd_ne hb] at e
          by_cases hb2 : b = P
          · subst hb2
            rw [upd_same] at e
            cases e
            exact htb'
          · rw [upd_ne hb2] at e
            refine (I.hok b o e).stay (fun d u hd z => old d u ?_ z) (fun d z => ?_) fun d xs z => ?_
            · rcases hd with rfl | hd
              · exact hb2
              · exact ne_of hd hP (by intro z; cases z)
            · rw [other d (ne_of z hP (by intro z; cases z)) (ne_of_none z hnc)]
              exact z
            · rw [other d (ne_of z hP (by intro z; cases z)) (ne_of_none z hnc)]
              exact z
    have hsz : s.heap.objs.size ≤ h'.objs.size := Nat.le_of_lt (Nat.lt_of_le_of_lt hge hlt)
    refine hQ h'.objs.size c' ((X.mg "__name__").getD .none) ctv _ _ (I1.pins_of fun p hp => ?_) upd_same (.inr ⟨c', by rw [upd_ne hPc, upd_same], upd_same⟩) (fun b o e => ?_) fun b o hb e => by rw [upd_ne (ne_of_none e hnc), upd_ne hb]; exact e
    · rcases List.mem_append.mp hp with hp | hp
      · exact I1.pin p (List.mem_append_right _ hp)
      · cases List.mem_singleton.mp hp
        refine ⟨Heap.get?_push_size _ rfl, ?_, Nat.ne_of_gt (Nat.lt_of_lt_of_le I.lt hsz), I.nofs hsz, fun v z => by cases z⟩
        show upd (upd H P _) c' _ h'.objs.size = none
        rw [upd_ne (Nat.ne_of_gt hlt), upd_ne fun z => ?_]
        · exact I.hok.fresh hsz
        · have := Heap.lt_size hPo
          rw [← z] at this
          exact absurd (Nat.lt_of_lt_of_le this hsz) (Nat.lt_irrefl _)
    · rw [upd_ne (ne_of_none e hnc)]
      by_cases hb : b = P
      · subst hb
        rw [hP] at e
        cases e
        rw [upd_same]
        exact ⟨by simp, fun nt => absurd rfl (nt _)⟩
      · rw [upd_ne hb, e]
        exact ⟨by simp, fun _ => rfl⟩
  · have hPo : s.heap.get? P = some (PySem.W.tabObj #[rawInt pos.line, rawInt pos.col, .ref c']) := I.hok P _ hP
    obtain ⟨hb, hgP⟩ := lam_bt I L hP
    refine PySem.W.kla_makeFunctionHit (cv := .ref c') (mg := X.mg) (closureFor_L hcl) I.ok.glob hg L.code C hPo trivial ?_ hb fun ctv h' tk hk hsz => ?_
    · show (if _ then _ else _) = _
      rw [if_pos (by simp)]
    · have I1 : Inv X pins σ H { s with heap := h'.push (PySem.W.kla_obj "<lambda>" q params body scope cl ((X.mg "__name__").getD .none) c' ctv), toks := tk } := I.kept fun b o e => Heap.get?_push_of_some _ (hk b o e)
      refine hQ h'.objs.size c' ((X.mg "__name__").getD .none) ctv H _ (I1.pins_of fun p hp => ?_) hc' (.inr ⟨c', hP, hc'⟩) (SameN.refl _) (SameE.refl _ _)
      rcases List.mem_append.mp hp with hp | hp
      · exact I1.pin p (List.mem_append_right _ hp)
      · cases List.mem_singleton.mp hp
        exact ⟨Heap.get?_push_size _ rfl, I.hok.fresh hsz, Nat.ne_of_gt (Nat.lt_of_lt_of_le I.lt hsz), I.nofs hsz, fun v z => by cases z⟩
end
end L2
set_option maxRecDepth 100000
namespace L2
open PySem PySem.Spec PyProof.Rows
section
variable {X : Cx} {pins : List (Addr × Obj)} {σ : St} {H : Hp} {s : Shared}
structure Own (X : Cx) (pins : List (Addr × Obj)) (H : Hp) (D : Addr) : Prop where
  old : X.s₀.heap.objs.size ≤ D
  free : H D = none
  nl : D ≠ X.env.locals
  np : ∀ p ∈ X.pn ++ pins, p.1 ≠ D
theorem Own.fresh (I : Inv X pins σ H s) {D : Addr} (h : s.heap.objs.size ≤ D) : Own X pins H D :=
  ⟨Nat.le_trans I.sz h, I.hok.fresh h, Nat.ne_of_gt (Nat.lt_of_lt_of_le I.lt h), fun p hp z => absurd (Nat.lt_of_lt_of_le (Heap.lt_size (I.pin p hp).1) h) (by rw [z]; exact Nat.lt_irrefl _)⟩
theorem Own.more {D a : Addr} {o : Obj} (W : Own X pins H D) (h : a ≠ D) : Own X (pins ++ [(a, o)]) H D :=
  ⟨W.old, W.free, W.nl, fun p hp => by
    rcases List.mem_append.mp hp with q | q
    · exact W.np p (List.mem_append_left _ q)
    · rcases List.mem_append.mp q with q | q
      · exact W.np p (List.mem_append_right _ q)
      · cases List.mem_singleton.mp q
        exact h⟩
theorem Inv.cellne (I : Inv X pins σ H s) {D : Addr} {o : Obj} (ho : s.heap.get? D = some o) (hd : ∀ v, o.data ≠ .cell v) : ∀ x c, X.env.cells.lookup x = some c → c ≠ D := fun x c e z => by
  obtain ⟨v, o', ho', hd'⟩ := I.cell x c e
  rw [z, ho] at ho'
  cases ho'
  exact hd v hd'
theorem Inv.alter (I : Inv X pins σ H s) {D : Addr} {o : Obj} {h' : Heap} (W : Own X pins H D) (ho : s.heap.get? D = some o) (hd : ∀ v, o.data ≠ .cell v) (k : ∀ b u, b ≠ D → s.heap.get? b = some u → h'.get? b = some u) : Inv X pins σ H { s with heap := h' } :=
  I.turned (t' := s.toks) k W.free W.nl (.inr W.old) (I.cellne ho hd) W.np
theorem Inv.ownfs (I : Inv X pins σ H s) {D : Addr} (W : Own X pins H D) : D ∉ X.fs := fun hb => by
  obtain ⟨_, o, ho, _⟩ := I.ok.funs.mem hb
  exact absurd (Nat.lt_of_lt_of_le (Heap.lt_size ho) W.old) (Nat.lt_irrefl _)
theorem Inv.pin1 (I : Inv X pins σ H s) {D : Addr} {o : Obj} (W : Own X pins H D) (ho : s.heap.get? D = some o) (hd : ∀ v, o.data ≠ .cell v) : Inv X (pins ++ [(D, o)]) σ H s := I.pins_of fun p hp => by
  rcases List.mem_append.mp hp with q | q
  · exact I.pin p (List.mem_append_right _ q)
  · cases List.mem_singleton.mp q
    exact ⟨ho, W.free, W.nl, I.ownfs W, hd⟩
theorem Inv.unpin {ps : List (Addr × Obj)} (I : Inv X (pins ++ ps) σ H s) : Inv X pins σ H s := I.pins_of fun p hp => I.pin p (List.mem_append_right _ (List.mem_append_left _ hp))
theorem Inv.track (I : Inv X pins σ H s) {D : Addr} {o : HO} (W : Own X pins H D) (hc : ∀ x c, X.env.cells.lookup x = some c → c ≠ D) (new : ObjOk X.prog X.w (upd H D o) s.heap D o) : Inv X pins σ (upd H D o) s := by
  have ne : ∀ b u, H b = some u → b ≠ D := fun b u e => ne_of_none e W.free
  refine ⟨I.ok, I.os, I.bare, ⟨I.base.keep, I.base.slot, fun b u e n hx => ?_, I.base.there, fun b xs e => ?_, fun b u v e => ?_, fun b ps e => ?_⟩, I.loc, I.cell, ?_, fun x c e => ?_, fun p hp => ?_, fun b u e => ?_, I.len⟩
  · rw [upd_ne (Nat.ne_of_lt (Nat.lt_of_lt_of_le (Heap.lt_size e) W.old))]
    exact I.base.free b u e n hx
  · have := I.base.tups b xs e
    rw [upd_ne (ne b _ this)]
    exact this
  · have := I.base.frzs b u v e
    rw [upd_ne (ne b _ this)]
    exact this
  · obtain ⟨m, z⟩ := I.base.tbls b ps e
    exact ⟨m, by rw [upd_ne (ne b _ z)]; exact z⟩
  · rw [upd_ne (Ne.symm W.nl)]
    exact I.free
  · rw [upd_ne (hc x c e)]
    exact I.freeC x c e
  · obtain ⟨a1, a2, a3⟩ := I.pin p hp
    exact ⟨a1, by rw [upd_ne (W.np p hp)]; exact a2, a3⟩
  · by_cases hb : b = D
    · subst hb
      rw [upd_same] at e
      cases e
      exact new
    · rw [upd_ne hb] at e
      refine (I.hok b u e).stay (fun _ _ _ z => z) (fun d z => ?_) fun d xs z => ?_
      · rw [upd_ne (ne d _ z)]; exact z
      · rw [upd_ne (ne d _ z)]; exact z
theorem rest_ok {A : Around} {E : Value → Shared → Prop} {P : PySem.Fin → Shared → Prop} {f : Value} {a kS : Addr} {e1 : Nat} {vs : List Value} {xs kV : List V} (rv : Vals xs vs) (hl : kV.length = vs.length) (hz : vs.length ≤ 100000) (I : Inv X pins σ H s) (Wa : Own X pins H a)
    (ha : s.heap.get? a = some (seqObj "list" #[] e1)) (Wk : Own X (pins ++ [(a, seqObj "list" #[] e1)]) H kS) (hk : s.heap.get? kS = some (seqObj "list" #[] 0))
    (hcall : ∀ ps s' (i : Nat) (x : V) (k : V) (u : Value), Inv X (pins ++ ps) σ H s' → xs[i]? = some x → kV[i]? = some k → RelV x u → wpAny (model X.prog X.w) A (call f [u]) (EP X (pins ++ ps) σ fun y H' => H' = H ∧ y = k) (fun _ _ => False) s')
    (h : ∀ s' ks e, Inv X (pins ++ [(a, seqObj "list" #[] e1)]) σ H s' → s'.heap.get? kS = some (seqObj "list" (List.toArray ks) e) → Vals kV ks → wpAny (model X.prog X.w) A (ksk_end a false vs.toArray e1 (.ref kS) (List.toArray ks)) P E s') :
    wpAny (model X.prog X.w) A (ksk_rest a f false vs.toArray e1 (.ref kS)) P E s := by
  unfold ksk_rest
  refine wpAny_bind (wpAny_rule ?_)
  first
    | rw [List.forIn_toArray]
    | rw [← Array.forIn_toList]
  have hsl : sizeLine = 16777216 := sizeLine_eq
  refine wpAny_bind (ksk_fold (fun i s' => ∃ ks e, Inv X (pins ++ [(a, seqObj "list" #[] e1)]) σ H s' ∧ s'.heap.get? kS = some (seqObj "list" (List.toArray ks) e) ∧ Vals (kV.take i) ks) vs 0 s ⟨[], 0, I.pin1 Wa ha (fun v z => by cases z), hk, .nil⟩ (fun j u s' hu hI => ?_) fun s' hI => ?_)
  · obtain ⟨ks, e, I1, hk1, rk⟩ := hI
    rw [Nat.zero_add] at rk ⊢
    have hj : j < vs.length := (List.getElem?_eq_some_iff.mp hu).1
    obtain ⟨x, hx, rx⟩ : ∃ x, xs[j]? = some x ∧ RelV x u := by
      have hxl : j < xs.length := by rw [rv.length]; exact hj
      have e1 : xs[j]? = some xs[j] := List.getElem?_eq_getElem hxl
      obtain ⟨u', hu', r'⟩ := rv.get e1
      rw [hu] at hu'
      cases hu'
      exact ⟨_, e1, r'⟩
    have hkj : kV[j]? = some (kV[j]'(by omega)) := List.getElem?_eq_getElem (by omega)
    have I2 : Inv X (pins ++ ([(a, seqObj "list" #[] e1)] ++ [(kS, seqObj "list" (List.toArray ks) e)])) σ H s' := by
      rw [← List.append_assoc]
      exact I1.pin1 Wk hk1 (fun v z => by cases z)
    refine wpAny_bind (wpAny_attempt (wpAny_mono (hcall _ s' j x _ u I2 hx hkj rx) (fun y s2 ⟨yv, H2, I3, ry, eH, ey⟩ => ?_) fun _ _ z => z.elim))
    subst eH ey
    have hk3 := (I3.pin (kS, seqObj "list" (List.toArray ks) e) (List.mem_append_right _ (List.mem_append_right _ (List.mem_append_right _ (List.mem_singleton.mpr rfl))))).1
    have I4 : Inv X (pins ++ [(a, seqObj "list" #[] e1)]) σ H2 s2 := by
      rw [← List.append_assoc] at I3
      exact I3.unpin
    have lk := rk.length
    rw [List.length_take] at lk
    have hsb := Heap.SameBut.update s2.heap kS (Obj.mapSeq (·.push y))
    obtain ⟨c2, hg⟩ : ∃ c2, (s2.heap.update kS (Obj.mapSeq (·.push y))).get? kS = some (seqObj "list" (List.toArray (ks ++ [y])) c2) := by
      have : (List.toArray ks).push y = List.toArray (ks ++ [y]) := by simp
      rw [← this]
      exact ⟨_, get?_update_seq hk3 (·.push y)⟩
    dsimp only
    refine wpAny_bind (listUpdate_at hk3 rfl ?_ (by rw [List.size_toArray]; omega) (by rw [Array.size_push, List.size_toArray]; omega))
    refine wpAny_pure ⟨rfl, ks ++ [y], c2, I4.alter Wk hk3 (fun v z => by cases z) (fun b u hb z => (hsb.2 b hb).trans z), hg, ?_⟩
    rw [List.take_succ, hkj]
    exact rk.append (.cons ry .nil)
  · obtain ⟨ks, e, I1, hk1, rk⟩ := hI
    rw [Nat.zero_add, ← hl, List.take_length] at rk
    refine wpAny_bind (listItems_at hk1 rfl ?_)
    exact h s' ks e I1 hk1 rk
theorem end_ok {A : Around} {E : Value → Shared → Prop} {P : PySem.Fin → Shared → Prop} {a kS : Addr} {e e1 : Nat} {vs ks : List Value} {xs : List V} {κ : SortKind} {O : KeyOrd} {key : Nat → O.α} (rv : Vals xs vs) (hl : ks.length = vs.length) (h64 : vs.length < 64)
    (I : Inv X (pins ++ [(a, seqObj "list" #[] e1)]) σ H s) (Wa : Own X pins H a) (Wk : Own X (pins ++ [(a, seqObj "list" #[] e1)]) H kS) (hk : s.heap.get? kS = some (seqObj "list" (List.toArray ks) e))
    (hkind : 2 ≤ vs.length → ∀ Q : SortKind → Shared → Prop, Q κ s → wpAny (model X.prog X.w) A (keyKind' (List.toArray ks)) Q E s)
    (hask : LS.Asks key vs.length (fun s' => s' = s) (PySem.W.kas_ask X.prog X.w A κ ks))
    (h : ∀ (p : Array Nat) s', LS.Pm vs.length p → LS.Ust key p vs.length → Inv X pins σ (upd H a (.lst (p.toList.map fun i => xs.getD i .non))) s' → P (.done (.ret .none)) s') :
    wpAny (model X.prog X.w) A (ksk_end a false vs.toArray e1 (.ref kS) (List.toArray ks)) P E s := by
  have hsl : sizeLine = 16777216 := sizeLine_eq
  have ha := (I.pin (a, seqObj "list" #[] e1) (List.mem_append_right _ (List.mem_append_right _ (List.mem_singleton.mpr rfl)))).1
  have hka : kS ≠ a := fun z => Wk.np (a, seqObj "list" #[] e1) (List.mem_append_right _ (List.mem_append_right _ (List.mem_singleton.mpr rfl))) z.symm
  have lv := rv.length
  -- the last steps
  have tail : ∀ (st : SortSt) (p : Array Nat), LS.Pm vs.length p → LS.Ust key p vs.length → arrOf st = p.map (PySem.W.kas_item (ks.toArray.zip vs.toArray)) → failedOf st = none → wpAny (model X.prog X.w) A (ksk_tail a false e1 (.ref kS) st) P E s := by
    intro st p hp hu har hf
    have hout := PySem.W.kat_snds hl har
    have hps := hp.size
    unfold ksk_tail
    dsimp only
    rw [hout]
    have hs1 := Heap.SameBut.update s.heap kS (Obj.mapSeq fun _ => (#[] : Array Value))
    have ha1 := (hs1.2 a hka.symm).trans ha
    have hs2 := Heap.SameBut.update (s.heap.update kS (Obj.mapSeq fun _ => (#[] : Array Value))) a (Obj.mapSeq fun _ => List.toArray (p.toList.map fun i => vs.getD i Value.none))
    obtain ⟨c2, hg⟩ : ∃ c2, ((s.heap.update kS (Obj.mapSeq fun _ => (#[] : Array Value))).update a (Obj.mapSeq fun _ => List.toArray (p.toList.map fun i => vs.getD i Value.none))).get? a = some (seqObj "list" (List.toArray (p.toList.map fun i => vs.getD i Value.none)) c2) := ⟨_, get?_update_seq ha1 (fun _ => List.toArray (p.toList.map fun i => vs.getD i Value.none))⟩
    refine wpAny_bind (listUpdate_at hk rfl ?_ (by rw [List.size_toArray]; omega) (Nat.zero_le _))
    refine wpAny_bind (wpAny_letGo ?_)
    refine wpAny_bind (seqEpoch_at ha1 rfl ?_)
    refine wpAny_bind (listUpdate_at ha1 rfl ?_ (Nat.zero_le _) (by show (List.toArray _).size ≤ _; rw [List.size_toArray, List.length_map, Array.length_toList]; omega))
    rw [hf]
    simp only [bne_self_eq_false, Bool.false_eq_true, if_false]
    have I1 : Inv X (pins ++ [(a, seqObj "list" #[] e1)]) σ H { s with heap := s.heap.update kS (Obj.mapSeq fun _ => (#[] : Array Value)) } := I.alter Wk hk (fun v z => by cases z) fun b u hb z => (hs1.2 b hb).trans z
    have I2 : Inv X pins σ H { s with heap := (s.heap.update kS (Obj.mapSeq fun _ => (#[] : Array Value))).update a (Obj.mapSeq fun _ => List.toArray (p.toList.map fun i => vs.getD i Value.none)) } := I1.unpin.alter (s := { s with heap := s.heap.update kS (Obj.mapSeq fun _ => (#[] : Array Value)) }) Wa ha1 (fun v z => by cases z) fun b u hb z => (hs2.2 b hb).trans z
    refine wpAny_pure (h p _ hp hu (I2.track Wa (I2.cellne hg fun v z => by cases z) ?_))
    refine ⟨by rw [List.length_map, Array.length_toList]; omega, p.toList.map fun i => vs.getD i Value.none, c2, ?_, hg⟩
    have all : ∀ l : List Nat, (∀ i ∈ l, i < vs.length) → Vals (l.map fun i => xs.getD i .non) (l.map fun i => vs.getD i Value.none) := by
      intro l
      induction l with
      | nil => intro _; exact .nil
      | cons i r ih =>
        intro hi
        have hi0 := hi i List.mem_cons_self
        refine .cons ?_ (ih fun j hj => hi j (List.mem_cons_of_mem _ hj))
        have hx : xs[i]? = some (xs.getD i .non) := by
          rw [List.getD_eq_getElem?_getD, List.getElem?_eq_getElem (by omega)]
          rfl
        obtain ⟨u, hu, r'⟩ := rv.get hx
        show RelV (xs.getD i .non) (vs.getD i Value.none)
        have e : vs.getD i Value.none = u := by rw [List.getD_eq_getElem?_getD, hu]; rfl
        rw [e]
        exact r'
    exact all p.toList fun i hi => by
      have := hp.mem_iff.mp hi
      exact List.mem_range.mp this
  unfold ksk_end
  dsimp only
  rw [if_neg Bool.false_ne_true]
  by_cases h2 : vs.toArray.size < 2
  · rw [if_pos h2, if_pos h2]
    refine wpAny_bind (wpAny_pure ?_)
    rw [StateT.run_pure]
    refine wpAny_bind (wpAny_pure ?_)
    dsimp only
    rw [if_neg Bool.false_ne_true]
    rw [List.size_toArray] at h2
    refine tail _ (List.toArray (List.range vs.length)) (by unfold LS.Pm; simp) ⟨fun i j hij hj => ?_, fun i j hij hj => by omega⟩ ?_ rfl
    · have : i = j := by omega
      subst this
      exact KeyOrd.kle_refl _
    · have e := PySem.W.kas_range (ks.toArray.zip vs.toArray)
      rw [show (ks.toArray.zip vs.toArray).size = vs.length by simp [hl]] at e
      exact e.symm
  · rw [if_neg h2, if_neg h2]
    rw [List.size_toArray] at h2
    refine wpAny_bind (hkind (by omega) _ ?_)
    rw [if_neg Bool.false_ne_true]
    refine wpAny_bind (wpAny_mono (PySem.W.kat_run (E := E) (Q := fun st' s' => s' = s ∧ ∃ p : Array Nat, LS.Pm vs.length p ∧ LS.Ust key p vs.length ∧ arrOf st' = p.map (PySem.W.kas_item (ks.toArray.zip vs.toArray)) ∧ failedOf st' = none) (G := fun p s' => s' = s ∧ LS.Pm vs.length p ∧ LS.Ust key p vs.length) hl (by omega) h64 (fun p st' s' _ q2 q3 q4 => ⟨q4.1, p, q4.2.1, q4.2.2, q2, q3⟩) (LS.sort_st hask (by omega) rfl fun p s' q1 q2 q3 => ⟨q1, q2, q3⟩)) ?_ fun _ _ z => z)
    rintro ⟨⟨⟩, st'⟩ s' ⟨rfl, p, q1, q2, q3, q4⟩
    exact tail st' p q1 q2 q3 q4
end
end L2
set_option maxRecDepth 100000
namespace L2
open PySem PySem.Spec PyProof.Rows
noncomputable def rngL (lo hi : Int) : List V := (List.range (hi - lo).toNat).map fun i : Nat => V.int (lo + (i : Int))
noncomputable def Src (K : PySem.W.Frag) (H : Hp) (a : Addr) (xs : List V) : Prop := SqL K H a xs ∨ SqT K H a xs ∨ ∃ lo hi : Int, H a = some (.rng lo hi) ∧ xs = rngL lo hi ∧ -(2 ^ 62) ≤ lo ∧ lo < 2 ^ 62 ∧ -(2 ^ 62) ≤ hi ∧ hi < 2 ^ 62
section
variable {X : Cx} {pins : List (Addr × Obj)} {σ : St} {H : Hp} {s : Shared}
noncomputable def rngV : List V → Hp → VK → Prop := fun xs H Q => match xs with
  | [.int j] => ∀ r, H r = none → Q (.ref r) (upd H r (.rng 0 j))
  | [.int l, .int j] => ∀ r, H r = none → Q (.ref r) (upd H r (.rng l j))
  | _ => False
theorem c_range : CallR X (.type "range") rngV := by
  intro pins s σ H xs us Q I r h
  unfold rngV at h
  split at h
  · rename_i j
    obtain ⟨u, rfl, ru⟩ := vals1 r
    obtain ⟨t, rfl⟩ := ru
    have hn := I.hok.fresh (Nat.le_refl s.heap.objs.size)
    exact call_range_1 ⟨.ref s.heap.objs.size, _, I.laid (o := .rng 0 j) (t' := s.toks + 1 + 1) (fun b u e => Heap.get?_push_of_some _ e) (Nat.le_refl _) ⟨_, _, _, Heap.get?_push_size _ rfl⟩, rfl, h _ hn⟩
  · rename_i l j
    obtain ⟨u, w', rfl, ru, rw'⟩ := vals2 r
    obtain ⟨t, rfl⟩ := ru
    obtain ⟨t', rfl⟩ := rw'
    have hn := I.hok.fresh (Nat.le_refl s.heap.objs.size)
    exact call_range_2 ⟨.ref s.heap.objs.size, _, I.laid (o := .rng l j) (t' := s.toks + 1) (fun b u e => Heap.get?_push_of_some _ e) (Nat.le_refl _) ⟨_, _, _, Heap.get?_push_size _ rfl⟩, rfl, h _ hn⟩
  · exact h.elim
theorem rng_vals {lo hi : Int} {acc : Array Value} {n : Nat} (hn : n = (hi - lo).toNat) (h : ItemsOf (fun i v => ∃ t, v = .int (lo + i * 1) t) acc n) : Vals (rngL lo hi) acc.toList := by
  obtain ⟨h1, h2⟩ := h
  have key : ∀ (l : List Value) (k : Nat), (∀ j v, l[j]? = some v → ∃ t, v = Value.int (lo + ((k + j : Nat) : Int)) t) → Vals ((List.range l.length).map fun i => V.int (lo + ((k + i : Nat) : Int))) l := by
    intro l
    induction l with
    | nil => intro k _; exact .nil
    | cons x r ih =>
      intro k hx
      rw [List.length_cons, List.range_succ_eq_map, List.map_cons, List.map_map]
      obtain ⟨t, e⟩ := hx 0 x rfl
      refine .cons ⟨t, by simpa using e⟩ ?_
      have := ih (k + 1) fun j v hv => by
        obtain ⟨t, e⟩ := hx (j + 1) v (by simpa using hv)
        exact ⟨t, by rw [e]; congr 2; omega⟩
      have e2 : ((fun i => V.int (lo + ((k + i : Nat) : Int))) ∘ Nat.succ) = fun i => V.int (lo + ((k + 1 + i : Nat) : Int)) := by
        funext i
        show V.int (lo + ((k + (i + 1) : Nat) : Int)) = _
        congr 2
        omega
      rw [e2]
      exact this
  have := key acc.toList 0 fun j v hv => by
    obtain ⟨t, e⟩ := h2 j v (by simpa using hv)
    exact ⟨t, by rw [e]; simp⟩
  rw [Array.length_toList, h1, hn] at this
  unfold rngL
  simpa using this
theorem collect_ok {A : Around} {E : Value → Shared → Prop} {Q : List Value → Shared → Prop} {a : Addr} {xs : List V} (I : Inv X pins σ H s) (hh : A.handled = none) (hx : Src X.K H a xs) (hz : xs.length ≤ 16777216)
    (h : ∀ vs h' tk, Vals xs vs → (∀ b o, s.heap.get? b = some o → h'.get? b = some o) → Q vs { s with heap := h', toks := tk }) : wpAny (model X.prog X.w) A (collect (.ref a)) Q E s := by
  have hsl : sizeLine = 16777216 := sizeLine_eq
  rcases hx with hx | hx | ⟨lo, hi, hx, rfl, b1, b2, b3, b4⟩
  · obtain ⟨its, rv, p, hz'⟩ := I.list hx
    obtain ⟨o, ho, hc, n, hd⟩ := p.isList
    have := rv.length
    exact wpAny_collect_seq a (.inl rfl) ho hc hd (fun h' k => h its h' s.toks rv k) (by rw [List.size_toArray]; omega)
  · obtain ⟨its, rv, p, hz'⟩ := I.tuple hx
    obtain ⟨o, ho, hc, n, hd⟩ := id p
    have := rv.length
    exact wpAny_collect_seq a (.inr rfl) ho hc hd (fun h' k => h its h' s.toks rv k) (by rw [List.size_toArray]; omega)
  · obtain ⟨t, u, v, hr⟩ := I.hok a _ hx
    have hl : (rngL lo hi).length = (hi - lo).toNat := by unfold rngL; simp
    have hr1 : IsRange (s.heap.push { cls := .type "list", data := .seq ([] : List Value).toArray }) a lo hi 1 t u v := Heap.get?_push_of_some _ hr
    unfold collect
    refine wpAny_bind (wpAny_runValue (codeAny_builtin F.entry_proto_collect ?_))
    rw [Around.under_plainId F.plain_proto_collect _]
    show wpAny _ A.in1 (newList [] >>= fun l => again (.builtin "list.__iadd__" ⟨[l, .ref a], []⟩)) _ _ s
    refine wpAny_bind (wpAny_newObj_type ?_)
    refine wpAny_pure ⟨plainId_quiet F.plain_list_iadd _, codeAny_builtin F.entry_list_iadd ?_⟩
    rw [Around.under_plainId F.plain_list_iadd _]
    show wpAny _ A.in1 (Builtin.List.listExtendWith (.ref s.heap.objs.size) (.ref a) (.ref s.heap.objs.size)) _ _ _
    have fin : ∀ s' : Shared, (∃ h' tk acc c', (∀ b o, b ≠ s.heap.objs.size → (s.heap.push { cls := .type "list", data := .seq ([] : List Value).toArray }).get? b = some o → h'.get? b = some o) ∧ h'.get? s.heap.objs.size = some { cls := .type "list", dict := none, data := .seq acc c', slots := #[] } ∧
        ItemsOf (fun i v => ∃ t, v = .int (lo + i * 1) t) acc (hi - lo).toNat ∧ s' = { s with heap := h', toks := tk }) → wpAny (model X.prog X.w) A (match Value.ref s.heap.objs.size with
      | Value.ref a => do
        match (← load a).data with
          | Data.seq xs _ => pure xs.toList
          | _ => unsupported "internal:collect"
      | _ => unsupported "internal:collect") Q E s' := by
      rintro s' ⟨h', tk, acc, c', k, hS, hi', rfl⟩
      show wpAny _ A (load s.heap.objs.size >>= _) _ _ _
      refine wpAny_bind (wpAny_load hS ?_)
      exact wpAny_pure (h _ h' tk (rng_vals rfl hi') fun b o e => k b o (Nat.ne_of_lt (Heap.lt_size e)) (Heap.get?_push_of_some _ e))
    refine wpAny_mono (wpAny_extend_range (s := { s with heap := s.heap.push { cls := .type "list", data := .seq ([] : List Value).toArray } }) (R := fun r s' => r = .ok (.ret (.ref s.heap.objs.size)) ∧ ∃ h' tk acc c', (∀ b o, b ≠ s.heap.objs.size → (s.heap.push { cls := .type "list", data := .seq ([] : List Value).toArray }).get? b = some o → h'.get? b = some o) ∧ h'.get? s.heap.objs.size = some { cls := .type "list", dict := none, data := .seq acc c', slots := #[] } ∧
        ItemsOf (fun i v => ∃ t, v = .int (lo + i * 1) t) acc (hi - lo).toNat ∧ s' = { s with heap := h', toks := tk }) (n := (hi - lo).toNat) hh hr1 (small_one b1 b2 b3 b4) (by rw [rangeSize_one]; split <;> omega) (by omega) s.heap.objs.size (.ref s.heap.objs.size) 0 (Heap.get?_push_size _ rfl) fun h' tk acc c' k hS hi' => ⟨rfl, h', tk, acc, c', k, hS, hi', rfl⟩) (fun fn s' hf => ?_) fun e s' he => ?_
    · cases fn with
      | done fl =>
        obtain ⟨e, hf⟩ := hf
        cases e
        exact fin s' hf
      | again c' =>
        refine ⟨hf.1, codeAny_mono hf.2 fun r s2 hr => ?_⟩
        obtain ⟨e, hr⟩ := hr
        subst e
        exact fin s2 hr
    · exact absurd he.1 (by intro z; cases z)
noncomputable def listV (K : PySem.W.Frag) : List V → Hp → VK → Prop := fun xs H Q => match xs with
  | [.ref a] => ∃ ys, Src K H a ys ∧ ys.length ≤ 16777216 ∧ ∀ l, H l = none → Q (.ref l) (upd H l (.lst ys))
  | _ => False
theorem c_listV (hc : X.calm = true) : CallR X (.type "list") (listV X.K) := by
  intro pins s σ H xs us Q I r h
  unfold listV at h
  split at h
  · rename_i a
    obtain ⟨ys, hx, hz, q⟩ := h
    obtain ⟨u, rfl, ru⟩ := vals1 r
    cases ru
    rcases hx with hx | hx | ⟨lo, hi, hx, rfl, b1, b2, b3, b4⟩
    · exact call_list_of pins s σ H _ _ Q I (.cons (show RelV (.ref a) (.ref a) from rfl) .nil) ⟨a, ys, rfl, .inl hx, q⟩
    · exact call_list_of pins s σ H _ _ Q I (.cons (show RelV (.ref a) (.ref a) from rfl) .nil) ⟨a, ys, rfl, .inr hx, q⟩
    · obtain ⟨t, u, v, hr⟩ := I.hok a _ hx
      have hl : (rngL lo hi).length = (hi - lo).toNat := by unfold rngL; simp
      have hsl : sizeLine = 16777216 := sizeLine_eq
      refine call_list_range (n := (hi - lo).toNat) (I.ok.hd hc) hr (small_one b1 b2 b3 b4) (by rw [rangeSize_one]; split <;> omega) (by omega) fun h' tk acc c' k hS hi' => ?_
      have hn := I.hok.fresh (Nat.le_refl s.heap.objs.size)
      refine ⟨.ref s.heap.objs.size, _, I.laid (o := .lst (rngL lo hi)) (t' := tk) k (Nat.le_refl _) ⟨by omega, acc.toList, c', rng_vals rfl hi', ?_⟩, rfl, q _ hn⟩
      simpa using hS
  · exact h.elim
theorem str_at {kL : List (List Nat)} {ks : List Value} (r : Vals (kL.map fun k => V.str (T k)) ks) {i : Nat} (hi : i < kL.length) : ∃ t, ks.getD i Value.none = .str (T (kL.getD i [])) t := by
  have e : (kL.map fun k => V.str (T k))[i]? = some (V.str (T (kL.getD i []))) := by
    rw [List.getElem?_map, List.getD_eq_getElem?_getD, List.getElem?_eq_getElem hi]
    rfl
  obtain ⟨u, hu, t, rfl⟩ := r.get e
  exact ⟨t, by rw [List.getD_eq_getElem?_getD, hu]; rfl⟩
theorem ask_str {prog : Program} {w : World} {A : Around} {kL : List (List Nat)} {ks : List Value} (r : Vals (kL.map fun k => V.str (T k)) ks) : LS.Asks (O := strKind.toKeyOrd) (fun i => kL.getD i []) kL.length (fun s' => s' = s) (PySem.W.kas_ask prog w A oneType' ks) := by
  refine ⟨fun i j C s1 hi hj e h => ?_⟩
  subst e
  unfold PySem.W.kas_ask
  obtain ⟨t, e1⟩ := str_at r hi
  obtain ⟨t', e2⟩ := str_at r hj
  rw [e1, e2]
  refine PySem.W.kas_lt_str ?_
  have h := h s1 rfl
  have e3 : (T (kL.getD i [])).cps.toList = kL.getD i [] := L_T _
  have e4 : (T (kL.getD j [])).cps.toList = kL.getD j [] := L_T _
  rw [e3, e4]
  exact h
theorem kind_str {M : Model} {A : Around} {E : Value → Shared → Prop} {kL : List (List Nat)} {ks : List Value} (r : Vals (kL.map fun k => V.str (T k)) ks) (h2 : 2 ≤ kL.length) {Q : SortKind → Shared → Prop} (h : Q oneType' s) : wpAny M A (keyKind' (List.toArray ks)) Q E s := by
  have hl := r.length
  rw [List.length_map] at hl
  refine PySem.W.kas_kind (T := .type "str") (by omega) (fun v hv => ?_) (by decide) (by decide) h
  obtain ⟨i, hi⟩ := List.getElem?_of_mem hv
  have hlt : i < kL.length := by
    have := (List.getElem?_eq_some_iff.mp hi).1
    omega
  obtain ⟨t, e⟩ := str_at r hlt
  rw [List.getD_eq_getElem?_getD, hi] at e
  have e : v = .str (T (kL.getD i [])) t := e
  rw [e]
  exact PySem.W.Looks.of_pure rfl
theorem sorted_by {Q : VK} {E : Value → Shared → Prop} {f a : Addr} {xs : List V} {kL : List (List Nat)} (hc : X.calm = true) (hr : Room 1 X.A) (I : Inv X pins σ H s) (hx : Src X.K H a xs) (h64 : xs.length < 64) (hl : kL.length = xs.length)
    (hcall : ∀ ps s' (i : Nat) (x : V) (k : V) (u : Value), Inv X (pins ++ ps) σ H s' → xs[i]? = some x → (kL.map fun k => V.str (T k))[i]? = some k → RelV x u → wpAny (model X.prog X.w) X.A.in1.in1 (call (.ref f) [u]) (EP X (pins ++ ps) σ fun y H' => H' = H ∧ y = k) (fun _ _ => False) s')
    (h : ∀ l (p : List Nat), H l = none → p.Perm (List.range xs.length) → p.Pairwise (fun i j => kL.getD i [] ≤ kL.getD j [] ∧ (kL.getD i [] = kL.getD j [] → i < j)) → Q (.ref l) (upd H l (.lst (p.map fun i => xs.getD i .non)))) :
    wpAny (model X.prog X.w) X.A (call (.builtin "sorted") [.ref a] [(Str.ofString "key", .ref f)]) (EP X pins σ Q) E s := by
  have hsl : sizeLine = 16777216 := sizeLine_eq
  have hh : X.A.handled = none := I.ok.hd hc
  refine call_function_entry_kw kind_sorted plain_sorted entry_sorted (ksk_s1 _ _) ?_
  unfold Builtin.«sorted»
  refine wpAny_bind (m := checkCount "sorted" 1 1 _) (wpAny_pure ?_)
  refine wpAny_bind (collect_ok I hh hx (by omega) fun vs h1 tk rv k => ?_)
  have lv := rv.length
  refine wpAny_bind (wpAny_newList ?_ (by omega))
  have k2 : ∀ b o, s.heap.get? b = some o → (h1.push { cls := .type "list", data := .seq vs.toArray }).get? b = some o := fun b o e => Heap.get?_push_of_some _ (k b o e)
  have I2 : Inv X pins σ H { s with heap := h1.push { cls := .type "list", data := .seq vs.toArray }, toks := tk } := I.kept k2
  have I1 : Inv X pins σ H { s with heap := h1, toks := tk } := I.kept k
  have Wa : Own X pins H h1.objs.size := Own.fresh I1 (Nat.le_refl _)
  have ho : (h1.push { cls := .type "list", data := .seq vs.toArray }).get? h1.objs.size = some (seqObj "list" vs.toArray 0) := Heap.get?_push_size _ rfl
  refine wpAny_bind (wpAny_holding (wpAny_call_entry_kw slot_list_sort ⟨_, ho, rfl⟩ entry_list_sort ?_ (ksk_l1 _ _)))
  rw [ksk_t1]
  unfold ksk_tree
  refine wpAny_bind (listItems_at ho rfl ?_)
  refine wpAny_bind (listUpdate_at ho rfl ?_ (by rw [List.size_toArray]; omega) (Nat.zero_le _))
  have hs1 := Heap.SameBut.update (h1.push { cls := .type "list", data := .seq vs.toArray }) h1.objs.size (Obj.mapSeq fun _ => (#[] : Array Value))
  obtain ⟨e1, ho1⟩ : ∃ e1, ((h1.push { cls := .type "list", data := .seq vs.toArray }).update h1.objs.size (Obj.mapSeq fun _ => (#[] : Array Value))).get? h1.objs.size = some (seqObj "list" #[] e1) := ⟨_, get?_update_seq ho fun _ => #[]⟩
  refine wpAny_bind (seqEpoch_at ho1 rfl ?_)
  refine wpAny_bind (wpAny_newTuple ?_ (by show vs.length ≤ _; omega))
  refine wpAny_bind (wpAny_newList ?_ (Nat.zero_le _))
  refine wpAny_holding ?_
  have I3 : Inv X pins σ H { s with heap := (h1.push { cls := .type "list", data := .seq vs.toArray }).update h1.objs.size (Obj.mapSeq fun _ => (#[] : Array Value)), toks := tk } :=
    I2.alter (s := { s with heap := h1.push { cls := .type "list", data := .seq vs.toArray }, toks := tk }) Wa ho (fun v z => by cases z) fun b u hb z => (hs1.2 b hb).trans z
  generalize hg4 : (h1.push { cls := .type "list", data := .seq vs.toArray }).update h1.objs.size (Obj.mapSeq fun _ => (#[] : Array Value)) = h4 at *
  have I5 : Inv X pins σ H { s with heap := (h4.push { cls := .type "tuple", data := .seq vs.toArray }).push { cls := .type "list", data := .seq ([] : List Value).toArray }, toks := tk } :=
    I3.kept (s := { s with heap := h4, toks := tk }) (t' := tk) fun b o e => Heap.get?_push_of_some _ (Heap.get?_push_of_some _ e)
  have ha5 : ((h4.push { cls := .type "tuple", data := .seq vs.toArray }).push { cls := .type "list", data := .seq ([] : List Value).toArray }).get? h1.objs.size = some (seqObj "list" #[] e1) := Heap.get?_push_of_some _ (Heap.get?_push_of_some _ ho1)
  have I4 : Inv X pins σ H { s with heap := h4.push { cls := .type "tuple", data := .seq vs.toArray }, toks := tk } := I3.kept (s := { s with heap := h4, toks := tk }) (t' := tk) fun b o e => Heap.get?_push_of_some _ e
  have ha4 : (h4.push { cls := .type "tuple", data := .seq vs.toArray }).get? h1.objs.size = some (seqObj "list" #[] e1) := Heap.get?_push_of_some _ ho1
  have Wk : Own X (pins ++ [(h1.objs.size, seqObj "list" #[] e1)]) H (h4.push { cls := .type "tuple", data := .seq vs.toArray }).objs.size :=
    Own.fresh (I4.pin1 (s := { s with heap := h4.push { cls := .type "tuple", data := .seq vs.toArray }, toks := tk }) Wa ha4 fun v z => by cases z) (Nat.le_refl _)
  refine rest_ok (s := { s with heap := (h4.push { cls := .type "tuple", data := .seq vs.toArray }).push { cls := .type "list", data := .seq ([] : List Value).toArray }, toks := tk }) (kV := kL.map fun k => V.str (T k)) rv (by rw [List.length_map]; omega) (by omega) I5 Wa ha5 Wk (Heap.get?_push_size _ rfl) hcall fun s6 ks e I6 hk6 rk => ?_
  have lk := rk.length
  rw [List.length_map] at lk
  refine end_ok (O := strKind.toKeyOrd) (key := fun i => kL.getD i []) (κ := oneType') rv (by omega) (by omega) I6 Wa Wk hk6 (fun h2 Q' q' => kind_str rk (by omega) q') ?_ fun p s7 hp hu I7 => ⟨_, rfl, wpAny_pure ⟨_, rfl, .ref h1.objs.size, _, I7, rfl, ?_⟩⟩
  · have := ask_str (s := s6) (prog := X.prog) (w := X.w) (A := X.A.in1.in1) rk
    rw [show kL.length = vs.length by omega] at this
    exact this
  · refine h _ p.toList Wa.free (by unfold LS.Pm at hp; rw [lv]; exact hp) ?_
    have hps := hp.size
    refine List.pairwise_iff_getElem.mpr fun i j hi hj hij => ?_
    have := hu.1 i j (Nat.le_of_lt hij) (by rw [Array.length_toList] at hj; omega)
    have st := hu.2 i j hij (by rw [Array.length_toList] at hj; omega)
    have gi : LS.gt p i = p.toList[i] := by
      unfold LS.gt
      rw [Array.getD_eq_getD_getElem?]
      rw [Array.length_toList] at hi
      simp [hi]
    have gj : LS.gt p j = p.toList[j] := by
      unfold LS.gt
      rw [Array.getD_eq_getD_getElem?]
      rw [Array.length_toList] at hj
      simp [hj]
    rw [gi, gj] at this st
    have this : decide (kL.getD p.toList[j] [] < kL.getD p.toList[i] []) = false := this
    exact ⟨List.not_lt.mp (of_decide_eq_false this), st⟩
end
end L2
set_option maxRecDepth 100000
namespace L2
open PySem PySem.Spec PyProof.Rows
noncomputable def CX1 (P : Program) (w : World) : CXT := fun outer H s E e s' => ∃ (a C : Addr) (a0 : Value) (B : Heap) (H' : Hp), e = .ref a ∧ s'.os = s.os ∧ AllBare s'.gens ∧ Un (frs outer) [] H H' s.heap s'.heap ∧ HOk P w H' B ∧
  (∀ b o, s.heap.get? b = some o → H b = none → b ∉ frs outer → B.get? b = some o) ∧ (∀ b o, s.heap.get? b = some o → b ∉ frs outer → ∃ o', B.get? b = some o') ∧ Heap.FlyingW B outer a (.ref C) a0 s'.heap ∧ E (.ref C) none H'
theorem cx1_none {P : Program} {w : World} {outer : List Env} {H : Hp} {s : Shared} {e : Value} {s' : Shared} (h : CX1 P w outer H s (fun _ _ _ => False) e s') : False := by
  obtain ⟨_, _, _, _, _, _, _, _, _, _, _, _, _, q⟩ := h
  exact q
theorem frs_mem {l : List Env} {env : Env} {b : Addr} (h : env ∈ l) (hf : env.frame = some b) : b ∈ frs l := List.mem_filterMap.mpr ⟨env, h, hf⟩
structure Tk (X : Cx) (F : St → XK) : Prop where
  pass : ∀ (pins : List (Addr × Obj)) (σ : St) (H : Hp) (s : Shared) (e : Value) (s' : Shared), Inv X pins σ H s → CX1 X.prog X.w X.stack H s (F σ) e s' → X.xe e s'
  own : PassesOwn (model X.prog X.w) X.A X.env X.xe
structure TkN (X : Cx) (F : St → XK) : Prop extends Tk X F where
  new : ∀ (pins : List (Addr × Obj)) (σ : St) (H : Hp) (s : Shared) (h' : Heap) (a C : Addr) (args : List Value), Inv X pins σ H s → Heap.MadeExcOf s.heap h' a (.ref C) args → F σ (.ref C) none H → X.xe (.ref a) { s with heap := h' }
section
variable {P : Program} {w : World} {K : PySem.W.Frag} {mg : Str → Option Value} {base : Heap} {N : List Str} {qual : Str} {scope : Scope} {f : Addr} {cdv : Value} {A : Around} {outer : List Env} {s : Shared} {H : Hp} {E : XK}
theorem tk_def : TkN (cxOf (CX1 P w) P w K mg base N qual scope f cdv A outer s H E) (fun _ => E) := by
  refine ⟨⟨fun pins σ H1 s1 e s2 I h => ?_, PassesOwn.leaving⟩, fun pins σ H1 s1 h' a C args I hm hE => ?_⟩
  · obtain ⟨a, C, a0, B, H', rfl, h1, h2, h3, h4, h5, h5', h6, h7⟩ := h
    have hfr : (A.deeper (envOfC qual scope s.heap.objs.size f cdv)).frames = some (envOfC qual scope s.heap.objs.size f cdv :: outer) := I.ok.frames
    refine wpAny_leaves_onW hfr rfl h6 fun h3' hfl hup => ?_
    have nL : ∀ b o, s.heap.get? b = some o → b ≠ s.heap.objs.size := fun b o e => Nat.ne_of_lt (Heap.lt_size e)
    have inB : ∀ b o, s.heap.get? b = some o → H b = none → b ∉ frs outer → B.get? b = some o := fun b o e n hb => by
      refine h5 b o (I.base.keep b o e n hb (by simp [cxOf])) (I.base.free b o e n (by simp [cxOf])) fun z => ?_
      rcases List.mem_cons.mp (I.stkSub b z) with z | z
      · exact nL b o e z
      · exact hb z
    have thB : ∀ b o, s.heap.get? b = some o → b ∉ frs outer → ∃ o', B.get? b = some o' := fun b o e hb => by
      obtain ⟨o1, e1⟩ := I.base.there b o e (by simp [cxOf])
      refine h5' b o1 e1 fun z => ?_
      rcases List.mem_cons.mp (I.stkSub b z) with z | z
      · exact nL b o e z
      · exact hb z
    have frame : ∀ b o, s.heap.get? b = some o → b ∈ frs outer → ∃ sl, h3'.get? b = some { o with slots := sl } := fun b o e hb => by
      have n : H b = none := I.ok.frf b hb
      obtain ⟨sl, e1⟩ := I.base.slot b o e n hb (by simp [cxOf])
      obtain ⟨sl2, e2⟩ := h3.any e1 (I.base.free b o e n (by simp [cxOf])) (by simp)
      have hd : ∀ vs, o.data ≠ .fields vs := by
        obtain ⟨_, o', ho', hd'⟩ := I.ok.funs.mem hb
        have ho' : s.heap.get? b = some o' := ho'
        rw [e] at ho'
        cases ho'
        exact hd'
      obtain ⟨sl3, e3⟩ := hup b _ e2 hd
      exact ⟨sl3, e3⟩
    refine ⟨a, C, a0, B, H', rfl, h1.trans I.os, h2, ⟨fun b o e n hb _ => hfl.1 b o (inB b o e n hb), fun b o e n hb _ => frame b o e hb, fun b o e n _ => ?_, fun b o e _ => ?_, fun b xs e => h3.tups b xs (I.base.tups b xs e), fun b o u e => h3.frzs b o u (I.base.frzs b o u e), fun b ps e => ?_⟩, h4, inB, thB, hfl, h7⟩
    · obtain ⟨o', e1⟩ := I.base.there b o e (by simp [cxOf])
      exact h3.free b o' e1 (I.base.free b o e n (by simp [cxOf])) (by simp)
    · by_cases hb : b ∈ frs outer
      · obtain ⟨sl, e1⟩ := frame b o e hb
        exact ⟨_, e1⟩
      · obtain ⟨o', e1⟩ := thB b o e hb
        exact ⟨o', hfl.1 b o' e1⟩
    · obtain ⟨m1, e1⟩ := I.base.tbls b ps e
      obtain ⟨m2, e2⟩ := h3.tbls b _ e1
      exact ⟨m1 ++ m2, by rw [e2, Array.append_assoc]⟩
  · have hfr : (A.deeper (envOfC qual scope s.heap.objs.size f cdv)).frames = some (envOfC qual scope s.heap.objs.size f cdv :: outer) := I.ok.frames
    have hin : ∀ env ∈ (envOfC qual scope s.heap.objs.size f cdv :: outer), ∀ b, env.frame = some b → b ∈ frs (envOfC qual scope s.heap.objs.size f cdv :: outer) := fun env he b hb => frs_mem he hb
    have hfun : s1.heap.FunFrames (PySem.W.hideAll s1.heap (frs (envOfC qual scope s.heap.objs.size f cdv :: outer))) (envOfC qual scope s.heap.objs.size f cdv :: outer) := PySem.W.funFrames_hide I.stack hin
    refine wpAny_leaves_madeW hfr rfl (fun b o e => PySem.W.of_hideAll _ e) hfun hm fun h2 t hfl htup ht hup => ?_
    have nL : ∀ b o, s.heap.get? b = some o → b ≠ s.heap.objs.size := fun b o e => Nat.ne_of_lt (Heap.lt_size e)
    have notf : ∀ b o, s.heap.get? b = some o → b ∉ frs outer → b ∉ frs (envOfC qual scope s.heap.objs.size f cdv :: outer) := fun b o e hb z => by
      rcases List.mem_cons.mp (I.stkSub b z) with z | z
      · exact nL b o e z
      · exact hb z
    have toB : ∀ b o, s1.heap.get? b = some o → b ∉ frs (envOfC qual scope s.heap.objs.size f cdv :: outer) → (PySem.W.hideAll s1.heap (frs (envOfC qual scope s.heap.objs.size f cdv :: outer))).get? b = some o := fun b o e hb => PySem.W.hideAll_get _ e hb
    have inB : ∀ b o, s.heap.get? b = some o → H b = none → b ∉ frs outer → (PySem.W.hideAll s1.heap (frs (envOfC qual scope s.heap.objs.size f cdv :: outer))).get? b = some o := fun b o e n hb => toB b o (I.base.keep b o e n hb (by simp [cxOf])) (notf b o e hb)
    have thB : ∀ b o, s.heap.get? b = some o → b ∉ frs outer → ∃ o', (PySem.W.hideAll s1.heap (frs (envOfC qual scope s.heap.objs.size f cdv :: outer))).get? b = some o' := fun b o e hb => by
      obtain ⟨o1, e1⟩ := I.base.there b o e (by simp [cxOf])
      exact ⟨o1, toB b o1 e1 (notf b o e hb)⟩
    have frame : ∀ b o, s.heap.get? b = some o → b ∈ frs outer → ∃ sl, h2.get? b = some { o with slots := sl } := fun b o e hb => by
      have n : H b = none := I.ok.frf b hb
      obtain ⟨sl, e1⟩ := I.base.slot b o e n hb (by simp [cxOf])
      have hd : ∀ vs, o.data ≠ .fields vs := by
        obtain ⟨_, o', ho', hd'⟩ := I.ok.funs.mem hb
        have ho' : s.heap.get? b = some o' := ho'
        rw [e] at ho'
        cases ho'
        exact hd'
      obtain ⟨sl3, e3⟩ := hup b _ (hm.keeps b _ e1) hd
      exact ⟨sl3, e3⟩
    have hokB : HOk P w H1 (PySem.W.hideAll s1.heap (frs (envOfC qual scope s.heap.objs.size f cdv :: outer))) := fun b o e => by
      refine (I.hok b o e).stay (fun d u hd z => toB d u z fun y => ?_) (fun _ z => z) fun _ _ z => z
      have := I.stkFree d y
      rcases hd with rfl | hd
      · rw [e] at this; cases this
      · rw [hd] at this; cases this
    refine ⟨a, C, .ref t, _, H1, rfl, I.os, I.bare, ⟨fun b o e n hb _ => hfl.1 b o (inB b o e n hb), fun b o e n hb _ => frame b o e hb, fun b o e n _ => I.base.free b o e n (by simp [cxOf]), fun b o e _ => ?_, I.base.tups, I.base.frzs, I.base.tbls⟩, hokB, inB, thB, hfl, hE⟩
    by_cases hb : b ∈ frs outer
    · obtain ⟨sl, e1⟩ := frame b o e hb
      exact ⟨_, e1⟩
    · obtain ⟨o', e1⟩ := thB b o e hb
      exact ⟨o', hfl.1 b o' e1⟩
end
end L2
namespace L2
open PySem PySem.Spec PyProof.Rows
abbrev VE : List Value := [.type "ValueError", .type "Exception", .type "BaseException", .type "object"]
noncomputable def clsMro (K : PySem.W.Frag) (C : Addr) : List Value := match K.lookup C with
  | some ⟨_, _, .cls cd, _⟩ => cd.mro
  | _ => []
noncomputable def ExC (K : PySem.W.Frag) (C : Addr) : Prop := PySem.W.excIn K C VE "ValueError.__new__" = true
theorem exc_obj {K : PySem.W.Frag} {h : Heap} {C : Addr} (X : K.In h) (q : ExC K C) : ∃ bm N nm qn bs hdct sn sub ab col dd k0 k1 k2 k3 k5 mN, h.get? C = some (excClassObj nm qn C N bs bm hdct sn sub ab col dd k0 k1 k2 k3 k5 "ValueError.__new__") ∧ h.Ns N mN ∧ mN "__init__" = none ∧ OwnTail h VE bm ∧ clsMro K C = .ref C :: bm := by
  unfold ExC PySem.W.excIn at q
  split at q
  · rename_i dd cd sl ho
    split at q
    · rename_i C' bm k0 k1 k2 k3 n k5 hm hs
      simp only [Bool.and_eq_true, beq_iff_eq, Bool.not_eq_true'] at q
      obtain ⟨⟨⟨⟨⟨rfl, rfl⟩, hdel⟩, ht⟩, hok⟩, hni⟩ := q
      obtain ⟨nm, bs, mro, ns, qn, hd, sn, sub, ab, col, del⟩ := cd
      dsimp only at hm hdel hok hni
      subst hm hdel
      have hsl : sl = #[k0, k1, k2, k3, some (.builtin "ValueError.__new__"), k5] := by
        obtain ⟨l⟩ := sl
        simp only at hs
        rw [hs]
      subst hsl
      exact ⟨bm, ns, nm, qn, bs, hd, sn, sub, ab, col, dd, k0, k1, k2, k3, k5, _, X _ _ ho, .of_isNs (PySem.W.isNs_of_in X hok), PySem.W.nsMap_none_of_in X hok hni, PySem.W.tail_of_in X ht, by unfold clsMro; rw [ho]⟩
    · cases q
  · cases q
section
variable {X : Cx} {F : St → XK} {x : Str} {C : Addr} {e : Expr} {es : List Expr} {t : TA} {np cpos pos : Pos}
noncomputable def tRaise (F : St → XK) (C : Addr) (t : TA) : TS := fun _ σ H => t σ H fun vs H1 => vs.length ≤ 1000 ∧ F σ (.ref C) none H1
theorem ps_raise (T : TkN X F) (hc : X.calm = true) (q : ExC X.K C) (hg : Gl X x) (hm : X.mg x = some (.ref C)) (ha : PA X (e :: es) t) (hdb : (x == ("__debug__" : Str)) = false := by decide)
    (he : starEach (e :: es) X.env = (false, eval e X.env) :: starEach es X.env := by rfl) (hpl : (backTo cpos (starEach es X.env)).any (·.1) = false := by rfl) : PS X (.Raise (some (.Call (.Name x np) (e :: es) [] cpos)) none pos) (tRaise F C t) := by
  intro pins s σ H D I h
  obtain ⟨bm, N, nm, qn, bs, hdct, sn, sub, ab, col, dd, k0, k1, k2, k3, k5, mN, hC, hN, hni, TL, _⟩ := exc_obj I.mod.kin q
  refine wpAny_Raise_call_subT (C := C) (nm := nm) (q := qn) (N := N) (bs := bs) (bm := bm) (hdct := hdct) (sn := sn) (sub := sub) (ab := ab) (col := col) (dd := dd) (k0 := k0) (k1 := k1) (k2 := k2) (k3 := k3) (k5 := k5) PySem.F.excBase_ValueError (mN := mN) (TL.hasType PySem.F.excBase_ValueError.hasBase) (I.ok.hd hc) ?_ hni ?_
  · rw [he]
    show (false || (backTo cpos (starEach es X.env)).any (·.1)) = false
    rw [hpl]
    rfl
  · refine ld_glob I hg hm ⟨rfl, ?_⟩ hdb
    have hp := ha cpos pins s σ H _ I h
    rw [he] at hp ⊢
    have hsl : sizeLine = 16777216 := sizeLine_eq
    refine Calls.evalArgs_plain (thn hp fun us s2 ⟨vs, H2, I2, rv, hl, hf⟩ => ⟨rfl, ?_, I2.bk _ _ hC, hN.keeps I2.bk, TL.keeps I2.bk, fun h' a hm => T.new pins σ H2 s2 h' a C us I2 hm hf⟩)
    have := rv.length
    show us.length ≤ sizeLine
    omega
end
section
variable {X : Cx} {pos : Pos}
noncomputable def numL (i : Int) : List Nat := L (toString i : Str)
end
end L2
set_option maxRecDepth 100000
namespace L2
open PySem PySem.Spec PyProof.Rows
structure FnX (P : Program) (w : World) (K : PySem.W.Frag) (mg : Str → Option Value) (base : Heap) (k : Nat) (x : Str) (ps : List Str) (sp : Sp) : Prop where
  ex : ∃ f fd, FnOk P w K mg base (CX1 P w) k f fd ps sp ∧ mg x = some (.ref f) ∧ PySem.W.keepIn K (.ref f) = true ∧ Binds K fd ps []
section
variable {P : Program} {w : World} {K : PySem.W.Frag} {mg : Str → Option Value} {base : Heap}
theorem FnX.mono {j k : Nat} {x : Str} {ps : List Str} {sp : Sp} (F : FnX P w K mg base j x ps sp) (h : j ≤ k) : FnX P w K mg base k x ps sp := by
  obtain ⟨f, fd, F, r⟩ := F.ex
  exact ⟨f, fd, F.mono h, r⟩
theorem FnX.quiet {k : Nat} {x : Str} {ps : List Str} {sp : Sp} (F : FnX P w K mg base k x ps sp) : Fn P w K mg base k x ps (fun vs H Q _ => sp vs H Q E0) := by
  obtain ⟨f, fd, F, r⟩ := F.ex
  refine ⟨f, fd, ⟨fun vs H Q E h => F.len vs H Q E0 h, fun A outer s H args us vs Q E hr e0 hb rv h => ?_⟩, r⟩
  refine codeAny_mono (F.run A outer s H args us vs Q E0 hr e0 hb rv h) fun r s' q => ?_
  cases r with
  | error e => exact (cx1_none q).elim
  | ok fl => cases fl <;> exact q
theorem Fun.okX {x qual : Str} {st : Stmt} {f : Addr} {fd : FuncData} {N ps : List Str} {k : Nat} {sp : Sp} (F : Fun K x qual st f fd) (S : FnScope N ps (defScope st)) (len : ∀ vs H Q E, sp vs H Q E → vs.length = ps.length)
    (hbody : ∀ (cdv : Value) (A : Around) (outer : List Env) (s : Shared) (H : Hp) (vs : List V) (Q : VK) (E : XK), Room k (A.deeper (envOfC qual (defScope st) s.heap.objs.size f cdv)) → sp vs H Q E →
      ∃ t, PSs (cxOf (CX1 P w) P w K mg base N qual (defScope st) f cdv A outer s H E) (defBody st) t ∧ t { nx := fun _ H' => Q .non H', rt := Q } (start N vs) H) : FnOk P w K mg base (CX1 P w) (k + 1) f fd ps sp := by
  obtain ⟨oc, od, kV, doc, pm, an, cdv, ct, osl, rfl, lk, hcd⟩ := F.ex
  exact fn_of lk hcd S len fun A outer s H vs Q E hr hsp => hbody cdv A outer s H vs Q E hr hsp
end
section
variable {X : Cx} {F : St → XK} {k : Nat} {x : Str} {ps : List Str} {sp : Sp} {p pos : Pos} {e : Expr} {es : List Expr} {t : TA}
noncomputable def tFnX (F : St → XK) (sp : Sp) (t : TA) : TE := fun σ H Q => t σ H fun vs H1 => sp vs H1 Q (F σ)
theorem pe_fnX (T : Tk X F) (G : FnX X.prog X.w X.K X.mg X.base k x ps sp) (hr : Room k X.A) (ha : PA X (e :: es) t) (hg : Gl X x := by rfl) (hdb : (x == ("__debug__" : Str)) = false := by decide)
    (he : starEach (e :: es) X.env = (false, eval e X.env) :: starEach es X.env := by rfl) (hpl : (backTo pos (starEach es X.env)).any (·.1) = false := by rfl) : PE X (.Call (.Name x p) (e :: es) [] pos) (tFnX F sp t) := by
  obtain ⟨f, fd, G, hm, hk, hb⟩ := G.ex
  intro pins s σ H Q I h
  refine wpAny_Call_Name_kw (ld_glob I hg hm ?_ hdb)
  refine PySem.W.callWith_K (h₀ := X.base) I.ok.mod.kin hk (thn (ha pos pins s σ H _ I h) fun us s1 ⟨vs, H1, I1, r, q⟩ => ⟨I1.kIn, ?_⟩) he hpl
  have hl : us.length = ps.length := by rw [← r.length]; exact G.len _ _ _ _ q
  refine wpAny_call (codeAny_mono (G.run X.A X.stack s1 H1 ⟨us, []⟩ us vs Q (F σ) hr I1.env0 (by simpa using hb s1 us I1.kIn (by simpa using hl)) r q) fun r s' hq => ?_)
  cases r with
  | error e => exact T.pass pins σ H1 s1 e s' I1 hq
  | ok fl =>
    cases fl with
    | ret u => exact I1.after hq
    | next => exact False.elim hq
    | brk => exact False.elim hq
    | cont => exact False.elim hq
end
structure Caught (X : Cx) (pins : List (Addr × Obj)) (σ : St) (H1 : Hp) (s1 : Shared) (a C : Addr) (a0 : Value) (B : Heap) (H : Hp) (s2 : Shared) : Prop where
  inv1 : Inv X pins σ H1 s1
  os : s2.os = s1.os
  bare : AllBare s2.gens
  un : Un (frs X.stack) [] H1 H s1.heap s2.heap
  hokB : HOk X.prog X.w H B
  keepB : ∀ b o, s1.heap.get? b = some o → H1 b = none → b ∉ frs X.stack → B.get? b = some o
  thB : ∀ b o, s1.heap.get? b = some o → b ∉ frs X.stack → ∃ o', B.get? b = some o'
noncomputable def ExcO (a C : Addr) : HO := .ext fun h => ∃ o vs, h.get? a = some o ∧ o.cls = .ref C ∧ o.data = .fields vs
section
variable {X : Cx} {pins : List (Addr × Obj)} {σ : St} {H1 H : Hp} {s1 s2 : Shared} {a C : Addr} {a0 : Value} {B h : Heap}
theorem Caught.inv (c : Caught X pins σ H1 s1 a C a0 B H s2) (hfl : Heap.FlyingW B X.stack a (.ref C) a0 h) (hup : s2.heap.UpToSlots h) : Inv X pins σ H { s2 with heap := h } := by
  have I := c.inv1
  have fr : ∀ b o, s1.heap.get? b = some o → b ∈ frs X.stack → ∃ sl, h.get? b = some { o with slots := sl } := fun b o e hb => by
    obtain ⟨sl, e1⟩ := c.un.any e (I.stkFree b hb) (by simp)
    have hd : ∀ vs, o.data ≠ .fields vs := by
      obtain ⟨_, o', ho', hd'⟩ := I.stack.mem hb
      rw [e] at ho'
      cases ho'
      exact hd'
    obtain ⟨sl2, e2⟩ := hup b _ e1 hd
    exact ⟨sl2, e2⟩
  refine I.call' (s' := { s2 with heap := h }) (ch := []) c.os ⟨fun b o e n hb _ => hfl.1 b o (c.keepB b o e n hb), fun b o e n hb _ => fr b o e hb, c.un.free, fun b o e _ => ?_, c.un.tups, c.un.frzs, c.un.tbls⟩ (c.hokB.kept hfl.1) c.bare fun b z => absurd z (by simp)
  by_cases hb : b ∈ frs X.stack
  · obtain ⟨sl, e1⟩ := fr b o e hb
    exact ⟨_, e1⟩
  · obtain ⟨o', e1⟩ := c.thB b o e hb
    exact ⟨o', hfl.1 b o' e1⟩
theorem Inv.trackG {s : Shared} (I : Inv X pins σ H s) {D : Addr} {o : HO} (n0 : X.s₀.heap.get? D = none) (free : H D = none) (nl : D ≠ X.env.locals) (hc : ∀ x c, X.env.cells.lookup x = some c → c ≠ D) (np : ∀ p ∈ X.pn ++ pins, p.1 ≠ D) (new : ObjOk X.prog X.w (upd H D o) s.heap D o) : Inv X pins σ (upd H D o) s := by
  have ne : ∀ b u, H b = some u → b ≠ D := fun b u e => ne_of_none e free
  refine ⟨I.ok, I.os, I.bare, ⟨I.base.keep, I.base.slot, fun b u e n hx => ?_, I.base.there, fun b xs e => ?_, fun b u v e => ?_, fun b ps e => ?_⟩, I.loc, I.cell, ?_, fun x c e => ?_, fun p hp => ?_, fun b u e => ?_, I.len⟩
  · have hb : b ≠ D := by
      rintro rfl
      rw [n0] at e
      cases e
    rw [upd_ne hb]
    exact I.base.free b u e n hx
  · have := I.base.tups b xs e
    rw [upd_ne (ne b _ this)]
    exact this
  · have := I.base.frzs b u v e
    rw [upd_ne (ne b _ this)]
    exact this
  · obtain ⟨m, z⟩ := I.base.tbls b ps e
    exact ⟨m, by rw [upd_ne (ne b _ z)]; exact z⟩
  · rw [upd_ne (Ne.symm nl)]
    exact I.free
  · rw [upd_ne (hc x c e)]
    exact I.freeC x c e
  · obtain ⟨a1, a2, a3⟩ := I.pin p hp
    exact ⟨a1, by rw [upd_ne (np p hp)]; exact a2, a3⟩
  · by_cases hb : b = D
    · subst hb
      rw [upd_same] at e
      cases e
      exact new
    · rw [upd_ne hb] at e
      refine (I.hok b u e).stay (fun _ _ _ z => z) (fun d z => ?_) fun d xs z => ?_
      · rw [upd_ne (ne d _ z)]; exact z
      · rw [upd_ne (ne d _ z)]; exact z
theorem Caught.held (hex : X.ex = []) (c : Caught X pins σ H1 s1 a C a0 B H s2) (hfl : Heap.FlyingW B X.stack a (.ref C) a0 h) (hup : s2.heap.UpToSlots h) : H a = none ∧ Inv X pins σ (upd H a (ExcO a C)) { s2 with heap := h } := by
  have I := c.inv hfl hup
  obtain ⟨oe, vs, T, oT, ts, g1, ⟨g2, _⟩, g3, _⟩ := hfl.2.2.2
  have hBa : B.get? a = none := hfl.2.1
  have hHa : H a = none := by
    cases q : H a with
    | none => rfl
    | some o =>
      have ok := c.hokB a o q
      have l := ok.lt
      have ex : ∃ o', B.get? a = some o' := by
        cases o with
        | lst xs => obtain ⟨_, _, _, _, e⟩ := ok; exact ⟨_, e⟩
        | tup xs => obtain ⟨_, _, _, o', e, _⟩ := ok; exact ⟨_, e⟩
        | dK kvs => obtain ⟨_, _, _, _, o', _, _, e, _⟩ := ok; exact ⟨_, e⟩
        | dT kvs => exact False.elim ok
        | set S n => obtain ⟨o', _, _, _, e, _⟩ := ok; exact ⟨_, e⟩
        | ins C dx fs => obtain ⟨_, _, _, e, _⟩ := ok; exact ⟨_, e⟩
        | own y => exact ok
        | xd fs => obtain ⟨_, ⟨_, _, _, e, _⟩, _⟩ := ok; exact ⟨_, e⟩
        | rng lo hi => obtain ⟨_, _, _, e⟩ := ok; exact ⟨_, e⟩
        | frz ob u => obtain ⟨e, _⟩ := ok; exact ⟨_, e⟩
        | tbl ps => exact ⟨_, show B.get? a = some _ from ok⟩
        | met f y => exact ⟨_, show B.get? a = some _ from ok⟩
        | ext φ => obtain ⟨_, e, _⟩ := ok; exact e
      obtain ⟨o', e⟩ := ex
      rw [hBa] at e
      cases e
  have nstk : a ∉ frs X.stack := fun hb => by
    obtain ⟨_, o', ho', hd'⟩ := hfl.2.2.1.mem hb
    rw [g1] at ho'
    cases ho'
    exact hd' vs g3
  have ns1 : s1.heap.get? a = none := by
    cases q : s1.heap.get? a with
    | none => rfl
    | some o =>
      obtain ⟨o', e⟩ := c.thB a o q nstk
      rw [hBa] at e
      cases e
  have ns0 : X.s₀.heap.get? a = none := by
    cases q : X.s₀.heap.get? a with
    | none => rfl
    | some o =>
      obtain ⟨o', e⟩ := c.inv1.base.there a o q (by rw [hex]; simp)
      rw [ns1] at e
      cases e
  refine ⟨hHa, I.trackG ns0 hHa (fun z => ?_) (I.cellne g1 fun v z => by rw [g3] at z; cases z) (fun p hp z => ?_) ⟨⟨oe, vs, g1, g2, g3⟩, ⟨oe, g1⟩, fun h1 h2 ⟨o, ws, e1, e2, e3⟩ k => ⟨o, ws, k o e1, e2, e3⟩⟩⟩
  · obtain ⟨m, ⟨o, es, ep, ho, hd, _⟩, _⟩ := I.loc
    have ho : h.get? X.env.locals = some o := ho
    rw [← z, g1] at ho
    cases ho
    rw [g3] at hd
    cases hd
  · have := (c.inv1.pin p hp).1
    rw [z, ns1] at this
    cases this
end
section
variable {X : Cx} {pins : List (Addr × Obj)} {σ : St} {H : Hp} {s : Shared} {a : Addr} {E : Value → Shared → Prop}
end
end L2
set_option maxRecDepth 100000
namespace L2
open PySem PySem.Spec PyProof.Rows
section
variable {X : Cx} {x n : Str} {C0 : Addr} {i : Nat} {np pos : Pos} {b₀ : Stmt} {suite : List Stmt} {rest : List ExceptHandler} {ts : TS} {th : Ends → St → XK}
end
end L2
set_option maxRecDepth 100000
namespace L2
open PySem PySem.Spec PySem.Calls PyProof.Rows PySem.Builtin PySem.Builtin.ObjectAttr PySem.Builtin.Getset_descriptor
structure ExcG (K : PySem.W.Frag) (C : Addr) : Prop where
  ga : PySem.W.findIn K (.ref C) "__getattribute__" = some (some (.builtin "BaseException.__getattribute__"))
  gh : PySem.W.findIn K (.ref C) "__getattr__" = some none
  cl : PySem.W.findIn K (.ref C) "__class__" = some (some (.builtin "object.__class__"))
  gt : PySem.W.specialIn K (.builtin "object.__class__") "__get__" = some (some (.builtin "getset_descriptor.__get__"))
  tk : PySem.W.takesIn K (.builtin "object.__class__") = some true
  mo : PySem.W.mroIn K C (.type "object") = some true
  mb : PySem.W.mroIn K C (.type "BaseException") = some true
theorem ExcG.is {K : PySem.W.Frag} {C : Addr} (G : ExcG K C) : (PySem.W.clsIn K C).isSome = true := by
  have h := G.mo
  unfold PySem.W.mroIn at h
  cases q : PySem.W.clsIn K C with
  | some _ => rfl
  | none => rw [q] at h; cases h
section
variable {prog : Program} {w : World} {A : Around} {E : Value → Shared → Prop} {s : Shared} {K : PySem.W.Frag} {a C : Addr} {oe : Obj}
end
section
variable {X : Cx} {pins : List (Addr × Obj)} {σ : St} {H : Hp} {s : Shared} {a C : Addr} {c : Value} {b : Bool}
theorem vals_refs : ∀ {ds : List Addr} {us : List Value}, Vals (ds.map V.ref) us → us = ds.map Value.ref
  | [], _, r => by cases r; rfl
  | d :: ds, _, r => by
    cases r with
    | cons r1 r2 =>
      cases r1
      rw [vals_refs r2]
      rfl
end
end L2
set_option maxRecDepth 100000
namespace L2
open PySem PySem.Spec PyProof.Rows
section
variable {X : Cx} {es : List Expr} {k : Nat} {tp : Pos}
end
end L2
set_option maxRecDepth 100000
namespace L2
open PySem PySem.Spec PyProof.Rows
section
variable {X : Cx}
noncomputable def putAt {α : Type} (xs : List α) (k : Nat) (y : α) : List α := xs.take k ++ y :: xs.drop k
theorem putAt_len {α : Type} (xs : List α) (k : Nat) (y : α) : (putAt xs k y).length = xs.length + 1 := by
  unfold putAt
  rw [List.length_append, List.length_cons, List.length_take, List.length_drop]
  omega
theorem Vals.put {xs : List V} {us : List Value} {x : V} {u : Value} (h : Vals xs us) (r : RelV x u) (k : Nat) : Vals (putAt xs k x) (putAt us k u) := (h.take k).append (.cons r (h.drop k))
theorem putAt_arr (its : List Value) (k : Nat) (y : Value) : (its.toArray.extract 0 k).push y ++ its.toArray.extract k = (putAt its k y).toArray := by
  unfold putAt
  apply Array.toList_inj.mp
  simp
  exact List.take_of_length_le (by simp)
noncomputable def insV : V → List V → Hp → VK → Prop := fun x vs H Q => ∃ l xs, x = .ref l ∧ H l = some (.lst xs) ∧ xs.length < sizeLine ∧ match vs with
  | [.int i, y] => 0 ≤ i ∧ i < 2 ^ 62 ∧ Q .non (upd H l (.lst (putAt xs (min i.toNat xs.length) y)))
  | _ => False
theorem m_insert : MtM X "list.insert" insV := by
  intro pins s σ H x vs v us Q I rx rv h
  obtain ⟨l, xs, rfl, hH, hz, h⟩ := h
  cases rx
  split at h
  · rename_i i y
    obtain ⟨h0, h1, q⟩ := h
    obtain ⟨ui, uy, rfl, ri, ry⟩ := rv.two
    obtain ⟨t, rfl⟩ := ri
    obtain ⟨z, its, n, r, hl, e⟩ := I.lstM hH
    have hf : Builtin.List.listFitsIndex i = true := fitsIndex_both (by omega) (by omega)
    refine call_meets F.slot_list_insert ⟨_, e, rfl⟩ F.entry_list_insert (F.args_list_insert_3 _ _ _) (AutoSeq1.list_insert_list_int_val_1 l its.toArray n i t uy (by simp [hf]) (by rw [List.size_toArray]; omega)) ⟨e, ?_⟩
    refine ⟨.non, _, I.lset (its' := putAt its (min i.toNat its.length) uy) hH e ?_ (hl ▸ r.put ry _) ?_, rfl, q⟩
    · show (its.toArray.extract 0 (if i < 0 then (i + (its.toArray.size : Int)).toNat else min i.toNat its.toArray.size)).push uy ++ its.toArray.extract (if i < 0 then (i + (its.toArray.size : Int)).toNat else min i.toNat its.toArray.size) = _
      rw [if_neg (by omega), List.size_toArray]
      exact putAt_arr its _ uy
    · rw [putAt_len]
      omega
  · exact h.elim
theorem c_listVK {K : PySem.W.Frag} (hK : X.K = K) (hc : X.calm = true) : CallR X (.type "list") (listV K) := hK ▸ c_listV hc
end
end L2
set_option maxRecDepth 100000
namespace LP
open PySem L2
noncomputable def Whole (ns : List Int) : Prop := ∀ k : Nat, k < ns.length → ns.count (k : Int) = 1
instance (ns : List Int) : Decidable (Whole ns) := inferInstanceAs (Decidable (∀ k : Nat, k < ns.length → ns.count (k : Int) = 1))
noncomputable def Good (ns : List Int) (k : Nat) : Prop := (ns.take k).Nodup ∧ ∀ x ∈ ns.take k, 0 ≤ x ∧ x < ns.length
theorem upd_free {H : Hp} {a b : Addr} {o : HO} (h : upd H a o b = none) : H b = none ∧ b ≠ a := by
  by_cases e : b = a
  · subst e; rw [upd_same] at h; cases h
  · rw [upd_ne e] at h; exact ⟨h, e⟩
theorem same_put {H H' : Hp} {p : Addr} {o : HO} (sm : Same H H') (hn : H p = none) : Same H (upd H' p o) := fun b u q => by
  have : b ≠ p := by rintro rfl; rw [hn] at q; cases q
  rw [upd_ne this]
  exact sm b u q
end LP
set_option maxRecDepth 100000
namespace L2
open PySem PySem.Spec PyProof.Rows
theorem SameN.src {K : PySem.W.Frag} {H H' : Hp} {a : Addr} {xs : List V} (e : SameN H H') (h : Src K H a xs) : Src K H' a xs := by
  rcases h with h | h | ⟨lo, hi, h, r⟩
  · exact .inl (e.seq h)
  · rcases h with (h | ⟨o, h⟩) | h
    · exact .inr (.inl (.inl (.inl (e.at h (by intro ps z; cases z)))))
    · exact .inr (.inl (.inl (.inr ⟨o, e.at h (by intro ps z; cases z)⟩)))
    · exact .inr (.inl (.inr h))
  · exact .inr (.inr ⟨lo, hi, e.at h (by intro ps z; cases z), r⟩)
section
variable {X : Cx} {c P : Addr} {params : Arguments} {body : Expr} {scope : Scope} {cl : List (Str × Addr)} {cp : List (Str × Nat)} {x : Str} {q : Str} {e : Expr} {ta : TA} {te : TE} {np lp kp pos : Pos}
noncomputable def tSortL (K : PySem.W.Frag) (P : Addr) (lp : Pos) (q : Str) (cp : List (Str × Nat)) (ta : TA) (te : TE) : TE := fun σ H Q => ta σ H fun vs H1 => match vs with
  | [.ref a] => ∃ (xs : List V) (kL : List (List Nat)), Src K H1 a xs ∧ xs.length < 64 ∧ kL.length = xs.length ∧ Bk P lp q H1 ∧ (∀ H2 i y, SameN H1 H2 → xs[i]? = some y → te (lamS y cp σ) H2 fun k H' => H' = H2 ∧ k = .str (T (kL.getD i []))) ∧
      ∀ H2 l (p : List Nat), SameN H1 H2 → SameE P H1 H2 → Bk P lp q H2 → H2 l = none → p.Perm (List.range xs.length) → p.Pairwise (fun i j => kL.getD i [] ≤ kL.getD j [] ∧ (kL.getD i [] = kL.getD j [] → i < j)) → Q (.ref l) (upd H2 l (.lst (p.map fun i => xs.getD i .non)))
  | _ => False
theorem pe_sortL {K : PySem.W.Frag} (hK : X.K = K) (hc : X.calm = true) (hr : Room 2 X.A) (L : LamAt X c P) (hgl : Gl X "sorted") (hm : X.mg "sorted" = none) (hcl : closL scope.names X.env.cells [] = some cl) (hdef : defaultsOf params X.env = ([], [])) (hq : X.env.qual ++ "<lambda>" = q)
    (hk : scope.kind = .function) (hnc : ∀ y ∈ scope.names, y.2 ≠ .cell) (hcp : CapOk X scope cp) (hx : scope.names.lookup x = some .local) (hnx : x ∉ cp.map (·.1)) (hco : scope.isCoroutine = false) (hgen : scope.isGenerator = false)
    (hb : ∀ (pm : Value) (c' : Value) (ctv u : Value), bindArgs (PySem.W.kla_fn "<lambda>" q params body scope cl pm c' ctv) ⟨[u], []⟩ = pure [(x, u)]) (ha : PA X [e] ta)
    (he : ∀ A L f c' s H, PE (cxL X A (newEnv scope L mainGlobals cl (q ++ ".<locals>.") (some f) (.ref c') none builtinsNs) (x :: cp.map (·.1)) s H) body te)
    (hs : starEach [e] X.env = [(false, eval e X.env)] := by rfl) : PE X (.Call (.Name "sorted" np) [e] [⟨some "key", .Lambda params body scope lp, kp⟩] pos) (tSortL K P lp q cp ta te) := by
  subst hK
  intro pins s σ H Q I h
  refine wpAny_Call_Name_kw (ld_blt I hgl hm bt_sorted (callWith_kw ?_ (by rw [hs]; rfl) (by rw [hs]; rfl)))
  have hp := ha pos pins s σ H _ I h
  refine thn hp fun us s1 ⟨vs, H1, I1, rv, h1⟩ => ?_
  dsimp only at h1
  split at h1
  · rename_i a
    obtain ⟨xs, kL, hsrc, h64, hlen, bk, hkey, hfin⟩ := h1
    obtain ⟨u, rfl, ru⟩ := rv.one
    cases ru
    refine kws_cons (lam_make (body := body) I1 L hcl hdef bk hq fun f c' pm ctv H2 s2 I2 hc' bk2 sm se => kws_nil ?_)
    show wpAny _ X.A (call (.builtin "sorted") [.ref a] [(Str.ofString "key", .ref f)]) _ _ s2
    refine thn (sorted_by (Q := fun v H' => Q v H') hc (hr.mono (by decide)) I2 (sm.src hsrc) h64 hlen (fun ps s3 i y k w' I3 hy hk3 rw' => ?_) fun l p hl pm' pw => hfin H2 l p sm se bk2 hl pm' pw) fun v s3 z => ?_
    · have hd : X.A.in1.in1.depth < recursionLimit := by have := hr.dp; show X.A.depth < _; omega
      have ho : s3.heap.get? f = some (PySem.W.kla_obj "<lambda>" q params body scope cl pm c' ctv) := (I3.pin (f, _) (List.mem_append_right _ (List.mem_append_left _ (List.mem_append_right _ (List.mem_singleton.mpr rfl))))).1
      have hrec : s3.heap.CodeRec (.ref c') q := (I3.hok c' _ hc').1
      refine lam_call (X := X) (x := x) (cp := cp) I3 (show X.A.frames = some X.stack from I3.ok.frames) (show X.A.handled = none from I3.ok.hd hc) hd hcl hk hnc hcp hx hnx hco hgen ho hrec (fun u => hb pm (.ref c') ctv u) rw' he ?_
      have hi : i < kL.length := by
        have := (List.getElem?_eq_some_iff.mp hy).1
        omega
      have ek : k = .str (T (kL.getD i [])) := by
        rw [List.getElem?_map, List.getElem?_eq_getElem hi] at hk3
        rw [List.getD_eq_getElem?_getD, List.getElem?_eq_getElem hi]
        exact (Option.some.inj hk3).symm
      rw [ek]
      exact hkey H2 i y sm hy
    · obtain ⟨v', H3, I3, r3, q3⟩ := z
      exact ⟨v', H3, I3.unpinned, r3, q3⟩
  · exact h1.elim
end
end L2
namespace L2
open PySem PySem.Spec PyProof.Rows
structure Lm (mg : Str → Option Value) (base : Heap) (c P : Addr) : Prop where
  hd : PySem.W.CodeHd base c P
  bm : ∃ bm ob, mg "__builtins__" = some (.ref bm) ∧ bm ≠ builtinsNs ∧ base.get? bm = some ob ∧ ob.cls = .type "module" ∧ ob.dict = some builtinsNs ∧ ob.data = .plain
theorem Lm.at {X : Cx} {c P : Addr} (L : Lm X.mg X.base c P) (h : X.env.code = .ref c) : LamAt X c P := ⟨h, L.hd, L.bm⟩
section
variable {P : Program} {w : World} {K : PySem.W.Frag} {mg : Str → Option Value} {base : Heap}
end
abbrev BmAt (mg : Str → Option Value) (base : Heap) : Prop := ∃ bm ob, mg "__builtins__" = some (.ref bm) ∧ bm ≠ builtinsNs ∧ base.get? bm = some ob ∧ ob.cls = .type "module" ∧ ob.dict = some builtinsNs ∧ ob.data = .plain
theorem law_callT {P : Program} {w : World} {K : PySem.W.Frag} {mg mb : Str → Option Value} {CX : CXT} {k : Nat} {fa a : Addr} {fd : FuncData} {x : Str} {sp : Sp} {s₁ : Shared} {vs : List Value} {ns : List Int} {ts : List Addr}
    (KX : K.In s₁.heap) (hns : s₁.heap.Ns mainGlobals mg) (hb : s₁.heap.Ns builtinsNs mb) (hbb : ∀ x : Str, x ≠ "__name__" → mb x = bootBuiltins x) (hlim : s₁.heap.NoLimit) (hg : s₁.gens = #[])
    (hbm : ∃ bm ob, mg "__builtins__" = some (.ref bm) ∧ bm ≠ builtinsNs ∧ s₁.heap.get? bm = some ob ∧ ob.cls = .type "module" ∧ ob.dict = some builtinsNs ∧ ob.data = .plain)
    (ha : s₁.heap.get? a = some { cls := .type "list", data := .seq vs.toArray }) (hi : IntsAre vs ns) (hl : ns.length ≤ sizeLine) (hr : Room k callerA)
    (hts : ∀ p ∈ ts, s₁.heap.get? p = some (PySem.W.tabObj #[]) ∧ K.lookup p = none ∧ ∃ c, PySem.W.CodeHd s₁.heap c p)
    (F : ∀ base : Heap, K.In base → base.Ns mainGlobals mg → (∃ bm ob, mg "__builtins__" = some (.ref bm) ∧ bm ≠ builtinsNs ∧ base.get? bm = some ob ∧ ob.cls = .type "module" ∧ ob.dict = some builtinsNs ∧ ob.data = .plain) → FnOk P w K mg base CX k fa fd [x] sp)
    (hbind : ∀ (s : Shared) (u : Value), BindsTo s fd ⟨[u], []⟩ [(x, u)])
    (hsp : ∀ H : Hp, SqL K H a (ns.map V.int) → (∀ p ∈ ts, H p = some (.tbl #[])) → sp [.ref a] H (fun v _ => v = .bl true) fun _ _ _ => False)
    (hCX : ∀ H e s', CX [] H s₁ (fun _ _ _ => False) e s' → False) :
    codeAny (model P w) callerA (.call (.ref fa) ⟨[.ref a], []⟩) (fun r s' => r = .ok (.ret (.bool true)) ∧ OldK s₁.heap s'.heap ∧ s'.os = s₁.os ∧ AllBare s'.gens) s₁ := by
  have rv := vals_ints hi
  have lenV := hi.length
  have core : ∀ H : Hp, (∀ b, H b = none ∨ (b = a ∧ ∃ o xs, H b = some (.frz o (.lst xs))) ∨ (b ∈ ts ∧ H b = some (.tbl #[]))) → (∀ p ∈ ts, H p = some (.tbl #[])) → SqL K H a (ns.map V.int) → HOk P w H s₁.heap → (∀ b, H b ≠ none → K.lookup b = none) →
      codeAny (model P w) callerA (.call (.ref fa) ⟨[.ref a], []⟩) (fun r s' => r = .ok (.ret (.bool true)) ∧ OldK s₁.heap s'.heap ∧ s'.os = s₁.os ∧ AllBare s'.gens) s₁ := by
    intro H hO hT hS hok hK
    have dat : ∀ b u, s₁.heap.get? b = some u → H b = none ∨ (∃ its n, u.data = .seq its n) ∨ ∃ fs, u.data = .fields fs := fun b u e => by
      rcases hO b with z | ⟨rfl, _⟩ | ⟨z, _⟩
      · exact .inl z
      · rw [ha] at e; cases e; exact .inr (.inl ⟨_, _, rfl⟩)
      · rw [(hts b z).1] at e; cases e; exact .inr (.inr ⟨_, rfl⟩)
    have inB : ∀ {b : Addr} {o : Obj}, s₁.heap.get? b = some o → H b = none → (hidT s₁.heap H).get? b = some o := fun e n => hidT_get e n
    have nsB : ∀ {b : Addr} {m : Str → Option Value}, s₁.heap.Ns b m → (hidT s₁.heap H).Ns b m := fun {b m} ⟨o, es, ep, e, d, r⟩ => ⟨o, es, ep, inB e (by
      rcases dat b o e with z | ⟨_, _, z⟩ | ⟨_, z⟩
      · exact z
      · rw [d] at z; cases z
      · rw [d] at z; cases z), d, r⟩
    have hKb : K.In (hidT s₁.heap H) := fun b o e => inB (KX b o e) (by
      cases q : H b with
      | none => rfl
      | some u => rw [hK b (by rw [q]; simp)] at e; cases e)
    have hM : Mod K mg (hidT s₁.heap H) := ⟨hKb, nsB hns, ⟨mb, nsB hb, hbb⟩, let ⟨mc, h1, h2⟩ := hlim; ⟨mc, nsB h1, h2⟩⟩
    have e0 : Env0 P w K mg (hidT s₁.heap H) callerA [] s₁ H := ⟨rfl, hM, fun b o e => of_hidT e, Nat.le_of_eq (hidT_size _ _), trivial, fun b hb => absurd (show b ∈ ([] : List Addr) from hb) (by simp), hok, .of_eq hg⟩
    have hbmB : ∃ bm ob, mg "__builtins__" = some (.ref bm) ∧ bm ≠ builtinsNs ∧ (hidT s₁.heap H).get? bm = some ob ∧ ob.cls = .type "module" ∧ ob.dict = some builtinsNs ∧ ob.data = .plain := by
      obtain ⟨bm, ob, b1, b2, b3, b4, b5, b6⟩ := hbm
      refine ⟨bm, ob, b1, b2, inB b3 ?_, b4, b5, b6⟩
      rcases dat bm ob b3 with z | ⟨_, _, z⟩ | ⟨_, z⟩
      · exact z
      · rw [b6] at z; cases z
      · rw [b6] at z; cases z
    refine codeAny_mono ((F _ hKb (nsB hns) hbmB).run callerA [] s₁ H ⟨[.ref a], []⟩ [.ref a] [.ref a] _ _ hr e0 (hbind s₁ (.ref a)) (.cons rfl .nil) (hsp H hS hT)) fun r s' h => ?_
    cases r with
    | error e => exact (hCX H e s' h).elim
    | ok fl =>
      cases fl with
      | next => exact False.elim h
      | brk => exact False.elim h
      | cont => exact False.elim h
      | ret u =>
        obtain ⟨v, H', os, bare, un, hok', r', q⟩ := h
        have q' : v = .bl true := q
        subst q'
        obtain rfl : u = Value.bool true := r'
        have old : ∀ b o, s₁.heap.get? b = some o → s'.heap.get? b = some o ∨ ∃ more, b ∈ ts ∧ s'.heap.get? b = some (PySem.W.tabObj more) := fun b o e => by
          rcases hO b with z | ⟨_, ob, xs, z⟩ | ⟨zt, z⟩
          · exact .inl (un.keep b o e z (by intro y; exact absurd (show b ∈ ([] : List Addr) from y) (by simp)) (by simp))
          · have z2 := un.frzs b ob _ z
            obtain ⟨e1, _⟩ := hok b _ z
            obtain ⟨e2, _⟩ := hok' b _ z2
            rw [e] at e1; cases e1
            exact .inl e2
          · obtain ⟨more, z2⟩ := un.tbls b _ z
            exact .inr ⟨_, zt, hok' b _ z2⟩
        refine ⟨rfl, ⟨fun b o e => ?_, fun b o e => ?_⟩, os, bare⟩
        · rcases old b o e with z | ⟨more, zt, z⟩
          · exact .inl z
          · obtain ⟨t1, _, c, t2⟩ := hts b zt
            rw [t1] at e
            cases e
            refine .inr (.inl ⟨(t2.tab t1).isCodeTable, rfl, #[], more, rfl, ?_⟩)
            rw [z]
            simp
        · rcases old b o e with z | ⟨more, _, z⟩
          · exact ⟨_, z⟩
          · exact ⟨_, z⟩
  have aT : a ∉ ts := fun z => by
    have := (hts a z).1
    rw [ha] at this
    cases this
  cases hk : K.lookup a with
  | some o =>
    have e := KX a o hk
    rw [ha] at e
    cases e
    refine core (fun b => if b ∈ ts then some (.tbl #[]) else none) (fun b => ?_) (fun p hp => if_pos hp) (.inr ⟨_, vs.toArray, _, hk, rfl, rfl, rfl, by rw [List.size_toArray, lenV]; exact hl, by simpa using rv⟩) (fun b u z => ?_) fun b z => ?_
    · by_cases hb : b ∈ ts
      · exact .inr (.inr ⟨hb, if_pos hb⟩)
      · exact .inl (if_neg hb)
    · by_cases hb : b ∈ ts
      · have z' := (if_pos hb).symm.trans z
        cases z'
        exact (hts b hb).1
      · have z' := (if_neg hb).symm.trans z
        cases z'
    · by_cases hb : b ∈ ts
      · exact (hts b hb).2.1
      · exact absurd (if_neg hb) z
  | none =>
    refine core (fun b => if b = a then some (.frz { cls := .type "list", data := .seq vs.toArray } (.lst (ns.map V.int))) else if b ∈ ts then some (.tbl #[]) else none) (fun b => ?_) (fun p hp => ?_) (.inl (.inr ⟨{ cls := .type "list", data := .seq vs.toArray }, if_pos rfl⟩)) (fun b u z => ?_) fun b z => ?_
    · by_cases hb : b = a
      · exact .inr (.inl ⟨hb, _, _, if_pos hb⟩)
      · by_cases hb2 : b ∈ ts
        · exact .inr (.inr ⟨hb2, (if_neg hb).trans (if_pos hb2)⟩)
        · exact .inl ((if_neg hb).trans (if_neg hb2))
    · have : p ≠ a := fun z => aT (z ▸ hp)
      exact (if_neg this).trans (if_pos hp)
    · by_cases hb : b = a
      · have z' := (if_pos hb).symm.trans z
        cases z'
        subst hb
        exact ⟨ha, by rw [List.length_map]; exact hl, vs, _, rv, ha⟩
      · by_cases hb2 : b ∈ ts
        · have z' := ((if_neg hb).trans (if_pos hb2)).symm.trans z
          cases z'
          exact (hts b hb2).1
        · have z' := ((if_neg hb).trans (if_neg hb2)).symm.trans z
          cases z'
    · by_cases hb : b = a
      · rw [hb]; exact hk
      · by_cases hb2 : b ∈ ts
        · exact (hts b hb2).2.1
        · exact absurd ((if_neg hb).trans (if_neg hb2)) z
theorem walk_ofT {l : PySem.W.OpenLaw} {n k : Nat} {q : Program} {loose : List Str} {XP : (Str → Option Value) → Heap → Prop} {YP : World → Heap → Prop} {d : DefRec} {K : Params → PySem.W.Frag} {CX : World → CXT} {sp : World → Sp} {x : Str} {ts : List Addr}
    (hn : l.most = some n) (hn2 : n ≤ sizeLine) (hdf : d.params.defaults = []) (hr : Room k callerA)
    (hY : ∀ (w : World) (h : Heap), YP w h → (K w.params).In h ∧ ∀ p ∈ ts, h.get? p = some (PySem.W.tabObj #[]))
    (F : ∀ (w : World) (mg : Str → Option Value) (fa : Addr) (h : Heap), (K w.params).In h → h.Ns mainGlobals mg → mg d.name = some (.ref fa) →
      (∀ p ∈ ts, (K w.params).lookup p = none ∧ ∃ c, PySem.W.codeHdIn (K w.params) c p = true) ∧ ∃ fd : FuncData, (∀ (s : Shared) (u : Value), BindsTo s fd ⟨[u], []⟩ [(x, u)]) ∧
        ∀ base : Heap, (K w.params).In base → base.Ns mainGlobals mg → (∃ bm ob, mg "__builtins__" = some (.ref bm) ∧ bm ≠ builtinsNs ∧ base.get? bm = some ob ∧ ob.cls = .type "module" ∧ ob.dict = some builtinsNs ∧ ob.data = .plain) → FnOk l.prog w (K w.params) mg base (CX w) k fa fd [x] (sp w))
    (hsp : ∀ (w : World) (H : Hp) (a : Addr) (ns : List Int), ns.length ≤ n → SqL (K w.params) H a (ns.map V.int) → (∀ p ∈ ts, H p = some (.tbl #[])) → sp w [.ref a] H (fun v _ => v = .bl true) fun _ _ _ => False)
    (hCX : ∀ (w : World) (H : Hp) (s : Shared) (e : Value) (s' : Shared), CX w [] H s (fun _ _ _ => False) e s' → False) :
    PySem.W.WalkO q loose XP YP l.row.toRowW d [] (fun f vs => PySem.call f vs) := by
  refine Att.attach_call hn hdf fun w s₀ s₁ mg mb fa o pm cd doc a vs ns G Y ho hd hcd hmg hobj hints hlen hg => ?_
  obtain ⟨KX, TX⟩ := hY w _ Y
  obtain ⟨hT, fd, hb, hF⟩ := F w mg fa _ KX G.T.g hmg
  refine law_callT (ts := ts) KX G.T.g G.T.b G.T.builtins G.T.nolimit hg G.T.bmain hobj hints (Nat.le_trans hlen hn2) hr (fun p hp => ⟨TX p hp, (hT p hp).1, ?_⟩) hF hb (fun H hS hTb => hsp w H a ns hlen hS hTb) fun H e s' => hCX w H s₁ e s'
  obtain ⟨c, e⟩ := (hT p hp).2
  exact ⟨c, PySem.W.codeHd_of_K KX e⟩
end L2
set_option maxRecDepth 100000
namespace L2
open PySem PySem.Spec PyProof.Rows
section
variable {X : Cx} {pins : List (Addr × Obj)} {σ : St} {H : Hp} {s : Shared}
theorem vals_by {xs : List V} {vs : List Value} (rv : Vals xs vs) : ∀ l : List Nat, (∀ i ∈ l, i < vs.length) → Vals (l.map fun i => xs.getD i .non) (l.map fun i => vs.getD i Value.none) := by
  intro l
  have lv := rv.length
  induction l with
  | nil => intro _; exact .nil
  | cons i r ih =>
    intro hi
    have hi0 := hi i List.mem_cons_self
    refine .cons ?_ (ih fun j hj => hi j (List.mem_cons_of_mem _ hj))
    have hx : xs[i]? = some (xs.getD i .non) := by
      rw [List.getD_eq_getElem?_getD, List.getElem?_eq_getElem (by omega)]
      rfl
    obtain ⟨u, hu, r'⟩ := rv.get hx
    have e : vs.getD i Value.none = u := by rw [List.getD_eq_getElem?_getD, hu]; rfl
    show RelV (xs.getD i .non) (vs.getD i Value.none)
    rw [e]
    exact r'
theorem sorted_gen {Q : VK} {E : Value → Shared → Prop} {a : Addr} {κ : SortKind} {O : KeyOrd} (hc : X.calm = true) (hh : X.A.handled = none)
    (hcoll : ∀ (A : Around) (E : Value → Shared → Prop), A.handled = none → wpAny (model X.prog X.w) A (collect (.ref a)) (fun vs s1 => ∃ (xs : List V) (key : Nat → O.α), Inv X pins σ H s1 ∧ Vals xs vs ∧ xs.length < 64 ∧
      (∀ s' vs (E : Value → Shared → Prop) (Q' : SortKind → Shared → Prop), Inv X pins σ H s' → Vals xs vs → 2 ≤ xs.length → Q' κ s' → wpAny (model X.prog X.w) X.A.in1.in1 (keyKind' vs.toArray) Q' E s') ∧
      (∀ s' vs, Inv X pins σ H s' → Vals xs vs → LS.Asks key xs.length (fun t => t = s') (PySem.W.kas_ask X.prog X.w X.A.in1.in1 κ vs)) ∧
      ∀ l (p : Array Nat), H l = none → LS.Pm xs.length p → LS.Up key p xs.length → Q (.ref l) (upd H l (.lst (p.toList.map fun i => xs.getD i .non)))) E s) :
    wpAny (model X.prog X.w) X.A (call (.builtin "sorted") [.ref a]) (EP X pins σ Q) E s := by
  have hsl : sizeLine = 16777216 := sizeLine_eq
  refine Calls.call_function_entry kind_sorted plain_sorted entry_sorted (args_sorted1 _) ?_
  unfold Builtin.«sorted»
  refine wpAny_bind (m := checkCount "sorted" 1 1 _) (wpAny_pure ?_)
  refine wpAny_bind (wpAny_mono (hcoll _ _ hh) (fun vs s1 ⟨xs, key, I, rv, h64, hkind, hask, h⟩ => ?_) fun _ _ z => z)
  have lv := rv.length
  refine wpAny_bind (wpAny_newList ?_ (by omega))
  have k2 : ∀ b o, s1.heap.get? b = some o → (s1.heap.push { cls := .type "list", data := .seq vs.toArray }).get? b = some o := fun b o e => Heap.get?_push_of_some _ e
  have I2 : Inv X pins σ H { s1 with heap := s1.heap.push { cls := .type "list", data := .seq vs.toArray }, toks := s1.toks } := I.kept k2
  have I1 : Inv X pins σ H { s1 with heap := s1.heap, toks := s1.toks } := I
  have Wa : Own X pins H s1.heap.objs.size := Own.fresh I1 (Nat.le_refl _)
  have ho : (s1.heap.push { cls := .type "list", data := .seq vs.toArray }).get? s1.heap.objs.size = some (seqObj "list" vs.toArray 0) := Heap.get?_push_size _ rfl
  refine wpAny_bind (wpAny_holding (wpAny_call_entry slot_list_sort ⟨_, ho, rfl⟩ entry_list_sort ?_ (args_list_sort _)))
  rw [list_sort_plain]
  refine wpAny_bind (listItems_at ho rfl ?_)
  refine wpAny_bind (listUpdate_at ho rfl ?_ (by rw [List.size_toArray]; omega) (Nat.zero_le _))
  have hs1 := Heap.SameBut.update (s1.heap.push { cls := .type "list", data := .seq vs.toArray }) s1.heap.objs.size (Obj.mapSeq fun _ => (#[] : Array Value))
  obtain ⟨e1, ho1⟩ : ∃ e1, ((s1.heap.push { cls := .type "list", data := .seq vs.toArray }).update s1.heap.objs.size (Obj.mapSeq fun _ => (#[] : Array Value))).get? s1.heap.objs.size = some (seqObj "list" #[] e1) := ⟨_, get?_update_seq ho fun _ => #[]⟩
  refine wpAny_bind (seqEpoch_at ho1 rfl ?_)
  refine wpAny_bind (wpAny_newTuple ?_ (by show vs.length ≤ _; omega))
  refine wpAny_bind (wpAny_newList ?_ (Nat.zero_le _))
  refine wpAny_holding ?_
  have I3 : Inv X pins σ H { s1 with heap := (s1.heap.push { cls := .type "list", data := .seq vs.toArray }).update s1.heap.objs.size (Obj.mapSeq fun _ => (#[] : Array Value)), toks := s1.toks } :=
    I2.alter (s := { s1 with heap := s1.heap.push { cls := .type "list", data := .seq vs.toArray }, toks := s1.toks }) Wa ho (fun v z => by cases z) fun b u hb z => (hs1.2 b hb).trans z
  generalize hg4 : (s1.heap.push { cls := .type "list", data := .seq vs.toArray }).update s1.heap.objs.size (Obj.mapSeq fun _ => (#[] : Array Value)) = h4 at *
  have I5 : Inv X pins σ H { s1 with heap := (h4.push { cls := .type "tuple", data := .seq vs.toArray }).push { cls := .type "list", data := .seq ([] : List Value).toArray }, toks := s1.toks } :=
    I3.kept (s := { s1 with heap := h4, toks := s1.toks }) (t' := s1.toks) fun b o e => Heap.get?_push_of_some _ (Heap.get?_push_of_some _ e)
  have ha5 : ((h4.push { cls := .type "tuple", data := .seq vs.toArray }).push { cls := .type "list", data := .seq ([] : List Value).toArray }).get? s1.heap.objs.size = some (seqObj "list" #[] e1) := Heap.get?_push_of_some _ (Heap.get?_push_of_some _ ho1)
  have tail : ∀ (P : PySem.Fin → Shared → Prop), (∀ (p : Array Nat) s', LS.Pm vs.length p → LS.Up key p vs.length → Inv X pins σ (upd H s1.heap.objs.size (.lst (p.toList.map fun i => xs.getD i .non))) s' → P (.done (.ret .none)) s') → ∀ (st : SortSt) (p : Array Nat), LS.Pm vs.length p → LS.Up key p vs.length → arrOf st = p.map (PySem.W.kas_item (vs.toArray.zip vs.toArray)) → failedOf st = none →
      wpAny (model X.prog X.w) X.A.in1.in1 (do
        let sorted := (arrOf st).map (·.2)
        let touched := (← seqEpoch s1.heap.objs.size) != e1
        Builtin.List.listUpdate (.ref s1.heap.objs.size) fun _ => sorted
        if let some e := failedOf st then rule "list.sort.comparison-raised"; throw e
        if touched then rule "list.sort.modified"; raiseError "ValueError" "list modified during sort"
        ret .none) P E
        { s1 with heap := (h4.push { cls := .type "tuple", data := .seq vs.toArray }).push { cls := .type "list", data := .seq ([] : List Value).toArray }, toks := s1.toks } := by
    intro P hP st p hp hu har hf
    have hout := PySem.W.kat_snds rfl har
    have hps := hp.size
    dsimp only
    rw [hout]
    generalize hg5 : (h4.push { cls := .type "tuple", data := .seq vs.toArray }).push { cls := .type "list", data := .seq ([] : List Value).toArray } = h5 at *
    have hs2 := Heap.SameBut.update h5 s1.heap.objs.size (Obj.mapSeq fun _ => List.toArray (p.toList.map fun i => vs.getD i Value.none))
    obtain ⟨c2, hg⟩ : ∃ c2, (h5.update s1.heap.objs.size (Obj.mapSeq fun _ => List.toArray (p.toList.map fun i => vs.getD i Value.none))).get? s1.heap.objs.size = some (seqObj "list" (List.toArray (p.toList.map fun i => vs.getD i Value.none)) c2) := ⟨_, get?_update_seq ha5 (fun _ => List.toArray (p.toList.map fun i => vs.getD i Value.none))⟩
    refine wpAny_bind (seqEpoch_at ha5 rfl ?_)
    refine wpAny_bind (listUpdate_at ha5 rfl ?_ (Nat.zero_le _) (by show (List.toArray _).size ≤ _; rw [List.size_toArray, List.length_map, Array.length_toList]; omega))
    rw [hf]
    simp only [bne_self_eq_false, Bool.false_eq_true, if_false]
    have I6 : Inv X pins σ H { s1 with heap := h5.update s1.heap.objs.size (Obj.mapSeq fun _ => List.toArray (p.toList.map fun i => vs.getD i Value.none)), toks := s1.toks } := I5.alter (s := { s1 with heap := h5, toks := s1.toks }) Wa ha5 (fun v z => by cases z) fun b u hb z => (hs2.2 b hb).trans z
    refine wpAny_pure (hP p _ hp hu (I6.track Wa (I6.cellne hg fun v z => by cases z) ?_))
    refine ⟨by rw [List.length_map, Array.length_toList]; omega, p.toList.map fun i => vs.getD i Value.none, c2, ?_, hg⟩
    exact vals_by rv p.toList fun i hi => List.mem_range.mp (hp.mem_iff.mp hi)
  dsimp only
  have fin : ∀ (p : Array Nat) s', LS.Pm vs.length p → LS.Up key p vs.length → Inv X pins σ (upd H s1.heap.objs.size (.lst (p.toList.map fun i => xs.getD i .non))) s' → EP X pins σ Q (.ref s1.heap.objs.size) s' := fun p s' hp hu J => ⟨.ref s1.heap.objs.size, _, J, rfl, h _ p Wa.free (by rw [lv]; exact hp) (by rw [lv]; exact hu)⟩
  by_cases h2 : vs.toArray.size < 2
  · rw [if_pos h2, if_pos h2]
    refine wpAny_bind (wpAny_pure ?_)
    rw [StateT.run_pure]
    refine wpAny_bind (wpAny_pure ?_)
    rw [List.size_toArray] at h2
    refine tail _ (fun p s' hp hu J => ⟨_, rfl, wpAny_pure ⟨_, rfl, fin p s' hp hu J⟩⟩) _ (List.toArray (List.range vs.length)) (by unfold LS.Pm; simp) (fun i j hij hj => ?_) ?_ rfl
    · have : i = j := by omega
      subst this
      exact KeyOrd.kle_refl _
    · have e := PySem.W.kas_range (vs.toArray.zip vs.toArray)
      rw [show (vs.toArray.zip vs.toArray).size = vs.length by simp] at e
      exact e.symm
  · rw [if_neg h2, if_neg h2]
    rw [List.size_toArray] at h2
    have hask' := hask _ vs I5 rv
    rw [lv] at hask'
    refine wpAny_bind (hkind _ vs _ _ I5 rv (by omega) ?_)
    refine wpAny_bind (wpAny_mono (PySem.W.kat_run (E := E) (Q := fun st' s' => s' = { s1 with heap := (h4.push { cls := .type "tuple", data := .seq vs.toArray }).push { cls := .type "list", data := .seq ([] : List Value).toArray }, toks := s1.toks } ∧ ∃ p : Array Nat, LS.Pm vs.length p ∧ LS.Up key p vs.length ∧ arrOf st' = p.map (PySem.W.kas_item (vs.toArray.zip vs.toArray)) ∧ failedOf st' = none) (G := fun p s' => s' = { s1 with heap := (h4.push { cls := .type "tuple", data := .seq vs.toArray }).push { cls := .type "list", data := .seq ([] : List Value).toArray }, toks := s1.toks } ∧ LS.Pm vs.length p ∧ LS.Up key p vs.length) rfl (by omega) (by omega) (fun p st' s' _ q2 q3 q4 => ⟨q4.1, p, q4.2.1, q4.2.2, q2, q3⟩) (LS.sort_ok2 hask' (by omega) rfl fun p s' q1 q2 q3 => ⟨q1, q2, q3⟩)) ?_ fun _ _ z => z)
    rintro ⟨⟨⟩, st'⟩ s' ⟨rfl, p, q1, q2, q3, q4⟩
    exact tail _ (fun p s' hp hu J => ⟨_, rfl, wpAny_pure ⟨_, rfl, fin p s' hp hu J⟩⟩) st' p q1 q2 q3 q4
theorem up_pairs {kL : List (List Nat)} {n : Nat} {p : Array Nat} (hp : LS.Pm n p) (hu : LS.Up (O := strKind.toKeyOrd) (fun i => kL.getD i []) p n) : p.toList.Pairwise (fun i j => kL.getD i [] ≤ kL.getD j []) := by
  have hps := hp.size
  refine List.pairwise_iff_getElem.mpr fun i j hi hj hij => ?_
  rw [Array.length_toList] at hi hj
  have := hu i j (Nat.le_of_lt hij) (by omega)
  have gi : LS.gt p i = p.toList[i] := by
    unfold LS.gt
    rw [Array.getD_eq_getD_getElem?]
    simp [hi]
  have gj : LS.gt p j = p.toList[j] := by
    unfold LS.gt
    rw [Array.getD_eq_getD_getElem?]
    simp [hj]
  rw [gi, gj] at this
  have this : decide (kL.getD p.toList[j] [] < kL.getD p.toList[i] []) = false := this
  exact List.not_lt.mp (of_decide_eq_false this)
end
end L2
set_option maxRecDepth 100000
namespace L2
open PySem PySem.Spec PyProof.Rows
section
variable {X : Cx}
theorem PFs.imp {ifs : List Expr} {t t' : TT} (h : PFs X ifs t) (hi : ∀ σ H Q, t' σ H Q → ∃ Q0 : Bool → Hp → Prop, t σ H Q0 ∧ ∀ b H', Q0 b H' → Q b H') : PFs X ifs t' := fun pins s σ H Q I q => by
  obtain ⟨Q0, h0, h1⟩ := hi σ H Q q
  exact thn (h pins s σ H Q0 I h0) fun b s1 ⟨H1, I1, q⟩ => ⟨H1, I1, h1 b H1 q⟩
noncomputable def oneC (tc : TT) (te : TE) (σ : St) (acc : List V) (N : Hp → List V → Prop) (H : Hp) : Prop := tc σ H fun b H3 => if b = true then te σ H3 fun y H4 => N H4 (acc ++ [y]) else N H3 acc
noncomputable def cloE (te : TE) : TE := fun σ H Q => ∃ Q0 : VK, te σ H Q0 ∧ ∀ v H', Q0 v H' → Q v H'
noncomputable def cloT (tc : TT) : TT := fun σ H Q => ∃ Q0 : Bool → Hp → Prop, tc σ H Q0 ∧ ∀ b H', Q0 b H' → Q b H'
theorem oneC_clo {tc : TT} {te : TE} {σ : St} {acc : List V} {N N' : Hp → List V → Prop} {H : Hp} (hN : ∀ H a, a.length ≤ acc.length + 1 → N H a → N' H a) (h : oneC tc te σ acc N H) : oneC (cloT tc) (cloE te) σ acc N' H := by
  refine ⟨_, h, fun b H3 q => ?_⟩
  cases b with
  | true => exact ⟨_, q, fun y H4 q4 => hN _ _ (by simp) q4⟩
  | false => exact hN _ _ (by omega) q
noncomputable def tCL (K : PySem.W.Frag) (n : Nat) (cp : List (Str × Nat)) (tl : TE) (tc : TT) (te : TE) : TE := fun σ H Q => tl σ H fun v H1 => match v with
  | .ref a => ∃ xs, SqL K H1 a xs ∧ xs.length < 16777216 ∧ ∃ Pv : Nat → Hp → List V → Prop, Pv 0 H1 [] ∧ (∀ i H2 acc, i ≤ xs.length → Pv i H2 acc → SqL K H2 a xs) ∧ (∀ i y H2 acc, xs[i]? = some y → Pv i H2 acc → oneC tc te ((capS n cp σ).set 0 (some y)) acc (Pv (i + 1)) H2) ∧ ∀ H2 acc, Pv xs.length H2 acc → ∀ l, H2 l = none → Q (.ref l) (upd H2 l (.lst acc))
  | _ => False
theorem pe_compL {K : PySem.W.Frag} {elt iter : Expr} {ifs : List Expr} {x : Str} {px : Pos} {scope : Scope} {pos : Pos} {cl : List (Str × Addr)} {own : List Str} {cp : List (Str × Nat)} {tl : TE} {tc : TT} {te : TE} (hK : X.K = K)
    (hc : X.calm = true) (hcl : closL scope.names X.env.cells [] = some cl) (hk : scope.kind = .function) (hnc : ∀ y ∈ scope.names, y.2 ≠ .cell)
    (hnm : ∀ x ∈ scope.names, x.2 = .local → scope.names.lookup x.1 = some .local) (hcp : CapOk X scope cp) (hl : PE X iter tl) (hn : 0 < own.length)
    (hg : ∀ fp C s H, PG (cxC X scope cl (own ++ cp.map (·.1)) fp C s H) (.Name x px) (gName 0)) (ht : ∀ fp C s H, PFs (cxC X scope cl (own ++ cp.map (·.1)) fp C s H) ifs tc) (he : ∀ fp C s H, PE (cxC X scope cl (own ++ cp.map (·.1)) fp C s H) elt te)
    (hs : ∀ z, foldedSetIterable iter X.env z = pure z := by intro _; rfl) : PE X (.ListComp elt [⟨.Name x px, iter, ifs, 0⟩] scope pos) (tCL K own.length cp tl tc te) := by
  subst hK
  have hl' : PE X iter (fun σ H Q => ∃ Q0 : VK, tl σ H Q0 ∧ ∀ v H', Q0 v H' → Q v H') := hl.imp fun σ H Q h => h
  intro pins s σ H Q I h
  refine pe_comp hc hcl hk hnc hnm hcp (pi_list hl') (gk_name hn) hg (fun fp C s H => (ht fp C s H).imp (t' := cloT tc) fun _ _ _ z => z) (fun fp C s H => (he fp C s H).imp (t' := cloE te) fun _ _ _ z => z) hs pins s σ H Q I ?_
  refine ⟨_, h, fun v H1 q => ?_⟩
  cases v with
  | ref a =>
    obtain ⟨xs, hx, hz, Pv, p0, pl, ps, pe⟩ := q
    have hsl : sizeLine = 16777216 := sizeLine_eq
    refine ⟨a, rfl, ⟨xs, hx⟩, fun i m H2 acc => m = xs.length - i ∧ i ≤ xs.length ∧ acc.length ≤ i ∧ Pv i H2 acc, ⟨xs.length, by omega, Nat.zero_le _, Nat.le_refl _, p0⟩, ?_⟩
    rintro i m H2 acc ⟨rfl, hi, hla, pv'⟩
    refine ⟨by omega, ?_⟩
    have hx2 := pl i H2 acc hi pv'
    by_cases hlt : i < xs.length
    · refine .inr ⟨⟨xs, xs[i], hx2, by simp [hlt]⟩, fun y H3 ⟨e3, ey⟩ => ?_⟩
      subst e3
      exact oneC_clo (N' := fun H a => ∃ m', m' < xs.length - i ∧ (m' = xs.length - (i + 1) ∧ i + 1 ≤ xs.length ∧ a.length ≤ i + 1 ∧ Pv (i + 1) H a)) (fun H a ha z => ⟨xs.length - (i + 1), by omega, rfl, hlt, by omega, z⟩) (ps i y H3 acc (ey xs hx2) pv')
    · have e : i = xs.length := by omega
      subst e
      exact .inl ⟨⟨xs, hx2, Nat.le_refl _⟩, fun l hl' => pe H2 acc pv' l hl'⟩
  | _ => exact False.elim q
end
end L2
set_option maxRecDepth 100000
namespace L2
open PySem PySem.Spec PyProof.Rows
noncomputable def Its (z : Str) : It := ⟨fun i _ => i < (L z).length, fun i H x H' => H' = H ∧ x = .str (T [(L z).getD i 0]), fun i _ => (L z).length ≤ i⟩
theorem cps_at {z : Str} {i : Nat} (h : i < (L z).length) : z.cps[i]? = some ((L z).getD i 0) := by
  unfold L at h ⊢
  rw [Array.length_toList] at h
  rw [List.getD_eq_getElem?_getD, Array.getElem?_toList, Array.getElem?_eq_getElem h]
  rfl
theorem cps_out {z : Str} {i : Nat} (h : (L z).length ≤ i) : z.cps[i]? = none := by
  unfold L at h
  rw [Array.length_toList] at h
  exact Array.getElem?_eq_none h
section
variable {P : Program} {w : World} {K : PySem.W.Frag} {tg : Expr}
theorem turn_ascii (z : Str) (t : Tok) (it : Addr) : Turn P w K tg (Its z) [it] it (fun i h => h.IsStrIter it "str_ascii_iterator" z t i) where
  mem := by simp
  obj := fun i h st b hb => by
    have e : b = it := by simpa using hb
    subst e
    obtain ⟨o, e, c, d⟩ := st
    exact ⟨o, e, fun v y => by rw [d] at y; cases y⟩
  keep := fun i h h' st k => by
    obtain ⟨o, e, c, d⟩ := st
    exact ⟨o, k it (by simp) o e, c, d⟩
  item := by
    intro X hP hw hK hc i pins s σ H E I hf st hg
    subst hP hw hK
    obtain ⟨f0, f1, f2, f3, f4, f5⟩ := hf it (by simp)
    refine wpAny_pyNext_ascii_item st (cps_at hg) fun h' st' sb => ?_
    have I1 : Inv X pins σ H { s with heap := h', toks := s.toks + 1 } := I.turned (t' := s.toks + 1) (fun b o hb e => (sb.2 b hb).trans e) f0 f1 f3 f4 f5
    obtain ⟨o, e, c, d⟩ := id st'
    exact ⟨_, rfl, go_of (s := { s with heap := h', toks := s.toks + 1 }) e c d (by decide) ⟨.str (T [(L z).getD i 0]), H, I1, ⟨_, rfl⟩, ⟨rfl, rfl⟩, st', fun b hb => (hf b hb).1⟩⟩
  done := by
    intro X hP hw hK hc i pins s σ H E I hf st hg
    subst hP hw hK
    obtain ⟨f0, f1, f2, f3, f4, f5⟩ := hf it (by simp)
    exact wpAny_pyNext_ascii_end (I.ok.hd hc) st (cps_out hg) fun h' eb => ⟨rfl, I.turned (t' := s.toks) (fun b o hb e => eb b o hb e) f0 f1 f3 f4 f5⟩
  self := fun _ _ _ _ _ st h => wpAny_pyIter_striter_ascii st h
theorem turn_wide (z : Str) (t : Tok) (it : Addr) : Turn P w K tg (Its z) [it] it (fun i h => h.IsStrIter it "str_iterator" z t i) where
  mem := by simp
  obj := fun i h st b hb => by
    have e : b = it := by simpa using hb
    subst e
    obtain ⟨o, e, c, d⟩ := st
    exact ⟨o, e, fun v y => by rw [d] at y; cases y⟩
  keep := fun i h h' st k => by
    obtain ⟨o, e, c, d⟩ := st
    exact ⟨o, k it (by simp) o e, c, d⟩
  item := by
    intro X hP hw hK hc i pins s σ H E I hf st hg
    subst hP hw hK
    obtain ⟨f0, f1, f2, f3, f4, f5⟩ := hf it (by simp)
    refine wpAny_pyNext_wide_item st (cps_at hg) fun h' st' sb => ?_
    have I1 : Inv X pins σ H { s with heap := h', toks := s.toks + 1 } := I.turned (t' := s.toks + 1) (fun b o hb e => (sb.2 b hb).trans e) f0 f1 f3 f4 f5
    obtain ⟨o, e, c, d⟩ := id st'
    exact ⟨_, rfl, go_of (s := { s with heap := h', toks := s.toks + 1 }) e c d (by decide) ⟨.str (T [(L z).getD i 0]), H, I1, ⟨_, rfl⟩, ⟨rfl, rfl⟩, st', fun b hb => (hf b hb).1⟩⟩
  done := by
    intro X hP hw hK hc i pins s σ H E I hf st hg
    subst hP hw hK
    obtain ⟨f0, f1, f2, f3, f4, f5⟩ := hf it (by simp)
    exact wpAny_pyNext_wide_end (I.ok.hd hc) st (cps_out hg) fun h' eb => ⟨rfl, I.turned (t' := s.toks) (fun b o hb e => eb b o hb e) f0 f1 f3 f4 f5⟩
  self := fun _ _ _ _ _ st h => wpAny_pyIter_striter_wide st h
end
section
variable {X : Cx} {tg : Expr}
noncomputable def iStr (tl : TE) : TI := fun σ H R => tl σ H fun x H1 => ∃ z, x = .str z ∧ R (Its z) H1
theorem pi_str {l : Expr} {tl : TE} (hl : PE X l tl) : PI X tg l (iStr tl) := by
  intro pins s σ H R I h
  refine thn (hl pins s σ H _ I h) fun v s1 ⟨x, H1, I1, r1, q1⟩ => ?_
  obtain ⟨z, e, q⟩ := q1
  subst e
  obtain ⟨t, rfl⟩ := r1
  refine wpAny_pyIter_strU ?_
  have fp : ∀ b ∈ [s1.heap.objs.size], FpOk X pins H1 b := fun b hb => by
    have e : b = s1.heap.objs.size := by simpa using hb
    subst e
    exact I1.fpOk (Nat.le_refl _) (I1.hok.fresh (Nat.le_refl _))
  have J : Inv X pins σ H1 { s1 with heap := s1.heap.push { cls := .type (strIterType z), data := .fields #[.str z t, .int 0 0] } } := I1.kept (t' := s1.toks) fun b o e => Heap.get?_push_of_some _ e
  have st : (s1.heap.push { cls := .type (strIterType z), data := .fields #[.str z t, .int 0 0] }).IsStrIter s1.heap.objs.size (strIterType z) z t 0 := ⟨_, Heap.get?_push_size _ rfl, rfl, rfl⟩
  by_cases ha : z.cps.all (· < 128) = true
  · have e : strIterType z = "str_ascii_iterator" := if_pos ha
    rw [e] at J st ⊢
    exact ⟨_, _, _, _, H1, rfl, J, turn_ascii z t _, st, fp, q⟩
  · have e : strIterType z = "str_iterator" := if_neg ha
    rw [e] at J st ⊢
    exact ⟨_, _, _, _, H1, rfl, J, turn_wide z t _, st, fp, q⟩
noncomputable def tCS (n : Nat) (cp : List (Str × Nat)) (tl : TE) (tc : TT) (te : TE) : TE := fun σ H Q => tl σ H fun v H1 => match v with
  | .str z => (L z).length < 16777216 ∧ ∃ Pv : Nat → Hp → List V → Prop, Pv 0 H1 [] ∧ (∀ i H2 acc, i < (L z).length → Pv i H2 acc → oneC tc te ((capS n cp σ).set 0 (some (.str (T [(L z).getD i 0])))) acc (Pv (i + 1)) H2) ∧ ∀ H2 acc, Pv (L z).length H2 acc → ∀ l, H2 l = none → Q (.ref l) (upd H2 l (.lst acc))
  | _ => False
theorem pe_compS {elt iter : Expr} {ifs : List Expr} {x : Str} {px : Pos} {scope : Scope} {pos : Pos} {cl : List (Str × Addr)} {own : List Str} {cp : List (Str × Nat)} {tl : TE} {tc : TT} {te : TE}
    (hc : X.calm = true) (hcl : closL scope.names X.env.cells [] = some cl) (hk : scope.kind = .function) (hnc : ∀ y ∈ scope.names, y.2 ≠ .cell)
    (hnm : ∀ x ∈ scope.names, x.2 = .local → scope.names.lookup x.1 = some .local) (hcp : CapOk X scope cp) (hl : PE X iter tl) (hn : 0 < own.length)
    (hg : ∀ fp C s H, PG (cxC X scope cl (own ++ cp.map (·.1)) fp C s H) (.Name x px) (gName 0)) (ht : ∀ fp C s H, PFs (cxC X scope cl (own ++ cp.map (·.1)) fp C s H) ifs tc) (he : ∀ fp C s H, PE (cxC X scope cl (own ++ cp.map (·.1)) fp C s H) elt te)
    (hs : ∀ z, foldedSetIterable iter X.env z = pure z := by intro _; rfl) : PE X (.ListComp elt [⟨.Name x px, iter, ifs, 0⟩] scope pos) (tCS own.length cp tl tc te) := by
  have hl' : PE X iter (fun σ H Q => ∃ Q0 : VK, tl σ H Q0 ∧ ∀ v H', Q0 v H' → Q v H') := hl.imp fun σ H Q h => h
  intro pins s σ H Q I h
  refine pe_comp hc hcl hk hnc hnm hcp (pi_str hl') (gk_name hn) hg (fun fp C s H => (ht fp C s H).imp (t' := cloT tc) fun _ _ _ z => z) (fun fp C s H => (he fp C s H).imp (t' := cloE te) fun _ _ _ z => z) hs pins s σ H Q I ?_
  refine ⟨_, h, fun v H1 q => ?_⟩
  cases v with
  | str z =>
    obtain ⟨hz, Pv, p0, ps, pe⟩ := q
    have hsl : sizeLine = 16777216 := sizeLine_eq
    refine ⟨z, rfl, fun i m H2 acc => m = (L z).length - i ∧ i ≤ (L z).length ∧ acc.length ≤ i ∧ Pv i H2 acc, ⟨(L z).length, by omega, Nat.zero_le _, Nat.le_refl _, p0⟩, ?_⟩
    rintro i m H2 acc ⟨rfl, hi, hla, pv'⟩
    refine ⟨by omega, ?_⟩
    by_cases hlt : i < (L z).length
    · refine .inr ⟨hlt, fun y H3 ⟨e3, ey⟩ => ?_⟩
      subst e3 ey
      exact oneC_clo (N' := fun H a => ∃ m', m' < (L z).length - i ∧ (m' = (L z).length - (i + 1) ∧ i + 1 ≤ (L z).length ∧ a.length ≤ i + 1 ∧ Pv (i + 1) H a)) (fun H a ha y => ⟨(L z).length - (i + 1), by omega, rfl, hlt, by omega, y⟩) (ps i H3 acc hlt pv')
    · have e : i = (L z).length := by omega
      subst e
      exact .inl ⟨Nat.le_refl _, fun l hl' => pe H2 acc pv' l hl'⟩
  | _ => exact False.elim q
end
end L2
set_option maxRecDepth 100000
namespace L2
open PySem PySem.Spec PyProof.Rows
section
variable {κ : Type} [DecidableEq κ]
noncomputable def valV (kvs : List (κ × V)) (k : κ) : Option V := (kvs.find? fun kv => decide (kv.1 = k)).map (·.2)
noncomputable def putK (kvs : List (κ × V)) (k : κ) (v : V) : List (κ × V) :=
  if (kvs.any fun kv => decide (kv.1 = k)) = true then kvs.map (fun kv => if kv.1 = k then (kv.1, v) else kv) else kvs ++ [(k, v)]
noncomputable def dropK (kvs : List (κ × V)) (k : κ) : List (κ × V) := kvs.filter fun kv => decide (kv.1 ≠ k)
theorem valV_pos {p : κ × V} {r : List (κ × V)} {k : κ} (e : p.1 = k) : valV (p :: r) k = some p.2 := by simp [valV, List.find?_cons, e]
theorem valV_neg {p : κ × V} {r : List (κ × V)} {k : κ} (e : ¬ p.1 = k) : valV (p :: r) k = valV r k := by simp [valV, List.find?_cons, e]
theorem valV_any (k : κ) : ∀ kvs : List (κ × V), (kvs.any fun kv => decide (kv.1 = k)) = (valV kvs k).isSome
  | [] => rfl
  | p :: r => by
    rw [List.any_cons]
    by_cases e : p.1 = k
    · simp only [valV_pos e, decide_eq_true e, Bool.true_or, Option.isSome_some]
    · rw [valV_neg e, decide_eq_false e, Bool.false_or]; exact valV_any k r
theorem valV_map (k j : κ) (y : V) : ∀ kvs : List (κ × V), valV (kvs.map fun kv => if kv.1 = k then (kv.1, y) else kv) j = (valV kvs j).map fun x => if j = k then y else x
  | [] => rfl
  | p :: r => by
    have ih := valV_map k j y r
    rw [List.map_cons]
    by_cases h : p.1 = k
    · rw [if_pos h]
      by_cases e : p.1 = j
      · rw [valV_pos (p := (p.1, y)) e, valV_pos e, Option.map_some, if_pos (e.symm.trans h)]
      · rw [valV_neg (p := (p.1, y)) e, valV_neg e, ih]
    · rw [if_neg h]
      by_cases e : p.1 = j
      · rw [valV_pos (p := p) e, valV_pos e, Option.map_some, if_neg (fun z => h (e.trans z))]
      · rw [valV_neg (p := p) e, valV_neg e, ih]
theorem valV_snoc (k j : κ) (y : V) : ∀ kvs : List (κ × V), valV kvs k = none → valV (kvs ++ [(k, y)]) j = if j = k then some y else valV kvs j
  | [], _ => by
    by_cases e : k = j
    · rw [if_pos e.symm]; exact valV_pos (p := (k, y)) e
    · rw [if_neg (fun z => e z.symm)]; exact valV_neg (p := (k, y)) e
  | p :: r, hn => by
    rw [List.cons_append]
    have hk : ¬ p.1 = k := fun z => by rw [valV_pos z] at hn; cases hn
    rw [valV_neg hk] at hn
    have ih := valV_snoc k j y r hn
    by_cases e : p.1 = j
    · rw [valV_pos e, valV_pos e, if_neg (fun z => hk (e.trans z))]
    · rw [valV_neg e, valV_neg e, ih]
theorem valV_put (kvs : List (κ × V)) (k j : κ) (y : V) : valV (putK kvs k y) j = if j = k then some y else valV kvs j := by
  unfold putK
  by_cases a : (kvs.any fun kv => decide (kv.1 = k)) = true
  · rw [if_pos a, valV_map]
    rw [valV_any] at a
    by_cases e : j = k
    · obtain ⟨x, hx⟩ := Option.isSome_iff_exists.mp a
      rw [if_pos e, e, hx, Option.map_some, if_pos rfl]
    · rw [if_neg e]
      cases valV kvs j with
      | none => rfl
      | some x => rw [Option.map_some, if_neg e]
  · rw [if_neg a]
    refine valV_snoc k j y kvs ?_
    rw [valV_any] at a
    cases q : valV kvs k with
    | none => rfl
    | some x => rw [q] at a; exact (a rfl).elim
theorem length_putK (kvs : List (κ × V)) (k : κ) (v : V) : (putK kvs k v).length ≤ kvs.length + 1 := by
  unfold putK
  split
  · rw [List.length_map]; omega
  · rw [List.length_append, List.length_cons, List.length_nil]; omega
theorem RelO.getD {o : Option V} {u : Option Value} {d : V} {d' : Value} (r : RelO o u) (rd : RelV d d') : RelV (o.getD d) (u.getD d') := by
  cases o with
  | none => cases u with
    | none => exact rd
    | some _ => exact (show False from r).elim
  | some _ => cases u with
    | none => exact (show False from r).elim
    | some _ => exact r
theorem KV.val {kvs : List (κ × V)} {vs : List (κ × Value)} (r : KV kvs vs) (k : κ) : RelO (valV kvs k) (valueAt vs k) := by
  unfold KV at r
  induction r with
  | nil => exact True.intro
  | @cons p q ps qs h t ih =>
    obtain ⟨h1, h2⟩ := h
    by_cases e : p.1 = k
    · have e' : q.1 = k := h1.symm.trans e
      have b : valueAt (q :: qs) k = some q.2 := by simp [valueAt, List.find?_cons, e']
      rw [valV_pos e, b]; exact h2
    · have e' : ¬ q.1 = k := fun z => e (h1.trans z)
      have b : valueAt (q :: qs) k = valueAt qs k := by simp [valueAt, List.find?_cons, e']
      rw [valV_neg e, b]; exact ih
theorem KV.any {kvs : List (κ × V)} {vs : List (κ × Value)} (r : KV kvs vs) (k : κ) : (kvs.any fun kv => decide (kv.1 = k)) = vs.any fun kv => decide (kv.1 = k) := by
  unfold KV at r
  induction r with
  | nil => rfl
  | cons h t ih => rw [List.any_cons, List.any_cons, ih, h.1]
theorem KV.repl {kvs : List (κ × V)} {vs : List (κ × Value)} (r : KV kvs vs) (k : κ) {y : V} {u : Value} (ry : RelV y u) :
    KV (kvs.map fun kv => if kv.1 = k then (kv.1, y) else kv) (vs.map fun kv => if kv.1 = k then (kv.1, u) else kv) := by
  unfold KV at r ⊢
  induction r with
  | nil => exact .nil
  | @cons p q ps qs h t ih =>
    rw [List.map_cons, List.map_cons]
    refine .cons ?_ ih
    obtain ⟨h1, h2⟩ := h
    by_cases e : p.1 = k
    · rw [if_pos e, if_pos (h1.symm.trans e)]; exact ⟨h1, ry⟩
    · rw [if_neg e, if_neg (fun z => e (h1.trans z))]; exact ⟨h1, h2⟩
theorem KV.put {kvs : List (κ × V)} {vs : List (κ × Value)} (r : KV kvs vs) (k : κ) {y : V} {u : Value} (ry : RelV y u) : KV (putK kvs k y) (stored vs k u) := by
  unfold putK stored
  rw [r.any k]
  by_cases e : (vs.any fun kv => decide (kv.1 = k)) = true
  · rw [if_pos e, if_pos e]; exact r.repl k ry
  · rw [if_neg e, if_neg e]; exact Paired.snoc r ⟨rfl, ry⟩
theorem KV.drop {kvs : List (κ × V)} {vs : List (κ × Value)} (r : KV kvs vs) (k : κ) : KV (dropK kvs k) (without vs k) := by
  unfold KV at r ⊢
  unfold dropK without
  induction r with
  | nil => exact .nil
  | @cons p q ps qs h t ih =>
    obtain ⟨h1, h2⟩ := h
    rw [List.filter_cons, List.filter_cons]
    by_cases e : p.1 = k
    · have a : ¬ decide (p.1 ≠ k) = true := by simp [e]
      have b : ¬ decide (q.1 ≠ k) = true := by simp [h1.symm.trans e]
      rw [if_neg a, if_neg b]; exact ih
    · have e' : ¬ q.1 = k := fun z => e (h1.trans z)
      have a : decide (p.1 ≠ k) = true := by simp [e]
      have b : decide (q.1 ≠ k) = true := by simp [e']
      rw [if_pos a, if_pos b]; exact .cons ⟨h1, h2⟩ ih
theorem KV.length {kvs : List (κ × V)} {vs : List (κ × Value)} (r : KV kvs vs) : kvs.length = vs.length := Paired.length r
end
theorem kV_is {P : Program} {w : World} {k : Key} {u : Value} (r : RelV (kV k) u) : (mixKind P w).is k u = true := by
  cases k with
  | inl i => obtain ⟨t, e⟩ := (show ∃ t, u = Value.int i t from r); subst e; exact mixKind_int P w i t
  | inr x => obtain ⟨t, e⟩ := (show ∃ t, u = Value.str x t from r); subst e; exact mixKind_str P w x t
theorem items_are {P : Program} {w : World} : ∀ {ks : List Key} {us : List Value}, Vals (ks.map kV) us → ItemsAre (mixKind P w) ks us
  | [], _, r => by rw [List.map_nil] at r; cases r; exact .nil
  | k :: ks, _, r => by
    rw [List.map_cons] at r
    cases r with
    | cons h t => exact .cons (kV_is h) (items_are t)
abbrev KT (H : Hp) : List (List Key × V) → List (List Key × Addr × Value) → Prop := Paired fun p q => p.1 = q.1 ∧ H q.2.1 = some (.tup (p.1.map kV)) ∧ RelV p.2 q.2.2
theorem KT.val {H : Hp} {kvs : List (List Key × V)} {xs : List (List Key × Addr × Value)} (r : KT H kvs xs) (k : List Key) : RelO (valV kvs k) ((atKey xs k).map (·.2)) := by
  induction r with
  | nil => exact True.intro
  | @cons p q ps qs h t ih =>
    obtain ⟨h1, _, h2⟩ := h
    by_cases e : p.1 = k
    · have e' : q.1 = k := h1.symm.trans e
      have b : atKey (q :: qs) k = some q.2 := by simp [atKey, List.find?_cons, e']
      rw [valV_pos e, b]; exact h2
    · have e' : ¬ q.1 = k := fun z => e (h1.trans z)
      have b : atKey (q :: qs) k = atKey qs k := by simp [atKey, List.find?_cons, e']
      rw [valV_neg e, b]; exact ih
theorem KT.keeps {H H' : Hp} {kvs : List (List Key × V)} {xs : List (List Key × Addr × Value)} (r : KT H kvs xs) (ht : ∀ b ys, H b = some (.tup ys) → H' b = some (.tup ys)) : KT H' kvs xs :=
  Paired.mapP r fun _ _ z => ⟨z.1, ht _ _ z.2.1, z.2.2⟩
section
variable {P : Program} {w : World} {H : Hp} {h : Heap} {a : Addr}
theorem rd_of {u : HO} (ok : HOk P w H h) (e : Rd H a u) : ObjOk P w H h a u := e.ok ok
theorem dk_rd {kvs : List (Key × V)} (ok : HOk P w H h) (e : Rd H a (.dK kvs)) : kvs.length ≤ sizeLine ∧ (a == sysModules) = false ∧ ∃ vs, KV kvs vs ∧ h.DictOf (mixKind P w) a vs :=
  show ObjOk P w H h a (.dK kvs) from rd_of ok e
theorem dk_of {kvs : List (Key × V)} (ok : HOk P w H h) (e : H a = some (.dK kvs)) : kvs.length ≤ sizeLine ∧ (a == sysModules) = false ∧ ∃ vs, KV kvs vs ∧ h.DictOf (mixKind P w) a vs := dk_rd ok (.inl e)
theorem key_of {ks : List Key} (ok : HOk P w H h) (e : H a = some (.tup (ks.map kV))) : (tupleKind (mixKind P w)).is h ks a := by
  obtain ⟨_, its, r, o, h1, h2, n, h3⟩ := (show ObjOk P w H h a (.tup (ks.map kV)) from ok a _ e)
  exact ⟨o, its.toArray, n, h1, h2, h3, by simpa using items_are r⟩
theorem dt_rd {kvs : List (List Key × V)} (ok : HOk P w H h) (e : Rd H a (.dT kvs)) : kvs.length ≤ sizeLine ∧ (a == sysModules) = false ∧
    ∃ xs, KT H kvs xs ∧ h.DictOfH (tupleKind (mixKind P w)) a xs := by
  exact False.elim (show ObjOk P w H h a (.dT kvs) from rd_of ok e)
end
noncomputable def DGet (H : Hp) (a : Addr) (y : V) (r : Option V) : Prop :=
  (∃ kvs k, Rd H a (.dK kvs) ∧ y = kV k ∧ r = valV kvs k) ∨ ∃ kvs k b, Rd H a (.dT kvs) ∧ y = .ref b ∧ H b = some (.tup (k.map kV)) ∧ r = valV kvs k
noncomputable def DPut (H : Hp) (a : Addr) (y v : V) (H' : Hp) : Prop :=
  (∃ kvs k, H a = some (.dK kvs) ∧ y = kV k ∧ kvs.length < sizeLine ∧ H' = upd H a (.dK (putK kvs k v))) ∨
  ∃ kvs k b, H a = some (.dT kvs) ∧ y = .ref b ∧ H b = some (.tup (k.map kV)) ∧ kvs.length < sizeLine ∧ H' = upd H a (.dT (putK kvs k v))
theorem DGet.k {H : Hp} {a : Addr} {kvs : List (Key × V)} {k : Key} (e : H a = some (.dK kvs)) : DGet H a (kV k) (valV kvs k) := .inl ⟨kvs, k, .inl e, rfl, rfl⟩
theorem DGet.t {H : Hp} {a b : Addr} {kvs : List (List Key × V)} {k : List Key} (e : H a = some (.dT kvs)) (eb : H b = some (.tup (k.map kV))) : DGet H a (.ref b) (valV kvs k) := .inr ⟨kvs, k, b, .inl e, rfl, eb, rfl⟩
theorem DPut.k {H : Hp} {a : Addr} {kvs : List (Key × V)} {k : Key} {v : V} (e : H a = some (.dK kvs)) (hl : kvs.length < sizeLine) : DPut H a (kV k) v (upd H a (.dK (putK kvs k v))) := .inl ⟨kvs, k, e, rfl, hl, rfl⟩
theorem DPut.t {H : Hp} {a b : Addr} {kvs : List (List Key × V)} {k : List Key} {v : V} (e : H a = some (.dT kvs)) (eb : H b = some (.tup (k.map kV))) (hl : kvs.length < sizeLine) :
    DPut H a (.ref b) v (upd H a (.dT (putK kvs k v))) := .inr ⟨kvs, k, b, e, rfl, eb, hl, rfl⟩
section
variable {X : Cx} {pins : List (Addr × Obj)} {σ : St} {H : Hp} {s : Shared} {a : Addr} {y v : V} {u r : Value} {o : Option V} {A : Around} {E : Value → Shared → Prop}
theorem Inv.big (I : Inv X pins σ H s) : sysModules < s.heap.objs.size := by
  have h : mainGlobals < s.heap.objs.size := (I.mod.glob.keeps I.bk).lt
  exact Nat.lt_trans (by decide) h
theorem d_getItem {Q : Value → Shared → Prop} (hu : A.units + 1 < cLine) (I : Inv X pins σ H s) (g : DGet H a y (some v)) (ry : RelV y u) (h : ∀ w' s', Inv X pins σ H s' → RelV v w' → Q w' s') :
    wpAny (model X.prog X.w) A (getItem (.ref a) u) Q E s := by
  rcases g with ⟨kvs, k, e, ey, l⟩ | ⟨kvs, k, b, e, ey, eb, l⟩
  · subst ey
    obtain ⟨z, hd, vs, rel, dd⟩ := dk_rd I.hok e
    obtain ⟨w', hw, rw'⟩ := RelO.some_of (v := v) (o := valueAt vs k) (by rw [l]; exact rel.val k)
    exact wpAny_getItem_of (kV_is ry) dd.mapOf hw (h w' _ (I.tok _) rw')
  · subst ey
    cases (show u = Value.ref b from ry)
    obtain ⟨z, hd, xs, rel, dd⟩ := dt_rd I.hok e
    obtain ⟨w', hw, rw'⟩ := RelO.some_of (v := v) (o := (atKey xs k).map (·.2)) (by rw [l]; exact rel.val k)
    obtain ⟨p, hp, hp2⟩ := Option.map_eq_some_iff.mp hw
    refine wpAny_getItem_heap (tupleKind_room_in1 hu) (key_of I.hok eb) dd hp ?_
    rw [hp2]
    exact h w' _ (I.tok _) rw'
theorem d_write {h' : Heap} {t' : Nat} {ob : HO} (I : Inv X pins σ H s) (mu : Mut (H a)) (hs : Heap.SameBut a s.heap h') (he : ∃ q, h'.get? a = some q) (new : ObjOk X.prog X.w (upd H a ob) h' a ob) :
    Inv X pins σ (upd H a ob) { s with heap := h', toks := t' } :=
  I.write (x := a) (e := a) mu (.inl rfl) (fun b q hb z => (hs.2 b hb).trans z) he new
theorem dk_new {P : Program} {w : World} {H' : Hp} {h' : Heap} {kvs : List (Key × V)} {vs : List (Key × Value)} (z : kvs.length ≤ sizeLine) (hd : (a == sysModules) = false) (rel : KV kvs vs) (dd : h'.DictOf (mixKind P w) a vs) :
    ObjOk P w H' h' a (.dK kvs) := ⟨z, hd, vs, rel, dd⟩
theorem d_setItem {H' : Hp} {Q : Unit → Shared → Prop} (hu : A.units + 1 < cLine) (I : Inv X pins σ H s) (g : DPut H a y v H') (ry : RelV y u) (rv : RelV v r) (h : ∀ s', Inv X pins σ H' s' → Q () s') :
    wpAny (model X.prog X.w) A (setItem (.ref a) u r) Q E s := by
  rcases g with ⟨kvs, k, e, ey, l, eH⟩ | ⟨kvs, k, b, e, ey, eb, l, eH⟩
  · subst ey eH
    obtain ⟨z, hd, vs, rel, dd⟩ := dk_of I.hok e
    have hz : vs.length ≤ sizeLine := by rw [← rel.length]; exact z
    have hl : (putK kvs k v).length ≤ sizeLine := by have := length_putK kvs k v; omega
    refine wpAny_setItem_pairs (hsz := hz) (kV_is ry) dd fun h' dd' hs => h _ ?_
    have he : ∃ q, h'.get? a = some q := let ⟨q, _, _, hq, _⟩ := dd'; ⟨q, hq⟩
    exact d_write I (by rw [e]; exact True.intro) hs he (dk_new hl hd (rel.put k rv) dd')
  · exact False.elim (show ObjOk X.prog X.w H s.heap a (.dT kvs) from I.hok a _ e)
end
section
variable {X : Cx} {pins : List (Addr × Obj)} {σ : St} {H : Hp} {s : Shared} {a : Addr} {kvs : List (Key × V)} {k : Key} {u : Value} {A : Around} {E : Value → Shared → Prop}
end
noncomputable def NoSl (i : Expr) : Prop := ∀ ov iv, subscripted i false ov iv = operate [ov, iv] (getItem ov iv)
theorem subD_of {prog : Program} {w : World} {A : Around} {E : Value → Shared → Prop} {s : Shared} {env : Env} {value slice : Expr} {pos : Pos} {T id : String} {Q : Value → Shared → Prop}
    (hl : typeLookup (.type T) "__getitem__" = pure (some (.builtin id))) (hs : NoSl slice)
    (h : wpAny (model prog w) A (eval value env) (fun o s₁ => wpAny (model prog w) A (eval slice env) (fun i s₂ => s₂.TypeIs o T ∧ wpAny (model prog w) A (getItem o i) Q E s₂) E s₁) E s) :
    wpAny (model prog w) A (eval (.Subscript value slice pos) env) Q E s := by
  refine Subscript_ (wpAny_mono h (fun o s₁ h₁ => wpAny_mono h₁ (fun i s₂ h₂ => ?_) fun _ _ x => x) fun _ _ x => x)
  obtain ⟨hT, h₂⟩ := h₂
  unfold subscriptTail
  refine wpAny_bind ?_
  rw [getitemInPython_of_ne hT.not_modules]
  refine wpAny_bind (wpAny_specialOf hT hl ?_)
  have fin : wpAny (model prog w) A (subscripted slice false o i) (fun r s₃ => wpAny (model prog w) A (letTemporaryGo value o r >>= fun _ => pure r) Q E s₃) E s₂ := by
    rw [hs o i]
    exact wpAny_operating (wpAny_mono h₂ (fun r s₃ h₃ => wpAny_bind (wpAny_letTemporaryGo (wpAny_pure h₃))) fun _ _ x => x)
  first
    | exact wpAny_pure (wpAny_bind fin)
    | exact wpAny_bind (wpAny_pure (wpAny_bind fin))
    | exact wpAny_bind fin
theorem dict_typeIs {X : Cx} {pins : List (Addr × Obj)} {σ : St} {H : Hp} {s : Shared} {a : Addr} {y : V} {o : Option V} (I : Inv X pins σ H s) (g : DGet H a y o) : s.TypeIs (.ref a) "dict" := by
  rcases g with ⟨kvs, k, e, _, _⟩ | ⟨kvs, k, b, e, _, _, _⟩
  · obtain ⟨_, _, vs, _, dd⟩ := dk_rd I.hok e
    exact dd.typeIs
  · obtain ⟨_, _, xs, _, dd⟩ := dt_rd I.hok e
    exact dd.typeIs
noncomputable def tDGet (td ty : TE) : TE := fun σ H Q => td σ H fun x H1 => ty σ H1 fun y H2 => ∃ a v, x = .ref a ∧ DGet H2 a y (some v) ∧ Q v H2
noncomputable def sDPut (td ty tv : TE) : TS := fun D σ H => tv σ H fun v H1 => td σ H1 fun x H2 => ty σ H2 fun y H3 => ∃ a H4, x = .ref a ∧ DPut H3 a y v H4 ∧ D.nx σ H4
noncomputable def sDAug (td ty tv : TE) (rd : V → V → Hp → VK → Prop) : TS := fun D σ H => td σ H fun x H1 => ty σ H1 fun y H2 => ∃ a v, x = .ref a ∧ DGet H2 a y (some v) ∧
  tv σ H2 fun y2 H3 => rd v y2 H3 fun z H4 => ∃ H5, DPut H4 a y z H5 ∧ D.nx σ H5
section
variable {X : Cx} {o i e value : Expr} {pos pos' tpos : Pos} {td ty tv : TE}
theorem pe_dget (hu : X.A.units + 1 < cLine) (ho : PE X o td) (hi : PE X i ty) (hs : NoSl i) : PE X (.Subscript o i pos) (tDGet td ty) := by
  intro pins s σ H Q I h
  refine subD_of PySem.F.slot_dict_getitem.lookup hs (thn (ho pins s σ H _ I h) fun u s1 ⟨x, H1, I1, rx, q1⟩ => thn (hi pins s1 σ H1 _ I1 q1) fun iv s2 ⟨y, H2, I2, ry, a, v, ex, g, q2⟩ => ?_)
  subst ex
  obtain rfl : u = Value.ref a := rx
  exact ⟨dict_typeIs I2 g, d_getItem hu I2 g ry fun w' s3 I3 rw' => ⟨v, H2, I3, rw', q2⟩⟩
theorem ps_dput (hu : X.A.units + 1 < cLine) (ho : PE X o td) (hi : PE X i ty) (hv : PE X value tv) (hs : swapsWith value (some (.Subscript o i pos')) pos.line X.env = pure false) :
    PS X (.Assign [.Subscript o i pos'] value pos) (sDPut td ty tv) := by
  intro pins s σ H D I h
  refine wpAny_Assign_Subscript (thn (hv pins s σ H _ I h) fun r s1 ⟨v, H1, I1, rv, q1⟩ => thn (ho pins s1 σ H1 _ I1 q1) fun u s2 ⟨x, H2, I2, rx, q2⟩ => thn (hi pins s2 σ H2 _ I2 q2) fun iv s3 ⟨y, H3, I3, ry, a, H4, ex, g, q3⟩ => ?_) hs
  subst ex
  obtain rfl : u = Value.ref a := rx
  exact d_setItem hu I3 g ry rv fun s4 I4 => ⟨σ, H4, I4, q3⟩
theorem ps_daug {op : Operator} {rd : V → V → Hp → VK → Prop} (hu : X.A.units + 1 < cLine) (ho : PE X o td) (hi : PE X i ty) (hv : PE X value tv) (hop : InOp X op rd)
    (ha : ∀ ov iv new, augStore i ov iv new = (do holding [new, ov, iv] (setItem ov iv new); release [new, ov, iv] []; pure .next)) : PS X (.AugAssign (.Subscript o i tpos) op value pos) (sDAug td ty tv rd) := by
  intro pins s σ H D I h
  refine wpAny_AugAssign_SubscriptAny (thn (ho pins s σ H _ I h) fun u s1 ⟨x, H1, I1, rx, q1⟩ => thn (hi pins s1 σ H1 _ I1 q1) fun iv s2 ⟨y, H2, I2, ry, a, v, ex, g, q2⟩ => ?_) ha
  subst ex
  obtain rfl : u = Value.ref a := rx
  refine d_getItem hu I2 g ry fun w' s3 I3 rw' => thn (hv pins s3 σ H2 _ I3 q2) fun w2 s4 ⟨y2, H3, I4, ry2, q3⟩ => thn (hop pins s4 σ H3 v y2 w' w2 _ I4 rw' ry2 q3) fun w3 s5 ⟨z, H4, I5, rz, H5, g5, q4⟩ => ?_
  exact d_setItem hu I5 g5 ry rz fun s6 I6 => ⟨σ, H5, I6, q4⟩
end
theorem dk_empty {P : Program} {w : World} {H : Hp} (h : Heap) (hb : sysModules < h.objs.size) : ObjOk P w H (h.push { cls := .type "dict", data := .dict #[] }) h.objs.size (.dK []) :=
  ⟨Nat.zero_le _, beq_eq_false_iff_ne.mpr (Ne.symm (Nat.ne_of_lt hb)), [], .nil, Heap.DictOf.new h⟩
noncomputable def tDNewK : TE := fun _ H Q => ∀ p, H p = none → Q (.ref p) (upd H p (.dK []))
section
variable {X : Cx} {pos : Pos}
theorem pe_dnewK : PE X (.Dict [] [] pos) tDNewK := fun pins s σ H Q I h =>
  wpAny_Dict_empty ⟨.ref s.heap.objs.size, _, I.laid (a := s.heap.objs.size) (o := .dK []) (t' := s.toks) (fun _ _ q => Heap.get?_push_of_some _ q) (Nat.le_refl _) (dk_empty s.heap I.big), rfl, h _ (I.hok.fresh (Nat.le_refl _))⟩
end
structure M1 (X : Cx) (o : Expr) (m : Str) (apos : Pos) (e : Expr) (cpos : Pos) : Prop where
  base : attributeBase o m X.env (eval o X.env) = eval o X.env
  few : ((backTo cpos (starEach [e] X.env)).all (fun x => !x.1) && (backToKw cpos (keywordEach [] X.env)).all (fun x => x.1.isSome)
    && decide (([e] : List Expr).length + ([] : List Keyword).length + (if ([] : List Keyword).isEmpty then 0 else 1) < 30)) = true
  line : (apos.endLine == cpos.line) = true
  trees : backTo cpos (starEach [e] X.env) = [(false, eval e X.env)]
structure M2 (X : Cx) (o : Expr) (m : Str) (apos : Pos) (e f : Expr) (cpos : Pos) : Prop where
  base : attributeBase o m X.env (eval o X.env) = eval o X.env
  few : ((backTo cpos (starEach [e, f] X.env)).all (fun x => !x.1) && (backToKw cpos (keywordEach [] X.env)).all (fun x => x.1.isSome)
    && decide (([e, f] : List Expr).length + ([] : List Keyword).length + (if ([] : List Keyword).isEmpty then 0 else 1) < 30)) = true
  line : (apos.endLine == cpos.line) = true
  trees : backTo cpos (starEach [e, f] X.env) = [(false, eval e X.env), (false, eval f X.env)]
noncomputable def IsD (H : Hp) (a : Addr) : Prop := (∃ kvs, Rd H a (.dK kvs)) ∨ ∃ kvs, Rd H a (.dT kvs)
theorem isD_at {X : Cx} {pins : List (Addr × Obj)} {σ : St} {H : Hp} {s : Shared} {a : Addr} (I : Inv X pins σ H s) (d : IsD H a) :
    s.TypeIs (.ref a) "dict" ∧ (∀ b, Value.ref a = .ref b → ∃ ob, s.heap.get? b = some ob ∧ ob.dict = none) ∧ (a == sysModules) = false := by
  rcases d with ⟨kvs, e⟩ | ⟨kvs, e⟩
  · obtain ⟨_, hd, vs, _, dd⟩ := dk_rd I.hok e
    refine ⟨dd.typeIs, fun b q => ?_, hd⟩
    cases q
    obtain ⟨ob, _, _, h1, h2, _⟩ := dd
    exact ⟨ob, h1, h2.2.1⟩
  · obtain ⟨_, hd, xs, _, dd⟩ := dt_rd I.hok e
    refine ⟨dd.typeIs, fun b q => ?_, hd⟩
    cases q
    obtain ⟨ob, _, _, h1, h2, _⟩ := dd
    exact ⟨ob, h1, h2.2.1⟩
section
variable {X : Cx} {pins : List (Addr × Obj)} {σ : St} {H : Hp} {s : Shared} {a : Addr} {y d : V} {u r : Value} {o : Option V} {A : Around} {E : Value → Shared → Prop}
theorem d_get2 {Q : Value → Shared → Prop} (hu : A.units + 1 < cLine) (I : Inv X pins σ H s) (g : DGet H a y o) (ry : RelV y u) (rd : RelV d r) (h : ∀ w' s', Inv X pins σ H s' → RelV (o.getD d) w' → Q w' s') :
    wpAny (model X.prog X.w) A (call (.builtin "dict.get") [.ref a, u, r]) Q E s := by
  rcases g with ⟨kvs, k, e, ey, l⟩ | ⟨kvs, k, b, e, ey, eb, l⟩
  · subst ey
    obtain ⟨z, hd, vs, rel, dd⟩ := dk_rd I.hok e
    refine call_meetsIn PySem.F.slot_dict_get dd.typeIs PySem.F.entry_dict_get (PySem.F.args_dict_get_3 _ _ _) (meets_dict_get_default (mixKind X.prog X.w) a (kV_is ry) hd r) ⟨_, dd.mapOf, h _ _ (I.tok _) ?_⟩
    rw [l]
    exact (rel.val k).getD rd
  · subst ey
    cases (show u = Value.ref b from ry)
    obtain ⟨z, hd, xs, rel, dd⟩ := dt_rd I.hok e
    refine call_meetsIn PySem.F.slot_dict_get dd.typeIs PySem.F.entry_dict_get (PySem.F.args_dict_get_3 _ _ _) (meetsH_dict_get_default (tupleKind (mixKind X.prog X.w)) a b hd r) ⟨tupleKind_room_in1 hu, k, xs, key_of I.hok eb, dd, h _ _ (I.tok _) ?_⟩
    rw [l]
    exact (rel.val k).getD rd
end
noncomputable def tDGet2 (td ty tx : TE) : TE := fun σ H Q => td σ H fun x H1 => ∃ a, x = .ref a ∧ IsD H1 a ∧ ty σ H1 fun y H2 => tx σ H2 fun z H3 => ∃ o, DGet H3 a y o ∧ Q (o.getD z) H3
section
variable {X : Cx} {o e f : Expr} {apos cpos : Pos} {td ty tx : TE}
theorem pe_dget2 (hu : X.A.units + 1 < cLine) (ho : PE X o td) (he : PE X e ty) (hf : PE X f tx) (m : M2 X o "get" apos e f cpos) : PE X (.Call (.Attribute o "get" apos) [e, f] [] cpos) (tDGet2 td ty tx) := by
  intro pins s σ H Q I h
  refine wpAny_Call_method m.base m.few m.line PySem.F.plainAttrs_dict PySem.F.slot_dict_get PySem.F.type_dict_get (thn (ho pins s σ H _ I h) fun u s1 ⟨x, H1, I1, rx, a, ex, d, q1⟩ => ?_)
  subst ex
  obtain rfl : u = Value.ref a := rx
  obtain ⟨t1, t2, _⟩ := isD_at I1 d
  refine ⟨t1, t2, ?_⟩
  rw [m.trees]
  refine Calls.callWith_builtin rfl (Calls.evalArgs_plain (Calls.spliced_cons (thn (he pins s1 σ H1 _ I1 q1) fun iv s2 ⟨y, H2, I2, ry, q2⟩ =>
    Calls.spliced_cons (thn (hf pins s2 σ H2 _ I2 q2) fun fv s3 ⟨z, H3, I3, rz, ov, g, q3⟩ => Calls.spliced_nil ?_))))
  exact d_get2 hu I3 g ry rz fun w' s4 I4 rw' => ⟨_, H3, I4, rw', q3⟩
end
section
variable {X : Cx} {pins : List (Addr × Obj)} {σ : St} {H : Hp} {s : Shared} {a : Addr} {kvs : List (Key × V)} {A : Around} {E : Value → Shared → Prop}
end
section
variable {X : Cx} {pins : List (Addr × Obj)} {σ : St} {H : Hp} {s : Shared} {a : Addr} {y : V} {u : Value} {A : Around} {E : Value → Shared → Prop}
end
end L2
namespace L2
open PySem PySem.Spec PyProof.Rows
section
variable {κ : Type} [DecidableEq κ]
end
end L2
set_option maxRecDepth 100000
namespace LP
open PySem L2
theorem cut_from {α : Type} (l : List α) (i : Nat) : cut l (some (i : Int)) none = l.drop i := by
  unfold cut
  show (l.drop (if (i : Int) < 0 then ((i : Int) + (l.length : Int)).toNat else min (i : Int).toNat l.length)).take (l.length - (if (i : Int) < 0 then ((i : Int) + (l.length : Int)).toNat else min (i : Int).toNat l.length)) = l.drop i
  rw [if_neg (by omega), Int.toNat_natCast]
  by_cases h : i ≤ l.length
  · rw [Nat.min_eq_left h, List.take_of_length_le (by rw [List.length_drop]; omega)]
  · rw [Nat.min_eq_right (by omega), List.drop_eq_nil_of_le (Nat.le_refl _), List.drop_eq_nil_of_le (by omega)]
    simp
theorem drop_inj {α : Type} {l : List α} {i j : Nat} (hi : i ≤ l.length) (hj : j ≤ l.length) (h : l.drop i = l.drop j) : i = j := by
  have := congrArg List.length h
  rw [List.length_drop, List.length_drop] at this
  omega
end LP
set_option maxRecDepth 100000
namespace L2
open PySem PySem.Spec PyProof.Rows
structure Md (P : Program) (w : World) (K : PySem.W.Frag) (mg : Str → Option Value) (base : Heap) (CX : CXT) (k : Nat) (C : Addr) (m : Str) (ps : List Str) (dvs : List V) (sp : Sp) : Prop where
  ex : ∃ f fd ds, FnOk P w K mg base CX k f fd ps sp ∧ Meth K C m f ∧ Binds K fd ps ds ∧ Vals dvs ds
  cls : Cls K C
structure Mkr (P : Program) (w : World) (K : PySem.W.Frag) (mg : Str → Option Value) (base : Heap) (CX : CXT) (k : Nat) (x : Str) (C : Addr) (ps : List Str) (dvs : List V) (sp : Sp) : Prop where
  ex : ∃ f fd ds, FnOk P w K mg base CX k f fd ps sp ∧ Mk K C f ∧ Binds K fd ps ds ∧ Vals dvs ds
  at_ : mg x = some (.ref C)
section
variable {P : Program} {w : World} {K : PySem.W.Frag} {mg : Str → Option Value} {base : Heap} {CX : CXT} {j k : Nat} {C : Addr} {x m : Str} {ps : List Str} {dvs : List V} {sp : Sp}
theorem Md.mono (M : Md P w K mg base CX j C m ps dvs sp) (h : j ≤ k) : Md P w K mg base CX k C m ps dvs sp := by
  obtain ⟨f, fd, ds, F, r⟩ := M.ex
  exact ⟨⟨f, fd, ds, F.mono h, r⟩, M.cls⟩
theorem Mkr.mono (M : Mkr P w K mg base CX j x C ps dvs sp) (h : j ≤ k) : Mkr P w K mg base CX k x C ps dvs sp := by
  obtain ⟨f, fd, ds, F, r⟩ := M.ex
  exact ⟨⟨f, fd, ds, F.mono h, r⟩, M.at_⟩
theorem quietX {f : Addr} {fd : FuncData} (F : FnOk P w K mg base (CX1 P w) k f fd ps sp) : FnOk P w K mg base CX0 k f fd ps (fun vs H Q _ => sp vs H Q E0) := by
  refine ⟨fun vs H Q E h => F.len vs H Q E0 h, fun A outer s H args us vs Q E hr e0 hb rv h => ?_⟩
  refine codeAny_mono (F.run A outer s H args us vs Q E0 hr e0 hb rv h) fun r s' q => ?_
  cases r with
  | error e => exact (cx1_none q).elim
  | ok fl => cases fl <;> exact q
theorem Md.quiet (M : Md P w K mg base (CX1 P w) k C m ps dvs sp) : Md P w K mg base CX0 k C m ps dvs (fun vs H Q _ => sp vs H Q E0) := by
  obtain ⟨f, fd, ds, F, r⟩ := M.ex
  exact ⟨⟨f, fd, ds, quietX F, r⟩, M.cls⟩
theorem Mkr.quiet (M : Mkr P w K mg base (CX1 P w) k x C ps dvs sp) : Mkr P w K mg base CX0 k x C ps dvs (fun vs H Q _ => sp vs H Q E0) := by
  obtain ⟨f, fd, ds, F, r⟩ := M.ex
  exact ⟨⟨f, fd, ds, quietX F, r⟩, M.at_⟩
end
section
variable {X : Cx} {k : Nat} {C : Addr} {x m : Str} {ps : List Str} {dvs : List V} {sp : Sp} {o e : Expr} {es : List Expr} {ta : TE} {t : TA} {p pos apos : Pos}
theorem pe_md {pl : Sem Bool} (M : Md X.prog X.w X.K X.mg X.base CX0 k C m ps dvs sp) (hr : Room k X.A) (he : PE X o ta) (ha : PA X (e :: es) t)
    (hst : starEach (e :: es) X.env = (false, eval e X.env) :: starEach es X.env := by rfl) (hpl : (backTo pos (starEach es X.env)).any (·.1) = false := by rfl)
    (ht : eval (.Call (.Attribute o m apos) (e :: es) [] pos) X.env = (do
      let ov ← eval o X.env
      standAt apos.atName
      let (f, first) ← holding [ov] (getMethod ov m pl)
      callWith pos f first (backTo pos (starEach (e :: es) X.env)) (backToKw pos (keywordEach [] X.env))) := by rfl) : PE X (.Call (.Attribute o m apos) (e :: es) [] pos) (tMeth C m sp dvs E0 ta t) := by
  obtain ⟨f, fd, ds, F, hm, hb, hd⟩ := M.ex
  exact pe_meth he M.cls hm F hr hb hd pass0 ha hst hpl ht
theorem pe_md0 {pl : Sem Bool} (M : Md X.prog X.w X.K X.mg X.base CX0 k C m ps dvs sp) (hr : Room k X.A) (he : PE X o ta)
    (ht : eval (.Call (.Attribute o m apos) [] [] pos) X.env = (do
      let ov ← eval o X.env
      standAt apos.atName
      let (f, first) ← holding [ov] (getMethod ov m pl)
      callWith pos f first (backTo pos (starEach [] X.env)) (backToKw pos (keywordEach [] X.env))) := by rfl) : PE X (.Call (.Attribute o m apos) [] [] pos) (tMeth C m sp dvs E0 ta tNil) := by
  obtain ⟨f, fd, ds, F, hm, hb, hd⟩ := M.ex
  exact pe_meth0 he M.cls hm F hr hb hd pass0 ht
theorem pe_mk (M : Mkr X.prog X.w X.K X.mg X.base CX0 k x C ps dvs sp) (hr : Room (k + 1) X.A) (ha : PA X (e :: es) t) (hg : Gl X x := by rfl) (hdb : (x == ("__debug__" : Str)) = false := by decide)
    (he : starEach (e :: es) X.env = (false, eval e X.env) :: starEach es X.env := by rfl) (hpl : (backTo pos (starEach es X.env)).any (·.1) = false := by rfl) : PE X (.Call (.Name x p) (e :: es) [] pos) (tMake C sp dvs E0 t) := by
  obtain ⟨f, fd, ds, F, hm, hb, hd⟩ := M.ex
  exact pe_make hm F hr hg M.at_ hb hd pass0 ha hdb he hpl
variable {F : St → XK}
theorem Tk.at {σ : St} (T : Tk X F) : ∀ (pins : List (Addr × Obj)) (H : Hp) (s : Shared) (e : Value) (s' : Shared), Inv X pins σ H s → CX1 X.prog X.w X.stack H s (F σ) e s' → X.xe e s' := fun pins H s e s' I h => T.pass pins σ H s e s' I h
noncomputable def tMakeX (F : St → XK) (C : Addr) (sp : Sp) (dvs : List V) (t : TA) : TE := fun σ H Q => t σ H fun vs H1 => ∀ x dx, H1 x = none → H1 dx = none → dx ≠ x →
  sp (.ref x :: (vs ++ dvs)) (upd (upd H1 dx (.own x)) x (.ins C dx [])) (fun v H2 => v = .non ∧ Q (.ref x) H2) (F σ)
theorem pe_mkX (T : Tk X F) (M : Mkr X.prog X.w X.K X.mg X.base (CX1 X.prog X.w) k x C ps dvs sp) (hr : Room (k + 1) X.A) (ha : PA X (e :: es) t) (hg : Gl X x := by rfl) (hdb : (x == ("__debug__" : Str)) = false := by decide)
    (he : starEach (e :: es) X.env = (false, eval e X.env) :: starEach es X.env := by rfl) (hpl : (backTo pos (starEach es X.env)).any (·.1) = false := by rfl) : PE X (.Call (.Name x p) (e :: es) [] pos) (tMakeX F C sp dvs t) := by
  obtain ⟨f, fd, ds, G, hm, hb, hd⟩ := M.ex
  intro pins s σ H Q I h
  refine wpAny_Call_Name_kw (ld_glob I hg M.at_ ?_ hdb)
  refine PySem.W.callWith_K (h₀ := X.base) I.ok.mod.kin hm.kp (thn (ha pos pins s σ H _ I h) fun us s1 ⟨vs, H1, I1, r, q⟩ => ⟨I1.kIn, ?_⟩) he hpl
  have hq := q (s1.heap.objs.size + 1) s1.heap.objs.size (I1.hok.fresh (Nat.le_succ _)) (I1.hok.fresh (Nat.le_refl _)) (Nat.ne_of_lt (Nat.lt_succ_self _))
  have I2 := Inv.made (C := C) I1
  have r2 : Vals (V.ref (s1.heap.objs.size + 1) :: (vs ++ dvs)) (Value.ref (s1.heap.objs.size + 1) :: (us ++ ds)) := .cons rfl (r.append hd)
  have hl : (Value.ref (s1.heap.objs.size + 1) :: us ++ ds).length = ps.length := by
    have e := r2.length
    rw [G.len _ _ _ _ hq] at e
    exact e.symm
  refine wpAny_call (make_map (f := f) I1.kIn hm.makes hm.init (beq_iff_eq.mp hm.fn) (codeAny_mono (G.run _ X.stack _ _ ⟨Value.ref (s1.heap.objs.size + 1) :: us, []⟩ (Value.ref (s1.heap.objs.size + 1) :: (us ++ ds)) _ _ (F σ) (hr.make C us [])
    (I2.env0.make C us []) (hb _ (Value.ref (s1.heap.objs.size + 1) :: us) I2.kIn hl) r2 hq) fun r s' hq' => ?_))
  cases r with
  | error e => exact T.pass pins σ _ _ e s' I2 hq'
  | ok fl =>
    cases fl with
    | ret u =>
      obtain ⟨v, H', I3, rv, ev, q3⟩ := I2.after hq'
      subst ev
      exact ⟨rv, ⟨V.ref (s1.heap.objs.size + 1), H', I3, rfl, q3⟩⟩
    | next => exact False.elim hq'
    | brk => exact False.elim hq'
    | cont => exact False.elim hq'
end
end L2
set_option maxRecDepth 100000
namespace L2
open PySem PySem.Spec PyProof.Rows
structure RoomW (k : Nat) (A : Around) : Prop where
  dp : A.depth + 3 * k + 5 < recursionLimit
  un : A.units + 16 * k + 200 < cLine
theorem RoomW.mono {j k : Nat} {A : Around} (r : RoomW k A) (h : j ≤ k) : RoomW j A := ⟨by have := r.dp; omega, by have := r.un; omega⟩
theorem RoomW.deeper {k : Nat} {A : Around} (r : RoomW (k + 1) A) (env : Env) : RoomW k (A.deeper env) :=
  ⟨by have := r.dp; show A.depth + 1 + 3 * k + 5 < _; omega, by have := r.un; show A.units + 3 + 16 * k + 200 < _; omega⟩
structure FnW (P : Program) (w : World) (K : PySem.W.Frag) (mg : Str → Option Value) (base : Heap) (k : Nat) (f : Addr) (fd : FuncData) (ps : List Str) (sp : Sp) : Prop where
  len : ∀ vs H Q E, sp vs H Q E → vs.length = ps.length
  run : ∀ (A : Around) (outer : List Env) (s : Shared) (H : Hp) (args : Args) (us : List Value) (vs : List V) (Q : VK), RoomW k A → Env0 P w K mg base A outer s H → BindsTo s fd args (ps.zip us) → Vals vs us → sp vs H Q E0 →
    codeAny (model P w) A (.call (.ref f) args) (CR CX0 outer P w H s Q E0) s
section
variable {P : Program} {w : World} {K : PySem.W.Frag} {mg : Str → Option Value} {base : Heap}
end
structure FnV (P : Program) (w : World) (K : PySem.W.Frag) (mg : Str → Option Value) (base : Heap) (k : Nat) (x : Str) (ps : List Str) (sp : Sp) : Prop where
  ex : ∃ f fd, FnW P w K mg base k f fd ps sp ∧ mg x = some (.ref f) ∧ PySem.W.keepIn K (.ref f) = true ∧ Binds K fd ps []
section
variable {X : Cx} {k : Nat} {x : Str} {ps : List Str} {sp : Sp} {p pos : Pos} {e : Expr} {es : List Expr} {t : TA}
end
end L2
set_option maxRecDepth 100000
namespace L2
open PySem PySem.Spec PyProof.Rows
noncomputable def tCutS (t : TS) : TS := fun D σ H => ∃ N : St → Hp → Prop, t { nx := N, rt := D.rt, bk := D.bk, ct := D.ct } σ H ∧ ∀ σ' H', N σ' H' → D.nx σ' H'
theorem cutS {t : TS} {D : Ends} {σ : St} {H : Hp} (N : St → Hp → Prop) (h1 : t { nx := N, rt := D.rt, bk := D.bk, ct := D.ct } σ H) (h2 : ∀ σ' H', N σ' H' → D.nx σ' H') : tCutS t D σ H := ⟨N, h1, h2⟩
theorem ps_cut {X : Cx} {st : Stmt} {t : TS} (h : PS X st t) : PS X st (tCutS t) := by
  rintro pins s σ H D I ⟨N, q, hn⟩
  refine thn (h pins s σ H _ I q) fun f s1 z => ?_
  cases f with
  | next => obtain ⟨σ1, H1, I1, q⟩ := z; exact ⟨σ1, H1, I1, hn _ _ q⟩
  | brk => exact z
  | cont => exact z
  | ret u => exact z
end L2
namespace LP
end LP
namespace LP
open PySem L2
theorem cut_mid {α : Type} (l : List α) (i m : Nat) : cut l (some (i : Int)) (some ((i : Int) + (m : Int))) = (l.drop i).take m := by
  unfold cut
  show (l.drop (if (i : Int) < 0 then ((i : Int) + (l.length : Int)).toNat else min (i : Int).toNat l.length)).take ((if (i : Int) + (m : Int) < 0 then ((i : Int) + (m : Int) + (l.length : Int)).toNat else min ((i : Int) + (m : Int)).toNat l.length) - (if (i : Int) < 0 then ((i : Int) + (l.length : Int)).toNat else min (i : Int).toNat l.length)) = (l.drop i).take m
  rw [if_neg (by omega), if_neg (by omega), Int.toNat_natCast, show ((i : Int) + (m : Int)).toNat = i + m by omega]
  by_cases h : i ≤ l.length
  · rw [Nat.min_eq_left h]
    by_cases h2 : i + m ≤ l.length
    · rw [Nat.min_eq_left h2, Nat.add_sub_cancel_left]
    · rw [Nat.min_eq_right (by omega), List.take_of_length_le (by rw [List.length_drop]; omega), List.take_of_length_le (by rw [List.length_drop]; omega)]
  · have e1 : min i l.length = l.length := by omega
    rw [e1, List.drop_eq_nil_of_le (Nat.le_refl _), List.drop_eq_nil_of_le (by omega)]
    simp
end LP
set_option maxRecDepth 100000
namespace L2
open PySem PySem.Spec PyProof.Rows
section
variable {X : Cx}
theorem ps_comp {elt iter target : Expr} {i₀ : Nat} {y₀ : Str} {p₀ p₁ : Pos} {ifs : List Expr} {scope : Scope} {pos : Pos} {cl : List (Str × Addr)} {own : List Str} {cp : List (Str × Nat)} {wi : TI} {g : TG} {tc : TT} {te : TE}
    (hc : X.calm = true) (hcl : closL scope.names X.env.cells [] = some cl) (hk : scope.kind = .function) (hnc : ∀ y ∈ scope.names, y.2 ≠ .cell)
    (hnm : ∀ x ∈ scope.names, x.2 = .local → scope.names.lookup x.1 = some .local) (hcp : CapOk X scope cp) (hi : PI X target iter wi) (gk : GKeep own.length g)
    (hg : ∀ fp C s H, PG (cxC X scope cl (own ++ cp.map (·.1)) fp C s H) target g) (ht : ∀ fp C s H, PFs (cxC X scope cl (own ++ cp.map (·.1)) fp C s H) ifs tc) (he : ∀ fp C s H, PE (cxC X scope cl (own ++ cp.map (·.1)) fp C s H) elt te)
    (hN : X.N.Nodup) (hi₀ : X.N[i₀]? = some y₀) (hx₀ : X.env.scope.names.lookup y₀ = some .local) (hsw : swapsWith (.ListComp elt [⟨target, iter, ifs, 0⟩] scope pos) (some (.Name y₀ p₀)) p₁.line X.env = pure true)
    (hs : ∀ x, foldedSetIterable iter X.env x = pure x := by intro _; rfl) : PS X (.Assign [.Name y₀ p₀] (.ListComp elt [⟨target, iter, ifs, 0⟩] scope pos) p₁) (tAsg (tComp own.length cp wi g tc te) (gName i₀)) := by
  intro pins s σ H D I h
  rw [exec_Assign_Name_used _ _ _ _ hsw]
  refine wpAny_bind (wpAny_standAt (wpAny_bind ?_))
  show wpAny _ _ (comprehension (.ListComp elt [⟨target, iter, ifs, 0⟩] scope pos) scope X.env (firstIterPos [⟨target, iter, ifs, 0⟩] pos) (newList []) false (eval iter X.env) (some (assign (.Name y₀ p₀) X.env)) >>= fun _ => pure ()) _ _ s
  refine wpAny_bind ?_
  refine wpAny_comprehension_free (use := some (assign (.Name y₀ p₀) X.env)) rfl hs (closureFor_L hcl) hk hnm (thn (hi pins s σ H _ I h) fun xv s1 h1 => thn h1 fun itv s2 h2 => ?_)
  obtain ⟨it, fp, tn, J, H2, e, I2, Tn, st2, f2, W, ⟨m0, w0⟩, turn⟩ := h2
  subst e
  have hlt : ∀ b ∈ fp, b < s2.heap.objs.size := fun b hb => by
    obtain ⟨o, e, _⟩ := Tn.obj _ _ st2 b hb
    exact Heap.lt_size e
  refine wpAny_newObj_type (wpAny_newFunctionEnv hnc (by intro y hy; simp at hy) (fun h1 hns hsb => ?_) hk)
  dsimp only at hns hsb ⊢
  generalize hP : s2.heap.push { cls := .type "list", dict := none, data := .seq ([] : List Value).toArray } = h0 at hns hsb ⊢
  have hCs : h0.objs.size = s2.heap.objs.size + 1 := by rw [← hP, Heap.size_push]
  generalize hCg : h0.objs.size = C at hns hsb hCs ⊢
  have hC : s2.heap.objs.size < C := by omega
  have neC : ∀ b : Addr, b < s2.heap.objs.size → b ≠ C := fun b h => Nat.ne_of_lt (Nat.lt_trans h hC)
  have old : ∀ b o, s2.heap.get? b = some o → h1.get? b = some o := fun b o e =>
    (hsb.2 b (neC b (Heap.lt_size e))).trans (by rw [Heap.get?_push_of_some _ (by rw [← hP]; exact Heap.get?_push_of_some _ e)])
  have hD : h1.get? s2.heap.objs.size = some (lobj [] 0) :=
    (hsb.2 _ (Nat.ne_of_lt hC)).trans (by rw [Heap.get?_push_of_some _ (by rw [← hP]; exact Heap.get?_push_size _ rfl)])
  have fpok : ∀ {its : List Value} {k : Nat} {H' : Hp}, (∀ b ∈ fp, H' b = none) → ∀ b ∈ fp, FpOk (cxC X scope cl (own ++ cp.map (·.1)) fp C s2 H2) [(s2.heap.objs.size, lobj its k)] H' b := fun {its k H'} fr b hb => by
    refine ⟨fr b hb, neC b (hlt b hb), fun hf => ?_, .inl hb, fun x c e => ?_, fun p hp => ?_⟩
    · have hf : b ∈ frs X.stack := hf
      rcases List.mem_cons.mp (I2.stkSub b hf) with z | z
      · exact (f2 b hb).2.1 z
      · exact (f2 b hb).2.2.1 z
    · exact (f2 b hb).2.2.2.2.1 x c ((closL_in scope.names [] hcl (fun x c h => by simp at h)).1 x c e)
    · have hp : p ∈ [(s2.heap.objs.size, lobj its k)] := hp
      cases List.mem_singleton.mp hp
      exact Nat.ne_of_gt (hlt b hb)
  have loop : ∀ s4 : Shared, s4 = { s2 with heap := h1, toks := s2.toks + ([] : List (Str × Value)).length } →
      codeAny (model X.prog X.w) X.A (.compLoop (.ListComp elt [⟨target, iter, ifs, 0⟩] scope pos) 0 (.ref it) (.ref s2.heap.objs.size) (compEnvC scope cl C X.env))
        (compPost (model X.prog X.w) X.A X.xe (some (assign (.Name y₀ p₀) X.env)) (fun _ s' => wpAny (model X.prog X.w) X.A (pure ()) (fun _ s'' => wpAny (model X.prog X.w) X.A (pure Flow.next) (SP X pins D) X.xe s'') X.xe s') (.ref s2.heap.objs.size) C) s4 := by
    intro s4 e4
    have I4 : Inv (cxC X scope cl (own ++ cp.map (·.1)) fp C s2 H2) [(s2.heap.objs.size, lobj [] 0)] (capS own.length cp σ) H2 s4 := by
      rw [e4]
      exact comp_start I2 hcl hk hnc hcp f2 hC hlt (by simpa using hns) old hD
    have st4 : tn 0 s4.heap := by
      rw [e4]
      exact Tn.keep _ _ _ st2 fun b _ o e => old b o e
    refine codeAny_loop rfl (fun n s' => ∃ i H' acc its k, Inv (cxC X scope cl (own ++ cp.map (·.1)) fp C s2 H2) [(s2.heap.objs.size, lobj its k)] (capS own.length cp σ) H' s' ∧ Vals acc its ∧ tn i s'.heap ∧ (∀ b ∈ fp, H' b = none) ∧ W i n H' acc)
      (fun n s' hI => ?_) m0 ⟨0, H2, [], [], 0, I4, .nil, st4, fun b hb => (f2 b hb).1, w0⟩
    obtain ⟨i, H', acc, its, k, I', rv, st, fr, w⟩ := hI
    show wpAny _ X.A ((compTurn (.ListComp elt [⟨target, iter, ifs, 0⟩] scope pos) 0 (.ref it) (.ref s2.heap.objs.size) (compEnvC scope cl C X.env)).onRaise (fun x => do noteFrame x (compEnvC scope cl C X.env); theTreesLotGoes x)) _ _ s'
    refine wpAny_noted ?_
    rw [compTurn_list]
    refine wpAny_bind (wpAny_standAt (wpAny_bind ?_))
    obtain ⟨hz, ⟨stop, fin⟩ | ⟨go, step⟩⟩ := turn i n H' acc w
    · refine thnE (Tn.done (cxC X scope cl (own ++ cp.map (·.1)) fp C s2 H2) rfl rfl rfl hc i _ s' _ H' (fun _ _ => False) I' (fpok fr) st stop) fun r s5 ⟨hr, I5⟩ => ?_
      subst hr
      refine wpAny_pure ?_
      obtain ⟨mm, hmm, _⟩ := I5.loc
      have hmm : s5.heap.Ns C mm := hmm
      obtain ⟨hn, I6⟩ := comp_end (h'' := s5.heap) I2 f2 rfl hC I5 rv (Nat.le_of_lt hz) ⟨rfl, fun _ _ => rfl⟩
      obtain ⟨oC, eC, pC, g1, g2, g3⟩ := id hmm
      have hC2 : s2.heap.objs.size ≤ C := Nat.le_of_lt hC
      have fC : FpOk X pins (upd H' s2.heap.objs.size (.lst acc)) C := I2.fpOk hC2 (by rw [upd_ne (Nat.ne_of_gt hC)]; exact I5.free)
      have I7 : Inv X (pins ++ [(C, oC)]) σ (upd H' s2.heap.objs.size (.lst acc)) s5 := I6.pins_of fun p hp => by
        rcases List.mem_append.mp hp with hp | hp
        · exact I6.pin p (List.mem_append_right _ hp)
        · cases List.mem_singleton.mp hp
          exact ⟨g1, fC.1, fC.2.1, fC.2.2.1, fun v z => by rw [g2] at z; cases z⟩
      refine wpAny_assign_Name (store_ok I7 hN hi₀ (.inl hx₀) (show RelV (.ref s2.heap.objs.size) (.ref s2.heap.objs.size) from rfl) (fun s6 I8 => ?_) (.inr hx₀))
      have e6 := (I8.pin (C, oC) (List.mem_append_right _ (List.mem_append_right _ (List.mem_singleton.mpr rfl)))).1
      refine ⟨mm, ⟨oC, eC, pC, e6, g2, g3⟩, fun h'' hs'' => wpAny_pure (wpAny_pure ⟨_, _, I8.unpinned.turned (t' := s6.toks) (it := C) (fun b o hb e => (hs''.2 b hb).trans e) fC.1 fC.2.1 fC.2.2.2.1 fC.2.2.2.2.1 fC.2.2.2.2.2, fin _ hn⟩)⟩
    · refine thnE (Tn.item (cxC X scope cl (own ++ cp.map (·.1)) fp C s2 H2) rfl rfl rfl hc i _ s' _ H' (fun _ _ => False) I' (fpok fr) st go) fun r s5 ⟨u, hr, h5⟩ => ?_
      subst hr
      refine wpAny_bind (thnE h5 fun _ s6 ⟨x, H6, I6, r6, y6, st6, fr6⟩ => ?_)
      have I6' := I6.pinned (fpok fr6) (Tn.obj _ _ st6)
      refine wpAny_bind (thnE (hg fp C s2 H2 _ s6 _ H6 x u _ I6' r6 (gk _ _ _ _ (step x H6 y6))) fun _ s7 ⟨σ7, H7, I7, q7, kp7⟩ => ?_)
      refine wpAny_bind (thnE (ht fp C s2 H2 _ s7 σ7 H7 _ I7 q7) fun b s8 ⟨H8, I8, q8⟩ => ?_)
      have weak : ∀ {H9 : Hp} {s9 : Shared} {ps : List (Addr × Obj)}, Inv (cxC X scope cl (own ++ cp.map (·.1)) fp C s2 H2) ps σ7 H9 s9 → Inv (cxC X scope cl (own ++ cp.map (·.1)) fp C s2 H2) ps (capS own.length cp σ) H9 s9 := fun {H9 s9 ps} I9 =>
        I9.weak (by rw [I9.len]; exact I'.len) fun j v e => by
          by_cases hj : own.length ≤ j
          · rw [kp7 j hj]
            exact e
          · unfold capS at e
            rw [List.getElem?_append_left (by rw [List.length_replicate]; omega), List.getElem?_replicate] at e
            split at e <;> cases e
      have turned : ∀ {H9 : Hp} {s9 : Shared}, Inv (cxC X scope cl (own ++ cp.map (·.1)) fp C s2 H2) ([(s2.heap.objs.size, lobj its k)] ++ pinsAt fp s6.heap) σ7 H9 s9 → (∀ b ∈ fp, H9 b = none) ∧ ∀ b ∈ fp, ∀ o, s6.heap.get? b = some o → s9.heap.get? b = some o := fun {H9 s9} I9 => by
        refine ⟨fun b hb => ?_, fun b hb o e => ?_⟩
        · obtain ⟨o, e, _⟩ := Tn.obj _ _ st6 b hb
          exact (I9.pin (b, o) (List.mem_append_right _ (List.mem_append_right _ (mem_pinsAt hb e)))).2.1
        · exact (I9.pin (b, o) (List.mem_append_right _ (List.mem_append_right _ (mem_pinsAt hb e)))).1
      cases b with
      | false =>
        obtain ⟨m', hm', w8⟩ := q8
        refine wpAny_pure ⟨rfl, m', hm', i + 1, H8, acc, its, k, weak I8.unpinned, rv, Tn.keep _ _ _ st6 (turned I8).2, (turned I8).1, w8⟩
      | true =>
        refine wpAny_bind (wpAny_bind (thnE (he fp C s2 H2 _ s8 σ7 H8 _ I8 q8) fun uy s9 ⟨y, H9, I9, r9, m', hm', w9⟩ => ?_))
        have pD := I9.pin (s2.heap.objs.size, lobj its k) (List.mem_append_right _ (List.mem_append_left _ (List.mem_singleton.mpr rfl)))
        have lenI := rv.length
        refine wpAny_bind (wpAny_list_append_plain (items := its.toArray) ⟨k, pD.1⟩ (fun h10 pl sb => ?_) (by rw [List.size_toArray]; omega))
        obtain ⟨k', hk'⟩ := pl
        have I10 : Inv (cxC X scope cl (own ++ cp.map (·.1)) fp C s2 H2) (pinsAt fp s6.heap) σ7 H9 { s9 with heap := h10 } := by
          have I9' : Inv (cxC X scope cl (own ++ cp.map (·.1)) fp C s2 H2) (pinsAt fp s6.heap) σ7 H9 s9 := I9.pins_of fun p hp => I9.pin p (List.mem_append_right _ (List.mem_append_right _ hp))
          refine I9'.turned (t' := s9.toks) (it := s2.heap.objs.size) (fun b o hb e => (sb.2 b hb).trans e) pD.2.1 pD.2.2.1 (.inr (Nat.le_refl _)) (fun x c e z => ?_) fun p hp z => ?_
          · obtain ⟨v, o, ho, hd⟩ := I9.cell x c e
            rw [z, pD.1] at ho
            cases ho
            cases hd
          · have hp : p ∈ pinsAt fp s6.heap := hp
            exact Nat.ne_of_lt (hlt p.1 (of_pinsAt hp).1) z
        have kk : ∀ b ∈ fp, ∀ o, s6.heap.get? b = some o → h10.get? b = some o := fun b hb o e => (sb.2 b (Nat.ne_of_lt (hlt b hb))).trans ((turned I9).2 b hb o e)
        have I11 : Inv (cxC X scope cl (own ++ cp.map (·.1)) fp C s2 H2) [(s2.heap.objs.size, lobj (its ++ [uy]) k')] σ7 H9 { s9 with heap := h10 } := I10.pins_of fun p hp => by
          cases List.mem_singleton.mp hp
          refine ⟨?_, pD.2.1, pD.2.2.1, pD.2.2.2.1, fun v z => by cases z⟩
          rw [hk']
          simp
        exact wpAny_pure (wpAny_pure ⟨rfl, m', hm', i + 1, H9, acc ++ [y], its ++ [uy], k', weak I11, rv.append (.cons r9 .nil), Tn.keep _ _ _ st6 kk, (turned I9).1, w9⟩)
  exact codeAny_compStart_list (loop _ rfl) (Tn.self _ 0 _ _ _ (Tn.keep _ _ _ st2 fun b _ o e => old b o e) (loop _ rfl))
theorem ps_compS {i₀ : Nat} {y₀ : Str} {p₀ p₁ : Pos} {elt iter : Expr} {ifs : List Expr} {x : Str} {px : Pos} {scope : Scope} {pos : Pos} {cl : List (Str × Addr)} {own : List Str} {cp : List (Str × Nat)} {tl : TE} {tc : TT} {te : TE}
    (hc : X.calm = true) (hcl : closL scope.names X.env.cells [] = some cl) (hk : scope.kind = .function) (hnc : ∀ y ∈ scope.names, y.2 ≠ .cell)
    (hnm : ∀ x ∈ scope.names, x.2 = .local → scope.names.lookup x.1 = some .local) (hcp : CapOk X scope cp) (hl : PE X iter tl) (hn : 0 < own.length)
    (hg : ∀ fp C s H, PG (cxC X scope cl (own ++ cp.map (·.1)) fp C s H) (.Name x px) (gName 0)) (ht : ∀ fp C s H, PFs (cxC X scope cl (own ++ cp.map (·.1)) fp C s H) ifs tc) (he : ∀ fp C s H, PE (cxC X scope cl (own ++ cp.map (·.1)) fp C s H) elt te)
    (hN : X.N.Nodup) (hi₀ : X.N[i₀]? = some y₀) (hx₀ : X.env.scope.names.lookup y₀ = some .local) (hsw : swapsWith (.ListComp elt [⟨.Name x px, iter, ifs, 0⟩] scope pos) (some (.Name y₀ p₀)) p₁.line X.env = pure true := by rfl)
    (hs : ∀ z, foldedSetIterable iter X.env z = pure z := by intro _; rfl) : PS X (.Assign [.Name y₀ p₀] (.ListComp elt [⟨.Name x px, iter, ifs, 0⟩] scope pos) p₁) (tAsg (tCS own.length cp tl tc te) (gName i₀)) := by
  have hl' : PE X iter (fun σ H Q => ∃ Q0 : VK, tl σ H Q0 ∧ ∀ v H', Q0 v H' → Q v H') := hl.imp fun σ H Q h => h
  intro pins s σ H D I h
  refine ps_comp hc hcl hk hnc hnm hcp (pi_str hl') (gk_name hn) hg (fun fp C s H => (ht fp C s H).imp (t' := cloT tc) fun _ _ _ z => z) (fun fp C s H => (he fp C s H).imp (t' := cloE te) fun _ _ _ z => z) hN hi₀ hx₀ hsw hs pins s σ H D I ?_
  refine ⟨_, h, fun v H1 q => ?_⟩
  cases v with
  | str z =>
    obtain ⟨hz, Pv, p0, ps, pe⟩ := q
    have hsl : sizeLine = 16777216 := sizeLine_eq
    refine ⟨z, rfl, fun i m H2 acc => m = (L z).length - i ∧ i ≤ (L z).length ∧ acc.length ≤ i ∧ Pv i H2 acc, ⟨(L z).length, by omega, Nat.zero_le _, Nat.le_refl _, p0⟩, ?_⟩
    rintro i m H2 acc ⟨rfl, hi, hla, pv'⟩
    refine ⟨by omega, ?_⟩
    by_cases hlt : i < (L z).length
    · refine .inr ⟨hlt, fun y H3 ⟨e3, ey⟩ => ?_⟩
      subst e3 ey
      exact oneC_clo (N' := fun H a => ∃ m', m' < (L z).length - i ∧ (m' = (L z).length - (i + 1) ∧ i + 1 ≤ (L z).length ∧ a.length ≤ i + 1 ∧ Pv (i + 1) H a)) (fun H a ha y => ⟨(L z).length - (i + 1), by omega, rfl, hlt, by omega, y⟩) (ps i H3 acc hlt pv')
    · have e : i = (L z).length := by omega
      subst e
      exact .inl ⟨Nat.le_refl _, fun l hl' => pe H2 acc pv' l hl'⟩
  | _ => exact False.elim q
end
end L2
set_option maxRecDepth 100000
namespace LO
end LO
set_option maxRecDepth 100000
namespace L2
open PySem PySem.Spec PyProof.Rows
inductive EqT (K : PySem.W.Frag) (H : Hp) : Nat → V → V → Prop
  | flat {n : Nat} {x y : V} (hx : flatV x = true) (hy : flatV y = true) (h : eqV x y = true) : EqT K H n x y
  | same {n : Nat} (a : Addr) : EqT K H n (.ref a) (.ref a)
  | tup {n : Nat} {a b : Addr} {xs ys : List V} (ha : SqT K H a xs) (hb : SqT K H b ys) (hl : xs.length = ys.length) (h : ∀ (j : Nat) (x y : V), xs[j]? = some x → ys[j]? = some y → EqT K H n x y) : EqT K H (n + 1) (.ref a) (.ref b)
  | lst {n : Nat} {a b : Addr} {xs ys : List V} (ha : SqL K H a xs) (hb : SqL K H b ys) (hl : xs.length = ys.length) (h : ∀ (j : Nat) (x y : V), xs[j]? = some x → ys[j]? = some y → EqT K H n x y) : EqT K H (n + 1) (.ref a) (.ref b)
section
variable {X : Cx} {pins : List (Addr × Obj)} {σ : St} {H : Hp} {s : Shared}
theorem vals_pair {xs ys : List V} {us vs : List Value} (r1 : Vals xs us) (r2 : Vals ys vs) (j : Nat) (h1 : j < us.length) (h2 : j < vs.length) : ∃ x y, xs[j]? = some x ∧ ys[j]? = some y ∧ RelV x us[j] ∧ RelV y vs[j] := by
  have l1 := r1.length
  have l2 := r2.length
  have e1 : xs[j]? = some xs[j] := by simp [l1, h1]
  have e2 : ys[j]? = some ys[j] := by simp [l2, h2]
  obtain ⟨u, hu, ru⟩ := r1.get e1
  obtain ⟨v, hv, rv⟩ := r2.get e2
  rw [List.getElem?_eq_getElem h1] at hu
  rw [List.getElem?_eq_getElem h2] at hv
  have hu := Option.some.inj hu
  have hv := Option.some.inj hv
  subst hu hv
  exact ⟨_, _, e1, e2, ru, rv⟩
theorem all_true (n : Nat) : (List.range n).all (fun _ => true) = true := by
  rw [List.all_eq_true]
  intro _ _
  rfl
theorem EqT.at (I : Inv X pins σ H s) {n : Nat} {x y : V} (h : EqT X.K H n x y) : ∀ {A : Around} {u v : Value}, RelV x u → RelV y v → A.units + n < cLine → SeqAt.EqAt A s u v true := by
  induction h with
  | flat hx hy h =>
    intro A u v ru rv _
    have := eqAt_V (A := A) (s := s) ru rv hx hy
    rwa [h] at this
  | same a =>
    intro A u v ru rv _
    obtain rfl : u = Value.ref a := ru
    obtain rfl : v = Value.ref a := rv
    exact SeqAt.EqAt.same _
  | @tup n a b xs ys ha hb hl h ih =>
    intro A u v ru rv hu
    obtain rfl : u = Value.ref a := ru
    obtain rfl : v = Value.ref b := rv
    by_cases hab : a = b
    · subst hab
      exact SeqAt.EqAt.same _
    obtain ⟨its, r1, p1, z1⟩ := I.tuple ha
    obtain ⟨ist, r2, p2, z2⟩ := I.tuple hb
    have l1 := r1.length
    have l2 := r2.length
    have := SeqAt.RcAt.tuples (A := A) (e := fun _ => true) p1 p2 (by omega) fun j h1 h2 => by
      obtain ⟨x, y, e1, e2, rx, ry⟩ := vals_pair r1 r2 j (by simpa using h1) (by simpa using h2)
      exact ih j x y e1 e2 rx ry (by rw [Around.in1_units]; omega)
    rw [all_true, show (its.toArray.size == ist.toArray.size) = true by simp; omega] at this
    exact SeqAt.EqAt.of_refs hab this
  | @lst n a b xs ys ha hb hl h ih =>
    intro A u v ru rv hu
    obtain rfl : u = Value.ref a := ru
    obtain rfl : v = Value.ref b := rv
    by_cases hab : a = b
    · subst hab
      exact SeqAt.EqAt.same _
    obtain ⟨its, r1, p1, z1⟩ := I.list ha
    obtain ⟨ist, r2, p2, z2⟩ := I.list hb
    have l1 := r1.length
    have l2 := r2.length
    have := SeqAt.RcAt.lists (A := A) (e := fun _ => true) p1.isList p2.isList (by simp; omega) (by omega) fun j h1 h2 => by
      obtain ⟨x, y, e1, e2, rx, ry⟩ := vals_pair r1 r2 j (by simpa using h1) (by simpa using h2)
      exact ih j x y e1 e2 rx ry (by rw [Around.in1_units]; omega)
    rw [all_true] at this
    exact SeqAt.EqAt.of_refs hab this
end
section
variable {X : Cx}
end
end L2
set_option maxRecDepth 100000
namespace LP
open PySem L2
noncomputable def flat (rs : List (Nat × Nat)) : List Nat := (rs.map fun r => List.replicate r.2 r.1).flatten
structure GoodR (rs : List (Nat × Nat)) : Prop where
  pos : ∀ r ∈ rs, 1 ≤ r.2
  ne : ∀ (j : Nat) (a b : Nat × Nat), rs[j]? = some a → rs[j + 1]? = some b → a.1 ≠ b.1
noncomputable def SameT (H H' : Hp) : Prop := ∀ t xs, H t = some (.tup xs) → H' t = some (.tup xs)
theorem sameT_of {H H' : Hp} (sm : Same H H') : SameT H H' := fun t xs h => sm t _ h
theorem SameT.trans {H1 H2 H3 : Hp} (a : SameT H1 H2) (b : SameT H2 H3) : SameT H1 H3 := fun t xs h => b t xs (a t xs h)
end LP
set_option maxRecDepth 100000
namespace L2
open PySem PySem.Spec PyProof.Rows
section
variable {X : Cx} {es : List Expr} {k : Nat} {tp : Pos}
abbrev g2 (K : PySem.W.Frag) (i j : Nat) : TG := gTup K 2 (gCons (gName i) (gCons (gName j) gNil))
section
variable {elt iter : Expr} {ifs : List Expr} {u v : Str} {pu pv : Pos} {scope : Scope} {pos : Pos} {cl : List (Str × Addr)} {own : List Str} {cp : List (Str × Nat)} {ta : TA} {tl : TE} {tc : TT} {te : TE}
end
end
end L2
set_option maxRecDepth 100000
namespace L2
open PySem PySem.Spec PyProof.Rows
section
variable {X : Cx}
end
theorem bt_set : bootBuiltins "set" = some (.type "set") := by decide +kernel
end L2
namespace L2
end L2
namespace L2
open PySem
theorem bk_same {P : Addr} {pos : Pos} {q : Str} {H H' : Hp} (h : Bk P pos q H) (sm : Same H H') : Bk P pos q H' := by
  rcases h with h | ⟨c', h1, h2⟩
  · exact .inl (sm _ _ h)
  · exact .inr ⟨c', sm _ _ h1, sm _ _ h2⟩
end L2
namespace LO
theorem cons_le {a b : Nat} {x y : List Nat} (h : a :: x ≤ b :: y) : a < b ∨ (a = b ∧ x ≤ y) := by
  have h' : ¬ (b :: y < a :: x) := List.not_lt.mpr h
  rw [List.cons_lt_cons_iff] at h'
  by_cases hab : a = b
  · exact .inr ⟨hab, List.not_lt.mp fun z => h' (.inr ⟨hab.symm, z⟩)⟩
  · exact .inl (Nat.lt_of_le_of_ne (Nat.le_of_not_lt fun z => h' (.inl z)) hab)
theorem len_sub {α : Type} [DecidableEq α] : ∀ {ks ps : List α}, ks.Nodup → (∀ x ∈ ks, x ∈ ps) → ks.length ≤ ps.length
  | [], _, _, _ => Nat.zero_le _
  | x :: r, ps, nd, h => by
    have hx := h x (List.mem_cons_self ..)
    obtain ⟨n1, n2⟩ := List.nodup_cons.mp nd
    have := len_sub (ks := r) (ps := ps.erase x) n2 fun y hy => by
      have hne : y ≠ x := by rintro rfl; exact n1 hy
      exact (List.mem_erase_of_ne hne).mpr (h y (List.mem_cons_of_mem _ hy))
    rw [List.length_erase_of_mem hx] at this
    have := List.length_pos_of_mem hx
    rw [List.length_cons]
    omega
end LO
set_option maxRecDepth 100000
namespace LO
theorem com_le (a b : List Nat) : LW.com a b ≤ a.length := by
  induction a generalizing b with
  | nil => exact Nat.zero_le _
  | cons x r ih =>
    cases b with
    | nil => exact Nat.zero_le _
    | cons y q =>
      unfold LW.com
      split
      · have := ih q
        simp only [List.length_cons]
        omega
      · exact Nat.zero_le _
end LO
namespace LO
open LW L2
theorem take_com : ∀ (x y : List Nat) (m : Nat), m ≤ com x y → x.take m = y.take m
  | _, _, 0, _ => by simp
  | [], y, m + 1, h => by have : com [] y = 0 := by cases y <;> rfl
                          omega
  | a :: x, [], m + 1, h => by have : com (a :: x) [] = 0 := rfl
                               omega
  | a :: x, b :: y, m + 1, h => by
    unfold com at h
    by_cases hab : a = b
    · rw [if_pos hab] at h
      rw [List.take_succ_cons, List.take_succ_cons, hab, take_com x y m (by omega)]
    · rw [if_neg hab] at h
      omega
noncomputable def en (t : List Nat) (k : Nat) : List Nat := t.drop ((ord t).getD k 0)
end LO
namespace L2
end L2
set_option maxRecDepth 100000
namespace LO
open LW L2
end LO
set_option maxRecDepth 100000
namespace L2
open PySem
section
variable {X : Cx}
end
end L2
set_option maxRecDepth 100000
namespace L2
open PySem PySem.Spec PyProof.Rows
noncomputable def TabOk (w : World) (t : SetTable) (n : Nat) : Prop := (w.params.followText "set-order" = false → t.led = true) ∧ (0 < n → t.plain = false)
abbrev sObj (es : Array (Int × Value)) (ep : Nat) (t : SetTable) : Obj := { cls := .type "set", dict := none, data := .set es ep t }
noncomputable def SetStr (prog : Program) (w : World) (h : Heap) (a : Addr) (S : Str → Bool) (n : Nat) : Prop :=
  ∃ es ep t, h.get? a = some (sObj es ep t) ∧ ElemsOf (PySem.strKind prog w) es.toList ∧ (∀ k, S k = true ↔ ∃ e ∈ es.toList, (PySem.strKind prog w).is k e.2 = true) ∧ es.size < scanBound ∧ t.fits es.size = true ∧ es.size = n ∧ TabOk w t es.size
theorem orStand_led (t : SetTable) (n : Nat) : (t.orStandIn n).led = t.led ∧ (t.plain = false → (t.orStandIn n).plain = false) := by
  unfold SetTable.orStandIn
  split
  · exact ⟨rfl, id⟩
  · exact ⟨rfl, fun _ => rfl⟩
theorem lay_led (t : SetTable) (es : Array (Int × Value)) (h : Int) (x : Value) : (layNew t es h x).2.1.led = t.led ∧ (t.plain = false → (layNew t es h x).2.1.plain = false) := by
  unfold layNew
  split
  · rename_i slot wd _
    have := orStand_led (t.put slot).1 (SetTable.insertAt es (t.put slot).2 (h, x)).size
    exact ⟨this.1.trans rfl, fun z => this.2 z⟩
  · exact ⟨rfl, fun _ => rfl⟩
theorem relaid_led {t t' : SetTable} {hs : Array Int} {n : Nat} {order : Array Nat} (h : t.relaid hs n = some (t', order)) : t'.led = t.led ∧ t'.plain = t.plain := by
  unfold SetTable.relaid SetTable.laid at h
  simp only [Option.bind_eq_bind, Option.bind_eq_some_iff, Option.pure_def, Option.some.injEq, Prod.mk.injEq] at h
  obtain ⟨_, _, e, _⟩ := h
  rw [← e]
  exact ⟨rfl, rfl⟩
theorem relay_led (t : SetTable) (es : Array (Int × Value)) (n : Nat) : (relayAll t es n).2.1.led = t.led ∧ (t.plain = false → (relayAll t es n).2.1.plain = false) := by
  unfold relayAll
  split
  · rename_i t' order e
    have := relaid_led e
    dsimp only
    split
    · exact ⟨this.1, fun z => this.2.trans z⟩
    · exact ⟨rfl, fun _ => rfl⟩
  · exact ⟨rfl, fun _ => rfl⟩
section
variable {prog : Program} {w : World} {A : Around} {E : Value → Shared → Prop} {s : Shared}
theorem store_at {h : Heap} {a : Addr} {es es' : Array (Int × Value)} {ep : Nat} {t t' : SetTable} (ho : h.get? a = some (sObj es ep t)) : (h.update a (Obj.putSet es' t')).get? a = some (sObj es' (ep + 1) t') := by
  have e := putSet_of (o := sObj es ep t) es' t' rfl
  have g := Heap.get?_update_self (Obj.putSet es' t') ho (by rw [e]; rfl)
  rw [e] at g
  exact g
theorem tail_str {g : Bool → Sem Unit} (gok : ∀ (b : Bool) (z : Shared) (R : Unit → Shared → Prop), R () z → wpAny (model prog w) A (g b) R E z) {a : Addr} {es : Array (Int × Value)} {ep : Nat} {t : SetTable} (ho : s.heap.get? a = some (sObj es ep t))
    {fs : Array (Int × Value)} {u : SetTable} {S' : Str → Bool} (el : ElemsOf (PySem.strKind prog w) fs.toList) (mem : ∀ k, S' k = true ↔ ∃ e ∈ fs.toList, (PySem.strKind prog w).is k e.2 = true) (small : fs.size < scanBound) (fit : u.fits fs.size = true) (tab : TabOk w u fs.size)
    {wd : Bool} {R : Option Bool → Shared → Prop} (fin : ∀ h', Heap.SameBut a s.heap h' → SetStr prog w h' a S' fs.size → R (some true) { s with heap := h' }) :
    wpAny (model prog w) A (do
        storeSet a fs u
        if (!wd && u.tooFull) = true then do
            g (relayAll u fs (SetTable.grown fs.size)).2.2
            storeSet a (relayAll u fs (SetTable.grown fs.size)).1 (relayAll u fs (SetTable.grown fs.size)).2.1
            pure (some true)
          else pure (some true)) R E s := by
  refine wpAny_bind (wpAny_storeSet_of ho rfl ?_ (fits_of_scanBound small))
  have o1 := store_at (es' := fs) (t' := u) ho
  have b1 := Heap.SameBut.update s.heap a (Obj.putSet fs u)
  split
  · have pm := relayAll_perm u fs (SetTable.grown fs.size)
    have ft := relayAll_fits u fs (SetTable.grown fs.size)
    have ld := relay_led u fs (SetTable.grown fs.size)
    generalize relayAll u fs (SetTable.grown fs.size) = rl at pm ft ld ⊢
    obtain ⟨gs, v, gv⟩ := rl
    dsimp only at pm ft ld ⊢
    have sz : gs.size = fs.size := by rw [← Array.length_toList, pm.length_eq, Array.length_toList]
    refine wpAny_bind (gok _ _ _ (wpAny_bind (wpAny_storeSet_of o1 rfl ?_ (fits_of_scanBound (by rw [sz]; exact small)))))
    have o2 := store_at (es' := gs) (t' := v) o1
    refine wpAny_pure (fin _ (b1.trans (Heap.SameBut.update _ a _)) ⟨gs, _, v, o2, el.perm pm, fun k => (mem k).trans ⟨fun ⟨e, he, q⟩ => ⟨e, pm.mem_iff.mpr he, q⟩, fun ⟨e, he, q⟩ => ⟨e, pm.mem_iff.mp he, q⟩⟩, by rw [sz]; exact small, ft, sz, ?_⟩)
    rw [sz]
    exact ⟨fun z => ld.1.trans (tab.1 z), fun z => ld.2 (tab.2 z)⟩
  · exact wpAny_pure (fin _ b1 ⟨fs, _, u, o1, el, mem, small, fit, rfl, tab⟩)
theorem add_str {a : Addr} {S : Str → Bool} {n : Nat} {x : Str} {tk : Tok} {Q : Bool → Shared → Prop} (st : SetStr prog w s.heap a S n) (room : n + 1 < scanBound)
    (fin : ∀ h', Heap.SameBut a s.heap h' → SetStr prog w h' a (fun k => S k || decide (k = x)) (if S x then n else n + 1) → Q (!S x) { s with heap := h' }) :
    wpAny (model prog w) A (setAddHashed a (.str x tk) ((PySem.strKind prog w).hash x)) Q E s := by
  obtain ⟨es, ep, t, ho, el, mem, small, fit, rfl, tab⟩ := st
  have key : (PySem.strKind prog w).is x (.str x tk) = true := by
    show Value.isStrOf x (.str x tk) = true
    simp [Value.isStrOf, Value.isStr]
  unfold setAddHashed setAddHashedIn
  refine wpAny_holding (wpAny_bind (wpAny_setState_of ho rfl fit ?_))
  dsimp only
  rw [byScan_of (knd := PySem.strKind prog w) (x := .str x tk) rfl small el]
  simp only [↓reduceIte]
  unfold setAddByScan
  refine wpAny_bind (wpAny_bind (wpAny_rule (wpAny_bind (wpAny_setScan_of (knd := PySem.strKind prog w) key ho rfl fit el ?_))))
  cases found : List.findIdx? (fun e => (PySem.strKind prog w).is x e.2) es.toList with
  | some j =>
    dsimp only
    obtain ⟨hj, at_, _⟩ := List.findIdx?_eq_some_iff_getElem.mp found
    have yes : S x = true := (mem x).mpr ⟨es.toList[j], List.getElem_mem hj, at_⟩
    refine wpAny_pure (wpAny_pure ?_)
    have f := fin s.heap (Heap.SameBut.refl a s.heap) ⟨es, ep, t, ho, el, fun k => ?_, small, fit, by rw [yes]; rfl, tab⟩
    · rw [yes] at f
      exact f
    · rw [Bool.or_eq_true, decide_eq_true_eq, ← mem k]
      exact ⟨fun z => z.elim id fun e => e ▸ yes, .inl⟩
  | none =>
    dsimp only
    have no : S x = false := by
      cases hx : S x with
      | false => rfl
      | true =>
        obtain ⟨e, he, q⟩ := (mem x).mp hx
        have := List.findIdx?_eq_none_iff.mp found e he
        rw [q] at this
        cases this
    have pm := layNew_perm t es ((PySem.strKind prog w).hash x) (.str x tk)
    have ft := layNew_fits t es ((PySem.strKind prog w).hash x) (.str x tk)
    have ld := lay_led t es ((PySem.strKind prog w).hash x) (.str x tk)
    generalize layNew t es ((PySem.strKind prog w).hash x) (.str x tk) = ly at pm ft ld ⊢
    obtain ⟨fs, u, wd, gave⟩ := ly
    dsimp only at pm ft ld ⊢
    rw [Array.toList_push] at pm
    have el' : ElemsOf (PySem.strKind prog w) fs.toList := (el.push key rfl).perm pm
    have mem' := mem_push_iff (knd := PySem.strKind prog w) key mem pm
    have sz : fs.size = es.size + 1 := by rw [← Array.length_toList, pm.length_eq, List.length_append, Array.length_toList]; rfl
    have gok : ∀ (b : Bool) (z : Shared) (R : Unit → Shared → Prop), R () z → wpAny (model prog w) A (match b with | true => rule "set.scan.the-table-gave-way" | false => pure ()) R E z := fun b z R q => by
      cases b
      · exact wpAny_pure q
      · exact wpAny_rule q
    refine wpAny_bind (gok _ _ _ ?_)
    have last : ∀ h', Heap.SameBut a s.heap h' → SetStr prog w h' a (fun k => S k || decide (k = x)) fs.size → Q true { s with heap := h' } := fun h' sb q => by
      have f := fin h' sb
      rw [no, if_neg Bool.false_ne_true] at f
      rw [sz] at q
      exact f q
    split
    · rename_i pl
      refine wpAny_bind ?_
      rw [hashByValue_scannable 8 (x := .str x tk) rfl]
      refine wpAny_pure ?_
      show wpAny _ _ _ _ _ _
      refine tail_str (w := w) (fun b z R q => gok b z R q) ho el' mem' (by omega) (u := { u with plain := false }) (SetTable.fits_plain_off ft) ⟨fun z => ld.1.trans (tab.1 z), fun _ => rfl⟩ fun h' sb q => ?_
      exact wpAny_pure (last h' sb q)
    · rename_i pl
      refine wpAny_bind (wpAny_pure ?_)
      simp only [↓reduceIte]
      refine tail_str (w := w) (fun b z R q => gok b z R q) ho el' mem' (by omega) ft ⟨fun z => ld.1.trans (tab.1 z), fun _ => by simpa using pl⟩ fun h' sb q => ?_
      exact wpAny_pure (last h' sb q)
end
noncomputable def memS (ds : List Nat) : Str → Bool := fun k => ds.any fun c => decide (k = T [c])
theorem memS_T (ds : List Nat) (c : Nat) : memS ds (T [c]) = decide (c ∈ ds) := by
  unfold memS
  rw [Bool.eq_iff_iff, List.any_eq_true, decide_eq_true_eq]
  refine ⟨fun ⟨d, hd, e⟩ => ?_, fun h => ⟨c, h, by simp⟩⟩
  have := T_inj.mp (of_decide_eq_true e)
  rw [List.head_eq_of_cons_eq this]
  exact hd
theorem setStr_congr {prog : Program} {w : World} {h : Heap} {a : Addr} {S S' : Str → Bool} {n n' : Nat} (x : SetStr prog w h a S n) (e : ∀ k, S k = S' k) (en : n = n') : SetStr prog w h a S' n' := by
  have : S = S' := funext e
  subst this en
  exact x
section
variable {prog : Program} {w : World} {A : Around} {E : Value → Shared → Prop} {s : Shared}
theorem fill_str {R : Result → Shared → Prop} {I : Addr} {fp wr : List Addr} {G : Array GenState → Array GenState → Prop} {n : Nat} {P : Nat → Value → Prop} {St : Nat → Shared → Prop} (W : WalksS prog w A.in1 I fp wr G n P St) (a : Addr) (out : a ∉ fp) (ys : List Nat) (hn : n = ys.length)
    (hP : ∀ i v, P i v → ∃ c u, ys[i]? = some c ∧ v = .str (T [c]) u) (room : n + 1 < scanBound) : ∀ (k i : Nat) (s : Shared) (ds : List Nat), n - i = k → i ≤ n → St i s → ds.Nodup → (∀ c, c ∈ ds ↔ c ∈ ys.take i) → ds.length ≤ i → SetStr prog w s.heap a (memS ds) ds.length →
      (∀ s' ds, Moved (a :: wr) G s s' → ds.Nodup → (∀ c, c ∈ ds ↔ c ∈ ys) → SetStr prog w s'.heap a (memS ds) ds.length → R (.ok (.ret .none)) s') → codeAny (model prog w) A (.builtin "set.update.loop" ⟨[.ref a, .ref I], []⟩) R s := by
  have aw : a ∉ wr := fun h => out (W.sub _ h)
  have more : ∀ b ∈ wr, b ∈ a :: wr := fun b hb => List.mem_cons_of_mem _ hb
  have stay : ∀ {s s' : Shared} {S : Str → Bool} {m : Nat}, SetStr prog w s.heap a S m → Moved wr G s s' → SetStr prog w s'.heap a S m := fun {s s' S m} x mv => by
    obtain ⟨es, ep, t, ho, r⟩ := x
    exact ⟨es, ep, t, mv.heap a _ aw ho, r⟩
  intro k
  induction k with
  | zero =>
    intro i s ds hk hi st nd mem len set fin
    have : i = n := by omega
    subst this
    refine codeAny_builtin F.entry_set_update_loop ?_
    rw [Around.under_plainId F.plain_set_update_loop _]
    show wpAny _ A.in1 (pyNext (.ref I) >>= _) _ _ s
    refine wpAny_bind (W.done s _ _ st fun s' mv => ?_)
    exact wpAny_pure (fin s' ds (mv.mono more) nd (fun c => by rw [mem c, List.take_of_length_le (by omega)]) (stay set mv))
  | succ k ih =>
    intro i s ds hk hi st nd mem len set fin
    have lt : i < n := by omega
    refine codeAny_builtin F.entry_set_update_loop ?_
    rw [Around.under_plainId F.plain_set_update_loop _]
    show wpAny _ A.in1 (pyNext (.ref I) >>= _) _ _ s
    refine wpAny_bind (W.item i s _ _ lt st fun v s' hv st' mv => ?_)
    obtain ⟨c, u, hc, rfl⟩ := hP i v hv
    show wpAny _ A.in1 (holding [Value.str (T [c]) u] (setAdd a (.str (T [c]) u)) >>= _) _ _ s'
    refine wpAny_bind (wpAny_holding ?_)
    unfold setAdd
    have key : (PySem.strKind prog w).is (T [c]) (.str (T [c]) u) = true := by
      show Value.isStrOf (T [c]) (.str (T [c]) u) = true
      simp [Value.isStrOf, Value.isStr]
    refine wpAny_holding (wpAny_bind ((PySem.strKind prog w).pyHash (k := T [c]) key ?_))
    refine add_str (s := { s' with toks := s'.toks + 1 }) (show SetStr prog w s'.heap a _ _ from stay set mv) (by omega) fun h' sb set2 => ?_
    have mem2 : ∀ d, d ∈ (if c ∈ ds then ds else ds ++ [c]) ↔ d ∈ ys.take (i + 1) := fun d => by
      rw [List.take_succ, hc, List.mem_append, ← mem d]
      split
      · rename_i h
        exact ⟨.inl, fun z => z.elim id fun e => by have : d = c := by simpa using e
                                                    rw [this]; exact h⟩
      · simp
    have nd2 : (if c ∈ ds then ds else ds ++ [c]).Nodup := by
      split
      · exact nd
      · rename_i h
        rw [List.nodup_append]
        exact ⟨nd, by simp, fun x hx y hy e => h (by rw [← List.mem_singleton.mp hy, ← e]; exact hx)⟩
    have len2 : (if c ∈ ds then ds else ds ++ [c]).length ≤ i + 1 := by
      split
      · omega
      · rw [List.length_append, List.length_singleton]
        omega
    have set3 : SetStr prog w h' a (memS (if c ∈ ds then ds else ds ++ [c])) (if c ∈ ds then ds else ds ++ [c]).length := by
      refine setStr_congr set2 (fun k => ?_) ?_
      · split
        · rename_i h
          rw [Bool.eq_iff_iff, Bool.or_eq_true, decide_eq_true_eq]
          refine ⟨fun z => z.elim id fun e => ?_, .inl⟩
          rw [e, memS_T]
          exact decide_eq_true h
        · unfold memS
          rw [List.any_append]
          simp
      · rw [memS_T]
        by_cases h : c ∈ ds
        · simp [h]
        · simp [h]
    refine wpAny_pure ⟨plainId_quiet F.plain_set_update_loop _, ih (i + 1) _ _ (by omega) lt (W.frame _ s' _ _ st' (Nat.le_succ _) fun b hb o e => ?_) nd2 mem2 len2 set3 fun s2 ds' mv2 nd' mem' set' => ?_⟩
    · rw [sb.2 b (fun z : b = a => out (z ▸ hb))]
      exact e
    · refine fin s2 ds' (Moved.trans W.gtrans ((mv.mono more).then_heap (Nat.le_succ _) fun b o hb e => ?_) mv2) nd' mem' set'
      rw [sb.2 b (fun z : b = a => hb (z ▸ List.mem_cons_self))]
      exact e
end
end L2
set_option maxRecDepth 100000
namespace L2
open PySem PySem.Spec PyProof.Rows
theorem sub_str_set : isSubtype (.type "str") (.type "set") = pure false := by rw [isSubtype_type]; kernel_rfl
theorem sub_str_frozen : isSubtype (.type "str") (.type "frozenset") = pure false := by rw [isSubtype_type]; kernel_rfl
section
variable {prog : Program} {w : World} {A : Around} {E : Value → Shared → Prop} {s : Shared}
theorem set_new_led (v : Value) {Q₁ : Value → Shared → Prop} (h : Q₁ (.ref s.heap.objs.size) { s with heap := s.heap.push (sObj #[] 0 (.fresh 0 0 (!w.params.followText "set-order"))) }) :
    codeAny (model prog w) A (.call (.builtin "set.__new__") ⟨[.type "set", v], []⟩) (wants Q₁ E) s := by
  refine codeAny_of_tree ?_
  show wpAny _ A.in1 (do checkBuiltinCall "set.__new__" ⟨[.type "set", v], []⟩; again (.builtin "set.__new__" ⟨[.type "set", v], []⟩)) _ _ s
  refine wpAny_bind (wpAny_of_eq (F.newCall_set_1 v) (wpAny_pure ⟨plainId_quiet F.plain_set_new _, codeAny_builtin F.entry_set_new ?_⟩))
  rw [Around.under_plainId F.plain_set_new _]
  unfold Builtin.«set.__new__» Builtin.Frozenset.newClass
  have sub := sub_set_self
  obtain ⟨hp, g, d, tk, os⟩ := s
  dsimp only
  wp_walk
  refine wpAny_askSetting (wpAny_pure ?_)
  dsimp only
  simp only [newObj]
  exact wpAny_bind (wpAny_alloc (wpAny_pure (wpAny_pure h)))
set_option maxHeartbeats 3200000 in
theorem call_set_str {x : Str} {tk : Tok} {Q : Value → Shared → Prop} (hh : A.handled = none) (small : (L x).length + 1 < scanBound)
    (h : ∀ (h' : Heap) (tk' : Nat) (ds : List Nat), SetStr prog w h' s.heap.objs.size (memS ds) ds.length → ds.Nodup → (∀ c, c ∈ ds ↔ c ∈ L x) → (∀ b o, b < s.heap.objs.size → s.heap.get? b = some o → h'.get? b = some o) → Q (.ref s.heap.objs.size) { s with heap := h', toks := tk' }) :
    wpAny (model prog w) A (call (.type "set") [.str x tk]) Q E s := by
  obtain ⟨c, tl, hmro⟩ := F.called_set.mro
  have hmade := F.called_set.made
  have hsub := F.called_set.sub
  refine wpAny_call (codeAny_of_tree ?_)
  show wpAny _ _ (callAny (.type "set") _) _ _ _
  refine wpAny_pure ⟨Code.quiet_builtin _ (by decide +kernel), codeAny_builtin F.entry_type_call ?_⟩
  rw [Around.under_plain (weight_type_call_type "set" [.str x tk] []) rfl]
  have h1 := F.called_set.notType
  have h2 := F.called_set.canCreate
  have hct := F.typeCall_set_1 (.str x tk)
  repeat (any_goals (first | assumption | wp_step))
  refine codeAny_mono (set_new_led (.str x tk) (E := E) (Q₁ := fun obj z => obj = .ref s.heap.objs.size ∧ z = { s with heap := s.heap.push (sObj #[] 0 (.fresh 0 0 (!w.params.followText "set-order"))) }) ⟨rfl, rfl⟩) fun r z hr => ?_
  cases r with
  | error e => exact hr
  | ok fl =>
    cases fl with
    | ret obj =>
      obtain ⟨rfl, rfl⟩ := hr
      generalize hled : (!w.params.followText "set-order") = led
      have own : (s.heap.push (sObj #[] 0 (.fresh 0 0 led))).get? s.heap.objs.size = some (sObj #[] 0 (.fresh 0 0 led)) := Heap.get?_push_size _ rfl
      have hT : Shared.TypeIs { s with heap := s.heap.push (sObj #[] 0 (.fresh 0 0 led)) } (.ref s.heap.objs.size) "set" := ⟨_, own, rfl⟩
      have hli := F.called_set.init.lookup
      have hbi := F.called_set.init.bind (.ref s.heap.objs.size)
      repeat (any_goals (first | assumption | wp_step))
      refine codeAny_mono (codeAny_call_builtin (R := wants (fun r z => r = .none ∧ ∃ h' tk' ds, z = { s with heap := h', toks := tk' } ∧ SetStr prog w h' s.heap.objs.size (memS ds) ds.length ∧ ds.Nodup ∧ (∀ c, c ∈ ds ↔ c ∈ L x) ∧
          (∀ b o, b < s.heap.objs.size → s.heap.get? b = some o → h'.get? b = some o)) E) F.called_set.init.plain F.entry_set_init (check_set_init_1 hT ?_)) fun r₂ z₂ hr₂ => ?_
      · have hsls := sub_str_set
        have hslf := sub_str_frozen
        have hne : (Value.type "str" == Value.type "dict") = false := by decide
        have hts : Shared.TypeIs { s with heap := s.heap.push (sObj #[] 0 (.fresh 0 0 led)) } (.str x tk) "str" := typeIs_str _ _ _
        unfold Builtin.«set.__init__» noKeywords Builtin.Frozenset.updateFrom
        generalize hPI : pyIter = PI
        wp_walk
        subst hPI
        refine wpAny_pyIter_str fun o St W st => ?_
        refine wpAny_bind (wpAny_runValue ?_)
        have hh3 : A.in1.in1.in1.handled = none := by simp [hh]
        have hsz : (s.heap.push (sObj #[] 0 (.fresh 0 0 led))).objs.size = s.heap.objs.size + 1 := Heap.size_push ..
        have hlx : x.cps.size = (L x).length := by unfold L; simp
        have out : s.heap.objs.size ∉ [(s.heap.push (sObj #[] 0 (.fresh 0 0 led))).objs.size] := by
          rw [hsz, List.mem_singleton]
          exact Nat.ne_of_lt (Nat.lt_succ_self _)
        refine fill_str ((W _ hh3).toS) s.heap.objs.size out (L x) hlx (fun i v hv => ?_) (by rw [hlx]; exact small) (x.cps.size - 0) 0 _ [] (by omega) (Nat.zero_le _) st List.nodup_nil (fun c => by simp) (Nat.zero_le _) ?_ fun z ds mv nd mem set => ?_
        · obtain ⟨d, u, e1, e2⟩ := hv
          refine ⟨d, u, ?_, e2⟩
          unfold L
          rw [Array.getElem?_toList]
          exact e1
        · refine ⟨#[], 0, _, Heap.get?_push_of_some _ own, fun e he => by simp at he, fun k => ?_, by decide, rfl, rfl, fun z => ?_, fun z => absurd z (Nat.lt_irrefl _)⟩
          · simp [memS]
          · rw [← hled, z]
            rfl
        · obtain ⟨h', g', d', tk', os'⟩ := z
          have eg : g' = s.gens := mv.gens
          have ed : d' = s.drawn := mv.drawn
          have eo : os' = s.os := mv.os
          subst eg ed eo
          refine wpAny_pure (wpAny_pure ⟨rfl, h', tk', ds, rfl, set, nd, mem, fun b o hb e => ?_⟩)
          refine mv.heap b o ?_ (Heap.get?_push_of_some _ (Heap.get?_push_of_some _ e))
          rw [hsz]
          simp only [List.mem_cons, List.mem_singleton, List.not_mem_nil, or_false, not_or]
          exact ⟨Nat.ne_of_lt hb, Nat.ne_of_lt (Nat.lt_succ_of_lt hb)⟩
      · cases r₂ with
        | error e => exact hr₂
        | ok fl₂ =>
          cases fl₂ with
          | ret r =>
            obtain ⟨rfl, h', tk', ds, rfl, q1, q2, q3, q4⟩ := hr₂
            repeat (any_goals (first | assumption | wp_step))
            exact h _ _ _ q1 q2 q3 q4
          | _ => exact hr₂.elim
    | _ => exact hr.elim
end
end L2
set_option maxRecDepth 100000
namespace L2
open PySem PySem.Spec PyProof.Rows
noncomputable def StrSet (w : World) (h : Heap) (a : Addr) (cs : List Nat) : Prop := ∃ es ep t, h.get? a = some (sObj es ep t) ∧ Vals (cs.map fun c => V.str (T [c])) (es.toList.map (·.2)) ∧ t.fits es.size = true ∧ es.size < scanBound ∧ TabOk w t es.size
theorem perm_sub {α : Type} [DecidableEq α] : ∀ {ds cs : List α}, ds.Nodup → (∀ x ∈ ds, x ∈ cs) → cs.length = ds.length → cs.Perm ds
  | [], cs, _, _, h => by
    rw [List.length_eq_zero_iff.mp h]
  | d :: r, cs, nd, sub, h => by
    obtain ⟨n1, n2⟩ := List.nodup_cons.mp nd
    have hd := sub d (List.mem_cons_self ..)
    have p1 : cs.Perm (d :: cs.erase d) := List.perm_cons_erase hd
    refine p1.trans (List.Perm.cons d (perm_sub n2 (fun x hx => ?_) ?_))
    · have hne : x ≠ d := by rintro rfl; exact n1 hx
      exact (List.mem_erase_of_ne hne).mpr (sub x (List.mem_cons_of_mem _ hx))
    · rw [List.length_erase_of_mem hd, h, List.length_cons]
      omega
theorem signs_of {prog : Program} {w : World} {ds : List Nat} : ∀ {es : List (Int × Value)}, ElemsOf (PySem.strKind prog w) es → (∀ e ∈ es, ∀ k, (PySem.strKind prog w).is k e.2 = true → memS ds k = true) →
    ∃ cs : List Nat, Vals (cs.map fun c => V.str (T [c])) (es.map (·.2)) ∧ (∀ c ∈ cs, c ∈ ds) ∧ ∀ c, (∃ e ∈ es, (PySem.strKind prog w).is (T [c]) e.2 = true) → c ∈ cs
  | [], _, _ => ⟨[], .nil, fun c h => (List.not_mem_nil h).elim, fun c ⟨e, h, _⟩ => (List.not_mem_nil h).elim⟩
  | e :: r, el, mem => by
    obtain ⟨cs, v1, m1, m2⟩ := signs_of (ds := ds) el.tail fun x hx => mem x (List.mem_cons_of_mem _ hx)
    obtain ⟨⟨k, hk, _⟩, _⟩ := el.head
    obtain ⟨t, ht⟩ := Value.isStrOf_shape hk
    have hm := mem e (List.mem_cons_self ..) k hk
    unfold memS at hm
    rw [List.any_eq_true] at hm
    obtain ⟨c, hc, ec⟩ := hm
    have ec := of_decide_eq_true ec
    subst ec
    refine ⟨c :: cs, .cons ⟨t, ht⟩ v1, fun d hd => ?_, fun d ⟨x, hx, hk2⟩ => ?_⟩
    · rcases List.mem_cons.mp hd with rfl | hd
      · exact hc
      · exact m1 d hd
    · rcases List.mem_cons.mp hx with rfl | hx
      · have : T [d] = T [c] := (PySem.strKind prog w).inj _ _ _ hk2 hk
        rw [List.head_eq_of_cons_eq (T_inj.mp this)]
        exact List.mem_cons_self ..
      · exact List.mem_cons_of_mem _ (m2 d ⟨x, hx, hk2⟩)
theorem strSet_of {prog : Program} {w : World} {h : Heap} {a : Addr} {ds : List Nat} (st : SetStr prog w h a (memS ds) ds.length) (nd : ds.Nodup) : ∃ cs, cs.Perm ds ∧ StrSet w h a cs := by
  obtain ⟨es, ep, t, ho, el, mem, small, fit, sz, tab⟩ := st
  obtain ⟨cs, v1, m1, m2⟩ := signs_of (ds := ds) el fun e he k hk => (mem k).mpr ⟨e, he, hk⟩
  have hl := v1.length
  rw [List.length_map, List.length_map] at hl
  have hl : cs.length = ds.length := hl.trans (Array.length_toList.trans sz)
  refine ⟨cs, perm_sub nd (fun c hc => m2 c ((mem (T [c])).mp ?_)) hl, es, ep, t, ho, v1, fit, small, tab⟩
  rw [memS_T]
  exact decide_eq_true hc
noncomputable def SetO (w : World) (a : Addr) (cs : List Nat) : HO := .ext fun h => StrSet w h a cs
section
variable {X : Cx}
noncomputable def setT (w : World) : List V → Hp → VK → Prop := fun vs H Q => match vs with
  | [.str z] => (L z).length ≤ 1000 ∧ ∀ p cs, H p = none → cs.Nodup → (∀ c, c ∈ cs ↔ c ∈ L z) → Q (.ref p) (upd H p (SetO w p cs))
  | _ => False
theorem c_setT {w : World} (hw : X.w = w) (hc : X.calm = true) : CallR X (.type "set") (setT w) := by
  subst hw
  intro pins s σ H vs us Q I r h
  unfold setT at h
  split at h
  · rename_i z
    obtain ⟨hl, q⟩ := h
    obtain ⟨u, rfl, ru⟩ := vals1 r
    obtain ⟨t, rfl⟩ := ru
    refine call_set_str (prog := X.prog) (w := X.w) (I.ok.hd hc) (by unfold scanBound; omega) fun h' tk ds set nd mem kp => ?_
    obtain ⟨cs, pm, ss⟩ := strSet_of set nd
    have hn := I.hok.fresh (Nat.le_refl s.heap.objs.size)
    refine ⟨.ref s.heap.objs.size, _, I.laid (o := SetO X.w s.heap.objs.size cs) (t' := tk) (fun b o e => kp b o (Heap.lt_size e) e) (Nat.le_refl _) ⟨ss, ?_, ?_⟩, rfl, q _ cs hn (pm.nodup_iff.mpr nd) fun c => (pm.mem_iff).trans (mem c)⟩
    · obtain ⟨es, ep, t, ho, _⟩ := ss
      exact ⟨_, ho⟩
    · rintro h1 h2 ⟨es, ep, t, ho, r⟩ k
      exact ⟨es, ep, t, k _ ho, r⟩
  · exact h.elim
end
end L2
set_option maxRecDepth 100000
namespace L2
open PySem PySem.Spec PyProof.Rows
theorem slot_seti_next : Slot "set_iterator" "__next__" "set_iterator.__next__" :=
  .of (owner := "set_iterator") (n := "__next__") (by rw [typeLookup_type, builtinLookup_eq_fast]; kernel_rfl) (by decide +kernel) (by decide +kernel) (by decide +kernel) (by first | exact .inl (by decide +kernel) | exact .inr (by decide +kernel)) (by rw [isSubtype_type]; kernel_rfl)
theorem entry_seti_next : entryFor table "set_iterator.__next__" = some Builtin.«set_iterator.__next__» := entryFor_of_tree (by kernel_rfl)
theorem args_seti_next (v : Value) : argsOk "set_iterator.__next__" ⟨[v], []⟩ := by unfold argsOk; kernel_rfl
theorem slot_seti_iter : Slot "set_iterator" "__iter__" "set_iterator.__iter__" :=
  .of (owner := "set_iterator") (n := "__iter__") (by rw [typeLookup_type, builtinLookup_eq_fast]; kernel_rfl) (by decide +kernel) (by decide +kernel) (by decide +kernel) (by first | exact .inl (by decide +kernel) | exact .inr (by decide +kernel)) (by rw [isSubtype_type]; kernel_rfl)
theorem entry_seti_iter : entryFor table "set_iterator.__iter__" = some Builtin.«dict_keyiterator.__iter__» :=
  entryFor_alias (id' := "dict_keyiterator.__iter__") (by kernel_rfl) (by first | rfl | decide +kernel) (by decide +kernel) (by kernel_rfl)
theorem args_seti_iter (v : Value) : argsOk "set_iterator.__iter__" ⟨[v], []⟩ := by unfold argsOk; kernel_rfl
theorem entry_set_iter2 : entryFor table "set.__iter__" = some Builtin.«frozenset.__iter__» :=
  entryFor_alias (id' := "frozenset.__iter__") (by kernel_rfl) (by first | rfl | decide +kernel) (by decide +kernel) (by kernel_rfl)
noncomputable def IsSI (h : Heap) (I : Addr) (first : Value) (i : Nat) (a : Addr) (n ep : Nat) : Prop := h.get? I = some { cls := .type "set_iterator", data := .fields #[first, .int i 0, .ref a, .int n 0, .int ep 0] }
section
variable {prog : Program} {w : World} {A : Around} {E : Value → Shared → Prop} {s : Shared} {I Fr a : Addr} {i n ep : Nat} {es : Array (Int × Value)} {t : SetTable}
theorem next_drawn {pl : Array Value} {m p : Nat} {hx : Int} {x : Value} {Q : Option Value → Shared → Prop} (hI : IsSI s.heap I (.ref Fr) i a n ep) (hF : s.heap.get? Fr = some { cls := .type "tuple", data := .seq pl m }) (hS : s.heap.get? a = some (sObj es ep t)) (fit : t.fits es.size = true) (hn : es.size = n)
    (hp : pl[i]? = some (rawInt p)) (he : es[p]? = some (hx, x)) (hQ : ∀ h', IsSI h' I (.ref Fr) (i + 1) a n ep → Heap.SameBut I s.heap h' → Q (some x) { s with heap := h' }) : wpAny (model prog w) A (pyNext (.ref I)) Q E s := by
  have hT : s.TypeIs (.ref I) "set_iterator" := ⟨_, hI, rfl⟩
  unfold pyNext
  refine wpAny_bind (wpAny_attempt (wpAny_callSpecial?_slot (name := Str.ofString "__next__") hT slot_seti_next (wpAny_call_entry slot_seti_next hT entry_seti_next ?_ (args_seti_next _))))
  unfold Builtin.«set_iterator.__next__»
  refine wpAny_bind (m := slotArgs _ _ _) (wpAny_pure ?_)
  refine wpAny_bind (wpAny_fieldsOf hI rfl ?_)
  dsimp only
  refine wpAny_bind (wpAny_setEntries_of hS rfl fit ?_)
  rw [if_neg (by rw [hn]; simp)]
  refine wpAny_bind (wpAny_seqItems hF rfl ?_)
  dsimp only
  rw [Int.toNat_natCast, hp]
  show wpAny _ _ (setNextDrawn a (p : Int).toNat (ep : Int).toNat >>= _) _ _ s
  rw [Int.toNat_natCast, Int.toNat_natCast]
  refine wpAny_bind ?_
  unfold setNextDrawn
  refine wpAny_bind (wpAny_setState_of hS rfl fit ?_)
  dsimp only
  rw [if_neg (by simp), he]
  dsimp only
  refine wpAny_pure (wpAny_bind (wpAny_setField_rec hI (by simp) fun h' hI' sb => wpAny_pure ⟨x, rfl, wpAny_pure (hQ h' ?_ sb)⟩))
  show h'.get? I = _
  rw [hI']
  simp [rawInt]
theorem stop_now {Q : Option Value → Shared → Prop} {h0 : Heap} {o : Obj} {vs : Array Value} (hh : A.handled = none) (ho : h0.get? I = some { cls := .type "set_iterator", data := .fields vs }) (h2 : 2 < vs.size)
    (sb0 : ∀ b o, b ≠ I → s.heap.get? b = some o → h0.get? b = some o) (hQ : ∀ h', (∀ b o, b ≠ I → s.heap.get? b = some o → h'.get? b = some o) → Q none { s with heap := h' }) :
    wpAny (model prog w) A.in1 (do
      setField (.ref I) 2 Value.none
      let e ← newExc (Value.type "StopIteration") []
      raiseNew e : Sem PySem.Fin) (fun fin s' => ∃ v, fin = Fin.done (Flow.ret v) ∧ wpAny (model prog w) A (pure (some v)) Q E s')
      (fun e s' => wpAny (model prog w) A (do
          let b ← isInstance e (Value.type "StopIteration")
          if b = true then pure none else throw e) Q E s') { s with heap := h0 } := by
  refine wpAny_bind (wpAny_setField_rec (s := { s with heap := h0 }) ho (by simpa using h2) fun h1 h1' sb => ?_)
  refine wpAny_bind ?_
  simp only [newExc, newTuple]
  refine wpAny_bind (wpAny_newObj_type ?_ (by size_fits))
  refine wpAny_bind (m := firstArgMember _ _) (wpAny_of_eq (a := Value.none) (by first | rfl | (simp only [firstArgMember]; rfl)) ?_)
  refine wpAny_newObj_type ?_ (by size_fits)
  simp only [raiseNew]
  refine wpAny_bind (wpAny_handled ?_)
  rw [show A.in1.handled = none from hh]
  refine wpAny_bind (wpAny_pure (wpAny_throw ?_))
  refine wpAny_bind (wpAny_isInstance (T := "StopIteration") (b := true) ⟨_, Heap.get?_push_size _ rfl, rfl⟩ isSubtype_stop ?_)
  exact wpAny_pure (hQ _ fun b o hb e => Heap.get?_push_of_some _ (Heap.get?_push_of_some _ ((sb.2 b hb).trans (sb0 b o hb e))))
theorem end_drawn {pl : Array Value} {m : Nat} {Q : Option Value → Shared → Prop} (hh : A.handled = none) (hI : IsSI s.heap I (.ref Fr) i a n ep) (hF : s.heap.get? Fr = some { cls := .type "tuple", data := .seq pl m }) (hS : s.heap.get? a = some (sObj es ep t)) (fit : t.fits es.size = true) (hn : es.size = n)
    (hp : pl[i]? = none) (hQ : ∀ h', (∀ b o, b ≠ I → s.heap.get? b = some o → h'.get? b = some o) → Q none { s with heap := h' }) : wpAny (model prog w) A (pyNext (.ref I)) Q E s := by
  have hT : s.TypeIs (.ref I) "set_iterator" := ⟨_, hI, rfl⟩
  unfold pyNext
  refine wpAny_bind (wpAny_attempt (wpAny_callSpecial?_slot (name := Str.ofString "__next__") hT slot_seti_next (wpAny_call_entry slot_seti_next hT entry_seti_next ?_ (args_seti_next _))))
  unfold Builtin.«set_iterator.__next__»
  refine wpAny_bind (m := slotArgs _ _ _) (wpAny_pure ?_)
  refine wpAny_bind (wpAny_fieldsOf hI rfl ?_)
  dsimp only
  refine wpAny_bind (wpAny_setEntries_of hS rfl fit ?_)
  rw [if_neg (by rw [hn]; simp)]
  refine wpAny_bind (wpAny_seqItems hF rfl ?_)
  dsimp only
  rw [Int.toNat_natCast, hp]
  refine wpAny_bind (wpAny_setField_rec hI (by simp) fun h' hI' sb => ?_)
  exact stop_now (o := sObj es ep t) hh hI' (by simp) (fun b o hb e => (sb.2 b hb).trans e) hQ
theorem next_text {hx : Int} {x : Value} {Q : Option Value → Shared → Prop} (bt : w.params.followText "set-order" = true) (hI : IsSI s.heap I (.int 0 0) i a n ep) (hS : s.heap.get? a = some (sObj es ep t)) (fit : t.fits es.size = true) (hn : es.size = n)
    (he : (pickOrder (w.params.setOrder a ep) es)[i]? = some (hx, x)) (hQ : ∀ h', IsSI h' I (.int 0 0) (i + 1) a n ep → Heap.SameBut I s.heap h' → Q (some x) { s with heap := h' }) : wpAny (model prog w) A (pyNext (.ref I)) Q E s := by
  have hT : s.TypeIs (.ref I) "set_iterator" := ⟨_, hI, rfl⟩
  unfold pyNext
  refine wpAny_bind (wpAny_attempt (wpAny_callSpecial?_slot (name := Str.ofString "__next__") hT slot_seti_next (wpAny_call_entry slot_seti_next hT entry_seti_next ?_ (args_seti_next _))))
  unfold Builtin.«set_iterator.__next__»
  refine wpAny_bind (m := slotArgs _ _ _) (wpAny_pure ?_)
  refine wpAny_bind (wpAny_fieldsOf hI rfl ?_)
  dsimp only
  refine wpAny_bind (wpAny_setEntries_of hS rfl fit ?_)
  rw [if_neg (by rw [hn]; simp)]
  refine wpAny_bind ?_
  unfold setNext setsByText
  rw [Int.toNat_natCast, Int.toNat_natCast]
  refine wpAny_bind (wpAny_setState_of hS rfl fit ?_)
  dsimp only
  refine wpAny_bind (wpAny_bind (wpAny_askSetting (wpAny_pure ?_)))
  show wpAny _ _ (if w.params.followText "set-order" = true then _ else _) _ _ s
  rw [if_pos bt, if_neg (by simp)]
  unfold setWalk setsByText
  refine wpAny_bind (wpAny_bind (wpAny_setState_of hS rfl fit ?_))
  dsimp only
  refine wpAny_bind (wpAny_bind (wpAny_askSetting (wpAny_pure ?_)))
  show wpAny _ _ (if w.params.followText "set-order" = true then _ else _) _ _ s
  rw [if_pos bt]
  refine wpAny_bind (wpAny_askSetting (wpAny_pure ?_))
  show wpAny _ _ (pure (Option.map _ (pickOrder (w.params.setOrder a ep) es)[i]?)) _ _ s
  rw [he]
  refine wpAny_pure ?_
  dsimp only [Option.map]
  refine wpAny_bind (wpAny_setField_rec hI (by simp) fun h1 hI1 sb1 => ?_)
  refine wpAny_bind (wpAny_setField_rec (s := { s with heap := h1 }) hI1 (by simp) fun h2 hI2 sb2 => wpAny_pure ⟨x, rfl, wpAny_pure (hQ h2 ?_ (sb1.trans sb2))⟩)
  show h2.get? I = _
  rw [hI2]
  simp [rawInt]
theorem end_text {Q : Option Value → Shared → Prop} (bt : w.params.followText "set-order" = true) (hh : A.handled = none) (hI : IsSI s.heap I (.int 0 0) i a n ep) (hS : s.heap.get? a = some (sObj es ep t)) (fit : t.fits es.size = true) (hn : es.size = n)
    (he : (pickOrder (w.params.setOrder a ep) es)[i]? = none) (hQ : ∀ h', (∀ b o, b ≠ I → s.heap.get? b = some o → h'.get? b = some o) → Q none { s with heap := h' }) : wpAny (model prog w) A (pyNext (.ref I)) Q E s := by
  have hT : s.TypeIs (.ref I) "set_iterator" := ⟨_, hI, rfl⟩
  unfold pyNext
  refine wpAny_bind (wpAny_attempt (wpAny_callSpecial?_slot (name := Str.ofString "__next__") hT slot_seti_next (wpAny_call_entry slot_seti_next hT entry_seti_next ?_ (args_seti_next _))))
  unfold Builtin.«set_iterator.__next__»
  refine wpAny_bind (m := slotArgs _ _ _) (wpAny_pure ?_)
  refine wpAny_bind (wpAny_fieldsOf hI rfl ?_)
  dsimp only
  refine wpAny_bind (wpAny_setEntries_of hS rfl fit ?_)
  rw [if_neg (by rw [hn]; simp)]
  refine wpAny_bind ?_
  unfold setNext setsByText
  rw [Int.toNat_natCast, Int.toNat_natCast]
  refine wpAny_bind (wpAny_setState_of hS rfl fit ?_)
  dsimp only
  refine wpAny_bind (wpAny_bind (wpAny_askSetting (wpAny_pure ?_)))
  show wpAny _ _ (if w.params.followText "set-order" = true then _ else _) _ _ s
  rw [if_pos bt, if_neg (by simp)]
  unfold setWalk setsByText
  refine wpAny_bind (wpAny_bind (wpAny_setState_of hS rfl fit ?_))
  dsimp only
  refine wpAny_bind (wpAny_bind (wpAny_askSetting (wpAny_pure ?_)))
  show wpAny _ _ (if w.params.followText "set-order" = true then _ else _) _ _ s
  rw [if_pos bt]
  refine wpAny_bind (wpAny_askSetting (wpAny_pure ?_))
  show wpAny _ _ (pure (Option.map _ (pickOrder (w.params.setOrder a ep) es)[i]?)) _ _ s
  rw [he]
  refine wpAny_pure ?_
  dsimp only [Option.map]
  exact stop_now (h0 := s.heap) (o := sObj es ep t) hh hI (by simp) (fun b o hb e => e) hQ
end
end L2
set_option maxRecDepth 100000
namespace L2
open PySem PySem.Spec PyProof.Rows
theorem erase_perm {α : Type} : ∀ (l : List α) (i : Nat) (h : i < l.length), (l[i] :: l.eraseIdx i).Perm l
  | x :: r, 0, _ => List.Perm.refl _
  | x :: r, i + 1, h => by
    have h' : i < r.length := by simpa using h
    exact (List.Perm.swap x r[i] (r.eraseIdx i)).trans (List.Perm.cons x (erase_perm r i h'))
theorem pick_go {α : Type} (next : Nat → Nat) : ∀ (f k : Nat) (left : List α) (out : Array α), left.length = f → ∃ r : List α, (pickOrder.go next f k left out).toList = out.toList ++ r ∧ r.Perm left
  | 0, k, left, out, h => by
    rw [List.length_eq_zero_iff.mp h]
    exact ⟨[], by simp [pickOrder.go], List.Perm.refl _⟩
  | f + 1, k, left, out, h => by
    have hlt : next k % left.length < left.length := Nat.mod_lt _ (by omega)
    unfold pickOrder.go
    rw [List.getElem?_eq_getElem hlt]
    dsimp only
    obtain ⟨r, e, p⟩ := pick_go next f (k + 1) (left.eraseIdx (next k % left.length)) (out.push left[next k % left.length]) (by rw [List.length_eraseIdx_of_lt hlt, h]; rfl)
    refine ⟨left[next k % left.length] :: r, by rw [e]; simp, (List.Perm.cons _ p).trans ?_⟩
    exact erase_perm left _ hlt
theorem pick_perm {α : Type} (next : Nat → Nat) (xs : Array α) : (pickOrder next xs).toList.Perm xs.toList := by
  obtain ⟨r, e, p⟩ := pick_go next xs.size 0 xs.toList #[] (by simp)
  unfold pickOrder
  rw [e]
  simpa using p
section
variable {prog : Program} {w : World} {A : Around} {E : Value → Shared → Prop}
theorem wpAny_choose_any {src : Source} {n : Nat} {Q : Nat → Shared → Prop} {s : Shared} (hn : 0 < n) (h : ∀ i d, i < n → Q i { s with drawn := d }) : wpAny (model prog w) A (choose src n) Q E s := by
  intro Γ p hΓ
  unfold choose
  rw [Sem.wp_choose]
  exact ⟨by omega, h _ _ (Nat.mod_lt _ hn)⟩
theorem draw_any {α : Type} : ∀ (n : Nat) (xs : List α) (s : Shared) (Q : List α → Shared → Prop), xs.length = n → (∀ r d, r.Perm xs → Q r { s with drawn := d }) → wpAny (model prog w) A (drawOrder n xs) Q E s
  | 0, xs, s, Q, h, q => by
    rw [List.length_eq_zero_iff.mp h]
    unfold drawOrder
    exact wpAny_pure (by have := q [] s.drawn (by rw [List.length_eq_zero_iff.mp h]); exact this)
  | n + 1, [], s, Q, h, q => by simp at h
  | n + 1, x :: xs, s, Q, h, q => by
    unfold drawOrder
    refine wpAny_bind (wpAny_choose_any (by simp) fun i d hi => ?_)
    rw [List.getElem?_eq_getElem hi]
    dsimp only
    refine wpAny_bind (draw_any n ((x :: xs).eraseIdx i) _ _ (by rw [List.length_eraseIdx_of_lt hi, h]; rfl) fun r d' p => ?_)
    exact wpAny_pure (q _ d' ((List.Perm.cons _ p).trans (erase_perm _ i hi)))
end
section
variable {prog : Program} {w : World} {A : Around} {E : Value → Shared → Prop} {s : Shared} {I a : Addr} {i n ep sl : Nat} {es : Array (Int × Value)} {t : SetTable}
theorem next_small {hx : Int} {x : Value} {j : Nat} {Q : Option Value → Shared → Prop} (bt : w.params.followText "set-order" = false) (hI : IsSI s.heap I (.int sl 0) i a n ep) (hS : s.heap.get? a = some (sObj es ep t)) (fit : t.fits es.size = true) (hn : es.size = n) (one : n ≤ 1) (led : t.led = true)
    (he : es[SetTable.below t.place sl]? = some (hx, x)) (hp : t.place[SetTable.below t.place sl]? = some j) (hQ : ∀ h', IsSI h' I (.int (j + 1 : Nat) 0) (i + 1) a n ep → Heap.SameBut I s.heap h' → Q (some x) { s with heap := h' }) : wpAny (model prog w) A (pyNext (.ref I)) Q E s := by
  have hT : s.TypeIs (.ref I) "set_iterator" := ⟨_, hI, rfl⟩
  unfold pyNext
  refine wpAny_bind (wpAny_attempt (wpAny_callSpecial?_slot (name := Str.ofString "__next__") hT slot_seti_next (wpAny_call_entry slot_seti_next hT entry_seti_next ?_ (args_seti_next _))))
  unfold Builtin.«set_iterator.__next__»
  refine wpAny_bind (m := slotArgs _ _ _) (wpAny_pure ?_)
  refine wpAny_bind (wpAny_fieldsOf hI rfl ?_)
  dsimp only
  refine wpAny_bind (wpAny_setEntries_of hS rfl fit ?_)
  rw [if_neg (by rw [hn]; simp)]
  refine wpAny_bind ?_
  unfold setNext setsByText
  rw [Int.toNat_natCast, Int.toNat_natCast, Int.toNat_natCast]
  refine wpAny_bind (wpAny_setState_of hS rfl fit ?_)
  dsimp only
  refine wpAny_bind (wpAny_bind (wpAny_askSetting (wpAny_pure ?_)))
  show wpAny _ _ (if w.params.followText "set-order" = true then _ else _) _ _ s
  rw [if_neg (by rw [bt]; exact Bool.false_ne_true)]
  show wpAny _ _ (if (!t.plain && decide (es.size > 1)) = true then _ else _) _ _ s
  rw [if_neg (by rw [decide_eq_false (by omega), Bool.and_false]; exact Bool.false_ne_true)]
  refine wpAny_bind ?_
  show wpAny _ _ (if (!t.led && !es.isEmpty) = true then _ else _) _ _ s
  rw [if_neg (by rw [led]; exact Bool.false_ne_true)]
  refine wpAny_pure ?_
  rw [he, hp]
  refine wpAny_pure ?_
  dsimp only
  refine wpAny_bind (wpAny_setField_rec hI (by simp) fun h1 hI1 sb1 => ?_)
  refine wpAny_bind (wpAny_setField_rec (s := { s with heap := h1 }) hI1 (by simp) fun h2 hI2 sb2 => wpAny_pure ⟨x, rfl, wpAny_pure (hQ h2 ?_ (sb1.trans sb2))⟩)
  show h2.get? I = _
  rw [hI2]
  simp [rawInt]
theorem end_small {Q : Option Value → Shared → Prop} (bt : w.params.followText "set-order" = false) (hh : A.handled = none) (hI : IsSI s.heap I (.int sl 0) i a n ep) (hS : s.heap.get? a = some (sObj es ep t)) (fit : t.fits es.size = true) (hn : es.size = n) (one : n ≤ 1) (led : t.led = true)
    (he : es[SetTable.below t.place sl]? = none) (hQ : ∀ h', (∀ b o, b ≠ I → s.heap.get? b = some o → h'.get? b = some o) → Q none { s with heap := h' }) : wpAny (model prog w) A (pyNext (.ref I)) Q E s := by
  have hT : s.TypeIs (.ref I) "set_iterator" := ⟨_, hI, rfl⟩
  unfold pyNext
  refine wpAny_bind (wpAny_attempt (wpAny_callSpecial?_slot (name := Str.ofString "__next__") hT slot_seti_next (wpAny_call_entry slot_seti_next hT entry_seti_next ?_ (args_seti_next _))))
  unfold Builtin.«set_iterator.__next__»
  refine wpAny_bind (m := slotArgs _ _ _) (wpAny_pure ?_)
  refine wpAny_bind (wpAny_fieldsOf hI rfl ?_)
  dsimp only
  refine wpAny_bind (wpAny_setEntries_of hS rfl fit ?_)
  rw [if_neg (by rw [hn]; simp)]
  refine wpAny_bind ?_
  unfold setNext setsByText
  rw [Int.toNat_natCast, Int.toNat_natCast, Int.toNat_natCast]
  refine wpAny_bind (wpAny_setState_of hS rfl fit ?_)
  dsimp only
  refine wpAny_bind (wpAny_bind (wpAny_askSetting (wpAny_pure ?_)))
  show wpAny _ _ (if w.params.followText "set-order" = true then _ else _) _ _ s
  rw [if_neg (by rw [bt]; exact Bool.false_ne_true)]
  show wpAny _ _ (if (!t.plain && decide (es.size > 1)) = true then _ else _) _ _ s
  rw [if_neg (by rw [decide_eq_false (by omega), Bool.and_false]; exact Bool.false_ne_true)]
  refine wpAny_bind ?_
  show wpAny _ _ (if (!t.led && !es.isEmpty) = true then _ else _) _ _ s
  rw [if_neg (by rw [led]; exact Bool.false_ne_true)]
  refine wpAny_pure ?_
  rw [he]
  refine wpAny_pure ?_
  dsimp only
  exact stop_now (h0 := s.heap) (o := sObj es ep t) hh hI (by simp) (fun b o hb e => e) hQ
theorem iter_self {first : Value} {Q : Value → Shared → Prop} (hI : IsSI s.heap I first i a n ep) (h : Q (.ref I) s) : wpAny (model prog w) A (pyIter (.ref I)) Q E s := by
  have hT : s.TypeIs (.ref I) "set_iterator" := ⟨_, hI, rfl⟩
  refine wpAny_pyIter_slot hT slot_seti_iter (wpAny_call_entry slot_seti_iter hT entry_seti_iter ?_ (args_seti_iter _))
  show wpAny _ _ (ret (.ref I)) _ _ s
  exact wpAny_pure ⟨_, rfl, "set_iterator", _, hT, slot_seti_next.lookup, h⟩
theorem iter_new {Q : Value → Shared → Prop} (hS : s.heap.get? a = some (sObj es ep t)) (fit : t.fits es.size = true) (tab : TabOk w t es.size)
    (hA : ¬ (w.params.followText "set-order" = false ∧ 1 < es.size) → Q (.ref s.heap.objs.size) { s with heap := s.heap.push { cls := .type "set_iterator", data := .fields #[.int 0 0, .int 0 0, .ref a, .int es.size 0, .int ep 0] } })
    (hB : w.params.followText "set-order" = false → ∀ (r : List Nat) d, r.Perm (List.range es.size) → Q (.ref (s.heap.objs.size + 1)) { s with heap := (s.heap.push { cls := .type "tuple", data := .seq (r.map fun i : Nat => rawInt i).toArray }).push { cls := .type "set_iterator", data := .fields #[.ref s.heap.objs.size, .int 0 0, .ref a, .int es.size 0, .int ep 0] }, drawn := d })
    (small : es.size ≤ sizeLine) : wpAny (model prog w) A (pyIter (.ref a)) Q E s := by
  have hT : s.TypeIs (.ref a) "set" := ⟨_, hS, rfl⟩
  refine wpAny_pyIter_slot hT F.slot_set_iter (wpAny_call_entry F.slot_set_iter hT entry_set_iter2 ?_ (F.args_set_iter_1 _))
  unfold Builtin.«frozenset.__iter__»
  refine wpAny_bind (m := Builtin.Frozenset.slot0 _ _) (wpAny_bind (m := slotArgs _ _ _) (wpAny_pure ?_))
  refine wpAny_pure ?_
  dsimp only
  unfold Builtin.Frozenset.sizeOf
  refine wpAny_bind (wpAny_bind (wpAny_setEntries_of hS rfl fit (wpAny_pure ?_)))
  unfold setDrawn setsByText
  refine wpAny_bind (wpAny_bind (wpAny_setState_of hS rfl fit ?_))
  dsimp only
  refine wpAny_bind (wpAny_bind (wpAny_askSetting (wpAny_pure (wpAny_pure ?_))))
  show wpAny _ _ (if (!w.params.followText "set-order" && (!t.plain && decide (es.size > 1))) = true then _ else _) _ _ s
  have hep : ∀ (s' : Shared) (Q' : Nat → Shared → Prop), s'.heap.get? a = some (sObj es ep t) → Q' ep s' → wpAny (model prog w) A.in1 (setEpoch a) Q' E s' := fun s' Q' h1 h2 => wpAny_setEpoch_of h1 rfl fit h2
  refine wpAny_ite_split (fun c => ?_) fun c => ?_
  · have c1 : w.params.followText "set-order" = false := by
      cases e : w.params.followText "set-order" with
      | false => rfl
      | true => rw [e] at c; simp at c
    refine wpAny_bind (draw_any es.size (List.range es.size) s _ (by simp) fun r d pm => ?_)
    refine wpAny_bind (wpAny_newTuple ?_ (by rw [List.length_map, pm.length_eq, List.length_range]; exact small))
    refine wpAny_bind (hep _ _ (Heap.get?_push_of_some _ hS) ?_)
    refine wpAny_bind (wpAny_newObj_type (wpAny_pure ⟨_, rfl, "set_iterator", _, ⟨_, Heap.get?_push_size _ rfl, rfl⟩, slot_seti_next.lookup, ?_⟩))
    have := hB c1 r d pm
    simpa [Heap.size_push, rawInt] using this
  · refine wpAny_bind (wpAny_pure ?_)
    refine wpAny_bind (hep _ _ hS ?_)
    refine wpAny_bind (wpAny_newObj_type (wpAny_pure ⟨_, rfl, "set_iterator", _, ⟨_, Heap.get?_push_size _ rfl, rfl⟩, slot_seti_next.lookup, ?_⟩))
    refine hA fun ⟨e1, e2⟩ => c ?_
    rw [e1, tab.2 (by omega), decide_eq_true (by omega)]
    rfl
end
end L2
set_option maxRecDepth 100000
namespace L2
open PySem PySem.Spec PyProof.Rows
abbrev vals (es : Array (Int × Value)) : List Value := es.toList.map (·.2)
theorem val_at {es : Array (Int × Value)} {p : Nat} {v : Value} (h : (vals es)[p]? = some v) : ∃ hx, es[p]? = some (hx, v) := by
  rw [List.getElem?_map] at h
  obtain ⟨⟨hx, x⟩, e, rfl⟩ := Option.map_eq_some_iff.mp h
  exact ⟨hx, by rw [← Array.getElem?_toList]; exact e⟩
theorem out_none {α : Type} {l : List α} {n : Nat} (h : l.length ≤ n) : l.toArray[n]? = none := by
  rw [Array.getElem?_eq_none]
  simpa using h
section
variable {prog : Program} {w : World} {A : Around} {I Fr a : Addr} {es : Array (Int × Value)} {t : SetTable} {ep : Nat}
theorem walk_drawn (hh : A.handled = none) (nIF : Fr ≠ I) (nIa : a ≠ I) (fit : t.fits es.size = true) {r : List Nat} (hr : r.Perm (List.range es.size)) :
    WalksS prog w A I [I, Fr, a] [I] (fun x y => y = x) es.size (fun i v => (r.map fun p => (vals es).getD p Value.none)[i]? = some v)
      (fun i s => IsSI s.heap I (.ref Fr) i a es.size ep ∧ s.heap.get? Fr = some { cls := .type "tuple", data := .seq (r.map fun i : Nat => rawInt i).toArray } ∧ s.heap.get? a = some (sObj es ep t)) where
  sub := fun b hb => by rw [List.mem_singleton.mp hb]; simp
  grefl := fun _ => rfl
  gtrans := fun _ _ _ h1 h2 => h2.trans h1
  frame := fun i s h' tk st _ k => ⟨k I (by simp) _ st.1, k Fr (by simp) _ st.2.1, k a (by simp) _ st.2.2⟩
  item := fun i s Q E hi st hQ => by
    have hl := hr.length_eq
    rw [List.length_range] at hl
    have hri : i < r.length := by omega
    have hp : r[i] < es.size := List.mem_range.mp (hr.mem_iff.mp (List.getElem_mem hri))
    have hv : (vals es)[r[i]]? = some ((vals es).getD r[i] Value.none) := by
      rw [List.getD_eq_getElem?_getD, List.getElem?_eq_getElem (by simpa using hp)]
      rfl
    obtain ⟨hx, he⟩ := val_at hv
    refine next_drawn st.1 st.2.1 st.2.2 fit rfl (p := r[i]) (by simp [hri]) he fun h' hI sb => hQ _ _ ?_ ⟨hI, (sb.2 Fr nIF).trans st.2.1, (sb.2 a nIa).trans st.2.2⟩ ⟨fun b o hb e => (sb.2 b (fun z => hb (by simp [z]))).trans e, rfl, rfl, rfl, Nat.le_refl _⟩
    rw [List.getElem?_map, List.getElem?_eq_getElem hri]
    rfl
  done := fun s Q E st hQ => by
    have hl := hr.length_eq
    rw [List.length_range] at hl
    exact end_drawn hh st.1 st.2.1 st.2.2 fit rfl (out_none (by rw [List.length_map]; omega)) fun h' k => hQ _ ⟨fun b o hb e => k b o (fun z => hb (by simp [z])) e, rfl, rfl, rfl, Nat.le_refl _⟩
  self := fun i s Q E st hQ => iter_self st.1 hQ
theorem walk_text (bt : w.params.followText "set-order" = true) (hh : A.handled = none) (nIa : a ≠ I) (fit : t.fits es.size = true) :
    WalksS prog w A I [I, a] [I] (fun x y => y = x) es.size (fun i v => ((pickOrder (w.params.setOrder a ep) es).toList.map (·.2))[i]? = some v)
      (fun i s => IsSI s.heap I (.int 0 0) i a es.size ep ∧ s.heap.get? a = some (sObj es ep t)) where
  sub := fun b hb => by rw [List.mem_singleton.mp hb]; simp
  grefl := fun _ => rfl
  gtrans := fun _ _ _ h1 h2 => h2.trans h1
  frame := fun i s h' tk st _ k => ⟨k I (by simp) _ st.1, k a (by simp) _ st.2⟩
  item := fun i s Q E hi st hQ => by
    have hl := (pick_perm (w.params.setOrder a ep) es).length_eq
    rw [Array.length_toList, Array.length_toList] at hl
    have hi' : i < (pickOrder (w.params.setOrder a ep) es).size := by omega
    refine next_text bt st.1 st.2 fit rfl (hx := (pickOrder (w.params.setOrder a ep) es)[i].1) (x := (pickOrder (w.params.setOrder a ep) es)[i].2) (by rw [Array.getElem?_eq_getElem hi']) fun h' hI sb => hQ _ _ ?_ ⟨hI, (sb.2 a nIa).trans st.2⟩ ⟨fun b o hb e => (sb.2 b (fun z => hb (by simp [z]))).trans e, rfl, rfl, rfl, Nat.le_refl _⟩
    rw [List.getElem?_map, Array.getElem?_toList, Array.getElem?_eq_getElem hi']
    rfl
  done := fun s Q E st hQ => by
    have hl := (pick_perm (w.params.setOrder a ep) es).length_eq
    rw [Array.length_toList, Array.length_toList] at hl
    exact end_text bt hh st.1 st.2 fit rfl (by rw [Array.getElem?_eq_none]; omega) fun h' k => hQ _ ⟨fun b o hb e => k b o (fun z => hb (by simp [z])) e, rfl, rfl, rfl, Nat.le_refl _⟩
  self := fun i s Q E st hQ => iter_self st.1 hQ
theorem below_zero (j : Nat) : SetTable.below #[j] 0 = 0 := by
  simp [SetTable.below, SetTable.below.go]
theorem below_next (j : Nat) : SetTable.below #[j] (j + 1) = 1 := by
  simp [SetTable.below, SetTable.below.go]
theorem walk_small (bt : w.params.followText "set-order" = false) (hh : A.handled = none) (nIa : a ≠ I) (fit : t.fits es.size = true) (one : es.size ≤ 1) (led : t.led = true) :
    ∃ g : Nat → Nat, g 0 = 0 ∧ WalksS prog w A I [I, a] [I] (fun x y => y = x) es.size (fun i v => (vals es)[i]? = some v)
      (fun i s => IsSI s.heap I (.int (g i : Nat) 0) i a es.size ep ∧ s.heap.get? a = some (sObj es ep t)) := by
  have hps : t.place.size = es.size := by
    unfold SetTable.fits at fit
    rw [Bool.and_eq_true] at fit
    exact eq_of_beq fit.1
  by_cases h0 : es.size = 0
  · have e0 : es = #[] := Array.eq_empty_of_size_eq_zero h0
    refine ⟨fun _ => 0, rfl, fun b hb => by rw [List.mem_singleton.mp hb]; simp, fun _ => rfl, fun _ _ _ h1 h2 => h2.trans h1, fun i s h' tk st _ k => ⟨k I (by simp) _ st.1, k a (by simp) _ st.2⟩, fun i s Q E hi st hQ => by omega, fun s Q E st hQ => ?_, fun i s Q E st hQ => iter_self st.1 hQ⟩
    exact end_small bt hh st.1 st.2 fit rfl one led (by rw [e0]; simp) fun h' k => hQ _ ⟨fun b o hb e => k b o (fun z => hb (by simp [z])) e, rfl, rfl, rfl, Nat.le_refl _⟩
  · have h1 : es.size = 1 := by omega
    obtain ⟨j, hj⟩ : ∃ j, t.place = #[j] := by
      have : t.place.size = 1 := hps.trans h1
      exact ⟨t.place[0], by
        apply Array.ext
        · simpa using this
        · intro i hi1 hi2
          have : i = 0 := by simp at hi2; omega
          subst this
          rfl⟩
    have hle : (vals es).length = 1 := by simpa using h1
    have hv : (vals es)[0]? = some ((vals es).getD 0 Value.none) := by
      rw [List.getD_eq_getElem?_getD, List.getElem?_eq_getElem (by omega)]
      rfl
    obtain ⟨hx, he⟩ := val_at hv
    refine ⟨fun i => if i = 0 then 0 else j + 1, rfl, fun b hb => by rw [List.mem_singleton.mp hb]; simp, fun _ => rfl, fun _ _ _ h1 h2 => h2.trans h1, fun i s h' tk st _ k => ⟨k I (by simp) _ st.1, k a (by simp) _ st.2⟩, fun i s Q E hi st hQ => ?_, fun s Q E st hQ => ?_, fun i s Q E st hQ => iter_self st.1 hQ⟩
    · have : i = 0 := by omega
      subst this
      refine next_small bt st.1 st.2 fit rfl one led (hx := hx) (j := j) ?_ ?_ fun h' hI sb => hQ _ _ hv ⟨hI, (sb.2 a nIa).trans st.2⟩ ⟨fun b o hb e => (sb.2 b (fun z => hb (by simp [z]))).trans e, rfl, rfl, rfl, Nat.le_refl _⟩
      · rw [hj]
        show es[SetTable.below #[j] 0]? = _
        rw [below_zero]
        exact he
      · rw [hj]
        show (#[j] : Array Nat)[SetTable.below #[j] 0]? = _
        rw [below_zero]
        rfl
    · have st1 := st.1
      rw [h1] at st1
      have st1' : IsSI s.heap I (.int (j + 1 : Nat) 0) 1 a es.size ep := by rw [h1]; exact st1
      exact end_small bt hh st1' st.2 fit rfl one led (by rw [hj, below_next]; exact Array.getElem?_eq_none (by omega)) fun h' k => hQ _ ⟨fun b o hb e => k b o (fun z => hb (by simp [z])) e, rfl, rfl, rfl, Nat.le_refl _⟩
end
section
variable {prog : Program} {w : World} {A : Around} {E : Value → Shared → Prop} {s : Shared} {a : Addr} {es : Array (Int × Value)} {t : SetTable} {ep : Nat}
theorem hint_set {Q : Bool → Shared → Prop} (hS : s.heap.get? a = some (sObj es ep t)) (h : Q false s) : wpAny (model prog w) A (Builtin.List.listLengthHint (.ref a)) Q E s := by
  have hT : s.TypeIs (.ref a) "set" := ⟨_, hS, rfl⟩
  unfold Builtin.List.listLengthHint
  refine wpAny_bind (wpAny_specialOf hT F.slot_set_len.lookup ?_)
  wp_delta
  refine wpAny_bind (wpAny_isInstance (T := "set") (b := true) hT sub_set_self ?_)
  show wpAny _ _ (typeOf (Value.ref a) >>= _) _ _ _
  refine wpAny_bind (wpAny_typeOf (T := "set") hT ?_)
  exact wpAny_pure h
theorem items_list {acc : Array Value} {n : Nat} {qs : List Value} (h : ItemsOf (fun i v => qs[i]? = some v) acc n) (hn : qs.length = n) : acc.toList = qs := by
  obtain ⟨h1, h2⟩ := h
  refine List.ext_getElem? fun i => ?_
  rw [Array.getElem?_toList]
  by_cases hi : i < acc.size
  · have := h2 i acc[i] (by rw [Array.getElem?_eq_getElem hi])
    rw [Array.getElem?_eq_getElem hi, this]
  · rw [Array.getElem?_eq_none (by omega), List.getElem?_eq_none (by omega)]
theorem go_on {R : Result → Shared → Prop} {G : Array GenState → Array GenState → Prop} {n c0 : Nat} {P : Nat → Value → Prop} {St : Nat → Shared → Prop} {I S : Addr} {fp : List Addr} {res : Value} {z : Shared} (W : WalksS prog w A.in1 I fp [I] G n P St) (out : S ∉ fp) (st : St 0 z) (hn : n ≤ sizeLine)
    (h0 : z.heap.get? S = some { cls := .type "list", data := .seq #[] c0 }) (fin : ∀ s' acc c', Moved (S :: [I]) G z s' → s'.heap.get? S = some { cls := .type "list", dict := none, data := .seq acc c', slots := #[] } → ItemsOf P acc n → R (.ok (.ret res)) s') :
    wpAny (model prog w) A.in1 (do
      rule "list.extend.makes-room"
      Builtin.List.listTouch (.ref S)
      again (.builtin "list.extend.loop" ⟨[.ref S, .ref I, res], []⟩))
      (fun fin s' => match fin with | .done f => R (.ok f) s' | .again c' => c'.quiet = true ∧ codeAny (model prog w) A c' R s') (fun e s' => R (.error e) s') z := by
  refine wpAny_bind (wpAny_rule ?_)
  refine wpAny_bind ?_
  show wpAny _ _ (updateSeq S (·.push .none) >>= fun _ => updateSeq S (·.pop)) _ _ _
  refine wpAny_bind (wpAny_updateSeq h0 rfl ?_)
  have g1 := Heap.get?_update_self (Obj.mapSeq (·.push Value.none)) h0 rfl
  refine wpAny_updateSeq (hz := by seq_fits) g1 rfl ?_
  have g2 := Heap.get?_update_self (Obj.mapSeq (·.pop)) g1 rfl
  have oth : ∀ b o, b ≠ S → z.heap.get? b = some o → ((z.heap.update S (Obj.mapSeq (·.push Value.none))).update S (Obj.mapSeq (·.pop))).get? b = some o := fun b o hb e =>
    (Heap.get?_update_other _ _ (Ne.symm hb)).trans ((Heap.get?_update_other _ _ (Ne.symm hb)).trans e)
  refine wpAny_pure ⟨plainId_quiet F.plain_extend_loop _, codeAny_extend_loopS W hn _ out _ n 0 _ #[] _ rfl (Nat.zero_le _) (W.frame 0 z _ z.toks st (Nat.le_refl _) fun b hb o e => oth b o (fun y => out (y ▸ hb)) e) g2 (ItemsOf.nil _) fun s' acc c' mv hS' it => ?_⟩
  refine fin s' acc c' ⟨fun b o hb e => mv.heap b o hb (oth b o (fun y => hb (by simp [y])) e), mv.gens, mv.drawn, mv.os, mv.toks⟩ hS' it
theorem extend_set {R : Result → Shared → Prop} (hh : A.handled = none) {S : Addr} {c0 : Nat} {res : Value} (h0 : s.heap.get? S = some { cls := .type "list", data := .seq #[] c0 }) (hS : s.heap.get? a = some (sObj es ep t)) (fit : t.fits es.size = true) (tab : TabOk w t es.size) (small : es.size < scanBound)
    (hR : ∀ s' acc c', s'.gens = s.gens → s'.os = s.os → (∀ b o, b ≠ S → s.heap.get? b = some o → s'.heap.get? b = some o) → s'.heap.get? S = some { cls := .type "list", dict := none, data := .seq acc c', slots := #[] } → acc.toList.Perm (vals es) → R (.ok (.ret res)) s') :
    wpAny (model prog w) A.in1 (Builtin.List.listExtendWith (.ref S) (.ref a) res)
      (fun fin s' => match fin with | .done f => R (.ok f) s' | .again c' => c'.quiet = true ∧ codeAny (model prog w) A c' R s') (fun e s' => R (.error e) s') s := by
  have hsl : sizeLine = 16777216 := sizeLine_eq
  have sm : es.size ≤ sizeLine := by unfold scanBound at small; omega
  have nSa : S ≠ a := fun z => by rw [z, hS] at h0; simp [sObj] at h0
  have lS : S < s.heap.objs.size := Heap.lt_size h0
  have la : a < s.heap.objs.size := Heap.lt_size hS
  have vl : (vals es).length = es.size := by simp
  unfold Builtin.List.listExtendWith
  refine wpAny_bind (wpAny_typeOf (T := "set") ⟨_, hS, rfl⟩ ?_)
  have e1 : Builtin.List.listSameRef (.ref S) (.ref a) = false := by simp [Builtin.List.listSameRef, nSa]
  have e2 : (Value.type "set" == Value.type "list") = false := by decide
  have e3 : (Value.type "set" == Value.type "tuple") = false := by decide
  simp only [e1, e2, e3, Bool.or_false, Bool.false_eq_true, if_false]
  refine wpAny_bind (iter_new hS fit tab (fun no => ?_) (fun bt r d pm => ?_) sm)
  · have nI : a ≠ s.heap.objs.size := Nat.ne_of_lt la
    have kept : ∀ b o, s.heap.get? b = some o → (s.heap.push { cls := .type "set_iterator", data := .fields #[.int 0 0, .int 0 0, .ref a, .int es.size 0, .int ep 0] }).get? b = some o := fun b o e => Heap.get?_push_of_some _ e
    have new : IsSI (s.heap.push { cls := .type "set_iterator", data := .fields #[.int 0 0, .int 0 0, .ref a, .int es.size 0, .int ep 0] }) s.heap.objs.size (.int 0 0) 0 a es.size ep := Heap.get?_push_size _ rfl
    refine wpAny_bind (wpAny_holding (hint_set (kept _ _ hS) ?_))
    rw [if_pos (by decide)]
    have out : S ∉ [s.heap.objs.size, a] := by
      simp only [List.mem_cons, List.not_mem_nil, or_false, not_or]
      exact ⟨Nat.ne_of_lt lS, nSa⟩
    have fin : ∀ (qs : List Value), qs.Perm (vals es) → ∀ (s' : Shared) (acc : Array Value) (c' : Nat), Moved (S :: [s.heap.objs.size]) (fun x y => y = x) { s with heap := s.heap.push { cls := .type "set_iterator", data := .fields #[.int 0 0, .int 0 0, .ref a, .int es.size 0, .int ep 0] } } s' →
        s'.heap.get? S = some { cls := .type "list", dict := none, data := .seq acc c', slots := #[] } → ItemsOf (fun i v => qs[i]? = some v) acc es.size → R (.ok (.ret res)) s' := fun qs pm s' acc c' mv hS' it => by
      refine hR s' acc c' mv.gens mv.os (fun b o hb e => mv.heap b o ?_ (kept b o e)) hS' (by rw [items_list it (by rw [pm.length_eq, vl])]; exact pm)
      simp only [List.mem_cons, List.not_mem_nil, or_false, not_or]
      exact ⟨hb, Nat.ne_of_lt (Heap.lt_size e)⟩
    cases bt : w.params.followText "set-order" with
    | true =>
      have W := walk_text (prog := prog) (w := w) (A := A.in1) (I := s.heap.objs.size) (a := a) (es := es) (t := t) (ep := ep) bt hh nI fit
      exact go_on W out ⟨new, kept _ _ hS⟩ (by omega) (kept _ _ h0) fun s' acc c' mv hS' it => fin _ ((pick_perm _ es).map _) s' acc c' mv hS' it
    | false =>
      have one : es.size ≤ 1 := Nat.le_of_not_lt fun z => no ⟨bt, z⟩
      obtain ⟨g, g0, W⟩ := walk_small (prog := prog) (w := w) (A := A.in1) (I := s.heap.objs.size) (a := a) (es := es) (t := t) (ep := ep) bt hh nI fit one (tab.1 bt)
      exact go_on W out ⟨by rw [g0]; exact new, kept _ _ hS⟩ (by omega) (kept _ _ h0) fun s' acc c' mv hS' it => fin _ (List.Perm.refl _) s' acc c' mv hS' it
  · generalize hF : ({ cls := .type "tuple", data := .seq (r.map fun i : Nat => rawInt i).toArray } : Obj) = oF
    generalize hO : ({ cls := .type "set_iterator", data := .fields #[.ref s.heap.objs.size, .int 0 0, .ref a, .int es.size 0, .int ep 0] } : Obj) = oI
    have kept : ∀ b o, s.heap.get? b = some o → ((s.heap.push oF).push oI).get? b = some o := fun b o e => Heap.get?_push_of_some _ (Heap.get?_push_of_some _ e)
    have sz : (s.heap.push oF).objs.size = s.heap.objs.size + 1 := Heap.size_push ..
    have new : ((s.heap.push oF).push oI).get? (s.heap.objs.size + 1) = some oI := by
      have := Heap.get?_push_size (s.heap.push oF) (o := oI) (by rw [← hO]; rfl)
      rwa [sz] at this
    have newF : ((s.heap.push oF).push oI).get? s.heap.objs.size = some oF := Heap.get?_push_of_some _ (Heap.get?_push_size _ (by rw [← hF]; rfl))
    refine wpAny_bind (wpAny_holding (hint_set (kept _ _ hS) ?_))
    rw [if_pos (by decide)]
    have nF : @Ne Addr s.heap.objs.size (s.heap.objs.size + 1) := Nat.ne_of_lt (Nat.lt_succ_self _)
    have nI : @Ne Addr a (s.heap.objs.size + 1) := Nat.ne_of_lt (Nat.lt_succ_of_lt la)
    have W := walk_drawn (prog := prog) (w := w) (A := A.in1) (I := s.heap.objs.size + 1) (Fr := s.heap.objs.size) (a := a) (es := es) (t := t) (ep := ep) hh nF nI fit pm
    have out : S ∉ [s.heap.objs.size + 1, s.heap.objs.size, a] := by
      simp only [List.mem_cons, List.not_mem_nil, or_false, not_or]
      exact ⟨Nat.ne_of_lt (Nat.lt_succ_of_lt lS), Nat.ne_of_lt lS, nSa⟩
    refine go_on W out ⟨new.trans (by rw [← hO]; rfl), newF.trans (by rw [← hF]), kept _ _ hS⟩ (by omega) (kept _ _ h0) fun s' acc c' mv hS' it => ?_
    have pq : (r.map fun p => (vals es).getD p Value.none).Perm (vals es) := by
      have h1 := pm.map fun p => (vals es).getD p Value.none
      have h2 : ((List.range es.size).map fun p => (vals es).getD p Value.none) = vals es := by
        refine List.ext_getElem (by simp) fun i hi1 hi2 => ?_
        rw [List.getElem_map, List.getElem_range, List.getD_eq_getElem?_getD, List.getElem?_eq_getElem hi2]
        rfl
      rw [h2] at h1
      exact h1
    refine hR s' acc c' mv.gens mv.os (fun b o hb e => mv.heap b o ?_ (kept b o e)) hS' (by rw [items_list it (by rw [pq.length_eq, vl])]; exact pq)
    simp only [List.mem_cons, List.not_mem_nil, or_false, not_or]
    exact ⟨hb, Nat.ne_of_lt (Nat.lt_succ_of_lt (Heap.lt_size e))⟩
end
section
variable {prog : Program} {w : World} {A : Around} {E : Value → Shared → Prop} {s : Shared} {a : Addr}
theorem vals_perm {xs : List V} {us vs : List Value} (h : Vals xs us) (p : vs.Perm us) : ∃ ys, ys.Perm xs ∧ Vals ys vs := by
  induction p generalizing xs with
  | nil => exact ⟨xs, List.Perm.refl _, h⟩
  | cons v p ih =>
    cases h with
    | cons r h =>
      obtain ⟨ys, q1, q2⟩ := ih h
      exact ⟨_ :: ys, List.Perm.cons _ q1, .cons r q2⟩
  | swap x y l =>
    cases h with
    | cons r1 h =>
      cases h with
      | cons r2 h => exact ⟨_, List.Perm.swap _ _ _, .cons r2 (.cons r1 h)⟩
  | trans p1 p2 ih1 ih2 =>
    obtain ⟨ys, q1, q2⟩ := ih2 h
    obtain ⟨zs, q3, q4⟩ := ih1 q2
    exact ⟨zs, q3.trans q1, q4⟩
theorem collect_set {cs : List Nat} {Q : List Value → Shared → Prop} (hh : A.handled = none) (st : StrSet w s.heap a cs)
    (h : ∀ vs s' (ds : List Nat), ds.Perm cs → Vals (ds.map fun c => V.str (T [c])) vs → s'.gens = s.gens → s'.os = s.os → (∀ b o, s.heap.get? b = some o → s'.heap.get? b = some o) → Q vs s') : wpAny (model prog w) A (collect (.ref a)) Q E s := by
  obtain ⟨es, ep, t, ho, vl, fit, small, tab⟩ := st
  have hsl : sizeLine = 16777216 := sizeLine_eq
  unfold collect
  refine wpAny_bind (wpAny_runValue (codeAny_builtin F.entry_proto_collect ?_))
  rw [Around.under_plainId F.plain_proto_collect _]
  show wpAny _ A.in1 (newList [] >>= fun l => again (.builtin "list.__iadd__" ⟨[l, .ref a], []⟩)) _ _ s
  refine wpAny_bind (wpAny_newObj_type ?_)
  refine wpAny_pure ⟨plainId_quiet F.plain_list_iadd _, codeAny_builtin F.entry_list_iadd ?_⟩
  rw [Around.under_plainId F.plain_list_iadd _]
  show wpAny _ A.in1 (Builtin.List.listExtendWith (.ref s.heap.objs.size) (.ref a) (.ref s.heap.objs.size)) _ _ _
  let Good : Shared → Prop := fun s' => ∃ acc c', s'.gens = s.gens ∧ s'.os = s.os ∧ (∀ b o, s.heap.get? b = some o → s'.heap.get? b = some o) ∧ s'.heap.get? s.heap.objs.size = some { cls := .type "list", dict := none, data := .seq acc c', slots := #[] } ∧ acc.toList.Perm (vals es)
  have fin : ∀ s' : Shared, Good s' → wpAny (model prog w) A (match Value.ref s.heap.objs.size with
      | Value.ref a => do
        match (← load a).data with
          | Data.seq xs _ => pure xs.toList
          | _ => unsupported "internal:collect"
      | _ => unsupported "internal:collect") Q E s' := by
    rintro s' ⟨acc, c', g1, g2, g3, g4, g5⟩
    show wpAny _ A (load s.heap.objs.size >>= _) _ _ _
    refine wpAny_bind (wpAny_load g4 ?_)
    obtain ⟨ys, q1, q2⟩ := vals_perm vl g5
    obtain ⟨ds, hd, rfl⟩ : ∃ ds : List Nat, ds.Perm cs ∧ (ds.map fun c => V.str (T [c])) = ys := by
      have back : ∀ {ys zs : List V}, ys.Perm zs → ∀ cs : List Nat, zs = (cs.map fun c => V.str (T [c])) → ∃ ds : List Nat, ds.Perm cs ∧ (ds.map fun c => V.str (T [c])) = ys := by
        intro ys zs p
        induction p with
        | nil =>
          intro cs e
          exact ⟨[], by rw [show cs = [] by simpa using e.symm], rfl⟩
        | cons v p ih =>
          intro cs e
          cases cs with
          | nil => cases e
          | cons c r =>
            rw [List.map_cons] at e
            obtain ⟨e1, e2⟩ := List.cons.inj e
            obtain ⟨ds, q1, q2⟩ := ih r e2
            exact ⟨c :: ds, List.Perm.cons _ q1, by rw [List.map_cons, q2, e1]⟩
        | swap x y l =>
          intro cs e
          match cs, e with
          | c :: d :: r, e =>
            rw [List.map_cons, List.map_cons] at e
            obtain ⟨e1, e2⟩ := List.cons.inj e
            obtain ⟨e3, e4⟩ := List.cons.inj e2
            exact ⟨d :: c :: r, List.Perm.swap _ _ _, by rw [List.map_cons, List.map_cons, e1, e3, e4]⟩
        | trans p1 p2 ih1 ih2 =>
          intro cs e
          obtain ⟨ds, q1, q2⟩ := ih2 cs e
          obtain ⟨fs, q3, q4⟩ := ih1 ds q2.symm
          exact ⟨fs, q3.trans q1, q4⟩
      exact back q1 cs rfl
    exact wpAny_pure (h _ s' ds hd q2 g1 g2 g3)
  refine wpAny_mono (extend_set (s := { s with heap := s.heap.push { cls := .type "list", data := .seq ([] : List Value).toArray } }) (R := fun r s' => r = .ok (.ret (.ref s.heap.objs.size)) ∧ Good s') hh (Heap.get?_push_size _ rfl) (Heap.get?_push_of_some _ ho) fit tab small fun s' acc c' g1 g2 g3 g4 g5 => ⟨rfl, acc, c', g1, g2, fun b o e => g3 b o (Nat.ne_of_lt (Heap.lt_size e)) (Heap.get?_push_of_some _ e), g4, g5⟩) (fun fn s' hf => ?_) fun e s' he => ?_
  · cases fn with
    | done fl =>
      obtain ⟨e, hf⟩ := hf
      cases e
      exact fin s' hf
    | again c' =>
      refine ⟨hf.1, codeAny_mono hf.2 fun r s2 hr => ?_⟩
      obtain ⟨e, hr⟩ := hr
      subst e
      exact fin s2 hr
  · exact absurd he.1 (by intro z; cases z)
end
section
variable {X : Cx}
noncomputable def sortO (w : World) : List V → Hp → VK → Prop := fun vs H Q => match vs with
  | [.ref a] => ∃ cs : List Nat, H a = some (SetO w a cs) ∧ cs.length < 64 ∧ ∀ l (qs : List Nat), H l = none → qs.Perm cs → qs.Pairwise (fun i j => i ≤ j) → Q (.ref l) (upd H l (.lst (qs.map fun c => V.str (T [c]))))
  | _ => False
theorem c_sortO {w : World} (hw : X.w = w) (hc : X.calm = true) : CallR X (.builtin "sorted") (sortO w) := by
  subst hw
  intro pins s σ H vs us Q I r h
  unfold sortO at h
  split at h
  · rename_i a
    obtain ⟨cs, hx, h64, q⟩ := h
    obtain ⟨u, rfl, ru⟩ := vals1 r
    cases ru
    have st : StrSet X.w s.heap a cs := (I.hok a _ hx).1
    refine sorted_gen (H := H) (κ := oneType') (O := PyProof.Rows.strKind.toKeyOrd) hc (I.ok.hd hc) fun A E hA => collect_set hA st fun vs s' ds pm rv g1 g2 g3 => ?_
    have I' : Inv X pins σ H s' := by
      obtain ⟨h', g', d', t', o'⟩ := s'
      have e1 : g' = s.gens := g1
      have e2 : o' = s.os := g2
      subst e1 e2
      refine I.call' (ch := []) rfl ⟨fun b o q n hb hx => g3 b o q, fun b o q n hb hx => ⟨o.slots, g3 b o q⟩, fun b o q n hx => n, fun b o q hx => ⟨o, g3 b o q⟩, fun b ys q => q, fun b o y q => q, fun b ps q => ⟨#[], by rw [q]; simp⟩⟩ (fun b o q => (I.hok b o q).stay (fun c y hc z => g3 c y z) (fun c z => z) fun c ys z => z) I.bare fun b hb => (List.not_mem_nil hb).elim
    have hl : (ds.map fun c => V.str (T [c])).length = ds.length := List.length_map ..
    have em : (ds.map fun c => V.str (T [c])) = (ds.map fun c => [c]).map fun k => V.str (T k) := by rw [List.map_map]; rfl
    refine ⟨ds.map fun c => V.str (T [c]), fun i => (ds.map fun c => [c]).getD i [], I', rv, by rw [hl, pm.length_eq]; exact h64, fun s2 vs2 E2 Q2 I2 rv2 h2 q2 => ?_, fun s2 vs2 I2 rv2 => ?_, fun l p hl' pp pu => ?_⟩
    · rw [em] at rv2
      exact kind_str rv2 (by rw [hl] at h2; simpa using h2) q2
    · rw [em] at rv2
      have := ask_str (prog := X.prog) (w := X.w) (A := X.A.in1.in1) (s := s2) rv2
      rw [hl]
      rw [List.length_map] at this
      exact this
    · rw [hl] at pp pu
      have pl : ∀ i ∈ p.toList, i < ds.length := fun i hi => List.mem_range.mp (pp.mem_iff.mp hi)
      have up := up_pairs pp pu
      have e : (p.toList.map fun i => (ds.map fun c => V.str (T [c])).getD i .non) = (p.toList.map fun i => ds.getD i 0).map fun c => V.str (T [c]) := by
        rw [List.map_map]
        refine List.map_congr_left fun i hi => ?_
        have hi := pl i hi
        show _ = V.str (T [ds.getD i 0])
        rw [List.getD_eq_getElem?_getD, List.getD_eq_getElem?_getD, List.getElem?_map, List.getElem?_eq_getElem hi]
        rfl
      rw [e]
      refine q l _ hl' ?_ ?_
      · have h1 : (p.toList.map fun i => ds.getD i 0).Perm ((List.range ds.length).map fun i => ds.getD i 0) := pp.map _
        have h2 : ((List.range ds.length).map fun i => ds.getD i 0) = ds := by
          refine List.ext_getElem (by simp) fun i hi1 hi2 => ?_
          rw [List.getElem_map, List.getElem_range, List.getD_eq_getElem?_getD, List.getElem?_eq_getElem hi2]
          rfl
        rw [h2] at h1
        exact h1.trans pm
      · rw [List.pairwise_map]
        refine up.imp_of_mem fun {i j} hi hj hij => ?_
        have hi := pl i hi
        have hj := pl j hj
        rw [List.getD_eq_getElem?_getD, List.getD_eq_getElem?_getD, List.getElem?_map, List.getElem?_map, List.getElem?_eq_getElem hi, List.getElem?_eq_getElem hj] at hij
        rw [List.getD_eq_getElem?_getD, List.getD_eq_getElem?_getD, List.getElem?_eq_getElem hi, List.getElem?_eq_getElem hj]
        rcases LO.cons_le hij with z | ⟨z, _⟩
        · exact Nat.le_of_lt z
        · exact Nat.le_of_eq z
  · exact h.elim
end
end L2
set_option maxRecDepth 100000
namespace L2
open PySem PySem.Spec PyProof.Rows
theorem occ_size (x y : Str) (hi limit : Nat) (hy : y.length = 1) : ∀ (l : List Nat) (st : Array Nat × Nat), (∀ i ∈ l, st.2 ≤ i) → l.Pairwise (· < ·) → st.1.size + l.length ≤ limit →
    (forIn l st (StrLaws.occBody x y hi limit)).run.fst.size = st.1.size + l.countP fun i => decide (i + 1 ≤ hi) && Builtin.Str.subAt x y i
  | [], st, _, _, _ => rfl
  | a :: l, st, hf, pw, hl => by
    rw [List.forIn_cons]
    unfold StrLaws.occBody
    obtain ⟨p1, p2⟩ := List.pairwise_cons.mp pw
    rw [List.length_cons] at hl
    by_cases hc : a + y.length ≤ hi ∧ Builtin.Str.subAt x y a = true
    · rw [if_pos ⟨⟨⟨by omega, hf a (List.mem_cons_self ..)⟩, hc.1⟩, hc.2⟩]
      have := occ_size x y hi limit hy l (st.1.push a, a + y.length) (fun i h => by have := p1 i h; show a + y.length ≤ i; omega) p2 (by rw [Array.size_push]; omega)
      rw [Array.size_push] at this
      refine this.trans ?_
      rw [List.countP_cons, if_pos (by rw [hc.2, Bool.and_true, decide_eq_true_eq]; omega)]
      omega
    · rw [if_neg fun z => hc ⟨z.1.2, z.2⟩]
      have := occ_size x y hi limit hy l st (fun i h => hf i (List.mem_cons_of_mem _ h)) p2 (by omega)
      refine this.trans ?_
      rw [List.countP_cons, if_neg]
      · rfl
      · intro z
        rw [Bool.and_eq_true, decide_eq_true_eq] at z
        exact hc ⟨by omega, z.2⟩
theorem count_take (l : List Nat) (c : Nat) : ∀ hi, hi ≤ l.length → (List.range hi).countP (fun i => decide (l[i]? = some c)) = (l.take hi).count c
  | 0, _ => rfl
  | hi + 1, h => by
    rw [List.range_succ, List.countP_append, count_take l c hi (by omega), List.take_succ, List.count_append, List.getElem?_eq_getElem (by omega)]
    have e : l[hi]? = some l[hi] := List.getElem?_eq_getElem (by omega)
    simp [List.count_cons, List.countP_cons, e]
theorem occ_sign (x y : Str) (c hi : Nat) (hy : L y = [c]) (hh : hi ≤ (L x).length) : (Builtin.Str.occurrences x y 0 hi (x.length + 1)).length = ((L x).take hi).count c := by
  have ly : y.length = 1 := by rw [← L_len, hy]; rfl
  rw [StrLaws.occ_eq, Array.length_toList, occ_size x y hi _ ly _ _ (fun i _ => Nat.zero_le _) (List.pairwise_lt_range' ..) (by rw [List.length_range', ← L_len]; simp; omega)]
  rw [← List.range_eq_range', ← count_take (L x) c hi hh]
  show 0 + _ = _
  rw [Nat.zero_add, Nat.sub_zero, List.range_succ, List.countP_append]
  have e0 : [hi].countP (fun i => decide (i + 1 ≤ hi) && Builtin.Str.subAt x y i) = 0 := by
    rw [List.countP_eq_zero]
    intro i h
    rw [List.mem_singleton.mp h, decide_eq_false (by omega)]
    exact Bool.false_ne_true
  rw [e0, Nat.add_zero]
  refine List.countP_congr fun i h => ?_
  have h := List.mem_range.mp h
  rw [Bool.and_eq_true, decide_eq_true_eq, decide_eq_true_eq]
  have e := sub_T x y i
  unfold stAt at e
  rw [hy] at e
  have hl : i + y.length ≤ x.length := by rw [ly, ← L_len]; omega
  rw [decide_eq_true hl, Bool.true_and] at e
  rw [e, decide_eq_true_eq]
  constructor
  · rintro ⟨_, _, e2⟩
    have := congrArg (fun l : List Nat => l[0]?) e2
    simpa using this
  · intro e2
    refine ⟨by omega, by show i + 1 ≤ _; omega, ?_⟩
    refine List.ext_getElem (by simp; omega) fun k h1 h2 => ?_
    have : k = 0 := by simp at h2; omega
    subst this
    rw [List.getElem?_eq_getElem (by omega)] at e2
    simpa using Option.some.inj e2
theorem gives_count4 (x y : Str) (i j : Int) (t u v v' : Tok) : Gives (Builtin.«str.count» ⟨[.str x t, .str y u, .int i v, .int j v'], []⟩) (.int (Builtin.Str.occurrences x y (PySem.fromIndex x.length i) (min (PySem.fromIndex x.length j) x.length) (x.length + 1)).length) := by
  show Gives (retInt (Builtin.Str.occurrences x y (PySem.fromIndex x.length i) (min (PySem.fromIndex x.length j) x.length) (x.length + 1)).length) _
  exact .of_eq rfl
section
variable {X : Cx}
noncomputable def cntS : V → List V → Hp → VK → Prop := fun x vs H Q => match x, vs with
  | .str z, [.str y] => ∃ c, L y = [c] ∧ Q (.int ((L z).count c : Nat)) H
  | .str z, [.str y, .int i, .int j] => ∃ c, L y = [c] ∧ i = 0 ∧ 0 ≤ j ∧ Q (.int (((L z).take j.toNat).count c : Nat)) H
  | _, _ => False
theorem m_countS : MtR X "str.count" cntS := by
  intro pins s σ H x vs v us Q I rx rv h
  unfold cntS at h
  split at h
  · rename_i z y
    obtain ⟨c, hy, q⟩ := h
    obtain ⟨t, rfl⟩ := rx
    obtain ⟨u, rfl, t', rfl⟩ := vals1 rv
    refine call_gives F.slot_str_count (typeIs_str _ _ _) F.entry_str_count (F.args_str_count_2 _ _) (gives_str_count z y t t') ?_
    have := occ_sign z y c (L z).length hy (Nat.le_refl _)
    rw [List.take_length, L_len] at this
    rw [this]
    exact ⟨.int ((L z).count c : Nat), H, I.tok _, ⟨_, rfl⟩, q⟩
  · rename_i z y i j
    obtain ⟨c, hy, hi, hj, q⟩ := h
    subst hi
    obtain ⟨t, rfl⟩ := rx
    obtain ⟨t', t'', t3, rfl⟩ : ∃ t' t'' t3, us = [.str y t', .int 0 t'', .int j t3] := by
      cases rv with
      | cons r1 rv =>
        cases rv with
        | cons r2 rv =>
          cases rv with
          | cons r3 rv =>
            cases rv
            obtain ⟨t', rfl⟩ := r1
            obtain ⟨t'', rfl⟩ := r2
            obtain ⟨t3, rfl⟩ := r3
            exact ⟨t', t'', t3, rfl⟩
    refine call_gives F.slot_str_count (typeIs_str _ _ _) F.entry_str_count (F.args_str_count_4 _ _ _ _) (gives_count4 z y 0 j t t' t'' t3) ?_
    have e1 : PySem.fromIndex z.length 0 = 0 := rfl
    have e2 : PySem.fromIndex z.length j = j.toNat := by
      unfold PySem.fromIndex
      rw [if_neg (by omega)]
      omega
    rw [e1, e2]
    have := occ_sign z y c (min j.toNat z.length) hy (by rw [L_len]; omega)
    rw [this, ← L_len]
    have e3 : (L z).take (min j.toNat (L z).length) = (L z).take j.toNat := by
      by_cases h : j.toNat ≤ (L z).length
      · rw [Nat.min_eq_left h]
      · rw [Nat.min_eq_right (by omega), List.take_length, List.take_of_length_le (by omega)]
    rw [e3]
    exact ⟨.int (((L z).take j.toNat).count c : Nat), H, I.tok _, ⟨_, rfl⟩, q⟩
  · exact h.elim
end
end L2
set_option maxRecDepth 100000
namespace L2
open PySem PySem.Spec PyProof.Rows
noncomputable def clsBody : Stmt → List Stmt
  | .ClassDef _ _ _ b _ _ _ _ _ _ _ => b
  | _ => []
section
variable {P : Program} {w : World} {K : PySem.W.Frag} {mg : Str → Option Value} {base : Heap}
theorem Fun.okLX {x qual : Str} {st : Stmt} {f c : Addr} {fd : FuncData} {N ps : List Str} {k : Nat} {sp : Sp} (F : Fun K x qual st f fd) (hc : fd.code = .ref c) (S : FnScope N ps (defScope st)) (len : ∀ vs H Q E, sp vs H Q E → vs.length = ps.length)
    (hbody : ∀ (A : Around) (outer : List Env) (s : Shared) (H : Hp) (vs : List V) (Q : VK) (E : XK), Room k (A.deeper (envOfC qual (defScope st) s.heap.objs.size f (.ref c))) → sp vs H Q E →
      ∃ t, PSs (cxOf (CX1 P w) P w K mg base N qual (defScope st) f (.ref c) A outer s H E) (defBody st) t ∧ t { nx := fun _ H' => Q .non H', rt := Q } (start N vs) H) : FnOk P w K mg base (CX1 P w) (k + 1) f fd ps sp := by
  obtain ⟨oc, od, kV, doc, pm, an, cdv, ct, osl, rfl, lk, hcd⟩ := F.ex
  have hc : cdv = .ref c := hc
  subst hc
  exact fn_of lk hcd S len fun A outer s H vs Q E hr hsp => hbody A outer s H vs Q E hr hsp
end
section
variable {X : Cx} {K : PySem.W.Frag} {o e value : Expr} {f : Str} {pos pos' : Pos} {ta tv : TE}
noncomputable def rFld (C : Addr) (ta : TE) (f : Str) : TE := fun σ H Q => ta σ H fun x H1 => match x with
  | .ref a => ∃ dx fs v, H1 a = some (.ins C dx fs) ∧ fs.lookup f = some v ∧ Q v H1
  | _ => False
theorem pe_fldC {C : Addr} (hK : X.K = K) (c : Cls K C) (n : NoAttr K C f) (he : PE X e ta) (hb : attributeBase e f X.env (eval e X.env) = eval e X.env := by rfl) : PE X (.Attribute e f pos) (rFld C ta f) := by
  subst hK
  have he' : PE X e (fun σ H Q => ∃ Q0 : VK, ta σ H Q0 ∧ ∀ v H', Q0 v H' → Q v H') := he.imp fun σ H Q h => h
  intro pins s σ H Q I h
  refine pe_fld (pos := pos) he' hb pins s σ H Q I ⟨_, h, fun v H' q => ?_⟩
  cases v with
  | ref a =>
    obtain ⟨dx, fs, v, q1, q2, q3⟩ := q
    exact ⟨a, C, dx, fs, v, rfl, q1, c, n, q2, q3⟩
  | _ => exact False.elim q
noncomputable def wFld (C : Addr) (ta tv : TE) (f : Str) : TS := fun D σ H => tv σ H fun y H1 => ta σ H1 fun x H2 => match x with
  | .ref a => ∃ dx fs, H2 a = some (.ins C dx fs) ∧ fs.length < 1000 ∧ D.nx σ (upd H2 a (.ins C dx (putF f y fs)))
  | _ => False
theorem ps_fldC {C : Addr} (hK : X.K = K) (c : Cls K C) (n : NoAttr K C f) (ha : PE X o ta) (hv : PE X value tv) (hs : swapsWith value (some (.Attribute o f pos')) pos.line X.env = pure false) : PS X (.Assign [.Attribute o f pos'] value pos) (wFld C ta tv f) := by
  subst hK
  have ha' : PE X o (fun σ H Q => ∃ Q0 : VK, ta σ H Q0 ∧ ∀ v H', Q0 v H' → Q v H') := ha.imp fun σ H Q h => h
  have hv' : PE X value (fun σ H Q => ∃ Q0 : VK, tv σ H Q0 ∧ ∀ v H', Q0 v H' → Q v H') := hv.imp fun σ H Q h => h
  intro pins s σ H D I h
  refine ps_fld (pos' := pos') (pos := pos) ha' hv' hs pins s σ H D I ⟨_, h, fun y H1 q1 => ⟨_, q1, fun x H2 q => ?_⟩⟩
  cases x with
  | ref a =>
    obtain ⟨dx, fs, q1, q2, q3⟩ := q
    exact ⟨a, C, dx, fs, rfl, q1, c, n, q2, q3⟩
  | _ => exact False.elim q
end
section
variable {X : Cx} {x : Str} {pos : Pos}
theorem pe_globS {z : Str} (hg : Gl X x) (hm : ∃ t, X.mg x = some (.str z t)) (hd : (x == ("__debug__" : Str)) = false := by decide) : PE X (.Name x pos) (tC (.str z)) := by
  obtain ⟨t, hm⟩ := hm
  exact pe_glob hg hm ⟨t, rfl⟩ hd
end
end L2
set_option maxRecDepth 100000
namespace L2
open PySem
noncomputable def colL (cs : List Nat) (h : Nat) : List Nat := cs.take h ++ 10 :: cs.drop h
theorem colL_len {cs : List Nat} {h : Nat} (hh : h ≤ cs.length) : (colL cs h).length = cs.length + 1 := by
  unfold colL
  rw [List.length_append, List.length_cons, List.length_take, List.length_drop]
  omega
noncomputable def fsL (cs : List Nat) (h : Nat) (tot fo : Addr) : List (Str × V) := [("column", .str (T (colL cs h))), ("home", .int h), ("last", .int cs.length), ("totals", .ref tot), ("forths", .ref fo)]
noncomputable def Tot (H : Hp) (tot : Addr) (cs : List Nat) : Prop := ∃ (ts : List Addr) (ds : List Nat), H tot = some (.lst (ts.map V.ref)) ∧ ts.length = ds.length ∧ (∀ (j d : Nat), ds[j]? = some d → ∃ t, ts[j]? = some t ∧ H t = some (.tup [.str (T [d]), .int (cs.count d : Nat)])) ∧ ds.Nodup ∧ (∀ c, c ∈ ds ↔ c ∈ cs)
noncomputable def Fo (H : Hp) (fo : Addr) (cs : List Nat) (h : Nat) : Prop := ∃ p : List Nat, H fo = some (.lst (p.map fun i : Nat => V.int i)) ∧ p.Perm (List.range (cs.length + 1)) ∧ p.Pairwise (fun i j => [(colL cs h).getD i 0] ≤ [(colL cs h).getD j 0] ∧ ([(colL cs h).getD i 0] = [(colL cs h).getD j 0] → i < j))
noncomputable def IsLet (C : Addr) (H : Hp) (a : Addr) (cs : List Nat) (h : Nat) : Prop := ∃ dx tot fo, H a = some (.ins C dx (fsL cs h tot fo)) ∧ (Tot H tot cs ∧ Fo H fo cs h) ∧ h ≤ cs.length
theorem Tot.same {H H' : Hp} {tot : Addr} {cs : List Nat} (x : Tot H tot cs) (sm : ∀ b o, H b = some o → (∀ ps, o ≠ .tbl ps) → H' b = some o) : Tot H' tot cs := by
  obtain ⟨ts, ds, h1, h2, h3, h4⟩ := x
  refine ⟨ts, ds, sm _ _ h1 (by intro ps z; cases z), h2, fun j d e => ?_, h4⟩
  obtain ⟨t, e1, e2⟩ := h3 j d e
  exact ⟨t, e1, sm _ _ e2 (by intro ps z; cases z)⟩
theorem IsLet.same {C : Addr} {H H' : Hp} {a : Addr} {cs : List Nat} {h : Nat} (x : IsLet C H a cs h) (sm : ∀ b o, H b = some o → (∀ ps, o ≠ .tbl ps) → H' b = some o) : IsLet C H' a cs h := by
  obtain ⟨dx, tot, fo, h1, h2, h3⟩ := x
  obtain ⟨p, p1, p2⟩ := h2.2
  exact ⟨dx, tot, fo, sm _ _ h1 (by intro ps z; cases z), ⟨h2.1.same sm, p, sm _ _ p1 (by intro ps z; cases z), p2⟩, h3⟩
theorem fs_build (cs : List Nat) (h : Nat) (tot fo : Addr) : putF "forths" (.ref fo) (putF "totals" (.ref tot) (putF "last" (.int cs.length) (putF "home" (.int h) (putF "column" (.str (T (colL cs h))) [])))) = fsL cs h tot fo := by
  unfold fsL
  rfl
theorem cut_to {α : Type} (l : List α) (m : Nat) : cut l none (some (m : Int)) = l.take m := by
  unfold cut
  show (l.drop 0).take ((if (m : Int) < 0 then ((m : Int) + (l.length : Int)).toNat else min (m : Int).toNat l.length) - 0) = l.take m
  rw [if_neg (by omega), Int.toNat_natCast, List.drop_zero, Nat.sub_zero]
  by_cases h : m ≤ l.length
  · rw [Nat.min_eq_left h]
  · rw [Nat.min_eq_right (by omega), List.take_of_length_le (Nat.le_refl _), List.take_of_length_le (by omega)]
theorem colL_cut (cs : List Nat) (m : Nat) : cut cs none (some (m : Int)) ++ L (Str.ofString "\n") ++ cut cs (some (m : Int)) none = colL cs m := by
  have e : L (Str.ofString "\n") = [10] := by decide +kernel
  rw [cut_to, LP.cut_from, e]
  unfold colL
  simp
noncomputable def Prs (H : Hp) (ts : List Addr) (ds cs : List Nat) : Prop := ts.length = ds.length ∧ ∀ (j d : Nat), ds[j]? = some d → ∃ t, ts[j]? = some t ∧ H t = some (.tup [.str (T [d]), .int (cs.count d : Nat)])
theorem Prs.same {H H' : Hp} {ts : List Addr} {ds cs : List Nat} (x : Prs H ts ds cs) (sm : LP.SameT H H') : Prs H' ts ds cs := ⟨x.1, fun j d e => by
  obtain ⟨t, e1, e2⟩ := x.2 j d e
  exact ⟨t, e1, sm _ _ e2⟩⟩
theorem Prs.snoc {H : Hp} {ts : List Addr} {ds cs : List Nat} {t : Addr} {d : Nat} (x : Prs H ts ds cs) (ht : H t = some (.tup [.str (T [d]), .int (cs.count d : Nat)])) : Prs H (ts ++ [t]) (ds ++ [d]) cs := by
  refine ⟨by simp [x.1], fun j e hj => ?_⟩
  by_cases h : j < ds.length
  · rw [List.getElem?_append_left h] at hj
    obtain ⟨u, e1, e2⟩ := x.2 j e hj
    exact ⟨u, by rw [List.getElem?_append_left (by rw [x.1]; exact h)]; exact e1, e2⟩
  · have hl := (List.getElem?_eq_some_iff.mp hj).1
    rw [List.length_append, List.length_singleton] at hl
    have ej : j = ds.length := by omega
    subst ej
    rw [List.getElem?_append_right (Nat.le_refl _), Nat.sub_self] at hj
    have hj : d = e := by simpa using hj
    subst hj
    exact ⟨t, by rw [← x.1, List.getElem?_append_right (Nat.le_refl _), Nat.sub_self]; rfl, ht⟩
theorem bk_ins {P : Addr} {pos : Pos} {q : Str} {H : Hp} {a C dx : Addr} {fs : List (Str × V)} {o : HO} (h : Bk P pos q H) (hl : H a = some (.ins C dx fs)) : Bk P pos q (upd H a o) := by
  rcases h with h | ⟨c', h1, h2⟩
  · have : P ≠ a := by rintro rfl; rw [h] at hl; cases hl
    exact .inl ((upd_ne this).trans h)
  · have n1 : P ≠ a := by rintro rfl; rw [h1] at hl; cases hl
    have n2 : c' ≠ a := by rintro rfl; rw [h2] at hl; cases hl
    exact .inr ⟨c', (upd_ne n1).trans h1, (upd_ne n2).trans h2⟩
theorem rng_nat0 (n : Nat) : rngL 0 (n : Int) = (List.range n).map fun j : Nat => V.int j := by
  unfold rngL
  rw [show ((n : Int) - 0).toNat = n by omega]
  refine List.map_congr_left fun j _ => ?_
  rw [Int.zero_add]
noncomputable def rowsV (cs : List Nat) (h : Nat) : List V := (List.range (cs.length + 1)).map fun i => if i = h then V.non else V.str (T [(colL cs h).getD i 0])
theorem rowsV_len (cs : List Nat) (h : Nat) : (rowsV cs h).length = cs.length + 1 := by simp [rowsV]
theorem colL_at {cs : List Nat} {h i : Nat} (hh : h ≤ cs.length) : (colL cs h)[i]? = if i < h then cs[i]? else if i = h then some 10 else cs[i - 1]? := by
  unfold colL
  by_cases h1 : i < h
  · rw [if_pos h1, List.getElem?_append_left (by rw [List.length_take]; omega), List.getElem?_take, if_pos h1]
  · rw [if_neg h1, List.getElem?_append_right (by rw [List.length_take]; omega), List.length_take, Nat.min_eq_left hh]
    by_cases h2 : i = h
    · subst h2
      simp
    · rw [if_neg h2, show i - h = (i - h - 1) + 1 by omega, List.getElem?_cons_succ, List.getElem?_drop]
      congr 1
      omega
theorem rowsV_put {cs : List Nat} {h : Nat} (hh : h ≤ cs.length) : putAt (cs.map fun c => V.str (T [c])) h V.non = rowsV cs h := by
  refine List.ext_getElem? fun i => ?_
  unfold putAt rowsV
  rw [List.getElem?_map]
  by_cases h1 : i < h
  · rw [List.getElem?_append_left (by rw [List.length_take, List.length_map]; omega), List.getElem?_take, if_pos h1, List.getElem?_map, List.getElem?_range (by omega)]
    show _ = some (if i = h then _ else _)
    rw [if_neg (by omega), List.getD_eq_getElem?_getD, colL_at hh, if_pos h1, List.getElem?_eq_getElem (by omega)]
    rfl
  · rw [List.getElem?_append_right (by rw [List.length_take, List.length_map]; omega), List.length_take, List.length_map, Nat.min_eq_left hh]
    by_cases h2 : i = h
    · subst h2
      rw [Nat.sub_self, List.getElem?_range (by omega)]
      show _ = some (if i = i then _ else _)
      rw [if_pos rfl]
      rfl
    · rw [show i - h = (i - h - 1) + 1 by omega, List.getElem?_cons_succ, List.getElem?_drop, List.getElem?_map, show h + (i - h - 1) = i - 1 by omega]
      by_cases h3 : i < cs.length + 1
      · rw [List.getElem?_range h3]
        show _ = some (if i = h then _ else _)
        rw [if_neg h2, List.getD_eq_getElem?_getD, colL_at hh, if_neg h1, if_neg h2, List.getElem?_eq_getElem (by omega)]
        rfl
      · rw [List.getElem?_eq_none (by omega), List.getElem?_eq_none (by simp; omega)]
        rfl
theorem rowsV_at {cs : List Nat} {h i : Nat} (hi : i < cs.length + 1) : (rowsV cs h)[i]? = some (if i = h then V.non else V.str (T [(colL cs h).getD i 0])) := by
  unfold rowsV
  rw [List.getElem?_map, List.getElem?_range hi]
  rfl
theorem colL_home {cs : List Nat} {h : Nat} (hh : h ≤ cs.length) : (colL cs h).getD h 0 = 10 := by
  rw [List.getD_eq_getElem?_getD, colL_at hh, if_neg (Nat.lt_irrefl _), if_pos rfl]
  rfl
theorem colL_ne {cs : List Nat} {h i : Nat} (hh : h ≤ cs.length) (h10 : ∀ c ∈ cs, c ≠ 10) (hi : i < cs.length + 1) (hn : i ≠ h) : (colL cs h).getD i 0 ≠ 10 := by
  rw [List.getD_eq_getElem?_getD, colL_at hh]
  by_cases h1 : i < h
  · rw [if_pos h1, List.getElem?_eq_getElem (by omega)]
    exact h10 _ (List.getElem_mem _)
  · rw [if_neg h1, if_neg hn, List.getElem?_eq_getElem (by omega)]
    exact h10 _ (List.getElem_mem _)
end L2
set_option maxRecDepth 100000
namespace L2
open PySem PySem.Spec PyProof.Rows Builtin Builtin.Str
section
variable {prog : Program} {w : World} {A : Around} {E : Value → Shared → Prop} {s : Shared} {I l : Addr}
end
section
variable {X : Cx} {K : PySem.W.Frag}
end
end L2
set_option maxRecDepth 100000
namespace LO
open L2
end LO
namespace L2
open PySem
theorem upd_nn {H : Hp} {a b : Addr} {o : HO} (h : H b ≠ none) : upd H a o b ≠ none := by
  unfold upd
  split
  · simp
  · exact h
theorem Same.nn {H H' : Hp} (s : Same H H') {b : Addr} (h : H b ≠ none) : H' b ≠ none := by
  cases e : H b with
  | none => exact absurd e h
  | some o => rw [s b o e]; simp
theorem SameN.nn {H H' : Hp} (s : SameN H H') {b : Addr} (h : H b ≠ none) : H' b ≠ none := by
  cases e : H b with
  | none => exact absurd e h
  | some o => exact (s b o e).1
theorem made_same {H H' : Hp} {x dx : Addr} {o1 o2 : HO} (hx : H x = none) (hdx : H dx = none) (kp : ∀ b o, b ≠ x → upd (upd H dx o1) x o2 b = some o → (∀ ps, o ≠ .tbl ps) → H' b = some o)
    (nn : ∀ b, upd (upd H dx o1) x o2 b ≠ none → H' b ≠ none) : SameN H H' := fun b o e => by
  have n1 := ne_of_none e hx
  have e2 : upd (upd H dx o1) x o2 b = some o := (upd_ne n1).trans ((upd_ne (ne_of_none e hdx)).trans e)
  exact ⟨nn b (by rw [e2]; simp), fun n => kp b o n1 e2 n⟩
end L2
set_option maxRecDepth 100000
namespace L2
open PySem
noncomputable def encV (ps : List (Int × V)) : List (Key × V) := ps.map fun p => (.inl p.1, p.2)
theorem lookup_snoc (k j : Int) (v : V) : ∀ ps : List (Int × V), (ps ++ [(k, v)]).lookup j = (ps.lookup j).or (if j = k then some v else none)
  | [] => by
    rw [List.nil_append, List.lookup_cons]
    by_cases e : j = k
    · rw [if_pos e, show (j == k) = true by simpa using e]
      rfl
    · rw [if_neg e, show (j == k) = false by simpa using e]
      rfl
  | x :: r => by
    rw [List.cons_append, List.lookup_cons, List.lookup_cons]
    cases (j == x.1) with
    | true => rfl
    | false => exact lookup_snoc k j v r
end L2
namespace LO
end LO
namespace LO
end LO
namespace L2
open PySem
end L2
set_option maxRecDepth 100000
namespace L2
open PySem PySem.Spec PyProof.Rows
section
variable {X : Cx} {pos : Pos} {K : PySem.W.Frag}
end
end L2
namespace LO
end LO
namespace L2
open PySem
theorem EqT.int {K : PySem.W.Frag} {H : Hp} {n : Nat} (i : Int) : EqT K H n (.int i) (.int i) := .flat rfl rfl (by simp [eqV])
theorem EqT.str {K : PySem.W.Frag} {H : Hp} {n : Nat} (z : Str) : EqT K H n (.str z) (.str z) := .flat rfl rfl (by simp [eqV])
end L2
namespace LO
end LO
set_option maxRecDepth 100000
namespace L2
open PySem PySem.Spec PyProof.Rows
section
variable {X : Cx} {K : PySem.W.Frag}
end
noncomputable def Bd (i : Int) (m : Nat) : Prop := 0 ≤ i ∧ i ≤ m
theorem Bd.mul {i j : Int} {m n : Nat} (h : Bd i m) (g : Bd j n) : Bd (i * j) (m * n) := by
  refine ⟨Int.mul_nonneg h.1 g.1, ?_⟩
  rw [Int.natCast_mul]
  exact Int.mul_le_mul h.2 g.2 g.1 (Int.natCast_nonneg _)
theorem Bd.mod (i : Int) {m : Nat} (h : 0 < m) : Bd (i % (m : Int)) m := ⟨Int.emod_nonneg _ (by omega), Int.le_of_lt (Int.emod_lt_of_pos _ (by omega))⟩
theorem eqV_self : ∀ {x : V}, flatV x = true → eqV x x = true := by
  intro x h
  cases x <;> first | (simp [eqV]; done) | (simp [flatV] at h; done)
end L2
set_option maxRecDepth 100000
namespace L2
open PySem PySem.Spec PyProof.Rows
noncomputable def IsRvS (h : Heap) (a : Addr) (z : Str) (t : Tok) (i : Int) : Prop := ∃ o, h.get? a = some o ∧ o.cls = .type "reversed" ∧ o.data = .fields #[.str z t, rawInt i]
section
variable {prog : Program} {w : World} {A : Around} {E : Value → Shared → Prop} {s : Shared}
theorem IsRvS.typeIs {a : Addr} {z : Str} {t : Tok} {i : Int} (x : IsRvS s.heap a z t i) : s.TypeIs (.ref a) "reversed" := let ⟨o, ho, hc, _⟩ := x; ⟨o, ho, hc⟩
end
section
variable {P : Program} {w : World} {K : PySem.W.Frag} {tg : Expr}
end
section
variable {X : Cx} {tg : Expr}
end
end L2
set_option maxRecDepth 100000
namespace L2
open PySem PySem.Spec PyProof.Rows
structure FunD (K : PySem.W.Frag) (x qual : Str) (st : Stmt) (f T : Addr) (fd : FuncData) : Prop where
  ex : ∃ (oc : Value) (od : Option Addr) (kV doc pm : Value) (an : Option Addr) (cdv ct : Value) (osl : Array (Option Value)),
    fd = PySem.W.fnOf x qual (defArgs st) (defBody st) (defScope st) (.ref T) kV doc pm an cdv ct ∧ K.lookup f = some ⟨oc, od, .func fd, osl⟩ ∧ PySem.W.codeIn K cdv qual = true
  kp : PySem.W.keepIn K (.ref f) = true
section
variable {P : Program} {w : World} {K : PySem.W.Frag} {mg : Str → Option Value} {base : Heap} {x qual : Str} {st : Stmt} {f T : Addr} {fd : FuncData} {N ps : List Str} {k : Nat} {sp : Sp}
theorem FunD.okX (F : FunD K x qual st f T fd) (S : FnScope N ps (defScope st)) (len : ∀ vs H Q E, sp vs H Q E → vs.length = ps.length)
    (hbody : ∀ (cdv : Value) (A : Around) (outer : List Env) (s : Shared) (H : Hp) (vs : List V) (Q : VK) (E : XK), Room k (A.deeper (envOfC qual (defScope st) s.heap.objs.size f cdv)) → sp vs H Q E →
      ∃ t, PSs (cxOf (CX1 P w) P w K mg base N qual (defScope st) f cdv A outer s H E) (defBody st) t ∧ t { nx := fun _ H' => Q .non H', rt := Q } (start N vs) H) : FnOk P w K mg base (CX1 P w) (k + 1) f fd ps sp := by
  obtain ⟨oc, od, kV, doc, pm, an, cdv, ct, osl, rfl, lk, hcd⟩ := F.ex
  exact fn_of lk hcd S len fun A outer s H vs Q E hr hsp => hbody cdv A outer s H vs Q E hr hsp
theorem FunD.ok (F : FunD K x qual st f T fd) (S : FnScope N ps (defScope st)) (len : ∀ vs H Q E, sp vs H Q E → vs.length = ps.length)
    (hbody : ∀ (cdv : Value) (A : Around) (outer : List Env) (s : Shared) (H : Hp) (vs : List V) (Q : VK) (E : XK), Room k (A.deeper (envOfC qual (defScope st) s.heap.objs.size f cdv)) → sp vs H Q E →
      ∃ t, PSs (cxOf CX0 P w K mg base N qual (defScope st) f cdv A outer s H E).nox (defBody st) t ∧ t { nx := fun _ H' => Q .non H', rt := Q } (start N vs) H) : FnOk P w K mg base CX0 (k + 1) f fd ps sp := by
  obtain ⟨oc, od, kV, doc, pm, an, cdv, ct, osl, rfl, lk, hcd⟩ := F.ex
  refine fn_of lk hcd S len fun A outer s H vs Q E hr hsp => ?_
  obtain ⟨t, h, q⟩ := hbody cdv A outer s H vs Q E hr hsp
  exact ⟨t, h.nox, q⟩
theorem FunD.binds {ds : List Value} {items : Array Value} {n : Nat} {qc : Value} {qo : Option Addr} {qs : Array (Option Value)} (F : FunD K x qual st f T fd) (hT : K.lookup T = some ⟨qc, qo, .seq items n, qs⟩)
    (h : ∀ (kV doc pm : Value) (an : Option Addr) (cdv ct : Value) (us : List Value), us.length + ds.length = ps.length →
      ∃ g : Option (Array Value) → Sem (List (Str × Value)), bindArgs (PySem.W.fnOf x qual (defArgs st) (defBody st) (defScope st) (.ref T) kV doc pm an cdv ct) ⟨us, []⟩ = seqItems? (.ref T) >>= g ∧ g (some items) = pure (ps.zip (us ++ ds))) : Binds K fd ps ds := by
  obtain ⟨oc, od, kV, doc, pm, an, cdv, ct, osl, rfl, lk, hcd⟩ := F.ex
  intro s us hin hl
  obtain ⟨g, h1, h2⟩ := h kV doc pm an cdv ct us (by rw [← List.length_append]; exact hl)
  exact PySem.W.binds_K hin rfl hT rfl h1 h2
end
end L2
namespace L2
open PySem PySem.Spec PyProof.Rows
section
variable {X : Cx}
end
end L2
set_option maxRecDepth 100000
namespace L2
open PySem PySem.Spec PyProof.Rows
theorem IsLet.same2 {C : Addr} {H H' : Hp} {a : Addr} {cs : List Nat} {h : Nat} (x : IsLet C H a cs h) (sm : ∀ b o, H b = some o → (∀ ps, o ≠ .tbl ps) → (∀ kvs, o ≠ .dK kvs) → (∀ C' dx fs, o = .ins C' dx fs → fs.length = 5) → H' b = some o) : IsLet C H' a cs h := by
  obtain ⟨dx, tot, fo, h1, ⟨⟨ts, ds, t1, t2, t3, t4⟩, p, p1, p2⟩, h3⟩ := x
  refine ⟨dx, tot, fo, sm _ _ h1 (by intro ps z; cases z) (by intro ps z; cases z) (by intro C' dx' fs z; cases z; rfl), ⟨⟨ts, ds, sm _ _ t1 (by intro ps z; cases z) (by intro ps z; cases z) (by intro C' dx' fs z; cases z), t2, fun j d e => ?_, t4⟩, p, sm _ _ p1 (by intro ps z; cases z) (by intro ps z; cases z) (by intro C' dx' fs z; cases z), p2⟩, h3⟩
  obtain ⟨t, e1, e2⟩ := t3 j d e
  exact ⟨t, e1, sm _ _ e2 (by intro ps z; cases z) (by intro ps z; cases z) (by intro C' dx' fs z; cases z)⟩
noncomputable def KeepX (x d : Addr) (H H' : Hp) : Prop := (∀ b o, b ≠ x → b ≠ d → H b = some o → (∀ ps, o ≠ .tbl ps) → H' b = some o) ∧ ∀ b, H b ≠ none → H' b ≠ none
theorem KeepX.ofN {x d : Addr} {H H' : Hp} (s : SameN H H') : KeepX x d H H' := ⟨fun _ _ _ _ e n => s.at e n, fun _ e => s.nn e⟩
theorem KeepX.trans {x d : Addr} {H H1 H2 : Hp} (a : KeepX x d H H1) (b : KeepX x d H1 H2) : KeepX x d H H2 := ⟨fun c o h1 h2 e n => b.1 c o h1 h2 (a.1 c o h1 h2 e n) n, fun c e => b.2 c (a.2 c e)⟩
theorem KeepX.refl (x d : Addr) (H : Hp) : KeepX x d H H := ⟨fun _ _ _ _ e _ => e, fun _ e => e⟩
noncomputable def ordAt (l : List Nat) (r : Nat) : Nat := (LO.ord l).getD r 0
noncomputable def KnownTo (ps : List (Int × V)) (l : List Nat) (g : Int) (k : Nat) : Prop := ∀ r : Int, ps.lookup r = if 0 ≤ r ∧ r < k ∧ (ordAt l r.toNat : Int) % g = 0 then some (.int (ordAt l r.toNat : Nat)) else none
noncomputable def fsF (h d : Addr) (g : Int) : List (Str × V) := [("held", .ref h), ("gap", .int g), ("known", .ref d)]
noncomputable def IsFin (C CL : Addr) (H : Hp) (x : Addr) (l : List Nat) (g : Int) : Prop := ∃ dx h d ps, H x = some (.ins C dx (fsF h d g)) ∧ IsLet CL H h (LO.letters l) (LO.home l) ∧ H d = some (.dK (encV ps)) ∧ KnownTo ps l g (l.length + 1) ∧ 1 ≤ g
theorem IsFin.same {C CL : Addr} {H H' : Hp} {x : Addr} {l : List Nat} {g : Int} (f : IsFin C CL H x l g) (sm : ∀ b o, H b = some o → (∀ ps, o ≠ .tbl ps) → H' b = some o) : IsFin C CL H' x l g := by
  obtain ⟨dx, h, d, ps, h1, h2, h3, h4⟩ := f
  exact ⟨dx, h, d, ps, sm _ _ h1 (by intro ps z; cases z), h2.same sm, sm _ _ h3 (by intro ps z; cases z), h4⟩
theorem KnownTo.step {ps : List (Int × V)} {l : List Nat} {g : Int} {k j : Nat} (h : KnownTo ps l g k) (e : (LO.ord l)[k]? = some j) : ((j : Int) % g = 0 → ps.lookup (k : Int) = none ∧ KnownTo (ps ++ [((k : Int), .int (j : Int))]) l g (k + 1)) ∧ (¬ (j : Int) % g = 0 → KnownTo ps l g (k + 1)) := by
  have ej : ordAt l k = j := by
    unfold ordAt
    rw [List.getD_eq_getElem?_getD, e]
    rfl
  refine ⟨fun hz => ⟨by rw [h, if_neg fun z => by omega], fun r => ?_⟩, fun hz r => ?_⟩
  · rw [lookup_snoc, h r]
    by_cases er : r = (k : Int)
    · subst er
      rw [if_neg fun z => by omega, if_pos rfl, Int.toNat_natCast, ej, if_pos ⟨by omega, by omega, hz⟩]
      rfl
    · rw [if_neg er, Option.or_none]
      by_cases hr : 0 ≤ r ∧ r < k ∧ (ordAt l r.toNat : Int) % g = 0
      · rw [if_pos hr, if_pos ⟨hr.1, by omega, hr.2.2⟩]
      · rw [if_neg hr, if_neg fun z => hr ⟨z.1, by omega, z.2.2⟩]
  · rw [h r]
    by_cases er : r = (k : Int)
    · subst er
      rw [if_neg fun z => by omega, if_neg fun z => hz (by rw [Int.toNat_natCast, ej] at z; exact z.2.2)]
    · by_cases hr : 0 ≤ r ∧ r < k ∧ (ordAt l r.toNat : Int) % g = 0
      · rw [if_pos hr, if_pos ⟨hr.1, by omega, hr.2.2⟩]
      · rw [if_neg hr, if_neg fun z => hr ⟨z.1, by omega, z.2.2⟩]
end L2
namespace LO
end LO
namespace L2
open PySem
end L2
namespace L2
open PySem
end L2
namespace L2
open PySem
theorem ordAt_rank {l : List Nat} {j : Nat} (h : j ≤ l.length) : ordAt l (LO.rank l j) = j := by
  unfold ordAt
  rw [List.getD_eq_getElem?_getD, LO.ord_rank h]
  rfl
theorem ordAt_le {l : List Nat} {r : Nat} (h : r ≤ l.length) : ordAt l r ≤ l.length ∧ LO.rank l (ordAt l r) = r := by
  have hl := LO.ord_length l
  have e : (LO.ord l)[r]? = some (LO.ord l)[r] := List.getElem?_eq_getElem (by omega)
  have e2 : ordAt l r = (LO.ord l)[r] := by
    unfold ordAt
    rw [List.getD_eq_getElem?_getD, e]
    rfl
  rw [e2]
  exact ⟨LO.mem_ord.mp (List.getElem_mem _), LO.rank_of e⟩
theorem KnownTo.at {ps : List (Int × V)} {l : List Nat} {g : Int} {j : Nat} (h : KnownTo ps l g (l.length + 1)) (hj : j ≤ l.length) : ps.lookup ((LO.rank l j : Nat) : Int) = if (j : Int) % g = 0 then some (.int (j : Int)) else none := by
  have hr := LO.rank_lt (l := l) (j := j) hj
  rw [h, Int.toNat_natCast, ordAt_rank hj]
  by_cases z : (j : Int) % g = 0
  · rw [if_pos ⟨by omega, by omega, z⟩, if_pos z]
  · rw [if_neg fun w => z w.2.2, if_neg z]
end L2
set_option maxRecDepth 100000
namespace L2
open PySem PySem.Spec PyProof.Rows
structure MkrK (P : Program) (w : World) (K : PySem.W.Frag) (mg : Str → Option Value) (base : Heap) (CX : CXT) (k : Nat) (x : Str) (C : Addr) (ps : List Str) (kw : Str) (sp : Sp) : Prop where
  ex : ∃ f fd, FnOk P w K mg base CX k f fd ps sp ∧ Mk K C f ∧ ∀ (s : Shared) (a b c : Value), K.In s.heap → BindsTo s fd ⟨[a, b], [(kw, c)]⟩ (ps.zip [a, b, c])
  at_ : mg x = some (.ref C)
theorem MkrK.mono {P : Program} {w : World} {K : PySem.W.Frag} {mg : Str → Option Value} {base : Heap} {CX : CXT} {j k : Nat} {C : Addr} {x kw : Str} {ps : List Str} {sp : Sp} (M : MkrK P w K mg base CX j x C ps kw sp) (h : j ≤ k) : MkrK P w K mg base CX k x C ps kw sp := by
  obtain ⟨f, fd, F, r⟩ := M.ex
  exact ⟨⟨f, fd, F.mono h, r⟩, M.at_⟩
theorem MkrK.quiet {P : Program} {w : World} {K : PySem.W.Frag} {mg : Str → Option Value} {base : Heap} {k : Nat} {C : Addr} {x kw : Str} {ps : List Str} {sp : Sp} (M : MkrK P w K mg base (CX1 P w) k x C ps kw sp) : MkrK P w K mg base CX0 k x C ps kw (fun vs H Q _ => sp vs H Q E0) := by
  obtain ⟨f, fd, F, r⟩ := M.ex
  exact ⟨⟨f, fd, quietX F, r⟩, M.at_⟩
section
variable {X : Cx} {k : Nat} {C : Addr} {x kw : Str} {ps : List Str} {sp : Sp} {e e2 : Expr} {ta tb : TE} {p pos kpos : Pos}
end
section
variable {K : PySem.W.Frag} {x qual : Str} {st : Stmt} {f T : Addr} {fd : FuncData} {ps : List Str}
end
end L2
namespace L2
open PySem
end L2
set_option maxRecDepth 100000
namespace L2
open PySem PySem.Spec PyProof.Rows
noncomputable def KeepY (x d t1 t2 : Addr) (H H' : Hp) : Prop := KeepX x d H H' ∧ ∀ b o, b ≠ x → b ≠ d → b ≠ t1 → b ≠ t2 → H b = some o → H' b = some o
theorem KeepY.of {x d t1 t2 : Addr} {H H' : Hp} (s : SameN H H') (e : ∀ b o, b ≠ t1 → b ≠ t2 → H b = some o → H' b = some o) : KeepY x d t1 t2 H H' := ⟨KeepX.ofN s, fun b o _ _ n1 n2 h => e b o n1 n2 h⟩
theorem KeepY.trans {x d t1 t2 : Addr} {H H1 H2 : Hp} (a : KeepY x d t1 t2 H H1) (b : KeepY x d t1 t2 H1 H2) : KeepY x d t1 t2 H H2 := ⟨a.1.trans b.1, fun c o h1 h2 h3 h4 e => b.2 c o h1 h2 h3 h4 (a.2 c o h1 h2 h3 h4 e)⟩
end L2
set_option maxRecDepth 100000
namespace L2
open PySem PySem.Spec PyProof.Rows
section
variable {X : Cx}
noncomputable def tCR2 (n : Nat) (cp : List (Str × Nat)) (ta : TA) (tc : TT) (te : TE) : TE := fun σ H Q => ta σ H fun vs H1 => match vs with
  | [.int a, .int b] => (-(2 ^ 62) ≤ a ∧ a < 2 ^ 62 ∧ -(2 ^ 62) ≤ b ∧ b < 2 ^ 62 ∧ b - a < 16777216) ∧ ∃ Pv : Nat → Hp → List V → Prop, Pv 0 H1 [] ∧ (∀ i H2 acc, i < (b - a).toNat → Pv i H2 acc → oneC tc te ((capS n cp σ).set 0 (some (.int (a + (i : Int))))) acc (Pv (i + 1)) H2) ∧ ∀ H2 acc, Pv (b - a).toNat H2 acc → ∀ l, H2 l = none → Q (.ref l) (upd H2 l (.lst acc))
  | _ => False
end
end L2
namespace LO
open L2
theorem has_take {l t : List Nat} {i : Nat} : hasAt l t i = true ↔ (l.drop i).take t.length = t := by
  unfold hasAt
  rw [List.isPrefixOf_iff_prefix, List.prefix_iff_eq_take]
  exact ⟨fun h => h.symm, fun h => h.symm⟩
end LO
set_option maxRecDepth 100000
namespace L2
open PySem PySem.Spec PyProof.Rows
structure FnD (P : Program) (w : World) (K : PySem.W.Frag) (mg : Str → Option Value) (base : Heap) (k : Nat) (x : Str) (ps : List Str) (dvs : List V) (sp : Sp) : Prop where
  ex : ∃ f fd ds, FnOk P w K mg base CX0 k f fd ps sp ∧ mg x = some (.ref f) ∧ PySem.W.keepIn K (.ref f) = true ∧ Binds K fd ps ds ∧ Vals dvs ds
structure FnK (P : Program) (w : World) (K : PySem.W.Frag) (mg : Str → Option Value) (base : Heap) (k : Nat) (x : Str) (ps : List Str) (kw : Str) (sp : Sp) : Prop where
  ex : ∃ f fd, FnOk P w K mg base CX0 k f fd ps sp ∧ mg x = some (.ref f) ∧ PySem.W.keepIn K (.ref f) = true ∧ ∀ (s : Shared) (a c : Value), K.In s.heap → BindsTo s fd ⟨[a], [(kw, c)]⟩ (ps.zip [a, c])
section
variable {X : Cx} {k : Nat} {x kw : Str} {ps : List Str} {sp : Sp} {p pos kpos : Pos} {e e2 : Expr} {es : List Expr} {t : TA} {ta tb : TE} {dvs : List V}
end
section
variable {K : PySem.W.Frag} {x qual : Str} {st : Stmt} {f T : Addr} {fd : FuncData} {ps : List Str}
end
end L2
set_option maxRecDepth 100000
namespace LO
open LW L2
theorem take_up : ∀ {x y : List Nat} (k : Nat), x ≤ y → x.take k ≤ y.take k
  | _, _, 0, _ => by simp
  | [], y, k + 1, _ => by simp
  | c :: x, [], k + 1, h => absurd (List.nil_lt_cons c x) (List.not_lt.mpr h)
  | c :: x, d :: y, k + 1, h => by
    rw [List.take_succ_cons, List.take_succ_cons]
    have h : ¬ (d :: y < c :: x) := List.not_lt.mpr h
    refine List.not_lt.mp fun z => h ?_
    rw [List.cons_lt_cons_iff] at z ⊢
    rcases z with z | ⟨z1, z2⟩
    · exact .inl z
    · refine .inr ⟨z1, ?_⟩
      rcases Decidable.em (y < x) with w | w
      · exact w
      · exact absurd z2 (List.not_lt.mpr (take_up k (List.not_lt.mp w)))
theorem row_up {l : List Nat} {i j : Nat} (h : i ≤ j) (hj : j ≤ l.length) : l.drop (ordAt l i) ≤ l.drop (ordAt l j) := by
  have ol := ord_length l
  rcases Nat.lt_or_ge i j with w | w
  · have := List.pairwise_iff_getElem.mp (ord_le l) i j (by omega) (by omega) w
    unfold ordAt
    rw [List.getD_eq_getElem?_getD, List.getD_eq_getElem?_getD, List.getElem?_eq_getElem (by omega), List.getElem?_eq_getElem (by omega)]
    exact this
  · have : i = j := by omega
    subst this
    exact List.le_refl _
noncomputable def sz (l : List Nat) (m r : Nat) : Nat := com (l.drop (ordAt l r)) (l.drop (ordAt l (r + (m - 1))))
noncomputable def pc (l : List Nat) (m r : Nat) : List Nat := (l.drop (ordAt l r)).take (sz l m r)
theorem pc_len (l : List Nat) (m r : Nat) : (pc l m r).length = sz l m r := by
  unfold pc
  rw [List.length_take]
  have := (LW.com_le (l.drop (ordAt l r)) (l.drop (ordAt l (r + (m - 1))))).1
  unfold sz
  omega
theorem pc_many {l : List Nat} {m r : Nat} (h1 : 1 ≤ m) (hr : r + (m - 1) ≤ l.length) : m ≤ many l (pc l m r) := by
  have hp : pc l m r = (l.drop (ordAt l (r + (m - 1)))).take (sz l m r) := take_com _ _ _ (Nat.le_refl _)
  obtain ⟨a1, a2⟩ := ordAt_le (l := l) (r := r) (by omega)
  obtain ⟨b1, b2⟩ := ordAt_le (l := l) (r := r + (m - 1)) (by omega)
  have c1 := (rank_in (t := pc l m r) a1).mp (has_take.mpr (by rw [pc_len]; rfl))
  have c2 := (rank_in (t := pc l m r) b1).mp (has_take.mpr (by rw [pc_len]; exact hp.symm))
  unfold high at c1 c2
  omega
structure Lng (l : List Nat) (m i : Nat) (c : List Nat) : Prop where
  one : m ≤ many l c
  most : ∀ r, r < i → sz l m r ≤ c.length
  first : ∀ r, r < i → sz l m r = c.length → ¬ pc l m r < c
  src : ∀ j, i ≤ j → j ≤ l.length → ¬ (l.drop (ordAt l j)).take c.length < c
theorem Lng.keep {l c : List Nat} {m i : Nat} (h : Lng l m i c) (hi : i ≤ l.length) (hs : sz l m i ≤ c.length) : Lng l m (i + 1) c := by
  refine ⟨h.one, fun r hr => ?_, fun r hr e => ?_, fun j hj hj2 => h.src j (by omega) hj2⟩
  · rcases Nat.lt_or_ge r i with w | w
    · exact h.most r w
    · have : r = i := by omega
      subst this
      exact hs
  · rcases Nat.lt_or_ge r i with w | w
    · exact h.first r w e
    · have : r = i := by omega
      subst this
      unfold pc
      rw [e]
      exact h.src r (Nat.le_refl _) hi
theorem Lng.take {l c : List Nat} {m i : Nat} (h : Lng l m i c) (h1 : 1 ≤ m) (hi : i + (m - 1) ≤ l.length) (hs : c.length < sz l m i) : Lng l m (i + 1) (pc l m i) := by
  refine ⟨pc_many h1 hi, fun r hr => ?_, fun r hr e => ?_, fun j hj hj2 => ?_⟩
  · rw [pc_len]
    rcases Nat.lt_or_ge r i with w | w
    · have := h.most r w
      omega
    · have : r = i := by omega
      subst this
      exact Nat.le_refl _
  · rw [pc_len] at e
    rcases Nat.lt_or_ge r i with w | w
    · have := h.most r w
      omega
    · have : r = i := by omega
      subst this
      exact List.lt_irrefl _
  · rw [pc_len]
    exact List.not_lt.mpr (take_up _ (row_up (by omega) hj2))
end LO
set_option maxRecDepth 100000
namespace L2
open PySem PySem.Spec PyProof.Rows
section
variable {prog : Program} {w : World} {A : Around} {E : Value → Shared → Prop} {s : Shared}
structure Zap (z TI TO i1 i2 : Addr) : Prop where
  TIz : TI ≠ z
  TOz : TO ≠ z
  i1z : i1 ≠ z
  i2z : i2 ≠ z
  TITO : TI ≠ TO
  TIi1 : TI ≠ i1
  TIi2 : TI ≠ i2
  TOi1 : TO ≠ i1
  TOi2 : TO ≠ i2
  i12 : i1 ≠ i2
variable {z TI TO i1 i2 : Addr} {n1 n2 k : Nat} {P1 P2 : Nat → Value → Prop} {S1 S2 : Nat → Heap → Prop} {a b : Value}
end
section
variable {prog : Program} {w : World} {A : Around} {E : Value → Shared → Prop} {s : Shared}
end
section
variable {X : Cx} {es : List Expr} {k : Nat} {tp : Pos}
end
end L2
set_option maxRecDepth 100000
namespace L2
open PySem PySem.Spec PyProof.Rows
section
variable {X : Cx} {elt : Expr} {ifs : List Expr} {u v : Str} {pu pv : Pos} {scope : Scope} {pos tp : Pos} {k : Nat} {cl : List (Str × Addr)} {own : List Str} {cp : List (Str × Nat)} {ta : TA} {tc : TT} {te : TE}
end
end L2
set_option maxRecDepth 100000
namespace L2
open PySem PySem.Spec PyProof.Rows Builtin Builtin.Str
section
variable {prog : Program} {w : World} {A : Around} {E : Value → Shared → Prop} {s : Shared} {I l : Addr}
end
section
variable {X : Cx} {K : PySem.W.Frag}
end
end L2
namespace LG
open LO
theorem has_iff {l t : List Nat} {i : Nat} : hasAt l t i = true ↔ ∃ u, l.drop i = t ++ u := by
  unfold hasAt
  rw [List.isPrefixOf_iff_prefix]
  exact ⟨fun ⟨u, h⟩ => ⟨u, h.symm⟩, fun ⟨u, h⟩ => ⟨u, h.symm⟩⟩
theorem many_pos {l t : List Nat} : many l t ≠ 0 ↔ ∃ a b, l = a ++ t ++ b := by
  unfold many
  constructor
  · intro h
    obtain ⟨i, hi, h1⟩ := List.countP_pos_iff.mp (Nat.pos_of_ne_zero h)
    obtain ⟨u, hu⟩ := has_iff.mp h1
    exact ⟨l.take i, u, by rw [List.append_assoc, ← hu, List.take_append_drop]⟩
  · rintro ⟨a, b, rfl⟩
    refine Nat.pos_iff_ne_zero.mp (List.countP_pos_iff.mpr ⟨a.length, List.mem_range.mpr (by simp; omega), has_iff.mpr ⟨b, ?_⟩⟩)
    rw [List.append_assoc, List.drop_left]
theorem many_in {l x y z : List Nat} (h : many l (x ++ y ++ z) ≠ 0) : many l y ≠ 0 := by
  obtain ⟨a, b, e⟩ := many_pos.mp h
  exact many_pos.mpr ⟨a ++ x, z ++ b, by rw [e]; simp⟩
theorem many_end {l x y : List Nat} (h : many l (x ++ y) ≠ 0) : many l y ≠ 0 := many_in (z := []) (by simpa using h)
theorem many_nil (l : List Nat) : many l [] ≠ 0 := many_pos.mpr ⟨[], l, rfl⟩
noncomputable def suf (u : List Nat) (k : Nat) : List Nat := u.drop (u.length - k)
theorem suf_app {u : List Nat} {j k : Nat} (h : j ≤ k) : ∃ x, suf u k = x ++ suf u j := by
  unfold suf
  refine ⟨(u.drop (u.length - k)).take (k - j - (k - u.length)), ?_⟩
  conv => lhs; rw [← List.take_append_drop (k - j - (k - u.length)) (u.drop (u.length - k)), List.drop_drop]
  by_cases hk : k ≤ u.length
  · rw [show u.length - k + (k - j - (k - u.length)) = u.length - j by omega]
  · rw [show u.length - k + (k - j - (k - u.length)) = u.length - j by omega]
noncomputable def lg (l u : List Nat) : Nat := ((List.range u.length).takeWhile fun k => decide (many l (suf u (k + 1)) ≠ 0)).length
theorem tw_len {n m : Nat} {p : Nat → Bool} (hm : m ≤ n) (h1 : ∀ k, k < m → p k = true) (h2 : m = n ∨ p m = false) : ((List.range n).takeWhile p).length = m := by
  have e : List.range n = List.range m ++ (List.range (n - m)).map (m + ·) := by
    conv => lhs; rw [show n = m + (n - m) by omega, List.range_add]
  rw [e, List.takeWhile_append_of_pos fun a ha => h1 a (List.mem_range.mp ha), List.length_append, List.length_range]
  have z : ((List.range (n - m)).map (m + ·)).takeWhile p = [] := by
    cases hk : n - m with
    | zero => rfl
    | succ k =>
      rw [List.range_succ_eq_map, List.map_cons, List.takeWhile_cons, if_neg]
      rcases h2 with h2 | h2
      · omega
      · rw [Nat.add_zero, h2]
        exact Bool.false_ne_true
  rw [z]
  rfl
theorem lg_is {l u : List Nat} {n : Nat} (hn : n ≤ u.length) (h1 : many l (suf u n) ≠ 0) (h2 : n = u.length ∨ many l (suf u (n + 1)) = 0) : lg l u = n := by
  refine tw_len hn (fun k hk => decide_eq_true ?_) (h2.imp id fun z => decide_eq_false fun y => y z)
  obtain ⟨x, e⟩ := suf_app (u := u) (j := k + 1) (k := n) hk
  rw [e] at h1
  exact many_end h1
theorem lg_ex (l u : List Nat) : ∃ n, n ≤ u.length ∧ many l (suf u n) ≠ 0 ∧ (n = u.length ∨ many l (suf u (n + 1)) = 0) := by
  have key : ∀ k n, u.length - n = k → n ≤ u.length → many l (suf u n) ≠ 0 → ∃ n, n ≤ u.length ∧ many l (suf u n) ≠ 0 ∧ (n = u.length ∨ many l (suf u (n + 1)) = 0) := by
    intro k
    induction k with
    | zero => intro n h0 h1 h2; exact ⟨n, h1, h2, .inl (by omega)⟩
    | succ k ih =>
      intro n h0 h1 h2
      by_cases h3 : many l (suf u (n + 1)) = 0
      · exact ⟨n, h1, h2, .inr h3⟩
      · exact ih (n + 1) (by omega) (by omega) h3
  refine key u.length 0 (by omega) (Nat.zero_le _) ?_
  unfold suf
  rw [Nat.sub_zero, List.drop_length]
  exact many_nil l
theorem lg_st (l u : List Nat) : many l (suf u (lg l u)) ≠ 0 := by
  obtain ⟨n, h1, h2, h3⟩ := lg_ex l u
  rw [lg_is h1 h2 h3]
  exact h2
theorem take_suf {u : List Nat} {k : Nat} : u.take (u.length - k) ++ suf u k = u := List.take_append_drop ..
structure Row (l u : List Nat) (ps : List (List Nat)) : Prop where
  flat : ps.flatten = u
  each : ∀ a x b, ps = a ++ x :: b → x ≠ [] ∧ (many l x = 0 → x.length = 1) ∧ (many l x ≠ 0 → a.flatten ≠ [] → many l (suf (a.flatten ++ x) (x.length + 1)) = 0)
end LG
namespace LG
open LO
end LG
namespace LG
open LO
structure Best (z y c : List Nat) : Prop where
  one : many z c ≠ 0
  two : many y c ≠ 0
  most : ∀ w, many z w ≠ 0 → many y w ≠ 0 → w.length < c.length ∨ w.length = c.length ∧ ¬ w < c
theorem Best.symm {z y c : List Nat} (h : Best z y c) : Best y z c := ⟨h.two, h.one, fun w h1 h2 => h.most w h2 h1⟩
noncomputable def cand (z y : List Nat) (i : Nat) : List Nat := suf (y.take i) (lg z (y.take i))
theorem cand_one (z y : List Nat) (i : Nat) : many z (cand z y i) ≠ 0 := lg_st _ _
theorem many_suf {y u : List Nat} {k : Nat} (h : many y u ≠ 0) : many y (suf u k) ≠ 0 := by
  have : u = u.take (u.length - k) ++ suf u k := take_suf.symm
  rw [this] at h
  exact many_end h
theorem many_take (y : List Nat) (i : Nat) : many y (y.take i) ≠ 0 := many_pos.mpr ⟨[], y.drop i, by simp⟩
theorem cand_two (z y : List Nat) (i : Nat) : many y (cand z y i) ≠ 0 := many_suf (many_take y i)
structure Upto (z y : List Nat) (i : Nat) (c : List Nat) : Prop where
  one : many z c ≠ 0
  two : many y c ≠ 0
  most : ∀ j, j < i → (cand z y j).length < c.length ∨ (cand z y j).length = c.length ∧ ¬ cand z y j < c
theorem Upto.keep {z y c : List Nat} {i : Nat} (h : Upto z y i c) (hk : ¬ (c.length < (cand z y i).length ∨ (cand z y i).length = c.length ∧ cand z y i < c)) : Upto z y (i + 1) c :=
  ⟨h.one, h.two, fun j hj => by
    rcases Nat.lt_or_ge j i with h1 | h1
    · exact h.most j h1
    · have : j = i := by omega
      subst this
      rcases Nat.lt_or_ge (cand z y j).length c.length with h2 | h2
      · exact .inl h2
      · refine .inr ⟨?_, fun w => hk (.inr ⟨?_, w⟩)⟩
        · rcases Nat.lt_or_ge c.length (cand z y j).length with h3 | h3
          · exact absurd (.inl h3) hk
          · omega
        · rcases Nat.lt_or_ge c.length (cand z y j).length with h3 | h3
          · exact absurd (.inl h3) hk
          · omega⟩
theorem Upto.take {z y c : List Nat} {i : Nat} (h : Upto z y i c) (hk : c.length < (cand z y i).length ∨ (cand z y i).length = c.length ∧ cand z y i < c) : Upto z y (i + 1) (cand z y i) :=
  ⟨cand_one z y i, cand_two z y i, fun j hj => by
    rcases Nat.lt_or_ge j i with h1 | h1
    · rcases h.most j h1 with h2 | ⟨h2, h3⟩
      · rcases hk with hk | ⟨hk, _⟩
        · exact .inl (by omega)
        · exact .inl (by omega)
      · rcases hk with hk | ⟨hk, hk2⟩
        · exact .inl (by omega)
        · exact .inr ⟨by omega, fun w => h3 (List.lt_trans w hk2)⟩
    · have : j = i := by omega
      subst this
      exact .inr ⟨rfl, List.lt_irrefl _⟩⟩
end LG
namespace LG
open LO L2
end LG
namespace LG
theorem len_flat : ∀ {ps : List (List Nat)}, (∀ x ∈ ps, x ≠ []) → ps.length ≤ ps.flatten.length
  | [], _ => Nat.le_refl _
  | x :: r, h => by
    have h1 := len_flat (ps := r) fun y hy => h y (List.mem_cons_of_mem _ hy)
    have h2 := List.length_pos_iff.mpr (h x (List.mem_cons_self ..))
    rw [List.flatten_cons, List.length_append, List.length_cons]
    omega
theorem Row.len {l u : List Nat} {ps : List (List Nat)} (h : Row l u ps) : ps.length ≤ u.length := by
  rw [← h.flat]
  refine len_flat fun x hx => ?_
  obtain ⟨a, b, e⟩ := List.append_of_mem hx
  exact (h.each a x b e).1
end LG
namespace L2
open PySem
end L2
set_option maxRecDepth 100000
namespace L2
open PySem PySem.Spec PyProof.Rows
section
variable {X : Cx}
end
section
variable {X : Cx}
variable {elt iter : Expr} {ifs : List Expr} {u v : Str} {pu pv : Pos} {scope : Scope} {pos : Pos} {cl : List (Str × Addr)} {own : List Str} {cp : List (Str × Nat)} {ta : TA} {tl : TE} {tc : TT} {te : TE}
end
end L2
set_option maxRecDepth 100000
namespace LP
open PySem L2
noncomputable def wr (rs : List (Nat × Nat)) : List Nat := (rs.map fun r => r.1 :: (numL (r.2 : Nat) ++ [59])).flatten
end LP
set_option maxRecDepth 100000
namespace L2
open PySem PySem.Spec PyProof.Rows
section
variable {X : Cx}
end
end L2
namespace LP
open PySem L2 NumText
noncomputable def RAt (H : Hp) (a : Addr) : Prop := ∃ ts : List Addr, H a = some (.lst (ts.map V.ref)) ∧ ts.length ≤ 25 ∧ ∀ t ∈ ts, ∃ c n : Nat, H t = some (.tup [.str (T [c]), .int (n : Int)]) ∧ 1 ≤ n ∧ n ≤ 300
theorem RAt.same {H H' : Hp} {a : Addr} (h : RAt H a) (sm : Same H H') : RAt H' a := by
  obtain ⟨ts, h1, h2, h3⟩ := h
  refine ⟨ts, sm _ _ h1, h2, fun t ht => ?_⟩
  obtain ⟨c, n, e, r⟩ := h3 t ht
  exact ⟨c, n, sm _ _ e, r⟩
noncomputable def TAt (m : Nat) (H : Hp) (a : Addr) : Prop := ∃ ts : List Addr, H a = some (.lst (ts.map V.ref)) ∧ ts.length ≤ m ∧ ∀ t ∈ ts, ∃ x y : List Nat, H t = some (.tup [.str (T x), .str (T y)]) ∧ x.length ≤ 1 ∧ y.length ≤ 2500
theorem TAt.same {m : Nat} {H H' : Hp} {a : Addr} (h : TAt m H a) (sm : Same H H') : TAt m H' a := by
  obtain ⟨ts, h1, h2, h3⟩ := h
  refine ⟨ts, sm _ _ h1, h2, fun t ht => ?_⟩
  obtain ⟨x, y, e, r⟩ := h3 t ht
  exact ⟨x, y, sm _ _ e, r⟩
noncomputable def Tu (H : Hp) (us : List Addr) : Prop := ∀ t ∈ us, ∃ x y : List Nat, H t = some (.tup [.str (T x), .str (T y)]) ∧ x.length ≤ 1 ∧ y.length ≤ 2000
theorem Tu.same {H H' : Hp} {us : List Addr} (h : Tu H us) (sm : Same H H') : Tu H' us := fun t ht => by
  obtain ⟨x, y, e, r⟩ := h t ht
  exact ⟨x, y, sm _ _ e, r⟩
end LP
set_option maxRecDepth 100000
namespace L2
open PySem PySem.Spec PyProof.Rows
section
variable {X : Cx} {pins : List (Addr × Obj)} {σ : St} {H : Hp} {s : Shared}
end
end L2
set_option maxRecDepth 100000
namespace L2
open PySem PySem.Spec PyProof.Rows
section
variable {X : Cx} {pins : List (Addr × Obj)} {σ : St} {H : Hp} {s : Shared} {d : Addr} {kvs : List (Key × V)} {ob : Obj}
end
end L2
set_option maxRecDepth 100000
set_option maxHeartbeats 1000000
namespace L2
open PySem PySem.Spec PyProof.Rows
theorem keys_miss_list : typeLookup (.type "list") "keys" = pure none := am_miss_of_fast (by decide +kernel)
theorem getAttrQ_miss_list {prog : Program} {w : World} {A : Around} {E : Value → Shared → Prop} {s : Shared} {a : Addr} {o : Obj} {xs : Array Value} {k : Nat} {name : Str} {Q : Option Value → Shared → Prop}
    (hx : s.heap.get? a = some o) (hc : o.cls = .type "list") (hdat : o.data = .seq xs k) (hd : o.dict = none) (hmiss : typeLookup (.type "list") name = pure none) (hname : (["__module__", "__name__", "__qualname__", "__doc__", "__annotations__"] : List Str).contains name = false) (hA : A.handled = none)
    (h : ∀ h' tk, (∀ b ob, s.heap.get? b = some ob → h'.get? b = some ob) → Q none { s with heap := h', toks := tk }) (hsz : name.length + 100 ≤ sizeLine := by size_fits) :
    wpAny (model prog w) A (getAttr? (.ref a) name) Q E s := by
  obtain ⟨c, dct, dat, sl⟩ := o
  simp only at hc hdat hd
  subst hc hdat hd
  obtain ⟨hp, g, d, tk, os⟩ := s
  have hT : ∀ tk', (⟨hp, g, d, tk', os⟩ : Shared).TypeIs (.ref a) "list" := fun _ => ⟨_, hx, rfl⟩
  have f1 := sub_AttributeError
  have f3 := F.slot_list_getattribute.lookup
  have f4 := F.slot_list_getattribute.bind (.ref a)
  have f5 := am_list_getattr_none
  unfold getAttr? getAttrBy? getAttrBy
  repeat (any_goals (first | assumption | exact hT _ | ((with_reducible show wpAny _ _ (call (Value.builtin "list.__getattribute__") _ _) _ _ _); refine call_meets F.slot_list_getattribute (hT _) am_entry_list_getattribute (F.args_list_getattribute_2 _ _) (meets_getattribute_miss_list a xs k sl name _ hmiss hname hsz) ⟨hx, hA, fun h' tk' e hx' => ?_⟩) | wp_step))
  obtain ⟨t', u', he⟩ := hx'.there
  show wpAny _ _ (getattributeRaised _ _ _ _ _ _ _) _ _ _
  unfold getattributeRaised
  repeat (any_goals (first | assumption | wp_step))
  exact h _ _ hx'.keeps
end L2
set_option maxRecDepth 100000
set_option maxHeartbeats 1000000
namespace L2
open PySem PySem.Spec PyProof.Rows
theorem entry_dict_update_loop : entryFor table "dict.update.loop" = some Builtin.«dict.update.loop» := entryFor_of_tree (by kernel_rfl)
theorem plain_dict_update_loop : plainId "dict.update.loop" = true := by decide +kernel
noncomputable def fillU (vs : List (Key × Value)) (ps : List (Key × Value)) : List (Key × Value) := ps.foldl (fun acc p => stored acc p.1 p.2) vs
section
variable {prog : Program} {w : World} {A : Around} {R : Result → Shared → Prop} {I o D : Addr} {its : List Value} {ps : List (Key × Value)}
theorem len_stored (vs : List (Key × Value)) (k : Key) (u : Value) : (stored vs k u).length ≤ vs.length + 1 := by
  unfold stored
  split
  · rw [List.length_map]; omega
  · rw [List.length_append, List.length_singleton]; omega
theorem loop_pairs (hh : A.handled = none) (hDI : D ≠ I) (hDo : D ≠ o) (hIo : I ≠ o) (hl : its.length = ps.length) (hz : ps.length ≤ sizeLine) :
    ∀ (n i : Nat) (s : Shared) (vs : List (Key × Value)), its.length - i = n → i ≤ its.length → vs.length ≤ i → s.heap.IsListIter I o i → s.heap.IsList o its.toArray →
      (∀ (j : Nat) (v : Value) (p : Key × Value), its[j]? = some v → ps[j]? = some p → ∃ (t : Addr) (u : Value), v = .ref t ∧ t ≠ D ∧ t ≠ I ∧ s.heap.IsTuple t #[u, p.2] ∧ keyIs p.1 u = true) → s.heap.DictOf (mixKind prog w) D vs →
      (∀ h' tk, (∀ b ob, b ≠ D → b ≠ I → s.heap.get? b = some ob → h'.get? b = some ob) → h'.DictOf (mixKind prog w) D (fillU vs (ps.drop i)) → R (.ok (.ret .none)) { s with heap := h', toks := tk }) →
      codeAny (model prog w) A (.builtin "dict.update.loop" ⟨[.ref D, .ref I, rawInt (i : Int), .none], []⟩) R s := by
  intro n
  induction n with
  | zero =>
    intro i s vs hk hi hv st hL pt dd fin
    refine codeAny_builtin entry_dict_update_loop ?_
    rw [Around.under_plainId plain_dict_update_loop _]
    show wpAny _ A.in1 (pyNext (.ref I) >>= _) _ _ s
    refine wpAny_bind (wpAny_pyNext_list_end hh st hL (by simp; omega) fun h' eb => ?_)
    refine wpAny_bind (wpAny_pure ?_)
    refine wpAny_pure (fin h' s.toks (fun b ob _ nI e => eb b ob nI e) ?_)
    rw [List.drop_of_length_le (by omega)]
    exact dd.extBut eb hDI
  | succ n ih =>
    intro i s vs hk hi hv st hL pt dd fin
    have lt : i < its.length := by omega
    refine codeAny_builtin entry_dict_update_loop ?_
    rw [Around.under_plainId plain_dict_update_loop _]
    show wpAny _ A.in1 (pyNext (.ref I) >>= _) _ _ s
    have ev : its[i]? = some its[i] := List.getElem?_eq_getElem lt
    have ep : ps[i]? = some (ps[i]'(by omega)) := List.getElem?_eq_getElem _
    obtain ⟨t, u, e0, nD, nI, tp, ku⟩ := pt i _ _ ev ep
    generalize ps[i]'(by omega) = p at ep tp ku
    refine wpAny_bind (wpAny_pyNext_list_item st hL (x := its[i]) (by simp [lt]) fun h' st' sb => ?_)
    rw [e0]
    have tp' : h'.IsTuple t #[u, p.2] := by
      obtain ⟨ob, h1, h2⟩ := tp
      exact ⟨ob, (sb.2 t nI).trans h1, h2⟩
    show wpAny _ A.in1 (holding [Value.ref t] _ >>= _) _ _ _
    refine wpAny_bind (wpAny_holding ?_)
    refine wpAny_bind ?_
    have hp : ∀ (Q : List Value → Shared → Prop) (E : Value → Shared → Prop), Q [u, p.2] { s with heap := h' } → wpAny (model prog w) A.in1 (Builtin.Dict.pairItems (Value.ref t)) Q E { s with heap := h' } := fun Q E q => by
      obtain ⟨⟨cls, dct, dat, sl⟩, h1, h2, m, h3⟩ := tp'
      simp only at h2 h3
      subst h2 h3
      have hT : ({ s with heap := h' } : Shared).TypeIs (.ref t) "tuple" := ⟨_, h1, rfl⟩
      unfold Builtin.Dict.pairItems
      refine wpAny_bind (wpAny_typeOf hT ?_)
      rw [if_pos (by decide)]
      exact wpAny_bind (wpAny_seqItems h1 rfl (wpAny_pure q))
    refine wpAny_tryCatch (hp _ _ ?_)
    show wpAny _ _ (holding [u, p.2] (dictSet D u p.2)) _ _ _
    have dd' : h'.DictOf (mixKind prog w) D vs := dd.extBut sb.extBut hDI
    refine wpAny_holding (wpAny_dictSet_pairs (s := { s with heap := h' }) (knd := mixKind prog w) ku dd' (fun h2 dd2 sb2 => ?_) (by omega))
    have keep2 : ∀ b ob, b ≠ D → b ≠ I → s.heap.get? b = some ob → h2.get? b = some ob := fun b ob n1 n2 e => (sb2.2 b n1).trans ((sb.2 b n2).trans e)
    have st2 : h2.IsListIter I o (i + 1) := st'.at fun ob e => (sb2.2 I (Ne.symm hDI)).trans e
    have L2' : h2.IsList o its.toArray := by
      obtain ⟨ob, e1, e2⟩ := hL
      exact ⟨ob, keep2 _ _ (Ne.symm hDo) (Ne.symm hIo) e1, e2⟩
    refine wpAny_pure ⟨plainId_quiet plain_dict_update_loop _, ?_⟩
    have e1 : rawInt ((i : Int) + 1) = rawInt ((i + 1 : Nat) : Int) := by rw [Int.natCast_add]; rfl
    rw [e1]
    refine ih (i + 1) { s with heap := h2, toks := s.toks + 1 } _ (by omega) (by omega) (by have := len_stored vs p.1 p.2; omega) st2 L2' (fun j v p' e3 e4 => ?_) dd2 fun h3 tk keep3 dd3 => ?_
    · obtain ⟨t', u', g1, g2, g3, ⟨ob, g4, g5⟩, g6⟩ := pt j v p' e3 e4
      exact ⟨t', u', g1, g2, g3, ⟨ob, keep2 _ _ g2 g3 g4, g5⟩, g6⟩
    · refine fin h3 tk (fun b ob n1 n2 e => keep3 b ob n1 n2 (keep2 b ob n1 n2 e)) ?_
      have ed : ps.drop i = p :: ps.drop (i + 1) := by
        have lp : i < ps.length := by omega
        rw [List.drop_eq_getElem_cons lp]
        rw [List.getElem?_eq_getElem lp] at ep
        rw [Option.some.inj ep]
      rw [ed]
      exact dd3
theorem call_pairs {E : Value → Shared → Prop} {s : Shared} {Q : Value → Shared → Prop} {k : Nat} (hh : A.handled = none) (hL : s.heap.get? o = some { cls := .type "list", data := .seq its.toArray k }) (hl : its.length = ps.length) (hz : ps.length ≤ sizeLine)
    (pt : ∀ (j : Nat) (v : Value) (p : Key × Value), its[j]? = some v → ps[j]? = some p → ∃ (t : Addr) (u : Value), v = .ref t ∧ s.heap.IsTuple t #[u, p.2] ∧ keyIs p.1 u = true)
    (fin : ∀ h' tk, (∀ b ob, s.heap.get? b = some ob → h'.get? b = some ob) → h'.DictOf (mixKind prog w) s.heap.objs.size (fillU [] ps) → Q (.ref s.heap.objs.size) { s with heap := h', toks := tk }) :
    wpAny (model prog w) A (call (.type "dict") [.ref o]) Q E s := by
  refine callType_codes (Q₁ := fun obj s₁ => obj = .ref s.heap.objs.size ∧ s₁ = { s with heap := s.heap.push { cls := .type "dict", data := .dict #[] } }) F.kt_called_dict (F.kt_typeCall_dict_1 _) F.entry_dict_init (kt_code_dict_new _ ⟨rfl, rfl⟩) ?_
  rintro obj s₁ ⟨rfl, rfl⟩
  have hnew : (s.heap.push { cls := .type "dict", data := .dict #[] }).DictOf (mixKind prog w) s.heap.objs.size [] := Heap.DictOf.new s.heap
  have ho' : (s.heap.push { cls := .type "dict", data := .dict #[] }).get? o = some { cls := .type "list", data := .seq its.toArray k } := Heap.get?_push_of_some _ hL
  have lo := Heap.lt_size hL
  refine ⟨hnew.typeIs, F.args_dict_init_2 _ _, ?_⟩
  unfold Builtin.«dict.__init__»
  refine wpAny_bind ?_
  unfold Builtin.Dict.selfAndRest
  refine wpAny_bind (wpAny_notOrdered_dict hnew.typeIs ?_)
  show wpAny _ _ (pure (s.heap.objs.size, [Value.ref o])) _ _ _
  refine wpAny_pure ?_
  show wpAny _ _ (Builtin.Dict.updateFrom "dict.__init__" s.heap.objs.size (.ref o) [] .none) _ _ _
  unfold Builtin.Dict.updateFrom
  refine wpAny_bind (wpAny_typeOf (show ({ s with heap := s.heap.push { cls := .type "dict", data := .dict #[] } } : Shared).TypeIs (.ref o) "list" from ⟨_, ho', rfl⟩) ?_)
  rw [if_pos (by decide)]
  refine wpAny_bind (getAttrQ_miss_list (s := { s with heap := s.heap.push { cls := .type "dict", data := .dict #[] } }) ho' rfl rfl rfl keys_miss_list (by decide +kernel) hh fun h1 tk1 keep1 => ?_)
  rw [show (none : Option Value).isNone = true from rfl, if_pos rfl]
  refine wpAny_bind (wpAny_rule ?_)
  have hL1 : h1.get? o = some { cls := .type "list", data := .seq its.toArray k } := keep1 _ _ ho'
  have keep0 : ∀ b ob, s.heap.get? b = some ob → h1.get? b = some ob := fun b ob e => keep1 b ob (Heap.get?_push_of_some _ e)
  have dd1 : h1.DictOf (mixKind prog w) s.heap.objs.size [] := by
    obtain ⟨ob, es, ep, e, r⟩ := hnew
    exact ⟨ob, es, ep, keep1 _ _ e, r⟩
  have lD : s.heap.objs.size < h1.objs.size := by
    obtain ⟨ob, es, ep, e, r⟩ := dd1
    exact Heap.lt_size e
  refine wpAny_bind (wpAny_pyIter_list (s := { s with heap := h1, toks := tk1 }) (l := o) (items := its.toArray) ⟨_, hL1, rfl, k, rfl⟩ ?_)
  refine wpAny_pure ⟨plainId_quiet plain_dict_update_loop _, ?_⟩
  have ne : ∀ {b : Addr} {ob : Obj}, s.heap.get? b = some ob → b ≠ s.heap.objs.size ∧ b ≠ h1.objs.size := fun e => ⟨Nat.ne_of_lt (Heap.lt_size e), Nat.ne_of_lt (Nat.lt_trans (Heap.lt_size e) lD)⟩
  refine loop_pairs (A := A.in1) (I := h1.objs.size) (o := o) (D := s.heap.objs.size) (its := its) (ps := ps) hh (Nat.ne_of_lt lD) (Nat.ne_of_gt lo) (Nat.ne_of_gt (Heap.lt_size hL1)) hl hz its.length 0 _ [] rfl (Nat.zero_le _) (Nat.le_refl _) ⟨_, Heap.get?_push_size _ rfl, rfl, rfl⟩ ⟨_, Heap.get?_push_of_some _ hL1, rfl, k, rfl⟩ (fun j v p e3 e4 => ?_) (dd1.push _) fun h3 tk keep3 dd3 => ?_
  · obtain ⟨t, u, g1, ⟨ob, g4, g5⟩, g6⟩ := pt j v p e3 e4
    exact ⟨t, u, g1, (ne g4).1, (ne g4).2, ⟨ob, Heap.get?_push_of_some _ (keep0 _ _ g4), g5⟩, g6⟩
  · exact ⟨rfl, fin h3 tk (fun b ob e => keep3 b ob (ne e).1 (ne e).2 (Heap.get?_push_of_some _ (keep0 _ _ e))) dd3⟩
end
noncomputable def fillV (ps : List (Key × V)) (acc : List (Key × V)) : List (Key × V) := ps.foldl (fun acc p => putK acc p.1 p.2) acc
theorem KV.fill : ∀ {ps : List (Key × V)} {us : List (Key × Value)} {acc : List (Key × V)} {bcc : List (Key × Value)}, KV ps us → KV acc bcc → KV (fillV ps acc) (fillU bcc us)
  | _, _, _, _, .nil, h => h
  | p :: ps, q :: us, _, _, .cons e t, h => by
    obtain ⟨e1, e2⟩ := e
    show KV (fillV ps (putK _ p.1 p.2)) (fillU (stored _ q.1 q.2) us)
    refine KV.fill t ?_
    rw [← e1]
    exact KV.put h _ e2
theorem len_fill : ∀ (ps : List (Key × V)) (acc : List (Key × V)), (fillV ps acc).length ≤ acc.length + ps.length
  | [], acc => Nat.le_refl _
  | p :: ps, acc => by
    have h1 := len_fill ps (putK acc p.1 p.2)
    have h2 := length_putK acc p.1 p.2
    rw [List.length_cons]
    show (fillV ps (putK acc p.1 p.2)).length ≤ _
    omega
section
variable {X : Cx}
theorem pairs_at {pins : List (Addr × Obj)} {σ : St} {H : Hp} {s : Shared} (I : Inv X pins σ H s) : ∀ (ts : List Addr) (kvs : List (Key × V)), ts.length = kvs.length → (∀ (j : Nat) t p, ts[j]? = some t → kvs[j]? = some p → H t = some (.tup [kV p.1, p.2])) →
    ∃ ps : List (Key × Value), KV kvs ps ∧ ∀ (j : Nat) t (p : Key × Value), ts[j]? = some t → ps[j]? = some p → ∃ u, s.heap.IsTuple t #[u, p.2] ∧ keyIs p.1 u = true
  | [], [], _, _ => ⟨[], .nil, fun j t p e => by simp at e⟩
  | t :: ts, q :: kvs, hl, h => by
    obtain ⟨ps, r, g⟩ := pairs_at I ts kvs (Nat.succ.inj hl) fun j t p e1 e2 => h (j + 1) t p e1 e2
    obtain ⟨its, r1, p1, z1⟩ := I.tuple (SqT.of (h 0 t q rfl rfl))
    obtain ⟨u, x, rfl, ru, rx⟩ : ∃ u x, its = [u, x] ∧ RelV (kV q.1) u ∧ RelV q.2 x := by
      cases r1 with
      | cons e r => cases r with
        | cons e' r => cases r; exact ⟨_, _, rfl, e, e'⟩
    refine ⟨(q.1, x) :: ps, .cons ⟨rfl, rx⟩ r, fun j t' p' e1 e2 => ?_⟩
    rcases j with _ | j
    · cases Option.some.inj e1
      cases Option.some.inj e2
      exact ⟨u, p1, kV_is (P := X.prog) (w := X.w) ru⟩
    · exact g j t' p' e1 e2
  | [], _ :: _, hl, _ => by simp at hl
  | _ :: _, [], hl, _ => by simp at hl
noncomputable def dictP : List V → Hp → VK → Prop := fun xs H Q => match xs with
  | [.ref a] => ∃ (ts : List Addr) (kvs : List (Key × V)), H a = some (.lst (ts.map V.ref)) ∧ ts.length = kvs.length ∧ (∀ (j : Nat) t p, ts[j]? = some t → kvs[j]? = some p → H t = some (.tup [kV p.1, p.2])) ∧ ∀ d, H d = none → Q (.ref d) (upd H d (.dK (fillV kvs [])))
  | _ => False
theorem c_dictP (hc : X.calm = true) : CallR X (.type "dict") dictP := by
  intro pins s σ H xs us Q I r h
  unfold dictP at h
  split at h
  · rename_i a
    obtain ⟨ts, kvs, ha, hl, pt, q⟩ := h
    obtain ⟨u, rfl, ru⟩ := vals1 r
    cases ru
    obtain ⟨hz, its, k, rv, hL⟩ := (show ObjOk X.prog X.w H s.heap a (.lst (ts.map V.ref)) from I.hok a _ ha)
    have ei := vals_refs rv
    subst ei
    rw [List.length_map] at hz
    obtain ⟨ps, kv, g⟩ := pairs_at I ts kvs hl pt
    have lk := kv.length
    refine call_pairs (its := ts.map Value.ref) (ps := ps) (I.ok.hd hc) hL (by rw [List.length_map]; omega) (by omega) (fun j v p e1 e2 => ?_) fun h' tk keep dd => ?_
    · rw [List.getElem?_map] at e1
      obtain ⟨t, et, rfl⟩ := Option.map_eq_some_iff.mp e1
      obtain ⟨u, g1, g2⟩ := g j t p et e2
      exact ⟨t, u, rfl, g1, g2⟩
    · have lf := len_fill kvs []
      rw [List.length_nil] at lf
      have big := I.big
      exact ⟨.ref s.heap.objs.size, _, I.laid (a := s.heap.objs.size) (o := .dK (fillV kvs [])) (t' := tk) keep (Nat.le_refl _) ⟨by omega, beq_false_of_ne (Nat.ne_of_gt big), _, KV.fill kv .nil, dd⟩, rfl, q _ (I.hok.fresh (Nat.le_refl _))⟩
  · exact h.elim
end
end L2
set_option maxRecDepth 100000
set_option maxHeartbeats 1000000
namespace L2
open PySem PySem.Spec PyProof.Rows
noncomputable def Itc (lo c : Int) (n : Nat) : It := ⟨fun i _ => i < n, fun i H x H' => H' = H ∧ x = .int (lo + i * c), fun i _ => n ≤ i⟩
theorem turn_step {P : Program} {w : World} {K : PySem.W.Frag} {tg : Expr} (it : Addr) (lo c : Int) (n : Nat) : Turn P w K tg (Itc lo c n) [it] it (fun i h => IsRangeIter h it (lo + (i : Nat) * c) ((n : Int) - (i : Nat)) c) where
  mem := by simp
  obj := fun i h st b hb => by
    have e : b = it := by simpa using hb
    subst e
    exact ⟨_, st, fun v z => by
      have z' : Data.fields _ = Data.cell v := z
      cases z'⟩
  keep := fun i h h' st k => k it (by simp) _ st
  item := by
    intro X hP hw hK hc i pins s σ H E I hf st hg
    subst hP hw hK
    obtain ⟨f0, f1, f2, f3, f4, f5⟩ := hf it (by simp)
    have W := Walks.range (prog := X.prog) (w := X.w) (I.ok.hd hc) it lo c n
    refine W.item i s _ _ hg st fun v h' tk hv st' kk => ?_
    obtain ⟨t, rfl⟩ := hv
    have I1 : Inv X pins σ H { s with heap := h', toks := tk } := I.turned (fun b o hb e => kk b o (by simpa using hb) e) f0 f1 f3 f4 f5
    exact ⟨_, rfl, go_of (s := { s with heap := h', toks := tk }) (n := "range_iterator") st' rfl rfl (by decide) ⟨.int (lo + i * c), H, I1, ⟨t, rfl⟩, ⟨rfl, rfl⟩, st', fun b hb => (hf b hb).1⟩⟩
  done := by
    intro X hP hw hK hc i pins s σ H E I hf st hg
    subst hP hw hK
    obtain ⟨f0, f1, f2, f3, f4, f5⟩ := hf it (by simp)
    exact wpAny_pyNext_range_end (I.ok.hd hc) st (by have : n ≤ i := hg; omega) fun h' eb => ⟨rfl, I.turned (t' := s.toks) (fun b o hb e => eb b o hb e) f0 f1 f3 f4 f5⟩
  self := fun _ _ _ _ _ st h => wpAny_pyIter_rangeiter st h
theorem turn_long {P : Program} {w : World} {K : PySem.W.Frag} {tg : Expr} (it : Addr) (lo c : Int) (n : Nat) : Turn P w K tg (Itc lo c n) [it] it (fun i h => IsLongIter h it (lo + (i : Nat) * c) ((n : Int) - (i : Nat)) c) where
  mem := by simp
  obj := fun i h st b hb => by
    have e : b = it := by simpa using hb
    subst e
    exact ⟨_, st, fun v z => by
      have z' : Data.fields _ = Data.cell v := z
      cases z'⟩
  keep := fun i h h' st k => k it (by simp) _ st
  item := by
    intro X hP hw hK hc i pins s σ H E I hf st hg
    subst hP hw hK
    obtain ⟨f0, f1, f2, f3, f4, f5⟩ := hf it (by simp)
    have W := Walks.longrange (prog := X.prog) (w := X.w) (I.ok.hd hc) it lo c n
    refine W.item i s _ _ hg st fun v h' tk hv st' kk => ?_
    obtain ⟨t, rfl⟩ := hv
    have I1 : Inv X pins σ H { s with heap := h', toks := tk } := I.turned (fun b o hb e => kk b o (by simpa using hb) e) f0 f1 f3 f4 f5
    exact ⟨_, rfl, go_of (s := { s with heap := h', toks := tk }) (n := "longrange_iterator") st' rfl rfl (by decide) ⟨.int (lo + i * c), H, I1, ⟨t, rfl⟩, ⟨rfl, rfl⟩, st', fun b hb => (hf b hb).1⟩⟩
  done := by
    intro X hP hw hK hc i pins s σ H E I hf st hg
    subst hP hw hK
    obtain ⟨f0, f1, f2, f3, f4, f5⟩ := hf it (by simp)
    exact wpAny_pyNext_long_end (I.ok.hd hc) st (by have : n ≤ i := hg; omega) fun h' eb => ⟨rfl, I.turned (t' := s.toks) (fun b o hb e => eb b o hb e) f0 f1 f3 f4 f5⟩
  self := fun _ _ _ _ _ st h => wpAny_pyIter_longiter st h
theorem noPylong_x {x y : Int} (h : x.natAbs < 1073741824) : Builtin.divisionGoesByPylong x y = false := by
  unfold Builtin.divisionGoesByPylong
  have e : (if (x == 0) = true then 0 else x.natAbs.log2 / 30 + 1) ≤ 1 := by
    split
    · omega
    · rename_i hx
      have hx : x.natAbs ≠ 0 := by simpa using hx
      have : x.natAbs.log2 < 30 := (Nat.log2_lt hx).mpr h
      omega
  simp only [Bool.and_eq_false_iff, decide_eq_false_iff_not]
  right
  omega
theorem size_step {lo hi c : Int} (hc : 0 < c) (hl : lo < hi) : Builtin.Range.rangeSize lo hi c = (hi - lo - 1) / c + 1 := by
  unfold Builtin.Range.rangeSize
  rw [if_pos hc, if_pos hl]
section
variable {X : Cx} {tg : Expr}
theorem range_it3 {pins : List (Addr × Obj)} {σ : St} {H : Hp} {s : Shared} {R : It → Hp → Prop} {E : Value → Shared → Prop} {lo hi c : Int} {t u v : Tok} {tk : Nat} (I : Inv X pins σ H s) (n : Nat) (hn : Builtin.Range.rangeSize lo hi c = (n : Int))
    (q : R (Itc lo c n) H) : wpAny (model X.prog X.w) X.A (pyIter (.ref s.heap.objs.size)) (PIE X pins σ tg R) E { s with heap := s.heap.push { cls := .type "range", data := .fields #[.int lo t, .int hi u, .int c v] }, toks := tk } := by
  have I1 : Inv X pins σ H { s with heap := s.heap.push { cls := .type "range", data := .fields #[.int lo t, .int hi u, .int c v] }, toks := tk } := I.kept fun b o e => Heap.get?_push_of_some _ e
  have e1 : lo + ((0 : Nat) : Int) * c = lo := by simp
  have e2 : ((n : Nat) : Int) - ((0 : Nat) : Int) = Builtin.Range.rangeSize lo hi c := by rw [hn]; simp
  cases hsm : Builtin.Range.small lo hi c with
  | true =>
    refine wpAny_pyIter_range (IsRange.new ..) hsm ?_
    refine ⟨(s.heap.push { cls := .type "range", data := .fields #[.int lo t, .int hi u, .int c v] }).objs.size, [(s.heap.push { cls := .type "range", data := .fields #[.int lo t, .int hi u, .int c v] }).objs.size], _, _, H, rfl,
      I1.kept (t' := tk) fun b o e => Heap.get?_push_of_some _ e, turn_step _ lo c n, ?_, fun b hb => ?_, q⟩
    · show IsRangeIter _ _ (lo + ((0 : Nat) : Int) * c) (((n : Nat) : Int) - ((0 : Nat) : Int)) c
      rw [e1, e2]
      exact Heap.get?_push_size _ rfl
    · have e : b = (s.heap.push { cls := .type "range", data := .fields #[.int lo t, .int hi u, .int c v] }).objs.size := by simpa using hb
      subst e
      exact I1.fpOk (Nat.le_refl _) (I1.hok.fresh (Nat.le_refl _))
  | false =>
    refine wpAny_pyIter_longrange (IsRange.new ..) hsm ?_
    refine ⟨(s.heap.push { cls := .type "range", data := .fields #[.int lo t, .int hi u, .int c v] }).objs.size, [(s.heap.push { cls := .type "range", data := .fields #[.int lo t, .int hi u, .int c v] }).objs.size], _, _, H, rfl,
      I1.kept (t' := tk) fun b o e => Heap.get?_push_of_some _ e, turn_long _ lo c n, ?_, fun b hb => ?_, q⟩
    · show IsLongIter _ _ (lo + ((0 : Nat) : Int) * c) (((n : Nat) : Int) - ((0 : Nat) : Int)) c
      rw [e1, e2]
      exact Heap.get?_push_size _ rfl
    · have e : b = (s.heap.push { cls := .type "range", data := .fields #[.int lo t, .int hi u, .int c v] }).objs.size := by simpa using hb
      subst e
      exact I1.fpOk (Nat.le_refl _) (I1.hok.fresh (Nat.le_refl _))
noncomputable def iRng3 (ta : TA) : TI := fun σ H R => ta σ H fun vs H1 => ∃ (i j c : Int) (n : Nat), vs = [.int i, .int j, .int c] ∧ 0 < c ∧ (i < j ∧ j - i < 10000000) ∧ (j - i - 1) / c + 1 = (n : Int) ∧ R (Itc i c n) H1
theorem pi_range3 {a b d : Expr} {ta : TA} {p pos : Pos} (hg : Gl X "range") (hm : X.mg "range" = none) (ha : PA X [a, b, d] ta) (hs : starEach [a, b, d] X.env = [(false, eval a X.env), (false, eval b X.env), (false, eval d X.env)] := by rfl) (hs2 : starEach [b, d] X.env = [(false, eval b X.env), (false, eval d X.env)] := by rfl) (hs3 : starEach [d] X.env = [(false, eval d X.env)] := by rfl) :
    PI X tg (.Call (.Name "range" p) [a, b, d] [] pos) (iRng3 ta) := by
  intro pins s σ H R I h
  refine Call_ (ld_blt I hg hm boot_range (PyProof.Rows.callWith_type1 (thn (ha pos pins s σ H _ I h) fun us s1 ⟨vs, H1, I1, r1, q1⟩ => ?_) (by rw [hs, hs2]) (by rw [hs2]; rfl)))
  obtain ⟨i, j, c, n, e, hc, ⟨h1, h2⟩, hn, q⟩ := q1
  subst e
  cases r1 with
  | cons r rr =>
    cases rr with
    | cons r' rr =>
      cases rr with
      | cons r'' rr =>
        cases rr
        obtain ⟨t, rfl⟩ := r
        obtain ⟨t', rfl⟩ := r'
        obtain ⟨t'', rfl⟩ := r''
        exact call_range_3 (by omega) (range_it3 I1 n (by rw [size_step hc h1]; exact hn) q) (Or.inl (noPylong_x (by omega)))
noncomputable def forC (lo c : Int) (n : Nat) (i : Nat) (tb : TS) : TS := fun D σ H => ∃ Pv : Nat → St → Hp → Prop, Pv 0 σ H ∧ (∀ k σ H, k < n → Pv k σ H → tb { nx := Pv (k + 1), rt := D.rt, bk := D.nx, ct := Pv (k + 1) } (σ.set i (some (.int (lo + k * c)))) H) ∧ ∀ σ H, Pv n σ H → D.nx σ H
noncomputable def tRng3 (ta : TA) (i : Nat) (tb : TS) : TS := fun D σ H => ta σ H fun vs H1 => match vs with
  | [.int l, .int j, .int c] => ∃ n : Nat, 0 < c ∧ (l < j ∧ j - l < 10000000) ∧ (j - l - 1) / c + 1 = (n : Int) ∧ forC l c n i tb D σ H1
  | _ => False
theorem for_step {lo c : Int} {n : Nat} {g : TG} {tb : TS} {D : Ends} {σ : St} {H : Hp} (Pv : Nat → St → Hp → Prop) (h0 : Pv 0 σ H)
    (hs : ∀ i σ H, i < n → Pv i σ H → g (.int (lo + i * c)) σ H fun σ2 H2 => tb { D with nx := Pv (i + 1), ct := Pv (i + 1), bk := D.nx } σ2 H2) (hd : ∀ σ H, Pv n σ H → D.nx σ H) :
    ∃ W : Nat → Nat → St → Hp → Prop, (∃ m, W 0 m σ H) ∧ ∀ i m σ H, W i m σ H →
      ((Itc lo c n).stop i H ∧ D.nx σ H) ∨ ((Itc lo c n).go i H ∧ ∃ N : St → Hp → Prop, (∀ σ' H', N σ' H' → ∃ m', m' < m ∧ W (i + 1) m' σ' H') ∧ ∀ x H', (Itc lo c n).yld i H x H' → g x σ H' fun σ2 H2 => tb { D with nx := N, ct := N, bk := D.nx } σ2 H2) := by
  refine ⟨fun i m σ H => m = n - i ∧ i ≤ n ∧ Pv i σ H, ⟨n, by simp, Nat.zero_le _, h0⟩, ?_⟩
  rintro i m σ H ⟨rfl, hi, p⟩
  by_cases hlt : i < n
  · refine .inr ⟨hlt, Pv (i + 1), fun σ' H' p' => ⟨n - (i + 1), by omega, rfl, hlt, p'⟩, fun x H' y => ?_⟩
    obtain ⟨e, y⟩ := y
    subst e y
    exact hs i σ _ hlt p
  · have e : i = n := by omega
    subst e
    exact .inl ⟨Nat.le_refl _, hd σ H p⟩
theorem ps_rng3 {a b d : Expr} {x : Str} {i : Nat} {p p' pos' pos : Pos} {body : List Stmt} {ta : TA} {tb : TS} (hp : PassesOwn (model X.prog X.w) X.A X.env X.xe) (hc : X.calm = true) (hm : X.mg "range" = none) (ha : PA X [a, b, d] ta)
    (hg : PG X (.Name x pos') (gName i)) (hb : PSs X body tb) (hgl : Gl X "range" := by rfl) (hs : starEach [a, b, d] X.env = [(false, eval a X.env), (false, eval b X.env), (false, eval d X.env)] := by rfl) (hs2 : starEach [b, d] X.env = [(false, eval b X.env), (false, eval d X.env)] := by rfl) (hs3 : starEach [d] X.env = [(false, eval d X.env)] := by rfl) (hf : ∀ x, foldedSetIterable (.Call (.Name "range" p) [a, b, d] [] p') X.env x = pure x := by intro _; rfl) :
    PS X (.For (.Name x pos') (.Call (.Name "range" p) [a, b, d] [] p') body [] pos) (tRng3 ta i tb) := by
  have ha' : PA X [a, b, d] (fun σ H Q => ∃ Q0 : List V → Hp → Prop, ta σ H Q0 ∧ ∀ v H', Q0 v H' → Q v H') := ha.imp fun σ H Q h => h
  intro pins s σ H D I h
  refine ps_for hp hc (pi_range3 hgl hm ha' hs hs2 hs3) hg hb hf pins s σ H D I ⟨_, h, fun vs H1 q => ?_⟩
  split at q
  · obtain ⟨n, h1, h2, h3, Pv, h0, hs', hd⟩ := q
    exact ⟨_, _, _, n, rfl, h1, h2, h3, for_step Pv h0 (fun k σ H hk pv => hs' k σ H hk pv) hd⟩
  · exact q.elim
end
end L2
namespace L2
open PySem PySem.Spec PyProof.Rows
noncomputable def MkAt (H : Hp) (m : Addr) (ds : List Nat) (f : Nat → Nat) : Prop := ∃ ts : List Addr, H m = some (.lst (ts.map V.ref)) ∧ ts.length = ds.length ∧ ∀ (j : Nat) t d, ts[j]? = some t → ds[j]? = some d → H t = some (.tup [.str (T [d]), .int (f d : Nat)])
theorem MkAt.keep {H H' : Hp} {m : Addr} {ds : List Nat} {f : Nat → Nat} (h : MkAt H m ds f) (s1 : ∀ b xs, H b = some (.tup xs) → H' b = some (.tup xs)) (s2 : ∀ xs, H m = some (.lst xs) → H' m = some (.lst xs)) : MkAt H' m ds f := by
  obtain ⟨ts, h1, h2, h3⟩ := h
  exact ⟨ts, s2 _ h1, h2, fun j t d e1 e2 => s1 _ _ (h3 j t d e1 e2)⟩
noncomputable def fsM (a m : Addr) (g : Int) : List (Str × V) := [("held", .ref a), ("gap", .int g), ("marks", .ref m)]
noncomputable def MksAt (H : Hp) (ms : List Addr) (ds cs : List Nat) (h : Nat) (g : Int) : Prop := ∀ (k : Nat) mk, ms[k]? = some mk → MkAt H mk ds fun d => ((colL cs h).take ((k : Int) * g).toNat).count d
noncomputable def IsMks (C CL : Addr) (H : Hp) (x : Addr) (cs : List Nat) (h : Nat) (g : Int) : Prop := ∃ dx a m ms ds, H x = some (.ins C dx (fsM a m g)) ∧ IsLet CL H a cs h ∧ 1 ≤ g ∧ (ds.Nodup ∧ (∀ c, c ∈ ds ↔ c ∈ cs) ∧ ds.Pairwise (· ≤ ·)) ∧ H m = some (.lst (ms.map V.ref)) ∧ (ms.length : Int) = ((cs.length : Int) + 1) / g + 1 ∧ MksAt H ms ds cs h g
theorem IsMks.same {C CL : Addr} {H H' : Hp} {x : Addr} {cs : List Nat} {h : Nat} {g : Int} (f : IsMks C CL H x cs h g) (sm : ∀ b o, H b = some o → (∀ ps, o ≠ .tbl ps) → H' b = some o) : IsMks C CL H' x cs h g := by
  obtain ⟨dx, a, m, ms, ds, h1, h2, h3, h4, h5, h6, h7⟩ := f
  refine ⟨dx, a, m, ms, ds, sm _ _ h1 (by intro ps z; cases z), h2.same sm, h3, h4, sm _ _ h5 (by intro ps z; cases z), h6, fun k mk e => (h7 k mk e).keep (fun b xs e => sm _ _ e (by intro ps z; cases z)) fun xs e => sm _ _ e (by intro ps z; cases z)⟩
noncomputable def MkK (x : Addr) (H H' : Hp) : Prop := (∀ b o, b ≠ x → H b = some o → (∀ ps, o ≠ .tbl ps) → H' b = some o) ∧ ∀ b, H b ≠ none → H' b ≠ none
end L2
namespace L2
open PySem PySem.Spec PyProof.Rows
section
variable {X : Cx}
theorem ps_compR2 {i₀ : Nat} {y₀ : Str} {p₀ p₁ : Pos} {elt a b : Expr} {ifs : List Expr} {x : Str} {px p p' : Pos} {scope : Scope} {pos : Pos} {cl : List (Str × Addr)} {own : List Str} {cp : List (Str × Nat)} {ta : TA} {tc : TT} {te : TE}
    (hm : X.mg "range" = none) (hc : X.calm = true) (hcl : closL scope.names X.env.cells [] = some cl) (hk : scope.kind = .function) (hnc : ∀ y ∈ scope.names, y.2 ≠ .cell)
    (hnm : ∀ x ∈ scope.names, x.2 = .local → scope.names.lookup x.1 = some .local) (hcp : CapOk X scope cp) (ha : PA X [a, b] ta) (hn : 0 < own.length)
    (hg : ∀ fp C s H, PG (cxC X scope cl (own ++ cp.map (·.1)) fp C s H) (.Name x px) (gName 0)) (ht : ∀ fp C s H, PFs (cxC X scope cl (own ++ cp.map (·.1)) fp C s H) ifs tc) (he : ∀ fp C s H, PE (cxC X scope cl (own ++ cp.map (·.1)) fp C s H) elt te)
    (hN : X.N.Nodup) (hi₀ : X.N[i₀]? = some y₀) (hx₀ : X.env.scope.names.lookup y₀ = some .local) (hsw : swapsWith (.ListComp elt [⟨.Name x px, .Call (.Name "range" p) [a, b] [] p', ifs, 0⟩] scope pos) (some (.Name y₀ p₀)) p₁.line X.env = pure true := by rfl)
    (hgl : Gl X "range" := by rfl) (hst : starEach [a, b] X.env = [(false, eval a X.env), (false, eval b X.env)] := by rfl) (hst2 : starEach [b] X.env = [(false, eval b X.env)] := by rfl)
    (hs : ∀ z, foldedSetIterable (.Call (.Name "range" p) [a, b] [] p') X.env z = pure z := by intro _; rfl) : PS X (.Assign [.Name y₀ p₀] (.ListComp elt [⟨.Name x px, .Call (.Name "range" p) [a, b] [] p', ifs, 0⟩] scope pos) p₁) (tAsg (tCR2 own.length cp ta tc te) (gName i₀)) := by
  have ha' : PA X [a, b] (fun σ H Q => ∃ Q0 : List V → Hp → Prop, ta σ H Q0 ∧ ∀ v H', Q0 v H' → Q v H') := ha.imp fun σ H Q h => h
  intro pins s σ H D I h
  refine ps_comp hc hcl hk hnc hnm hcp (pi_range2 hgl hm ha' hst hst2) (gk_name hn) hg (fun fp C s H => (ht fp C s H).imp (t' := cloT tc) fun _ _ _ z => z) (fun fp C s H => (he fp C s H).imp (t' := cloE te) fun _ _ _ z => z) hN hi₀ hx₀ hsw hs pins s σ H D I ?_
  refine ⟨_, h, fun vs H1 q => ?_⟩
  split at q
  · rename_i a b
    obtain ⟨⟨b1, b2, b3, b4, b5⟩, Pv, p0, ps, pe⟩ := q
    have hsl : sizeLine = 16777216 := sizeLine_eq
    refine ⟨a, b, rfl, ⟨b1, b2, b3, b4⟩, fun i m H2 acc => m = (b - a).toNat - i ∧ i ≤ (b - a).toNat ∧ acc.length ≤ i ∧ Pv i H2 acc, ⟨(b - a).toNat, by omega, Nat.zero_le _, Nat.le_refl _, p0⟩, ?_⟩
    rintro i m H2 acc ⟨rfl, hi, hl, pv'⟩
    refine ⟨by omega, ?_⟩
    by_cases hlt : i < (b - a).toNat
    · refine .inr ⟨hlt, fun y H3 ⟨e3, ey⟩ => ?_⟩
      subst e3 ey
      exact oneC_clo (N' := fun H z => ∃ m', m' < (b - a).toNat - i ∧ (m' = (b - a).toNat - (i + 1) ∧ i + 1 ≤ (b - a).toNat ∧ z.length ≤ i + 1 ∧ Pv (i + 1) H z)) (fun H z hz w => ⟨(b - a).toNat - (i + 1), by omega, rfl, hlt, by omega, w⟩) (ps i H3 acc hlt pv')
    · have e : i = (b - a).toNat := by omega
      subst e
      exact .inl ⟨Nat.le_refl _, fun l hl' => pe H2 acc pv' l hl'⟩
  · exact q.elim
end
end L2
namespace L2
open PySem PySem.Spec PyProof.Rows
section
variable {X : Cx}
theorem countP_eqU {x : V} : ∀ {xs : List V} {us : List Value}, Vals xs us → xs.all flatV = true → us.countP (eqU x) = xs.countP fun y => eqV y x
  | _, _, .nil, _ => rfl
  | y :: xs, u :: us, .cons r t, f => by
    rw [List.all_cons, Bool.and_eq_true] at f
    rw [List.countP_cons, List.countP_cons, eqU_of r f.1, countP_eqU t f.2]
noncomputable def cntF (K : PySem.W.Frag) : V → List V → Hp → VK → Prop := fun x vs H Q => ∃ l xs y, x = .ref l ∧ vs = [y] ∧ SqL K H l xs ∧ xs.all flatV = true ∧ flatV y = true ∧ Q (.int (xs.countP fun z => eqV z y : Nat)) H
theorem m_countF {K : PySem.W.Frag} (hK : X.K = K) : MtM X "list.count" (cntF K) := by
  subst hK
  intro pins s σ H x vs v us Q I rx rv h
  obtain ⟨l, xs, y, rfl, rfl, hq, fx, fy, h⟩ := h
  cases rx
  obtain ⟨u, rfl, ru⟩ := rv.one
  obtain ⟨its, r, p, hz⟩ := I.list hq
  obtain ⟨⟨cls, dd, data, sl⟩, ho, hc, n, hd⟩ := p.isList
  simp only at hc hd
  subst hc hd
  refine call_meets PySem.F.slot_list_count ⟨_, ho, rfl⟩ PySem.F.entry_list_count (PySem.F.args_list_count_2 _ _) (SeqAt.list_countAt l its.toArray n dd sl u (eqU y)) ⟨ho, fun z hz => mem_eqAt ru fy r fx z (by simpa using hz), ?_⟩
  rw [show its.toArray.toList = its from rfl, countP_eqU r fx]
  exact ⟨.int _, H, I.tok _, ⟨_, rfl⟩, h⟩
end
end L2
namespace L2
open PySem PySem.Spec PyProof.Rows
section
variable {X : Cx}
noncomputable def CDivX (i j : Int) : Prop := 0 < j ∧ i.natAbs < 1073741824
theorem op_fdivX : OpR X (binaryOp .FloorDiv) (rI CDivX fun i j => .int (i / j)) := opI fun i j _ _ _ _ _ hc q => by
  have h1 : (0 : Int) < j := hc.1
  exact floordiv_int (by omega) (by rw [Int.fdiv_eq_ediv_of_nonneg i (by omega)]; exact q) (.inl (noPylong_x hc.2))
abbrev fdivX : R2 := int2 CDivX fun i j => .int (i / j)
theorem o_fdivX : OpR X (binaryOp .FloorDiv) fdivX := o_int2 op_fdivX
end
end L2
namespace L2
open PySem PySem.Spec PyProof.Rows
theorem o_inL {X : Cx} {K : PySem.W.Frag} (hK : X.K = K) : OpR X (compareOp .In) (rIn K false) := by
  subst hK
  exact op_in_seq
end L2
-- GEN raising: check_place check_gap Letters.__init__ Letters.letter Letters.before Marks.__init__ Marks.before
-- GEN strm: letters column
-- GEN cntf: behind_mark
-- GEN fdivx: Marks.before _law_kept_right
-- GEN comps: Letters.__init__ Marks.__init__ Marks.before Marks.kept
-- GEN objs: held=Letters _law_marks=Marks
-- GEN texts: _law_letters _law_signs
-- GEN dicts: _law_counts
-- GEN seqin: _law_kept_right
-- GEN cuts: Letters.__init__:4 Marks.__init__:0 Marks.__init__:4 Marks.before:1 Marks.before:2 _law_mixed:0 _law_mixed:1 _law_mark_right:0 _law_mark_right:1.1 _law_kept_right:0 _law_kept_right:2 _law_kept_right:3 _law_kept_right:4.0 law:0 law:1 law:2 law:3 law:4 law:5 law:6 law:7 law:8 law:9 law:10 law:11 law:12
set_option maxRecDepth 100000
set_option maxHeartbeats 4000000
namespace My
open PySem L2 LW LP
noncomputable def top (i : Nat) : Stmt := PySem.Challenge.pw_backindex_k14_marks.main.body.getD i (.Pass ⟨0, 0, 0, 0⟩)
abbrev s_p_check_place : Stmt := top 6
abbrev P_p_check_place : List Str := ["place", "last"]
theorem sc_p_check_place : FnScope ["place", "last"] P_p_check_place (defScope s_p_check_place) := ⟨rfl, rfl, rfl, by decide +kernel, rfl, by decide +kernel, by decide +kernel⟩
abbrev s_p_check_gap : Stmt := top 7
abbrev P_p_check_gap : List Str := ["gap"]
theorem sc_p_check_gap : FnScope ["gap"] P_p_check_gap (defScope s_p_check_gap) := ⟨rfl, rfl, rfl, by decide +kernel, rfl, by decide +kernel, by decide +kernel⟩
abbrev s_w_cell_at : Stmt := top 14
abbrev P_w_cell_at : List Str := ["_law_script", "_law_k"]
theorem sc_w_cell_at : FnScope ["_law_script", "_law_k"] P_w_cell_at (defScope s_w_cell_at) := ⟨rfl, rfl, rfl, by decide +kernel, rfl, by decide +kernel, by decide +kernel⟩
abbrev s_w_mixed : Stmt := top 15
abbrev P_w_mixed : List Str := ["_law_cell", "_law_turn", "_law_many"]
theorem sc_w_mixed : FnScope ["_law_cell", "_law_turn", "_law_many", "_law_by", "_law_prime"] P_w_mixed (defScope s_w_mixed) := ⟨rfl, rfl, rfl, by decide +kernel, rfl, by decide +kernel, by decide +kernel⟩
abbrev s_w_signs : Stmt := top 16
abbrev P_w_signs : List Str := []
theorem sc_w_signs : FnScope ["_law_some"] P_w_signs (defScope s_w_signs) := ⟨rfl, rfl, rfl, by decide +kernel, rfl, by decide +kernel, by decide +kernel⟩
abbrev s_w_whole : Stmt := top 17
abbrev P_w_whole : List Str := ["_law_found"]
theorem sc_w_whole : FnScope ["_law_found"] P_w_whole (defScope s_w_whole) := ⟨rfl, rfl, rfl, by decide +kernel, rfl, by decide +kernel, by decide +kernel⟩
abbrev s_w_letters_by : Stmt := top 18
abbrev P_w_letters_by : List Str := ["_law_cells", "_law_head"]
theorem sc_w_letters_by : FnScope ["_law_cells", "_law_head", "_law_some", "_law_wide", "_law_base", "_law_step"] P_w_letters_by (defScope s_w_letters_by) := ⟨rfl, rfl, rfl, by decide +kernel, rfl, by decide +kernel, by decide +kernel⟩
abbrev s_w_rows : Stmt := top 19
abbrev P_w_rows : List Str := ["_law_letters", "_law_home"]
theorem sc_w_rows : FnScope ["_law_letters", "_law_home", "_law_rows_here"] P_w_rows (defScope s_w_rows) := ⟨rfl, rfl, rfl, by decide +kernel, rfl, by decide +kernel, by decide +kernel⟩
abbrev s_w_mark_right : Stmt := top 20
abbrev P_w_mark_right : List Str := ["_law_mark", "_law_signs_here", "_law_counts"]
theorem sc_w_mark_right : FnScope ["_law_mark", "_law_signs_here", "_law_counts", "_law_k", "_law_pair"] P_w_mark_right (defScope s_w_mark_right) := ⟨rfl, rfl, rfl, by decide +kernel, rfl, by decide +kernel, by decide +kernel⟩
abbrev s_w_kept_right : Stmt := top 21
abbrev P_w_kept_right : List Str := ["_law_told", "_law_rows_here", "_law_gap"]
theorem sc_w_kept_right : FnScope ["_law_told", "_law_rows_here", "_law_gap", "_law_signs_here", "_law_counts", "_law_sign", "_law_row"] P_w_kept_right (defScope s_w_kept_right) := ⟨rfl, rfl, rfl, by decide +kernel, rfl, by decide +kernel, by decide +kernel⟩
abbrev s_w_before_right : Stmt := top 22
abbrev P_w_before_right : List Str := ["_law_marks", "_law_rows_here", "_law_sign"]
theorem sc_w_before_right : FnScope ["_law_marks", "_law_rows_here", "_law_sign", "_law_count", "_law_row", "_law_told"] P_w_before_right (defScope s_w_before_right) := ⟨rfl, rfl, rfl, by decide +kernel, rfl, by decide +kernel, by decide +kernel⟩
abbrev s_law : Stmt := top 23
abbrev P_law : List Str := ["_law_script"]
theorem sc_law : FnScope ["_law_script", "_law_letters", "_law_cell", "_law_home", "_law_gap", "_law_marks", "_law_rows_here", "_law_told", "_law_mark", "_law_sign"] P_law (defScope s_law) := ⟨rfl, rfl, rfl, by decide +kernel, rfl, by decide +kernel, by decide +kernel⟩
abbrev s_m_Letters_init : Stmt := (clsBody (top 10)).getD 0 (.Pass ⟨0, 0, 0, 0⟩)
abbrev P_m_Letters_init : List Str := ["self", "letters", "home"]
theorem sc_m_Letters_init : FnScope ["self", "letters", "home", "column"] P_m_Letters_init (defScope s_m_Letters_init) := ⟨rfl, rfl, rfl, by decide +kernel, rfl, by decide +kernel, by decide +kernel⟩
abbrev s_m_Letters_letter : Stmt := (clsBody (top 10)).getD 1 (.Pass ⟨0, 0, 0, 0⟩)
abbrev P_m_Letters_letter : List Str := ["self", "row"]
theorem sc_m_Letters_letter : FnScope ["self", "row"] P_m_Letters_letter (defScope s_m_Letters_letter) := ⟨rfl, rfl, rfl, by decide +kernel, rfl, by decide +kernel, by decide +kernel⟩
abbrev s_m_Letters_before : Stmt := (clsBody (top 10)).getD 3 (.Pass ⟨0, 0, 0, 0⟩)
abbrev P_m_Letters_before : List Str := ["self", "sign", "row"]
theorem sc_m_Letters_before : FnScope ["self", "sign", "row"] P_m_Letters_before (defScope s_m_Letters_before) := ⟨rfl, rfl, rfl, by decide +kernel, rfl, by decide +kernel, by decide +kernel⟩
abbrev s_m_Marks_init : Stmt := (clsBody (top 12)).getD 0 (.Pass ⟨0, 0, 0, 0⟩)
abbrev P_m_Marks_init : List Str := ["self", "letters", "home", "gap"]
theorem sc_m_Marks_init : FnScope ["self", "letters", "home", "gap", "signs", "row"] P_m_Marks_init (defScope s_m_Marks_init) := ⟨rfl, rfl, rfl, by decide +kernel, rfl, by decide +kernel, by decide +kernel⟩
abbrev s_m_Marks_kept : Stmt := (clsBody (top 12)).getD 1 (.Pass ⟨0, 0, 0, 0⟩)
abbrev P_m_Marks_kept : List Str := ["self"]
theorem sc_m_Marks_kept : FnScope ["self"] P_m_Marks_kept (defScope s_m_Marks_kept) := ⟨rfl, rfl, rfl, by decide +kernel, rfl, by decide +kernel, by decide +kernel⟩
abbrev s_m_Marks_before : Stmt := (clsBody (top 12)).getD 2 (.Pass ⟨0, 0, 0, 0⟩)
abbrev P_m_Marks_before : List Str := ["self", "sign", "row"]
theorem sc_m_Marks_before : FnScope ["self", "sign", "row", "below_mark", "behind_mark"] P_m_Marks_before (defScope s_m_Marks_before) := ⟨rfl, rfl, rfl, by decide +kernel, rfl, by decide +kernel, by decide +kernel⟩
abbrev lp_m_Letters_init : Pos := ⟨29, 53, 29, 76⟩
abbrev qn_m_Letters_init : Str := "Letters.__init__.<locals>.<lambda>"
abbrev Bk_m_Letters_init (tb : Addr) (H : Hp) : Prop := Bk tb lp_m_Letters_init qn_m_Letters_init H
structure Cs where
  BackError : Addr
  NoPlace : Addr
  NoGap : Addr
structure Er (K : PySem.W.Frag) (mg : Str → Option Value) (c : Cs) : Prop where
  m_NoPlace : mg "NoPlace" = some (.ref c.NoPlace)
  x_NoPlace : ExC K c.NoPlace
  m_NoGap : mg "NoGap" = some (.ref c.NoGap)
  x_NoGap : ExC K c.NoGap
structure Cf (K : PySem.W.Frag) (C_Letters : Addr) (C_Marks : Addr) : Prop where
  cl_Letters : Cls K C_Letters
  na_Letters_column : NoAttr K C_Letters "column"
  na_Letters_forths : NoAttr K C_Letters "forths"
  na_Letters_home : NoAttr K C_Letters "home"
  na_Letters_last : NoAttr K C_Letters "last"
  na_Letters_totals : NoAttr K C_Letters "totals"
  cl_Marks : Cls K C_Marks
  na_Marks_gap : NoAttr K C_Marks "gap"
  na_Marks_held : NoAttr K C_Marks "held"
  na_Marks_marks : NoAttr K C_Marks "marks"
structure Gc (mg : Str → Option Value) : Prop where
  NO_LETTER : ∃ t, mg "NO_LETTER" = some (.str "\n" t)
structure Bn (mg : Str → Option Value) : Prop where
  bool : mg "bool" = none
  dict : mg "dict" = none
  int : mg "int" = none
  isinstance : mg "isinstance" = none
  len : mg "len" = none
  list : mg "list" = none
  range : mg "range" = none
  set : mg "set" = none
  sorted : mg "sorted" = none
  str : mg "str" = none
  tuple : mg "tuple" = none
section
variable {P : Program} {w : World} {K : PySem.W.Frag} {mg : Str → Option Value} {base : Heap}
noncomputable def sp_p_check_place (K : PySem.W.Frag) (c : Cs) : Sp := fun vs H Q E => match vs with
  | [.int p, .int l] => ((0 ≤ p ∧ p ≤ l) → Q .non H) ∧ (¬ (0 ≤ p ∧ p ≤ l) → E (.ref c.NoPlace) none H)
  | _ => False
theorem ok_p_check_place {f : Addr} {fd : FuncData} (F : Fun K "check_place" "check_place" s_p_check_place f fd) (B : Bn mg) {c : Cs} (ER : Er K mg c) {C_Letters C_Marks : Addr} (CF : Cf K C_Letters C_Marks) (GC : Gc mg)  : FnOk P w K mg base (CX1 P w) 1 f fd P_p_check_place (sp_p_check_place K c) := by
  refine F.okX sc_p_check_place (fun vs H Q E h => ?_) (fun cdv A outer s H vs Q E hr h => ?_) <;> unfold sp_p_check_place at h <;> split at h <;> first | exact h.elim | skip
  · rfl
  · rename_i p l
    obtain ⟨q, e⟩ := h
    refine ⟨_, (pss_one (ps_if (PW.pt (pw_or (pt_c2 o_lt (qv 0) pe_int) (pw_or1 (pt_c2 o_gt (qv 0) (qv 1))))) (pss_one (ps_raise tk_def rfl ER.x_NoPlace rfl ER.m_NoPlace (pa_cons pe_str pa_nil))) pss_nil)), ?_⟩
    simp only [L2.start, List.map_cons, List.map_nil, List.length_cons, List.length_nil, List.replicate_zero, List.cons_append, List.nil_append, Nat.reduceAdd, Nat.reduceSub, decide_eq_true_eq, if_true, gS, rVar, tC, tNext, tIfS, tCons, tNil, tB2, tOr, int2', ltV, tRaise]
    refine ite2 (fun h0 => ⟨by decide, e (by omega)⟩) fun h0 => ite2 (fun h1 => ⟨by decide, e (by omega)⟩) fun h1 => q ⟨by omega, by omega⟩
noncomputable def sp_p_check_gap (K : PySem.W.Frag) (c : Cs) : Sp := fun vs H Q E => match vs with
  | [.int g] => (g < 1 → E (.ref c.NoGap) none H) ∧ (¬ g < 1 → Q .non H)
  | _ => False
theorem ok_p_check_gap {f : Addr} {fd : FuncData} (F : Fun K "check_gap" "check_gap" s_p_check_gap f fd) (B : Bn mg) {c : Cs} (ER : Er K mg c) {C_Letters C_Marks : Addr} (CF : Cf K C_Letters C_Marks) (GC : Gc mg)  : FnOk P w K mg base (CX1 P w) 1 f fd P_p_check_gap (sp_p_check_gap K c) := by
  refine F.okX sc_p_check_gap (fun vs H Q E h => ?_) (fun cdv A outer s H vs Q E hr h => ?_) <;> unfold sp_p_check_gap at h <;> split at h <;> first | exact h.elim | skip
  · rfl
  · refine ⟨_, (pss_one (ps_if (pt_c2 o_lt (qv 0) pe_int) (pss_one (ps_raise tk_def rfl ER.x_NoGap rfl ER.m_NoGap (pa_cons pe_str pa_nil))) pss_nil)), ?_⟩
    simp only [L2.start, List.map_cons, List.map_nil, List.length_cons, List.length_nil, List.replicate_zero, Nat.reduceAdd, Nat.reduceSub, decide_eq_true_eq, gS, rVar, tC, tNext, tIfS, tCons, tNil, tB2, ltV, tRaise, List.append_nil]
    exact ite2 (fun z => ⟨by decide, h.1 z⟩) fun z => h.2 z
noncomputable def sp_m_Letters_init (K : PySem.W.Frag) (c : Cs) (C : Addr) (tb : Addr) : Sp := fun vs H Q E => match vs with
  | [.ref x, .str z, .int h] => (L z).length ≤ 62 ∧ Bk_m_Letters_init tb H ∧ (∃ dx, H x = some (.ins C dx [])) ∧ (¬ (0 ≤ h ∧ h ≤ (L z).length) → E (.ref c.NoPlace) none H) ∧ ((0 ≤ h ∧ h ≤ (L z).length) → ∀ H', (∀ b o, b ≠ x → H b = some o → (∀ ps, o ≠ .tbl ps) → H' b = some o) → (∀ b, H b ≠ none → H' b ≠ none) → (∀ b o, b ≠ x → b ≠ tb → H b = some o → H' b = some o) → Bk_m_Letters_init tb H' → IsLet C H' x (L z) h.toNat → Q .non H')
  | _ => False
theorem ok_m_Letters_init {f : Addr} {fd : FuncData} (F : Fun K "__init__" "Letters.__init__" s_m_Letters_init f fd) (B : Bn mg) {tb_m_Letters_init : Addr} {cd : Addr} (LM_m_Letters_init : Lm mg base cd tb_m_Letters_init) (hcd : fd.code = .ref cd) {c : Cs} (ER : Er K mg c) {C_Letters C_Marks : Addr} (CF : Cf K C_Letters C_Marks) (GC : Gc mg) (G_p_check_place : FnX P w K mg base 1 "check_place" P_p_check_place (sp_p_check_place K c)) : FnOk P w K mg base (CX1 P w) 3 f fd P_m_Letters_init (sp_m_Letters_init K c C_Letters tb_m_Letters_init) := by
  refine F.okLX hcd sc_m_Letters_init (fun vs H Q E h => ?_) (fun A outer s H vs Q E hr h => ?_) <;> unfold sp_m_Letters_init at h <;> split at h <;> first | exact h.elim | skip
  · rfl
  · rename_i x z h
    obtain ⟨hl, bk, ⟨dx, hx⟩, e, q⟩ := h
    refine ⟨_, (pss_cons (ps_expr (pe_fnX tk_def.toTk G_p_check_place (hr.mono (by decide)) (pa_cons (qv 2) (pa_cons (pe_callB (c_lenK (K := K) rfl) (by rfl) B.len bt_len (pa_cons (qv 1) pa_nil)) pa_nil))))
        (pss_cons (ps_set (i := 3) sc_m_Letters_init.nd rfl (by first | exact Or.inl rfl | exact Or.inr rfl) (pe_op o_add (pe_op o_add (pe_slice (s_slK (K := K) rfl) (qv 1) po_none (po_t (qv 2))) (pe_globS rfl GC.NO_LETTER)) (pe_slice (s_slK (K := K) rfl) (qv 1) (po_t (qv 2)) po_none)))
        (pss_cons (ps_fldC (K := K) rfl CF.cl_Letters CF.na_Letters_column (qv 0) (qv 3) rfl)
        (pss_cons (ps_fldC (K := K) rfl CF.cl_Letters CF.na_Letters_home (qv 0) (qv 2) rfl)
        (pss_cons (ps_cut (ps_fldC (K := K) rfl CF.cl_Letters CF.na_Letters_last (qv 0) (pe_callB (c_lenK (K := K) rfl) (by rfl) B.len bt_len (pa_cons (qv 1) pa_nil)) rfl))
        (pss_cons (ps_fldC (K := K) rfl CF.cl_Letters CF.na_Letters_totals (qv 0) (pe_compL (K := K) rfl (own := ["sign"]) (cp := [(("letters" : Str), 1)]) rfl rfl rfl (by decide +kernel) (by decide +kernel) ⟨⟨rfl, rfl, rfl⟩, trivial⟩ (pe_callB (c_sortO (w := w) rfl rfl) (by rfl) B.sorted bt_sorted (pa_cons (pe_callTy (c_setT (w := w) rfl rfl) (by rfl) B.set bt_set (pa_cons (qv 1) pa_nil)) pa_nil)) (by decide) (fun _ _ _ _ => pg_name (i := 0) (show List.Nodup (["sign", "letters"] : List Str) by decide +kernel) rfl (Or.inl rfl) (Or.inr rfl)) (fun _ _ _ _ => pf_nil) (fun _ _ _ _ => (pe_tup (pa_cons (qv 0) (pa_cons (pe_bmK (K := K) rfl PySem.F.plainAttrs_str PySem.F.slot_str_count PySem.F.type_str_count m_countS (qv 1) (pa_cons (qv 0) pa_nil)) pa_nil))))) rfl)
        (pss_one (ps_fldC (K := K) rfl CF.cl_Letters CF.na_Letters_forths (qv 0) (pe_sortL (K := K) (x := "row") (cp := [(("column" : Str), 3)]) (q := qn_m_Letters_init) rfl rfl (hr.mono (by decide)) (LM_m_Letters_init.at rfl) rfl B.sorted rfl rfl rfl rfl (by decide +kernel) ⟨⟨rfl, rfl, rfl⟩, trivial⟩ rfl (by decide +kernel) rfl rfl (fun _ _ _ _ => rfl) (pa_cons (pe_callTy c_range (by rfl) B.range bt_range (pa_cons (pe_callB (c_lenK (K := K) rfl) (by rfl) B.len bt_len (pa_cons (qv 3) pa_nil)) pa_nil)) pa_nil) (fun _ _ _ _ _ _ => (pe_ix (i_ixK (K := K) rfl) (qv 1) (qv 0) (fun _ _ => rfl)))) rfl)))))))), ?_⟩
    simp only [L2.start, List.map_cons, List.map_nil, List.length_cons, List.length_nil, List.replicate_succ, List.replicate_zero, List.cons_append, List.nil_append, Nat.reduceAdd, Nat.reduceSub, List.set_cons_zero, List.set_cons_succ, gS, rVar, tC, tSeq, tAsg, gName, tDrop, tOp, tCB, tCons, tNil, tSl, tNoPart, pT, addV, slV, lenV, L_T, tFnX, wFld, sp_p_check_place]
    have hsz : sizeLine = 16777216 := sizeLine_eq
    refine ⟨by omega, fun hh => ?_, fun hh => e hh⟩
    obtain ⟨m, rfl⟩ : ∃ m : Nat, h = (m : Int) := ⟨h.toNat, by omega⟩
    have hm : m ≤ (L z).length := by omega
    have q := q hh
    rw [Int.toNat_natCast] at q
    have c1 := cut_len (L z) none (some (m : Int))
    have c2 := cut_len (L z) (some (m : Int)) none
    have c3 : (L (Str.ofString "\n")).length = 1 := by decide +kernel
    have cl := colL_len hm
    refine ⟨by omega, by omega, by omega, by rw [List.length_append]; omega, ?_⟩
    rw [colL_cut]
    refine ⟨_, _, hx, by decide, _, _, upd_same, by show 1 < 1000; decide, ?_⟩
    rw [upd_upd]
    refine cutS (fun σ' H' => H' = upd H x (HO.ins C_Letters dx (putF (Str.ofString "last") (V.int ((L z).length : Nat)) (putF (Str.ofString "home") (V.int (m : Int)) (putF (Str.ofString "column") (V.str (T (colL (L z) m))) [])))) ∧ σ' = [some (V.ref x), some (V.str z), some (V.int (m : Int)), some (V.str (T (colL (L z) m)))]) ?_ ?_
    · simp only [and_true, gS, rVar, tCB, tCons, tNil, lenV, wFld]
      refine ⟨by omega, _, _, upd_same, by show 2 < 1000; decide, ?_⟩
      rw [upd_upd]
    rintro _ _ ⟨rfl, rfl⟩
    generalize hF : putF (Str.ofString "last") (V.int ((L z).length : Nat)) (putF (Str.ofString "home") (V.int (m : Int)) (putF (Str.ofString "column") (V.str (T (colL (L z) m))) [])) = F3
    simp only [List.map_cons, List.map_nil, List.length_cons, List.length_nil, List.replicate_succ, List.replicate_zero, List.cons_append, List.nil_append, Nat.reduceAdd, true_and, if_true, List.set_cons_zero, gS, rVar, tSeq, tOp, tCB, tCons, tNil, tTup, ixV, lenV, tBM, tyV, L_T, tCL, oneC, capS, tSortL, lamS, rngV, wFld, setT, sortO, cntS]
    have lF : F3.length = 3 := by rw [← hF]; rfl
    have bk0 : Bk_m_Letters_init tb_m_Letters_init (upd H x (HO.ins C_Letters dx F3)) := bk_ins bk hx
    refine ⟨by omega, fun p cs hp nd mem => ⟨cs, upd_same, ?_, fun l qs hl2 pm pw => ?_⟩⟩
    · have := LO.len_sub nd fun c hc => (mem c).mp hc
      omega
    have lq : qs.length ≤ (L z).length := by
      rw [pm.length_eq]
      exact LO.len_sub nd fun c hc => (mem c).mp hc
    have x1 : upd (upd H x (HO.ins C_Letters dx F3)) p (SetO w p cs) x = some (HO.ins C_Letters dx F3) := upd_old hp
    have x2 : upd (upd (upd H x (HO.ins C_Letters dx F3)) p (SetO w p cs)) l (HO.lst (qs.map fun c => V.str (T [c]))) x = some (HO.ins C_Letters dx F3) := (upd_ne (ne_of_none x1 hl2)).trans x1
    have l2 : upd (upd (upd H x (HO.ins C_Letters dx F3)) p (SetO w p cs)) l (HO.lst (qs.map fun c => V.str (T [c]))) l = some (HO.lst (qs.map fun c => V.str (T [c]))) := upd_same
    have kp2 : ∀ b o, b ≠ x → H b = some o → upd (upd (upd H x (HO.ins C_Letters dx F3)) p (SetO w p cs)) l (HO.lst (qs.map fun c => V.str (T [c]))) b = some o := fun b o hb e => by
      have e1 : upd H x (HO.ins C_Letters dx F3) b = some o := (upd_ne hb).trans e
      have e2 : upd (upd H x (HO.ins C_Letters dx F3)) p (SetO w p cs) b = some o := (upd_ne (ne_of_none e1 hp)).trans e1
      exact (upd_ne (ne_of_none e2 hl2)).trans e2
    have bk2 : Bk_m_Letters_init tb_m_Letters_init (upd (upd (upd H x (HO.ins C_Letters dx F3)) p (SetO w p cs)) l (HO.lst (qs.map fun c => V.str (T [c])))) := (bk0.put hp).put hl2
    have nn2 : ∀ b, H b ≠ none → upd (upd (upd H x (HO.ins C_Letters dx F3)) p (SetO w p cs)) l (HO.lst (qs.map fun c => V.str (T [c]))) b ≠ none := fun b hb => upd_nn (upd_nn (upd_nn hb))
    generalize upd (upd (upd H x (HO.ins C_Letters dx F3)) p (SetO w p cs)) l (HO.lst (qs.map fun c => V.str (T [c]))) = HZ at x2 l2 kp2 bk2 nn2 ⊢
    refine ⟨_, SqL.of l2, by rw [List.length_map]; omega, fun i H2 acc => Same HZ H2 ∧ ∃ ts : List Addr, acc = ts.map V.ref ∧ Prs H2 ts (qs.take i) (L z), ⟨Same.refl _, [], rfl, rfl, fun j d e => by simp at e⟩, ?_, ?_, ?_⟩
    · rintro i H2 acc _ ⟨sm, _⟩
      exact sm.seq (SqL.of l2)
    · rintro i y H2 acc hy ⟨sm, ts, rfl, pr⟩
      rw [List.getElem?_map] at hy
      obtain ⟨d, ed, rfl⟩ := Option.map_eq_some_iff.mp hy
      simp only [L_T]
      refine ⟨d, rfl, by omega, fun t ht => ⟨Same.upd sm ht, ts ++ [t], by rw [List.map_append]; rfl, ?_⟩⟩
      rw [List.take_succ, ed]
      exact (pr.same (sameT_of (Same.updN ht))).snoc upd_same
    · rintro H2 acc ⟨sm, ts, rfl, pr⟩ l3 hl3
      rw [List.length_map, List.take_length] at pr
      have x3 : upd H2 l3 (HO.lst (ts.map V.ref)) x = some (HO.ins C_Letters dx F3) := (upd_ne (ne_of_none (sm _ _ x2) hl3)).trans (sm _ _ x2)
      have t3 : upd H2 l3 (HO.lst (ts.map V.ref)) l3 = some (HO.lst (ts.map V.ref)) := upd_same
      have kp3 : ∀ b o, b ≠ x → H b = some o → upd H2 l3 (HO.lst (ts.map V.ref)) b = some o := fun b o hb e => by
        have e1 := sm _ _ (kp2 b o hb e)
        exact (upd_ne (ne_of_none e1 hl3)).trans e1
      have bk3 : Bk_m_Letters_init tb_m_Letters_init (upd H2 l3 (HO.lst (ts.map V.ref))) := (bk_same bk2 sm).put hl3
      have pr3 := pr.same (sameT_of (Same.updN (o := HO.lst (ts.map V.ref)) hl3))
      have nn3 : ∀ b, H b ≠ none → upd H2 l3 (HO.lst (ts.map V.ref)) b ≠ none := fun b hb => upd_nn (sm.nn (nn2 b hb))
      generalize upd H2 l3 (HO.lst (ts.map V.ref)) = H3 at x3 t3 kp3 bk3 pr3 nn3 ⊢
      have n3 : l3 ≠ x := by rintro rfl; rw [t3] at x3; cases x3
      have lF4 : (putF (Str.ofString "totals") (V.ref l3) F3).length = 4 := by rw [← hF]; rfl
      refine ⟨_, _, x3, by omega, by omega, fun r hr0 => ?_⟩
      have bk4 : Bk_m_Letters_init tb_m_Letters_init (upd H3 x (HO.ins C_Letters dx (putF (Str.ofString "totals") (V.ref l3) F3))) := bk_ins bk3 x3
      have x4 : upd (upd H3 x (HO.ins C_Letters dx (putF (Str.ofString "totals") (V.ref l3) F3))) r (HO.rng 0 ((colL (L z) m).length : Int)) x = some (HO.ins C_Letters dx (putF (Str.ofString "totals") (V.ref l3) F3)) := upd_old hr0
      have kp4 : ∀ b o, b ≠ x → H3 b = some o → upd (upd H3 x (HO.ins C_Letters dx (putF (Str.ofString "totals") (V.ref l3) F3))) r (HO.rng 0 ((colL (L z) m).length : Int)) b = some o := fun b o hb e => by
        have e1 : upd H3 x (HO.ins C_Letters dx (putF (Str.ofString "totals") (V.ref l3) F3)) b = some o := (upd_ne hb).trans e
        exact (upd_ne (ne_of_none e1 hr0)).trans e1
      have er := rng_nat0 (colL (L z) m).length
      have el : (rngL 0 ((colL (L z) m).length : Int)).length = (colL (L z) m).length := by rw [er]; simp
      refine ⟨_, (colL (L z) m).map fun c => [c], .inr (.inr ⟨0, _, upd_same, rfl, by omega, by omega, by omega, by omega⟩), by omega, by rw [List.length_map, el], bk4.put hr0, fun H5 i y sm5 hy => ?_, fun H5 l4 p4 sm5 se5 bk5 hl4 pm4 pw4 => ?_⟩
      · have hi := (List.getElem?_eq_some_iff.mp hy).1
        rw [el] at hi
        rw [er, List.getElem?_map, List.getElem?_range hi] at hy
        cases Option.some.inj hy
        simp only [L_T]
        refine ⟨by omega, _, atI_getD 0 (by omega) (by omega), ?_⟩
        rw [Int.toNat_natCast, List.getD_eq_getElem?_getD, List.getD_eq_getElem?_getD, List.getElem?_map, List.getElem?_eq_getElem hi]
        rfl
      · have x5 := sm5.at x4 (by intro ps z; cases z)
        have x6 : upd H5 l4 (HO.lst (p4.map fun i => (rngL 0 ((colL (L z) m).length : Int)).getD i V.non)) x = some (HO.ins C_Letters dx (putF (Str.ofString "totals") (V.ref l3) F3)) := (upd_ne (ne_of_none x5 hl4)).trans x5
        refine ⟨_, _, x6, by omega, ?_⟩
        have kp6 : ∀ b o, b ≠ x → H3 b = some o → (∀ ps, o ≠ .tbl ps) → upd (upd H5 l4 (HO.lst (p4.map fun i => (rngL 0 ((colL (L z) m).length : Int)).getD i V.non))) x (HO.ins C_Letters dx (putF (Str.ofString "forths") (V.ref l4) (putF (Str.ofString "totals") (V.ref l3) F3))) b = some o := fun b o hb e n => by
          have e1 := sm5.at (kp4 b o hb e) n
          exact (upd_ne hb).trans ((upd_ne (ne_of_none e1 hl4)).trans e1)
        refine q _ (fun b o hb e n => kp6 b o hb (kp3 b o hb e) n) (fun b hb => upd_nn (upd_nn (sm5.nn (upd_nn (upd_nn (nn3 b hb)))))) (fun b o hb ht e => ?_) (bk_ins (bk5.put hl4) x6) ⟨dx, l3, l4, ?_, ⟨⟨ts, qs, kp6 _ _ n3 t3 (by intro ps z; cases z), pr3.1, fun j d e => ?_, pm.nodup_iff.mpr nd, fun c => pm.mem_iff.trans (mem c)⟩, p4, ?_, ?_, ?_⟩, hm⟩
        · have e1 := se5 _ _ ht (kp4 b o hb (kp3 b o hb e))
          exact (upd_ne hb).trans ((upd_ne (ne_of_none e1 hl4)).trans e1)
        · rw [upd_same, ← hF]
          exact congrArg (fun f => some (HO.ins C_Letters dx f)) (fs_build (L z) m l3 l4)
        · obtain ⟨t, e1, e2⟩ := pr3.2 j d e
          have : t ≠ x := by rintro rfl; rw [x3] at e2; cases e2
          exact ⟨t, e1, kp6 _ _ this e2 (by intro ps z; cases z)⟩
        · have n4 : l4 ≠ x := Ne.symm (ne_of_none x5 hl4)
          rw [upd_ne n4, upd_same]
          congr 2
          refine List.map_congr_left fun j hj => ?_
          have hj2 : j < (colL (L z) m).length := by rw [← el]; exact List.mem_range.mp (pm4.mem_iff.mp hj)
          rw [er, List.getD_eq_getElem?_getD, List.getElem?_map, List.getElem?_range hj2]
          rfl
        · rw [el, cl] at pm4
          exact pm4
        · refine pw4.imp_of_mem fun {i j} hi hj h => ?_
          have g : ∀ i ∈ p4, ((colL (L z) m).map fun c => [c]).getD i [] = [(colL (L z) m).getD i 0] := fun i hi => by
            have hi2 : i < (colL (L z) m).length := by rw [← el]; exact List.mem_range.mp (pm4.mem_iff.mp hi)
            rw [List.getD_eq_getElem?_getD, List.getD_eq_getElem?_getD, List.getElem?_map, List.getElem?_eq_getElem hi2]
            rfl
          rw [g i hi, g j hj] at h
          exact h
noncomputable def sp_m_Letters_before (K : PySem.W.Frag) (c : Cs) (C : Addr) : Sp := fun vs H Q E => match vs with
  | [.ref a, .str y, .int r] => ∃ cs h d, IsLet C H a cs h ∧ cs.length ≤ 1000 ∧ L y = [d] ∧ (¬ (0 ≤ r ∧ r ≤ cs.length + 1) → E (.ref c.NoPlace) none H) ∧ ((0 ≤ r ∧ r ≤ cs.length + 1) → Q (.int (((colL cs h).take r.toNat).count d : Nat)) H)
  | _ => False
theorem ok_m_Letters_before {f : Addr} {fd : FuncData} (F : Fun K "before" "Letters.before" s_m_Letters_before f fd) (B : Bn mg) {c : Cs} (ER : Er K mg c) {C_Letters C_Marks : Addr} (CF : Cf K C_Letters C_Marks) (GC : Gc mg) (G_p_check_place : FnX P w K mg base 1 "check_place" P_p_check_place (sp_p_check_place K c)) : FnOk P w K mg base (CX1 P w) 2 f fd P_m_Letters_before (sp_m_Letters_before K c C_Letters) := by
  refine F.okX sc_m_Letters_before (fun vs H Q E h => ?_) (fun cdv A outer s H vs Q E hr h => ?_) <;> unfold sp_m_Letters_before at h <;> split at h <;> first | exact h.elim | skip
  · rfl
  · rename_i a y r
    obtain ⟨cs, h, d, ⟨dx, tot, fo, hx, _, hm⟩, hl, hy, e, q⟩ := h
    refine ⟨_, (pss_cons (ps_expr (pe_fnX tk_def.toTk G_p_check_place (hr.mono (by decide)) (pa_cons (qv 2) (pa_cons (pe_op o_add (pe_fldC (K := K) rfl CF.cl_Letters CF.na_Letters_last (qv 0)) pe_int) pa_nil))))
        (pss_one (ps_ret (pe_bmK (K := K) rfl PySem.F.plainAttrs_str PySem.F.slot_str_count PySem.F.type_str_count m_countS (pe_fldC (K := K) rfl CF.cl_Letters CF.na_Letters_column (qv 0)) (pa_cons (qv 1) (pa_cons pe_int (pa_cons (qv 2) pa_nil))))))), ?_⟩
    simp only [L2.start, List.map_cons, List.map_nil, List.length_cons, List.length_nil, List.replicate_zero, Nat.reduceAdd, Nat.reduceSub, String.reduceEq, gS, rVar, tC, tSeq, tRet, tDrop, tOp, tCons, tNil, addV, tBM, tyV, tFnX, rCat, rFld, cntS, List.append_nil, sp_p_check_place]
    have hsz : sizeLine = 16777216 := sizeLine_eq
    refine ⟨_, _, _, hx, rfl, ?_⟩
    simp only [L2.start]
    refine ⟨fun hh => ⟨_, _, _, hx, rfl, ?_⟩, fun hh => e hh⟩
    have q := q hh
    simp only [true_and, L_T]
    exact ⟨d, hy, hh.1, q⟩
noncomputable def sp_m_Letters_letter (K : PySem.W.Frag) (c : Cs) (C : Addr) : Sp := fun vs H Q E => match vs with
  | [.ref a, .int r] => ∃ cs h, IsLet C H a cs h ∧ cs.length ≤ 1000 ∧ (¬ (0 ≤ r ∧ r ≤ cs.length) → E (.ref c.NoPlace) none H) ∧ ((0 ≤ r ∧ r ≤ cs.length) → Q (if r = (h : Int) then .non else .str (T [(colL cs h).getD r.toNat 0])) H)
  | _ => False
theorem ok_m_Letters_letter {f : Addr} {fd : FuncData} (F : Fun K "letter" "Letters.letter" s_m_Letters_letter f fd) (B : Bn mg) {c : Cs} (ER : Er K mg c) {C_Letters C_Marks : Addr} (CF : Cf K C_Letters C_Marks) (GC : Gc mg) (G_p_check_place : FnX P w K mg base 1 "check_place" P_p_check_place (sp_p_check_place K c)) : FnOk P w K mg base (CX1 P w) 2 f fd P_m_Letters_letter (sp_m_Letters_letter K c C_Letters) := by
  refine F.okX sc_m_Letters_letter (fun vs H Q E h => ?_) (fun cdv A outer s H vs Q E hr h => ?_) <;> unfold sp_m_Letters_letter at h <;> split at h <;> first | exact h.elim | skip
  · rfl
  · rename_i a r
    obtain ⟨cs, h, ⟨dx, tot, fo, hx, _, hm⟩, hl, e, q⟩ := h
    refine ⟨_, (pss_cons (ps_expr (pe_fnX tk_def.toTk G_p_check_place (hr.mono (by decide)) (pa_cons (qv 1) (pa_cons (pe_fldC (K := K) rfl CF.cl_Letters CF.na_Letters_last (qv 0)) pa_nil))))
        (pss_cons (ps_if (pt_c2 o_eq (qv 1) (pe_fldC (K := K) rfl CF.cl_Letters CF.na_Letters_home (qv 0))) (pss_one (ps_ret pe_non)) pss_nil)
        (pss_one (ps_ret (pe_ix (i_ixK (K := K) rfl) (pe_fldC (K := K) rfl CF.cl_Letters CF.na_Letters_column (qv 0)) (qv 1) (fun _ _ => rfl)))))), ?_⟩
    simp only [L2.start, List.map_cons, List.map_nil, List.length_cons, List.length_nil, List.replicate_zero, Nat.reduceAdd, Nat.reduceSub, gS, rVar, tC, tSeq, tNext, tRet, tDrop, tIfS, tOp, tCons, tNil, tB2, eqR, sc, ixV, tFnX, rFld, List.append_nil, sp_p_check_place]
    have hsz : sizeLine = 16777216 := sizeLine_eq
    have cl := colL_len hm
    refine ⟨_, _, _, hx, rfl, ?_⟩
    simp only [L2.start]
    refine ⟨fun hh => ⟨_, _, _, hx, rfl, ?_⟩, fun hh => e hh⟩
    have q := q hh
    simp only [decide_eq_true_eq]
    refine ite2 (fun e0 => ?_) fun e0 => ⟨_, _, _, hx, rfl, ?_⟩
    · rw [if_pos e0] at q
      exact q
    · rw [if_neg e0] at q
      simp only [L_T]
      exact ⟨by omega, _, atI_getD 0 (by omega) (by omega), q⟩
noncomputable def sp_m_Marks_init (K : PySem.W.Frag) (c : Cs) (CL C : Addr) (tb : Addr) : Sp := fun vs H Q E => match vs with
  | [.ref x, .str z, .int h, .int g] => (L z).length ≤ 62 ∧ (∀ c ∈ L z, c ≠ 10) ∧ Bk_m_Letters_init tb H ∧ (∃ dx, H x = some (.ins C dx [])) ∧
    (¬ (0 ≤ h ∧ h ≤ (L z).length) → ∀ H', MkK x H H' → Bk_m_Letters_init tb H' → E (.ref c.NoPlace) none H') ∧
    ((0 ≤ h ∧ h ≤ (L z).length) → (g < 1 → ∀ H', MkK x H H' → Bk_m_Letters_init tb H' → E (.ref c.NoGap) none H') ∧ (¬ g < 1 → ∀ H', MkK x H H' → Bk_m_Letters_init tb H' → IsMks C CL H' x (L z) h.toNat g → Q .non H'))
  | _ => False
theorem ok_m_Marks_init {f : Addr} {fd : FuncData} (F : Fun K "__init__" "Marks.__init__" s_m_Marks_init f fd) (B : Bn mg) {tb_m_Letters_init : Addr} {c : Cs} (ER : Er K mg c) {C_Letters C_Marks : Addr} (CF : Cf K C_Letters C_Marks) (GC : Gc mg) (G_p_check_gap : FnX P w K mg base 1 "check_gap" P_p_check_gap (sp_p_check_gap K c)) (MK_Letters : Mkr P w K mg base (CX1 P w) 3 "Letters" C_Letters P_m_Letters_init [] (sp_m_Letters_init K c C_Letters tb_m_Letters_init)) (M_m_Letters_before : Md P w K mg base (CX1 P w) 2 C_Letters "before" P_m_Letters_before [] (sp_m_Letters_before K c C_Letters)) : FnOk P w K mg base (CX1 P w) 5 f fd P_m_Marks_init (sp_m_Marks_init K c C_Letters C_Marks tb_m_Letters_init) := by
  refine F.okX sc_m_Marks_init (fun vs H Q E h => ?_) (fun cdv A outer s H vs Q E hr h => ?_) <;> unfold sp_m_Marks_init at h <;> split at h <;> first | exact h.elim | skip
  · rfl
  · rename_i x z h g
    obtain ⟨hl, z10, bk, ⟨dx, hx⟩, e, q⟩ := h
    refine ⟨_, (pss_cons (ps_cut (ps_fldC (K := K) rfl CF.cl_Marks CF.na_Marks_held (qv 0) (pe_mkX tk_def.toTk MK_Letters (hr.mono (by decide)) (pa_cons (qv 1) (pa_cons (qv 2) pa_nil))) rfl))
        (pss_cons (ps_expr (pe_fnX tk_def.toTk G_p_check_gap (hr.mono (by decide)) (pa_cons (qv 3) pa_nil)))
        (pss_cons (ps_fldC (K := K) rfl CF.cl_Marks CF.na_Marks_gap (qv 0) (qv 3) rfl)
        (pss_cons (ps_fldC (K := K) rfl CF.cl_Marks CF.na_Marks_marks (qv 0) (pe_lst pa_nil) rfl)
        (pss_cons (ps_cut (ps_set (i := 4) sc_m_Marks_init.nd rfl (by first | exact Or.inl rfl | exact Or.inr rfl) (pe_callB (c_sortO (w := w) rfl rfl) (by rfl) B.sorted bt_sorted (pa_cons (pe_callTy (c_setT (w := w) rfl rfl) (by rfl) B.set bt_set (pa_cons (qv 1) pa_nil)) pa_nil))))
        (pss_one (ps_rng3 tk_def.own rfl B.range (pa_cons pe_int (pa_cons (pe_op o_add (pe_callB (c_lenK (K := K) rfl) (by rfl) B.len bt_len (pa_cons (qv 1) pa_nil)) pe_int) (pa_cons (qv 3) pa_nil))) (pg_name (i := 5) sc_m_Marks_init.nd rfl (by first | exact Or.inl rfl | exact Or.inr rfl)) (pss_one (ps_expr (pe_bmK (K := K) rfl PySem.F.plainAttrs_list PySem.F.slot_list_append PySem.F.type_list_append mt_append (pe_fldC (K := K) rfl CF.cl_Marks CF.na_Marks_marks (qv 0)) (pa_cons (pe_compL (K := K) rfl (own := ["sign"]) (cp := [(("self" : Str), 0), (("row" : Str), 5)]) rfl rfl rfl (by decide +kernel) (by decide +kernel) ⟨⟨rfl, rfl, rfl⟩, ⟨rfl, rfl, rfl⟩, trivial⟩ (qv 4) (by decide) (fun _ _ _ _ => pg_name (i := 0) (show List.Nodup (["sign", "self", "row"] : List Str) by decide +kernel) rfl (Or.inl rfl) (Or.inr rfl)) (fun _ _ _ _ => pf_nil) (fun _ _ _ _ => (pe_tup (pa_cons (qv 0) (pa_cons (pe_md M_m_Letters_before.quiet (hr.mono (by decide)) (pe_fldC (K := K) rfl CF.cl_Marks CF.na_Marks_held (qv 1)) (pa_cons (qv 0) (pa_cons (qv 2) pa_nil))) pa_nil))))) pa_nil))))))))))), ?_⟩
    have hsz : sizeLine = 16777216 := sizeLine_eq
    refine cutS (fun σ' H' => (0 ≤ h ∧ h ≤ (L z).length) ∧ MkK x H H' ∧ Bk_m_Letters_init tb_m_Letters_init H' ∧ ∃ a, H' x = some (.ins C_Marks dx [(Str.ofString "held", V.ref a)]) ∧ IsLet C_Letters H' a (L z) h.toNat ∧ σ' = [some (V.ref x), some (V.str z), some (V.int h), some (V.int g), none, none]) ?_ ?_
    · simp only [L2.start, List.map_cons, List.map_nil, List.length_cons, List.length_nil, List.replicate_succ, List.replicate_zero, List.cons_append, List.nil_append, Nat.reduceAdd, Nat.reduceSub, true_and, and_true, gS, rVar, tCons, tNil, wFld, tMakeX, List.append_nil, sp_m_Letters_init]
      intro a da ha hda hna
      have hda2 : upd H da (HO.own a) a = none := (upd_ne (Ne.symm hna)).trans ha
      have s0 : Same H (upd (upd H da (HO.own a)) a (HO.ins C_Letters da [])) := Same.upd (Same.updN hda) hda2
      refine ⟨hl, (bk.put hda).put hda2, ⟨da, upd_same⟩, fun w => e w _ ⟨fun b o _ e _ => s0 _ _ e, fun b e => s0.nn e⟩ ((bk.put hda).put hda2), fun w H1 kp nn _ bk1 il1 => ?_⟩
      have hx1 : H1 x = some (.ins C_Marks dx []) := kp x _ (ne_of_none hx ha) (s0 _ _ hx) (by intro ps z; cases z)
      refine ⟨dx, [], hx1, by decide, w, ⟨fun b o hb e n => (upd_ne hb).trans (kp b o (ne_of_none e ha) (s0 _ _ e) n), fun b e => upd_nn (nn b (s0.nn e))⟩, bk_ins bk1 hx1, a, upd_same, il1.same2 fun b o e _ _ n5 => (upd_ne (fun w => ?_)).trans e⟩
      rw [w, hx1] at e
      have := n5 _ _ _ (Option.some.inj e).symm
      cases this
    rintro _ H1 ⟨hh, kp1, bk1, a, hx1, il1, rfl⟩
    obtain ⟨q1, q2⟩ := q hh
    simp only [List.length_cons, List.length_nil, Nat.reduceAdd, gS, rVar, tSeq, tDrop, tCons, tNil, tLst, tFnX, wFld, sp_p_check_gap]
    refine ⟨fun hg => q1 hg H1 kp1 bk1, fun hg => ?_⟩
    have q2 := q2 hg
    refine ⟨dx, _, hx1, by show 1 < 1000; decide, by omega, fun p hp => ⟨dx, _, (upd_ne (ne_of_none upd_same hp)).trans upd_same, by show 2 < 1000; decide, ?_⟩⟩
    have np : p ≠ x := fun w => by rw [w, upd_same] at hp; cases hp
    have hp1 : H1 p = none := (upd_free hp).1
    have x2 : upd (upd (upd H1 x (HO.ins C_Marks dx (putF (Str.ofString "gap") (V.int g) [(Str.ofString "held", V.ref a)]))) p (HO.lst [])) x (HO.ins C_Marks dx (putF (Str.ofString "marks") (V.ref p) (putF (Str.ofString "gap") (V.int g) [(Str.ofString "held", V.ref a)]))) x = some (.ins C_Marks dx (fsM a p g)) := upd_same
    have p2 : upd (upd (upd H1 x (HO.ins C_Marks dx (putF (Str.ofString "gap") (V.int g) [(Str.ofString "held", V.ref a)]))) p (HO.lst [])) x (HO.ins C_Marks dx (putF (Str.ofString "marks") (V.ref p) (putF (Str.ofString "gap") (V.int g) [(Str.ofString "held", V.ref a)]))) p = some (.lst []) := (upd_ne np).trans upd_same
    have kp2 : ∀ b o, b ≠ x → H1 b = some o → upd (upd (upd H1 x (HO.ins C_Marks dx (putF (Str.ofString "gap") (V.int g) [(Str.ofString "held", V.ref a)]))) p (HO.lst [])) x (HO.ins C_Marks dx (putF (Str.ofString "marks") (V.ref p) (putF (Str.ofString "gap") (V.int g) [(Str.ofString "held", V.ref a)]))) b = some o := fun b o hb e => (upd_ne hb).trans ((upd_ne (ne_of_none e hp1)).trans ((upd_ne hb).trans e))
    have nn2 : ∀ b, H1 b ≠ none → upd (upd (upd H1 x (HO.ins C_Marks dx (putF (Str.ofString "gap") (V.int g) [(Str.ofString "held", V.ref a)]))) p (HO.lst [])) x (HO.ins C_Marks dx (putF (Str.ofString "marks") (V.ref p) (putF (Str.ofString "gap") (V.int g) [(Str.ofString "held", V.ref a)]))) b ≠ none := fun b e => upd_nn (upd_nn (upd_nn e))
    have bk2 : Bk_m_Letters_init tb_m_Letters_init (upd (upd (upd H1 x (HO.ins C_Marks dx (putF (Str.ofString "gap") (V.int g) [(Str.ofString "held", V.ref a)]))) p (HO.lst [])) x (HO.ins C_Marks dx (putF (Str.ofString "marks") (V.ref p) (putF (Str.ofString "gap") (V.int g) [(Str.ofString "held", V.ref a)])))) := bk_ins ((bk_ins bk1 hx1).put hp) ((upd_ne (Ne.symm np)).trans upd_same)
    generalize upd (upd (upd H1 x (HO.ins C_Marks dx (putF (Str.ofString "gap") (V.int g) [(Str.ofString "held", V.ref a)]))) p (HO.lst [])) x (HO.ins C_Marks dx (putF (Str.ofString "marks") (V.ref p) (putF (Str.ofString "gap") (V.int g) [(Str.ofString "held", V.ref a)]))) = H2 at x2 p2 kp2 nn2 bk2 ⊢
    have il2 : IsLet C_Letters H2 a (L z) h.toNat := il1.same2 fun b o e _ _ n5 => kp2 b o (fun w => by
      rw [w, hx1] at e
      have := n5 _ _ _ (Option.some.inj e).symm
      cases this) e
    refine cutS (fun σ' H' => Same H2 H' ∧ ∃ (l : Addr) (ds : List Nat), H' l = some (.lst (ds.map fun c => V.str (T [c]))) ∧ H2 l = none ∧ ds.Nodup ∧ (∀ c, c ∈ ds ↔ c ∈ L z) ∧ ds.Pairwise (· ≤ ·) ∧ σ' = [some (V.ref x), some (V.str z), some (V.int h), some (V.int g), some (V.ref l), none]) ?_ ?_
    · simp only [List.set_cons_zero, List.set_cons_succ, gS, rVar, tAsg, gName, tCB, tCons, tNil, setT, sortO]
      refine ⟨by omega, fun r cs hr2 nd mem => ⟨cs, upd_same, ?_, fun l qs hl2 pm pw => ?_⟩⟩
      · have := LO.len_sub nd fun c hc => (mem c).mp hc
        omega
      · exact ⟨Same.upd (Same.updN hr2) hl2, l, qs, upd_same, (upd_free hl2).1, pm.nodup_iff.mpr nd, fun c => pm.mem_iff.trans (mem c), pw, rfl⟩
    rintro _ H3 ⟨sm3, l, ds, h3, hl2, nd, mem, pw, rfl⟩
    have x3 := sm3 _ _ x2
    have p3 := sm3 _ _ p2
    have il3 := il2.same fun b o e _ => sm3 _ _ e
    have nl : l ≠ p := fun w => by rw [w, p2] at hl2; cases hl2
    have ld : ds.length ≤ 62 := by
      have := LO.len_sub nd fun c hc => (mem c).mp hc
      omega
    have dl : ∀ d ∈ ds, d ≠ 10 := fun d hd => z10 d ((mem d).mp hd)
    have g0 : 0 ≤ ((L z).length + 1 : Int) / g := Int.ediv_nonneg (by omega) (by omega)
    simp only [List.map_cons, List.map_nil, List.length_cons, List.length_nil, List.replicate_succ, List.replicate_zero, List.cons_append, List.nil_append, Nat.reduceAdd, true_and, if_true, String.reduceEq, List.set_cons_zero, gS, rVar, tC, tDrop, tOp, tCB, tCons, tNil, tTup, addV, lenV, tBM, tyV, rAppend, tCL, oneC, capS, rFld, tMeth, List.append_nil, tRng3, forC]
    refine ⟨by omega, (((L z).length + 1 : Int) / g + 1).toNat, by omega, ⟨by omega, by omega⟩, ?_, fun k σ H' => (∀ b o, b ≠ p → H3 b = some o → H' b = some o) ∧ ∃ ms v, H' p = some (.lst (ms.map V.ref)) ∧ ms.length = k ∧ MksAt H' ms ds (L z) h.toNat g ∧ (∀ mk ∈ ms, mk ≠ p) ∧ σ = [some (V.ref x), some (V.str z), some (V.int h), some (V.int g), some (V.ref l), v], ⟨fun b o _ e => e, [], _, p3, rfl, fun k mk e => by simp at e, fun mk hm => by simp at hm, rfl⟩, ?_, ?_⟩
    · rw [show ((L z).length : Int) + 2 - 0 - 1 = ((L z).length : Int) + 1 by omega]
      omega
    · rintro k σ H' hk ⟨kp, ms, v, hp', hm, mk, np', rfl⟩
      have k1 : (k : Int) ≤ ((L z).length + 1 : Int) / g := by omega
      have k2 := Int.mul_le_mul_of_nonneg_right k1 (show 0 ≤ g by omega)
      have k3 := Int.ediv_mul_le ((L z).length + 1 : Int) (show g ≠ 0 by omega)
      have k4 : 0 ≤ (k : Int) * g := Int.mul_nonneg (by omega) (by omega)
      have x' := kp x _ (Ne.symm np) x3
      have l' := kp l _ nl h3
      have il' := il1.same2 (H' := H') fun b o e _ _ n5 => kp b o (ne_of_none e hp1) (sm3 _ _ (kp2 b o (fun w => by
        rw [w, hx1] at e
        have := n5 _ _ _ (Option.some.inj e).symm
        cases this) e))
      simp only [List.set_cons_zero, List.set_cons_succ, gS]
      refine ⟨_, _, _, x', rfl, .inl ⟨_, SqL.of hp'⟩, _, SqL.of l', by rw [List.length_map]; omega, fun i H2 acc => Same H' H2 ∧ ∃ ts : List Addr, acc = ts.map V.ref ∧ ts.length = i ∧ ∀ (j : Nat) t d, ts[j]? = some t → ds[j]? = some d → H2 t = some (.tup [.str (T [d]), .int ((((colL (L z) h.toNat).take ((k : Int) * g).toNat).count d : Nat) : Int)]), ⟨Same.refl _, [], rfl, rfl, fun j t d e => by simp at e⟩, ?_, ?_, ?_⟩
      · rintro i H2 acc _ ⟨sm, _⟩
        exact SqL.of (sm _ _ l')
      · rintro i y H2 acc hy ⟨sm, ts, rfl, tl, tp⟩
        rw [List.getElem?_map] at hy
        obtain ⟨d, ed, rfl⟩ := Option.map_eq_some_iff.mp hy
        have il2' := il'.same (H' := H2) fun b o e _ => sm _ _ e
        have ila := il2'
        obtain ⟨da, tot, fo, hla, _⟩ := ila
        simp only [sp_m_Letters_before]
        refine ⟨_, _, _, sm _ _ x', rfl, a, _, _, rfl, hla, rfl, L z, h.toNat, d, il2', by omega, L_T _, fun w => absurd ⟨by omega, by omega⟩ w, fun _ => ⟨by omega, fun t ht => ⟨sm.upd ht, ts ++ [t], by rw [List.map_append]; rfl, by rw [List.length_append, tl]; rfl, fun j t' d' e1 e2 => ?_⟩⟩⟩
        by_cases hj : j < ts.length
        · rw [List.getElem?_append_left hj] at e1
          have := tp j t' d' e1 e2
          exact (upd_ne (ne_of_none this ht)).trans this
        · rw [List.getElem?_append_right (by omega)] at e1
          have h0 : j - ts.length = 0 := by
            have := (List.getElem?_eq_some_iff.mp e1).1
            simp at this
            omega
          rw [h0] at e1
          cases Option.some.inj e1
          rw [show j = i by omega, ed] at e2
          cases Option.some.inj e2
          rw [upd_same, Int.zero_add]
      · rintro H2 acc ⟨sm, ts, rfl, tl, tp⟩ m hm2
        have hmp : m ≠ p := fun w => by rw [w, sm _ _ hp'] at hm2; cases hm2
        refine ⟨p, _, _, rfl, rfl, (upd_ne (Ne.symm hmp)).trans (sm _ _ hp'), ?_, ?_⟩
        · rw [List.length_map]
          have k5 : ((L z).length + 1 : Int) / g ≤ ((L z).length + 1 : Int) := Int.ediv_le_self _ (by omega)
          omega
        · have kq : ∀ b o, b ≠ p → H' b = some o → upd (upd H2 m (HO.lst (ts.map V.ref))) p (HO.lst (ms.map V.ref ++ [V.ref m])) b = some o := fun b o hb e => (upd_ne hb).trans ((upd_ne (ne_of_none (sm _ _ e) hm2)).trans (sm _ _ e))
          refine ⟨fun b o hb e => kq b o hb (kp b o hb e), ms ++ [m], _, ?_, by rw [List.length_append, hm]; rfl, fun i mk' e => ?_, fun mk' hmk => ?_, rfl⟩
          · rw [upd_same, List.map_append]
            rfl
          · by_cases hi : i < ms.length
            · rw [List.getElem?_append_left hi] at e
              exact (mk i mk' e).keep (fun b xs e => kq b _ (fun w => by rw [w, hp'] at e; cases e) e) fun xs e2 => kq _ _ (np' _ (List.mem_of_getElem? e)) e2
            · rw [List.getElem?_append_right (by omega)] at e
              have h0 : i - ms.length = 0 := by
                have := (List.getElem?_eq_some_iff.mp e).1
                simp at this
                omega
              rw [h0] at e
              cases Option.some.inj e
              rw [List.length_map] at tl
              rw [show i = k by omega]
              refine ⟨ts, (upd_ne hmp).trans upd_same, tl, fun j t d e1 e2 => ?_⟩
              have g1 := tp j t d e1 e2
              exact (upd_ne (fun w => by rw [w, sm _ _ hp'] at g1; cases g1)).trans ((upd_ne (ne_of_none g1 hm2)).trans g1)
          · rcases List.mem_append.mp hmk with hmk | hmk
            · exact np' _ hmk
            · rw [List.mem_singleton.mp hmk]
              exact hmp
    · rintro σ H' ⟨kp, ms, v, hp', hm, mk, np', rfl⟩
      have kz : ∀ b o, b ≠ x → H1 b = some o → H' b = some o := fun b o hb e => kp b o (ne_of_none e hp1) (sm3 _ _ (kp2 b o hb e))
      have bk3 := bk_same bk2 sm3
      refine q2 H' ⟨fun b o hb e n => kz b o hb (kp1.1 b o hb e n), fun b e w => ?_⟩ ?_ ⟨dx, a, p, ms, ds, kp x _ (Ne.symm np) x3, il1.same2 fun b o e _ _ n5 => kz b o (fun w => by
        rw [w, hx1] at e
        have := n5 _ _ _ (Option.some.inj e).symm
        cases this) e, by omega, ⟨nd, mem, pw⟩, hp', by rw [hm]; omega, mk⟩
      · have e1 := sm3.nn (nn2 b (kp1.2 b e))
        cases hb : H3 b with
        | none => exact e1 hb
        | some o =>
          by_cases hbp : b = p
          · rw [hbp, hp'] at w
            cases w
          · rw [kp b o hbp hb] at w
            cases w
      · rcases bk3 with h | ⟨c', h1, h2⟩
        · exact .inl (kp _ _ (fun w => by rw [w, p3] at h; cases h) h)
        · exact .inr ⟨c', kp _ _ (fun w => by rw [w, p3] at h1; cases h1) h1, kp _ _ (fun w => by rw [w, p3] at h2; cases h2) h2⟩
theorem valV_fill (f : Nat → Nat) (d : Nat) : ∀ (ds : List Nat) (acc : List (Key × V)), valV (fillV (ds.map fun d => ((Sum.inr (T [d]) : Key), V.int (f d : Nat))) acc) (Sum.inr (T [d])) = if d ∈ ds then some (.int (f d : Nat)) else valV acc (Sum.inr (T [d]))
  | [], acc => by simp [fillV]
  | e :: ds, acc => by
    show valV (fillV (ds.map fun d => ((Sum.inr (T [d]) : Key), V.int (f d : Nat))) (putK acc (Sum.inr (T [e])) (.int (f e : Nat)))) _ = _
    rw [valV_fill f d ds, valV_put]
    by_cases h : d ∈ ds
    · rw [if_pos h, if_pos (List.mem_cons_of_mem _ h)]
    · rw [if_neg h]
      by_cases w : d = e
      · subst w
        rw [if_pos rfl, if_pos List.mem_cons_self]
      · have n1 : ¬ (Sum.inr (T [d]) : Key) = Sum.inr (T [e]) := fun z => w (by
          have := congrArg L (Sum.inr.inj z)
          rw [L_T, L_T] at this
          exact List.head_eq_of_cons_eq this)
        have n2 : ¬ d ∈ e :: ds := fun z => (List.mem_cons.mp z).elim w h
        rw [if_neg n1, if_neg n2]
theorem count_part {col : List Nat} {d h b : Nat} (hd : d ≠ 10) (h10 : col.getD h 0 = 10) : ∀ n, b + n ≤ col.length → ((List.range n).map fun i => if b + i = h then V.non else V.str (T [col.getD (b + i) 0])).countP (fun z => eqV z (V.str (T [d]))) = ((col.drop b).take n).count d
  | 0, _ => rfl
  | n + 1, hb => by
    have ih := count_part (b := b) hd h10 n (by omega)
    rw [List.range_succ, List.map_append, List.countP_append, ih, List.take_add_one, List.count_append, List.getElem?_drop, List.getElem?_eq_getElem (by omega), Option.toList_some, List.map_singleton, List.countP_singleton]
    congr 1
    have eg : col.getD (b + n) 0 = col[b + n]'(by omega) := by rw [List.getD_eq_getElem?_getD, List.getElem?_eq_getElem (by omega)]; rfl
    rw [← eg]
    by_cases w : b + n = h
    · rw [if_pos w]
      rw [w, h10]
      simp [eqV, Ne.symm hd]
    · rw [if_neg w]
      by_cases e : col.getD (b + n) 0 = d
      · rw [e]
        simp [eqV]
      · have : T [col.getD (b + n) 0] ≠ T [d] := fun z => e (by have := congrArg L z; rw [L_T, L_T] at this; exact List.head_eq_of_cons_eq this)
        have e' : (col.getD (b + n) 0 == d) = false := by simpa using e
        have e1 : eqV (V.str (T [col.getD (b + n) 0])) (V.str (T [d])) = false := by
          simp only [eqV]
          exact beq_false_of_ne this
        rw [List.count_singleton, e', e1]
noncomputable def sp_m_Marks_before (K : PySem.W.Frag) (c : Cs) (CL C : Addr) : Sp := fun vs H Q E => match vs with
  | [.ref x, .str y, .int r] => ∃ cs h g d, IsMks C CL H x cs h g ∧ cs.length ≤ 62 ∧ (∀ c ∈ cs, c ≠ 10) ∧ L y = [d] ∧ d ≠ 10 ∧ (¬ (0 ≤ r ∧ r ≤ cs.length + 1) → E (.ref c.NoPlace) none H) ∧ ((0 ≤ r ∧ r ≤ cs.length + 1) → ∀ H', Same H H' → Q (.int (((colL cs h).take r.toNat).count d : Nat)) H')
  | _ => False
theorem ok_m_Marks_before {f : Addr} {fd : FuncData} (F : Fun K "before" "Marks.before" s_m_Marks_before f fd) (B : Bn mg) {c : Cs} (ER : Er K mg c) {C_Letters C_Marks : Addr} (CF : Cf K C_Letters C_Marks) (GC : Gc mg) (G_p_check_place : FnX P w K mg base 1 "check_place" P_p_check_place (sp_p_check_place K c)) (M_m_Letters_letter : Md P w K mg base (CX1 P w) 2 C_Letters "letter" P_m_Letters_letter [] (sp_m_Letters_letter K c C_Letters)) : FnOk P w K mg base (CX1 P w) 3 f fd P_m_Marks_before (sp_m_Marks_before K c C_Letters C_Marks) := by
  refine F.okX sc_m_Marks_before (fun vs H Q E h => ?_) (fun cdv A outer s H vs Q E hr h => ?_) <;> unfold sp_m_Marks_before at h <;> split at h <;> first | exact h.elim | skip
  · rfl
  · rename_i x y r
    obtain ⟨cs, h, g, d, mk, hl, c10, hy, d10, e, q⟩ := h
    obtain ⟨dx, a, m, ms, ds, hx, il, g1, ⟨nd, mem, pw⟩, hm, ml, mks⟩ := mk
    refine ⟨_, (pss_cons (ps_expr (pe_fnX tk_def.toTk G_p_check_place (hr.mono (by decide)) (pa_cons (qv 2) (pa_cons (pe_op o_add (pe_fldC (K := K) rfl CF.cl_Letters CF.na_Letters_last (pe_fldC (K := K) rfl CF.cl_Marks CF.na_Marks_held (qv 0))) pe_int) pa_nil))))
        (pss_cons (ps_cut (ps_set (i := 3) sc_m_Marks_before.nd rfl (by first | exact Or.inl rfl | exact Or.inr rfl) (pe_dget2 (hu_of hr) (pe_callTy (c_dictP rfl) (by rfl) B.dict bt_dict (pa_cons (pe_ix (i_ixK (K := K) rfl) (pe_fldC (K := K) rfl CF.cl_Marks CF.na_Marks_marks (qv 0)) (pe_op o_fdivX (qv 2) (pe_fldC (K := K) rfl CF.cl_Marks CF.na_Marks_gap (qv 0))) (fun _ _ => rfl)) pa_nil)) (qv 1) pe_int ⟨rfl, rfl, rfl, rfl⟩)))
        (pss_cons (ps_cut (ps_compR2 (i₀ := 4) B.range (own := ["at"]) (cp := [(("self" : Str), 0)]) rfl rfl rfl (by decide +kernel) (by decide +kernel) ⟨⟨rfl, rfl, rfl⟩, trivial⟩ (pa_cons (pe_op o_sub (qv 2) (pe_op o_mod (qv 2) (pe_fldC (K := K) rfl CF.cl_Marks CF.na_Marks_gap (qv 0)))) (pa_cons (qv 2) pa_nil)) (by decide) (fun _ _ _ _ => pg_name (i := 0) (show List.Nodup (["at", "self"] : List Str) by decide +kernel) rfl (Or.inl rfl) (Or.inr rfl)) (fun _ _ _ _ => pf_nil) (fun _ _ _ _ => (pe_md M_m_Letters_letter.quiet (hr.mono (by decide)) (pe_fldC (K := K) rfl CF.cl_Marks CF.na_Marks_held (qv 1)) (pa_cons (qv 0) pa_nil))) sc_m_Marks_before.nd rfl rfl))
        (pss_one (ps_ret (pe_op o_add (qv 3) (pe_bmK (K := K) rfl PySem.F.plainAttrs_list PySem.F.slot_list_count PySem.F.type_list_count (m_countF (K := K) rfl) (qv 4) (pa_cons (qv 1) pa_nil)))))))), ?_⟩
    have hsz : sizeLine = 16777216 := sizeLine_eq
    have ila := il
    obtain ⟨da, tot, fo, hla, _, hm2⟩ := ila
    simp only [L2.start, List.map_cons, List.map_nil, List.length_cons, List.length_nil, List.replicate_succ, List.replicate_zero, List.cons_append, List.nil_append, Nat.reduceAdd, Nat.reduceSub, gS, rVar, tC, tSeq, tDrop, tOp, tCons, tNil, addV, tFnX, rCat, fdivX, rFld, sp_p_check_place]
    refine ⟨_, _, _, hx, rfl, ?_⟩
    simp only [L2.start]
    refine ⟨_, _, _, hla, rfl, ?_⟩
    simp only [L2.start]
    refine ⟨fun hh => ?_, fun hh => e (by omega)⟩
    obtain ⟨r, rfl⟩ : ∃ k : Nat, r = (k : Int) := ⟨r.toNat, by omega⟩
    replace q := q ⟨by omega, by omega⟩
    rw [Int.toNat_natCast] at q
    have m0 := Int.emod_nonneg (r : Int) (show g ≠ 0 by omega)
    have m1 := Int.emod_lt_of_pos (r : Int) (show 0 < g by omega)
    have m2 := Int.emod_add_mul_ediv (r : Int) g
    have m3 : 0 ≤ (r : Int) / g := Int.ediv_nonneg (by omega) (by omega)
    have m4 : (r : Int) / g ≤ ((cs.length : Int) + 1) / g := Int.ediv_le_ediv (by omega) (by omega)
    obtain ⟨b, eb⟩ : ∃ b : Nat, (r : Int) / g * g = (b : Int) := ⟨((r : Int) / g * g).toNat, by have := Int.mul_nonneg m3 (show 0 ≤ g by omega); omega⟩
    rw [Int.mul_comm] at m2
    refine cutS (fun σ' H' => Same H H' ∧ σ' = [some (V.ref x), some (V.str y), some (V.int (r : Int)), some (V.int (((colL cs h).take b).count d : Nat)), none]) ?_ ?_
    · simp only [List.set_cons_zero, List.set_cons_succ, gS, rVar, tC, tAsg, gName, tOp, tCB, tCons, tNil, int2, ixV, dictP, tDGet2, rFld]
      refine ⟨_, _, _, hx, rfl, _, _, _, hx, rfl, ?_⟩
      simp only [L2.start]
      obtain ⟨j, ej⟩ : ∃ j : Nat, (r : Int) / g = (j : Int) := ⟨((r : Int) / g).toNat, by omega⟩
      have hj : j < ms.length := by omega
      have aj : atI (ms.map V.ref) ((r : Int) / g) = some (V.ref ms[j]) := by
        unfold atI ixN
        rw [ej, if_pos (by omega), if_pos (by rw [List.length_map]; omega), Int.toNat_natCast, Option.bind_some, List.getElem?_map, List.getElem?_eq_getElem hj]
        rfl
      have mkj := mks j _ (List.getElem?_eq_getElem hj)
      rw [show ((j : Int) * g).toNat = b by rw [← ej, eb, Int.toNat_natCast]] at mkj
      obtain ⟨ts, t1, t2, t3⟩ := mkj
      refine ⟨⟨by omega, by omega⟩, _, _, .inl (SqL.of hm), aj, ts, ds.map fun d => ((Sum.inr (T [d]) : Key), V.int (((colL cs h).take b).count d : Nat)), t1, by rw [List.length_map, t2], fun j t p e1 e2 => ?_, fun D hD => ⟨D, rfl, .inl ⟨_, .inl upd_same⟩, _, DGet.k (k := Sum.inr y) upd_same, Same.updN hD, ?_⟩⟩
      · rw [List.getElem?_map] at e2
        obtain ⟨d', ed, rfl⟩ := Option.map_eq_some_iff.mp e2
        exact t3 j t d' e1 ed
      · have ey : y = T [d] := by rw [← hy, T_L]
        rw [ey, valV_fill (fun d => ((colL cs h).take b).count d) d ds []]
        by_cases hd : d ∈ ds
        · rw [if_pos hd]
          rfl
        · rw [if_neg hd]
          have nc : ((colL cs h).take b).count d = 0 := List.count_eq_zero.mpr fun z => hd ((mem d).mpr ?_)
          · rw [nc]
            rfl
          · have z2 := List.mem_of_mem_take z
            unfold colL at z2
            rcases List.mem_append.mp z2 with z2 | z2
            · exact List.mem_of_mem_take z2
            · rcases List.mem_cons.mp z2 with z2 | z2
              · exact absurd z2 d10
              · exact List.mem_of_mem_drop z2
    rintro _ H1 ⟨sm1, rfl⟩
    refine cutS (fun σ' H' => Same H H' ∧ ∃ l, H' l = some (.lst ((List.range (r - b)).map fun i => if b + i = h then V.non else V.str (T [(colL cs h).getD (b + i) 0]))) ∧ σ' = [some (V.ref x), some (V.str y), some (V.int (r : Int)), some (V.int (((colL cs h).take b).count d : Nat)), some (V.ref l)]) ?_ ?_
    · simp only [List.map_cons, List.map_nil, List.replicate_succ, List.replicate_zero, List.cons_append, List.nil_append, if_true, List.set_cons_zero, List.set_cons_succ, gS, rVar, tAsg, gName, tOp, tCons, tNil, oneC, capS, tCR2, rFld, tMeth, List.append_nil]
      refine ⟨_, _, _, sm1 _ _ hx, rfl, ?_⟩
      simp only [int2, int2', modV, subV]
      have er : (r : Int) - (r : Int) % g = (b : Int) := by omega
      rw [er]
      refine ⟨by omega, ⟨by omega, by omega, by omega, by omega, by omega⟩, fun i H2 acc => H2 = H1 ∧ acc = (List.range i).map fun i => if b + i = h then V.non else V.str (T [(colL cs h).getD (b + i) 0]), ⟨rfl, rfl⟩, ?_, ?_⟩
      · rintro i H2 acc hi ⟨rfl, rfl⟩
        have il1 := il.same fun b o e _ => sm1 _ _ e
        simp only [sp_m_Letters_letter]
        refine ⟨_, _, _, sm1 _ _ hx, rfl, a, _, _, rfl, sm1 _ _ hla, rfl, cs, h, il1, by omega, fun w => absurd ⟨by omega, by omega⟩ w, fun _ => ⟨trivial, ?_⟩⟩
        rw [List.range_succ, List.map_append, show ((b : Int) + (i : Int)).toNat = b + i by omega]
        congr 1
        by_cases w : b + i = h
        · rw [List.map_singleton, if_pos w, if_pos (by omega)]
        · rw [List.map_singleton, if_neg w, if_neg (by omega)]
      · rintro H2 acc ⟨rfl, rfl⟩ l hl2
        refine ⟨sm1.upd hl2, l, ?_, rfl⟩
        rw [upd_same, show ((r : Int) - (b : Int)).toNat = r - b by omega]
    rintro _ H2 ⟨sm2, l, h2, rfl⟩
    simp only [true_and, String.reduceEq, gS, rVar, tRet, tOp, tCons, tNil, addV, tBM, tyV, cntF]
    have ey : y = T [d] := by rw [← hy, T_L]
    refine ⟨.inl ⟨_, SqL.of h2⟩, l, _, _, rfl, rfl, SqL.of h2, ?_, rfl, ?_⟩
    · rw [List.all_map, List.all_eq_true]
      intro i _
      show flatV (if b + i = h then V.non else V.str (T [(colL cs h).getD (b + i) 0])) = true
      split <;> rfl
    · have cl := colL_len hm2
      rw [ey, count_part d10 (colL_home hm2) (r - b) (by omega), ← Int.natCast_add, ← List.count_append, ← List.take_add, show b + (r - b) = r by omega]
      exact q _ sm2
noncomputable def sp_m_Marks_kept (K : PySem.W.Frag) (C : Addr) : Sp := fun vs H Q _ => match vs with
  | [.ref x] => ∃ CL cs h g, IsMks C CL H x cs h g ∧ cs.length ≤ 62 ∧ ∀ p H' ds (ms : List Addr), Same H H' → ds.Nodup → (∀ c, c ∈ ds ↔ c ∈ cs) → ds.Pairwise (· ≤ ·) → H p = none → (∀ m ∈ ms, H m = none) → H' p = some (.lst (ms.map V.ref)) → (ms.length : Int) = ((cs.length : Int) + 1) / g + 1 → MksAt H' ms ds cs h g → Q (.ref p) H'
  | _ => False
theorem ok_m_Marks_kept {f : Addr} {fd : FuncData} (F : Fun K "kept" "Marks.kept" s_m_Marks_kept f fd) (B : Bn mg) {c : Cs} (ER : Er K mg c) {C_Letters C_Marks : Addr} (CF : Cf K C_Letters C_Marks) (GC : Gc mg)  : FnOk P w K mg base CX0 1 f fd P_m_Marks_kept (sp_m_Marks_kept K C_Marks) := by
  refine F.ok sc_m_Marks_kept (fun vs H Q E h => ?_) (fun cdv A outer s H vs Q E hr h => ?_) <;> unfold sp_m_Marks_kept at h <;> split at h <;> first | exact h.elim | skip
  · rfl
  · rename_i x
    obtain ⟨CL, cs, h, g, im, hl, q⟩ := h
    refine ⟨_, (pss_one (ps_ret (pe_compL (K := K) rfl (own := ["mark"]) (cp := []) rfl rfl rfl (by decide +kernel) (by decide +kernel) trivial (pe_fldC (K := K) rfl CF.cl_Marks CF.na_Marks_marks (qv 0)) (by decide) (fun _ _ _ _ => pg_name (i := 0) (show List.Nodup (["mark"] : List Str) by decide +kernel) rfl (Or.inl rfl) (Or.inr rfl)) (fun _ _ _ _ => pf_nil) (fun _ _ _ _ => (pe_callTy (c_listVK (K := K) rfl rfl) (by rfl) B.list bt_list (pa_cons (qv 0) pa_nil)))))), ?_⟩
    have hsz : sizeLine = 16777216 := sizeLine_eq
    obtain ⟨dx, a, m, ms, ds, hx, il, g1, ⟨nd, mem, pw⟩, hm, ml, mks⟩ := im
    simp only [L2.start, List.map_cons, List.map_nil, List.length_cons, List.length_nil, List.replicate_succ, List.replicate_zero, Nat.reduceAdd, Nat.reduceSub, if_true, List.set_cons_zero, gS, rVar, tRet, tCB, tCons, tNil, listV, tCL, oneC, capS, rFld, List.append_nil]
    refine ⟨_, _, _, hx, rfl, ?_⟩
    have k5 : ((cs.length : Int) + 1) / g ≤ (cs.length : Int) + 1 := Int.ediv_le_self _ (by omega)
    have lds : ds.length ≤ 62 := by
      have := LO.len_sub nd fun c hc => (mem c).mp hc
      omega
    simp only [L2.start]
    refine ⟨_, SqL.of hm, by rw [List.length_map]; omega, fun i H2 acc => Same H H2 ∧ ∃ ms' : List Addr, acc = ms'.map V.ref ∧ ms'.length = i ∧ MksAt H2 ms' ds cs h g ∧ ∀ m ∈ ms', H m = none, ⟨Same.refl _, [], rfl, rfl, fun k mk e => by simp at e, fun m hm => by simp at hm⟩, ?_, ?_, ?_⟩
    · rintro i H2 acc _ ⟨sm, _⟩
      exact SqL.of (sm _ _ hm)
    · rintro i y H2 acc hy ⟨sm, ms', rfl, ml', mk', fr⟩
      rw [List.getElem?_map] at hy
      obtain ⟨mi, ei, rfl⟩ := Option.map_eq_some_iff.mp hy
      obtain ⟨ts, t1, t2, t3⟩ := mks i mi ei
      simp only [L2.start]
      refine ⟨_, .inl (SqL.of (sm _ _ t1)), by rw [List.length_map]; omega, fun l hl2 => ⟨sm.upd hl2, ms' ++ [l], by rw [List.map_append]; rfl, by rw [List.length_append, ml']; rfl, fun k mk e => ?_, fun m' hm' => ?_⟩⟩
      · by_cases hk : k < ms'.length
        · rw [List.getElem?_append_left hk] at e
          exact (mk' k mk e).keep (fun b xs e => (upd_ne (ne_of_none e hl2)).trans e) fun xs e => (upd_ne (ne_of_none e hl2)).trans e
        · rw [List.getElem?_append_right (by omega)] at e
          have h0 : k - ms'.length = 0 := by
            have := (List.getElem?_eq_some_iff.mp e).1
            simp at this
            omega
          rw [h0] at e
          cases Option.some.inj e
          rw [show k = i by omega]
          exact ⟨ts, upd_same, t2, fun j t d e1 e2 => (Same.upd sm hl2) _ _ (t3 j t d e1 e2)⟩
      · rcases List.mem_append.mp hm' with hm' | hm'
        · exact fr _ hm'
        · rw [List.mem_singleton.mp hm']
          exact sm.free hl2
    · rintro H2 acc ⟨sm, ms', rfl, ml', mk', fr⟩ p hp
      rw [List.length_map] at ml'
      exact q p _ ds ms' (sm.upd hp) nd mem pw (sm.free hp) fr upd_same (by rw [ml']; exact ml) fun k mk e => (mk' k mk e).keep (fun b xs e => (upd_ne (ne_of_none e hp)).trans e) fun xs e => (upd_ne (ne_of_none e hp)).trans e
noncomputable def sp_w_cell_at (K : PySem.W.Frag) : Sp := fun vs H Q _ => match vs with
  | [.ref a, .int k] => ∃ ns : List Int, SqL K H a (ns.map V.int) ∧ 0 ≤ k ∧ Q (.int (cellAt ns k)) H
  | _ => False
theorem ok_w_cell_at {f : Addr} {fd : FuncData} (F : Fun K "_law_cell_at" "_law_cell_at" s_w_cell_at f fd) (B : Bn mg) {c : Cs} (ER : Er K mg c) {C_Letters C_Marks : Addr} (CF : Cf K C_Letters C_Marks) (GC : Gc mg)  : FnOk P w K mg base CX0 1 f fd P_w_cell_at (sp_w_cell_at K) := by
  refine F.pure sc_w_cell_at (fun vs H Q E h => ?_) (fun cdv A outer s H vs Q E hr h => ?_) <;> unfold sp_w_cell_at at h <;> split at h <;> first | exact h.elim | skip
  · rfl
  · rename_i a k
    obtain ⟨ns, hS, hk, q⟩ := h
    refine ⟨_, (pss_cons (ps_if (pt_c2 o_lt (qv 1) (pe_callB (c_lenK (K := K) rfl) (by rfl) B.len bt_len (pa_cons (qv 0) pa_nil))) (pss_one (ps_ret (pe_ix (i_ixK (K := K) rfl) (qv 0) (qv 1) (fun _ _ => rfl)))) pss_nil)
        (pss_one (ps_ret pe_int))), ?_⟩
    simp only [L2.start, List.map_cons, List.map_nil, List.length_cons, List.length_nil, List.replicate_zero, List.cons_append, List.nil_append, Nat.reduceAdd, Nat.reduceSub, decide_eq_true_eq, gS, rVar, tC, tSeq, tNext, tRet, tIfS, tOp, tCB, tCons, tNil, tB2, ltV, ixV, lenV]
    refine ⟨_, .inl hS, ?_⟩
    unfold cellAt at q
    rw [List.length_map]
    refine ite2 (fun h1 => ?_) (fun h1 => ?_)
    · rw [if_pos h1] at q
      exact ⟨_, _, .inl hS, atI_getD (.int 0) hk (by simpa using h1), Same.refl _, by rw [getD_int]; exact q⟩
    · rw [if_neg h1] at q
      exact ⟨Same.refl _, q⟩
noncomputable def sp_w_mixed (K : PySem.W.Frag) : Sp := fun vs H Q _ => match vs with
  | [.int _, .int _, .int m] => 0 < m ∧ ∀ r : Int, 0 ≤ r → r < m → Q (.int r) H
  | _ => False
theorem ok_w_mixed {f : Addr} {fd : FuncData} (F : Fun K "_law_mixed" "_law_mixed" s_w_mixed f fd) (B : Bn mg) {c : Cs} (ER : Er K mg c) {C_Letters C_Marks : Addr} (CF : Cf K C_Letters C_Marks) (GC : Gc mg)  : FnOk P w K mg base CX0 1 f fd P_w_mixed (sp_w_mixed K) := by
  refine F.pure sc_w_mixed (fun vs H Q E h => ?_) (fun cdv A outer s H vs Q E hr h => ?_) <;> unfold sp_w_mixed at h <;> split at h <;> first | exact h.elim | skip
  · rfl
  · rename_i c t m
    obtain ⟨hm, q⟩ := h
    refine ⟨_, (pss_cons (ps_cut (ps_set (i := 3) sc_w_mixed.nd rfl (by first | exact Or.inl rfl | exact Or.inr rfl) (pe_tup (pa_cons pe_int (pa_cons pe_int (pa_cons pe_int (pa_cons pe_int (pa_cons pe_int (pa_cons pe_int (pa_cons pe_int (pa_cons pe_int pa_nil)))))))))))
        (pss_cons (ps_cut (ps_set (i := 4) sc_w_mixed.nd rfl (by first | exact Or.inl rfl | exact Or.inr rfl) (pe_tup (pa_cons pe_int (pa_cons pe_int (pa_cons pe_int (pa_cons pe_int (pa_cons pe_int (pa_cons pe_int (pa_cons pe_int (pa_cons pe_int pa_nil)))))))))))
        (pss_one (ps_ret (pe_op o_mod (pe_op o_mod (pe_op o_mul (pe_op o_add (pe_op o_mod (qv 0) (pe_op o_pow pe_int pe_int)) pe_int) (pe_ix (i_ixK (K := K) rfl) (qv 3) (pe_op o_mod (qv 1) pe_int) (fun _ _ => rfl))) (pe_ix (i_ixK (K := K) rfl) (qv 4) (pe_op o_mod (qv 1) pe_int) (fun _ _ => rfl))) (qv 2)))))), ?_⟩
    refine cutS (fun σ' H' => ∃ p, Same H H' ∧ H' p = some (.tup (byL.map V.int)) ∧ σ' = [some (V.int c), some (V.int t), some (V.int m), some (V.ref p), none]) ?_ ?_
    · simp only [L2.start, List.map_cons, List.map_nil, List.length_cons, List.length_nil, List.replicate_succ, List.replicate_zero, List.cons_append, List.nil_append, Nat.reduceAdd, Nat.reduceSub, List.set_cons_zero, List.set_cons_succ, tC, tAsg, gName, tCons, tNil, tTup]
      exact ⟨by decide, fun p hp => ⟨p, Same.updN hp, upd_same, rfl⟩⟩
    rintro _ H1 ⟨p, sm1, h1, rfl⟩
    refine cutS (fun σ' H' => ∃ p', Same H H' ∧ H' p = some (.tup (byL.map V.int)) ∧ H' p' = some (.tup (primeL.map V.int)) ∧ σ' = [some (V.int c), some (V.int t), some (V.int m), some (V.ref p), some (V.ref p')]) ?_ ?_
    · simp only [List.length_cons, List.length_nil, Nat.reduceAdd, List.set_cons_zero, List.set_cons_succ, tC, tAsg, gName, tCons, tNil, tTup]
      exact ⟨by decide, fun p' hp' => ⟨p', sm1.upd hp', (upd_ne (ne_of_none h1 hp')).trans h1, upd_same, rfl⟩⟩
    rintro _ H2 ⟨p', sm2, h1, h2, rfl⟩
    simp only [Int.reduceLT, true_and, gS, rVar, tC, tRet, tOp, addV, mulV, int2, ixV]
    have t0 : 0 ≤ t % 8 := Int.emod_nonneg _ (by decide)
    have t1 : t % 8 < 8 := Int.emod_lt_of_pos _ (by decide)
    have c0 : 0 ≤ c % 1000000000000000000 := Int.emod_nonneg _ (by decide)
    have c1 : c % 1000000000000000000 < 1000000000000000000 := Int.emod_lt_of_pos _ (by decide)
    have e18 : (10 : Int) ^ (18 : Int).toNat = 1000000000000000000 := by decide
    rw [e18]
    exact ⟨⟨by decide, by decide, by decide⟩, by decide, _, _, .inr (SqT.of h1), atI_int (l := byL) t0 t1, .inl ⟨by omega, by omega⟩, _, _, .inr (SqT.of h2), atI_int (l := primeL) t0 t1, prime_pos t0 t1, hm, sm2, q _ (Int.emod_nonneg _ (by omega)) (Int.emod_lt_of_pos _ hm)⟩
noncomputable def sp_w_signs (K : PySem.W.Frag) : Sp := fun vs H Q _ => match vs with
  | [] => Q (.str (T signs)) H
  | _ => False
theorem ok_w_signs {f : Addr} {fd : FuncData} (F : Fun K "_law_signs" "_law_signs" s_w_signs f fd) (B : Bn mg) {c : Cs} (ER : Er K mg c) {C_Letters C_Marks : Addr} (CF : Cf K C_Letters C_Marks) (GC : Gc mg)  : FnOk P w K mg base CX0 1 f fd P_w_signs (sp_w_signs K) := by
  refine F.pure sc_w_signs (fun vs H Q E h => ?_) (fun cdv A outer s H vs Q E hr h => ?_) <;> unfold sp_w_signs at h <;> split at h <;> first | exact h.elim | skip
  · rfl
  · refine ⟨_, (pss_cons (ps_set (i := 0) sc_w_signs.nd rfl (by first | exact Or.inl rfl | exact Or.inr rfl) pe_str)
        (pss_one (ps_ret (pe_op o_add (qv 0) pe_str)))), ?_⟩
    simp only [L2.start, List.map_nil, List.length_cons, List.length_nil, List.replicate_succ, List.replicate_zero, List.nil_append, Nat.reduceAdd, Nat.reduceSub, List.set_cons_zero, gS, rVar, tC, tSeq, tAsg, gName, tRet, tOp, addV]
    refine ⟨by decide +kernel, Same.refl _, ?_⟩
    have e : L (Str.ofString " !\"#$&'()*+,-./0123456789:;<=>?@ABCDEFGHIJKLMNOPQRSTUVWXYZ[\\]^_`") ++ L (Str.ofString "abcdefghijklmnopqrstuvwxyz{|}~") = signs := by decide +kernel
    rw [e]
    exact h
noncomputable def sp_w_whole (K : PySem.W.Frag) : Sp := fun vs H Q _ => match vs with
  | [.int _] => Q (.bl true) H
  | _ => False
theorem ok_w_whole {f : Addr} {fd : FuncData} (F : Fun K "_law_whole" "_law_whole" s_w_whole f fd) (B : Bn mg) {c : Cs} (ER : Er K mg c) {C_Letters C_Marks : Addr} (CF : Cf K C_Letters C_Marks) (GC : Gc mg)  : FnOk P w K mg base CX0 1 f fd P_w_whole (sp_w_whole K) := by
  refine F.pure sc_w_whole (fun vs H Q E h => ?_) (fun cdv A outer s H vs Q E hr h => ?_) <;> unfold sp_w_whole at h <;> split at h <;> first | exact h.elim | skip
  · rfl
  · refine ⟨_, (pss_one (ps_ret (pe_and2 (pe_callB (c_isiK (K := K) rfl) (by rfl) B.isinstance bt_isinstance (pa_cons (qv 0) (pa_cons (pe_bltn (v := .ty "int") rfl B.int bt_int rfl) pa_nil))) (pe_one (pe_not2 (pe_callB (c_isiK (K := K) rfl) (by rfl) B.isinstance bt_isinstance (pa_cons (qv 0) (pa_cons (pe_bltn (v := .ty "bool") rfl B.bool bt_bool rfl) pa_nil)))))))), ?_⟩
    simp only [L2.start, List.map_cons, List.map_nil, List.length_cons, List.length_nil, List.replicate_zero, List.cons_append, List.nil_append, Nat.reduceAdd, Nat.reduceSub, if_true, if_false, String.reduceEq, Bool.not_false, gS, rVar, tC, tRet, tCB, tCons, tNil, vAnd, vNot, isiV, isS]
    exact ⟨Same.refl _, h⟩
noncomputable def sp_w_letters_by (K : PySem.W.Frag) : Sp := fun vs H Q _ => match vs with
  | [.ref a, .int _] => ∃ cells : List Int, SqL K H a (cells.map V.int) ∧ cells.length ≤ 300 ∧ ∀ l : List Nat, l.length = cells.length → (∀ c ∈ l, c ∈ signs) → Q (.str (T l)) H
  | _ => False
theorem ok_w_letters_by {f : Addr} {fd : FuncData} (F : Fun K "_law_letters_by" "_law_letters_by" s_w_letters_by f fd) (B : Bn mg) {c : Cs} (ER : Er K mg c) {C_Letters C_Marks : Addr} (CF : Cf K C_Letters C_Marks) (GC : Gc mg) (G_w_mixed : Fn P w K mg base 1 "_law_mixed" P_w_mixed (sp_w_mixed K)) (G_w_signs : Fn P w K mg base 1 "_law_signs" P_w_signs (sp_w_signs K)) : FnOk P w K mg base CX0 2 f fd P_w_letters_by (sp_w_letters_by K) := by
  refine F.pure sc_w_letters_by (fun vs H Q E h => ?_) (fun cdv A outer s H vs Q E hr h => ?_) <;> unfold sp_w_letters_by at h <;> split at h <;> first | exact h.elim | skip
  · rfl
  · rename_i a head
    obtain ⟨cells, hS, hl, q⟩ := h
    refine ⟨_, (pss_cons (ps_set (i := 2) sc_w_letters_by.nd rfl (by first | exact Or.inl rfl | exact Or.inr rfl) (pe_fn0 G_w_signs (hr.mono (by decide))))
        (pss_cons (ps_set (i := 3) sc_w_letters_by.nd rfl (by first | exact Or.inl rfl | exact Or.inr rfl) (pe_ix (i_ixK (K := K) rfl) (pe_tup (pa_cons pe_int (pa_cons pe_int (pa_cons pe_int pa_nil)))) (pe_fn G_w_mixed (hr.mono (by decide)) (pa_cons (qv 1) (pa_cons pe_int (pa_cons pe_int pa_nil)))) (fun _ _ => rfl)))
        (pss_cons (ps_set (i := 4) sc_w_letters_by.nd rfl (by first | exact Or.inl rfl | exact Or.inr rfl) (pe_fn G_w_mixed (hr.mono (by decide)) (pa_cons (qv 1) (pa_cons pe_int (pa_cons pe_int pa_nil)))))
        (pss_cons (ps_set (i := 5) sc_w_letters_by.nd rfl (by first | exact Or.inl rfl | exact Or.inr rfl) (pe_op o_add pe_int (pe_fn G_w_mixed (hr.mono (by decide)) (pa_cons (qv 1) (pa_cons pe_int (pa_cons pe_int pa_nil))))))
        (pss_one (ps_ret (pe_bmK (K := K) rfl PySem.F.plainAttrs_str PySem.F.slot_str_join PySem.F.type_str_join (m_joinK (K := K) rfl) pe_str (pa_cons (pe_mapLK (K := K) rfl (own := ["_law_cell"]) (cp := [(("_law_some" : Str), 2), (("_law_wide" : Str), 3), (("_law_base" : Str), 4), (("_law_step" : Str), 5)]) rfl rfl rfl (by decide +kernel) (by decide +kernel) ⟨⟨rfl, rfl, rfl⟩, ⟨rfl, rfl, rfl⟩, ⟨rfl, rfl, rfl⟩, ⟨rfl, rfl, rfl⟩, trivial⟩ (qv 0) (by decide) (fun _ _ _ _ => pg_name (i := 0) (show List.Nodup (["_law_cell", "_law_some", "_law_wide", "_law_base", "_law_step"] : List Str) by decide +kernel) rfl (Or.inl rfl) (Or.inr rfl)) (fun _ _ _ _ => (pe_ix (i_ixK (K := K) rfl) (qv 1) (pe_op o_mod (pe_op o_add (qv 3) (pe_op o_mul (pe_op o_mod (qv 0) (qv 2)) (qv 4))) pe_int) (fun _ _ => rfl)))) pa_nil)))))))), ?_⟩
    simp only [L2.start, List.map_cons, List.map_nil, List.length_cons, List.length_nil, List.replicate_succ, List.replicate_zero, List.cons_append, List.nil_append, Nat.reduceAdd, Nat.reduceSub, Int.reduceLT, true_and, List.set_cons_zero, List.set_cons_succ, gS, rVar, tC, tSeq, tAsg, gName, tRet, tOp, tCons, tNil, tTup, tFn, addV, mulV, int2, ixV, joinV, tBM, tyV, L_T, rRep, capS, sp_w_mixed, sp_w_signs, tMapL, capS]
    refine ⟨by decide, fun p hp r0 h0 h1 => ?_⟩
    have hw : ∃ wv : Int, atI [V.int 2, V.int 94, V.int 5] r0 = some (.int wv) ∧ 0 < wv ∧ wv ≤ 94 := by
      have : r0 = 0 ∨ r0 = 1 ∨ r0 = 2 := by omega
      rcases this with rfl | rfl | rfl <;> exact ⟨_, rfl, by decide, by decide⟩
    obtain ⟨wv, ew, w0, w1⟩ := hw
    refine ⟨_, _, .inr (SqT.of upd_same), ew, fun r1 h2 h3 r2 h4 h5 => ?_⟩
    have hsz : sizeLine = 16777216 := sizeLine_eq
    refine ⟨cells.map V.int, fun x => match x with
      | .int c => .str (T [signs.getD ((r1 + c % wv * (1 + r2)) % 94).toNat 0])
      | x => x, (Same.updN hp).seq hS, by rw [List.length_map]; omega, ?_, fun l hl2 => ?_⟩
    · intro x hx
      obtain ⟨c, _, rfl⟩ := List.mem_map.mp hx
      have m0 : 0 ≤ c % wv := Int.emod_nonneg _ (by omega)
      have m1 : c % wv < wv := Int.emod_lt_of_pos _ w0
      have n0 : 0 ≤ (r1 + c % wv * (1 + r2)) % 94 := Int.emod_nonneg _ (by decide)
      have n1 : (r1 + c % wv * (1 + r2)) % 94 < 94 := Int.emod_lt_of_pos _ (by decide)
      exact ⟨w0, .inl ⟨by omega, by omega⟩, by decide +kernel, _, atI_getD 0 n0 (by rw [signs_len]; exact n1), rfl, rfl⟩
    · have n0 : ∀ c : Int, 0 ≤ (r1 + c % wv * (1 + r2)) % 94 := fun c => Int.emod_nonneg _ (by decide)
      have n1 : ∀ c : Int, (r1 + c % wv * (1 + r2)) % 94 < 94 := fun c => Int.emod_lt_of_pos _ (by decide)
      rw [empty_L]
      refine ⟨cells.map fun c => [signs.getD ((r1 + c % wv * (1 + r2)) % 94).toNat 0], SqL.of (by rw [upd_same, List.map_map, List.map_map]; rfl), ?_, Same.upd (Same.updN hp) hl2, ?_⟩
      · rw [sum1, List.length_map, List.length_nil]
        omega
      · rw [joinL_nil, flat1]
        refine q _ (by rw [List.length_map]) fun c hc => ?_
        obtain ⟨k, _, rfl⟩ := List.mem_map.mp hc
        exact signs_at (by have := n0 k; have := n1 k; omega)
noncomputable def sp_w_rows (K : PySem.W.Frag) : Sp := fun vs H Q _ => match vs with
  | [.str z, .int h] => (L z).length ≤ 100000 ∧ 0 ≤ h ∧ h ≤ (L z).length ∧ ∀ p, H p = none → Q (.ref p) (upd H p (.lst (L2.putAt ((L z).map fun c => V.str (T [c])) h.toNat V.non)))
  | _ => False
theorem ok_w_rows {f : Addr} {fd : FuncData} (F : Fun K "_law_rows" "_law_rows" s_w_rows f fd) (B : Bn mg) {c : Cs} (ER : Er K mg c) {C_Letters C_Marks : Addr} (CF : Cf K C_Letters C_Marks) (GC : Gc mg)  : FnOk P w K mg base CX0 1 f fd P_w_rows (sp_w_rows K) := by
  refine F.ok sc_w_rows (fun vs H Q E h => ?_) (fun cdv A outer s H vs Q E hr h => ?_) <;> unfold sp_w_rows at h <;> split at h <;> first | exact h.elim | skip
  · rfl
  · rename_i z h
    obtain ⟨hl, h0, h1, q⟩ := h
    refine ⟨_, (pss_cons (ps_compS (i₀ := 2) (own := ["_law_sign"]) (cp := []) rfl rfl rfl (by decide +kernel) (by decide +kernel) trivial (qv 0) (by decide) (fun _ _ _ _ => pg_name (i := 0) (show List.Nodup (["_law_sign"] : List Str) by decide +kernel) rfl (Or.inl rfl) (Or.inr rfl)) (fun _ _ _ _ => pf_nil) (fun _ _ _ _ => (qv 0)) sc_w_rows.nd rfl rfl)
        (pss_cons (ps_expr (pe_bmK (K := K) rfl PySem.F.plainAttrs_list PySem.F.slot_list_insert PySem.F.type_list_insert m_insert (qv 2) (pa_cons (qv 1) (pa_cons pe_non pa_nil))))
        (pss_one (ps_ret (qv 2))))), ?_⟩
    simp only [L2.start, List.map_cons, List.map_nil, List.length_cons, List.length_nil, List.replicate_succ, List.replicate_zero, List.cons_append, List.nil_append, Nat.reduceAdd, Nat.reduceSub, true_and, if_true, String.reduceEq, List.set_cons_zero, List.set_cons_succ, gS, rVar, tC, tSeq, tAsg, gName, tRet, tDrop, tCons, tNil, tBM, tyV, insV, tCS, oneC, capS]
    have hsz : sizeLine = 16777216 := sizeLine_eq
    refine ⟨by omega, fun i H' acc => H' = H ∧ acc = ((L z).take i).map fun c => V.str (T [c]), ⟨rfl, rfl⟩, ?_, ?_⟩
    · rintro i H' acc hi ⟨rfl, rfl⟩
      refine ⟨rfl, ?_⟩
      rw [List.take_succ, List.map_append, List.getElem?_eq_getElem hi, List.getD_eq_getElem?_getD, List.getElem?_eq_getElem hi]
      rfl
    · rintro H' acc ⟨rfl, rfl⟩ l hl2
      rw [List.take_length]
      refine ⟨.inl ⟨_, SqL.of upd_same⟩, l, _, rfl, upd_same, by rw [List.length_map]; omega, h0, by omega, ?_⟩
      rw [upd_upd, List.length_map, show min h.toNat (L z).length = h.toNat by omega]
      exact q l hl2
noncomputable def sp_w_mark_right (K : PySem.W.Frag) : Sp := fun vs H Q _ => match vs with
  | [.ref m, .ref s, .ref c] => ∃ ds f kvs, MkAt H m ds f ∧ H s = some (.lst (ds.map fun d => V.str (T [d]))) ∧ H c = some (.dK kvs) ∧ (∀ d ∈ ds, valV kvs (Sum.inr (T [d])) = some (.int (f d : Nat))) ∧ ds.length ≤ 100 ∧ Q (.bl true) H
  | _ => False
theorem ok_w_mark_right {f : Addr} {fd : FuncData} (F : Fun K "_law_mark_right" "_law_mark_right" s_w_mark_right f fd) (B : Bn mg) {c : Cs} (ER : Er K mg c) {C_Letters C_Marks : Addr} (CF : Cf K C_Letters C_Marks) (GC : Gc mg) (G_w_whole : Fn P w K mg base 1 "_law_whole" P_w_whole (sp_w_whole K)) : FnOk P w K mg base CX0 2 f fd P_w_mark_right (sp_w_mark_right K) := by
  refine F.pure sc_w_mark_right (fun vs H Q E h => ?_) (fun cdv A outer s H vs Q E hr h => ?_) <;> unfold sp_w_mark_right at h <;> split at h <;> first | exact h.elim | skip
  · rfl
  · rename_i m s' c'
    obtain ⟨ds, f', kvs, ⟨ts, t1, t2, t3⟩, hs, hc, hv, hl, q⟩ := h
    refine ⟨_, (pss_cons (ps_cut (ps_if (PW.pt (pw_or (pt_not (pt_trK (K := K) rfl (pe_callB (c_isiK (K := K) rfl) (by rfl) B.isinstance bt_isinstance (pa_cons (qv 0) (pa_cons (pe_bltn (v := .ty "list") rfl B.list bt_list rfl) pa_nil))))) (pw_or1 (pt_c2 o_ne (pe_callB (c_lenK (K := K) rfl) (by rfl) B.len bt_len (pa_cons (qv 0) pa_nil)) (pe_callB (c_lenK (K := K) rfl) (by rfl) B.len bt_len (pa_cons (qv 1) pa_nil)))))) (pss_one (ps_ret pe_bl)) pss_nil))
        (pss_cons (ps_rng1 PassesOwn.never rfl B.range (pa_cons (pe_callB (c_lenK (K := K) rfl) (by rfl) B.len bt_len (pa_cons (qv 1) pa_nil)) pa_nil) (pg_name (i := 3) sc_w_mark_right.nd rfl (by first | exact Or.inl rfl | exact Or.inr rfl)) (pss_cons (ps_set (i := 4) sc_w_mark_right.nd rfl (by first | exact Or.inl rfl | exact Or.inr rfl) (pe_ix (i_ixK (K := K) rfl) (qv 0) (qv 3) (fun _ _ => rfl)))
        (pss_cons (ps_cut (ps_if (PW.pt (pw_or (pt_not (pt_trK (K := K) rfl (pe_callB (c_isiK (K := K) rfl) (by rfl) B.isinstance bt_isinstance (pa_cons (qv 4) (pa_cons (pe_bltn (v := .ty "tuple") rfl B.tuple bt_tuple rfl) pa_nil))))) (pw_or (pt_c2 o_ne (pe_callB (c_lenK (K := K) rfl) (by rfl) B.len bt_len (pa_cons (qv 4) pa_nil)) pe_int) (pw_or (pt_not (pt_trK (K := K) rfl (pe_callB (c_isiK (K := K) rfl) (by rfl) B.isinstance bt_isinstance (pa_cons (pe_ix (i_ixK (K := K) rfl) (qv 4) pe_int (fun _ _ => rfl)) (pa_cons (pe_bltn (v := .ty "str") rfl B.str bt_str rfl) pa_nil))))) (pw_or1 (pt_not (pt_trK (K := K) rfl (pe_fn G_w_whole (hr.mono (by decide)) (pa_cons (pe_ix (i_ixK (K := K) rfl) (qv 4) pe_int (fun _ _ => rfl)) pa_nil))))))))) (pss_one (ps_ret pe_bl)) pss_nil))
        (pss_one (ps_if (PW.pt (pw_or (pt_c2 o_ne (pe_ix (i_ixK (K := K) rfl) (qv 4) pe_int (fun _ _ => rfl)) (pe_ix (i_ixK (K := K) rfl) (qv 1) (qv 3) (fun _ _ => rfl))) (pw_or1 (pt_c2 o_ne (pe_ix (i_ixK (K := K) rfl) (qv 4) pe_int (fun _ _ => rfl)) (pe_dget (hu_of hr) (qv 2) (pe_ix (i_ixK (K := K) rfl) (qv 1) (qv 3) (fun _ _ => rfl)) (fun _ _ => rfl)))))) (pss_one (ps_ret pe_bl)) pss_nil)))))
        (pss_one (ps_ret pe_bl)))), ?_⟩
    have hsz : sizeLine = 16777216 := sizeLine_eq
    refine cutS (fun σ' H' => H' = H ∧ σ' = [some (V.ref m), some (V.ref s'), some (V.ref c'), none, none]) ?_ ?_
    · simp only [L2.start, List.map_cons, List.map_nil, List.length_cons, List.length_nil, List.replicate_succ, List.replicate_zero, List.cons_append, List.nil_append, Nat.reduceAdd, Nat.reduceSub, and_true, if_true, gS, rVar, tC, tNext, tRet, tIfS, tCB, tCons, tNil, tB2, tOr, tNot, trV, neR, sc, lenV, isiV]
      exact ⟨true, _, .lst t1, rfl, iteF ⟨_, .inl (SqL.of t1), _, .inl (SqL.of hs), ite2 (fun w => absurd w (by rw [List.length_map, List.length_map, t2]; simp)) fun _ => trivial⟩⟩
    rintro _ H ⟨rfl, rfl⟩
    simp only [gS, rVar, tSeq, tCB, tCons, tNil, lenV, tRng]
    refine ⟨_, .inl (SqL.of hs), ⟨by rw [List.length_map]; omega, by rw [List.length_map]; omega⟩, fun i σ H' => H' = H ∧ ∃ v3 v4, σ = [some (V.ref m), some (V.ref s'), some (V.ref c'), v3, v4], ⟨rfl, _, _, rfl⟩, ?_, ?_⟩
    · rintro i σ H' hi ⟨rfl, v3, v4, rfl⟩
      rw [List.length_map, Int.toNat_natCast] at hi
      obtain ⟨t, e1⟩ : ∃ t, ts[i]? = some t := ⟨_, List.getElem?_eq_getElem (by omega)⟩
      obtain ⟨d, e2⟩ : ∃ d, ds[i]? = some d := ⟨_, List.getElem?_eq_getElem hi⟩
      have k1 := t3 i t d e1 e2
      have a1 : atI (ts.map V.ref) (0 + (i : Int)) = some (V.ref t) := by
        unfold atI ixN
        rw [if_pos (by omega), if_pos (by rw [List.length_map]; omega), show (0 + (i : Int)).toNat = i by omega, Option.bind_some, List.getElem?_map, e1]
        rfl
      have a2 : atI (ds.map fun d => V.str (T [d])) (0 + (i : Int)) = some (V.str (T [d])) := by
        unfold atI ixN
        rw [if_pos (by omega), if_pos (by rw [List.length_map]; omega), show (0 + (i : Int)).toNat = i by omega, Option.bind_some, List.getElem?_map, e2]
        rfl
      simp only [List.set_cons_zero, List.set_cons_succ, gS, rVar, tSeq, tAsg, gName, tOp, ixV]
      refine ⟨_, _, .inl (SqL.of t1), a1, ?_⟩
      refine cutS (fun σ' H'' => H'' = H' ∧ σ' = [some (V.ref m), some (V.ref s'), some (V.ref c'), some (V.int (0 + (i : Int))), some (V.ref t)]) ?_ ?_
      · simp only [and_true, if_true, if_false, Bool.not_true, Bool.false_eq_true, gS, rVar, tC, tNext, tRet, tIfS, tOp, tCB, tCons, tNil, tFn, tB2, tOr, tNot, trV, neR, sc, ixV, lenV, isiV, isS, sp_w_whole]
        refine ⟨true, _, .tup k1, rfl, iteF ⟨_, .inr (SqT.of k1), ite2 (fun w => absurd w (by simp)) fun _ => ⟨_, _, .inr (SqT.of k1), rfl, ?_⟩⟩⟩
        simp only [if_true, if_false, String.reduceEq, Bool.not_true, Bool.false_eq_true]
        refine ⟨_, _, .inr (SqT.of k1), rfl, ?_⟩
        simp only [L2.start]
      rintro _ H' ⟨rfl, rfl⟩
      simp only [true_and, if_true, gS, rVar, tC, tNext, tRet, tIfS, tOp, tB2, tOr, neR, sc, ixV, tDGet]
      refine ⟨_, _, .inr (SqT.of k1), rfl, _, _, .inl (SqL.of hs), a2, ?_⟩
      simp only [if_false, Bool.not_true, Bool.false_eq_true, decide_true, L_T]
      refine ⟨_, _, .inr (SqT.of k1), rfl, _, _, .inl (SqL.of hs), a2, c', V.int (f' d : Nat), rfl, ?_, ?_⟩
      · have := DGet.k (k := Sum.inr (T [d])) hc
        rw [hv d (List.mem_of_getElem? e2)] at this
        exact this
      simp only [if_false, Bool.not_true, Bool.false_eq_true, decide_true]
      exact ⟨_, _, rfl⟩
    · rintro σ H' ⟨rfl, v3, v4, rfl⟩
      simp only [tC, tRet]
      exact ⟨Same.refl _, q⟩
theorem T1_inj {c d : Nat} (h : T [c] = T [d]) : c = d := by
  have := congrArg L h
  rw [L_T, L_T] at this
  exact List.head_eq_of_cons_eq this
theorem mem_col {cs : List Nat} {h c : Nat} (hc : c ≠ 10) : c ∈ colL cs h ↔ c ∈ cs := by
  unfold colL
  rw [List.mem_append, List.mem_cons]
  constructor
  · rintro (z | z | z)
    · exact List.mem_of_mem_take z
    · exact absurd z hc
    · exact List.mem_of_mem_drop z
  · intro z
    rw [← List.take_append_drop h cs] at z
    rcases List.mem_append.mp z with z | z
    · exact .inl z
    · exact .inr (.inr z)
theorem in_rows {cs : List Nat} {h c : Nat} (hh : h ≤ cs.length) (hc : c ≠ 10) : inV (V.str (T [c])) (rowsV cs h) = decide (c ∈ cs) := by
  unfold inV rowsV
  rw [Bool.eq_iff_iff, List.any_map, List.any_eq_true, decide_eq_true_eq, ← mem_col (h := h) hc]
  have cl := colL_len hh
  constructor
  · rintro ⟨i, hi, e⟩
    have hi := List.mem_range.mp hi
    have e : eqV (if i = h then V.non else V.str (T [(colL cs h).getD i 0])) (V.str (T [c])) = true := e
    by_cases w : i = h
    · rw [if_pos w] at e
      cases e
    · rw [if_neg w] at e
      have e2 : T [(colL cs h).getD i 0] = T [c] := by simpa [eqV] using e
      rw [← T1_inj e2, List.getD_eq_getElem?_getD, List.getElem?_eq_getElem (by omega)]
      exact List.getElem_mem _
  · intro z
    obtain ⟨i, hi, e⟩ := List.getElem_of_mem z
    refine ⟨i, List.mem_range.mpr (by omega), ?_⟩
    show eqV (if i = h then V.non else V.str (T [(colL cs h).getD i 0])) (V.str (T [c])) = true
    have eg : (colL cs h).getD i 0 = c := by rw [List.getD_eq_getElem?_getD, List.getElem?_eq_getElem hi, e]; rfl
    have w : i ≠ h := fun w => hc (by rw [← eg, w, colL_home hh])
    rw [if_neg w, eg]
    exact eqV_self rfl
theorem same_sorted {a b : List Nat} (n1 : a.Nodup) (n2 : b.Nodup) (s1 : a.Pairwise (· ≤ ·)) (s2 : b.Pairwise (· ≤ ·)) (h : ∀ c, c ∈ a ↔ c ∈ b) : a = b :=
  List.Perm.eq_of_pairwise (le := (· ≤ ·)) (fun _ _ _ _ h1 h2 => Nat.le_antisymm h1 h2) s1 s2 ((List.perm_ext_iff_of_nodup n1 n2).mpr h)
noncomputable def sp_w_kept_right (K : PySem.W.Frag) : Sp := fun vs H Q _ => match vs with
  | [.ref p, .ref r, .int g] => ∃ cs h ds, ∃ ms : List Addr, H p = some (.lst (ms.map V.ref)) ∧ (ms.length : Int) = ((cs.length : Int) + 1) / g + 1 ∧ MksAt H ms ds cs h g ∧ ds.Nodup ∧ (∀ c, c ∈ ds ↔ c ∈ cs) ∧ ds.Pairwise (· ≤ ·) ∧ (∀ c ∈ cs, c ∈ signs) ∧ H r = some (.lst (rowsV cs h)) ∧ h ≤ cs.length ∧ cs.length ≤ 62 ∧ 1 ≤ g ∧ ∀ H', Same H H' → Q (.bl true) H'
  | _ => False
theorem ok_w_kept_right {f : Addr} {fd : FuncData} (F : Fun K "_law_kept_right" "_law_kept_right" s_w_kept_right f fd) (B : Bn mg) {c : Cs} (ER : Er K mg c) {C_Letters C_Marks : Addr} (CF : Cf K C_Letters C_Marks) (GC : Gc mg) (G_w_signs : Fn P w K mg base 1 "_law_signs" P_w_signs (sp_w_signs K)) (G_w_mark_right : Fn P w K mg base 2 "_law_mark_right" P_w_mark_right (sp_w_mark_right K)) : FnOk P w K mg base CX0 3 f fd P_w_kept_right (sp_w_kept_right K) := by
  refine F.ok sc_w_kept_right (fun vs H Q E h => ?_) (fun cdv A outer s H vs Q E hr h => ?_) <;> unfold sp_w_kept_right at h <;> split at h <;> first | exact h.elim | skip
  · rfl
  · rename_i p r g
    obtain ⟨cs, h, ds, ms, hp, ml, mks, nd, mem, pw, sg, hr2, hh, hl, g1, q⟩ := h
    refine ⟨_, (pss_cons (ps_cut (ps_compS (i₀ := 3) (own := ["_law_sign"]) (cp := [(("_law_rows_here" : Str), 1)]) rfl rfl rfl (by decide +kernel) (by decide +kernel) ⟨⟨rfl, rfl, rfl⟩, trivial⟩ (pe_fn0 G_w_signs (hr.mono (by decide))) (by decide) (fun _ _ _ _ => pg_name (i := 0) (show List.Nodup (["_law_sign", "_law_rows_here"] : List Str) by decide +kernel) rfl (Or.inl rfl) (Or.inr rfl)) (fun _ _ _ _ => pf_one (pt_c2 (o_inL (K := K) rfl) (qv 0) (qv 1))) (fun _ _ _ _ => (qv 0)) sc_w_kept_right.nd rfl rfl))
        (pss_cons (ps_set (i := 4) sc_w_kept_right.nd rfl (by first | exact Or.inl rfl | exact Or.inr rfl) pe_dnewK)
        (pss_cons (ps_cut (ps_lstK (K := K) rfl PassesOwn.never rfl (qv 3) (pg_name (i := 5) sc_w_kept_right.nd rfl (by first | exact Or.inl rfl | exact Or.inr rfl)) (pss_one (ps_dput (hu_of hr) (qv 4) (qv 5) pe_int rfl))))
        (pss_cons (ps_cut (ps_if (PW.pt (pw_or (pt_not (pt_trK (K := K) rfl (pe_callB (c_isiK (K := K) rfl) (by rfl) B.isinstance bt_isinstance (pa_cons (qv 0) (pa_cons (pe_bltn (v := .ty "list") rfl B.list bt_list rfl) pa_nil))))) (pw_or1 (pt_c2 o_ne (pe_callB (c_lenK (K := K) rfl) (by rfl) B.len bt_len (pa_cons (qv 0) pa_nil)) (pe_op o_add (pe_op o_fdivX (pe_callB (c_lenK (K := K) rfl) (by rfl) B.len bt_len (pa_cons (qv 1) pa_nil)) (qv 2)) pe_int))))) (pss_one (ps_ret pe_bl)) pss_nil))
        (pss_cons (ps_rng1 PassesOwn.never rfl B.range (pa_cons (pe_op o_add (pe_callB (c_lenK (K := K) rfl) (by rfl) B.len bt_len (pa_cons (qv 1) pa_nil)) pe_int) pa_nil) (pg_name (i := 6) sc_w_kept_right.nd rfl (by first | exact Or.inl rfl | exact Or.inr rfl)) (pss_cons (ps_cut (ps_if (PW.pt (pw_and (pt_c2 o_eq (pe_op o_mod (qv 6) (qv 2)) pe_int) (pw_and1 (pt_not (pt_trK (K := K) rfl (pe_fn G_w_mark_right (hr.mono (by decide)) (pa_cons (pe_ix (i_ixK (K := K) rfl) (qv 0) (pe_op o_fdivX (qv 6) (qv 2)) (fun _ _ => rfl)) (pa_cons (qv 3) (pa_cons (qv 4) pa_nil))))))))) (pss_one (ps_ret pe_bl)) pss_nil))
        (pss_one (ps_if (PW.pt (pw_and (pt_c2 o_lt (qv 6) (pe_callB (c_lenK (K := K) rfl) (by rfl) B.len bt_len (pa_cons (qv 1) pa_nil))) (pw_and1 (pt_c2 o_isnt (pe_ix (i_ixK (K := K) rfl) (qv 1) (qv 6) (fun _ _ => rfl)) pe_non)))) (pss_one (ps_daug (hu_of hr) (qv 4) (pe_ix (i_ixK (K := K) rfl) (qv 1) (qv 6) (fun _ _ => rfl)) pe_int o_iadd (fun _ _ _ => rfl))) pss_nil))))
        (pss_one (ps_ret pe_bl))))))), ?_⟩
    have hsz : sizeLine = 16777216 := sizeLine_eq
    have ten : ∀ c ∈ signs, c ≠ 10 := by decide
    have lds : ds.length ≤ 62 := by
      have := LO.len_sub nd fun c hc => (mem c).mp hc
      omega
    have fl : (rowsV cs h).all flatV = true := by
      unfold rowsV
      rw [List.all_map, List.all_eq_true]
      intro i _
      show flatV (if i = h then V.non else V.str (T [(colL cs h).getD i 0])) = true
      split <;> rfl
    refine cutS (fun σ' H' => Same H H' ∧ ∃ l, H' l = some (.lst (ds.map fun d => V.str (T [d]))) ∧ σ' = [some (V.ref p), some (V.ref r), some (V.int g), some (V.ref l), none, none, none]) ?_ ?_
    · simp only [L2.start, List.map_cons, List.map_nil, List.length_cons, List.length_nil, List.replicate_succ, List.replicate_zero, List.cons_append, List.nil_append, Nat.reduceAdd, Nat.reduceSub, if_false, Bool.false_eq_true, List.set_cons_zero, List.set_cons_succ, gS, rVar, tAsg, gName, tB2, L_T, tCS, oneC, capS, rIn, sp_w_signs]
      have ed : signs.filter (fun c => decide (c ∈ cs)) = ds := same_sorted ((List.filter_sublist (l := signs)).nodup (by decide +kernel)) nd (List.Pairwise.sublist List.filter_sublist (by decide +kernel)) pw fun c => by
        rw [List.mem_filter, decide_eq_true_eq, mem c]
        exact ⟨fun z => z.2, fun z => ⟨sg c z, z⟩⟩
      refine ⟨by rw [signs_len]; decide, fun i H2 acc => H2 = H ∧ acc = ((signs.take i).filter fun c => decide (c ∈ cs)).map fun d => V.str (T [d]), ⟨rfl, rfl⟩, ?_, ?_⟩
      · rintro i H2 acc hi ⟨rfl, rfl⟩
        have hc : signs.getD i 0 ∈ signs := signs_at (by rw [signs_len] at hi; exact hi)
        simp only [true_and]
        refine ⟨r, _, rfl, .inl (SqL.of hr2), rfl, fl, ?_⟩
        rw [in_rows hh (ten _ hc), List.take_add_one, List.getElem?_eq_getElem hi, Option.toList_some, List.filter_append, List.map_append]
        have eg : signs.getD i 0 = signs[i] := by rw [List.getD_eq_getElem?_getD, List.getElem?_eq_getElem hi]; rfl
        rw [eg]
        refine ite2 (fun w => ?_) fun w => ?_
        · have w : signs[i] ∈ cs := by simpa using w
          simp [w]
        · have w : ¬ signs[i] ∈ cs := by simpa using w
          simp [w]
      · rintro H2 acc ⟨rfl, rfl⟩ l hl2
        rw [List.take_length, ed]
        exact ⟨Same.updN hl2, l, upd_same, rfl⟩
    rintro _ H1 ⟨sm1, l, h1, rfl⟩
    simp only [List.set_cons_zero, List.set_cons_succ, tSeq, tAsg, gName, tDNewK, fdivX]
    intro c' hc'
    refine cutS (fun σ' H' => Same H H' ∧ H c' = none ∧ H' l = some (.lst (ds.map fun d => V.str (T [d]))) ∧ ∃ kvs v5, H' c' = some (.dK kvs) ∧ kvs.length ≤ 62 ∧ (∀ d ∈ ds, valV kvs (Sum.inr (T [d])) = some (.int 0)) ∧ σ' = [some (V.ref p), some (V.ref r), some (V.int g), some (V.ref l), some (V.ref c'), v5, none]) ?_ ?_
    · simp only [gS, rVar, tC, gName, sDPut, tLst1, forL]
      have nl : l ≠ c' := ne_of_none h1 hc'
      refine ⟨_, SqL.of ((upd_ne nl).trans h1), fun i σ H' => Same H H' ∧ H' l = some (.lst (ds.map fun d => V.str (T [d]))) ∧ ∃ kvs v5, H' c' = some (.dK kvs) ∧ kvs.length ≤ i ∧ (∀ d, d ∈ ds.take i → valV kvs (Sum.inr (T [d])) = some (.int 0)) ∧ σ = [some (V.ref p), some (V.ref r), some (V.int g), some (V.ref l), some (V.ref c'), v5, none], ⟨sm1.upd hc', (upd_ne nl).trans h1, [], _, upd_same, Nat.zero_le _, fun d hd => by simp at hd, rfl⟩, ?_, ?_, ?_⟩
      · rintro i σ H' _ ⟨_, h', _⟩
        exact SqL.of h'
      · rintro i v σ H' hv ⟨sm, h', kvs, v5, hk, kl, kv, rfl⟩
        have hi := (List.getElem?_eq_some_iff.mp hv).1
        rw [List.length_map] at hi
        rw [List.getElem?_map] at hv
        obtain ⟨d, ed, rfl⟩ := Option.map_eq_some_iff.mp hv
        simp only [List.set_cons_zero, List.set_cons_succ, gS]
        refine ⟨c', _, rfl, DPut.k (k := Sum.inr (T [d])) hk (by omega), same_put sm (sm1.free hc'), (upd_ne nl).trans h', _, _, upd_same, by have := length_putK kvs (Sum.inr (T [d]) : Key) (V.int 0); omega, fun d' hd' => ?_, rfl⟩
        rw [valV_put]
        by_cases w : d' = d
        · rw [if_pos (by rw [w])]
        · rw [if_neg (fun z => w (T1_inj (Sum.inr.inj z)))]
          rw [List.take_add_one, ed, Option.toList_some] at hd'
          rcases List.mem_append.mp hd' with z | z
          · exact kv d' z
          · exact absurd (List.mem_singleton.mp z) w
      · rintro σ H' ⟨sm, h', kvs, v5, hk, kl, kv, rfl⟩
        rw [List.length_map] at kl kv
        rw [List.take_length] at kv
        exact ⟨sm, sm1.free hc', h', kvs, _, hk, by omega, kv, rfl⟩
    rintro _ H2 ⟨sm2, fc, h2, kvs, v5, hk, kl, kv, rfl⟩
    refine cutS (fun σ' H' => H' = H2 ∧ σ' = [some (V.ref p), some (V.ref r), some (V.int g), some (V.ref l), some (V.ref c'), v5, none]) ?_ ?_
    · simp only [and_true, if_true, gS, rVar, tC, tNext, tRet, tIfS, tOp, tCB, tCons, tNil, tB2, tOr, tNot, trV, addV, int2, neR, sc, lenV, isiV]
      refine ⟨true, _, .lst (sm2 _ _ hp), rfl, iteF ⟨_, .inl (SqL.of (sm2 _ _ hp)), _, .inl (SqL.of (sm2 _ _ hr2)), ⟨by omega, by rw [rowsV_len]; omega⟩, ite2 (fun w => absurd w ?_) fun _ => trivial⟩⟩
      rw [List.length_map, rowsV_len, ml]
      simp
    rintro _ H2 ⟨rfl, rfl⟩
    simp only [gS, rVar, tC, tSeq, tOp, tCB, tCons, tNil, addV, lenV, tRng]
    refine ⟨_, .inl (SqL.of (sm2 _ _ hr2)), ⟨by rw [rowsV_len]; omega, by rw [rowsV_len]; omega⟩, fun i σ H' => Same H H' ∧ H' l = some (.lst (ds.map fun d => V.str (T [d]))) ∧ ∃ kvs v6, H' c' = some (.dK kvs) ∧ kvs.length ≤ 62 + i ∧ (∀ d ∈ ds, valV kvs (Sum.inr (T [d])) = some (.int (((colL cs h).take i).count d : Nat))) ∧ σ = [some (V.ref p), some (V.ref r), some (V.int g), some (V.ref l), some (V.ref c'), v5, v6], ⟨sm2, h2, kvs, _, hk, by omega, fun d hd => by rw [kv d hd]; simp, rfl⟩, ?_, ?_⟩
    · rintro i σ H' hi ⟨sm, h', kvs, v6, hk, kl, kv, rfl⟩
      rw [rowsV_len] at hi
      have hi : i ≤ cs.length + 1 := by omega
      have nl : l ≠ c' := fun w => by rw [w, hk] at h'; cases h'
      refine cutS (fun σ' H'' => H'' = H' ∧ σ' = [some (V.ref p), some (V.ref r), some (V.int g), some (V.ref l), some (V.ref c'), v5, some (V.int (0 + (i : Int)))]) ?_ ?_
      · simp only [and_true, decide_eq_true_eq, if_false, Bool.not_true, Bool.false_eq_true, List.set_cons_zero, List.set_cons_succ, gS, rVar, tC, tNext, tRet, tIfS, tOp, tCons, tNil, tFn, tB2, tAnd, tNot, trV, int2, eqR, sc, ixV, sp_w_mark_right]
        rw [Int.zero_add]
        refine ⟨by omega, ite2 (fun w => ⟨⟨by omega, by omega⟩, ?_⟩) fun _ => trivial⟩
        have m2 := Int.emod_add_mul_ediv (i : Int) g
        rw [w, Int.zero_add, Int.mul_comm] at m2
        have m3 : 0 ≤ (i : Int) / g := Int.ediv_nonneg (by omega) (by omega)
        have m4 : (i : Int) / g ≤ ((cs.length : Int) + 1) / g := Int.ediv_le_ediv (by omega) (by omega)
        obtain ⟨j, ej⟩ : ∃ j : Nat, (i : Int) / g = (j : Int) := ⟨((i : Int) / g).toNat, by omega⟩
        have hj : j < ms.length := by omega
        have aj : atI (ms.map V.ref) ((i : Int) / g) = some (V.ref ms[j]) := by
          unfold atI ixN
          rw [ej, if_pos (by omega), if_pos (by rw [List.length_map]; omega), Int.toNat_natCast, Option.bind_some, List.getElem?_map, List.getElem?_eq_getElem hj]
          rfl
        have mkj := mks j _ (List.getElem?_eq_getElem hj)
        rw [show ((j : Int) * g).toNat = i by rw [← ej, m2, Int.toNat_natCast]] at mkj
        exact ⟨_, _, .inl (SqL.of (sm _ _ hp)), aj, ds, _, kvs, mkj.keep (fun b xs e => sm _ _ e) (fun xs e => sm _ _ e), h', hk, kv, by omega⟩
      rintro _ H' ⟨rfl, rfl⟩
      simp only [decide_eq_true_eq, if_false, Bool.false_eq_true, gS, rVar, tC, tNext, tIfS, tOp, tCB, tCons, tNil, tB2, tAnd, ltV, isntV, ixV, lenV, sDAug]
      have rl := rowsV_len cs h
      refine ⟨_, .inl (SqL.of (sm _ _ hr2)), ite2 (fun w => ?_) fun w => ⟨sm, h', kvs, _, hk, by omega, fun d hd => ?_, rfl⟩⟩
      · rw [rl] at w
        have hi2 : i < cs.length + 1 := by omega
        have ax : atI (rowsV cs h) (0 + (i : Int)) = some (if i = h then V.non else V.str (T [(colL cs h).getD i 0])) := by
          unfold atI ixN
          rw [if_pos (by omega), if_pos (by rw [rl]; omega), show (0 + (i : Int)).toNat = i by omega, Option.bind_some, rowsV_at hi2]
        have cl := colL_len hh
        have tk : ∀ d, ((colL cs h).take (i + 1)).count d = ((colL cs h).take i).count d + if (colL cs h).getD i 0 = d then 1 else 0 := fun d => by
          rw [List.take_add_one, List.getElem?_eq_getElem (by omega), Option.toList_some, List.count_append, List.count_singleton, List.getD_eq_getElem?_getD, List.getElem?_eq_getElem (by omega)]
          simp
        refine ⟨_, _, .inl (SqL.of (sm _ _ hr2)), ax, ?_⟩
        by_cases wi : i = h
        · rw [if_pos wi]
          refine ite2 (fun w => absurd w (by simp)) fun _ => ⟨sm, h', kvs, _, hk, by omega, fun d hd => ?_, rfl⟩
          rw [kv d hd, tk d, wi, colL_home hh, if_neg (fun z => ten d (sg d ((mem d).mp hd)) z.symm)]
          rfl
        · rw [if_neg wi] at ax ⊢
          have e10 := colL_ne hh (fun c hc => ten c (sg c hc)) hi2 wi
          have ein : (colL cs h).getD i 0 ∈ ds := (mem _).mpr ((mem_col e10).mp (by rw [List.getD_eq_getElem?_getD, List.getElem?_eq_getElem (by omega)]; exact List.getElem_mem _))
          refine ite2 (fun _ => ⟨_, _, .inl (SqL.of (sm _ _ hr2)), ax, c', V.int (((colL cs h).take i).count ((colL cs h).getD i 0) : Nat), rfl, ?_, _, DPut.k (k := Sum.inr (T [(colL cs h).getD i 0])) hk (by omega), same_put sm fc, (upd_ne nl).trans h', _, _, upd_same, ?_, fun d hd => ?_, rfl⟩) fun w => absurd w (by simp)
          · have := DGet.k (k := Sum.inr (T [(colL cs h).getD i 0])) hk
            rw [kv _ ein] at this
            exact this
          · have := length_putK kvs (Sum.inr (T [(colL cs h).getD i 0]) : Key) (V.int ((((colL cs h).take i).count ((colL cs h).getD i 0) : Nat) + 1))
            omega
          · rw [valV_put, tk d]
            by_cases wd : d = (colL cs h).getD i 0
            · rw [if_pos (by rw [wd]), if_pos wd.symm, ← wd]
              rfl
            · rw [if_neg (fun z => wd (T1_inj (Sum.inr.inj z))), if_neg (fun z => wd z.symm), kv d hd]
              rfl
      · rw [rl] at w
        rw [kv d hd, List.take_of_length_le (by rw [colL_len hh]; omega), List.take_of_length_le (by rw [colL_len hh]; omega)]
    · rintro σ H' ⟨sm, h', kvs, v6, hk, kl, kv, rfl⟩
      simp only [tC, tRet]
      exact q _ sm
noncomputable def sp_w_before_right (K : PySem.W.Frag) (CL C : Addr) : Sp := fun vs H Q _ => match vs with
  | [.ref x, .ref r, .str y] => ∃ cs h g d, IsMks C CL H x cs h g ∧ cs.length ≤ 62 ∧ h ≤ cs.length ∧ (∀ c ∈ cs, c ≠ 10) ∧ L y = [d] ∧ d ≠ 10 ∧ H r = some (.lst (rowsV cs h)) ∧ ∀ H', Same H H' → Q (.bl true) H'
  | _ => False
theorem ok_w_before_right {f : Addr} {fd : FuncData} (F : Fun K "_law_before_right" "_law_before_right" s_w_before_right f fd) (B : Bn mg) {c : Cs} (ER : Er K mg c) {C_Letters C_Marks : Addr} (CF : Cf K C_Letters C_Marks) (GC : Gc mg) (G_w_whole : Fn P w K mg base 1 "_law_whole" P_w_whole (sp_w_whole K)) (M_m_Marks_before : Md P w K mg base (CX1 P w) 3 C_Marks "before" P_m_Marks_before [] (sp_m_Marks_before K c C_Letters C_Marks)) : FnOk P w K mg base CX0 4 f fd P_w_before_right (sp_w_before_right K C_Letters C_Marks) := by
  refine F.ok sc_w_before_right (fun vs H Q E h => ?_) (fun cdv A outer s H vs Q E hr h => ?_) <;> unfold sp_w_before_right at h <;> split at h <;> first | exact h.elim | skip
  · rfl
  · rename_i x r y
    obtain ⟨cs, h, g, d, im, hl, hh, c10, hy, d10, hr2, q⟩ := h
    refine ⟨_, (pss_cons (ps_set (i := 3) sc_w_before_right.nd rfl (by first | exact Or.inl rfl | exact Or.inr rfl) pe_int)
        (pss_cons (ps_rng1 PassesOwn.never rfl B.range (pa_cons (pe_op o_add (pe_callB (c_lenK (K := K) rfl) (by rfl) B.len bt_len (pa_cons (qv 1) pa_nil)) pe_int) pa_nil) (pg_name (i := 4) sc_w_before_right.nd rfl (by first | exact Or.inl rfl | exact Or.inr rfl)) (pss_cons (ps_set (i := 5) sc_w_before_right.nd rfl (by first | exact Or.inl rfl | exact Or.inr rfl) (pe_md M_m_Marks_before.quiet (hr.mono (by decide)) (qv 0) (pa_cons (qv 2) (pa_cons (qv 4) pa_nil))))
        (pss_cons (ps_if (PW.pt (pw_or (pt_not (pt_trK (K := K) rfl (pe_fn G_w_whole (hr.mono (by decide)) (pa_cons (qv 5) pa_nil)))) (pw_or1 (pt_c2 o_ne (qv 5) (qv 3))))) (pss_one (ps_ret pe_bl)) pss_nil)
        (pss_one (ps_if (PW.pt (pw_and (pt_c2 o_lt (qv 4) (pe_callB (c_lenK (K := K) rfl) (by rfl) B.len bt_len (pa_cons (qv 1) pa_nil))) (pw_and1 (pt_c2 o_eq (pe_ix (i_ixK (K := K) rfl) (qv 1) (qv 4) (fun _ _ => rfl)) (qv 2))))) (pss_one (ps_aug2 (i := 3) o_iadd sc_w_before_right.nd rfl (by first | exact Or.inl rfl | exact Or.inr rfl) pe_int)) pss_nil)))))
        (pss_one (ps_ret pe_bl)))), ?_⟩
    have hsz : sizeLine = 16777216 := sizeLine_eq
    have rl := rowsV_len cs h
    have cl := colL_len hh
    obtain rfl : y = T [d] := by rw [← hy, T_L]
    simp only [L2.start, List.map_cons, List.map_nil, List.length_cons, List.length_nil, List.replicate_succ, List.replicate_zero, List.cons_append, List.nil_append, Nat.reduceAdd, Nat.reduceSub, List.set_cons_zero, List.set_cons_succ, gS, rVar, tC, tSeq, tAsg, gName, tOp, tCB, tCons, tNil, addV, lenV, tRng]
    refine ⟨_, .inl (SqL.of hr2), ⟨by omega, by omega⟩, fun i σ H' => Same H H' ∧ ∃ v4 v5, σ = [some (V.ref x), some (V.ref r), some (V.str (T [d])), some (V.int (((colL cs h).take i).count d : Nat)), v4, v5], ⟨Same.refl _, _, _, rfl⟩, ?_, ?_⟩
    · rintro i σ H' hi ⟨sm, v4, v5, rfl⟩
      have hi : i ≤ cs.length + 1 := by omega
      have im' := im.same (H' := H') fun b o e _ => sm _ _ e
      have imc := im'
      obtain ⟨dx, a, m, ms, ds, hx, _⟩ := imc
      simp only [decide_eq_true_eq, if_true, if_false, Bool.not_true, Bool.false_eq_true, List.set_cons_zero, List.set_cons_succ, gS, rVar, tC, tSeq, tNext, tAsg, gName, tRet, tIfS, tOp, tCB, tCons, tNil, tFn, tB2, tAnd, tOr, tNot, trV, ltV, eqR, neR, sc, ixV, lenV, L_T, tMeth, List.append_nil, sp_m_Marks_before, sp_w_whole]
      refine ⟨x, _, _, rfl, hx, rfl, cs, h, g, d, im', hl, c10, (L_T [d] ▸ rfl), d10, fun w => absurd ⟨by omega, by omega⟩ w, fun w H2 sm2 => ?_⟩
      have sm3 : Same H H2 := sm.trans sm2
      rw [show (0 + (i : Int)).toNat = i by omega]
      refine ite2 (fun w => absurd w (by simp)) fun _ => ⟨_, .inl (SqL.of (sm3 _ _ hr2)), ite2 (fun w => ?_) fun w => ?_⟩
      · rw [rl] at w
        have hi2 : i < cs.length + 1 := by omega
        have ax : atI (rowsV cs h) (0 + (i : Int)) = some (if i = h then V.non else V.str (T [(colL cs h).getD i 0])) := by
          unfold atI ixN
          rw [if_pos (by omega), if_pos (by rw [rl]; omega), show (0 + (i : Int)).toNat = i by omega, Option.bind_some, rowsV_at hi2]
        have tk : ((colL cs h).take (i + 1)).count d = ((colL cs h).take i).count d + if (colL cs h).getD i 0 = d then 1 else 0 := by
          rw [List.take_add_one, List.getElem?_eq_getElem (by omega), Option.toList_some, List.count_append, List.count_singleton, List.getD_eq_getElem?_getD, List.getElem?_eq_getElem (by omega)]
          simp
        refine ⟨_, _, .inl (SqL.of (sm3 _ _ hr2)), ax, ?_⟩
        by_cases wi : i = h
        · rw [if_pos wi]
          simp only [if_false, Bool.false_eq_true]
          rw [tk, wi, colL_home hh, if_neg (fun z => d10 z.symm)]
          exact ⟨sm3, _, _, rfl⟩
        · rw [if_neg wi]
          simp only [decide_eq_true_eq, L_T]
          by_cases e : (colL cs h).getD i 0 = d
          · rw [if_pos (by rw [e]), tk, if_pos e]
            exact ⟨sm3, _, _, rfl⟩
          · rw [if_neg (by simpa using e), tk, if_neg e]
            exact ⟨sm3, _, _, rfl⟩
      · rw [rl] at w
        rw [List.take_of_length_le (i := i) (by omega), List.take_of_length_le (i := i + 1) (by omega)]
        exact ⟨sm3, _, _, rfl⟩
    · rintro σ H' ⟨sm, v4, v5, rfl⟩
      simp only [tC, tRet]
      exact q _ sm
noncomputable def sp_law (K : PySem.W.Frag) (tb : Addr) : Sp := fun vs H Q _ => ∃ (a : Addr) (ns : List Int), vs = [.ref a] ∧ SqL K H a (ns.map V.int) ∧ ns.length ≤ 63 ∧ Bk_m_Letters_init tb H ∧ ∀ H', Q (.bl true) H'
theorem ok_law {f : Addr} {fd : FuncData} (F : Fun K "law" "law" s_law f fd) (B : Bn mg) {tb_m_Letters_init : Addr} {c : Cs} (ER : Er K mg c) {C_Letters C_Marks : Addr} (CF : Cf K C_Letters C_Marks) (GC : Gc mg) (G_w_cell_at : Fn P w K mg base 1 "_law_cell_at" P_w_cell_at (sp_w_cell_at K)) (G_w_mixed : Fn P w K mg base 1 "_law_mixed" P_w_mixed (sp_w_mixed K)) (G_w_signs : Fn P w K mg base 1 "_law_signs" P_w_signs (sp_w_signs K)) (G_w_letters_by : Fn P w K mg base 2 "_law_letters_by" P_w_letters_by (sp_w_letters_by K)) (G_w_rows : Fn P w K mg base 1 "_law_rows" P_w_rows (sp_w_rows K)) (G_w_kept_right : Fn P w K mg base 3 "_law_kept_right" P_w_kept_right (sp_w_kept_right K)) (G_w_before_right : Fn P w K mg base 4 "_law_before_right" P_w_before_right (sp_w_before_right K C_Letters C_Marks)) (MK_Marks : Mkr P w K mg base (CX1 P w) 5 "Marks" C_Marks P_m_Marks_init [] (sp_m_Marks_init K c C_Letters C_Marks tb_m_Letters_init)) (M_m_Marks_kept : Md P w K mg base CX0 1 C_Marks "kept" P_m_Marks_kept [] (sp_m_Marks_kept K C_Marks)) : FnOk P w K mg base CX0 7 f fd P_law (sp_law K tb_m_Letters_init) := by
  refine F.ok sc_law (fun vs H Q E h => ?_) (fun cdv A outer s H vs Q E hr h => ?_)
  · obtain ⟨a, ns, rfl, _⟩ := h
    rfl
  · obtain ⟨a, ns, rfl, hS, hlen, bk, q⟩ := h
    refine ⟨_, (pss_cons (ps_cut (ps_set (i := 1) sc_law.nd rfl (by first | exact Or.inl rfl | exact Or.inr rfl) (pe_fn G_w_letters_by (hr.mono (by decide)) (pa_cons (pe_slice (s_slK (K := K) rfl) (qv 0) (po_t pe_int) (po_t pe_int)) (pa_cons (pe_fn G_w_cell_at (hr.mono (by decide)) (pa_cons (qv 0) (pa_cons pe_int pa_nil))) pa_nil)))))
        (pss_cons (ps_cut (ps_set (i := 2) sc_law.nd rfl (by first | exact Or.inl rfl | exact Or.inr rfl) (pe_fn G_w_cell_at (hr.mono (by decide)) (pa_cons (qv 0) (pa_cons pe_int pa_nil)))))
        (pss_cons (ps_cut (ps_set (i := 3) sc_law.nd rfl (by first | exact Or.inl rfl | exact Or.inr rfl) (pe_fn G_w_mixed (hr.mono (by decide)) (pa_cons (qv 2) (pa_cons pe_int (pa_cons (pe_op o_add (pe_callB (c_lenK (K := K) rfl) (by rfl) B.len bt_len (pa_cons (qv 1) pa_nil)) pe_int) pa_nil))))))
        (pss_cons (ps_cut (ps_set (i := 4) sc_law.nd rfl (by first | exact Or.inl rfl | exact Or.inr rfl) (pe_op o_add pe_int (pe_fn G_w_mixed (hr.mono (by decide)) (pa_cons (pe_fn G_w_cell_at (hr.mono (by decide)) (pa_cons (qv 0) (pa_cons pe_int pa_nil))) (pa_cons pe_int (pa_cons pe_int pa_nil)))))))
        (pss_cons (ps_cut (ps_if (pt_c2 o_eq (pe_fn G_w_mixed (hr.mono (by decide)) (pa_cons (pe_fn G_w_cell_at (hr.mono (by decide)) (pa_cons (qv 0) (pa_cons pe_int pa_nil))) (pa_cons pe_int (pa_cons pe_int pa_nil)))) pe_int) (pss_one (ps_set (i := 4) sc_law.nd rfl (by first | exact Or.inl rfl | exact Or.inr rfl) (pe_op o_add pe_int (pe_op o_mod (pe_fn G_w_cell_at (hr.mono (by decide)) (pa_cons (qv 0) (pa_cons pe_int pa_nil))) (pe_op o_pow pe_int pe_int))))) pss_nil))
        (pss_cons (ps_cut (ps_set (i := 5) sc_law.nd rfl (by first | exact Or.inl rfl | exact Or.inr rfl) (pe_mk MK_Marks.quiet (hr.mono (by decide)) (pa_cons (qv 1) (pa_cons (qv 3) (pa_cons (qv 4) pa_nil))))))
        (pss_cons (ps_cut (ps_set (i := 6) sc_law.nd rfl (by first | exact Or.inl rfl | exact Or.inr rfl) (pe_fn G_w_rows (hr.mono (by decide)) (pa_cons (qv 1) (pa_cons (qv 3) pa_nil)))))
        (pss_cons (ps_cut (ps_set (i := 7) sc_law.nd rfl (by first | exact Or.inl rfl | exact Or.inr rfl) (pe_md0 M_m_Marks_kept (hr.mono (by decide)) (qv 5))))
        (pss_cons (ps_cut (ps_if (PW.pt (pw_or (pt_not (pt_trK (K := K) rfl (pe_fn G_w_kept_right (hr.mono (by decide)) (pa_cons (qv 7) (pa_cons (qv 6) (pa_cons (qv 4) pa_nil)))))) (pw_or1 (pt_not (pt_trK (K := K) rfl (pe_fn G_w_kept_right (hr.mono (by decide)) (pa_cons (pe_md0 M_m_Marks_kept (hr.mono (by decide)) (pe_mk MK_Marks.quiet (hr.mono (by decide)) (pa_cons pe_str (pa_cons pe_int (pa_cons pe_int pa_nil))))) (pa_cons (pe_lst (pa_cons pe_str (pa_cons pe_non (pa_cons pe_str pa_nil)))) (pa_cons pe_int pa_nil))))))))) (pss_one (ps_ret pe_bl)) pss_nil))
        (pss_cons (ps_cut (ps_if (pt_not (pt_trK (K := K) rfl (pe_fn G_w_kept_right (hr.mono (by decide)) (pa_cons (qv 7) (pa_cons (qv 6) (pa_cons (qv 4) pa_nil)))))) (pss_one (ps_ret pe_bl)) pss_nil))
        (pss_cons (ps_cut (ps_lstK (K := K) rfl PassesOwn.never rfl (qv 7) (pg_name (i := 8) sc_law.nd rfl (by first | exact Or.inl rfl | exact Or.inr rfl)) (pss_one (ps_expr (pe_bmK (K := K) rfl PySem.F.plainAttrs_list PySem.F.slot_list_append PySem.F.type_list_append mt_append (qv 8) (pa_cons (pe_tup (pa_cons pe_str (pa_cons pe_int pa_nil))) pa_nil))))))
        (pss_cons (ps_cut (ps_expr (pe_bmK (K := K) rfl PySem.F.plainAttrs_list PySem.F.slot_list_append PySem.F.type_list_append mt_append (qv 7) (pa_cons (pe_lst pa_nil) pa_nil))))
        (pss_cons (ps_cut (ps_lstK (K := K) rfl PassesOwn.never rfl (pe_op o_add (pe_lst (pa_cons (pe_ix (i_ixK (K := K) rfl) (pe_fn0 G_w_signs (hr.mono (by decide))) (pe_fn G_w_mixed (hr.mono (by decide)) (pa_cons (qv 2) (pa_cons pe_int (pa_cons pe_int pa_nil)))) (fun _ _ => rfl)) pa_nil)) (pe_compS (own := ["_law_sign"]) (cp := []) rfl rfl rfl (by decide +kernel) (by decide +kernel) trivial (pe_slice (s_slK (K := K) rfl) (qv 1) po_none (po_t pe_int)) (by decide) (fun _ _ _ _ => pg_name (i := 0) (show List.Nodup (["_law_sign"] : List Str) by decide +kernel) rfl (Or.inl rfl) (Or.inr rfl)) (fun _ _ _ _ => pf_nil) (fun _ _ _ _ => (qv 0)))) (pg_name (i := 9) sc_law.nd rfl (by first | exact Or.inl rfl | exact Or.inr rfl)) (pss_one (ps_if (pt_not (pt_trK (K := K) rfl (pe_fn G_w_before_right (hr.mono (by decide)) (pa_cons (qv 5) (pa_cons (qv 6) (pa_cons (qv 9) pa_nil)))))) (pss_one (ps_ret pe_bl)) pss_nil))))
        (pss_one (ps_ret (pe_fn G_w_kept_right (hr.mono (by decide)) (pa_cons (pe_md0 M_m_Marks_kept (hr.mono (by decide)) (qv 5)) (pa_cons (qv 6) (pa_cons (qv 4) pa_nil))))))))))))))))))), ?_⟩
    have hsz : sizeLine = 16777216 := sizeLine_eq
    have ten : ∀ c ∈ signs, 10 < c := by decide
    refine cutS (fun σ' H' => Same H H' ∧ ∃ l : List Nat, l.length ≤ 40 ∧ (∀ c ∈ l, c ∈ signs) ∧ σ' = [some (V.ref a), some (V.str (T l)), none, none, none, none, none, none, none, none]) ?_ ?_
    · simp only [L2.start, List.map_cons, List.map_nil, List.length_cons, List.length_nil, List.replicate_succ, List.replicate_zero, List.cons_append, List.nil_append, Nat.reduceAdd, Nat.reduceSub, Int.reduceLE, true_and, List.set_cons_zero, List.set_cons_succ, gS, rVar, tC, tAsg, gName, tCons, tNil, tFn, tSl, pT, slV, sp_w_letters_by, sp_w_cell_at]
      have c40 : (cut ns (some 3) (some 43)).length ≤ 40 := by
        rw [show (43 : Int) = ((3 : Nat) : Int) + ((40 : Nat) : Int) from rfl, show (3 : Int) = ((3 : Nat) : Int) from rfl, cut_mid, List.length_take]
        omega
      exact ⟨_, hS, fun p hp => ⟨ns, (Same.updN hp).seq hS, cut ns (some 3) (some 43), SqL.of (by rw [upd_same, cut_map]), by omega, fun l ll hl => ⟨Same.updN hp, l, by omega, hl, rfl⟩⟩⟩
    rintro _ H1 ⟨sm1, l, hl, hs, rfl⟩
    have hS1 := sm1.seq hS
    have bk1 := bk_same bk sm1
    have l10 : ∀ c ∈ l, 10 < c := fun c hc => ten c (hs c hc)
    have l10' : ∀ c ∈ l, c ≠ 10 := fun c hc => Nat.ne_of_gt (l10 c hc)
    clear hS bk sm1
    refine cutS (fun σ' H' => H' = H1 ∧ ∃ ce : Int, σ' = [some (V.ref a), some (V.str (T l)), some (V.int ce), none, none, none, none, none, none, none]) ?_ ?_
    · simp only [Int.reduceLE, true_and, List.set_cons_zero, List.set_cons_succ, gS, rVar, tC, tAsg, gName, tCons, tNil, tFn, sp_w_cell_at]
      exact ⟨ns, hS1, _, rfl⟩
    rintro _ H1 ⟨rfl, ce, rfl⟩
    refine cutS (fun σ' H' => H' = H1 ∧ ∃ hm : Nat, hm ≤ l.length ∧ σ' = [some (V.ref a), some (V.str (T l)), some (V.int ce), some (V.int (hm : Int)), none, none, none, none, none, none]) ?_ ?_
    · simp only [true_and, List.set_cons_zero, List.set_cons_succ, gS, rVar, tC, tAsg, gName, tOp, tCB, tCons, tNil, tFn, addV, lenV, L_T, sp_w_mixed]
      refine ⟨by omega, by omega, fun r h1 h2 => ⟨r.toNat, by omega, ?_⟩⟩
      rw [Int.toNat_of_nonneg h1]
    rintro _ H1 ⟨rfl, hm, hhm, rfl⟩
    refine cutS (fun σ' H' => H' = H1 ∧ ∃ g : Int, 1 ≤ g ∧ σ' = [some (V.ref a), some (V.str (T l)), some (V.int ce), some (V.int (hm : Int)), some (V.int g), none, none, none, none, none]) ?_ ?_
    · simp only [Int.reduceLT, Int.reduceLE, true_and, List.set_cons_zero, List.set_cons_succ, gS, rVar, tC, tAsg, gName, tOp, tCons, tNil, tFn, addV, sp_w_cell_at, sp_w_mixed]
      exact ⟨ns, hS1, fun r h1 h2 => ⟨_, by omega, rfl⟩⟩
    rintro _ H1 ⟨rfl, g, hg, rfl⟩
    refine cutS (fun σ' H' => H' = H1 ∧ ∃ g : Int, 1 ≤ g ∧ σ' = [some (V.ref a), some (V.str (T l)), some (V.int ce), some (V.int (hm : Int)), some (V.int g), none, none, none, none, none]) ?_ ?_
    · simp only [Int.reduceLT, Int.reduceLE, true_and, decide_eq_true_eq, List.set_cons_zero, List.set_cons_succ, gS, rVar, tC, tNext, tAsg, gName, tIfS, tOp, tCons, tNil, tFn, tB2, addV, int2, eqR, sc, rCat, sp_w_cell_at, sp_w_mixed]
      have f0 : (0 : Int) < 10 ^ Int.toNat 60 := by decide
      refine ⟨ns, hS1, fun r h1 h2 => ite2 (fun w => ?_) fun w => ⟨_, hg, rfl⟩⟩
      have := Int.emod_nonneg (cellAt ns 2) (b := 10 ^ Int.toNat 60) (by omega)
      exact ⟨ns, hS1, ⟨by decide, by decide, by decide⟩, f0, _, by omega, rfl⟩
    clear hg g
    rintro _ H1 ⟨rfl, g, hg, rfl⟩
    refine cutS (fun σ' H' => Bk_m_Letters_init tb_m_Letters_init H' ∧ ∃ xm, IsMks C_Marks C_Letters H' xm l hm g ∧ σ' = [some (V.ref a), some (V.str (T l)), some (V.int ce), some (V.int (hm : Int)), some (V.int g), some (V.ref xm), none, none, none, none]) ?_ ?_
    · simp only [true_and, List.set_cons_zero, List.set_cons_succ, gS, rVar, tAsg, gName, tCons, tNil, L_T, tMake, List.append_nil, sp_m_Marks_init]
      intro x dx hx hdx hnx
      have hdx2 : upd H1 dx (HO.own x) x = none := (upd_ne (Ne.symm hnx)).trans hx
      refine ⟨by omega, l10', (bk1.put hdx).put hdx2, ⟨dx, upd_same⟩, fun w => absurd ⟨by omega, by omega⟩ w, fun w => ⟨fun z => by omega, fun _ H2 mk2 bk2 im => ⟨bk2, x, ?_, rfl⟩⟩⟩
      rw [Int.toNat_natCast] at im
      exact im
    clear hS1 bk1
    rintro _ H1 ⟨bk1, xm, im1, rfl⟩
    refine cutS (fun σ' H' => Bk_m_Letters_init tb_m_Letters_init H' ∧ IsMks C_Marks C_Letters H' xm l hm g ∧ ∃ r, H' r = some (.lst (rowsV l hm)) ∧ σ' = [some (V.ref a), some (V.str (T l)), some (V.int ce), some (V.int (hm : Int)), some (V.int g), some (V.ref xm), some (V.ref r), none, none, none]) ?_ ?_
    · simp only [List.set_cons_zero, List.set_cons_succ, gS, rVar, tAsg, gName, tCons, tNil, tFn, L_T, sp_w_rows]
      refine ⟨by omega, by omega, by omega, fun p hp => ⟨bk_same bk1 (Same.updN hp), im1.same fun b o e _ => Same.updN hp _ _ e, p, ?_, rfl⟩⟩
      rw [upd_same, Int.toNat_natCast, rowsV_put hhm]
    clear bk1 im1
    rintro _ H1 ⟨bk1, im1, r, hr1, rfl⟩
    refine cutS (fun σ' H' => Same H1 H' ∧ ∃ p ds, ∃ ms : List Addr, (ds.Nodup ∧ (∀ c, c ∈ ds ↔ c ∈ l) ∧ ds.Pairwise (· ≤ ·)) ∧ (H1 p = none ∧ ∀ m ∈ ms, H1 m = none) ∧ H' p = some (.lst (ms.map V.ref)) ∧ (ms.length : Int) = ((l.length : Int) + 1) / g + 1 ∧ MksAt H' ms ds l hm g ∧ σ' = [some (V.ref a), some (V.str (T l)), some (V.int ce), some (V.int (hm : Int)), some (V.int g), some (V.ref xm), some (V.ref r), some (V.ref p), none, none]) ?_ ?_
    · simp only [List.set_cons_zero, List.set_cons_succ, gS, rVar, tAsg, gName, tNil, tMeth, List.append_nil, sp_m_Marks_kept]
      have imc := im1
      obtain ⟨dx, a', m', ms', ds', hx, _⟩ := imc
      exact ⟨xm, _, _, rfl, hx, rfl, C_Letters, l, hm, g, im1, by omega, fun p H2 ds ms sm nd mem pw fp fm hp ml mks => ⟨sm, p, ds, ms, ⟨nd, mem, pw⟩, ⟨fp, fm⟩, hp, ml, mks, rfl⟩⟩
    rintro _ H2 ⟨sm2, p, ds, ms, hds, fr, hp, ml, mks, rfl⟩
    refine cutS (fun σ' H' => SameN H2 H' ∧ σ' = [some (V.ref a), some (V.str (T l)), some (V.int ce), some (V.int (hm : Int)), some (V.int g), some (V.ref xm), some (V.ref r), some (V.ref p), none, none]) ?_ ?_
    · simp only [List.length_cons, List.length_nil, Nat.reduceAdd, Int.reduceLT, Int.reduceLE, true_and, and_true, if_true, if_false, Bool.not_true, Bool.false_eq_true, gS, rVar, tC, tNext, tRet, tIfS, tCons, tNil, tLst, tFn, tOr, tNot, trV, tMeth, tMake, List.append_nil, sp_w_kept_right, sp_m_Marks_init, sp_m_Marks_kept]
      refine ⟨l, hm, ds, ms, hp, ml, mks, hds.1, hds.2.1, hds.2.2, hs, sm2 _ _ hr1, hhm, by omega, hg, fun H3 sm3 x dx hx hdx hnx => ?_⟩
      have hdx2 : upd H3 dx (HO.own x) x = none := (upd_ne (Ne.symm hnx)).trans hx
      have eba : L (Str.ofString "ba") = [98, 97] := by decide +kernel
      rw [eba]
      refine ⟨by decide, by decide, ((bk_same (bk_same bk1 sm2) sm3).put hdx).put hdx2, ⟨dx, upd_same⟩, fun w => absurd (by decide) w, fun _ => ⟨fun z => z.elim, fun _ H4 mk4 bk4 im4 => ?_⟩⟩
      have imc := im4
      obtain ⟨dx4, a4, m4, ms4, ds4, hx4, _⟩ := imc
      refine ⟨x, _, _, rfl, hx4, rfl, C_Letters, _, _, _, im4, by decide, fun p5 H5 ds5 ms5 sm5 nd5 mem5 pw5 fp5 fm5 hp5 ml5 mks5 => ?_⟩
      have s5 : SameN H2 H5 := (sm3.toN.trans (made_same hx hdx mk4.1 mk4.2)).trans sm5.toN
      refine ⟨by omega, fun p6 hp6 => ?_⟩
      have s6 : Same H5 (upd H5 p6 (HO.lst [V.str (Str.ofString "b"), V.non, V.str (Str.ofString "a")])) := Same.updN hp6
      refine ⟨[98, 97], 1, ds5, ms5, s6 _ _ hp5, ml5, fun k mk e => (mks5 k mk e).keep (fun b xs e => s6 _ _ e) fun xs e => s6 _ _ e, nd5, mem5, pw5, by decide +kernel, ?_, by decide, by decide, fun H7 sm7 => s5.trans (s6.trans sm7).toN⟩
      rw [upd_same]
      have eb : Str.ofString "b" = T [98] := by decide +kernel
      have ea : Str.ofString "a" = T [97] := by decide +kernel
      rw [eb, ea]
      rfl
    rintro _ H3 ⟨sn3, rfl⟩
    have sn13 := sm2.toN.trans sn3
    have nl : ∀ xs, ∀ ps, HO.lst xs ≠ HO.tbl ps := fun xs ps z => by cases z
    have nt : ∀ xs, ∀ ps, HO.tup xs ≠ HO.tbl ps := fun xs ps z => by cases z
    have hp3 := sn3.at hp (nl _)
    have mks3 : MksAt H3 ms ds l hm g := fun k mk e => (mks k mk e).keep (fun b xs e => sn3.at e (nt _)) fun xs e => sn3.at e (nl _)
    refine cutS (fun σ' H' => Same H3 H' ∧ σ' = [some (V.ref a), some (V.str (T l)), some (V.int ce), some (V.int (hm : Int)), some (V.int g), some (V.ref xm), some (V.ref r), some (V.ref p), none, none]) ?_ ?_
    · simp only [and_true, if_false, Bool.not_true, Bool.false_eq_true, gS, rVar, tC, tNext, tRet, tIfS, tCons, tNil, tFn, tNot, trV, sp_w_kept_right]
      exact ⟨l, hm, ds, ms, hp3, ml, mks3, hds.1, hds.2.1, hds.2.2, hs, sn13.at hr1 (nl _), hhm, by omega, hg, fun H4 sm4 => sm4⟩
    rintro _ H4 ⟨sm4, rfl⟩
    have put : ∀ {H' : Hp} {m : Addr} {o : HO}, SameN H1 H' → H1 m = none → SameN H1 (upd H' m o) := fun {H' m o} sn fm b u e => by
      rw [upd_ne (fun z => by rw [z, fm] at e; cases e)]
      exact sn b u e
    have sn14 := sn13.trans sm4.toN
    have hp4 := sm4 _ _ hp3
    have len4 : ∀ m ∈ ms, ∃ xs : List V, H4 m = some (.lst xs) ∧ xs.length ≤ 62 := by
      intro m hmm
      obtain ⟨k, hk, e⟩ := List.getElem_of_mem hmm
      obtain ⟨ts, t1, t2, _⟩ := mks3 k m (by rw [List.getElem?_eq_getElem hk, e])
      have := LO.len_sub hds.1 fun c hc => (hds.2.1 c).mp hc
      exact ⟨_, sm4 _ _ t1, by rw [List.length_map]; omega⟩
    refine cutS (fun σ' H' => SameN H1 H' ∧ (∃ xs : List V, H' p = some (.lst xs) ∧ xs.length ≤ 100) ∧ ∃ v8, σ' = [some (V.ref a), some (V.str (T l)), some (V.int ce), some (V.int (hm : Int)), some (V.int g), some (V.ref xm), some (V.ref r), some (V.ref p), v8, none]) ?_ ?_
    · simp only [List.length_cons, List.length_nil, Nat.reduceAdd, true_and, String.reduceEq, gS, rVar, tC, gName, tDrop, tCons, tNil, tTup, tBM, tyV, rAppend, tLst1, forL]
      have k5 : ((l.length : Int) + 1) / g ≤ (l.length : Int) + 1 := Int.ediv_le_self _ (by omega)
      have pne : ∀ m ∈ ms, p ≠ m := by
        rintro m hmm rfl
        obtain ⟨k, hk, e⟩ := List.getElem_of_mem hmm
        obtain ⟨ts, t1, t2, t3⟩ := mks3 k p (by rw [List.getElem?_eq_getElem hk, e])
        have et : ms.map V.ref = ts.map V.ref := by
          rw [hp3] at t1
          exact HO.lst.inj (Option.some.inj t1)
        obtain rfl : ms = ts := (List.map_inj_right (fun a b z => V.ref.inj z)).mp et
        have := t3 k p ds[k] (by rw [List.getElem?_eq_getElem hk, e]) (List.getElem?_eq_getElem (by omega))
        rw [hp3] at this
        cases this
      refine ⟨_, SqL.of hp4, fun i σ H' => SameN H1 H' ∧ H' p = some (.lst (ms.map V.ref)) ∧ (∀ m ∈ ms, ∃ xs : List V, H' m = some (.lst xs) ∧ xs.length ≤ 62 + i) ∧ ∃ v8, σ = [some (V.ref a), some (V.str (T l)), some (V.int ce), some (V.int (hm : Int)), some (V.int g), some (V.ref xm), some (V.ref r), some (V.ref p), v8, none], ⟨sn14, hp4, len4, _, rfl⟩, ?_, ?_, ?_⟩
      · rintro i σ H' _ ⟨_, h', _⟩
        exact SqL.of h'
      · rintro i v σ H' hv ⟨sn, h', lens, v8, rfl⟩
        have hi := (List.getElem?_eq_some_iff.mp hv).1
        rw [List.length_map] at hi
        rw [List.getElem?_map] at hv
        obtain ⟨m, em, rfl⟩ := Option.map_eq_some_iff.mp hv
        have mm := List.mem_of_getElem? em
        obtain ⟨xs, hxs, lx⟩ := lens m mm
        simp only [List.set_cons_zero, List.set_cons_succ, gS]
        refine ⟨.inl ⟨_, SqL.of hxs⟩, by omega, fun p2 hp2 => ⟨m, xs, V.ref p2, rfl, rfl, (upd_ne (ne_of_none hxs hp2)).trans hxs, by omega, put (sn.upd hp2) (fr.2 m mm), (upd_ne (pne m mm)).trans ((upd_ne (ne_of_none h' hp2)).trans h'), fun m' mm' => ?_, _, rfl⟩⟩
        by_cases w : m' = m
        · rw [w]
          exact ⟨_, upd_same, by rw [List.length_append, List.length_singleton]; omega⟩
        · obtain ⟨xs', hxs', lx'⟩ := lens m' mm'
          exact ⟨xs', (upd_ne w).trans ((upd_ne (ne_of_none hxs' hp2)).trans hxs'), by omega⟩
      · rintro σ H' ⟨sn, h', lens, v8, rfl⟩
        exact ⟨sn, ⟨_, h', by rw [List.length_map]; omega⟩, _, rfl⟩
    rintro _ H5 ⟨sn15, ⟨xs5, hp5, lx5⟩, v8, rfl⟩
    refine cutS (fun σ' H' => SameN H1 H' ∧ σ' = [some (V.ref a), some (V.str (T l)), some (V.int ce), some (V.int (hm : Int)), some (V.int g), some (V.ref xm), some (V.ref r), some (V.ref p), v8, none]) ?_ ?_
    · simp only [List.length_nil, true_and, and_true, String.reduceEq, gS, rVar, tDrop, tCons, tNil, tLst, tBM, tyV, rAppend]
      exact ⟨.inl ⟨_, SqL.of hp5⟩, by omega, fun p2 hp2 => ⟨p, xs5, V.ref p2, rfl, rfl, (upd_ne (ne_of_none hp5 hp2)).trans hp5, by omega, put (sn15.upd hp2) fr.1⟩⟩
    rintro _ H6 ⟨sn16, rfl⟩
    refine cutS (fun σ' H' => SameN H1 H' ∧ ∃ v9, σ' = [some (V.ref a), some (V.str (T l)), some (V.int ce), some (V.int (hm : Int)), some (V.int g), some (V.ref xm), some (V.ref r), some (V.ref p), v8, v9]) ?_ ?_
    · simp only [List.map_nil, List.length_cons, List.length_nil, List.replicate_succ, List.replicate_zero, Nat.reduceAdd, Int.reduceLT, true_and, if_true, if_false, Bool.not_true, Bool.false_eq_true, List.set_cons_zero, gS, rVar, tC, tNext, gName, tRet, tIfS, tOp, tCons, tNil, tLst, tFn, tNot, trV, tSl, tNoPart, pT, addV, ixV, slV, L_T, rCat, tCS, oneC, capS, List.append_nil, sp_w_before_right, sp_w_mixed, sp_w_signs, tLst1, forL]
      intro r1 g1 g2
      have cl := cut_len l none (some 3)
      refine ⟨by rw [signs_len, hsz]; decide, _, atI_getD 0 g1 (by rw [signs_len]; exact g2), by omega, fun p1 hp1 => ⟨by omega, by omega, fun i H2 acc => H2 = upd H6 p1 (.lst [V.str (T [signs.getD r1.toNat 0])]) ∧ acc = ((cut l none (some 3)).take i).map fun c => V.str (T [c]), ⟨rfl, rfl⟩, ?_, ?_⟩⟩
      · rintro i H2 acc hi ⟨rfl, rfl⟩
        refine ⟨rfl, ?_⟩
        rw [List.take_add_one, List.getElem?_eq_getElem hi, Option.toList_some, List.map_append, List.getD_eq_getElem?_getD, List.getElem?_eq_getElem hi]
        rfl
      · rintro H2 acc ⟨rfl, rfl⟩ l1 hl1
        rw [List.take_length]
        refine ⟨p1, l1, [V.str (T [signs.getD r1.toNat 0])], _, rfl, rfl, (upd_ne (ne_of_none upd_same hl1)).trans upd_same, upd_same, by rw [List.length_map, List.length_singleton]; omega, fun p2 hp2 => ⟨_, SqL.of upd_same, fun i σ H' => SameN H1 H' ∧ H' p2 = some (.lst ([V.str (T [signs.getD r1.toNat 0])] ++ (cut l none (some 3)).map fun c => V.str (T [c]))) ∧ ∃ v9, σ = [some (V.ref a), some (V.str (T l)), some (V.int ce), some (V.int (hm : Int)), some (V.int g), some (V.ref xm), some (V.ref r), some (V.ref p), v8, v9], ⟨((sn16.upd hp1).upd hl1).upd hp2, upd_same, _, rfl⟩, ?_, ?_, ?_⟩⟩
        · rintro i σ H' _ ⟨_, h', _⟩
          exact SqL.of h'
        · rintro i v σ H' hv ⟨sn, h', v9, rfl⟩
          obtain ⟨d, hd, rfl⟩ : ∃ d, d ∈ signs ∧ v = V.str (T [d]) := by
            rcases List.mem_append.mp (List.mem_of_getElem? hv) with z | z
            · exact ⟨_, signs_at (by omega), List.mem_singleton.mp z⟩
            · obtain ⟨c, hc, rfl⟩ := List.mem_map.mp z
              exact ⟨c, hs c (List.mem_of_mem_drop (List.mem_of_mem_take hc)), rfl⟩
          simp only [List.cons_append, List.nil_append, List.set_cons_zero, List.set_cons_succ, gS, L_T]
          exact ⟨l, hm, g, d, im1.same fun b o e n => sn.at e n, by omega, hhm, l10', rfl, Nat.ne_of_gt (ten d hd), sn.at hr1 (nl _), fun H8 sm8 => ⟨sn.trans sm8.toN, sm8 _ _ h', _, rfl⟩⟩
        · rintro σ H' ⟨sn, h', v9, rfl⟩
          exact ⟨sn, _, rfl⟩
    rintro _ H7 ⟨sn17, v9, rfl⟩
    simp only [gS, rVar, tRet, tCons, tNil, tFn, tMeth, List.append_nil, sp_w_kept_right, sp_m_Marks_kept]
    have im7 := im1.same fun b o e n => sn17.at e n
    have imc := im7
    obtain ⟨dx7, a7, m7, ms7, ds7, hx7, _⟩ := imc
    exact ⟨xm, _, _, rfl, hx7, rfl, C_Letters, l, hm, g, im7, by omega, fun p8 H8 ds8 ms8 sm8 nd8 mem8 pw8 fp8 fm8 hp8 ml8 mks8 => ⟨l, hm, ds8, ms8, hp8, ml8, mks8, nd8, mem8, pw8, hs, sm8 _ _ (sn17.at hr1 (nl _)), hhm, by omega, hg, fun H9 _ => q _⟩⟩
end
theorem us0 {us : List Value} (h : us.length = 0) : us = [] := match us, h with | [], _ => rfl
theorem us1 {us : List Value} (h : us.length = 1) : ∃ x0, us = [x0] := match us, h with | [x0], _ => ⟨x0, rfl⟩
theorem us2 {us : List Value} (h : us.length = 2) : ∃ x0 x1, us = [x0, x1] := match us, h with | [x0, x1], _ => ⟨x0, x1, rfl⟩
theorem us3 {us : List Value} (h : us.length = 3) : ∃ x0 x1 x2, us = [x0, x1, x2] := match us, h with | [x0, x1, x2], _ => ⟨x0, x1, x2, rfl⟩
theorem us4 {us : List Value} (h : us.length = 4) : ∃ x0 x1 x2 x3, us = [x0, x1, x2, x3] := match us, h with | [x0, x1, x2, x3], _ => ⟨x0, x1, x2, x3, rfl⟩
theorem all_mk {l : PySem.W.OpenLaw} {w : World} {K : PySem.W.Frag} {h : Heap} {mg : Str → Option Value} {fa f_p_check_place f_p_check_gap f_w_cell_at f_w_mixed f_w_signs f_w_whole f_w_letters_by f_w_rows f_w_mark_right f_w_kept_right f_w_before_right f_law f_m_Letters_init f_m_Letters_letter f_m_Letters_before f_m_Marks_init f_m_Marks_kept f_m_Marks_before e_NoPlace e_NoGap C_Letters C_Marks : Addr} (X : K.In h) (G : h.Ns mainGlobals mg) (hfa : mg "law" = some (.ref fa))
    {od_d0 an_d0 od_d1 an_d1 od_d2 an_d2 od_d3 an_d3 od_d4 an_d4 od_d5 an_d5 od_d6 an_d6 od_d7 an_d7 od_d8 an_d8 od_d9 an_d9 od_d10 an_d10 od_d11 an_d11 od_d12 an_d12 od_d13 an_d13 od_d14 an_d14 od_d15 an_d15 od_d16 an_d16 od_d17 an_d17 : Option Addr} {sl_d0 sl_d1 sl_d2 sl_d3 sl_d4 sl_d5 sl_d6 sl_d7 sl_d8 sl_d9 sl_d10 sl_d11 sl_d12 sl_d13 sl_d14 sl_d15 sl_d16 sl_d17 : Array (Option Value)} {oc_d0 kV_d0 dc_d0 pm_d0 ct_d0 cd_d0 oc_d1 kV_d1 dc_d1 pm_d1 ct_d1 cd_d1 oc_d2 kV_d2 dc_d2 pm_d2 ct_d2 cd_d2 oc_d3 kV_d3 dc_d3 pm_d3 ct_d3 cd_d3 oc_d4 kV_d4 dc_d4 pm_d4 ct_d4 cd_d4 oc_d5 kV_d5 dc_d5 pm_d5 ct_d5 cd_d5 oc_d6 kV_d6 dc_d6 pm_d6 ct_d6 cd_d6 oc_d7 kV_d7 dc_d7 pm_d7 ct_d7 cd_d7 oc_d8 kV_d8 dc_d8 pm_d8 ct_d8 cd_d8 oc_d9 kV_d9 dc_d9 pm_d9 ct_d9 cd_d9 oc_d10 kV_d10 dc_d10 pm_d10 ct_d10 cd_d10 oc_d11 kV_d11 dc_d11 pm_d11 ct_d11 cd_d11 oc_d12 kV_d12 dc_d12 pm_d12 ct_d12 oc_d13 kV_d13 dc_d13 pm_d13 ct_d13 cd_d13 oc_d14 kV_d14 dc_d14 pm_d14 ct_d14 cd_d14 oc_d15 kV_d15 dc_d15 pm_d15 ct_d15 cd_d15 oc_d16 kV_d16 dc_d16 pm_d16 ct_d16 cd_d16 oc_d17 kV_d17 dc_d17 pm_d17 ct_d17 cd_d17 : Value}
    (a_d0 : PySem.W.nsIn K mainGlobals "check_place" = some (some (.ref f_p_check_place))) (l_d0 : K.lookup f_p_check_place = some ⟨oc_d0, od_d0, .func (PySem.W.fnOf "check_place" "check_place" (defArgs s_p_check_place) (defBody s_p_check_place) (defScope s_p_check_place) .none kV_d0 dc_d0 pm_d0 an_d0 cd_d0 ct_d0), sl_d0⟩) (c_d0 : PySem.W.codeIn K cd_d0 "check_place" = true) (k_d0 : PySem.W.keepIn K (.ref f_p_check_place) = true)
    (a_d1 : PySem.W.nsIn K mainGlobals "check_gap" = some (some (.ref f_p_check_gap))) (l_d1 : K.lookup f_p_check_gap = some ⟨oc_d1, od_d1, .func (PySem.W.fnOf "check_gap" "check_gap" (defArgs s_p_check_gap) (defBody s_p_check_gap) (defScope s_p_check_gap) .none kV_d1 dc_d1 pm_d1 an_d1 cd_d1 ct_d1), sl_d1⟩) (c_d1 : PySem.W.codeIn K cd_d1 "check_gap" = true) (k_d1 : PySem.W.keepIn K (.ref f_p_check_gap) = true)
    (a_d2 : PySem.W.nsIn K mainGlobals "_law_cell_at" = some (some (.ref f_w_cell_at))) (l_d2 : K.lookup f_w_cell_at = some ⟨oc_d2, od_d2, .func (PySem.W.fnOf "_law_cell_at" "_law_cell_at" (defArgs s_w_cell_at) (defBody s_w_cell_at) (defScope s_w_cell_at) .none kV_d2 dc_d2 pm_d2 an_d2 cd_d2 ct_d2), sl_d2⟩) (c_d2 : PySem.W.codeIn K cd_d2 "_law_cell_at" = true) (k_d2 : PySem.W.keepIn K (.ref f_w_cell_at) = true)
    (a_d3 : PySem.W.nsIn K mainGlobals "_law_mixed" = some (some (.ref f_w_mixed))) (l_d3 : K.lookup f_w_mixed = some ⟨oc_d3, od_d3, .func (PySem.W.fnOf "_law_mixed" "_law_mixed" (defArgs s_w_mixed) (defBody s_w_mixed) (defScope s_w_mixed) .none kV_d3 dc_d3 pm_d3 an_d3 cd_d3 ct_d3), sl_d3⟩) (c_d3 : PySem.W.codeIn K cd_d3 "_law_mixed" = true) (k_d3 : PySem.W.keepIn K (.ref f_w_mixed) = true)
    (a_d4 : PySem.W.nsIn K mainGlobals "_law_signs" = some (some (.ref f_w_signs))) (l_d4 : K.lookup f_w_signs = some ⟨oc_d4, od_d4, .func (PySem.W.fnOf "_law_signs" "_law_signs" (defArgs s_w_signs) (defBody s_w_signs) (defScope s_w_signs) .none kV_d4 dc_d4 pm_d4 an_d4 cd_d4 ct_d4), sl_d4⟩) (c_d4 : PySem.W.codeIn K cd_d4 "_law_signs" = true) (k_d4 : PySem.W.keepIn K (.ref f_w_signs) = true)
    (a_d5 : PySem.W.nsIn K mainGlobals "_law_whole" = some (some (.ref f_w_whole))) (l_d5 : K.lookup f_w_whole = some ⟨oc_d5, od_d5, .func (PySem.W.fnOf "_law_whole" "_law_whole" (defArgs s_w_whole) (defBody s_w_whole) (defScope s_w_whole) .none kV_d5 dc_d5 pm_d5 an_d5 cd_d5 ct_d5), sl_d5⟩) (c_d5 : PySem.W.codeIn K cd_d5 "_law_whole" = true) (k_d5 : PySem.W.keepIn K (.ref f_w_whole) = true)
    (a_d6 : PySem.W.nsIn K mainGlobals "_law_letters_by" = some (some (.ref f_w_letters_by))) (l_d6 : K.lookup f_w_letters_by = some ⟨oc_d6, od_d6, .func (PySem.W.fnOf "_law_letters_by" "_law_letters_by" (defArgs s_w_letters_by) (defBody s_w_letters_by) (defScope s_w_letters_by) .none kV_d6 dc_d6 pm_d6 an_d6 cd_d6 ct_d6), sl_d6⟩) (c_d6 : PySem.W.codeIn K cd_d6 "_law_letters_by" = true) (k_d6 : PySem.W.keepIn K (.ref f_w_letters_by) = true)
    (a_d7 : PySem.W.nsIn K mainGlobals "_law_rows" = some (some (.ref f_w_rows))) (l_d7 : K.lookup f_w_rows = some ⟨oc_d7, od_d7, .func (PySem.W.fnOf "_law_rows" "_law_rows" (defArgs s_w_rows) (defBody s_w_rows) (defScope s_w_rows) .none kV_d7 dc_d7 pm_d7 an_d7 cd_d7 ct_d7), sl_d7⟩) (c_d7 : PySem.W.codeIn K cd_d7 "_law_rows" = true) (k_d7 : PySem.W.keepIn K (.ref f_w_rows) = true)
    (a_d8 : PySem.W.nsIn K mainGlobals "_law_mark_right" = some (some (.ref f_w_mark_right))) (l_d8 : K.lookup f_w_mark_right = some ⟨oc_d8, od_d8, .func (PySem.W.fnOf "_law_mark_right" "_law_mark_right" (defArgs s_w_mark_right) (defBody s_w_mark_right) (defScope s_w_mark_right) .none kV_d8 dc_d8 pm_d8 an_d8 cd_d8 ct_d8), sl_d8⟩) (c_d8 : PySem.W.codeIn K cd_d8 "_law_mark_right" = true) (k_d8 : PySem.W.keepIn K (.ref f_w_mark_right) = true)
    (a_d9 : PySem.W.nsIn K mainGlobals "_law_kept_right" = some (some (.ref f_w_kept_right))) (l_d9 : K.lookup f_w_kept_right = some ⟨oc_d9, od_d9, .func (PySem.W.fnOf "_law_kept_right" "_law_kept_right" (defArgs s_w_kept_right) (defBody s_w_kept_right) (defScope s_w_kept_right) .none kV_d9 dc_d9 pm_d9 an_d9 cd_d9 ct_d9), sl_d9⟩) (c_d9 : PySem.W.codeIn K cd_d9 "_law_kept_right" = true) (k_d9 : PySem.W.keepIn K (.ref f_w_kept_right) = true)
    (a_d10 : PySem.W.nsIn K mainGlobals "_law_before_right" = some (some (.ref f_w_before_right))) (l_d10 : K.lookup f_w_before_right = some ⟨oc_d10, od_d10, .func (PySem.W.fnOf "_law_before_right" "_law_before_right" (defArgs s_w_before_right) (defBody s_w_before_right) (defScope s_w_before_right) .none kV_d10 dc_d10 pm_d10 an_d10 cd_d10 ct_d10), sl_d10⟩) (c_d10 : PySem.W.codeIn K cd_d10 "_law_before_right" = true) (k_d10 : PySem.W.keepIn K (.ref f_w_before_right) = true)
    (a_d11 : PySem.W.nsIn K mainGlobals "law" = some (some (.ref f_law))) (l_d11 : K.lookup f_law = some ⟨oc_d11, od_d11, .func (PySem.W.fnOf "law" "law" (defArgs s_law) (defBody s_law) (defScope s_law) .none kV_d11 dc_d11 pm_d11 an_d11 cd_d11 ct_d11), sl_d11⟩) (c_d11 : PySem.W.codeIn K cd_d11 "law" = true) (k_d11 : PySem.W.keepIn K (.ref f_law) = true)
    {cA_d12 tb_m_Letters_init : Addr} {cv_d12 : List Value}
    (a_d12 : PySem.W.findIn K (.ref C_Letters) "__init__" = some (some (.ref f_m_Letters_init))) (i_d12 : PySem.W.isFn K (.ref f_m_Letters_init) = true) (l_d12 : K.lookup f_m_Letters_init = some ⟨oc_d12, od_d12, .func (PySem.W.fnOf "__init__" "Letters.__init__" (defArgs s_m_Letters_init) (defBody s_m_Letters_init) (defScope s_m_Letters_init) .none kV_d12 dc_d12 pm_d12 an_d12 (.ref cA_d12) ct_d12), sl_d12⟩) (c_d12 : PySem.W.codeIn K (.ref cA_d12) "Letters.__init__" = true) (k_d12 : PySem.W.keepIn K (.ref f_m_Letters_init) = true)
    (t_m_Letters_init : PySem.W.recIn K cA_d12 "code" = some cv_d12) (u_d12 : cv_d12[11]? = some (.ref tb_m_Letters_init)) (h_d12 : PySem.W.codeHdIn K cA_d12 tb_m_Letters_init = true) (n_d12 : K.lookup tb_m_Letters_init = none)
    (a_d13 : PySem.W.findIn K (.ref C_Letters) "letter" = some (some (.ref f_m_Letters_letter))) (i_d13 : PySem.W.isFn K (.ref f_m_Letters_letter) = true) (l_d13 : K.lookup f_m_Letters_letter = some ⟨oc_d13, od_d13, .func (PySem.W.fnOf "letter" "Letters.letter" (defArgs s_m_Letters_letter) (defBody s_m_Letters_letter) (defScope s_m_Letters_letter) .none kV_d13 dc_d13 pm_d13 an_d13 cd_d13 ct_d13), sl_d13⟩) (c_d13 : PySem.W.codeIn K cd_d13 "Letters.letter" = true) (k_d13 : PySem.W.keepIn K (.ref f_m_Letters_letter) = true)
    (a_d14 : PySem.W.findIn K (.ref C_Letters) "before" = some (some (.ref f_m_Letters_before))) (i_d14 : PySem.W.isFn K (.ref f_m_Letters_before) = true) (l_d14 : K.lookup f_m_Letters_before = some ⟨oc_d14, od_d14, .func (PySem.W.fnOf "before" "Letters.before" (defArgs s_m_Letters_before) (defBody s_m_Letters_before) (defScope s_m_Letters_before) .none kV_d14 dc_d14 pm_d14 an_d14 cd_d14 ct_d14), sl_d14⟩) (c_d14 : PySem.W.codeIn K cd_d14 "Letters.before" = true) (k_d14 : PySem.W.keepIn K (.ref f_m_Letters_before) = true)
    (a_d15 : PySem.W.findIn K (.ref C_Marks) "__init__" = some (some (.ref f_m_Marks_init))) (i_d15 : PySem.W.isFn K (.ref f_m_Marks_init) = true) (l_d15 : K.lookup f_m_Marks_init = some ⟨oc_d15, od_d15, .func (PySem.W.fnOf "__init__" "Marks.__init__" (defArgs s_m_Marks_init) (defBody s_m_Marks_init) (defScope s_m_Marks_init) .none kV_d15 dc_d15 pm_d15 an_d15 cd_d15 ct_d15), sl_d15⟩) (c_d15 : PySem.W.codeIn K cd_d15 "Marks.__init__" = true) (k_d15 : PySem.W.keepIn K (.ref f_m_Marks_init) = true)
    (a_d16 : PySem.W.findIn K (.ref C_Marks) "kept" = some (some (.ref f_m_Marks_kept))) (i_d16 : PySem.W.isFn K (.ref f_m_Marks_kept) = true) (l_d16 : K.lookup f_m_Marks_kept = some ⟨oc_d16, od_d16, .func (PySem.W.fnOf "kept" "Marks.kept" (defArgs s_m_Marks_kept) (defBody s_m_Marks_kept) (defScope s_m_Marks_kept) .none kV_d16 dc_d16 pm_d16 an_d16 cd_d16 ct_d16), sl_d16⟩) (c_d16 : PySem.W.codeIn K cd_d16 "Marks.kept" = true) (k_d16 : PySem.W.keepIn K (.ref f_m_Marks_kept) = true)
    (a_d17 : PySem.W.findIn K (.ref C_Marks) "before" = some (some (.ref f_m_Marks_before))) (i_d17 : PySem.W.isFn K (.ref f_m_Marks_before) = true) (l_d17 : K.lookup f_m_Marks_before = some ⟨oc_d17, od_d17, .func (PySem.W.fnOf "before" "Marks.before" (defArgs s_m_Marks_before) (defBody s_m_Marks_before) (defScope s_m_Marks_before) .none kV_d17 dc_d17 pm_d17 an_d17 cd_d17 ct_d17), sl_d17⟩) (c_d17 : PySem.W.codeIn K cd_d17 "Marks.before" = true) (k_d17 : PySem.W.keepIn K (.ref f_m_Marks_before) = true)
    (m_NoPlace : PySem.W.nsIn K mainGlobals "NoPlace" = some (some (.ref e_NoPlace)))
    (x_NoPlace : PySem.W.excIn K e_NoPlace VE "ValueError.__new__" = true)
    (m_NoGap : PySem.W.nsIn K mainGlobals "NoGap" = some (some (.ref e_NoGap)))
    (x_NoGap : PySem.W.excIn K e_NoGap VE "ValueError.__new__" = true)
    (aC_Letters : PySem.W.nsIn K mainGlobals "Letters" = some (some (.ref C_Letters))) (pg_Letters : PySem.W.plainGet K C_Letters Str.empty = true) (hd_Letters : PySem.W.hasDictIn K C_Letters = true) (po_Letters : PySem.W.plainOver K C_Letters = true) (sa_Letters : PySem.W.findIn K (.ref C_Letters) "__setattr__" = some (some (.builtin "object.__setattr__"))) (mk_Letters : PySem.W.makesIn K C_Letters = true) (kc_Letters : PySem.W.keepIn K (.ref C_Letters) = true)
    (na_Letters_column : PySem.W.findIn K (.ref C_Letters) "column" = some none)
    (na_Letters_forths : PySem.W.findIn K (.ref C_Letters) "forths" = some none)
    (na_Letters_home : PySem.W.findIn K (.ref C_Letters) "home" = some none)
    (na_Letters_last : PySem.W.findIn K (.ref C_Letters) "last" = some none)
    (na_Letters_totals : PySem.W.findIn K (.ref C_Letters) "totals" = some none)
    (aC_Marks : PySem.W.nsIn K mainGlobals "Marks" = some (some (.ref C_Marks))) (pg_Marks : PySem.W.plainGet K C_Marks Str.empty = true) (hd_Marks : PySem.W.hasDictIn K C_Marks = true) (po_Marks : PySem.W.plainOver K C_Marks = true) (sa_Marks : PySem.W.findIn K (.ref C_Marks) "__setattr__" = some (some (.builtin "object.__setattr__"))) (mk_Marks : PySem.W.makesIn K C_Marks = true) (kc_Marks : PySem.W.keepIn K (.ref C_Marks) = true)
    (na_Marks_gap : PySem.W.findIn K (.ref C_Marks) "gap" = some none)
    (na_Marks_held : PySem.W.findIn K (.ref C_Marks) "held" = some none)
    (na_Marks_marks : PySem.W.findIn K (.ref C_Marks) "marks" = some none)
    {tk_NO_LETTER : Tok} (gc_NO_LETTER : PySem.W.nsIn K mainGlobals "NO_LETTER" = some (some (.str "\n" tk_NO_LETTER)))
    (z_bool : PySem.W.nsIn K mainGlobals "bool" = some none)
    (z_dict : PySem.W.nsIn K mainGlobals "dict" = some none)
    (z_int : PySem.W.nsIn K mainGlobals "int" = some none)
    (z_isinstance : PySem.W.nsIn K mainGlobals "isinstance" = some none)
    (z_len : PySem.W.nsIn K mainGlobals "len" = some none)
    (z_list : PySem.W.nsIn K mainGlobals "list" = some none)
    (z_range : PySem.W.nsIn K mainGlobals "range" = some none)
    (z_set : PySem.W.nsIn K mainGlobals "set" = some none)
    (z_sorted : PySem.W.nsIn K mainGlobals "sorted" = some none)
    (z_str : PySem.W.nsIn K mainGlobals "str" = some none)
    (z_tuple : PySem.W.nsIn K mainGlobals "tuple" = some none)
    {ts : List Addr} (hts : ∀ p ∈ ts, p = tb_m_Letters_init)
    : (∀ p ∈ ts, K.lookup p = none ∧ ∃ c, PySem.W.codeHdIn K c p = true) ∧ ∃ fd : FuncData, (∀ (s : Shared) (v : Value), BindsTo s fd ⟨[v], []⟩ [("_law_script", v)]) ∧ ∀ base : Heap, K.In base → base.Ns mainGlobals mg → BmAt mg base → FnOk l.prog w K mg base CX0 7 fa fd P_law (sp_law K tb_m_Letters_init) := by
  have e := hfa.symm.trans (PySem.W.mg_of X G a_d11)
  cases e
  have B : Bn mg := ⟨PySem.W.mg_none_of X G z_bool, PySem.W.mg_none_of X G z_dict, PySem.W.mg_none_of X G z_int, PySem.W.mg_none_of X G z_isinstance, PySem.W.mg_none_of X G z_len, PySem.W.mg_none_of X G z_list, PySem.W.mg_none_of X G z_range, PySem.W.mg_none_of X G z_set, PySem.W.mg_none_of X G z_sorted, PySem.W.mg_none_of X G z_str, PySem.W.mg_none_of X G z_tuple⟩
  have ER : Er K mg ⟨0, e_NoPlace, e_NoGap⟩ := ⟨PySem.W.mg_of X G m_NoPlace, x_NoPlace, PySem.W.mg_of X G m_NoGap, x_NoGap⟩
  have CF : Cf K C_Letters C_Marks := ⟨⟨pg_Letters, hd_Letters, po_Letters, sa_Letters⟩, na_Letters_column, na_Letters_forths, na_Letters_home, na_Letters_last, na_Letters_totals, ⟨pg_Marks, hd_Marks, po_Marks, sa_Marks⟩, na_Marks_gap, na_Marks_held, na_Marks_marks⟩
  have GC : Gc mg := ⟨⟨_, PySem.W.mg_of X G gc_NO_LETTER⟩⟩
  have F_d0 := fun_mk (st := s_p_check_place) l_d0 c_d0 k_d0
  have F_d1 := fun_mk (st := s_p_check_gap) l_d1 c_d1 k_d1
  have F_d2 := fun_mk (st := s_w_cell_at) l_d2 c_d2 k_d2
  have F_d3 := fun_mk (st := s_w_mixed) l_d3 c_d3 k_d3
  have F_d4 := fun_mk (st := s_w_signs) l_d4 c_d4 k_d4
  have F_d5 := fun_mk (st := s_w_whole) l_d5 c_d5 k_d5
  have F_d6 := fun_mk (st := s_w_letters_by) l_d6 c_d6 k_d6
  have F_d7 := fun_mk (st := s_w_rows) l_d7 c_d7 k_d7
  have F_d8 := fun_mk (st := s_w_mark_right) l_d8 c_d8 k_d8
  have F_d9 := fun_mk (st := s_w_kept_right) l_d9 c_d9 k_d9
  have F_d10 := fun_mk (st := s_w_before_right) l_d10 c_d10 k_d10
  have F_d11 := fun_mk (st := s_law) l_d11 c_d11 k_d11
  have F_d12 := fun_mk (st := s_m_Letters_init) l_d12 c_d12 k_d12
  have F_d13 := fun_mk (st := s_m_Letters_letter) l_d13 c_d13 k_d13
  have F_d14 := fun_mk (st := s_m_Letters_before) l_d14 c_d14 k_d14
  have F_d15 := fun_mk (st := s_m_Marks_init) l_d15 c_d15 k_d15
  have F_d16 := fun_mk (st := s_m_Marks_kept) l_d16 c_d16 k_d16
  have F_d17 := fun_mk (st := s_m_Marks_before) l_d17 c_d17 k_d17
  refine ⟨fun p hp => ?_, ?_⟩
  · rcases hts p hp with rfl
    · exact ⟨n_d12, _, h_d12⟩
  refine ⟨PySem.W.fnOf "law" "law" (defArgs s_law) (defBody s_law) (defScope s_law) .none kV_d11 dc_d11 pm_d11 an_d11 cd_d11 ct_d11, fun s v => .of_eq rfl, fun base kb nb bm => ?_⟩
  have LM_m_Letters_init : Lm mg base cA_d12 tb_m_Letters_init := ⟨PySem.W.codeHd_of_K kb h_d12, bm⟩
  have b_d2 := F_d2.binds (ps := P_w_cell_at) fun _ _ _ _ _ _ us hl => by obtain ⟨_, _, rfl⟩ := us2 hl; exact rfl
  have G_w_cell_at : Fn l.prog w K mg base 1 "_law_cell_at" P_w_cell_at (sp_w_cell_at K) := ⟨⟨f_w_cell_at, _, ok_w_cell_at F_d2 B ER CF GC , PySem.W.mg_of X G a_d2, k_d2, b_d2⟩⟩
  have b_d3 := F_d3.binds (ps := P_w_mixed) fun _ _ _ _ _ _ us hl => by obtain ⟨_, _, _, rfl⟩ := us3 hl; exact rfl
  have G_w_mixed : Fn l.prog w K mg base 1 "_law_mixed" P_w_mixed (sp_w_mixed K) := ⟨⟨f_w_mixed, _, ok_w_mixed F_d3 B ER CF GC , PySem.W.mg_of X G a_d3, k_d3, b_d3⟩⟩
  have b_d4 := F_d4.binds (ps := P_w_signs) fun _ _ _ _ _ _ us hl => by obtain rfl := us0 hl; exact rfl
  have G_w_signs : Fn l.prog w K mg base 1 "_law_signs" P_w_signs (sp_w_signs K) := ⟨⟨f_w_signs, _, ok_w_signs F_d4 B ER CF GC , PySem.W.mg_of X G a_d4, k_d4, b_d4⟩⟩
  have b_d6 := F_d6.binds (ps := P_w_letters_by) fun _ _ _ _ _ _ us hl => by obtain ⟨_, _, rfl⟩ := us2 hl; exact rfl
  have G_w_letters_by : Fn l.prog w K mg base 2 "_law_letters_by" P_w_letters_by (sp_w_letters_by K) := ⟨⟨f_w_letters_by, _, ok_w_letters_by F_d6 B ER CF GC G_w_mixed G_w_signs, PySem.W.mg_of X G a_d6, k_d6, b_d6⟩⟩
  have b_d7 := F_d7.binds (ps := P_w_rows) fun _ _ _ _ _ _ us hl => by obtain ⟨_, _, rfl⟩ := us2 hl; exact rfl
  have G_w_rows : Fn l.prog w K mg base 1 "_law_rows" P_w_rows (sp_w_rows K) := ⟨⟨f_w_rows, _, ok_w_rows F_d7 B ER CF GC , PySem.W.mg_of X G a_d7, k_d7, b_d7⟩⟩
  have b_d5 := F_d5.binds (ps := P_w_whole) fun _ _ _ _ _ _ us hl => by obtain ⟨_, rfl⟩ := us1 hl; exact rfl
  have G_w_whole : Fn l.prog w K mg base 1 "_law_whole" P_w_whole (sp_w_whole K) := ⟨⟨f_w_whole, _, ok_w_whole F_d5 B ER CF GC , PySem.W.mg_of X G a_d5, k_d5, b_d5⟩⟩
  have b_d8 := F_d8.binds (ps := P_w_mark_right) fun _ _ _ _ _ _ us hl => by obtain ⟨_, _, _, rfl⟩ := us3 hl; exact rfl
  have G_w_mark_right : Fn l.prog w K mg base 2 "_law_mark_right" P_w_mark_right (sp_w_mark_right K) := ⟨⟨f_w_mark_right, _, ok_w_mark_right F_d8 B ER CF GC G_w_whole, PySem.W.mg_of X G a_d8, k_d8, b_d8⟩⟩
  have b_d9 := F_d9.binds (ps := P_w_kept_right) fun _ _ _ _ _ _ us hl => by obtain ⟨_, _, _, rfl⟩ := us3 hl; exact rfl
  have G_w_kept_right : Fn l.prog w K mg base 3 "_law_kept_right" P_w_kept_right (sp_w_kept_right K) := ⟨⟨f_w_kept_right, _, ok_w_kept_right F_d9 B ER CF GC G_w_signs G_w_mark_right, PySem.W.mg_of X G a_d9, k_d9, b_d9⟩⟩
  have b_d0 := F_d0.binds (ps := P_p_check_place) fun _ _ _ _ _ _ us hl => by obtain ⟨_, _, rfl⟩ := us2 hl; exact rfl
  have G_p_check_place : FnX l.prog w K mg base 1 "check_place" P_p_check_place (sp_p_check_place K ⟨0, e_NoPlace, e_NoGap⟩) := ⟨⟨f_p_check_place, _, ok_p_check_place F_d0 B ER CF GC , PySem.W.mg_of X G a_d0, k_d0, b_d0⟩⟩
  have b_d13 := F_d13.binds (ps := P_m_Letters_letter) fun _ _ _ _ _ _ us hl => by obtain ⟨_, _, rfl⟩ := us2 hl; exact rfl
  have M_m_Letters_letter : Md l.prog w K mg base (CX1 l.prog w) 2 C_Letters "letter" P_m_Letters_letter [] (sp_m_Letters_letter K ⟨0, e_NoPlace, e_NoGap⟩ C_Letters) := ⟨⟨f_m_Letters_letter, _, [], ok_m_Letters_letter F_d13 B ER CF GC G_p_check_place, ⟨a_d13, i_d13, k_d13⟩, b_d13, .nil⟩, CF.cl_Letters⟩
  have b_d17 := F_d17.binds (ps := P_m_Marks_before) fun _ _ _ _ _ _ us hl => by obtain ⟨_, _, _, rfl⟩ := us3 hl; exact rfl
  have M_m_Marks_before : Md l.prog w K mg base (CX1 l.prog w) 3 C_Marks "before" P_m_Marks_before [] (sp_m_Marks_before K ⟨0, e_NoPlace, e_NoGap⟩ C_Letters C_Marks) := ⟨⟨f_m_Marks_before, _, [], ok_m_Marks_before F_d17 B ER CF GC G_p_check_place M_m_Letters_letter, ⟨a_d17, i_d17, k_d17⟩, b_d17, .nil⟩, CF.cl_Marks⟩
  have b_d10 := F_d10.binds (ps := P_w_before_right) fun _ _ _ _ _ _ us hl => by obtain ⟨_, _, _, rfl⟩ := us3 hl; exact rfl
  have G_w_before_right : Fn l.prog w K mg base 4 "_law_before_right" P_w_before_right (sp_w_before_right K C_Letters C_Marks) := ⟨⟨f_w_before_right, _, ok_w_before_right F_d10 B ER CF GC G_w_whole M_m_Marks_before, PySem.W.mg_of X G a_d10, k_d10, b_d10⟩⟩
  have b_d1 := F_d1.binds (ps := P_p_check_gap) fun _ _ _ _ _ _ us hl => by obtain ⟨_, rfl⟩ := us1 hl; exact rfl
  have G_p_check_gap : FnX l.prog w K mg base 1 "check_gap" P_p_check_gap (sp_p_check_gap K ⟨0, e_NoPlace, e_NoGap⟩) := ⟨⟨f_p_check_gap, _, ok_p_check_gap F_d1 B ER CF GC , PySem.W.mg_of X G a_d1, k_d1, b_d1⟩⟩
  have b_d12 := F_d12.binds (ps := P_m_Letters_init) fun _ _ _ _ _ _ us hl => by obtain ⟨_, _, _, rfl⟩ := us3 hl; exact rfl
  have MK_Letters : Mkr l.prog w K mg base (CX1 l.prog w) 3 "Letters" C_Letters P_m_Letters_init [] (sp_m_Letters_init K ⟨0, e_NoPlace, e_NoGap⟩ C_Letters tb_m_Letters_init) := ⟨⟨f_m_Letters_init, _, [], ok_m_Letters_init F_d12 B LM_m_Letters_init rfl ER CF GC G_p_check_place, ⟨mk_Letters, a_d12, i_d12, kc_Letters⟩, b_d12, .nil⟩, PySem.W.mg_of X G aC_Letters⟩
  have b_d14 := F_d14.binds (ps := P_m_Letters_before) fun _ _ _ _ _ _ us hl => by obtain ⟨_, _, _, rfl⟩ := us3 hl; exact rfl
  have M_m_Letters_before : Md l.prog w K mg base (CX1 l.prog w) 2 C_Letters "before" P_m_Letters_before [] (sp_m_Letters_before K ⟨0, e_NoPlace, e_NoGap⟩ C_Letters) := ⟨⟨f_m_Letters_before, _, [], ok_m_Letters_before F_d14 B ER CF GC G_p_check_place, ⟨a_d14, i_d14, k_d14⟩, b_d14, .nil⟩, CF.cl_Letters⟩
  have b_d15 := F_d15.binds (ps := P_m_Marks_init) fun _ _ _ _ _ _ us hl => by obtain ⟨_, _, _, _, rfl⟩ := us4 hl; exact rfl
  have MK_Marks : Mkr l.prog w K mg base (CX1 l.prog w) 5 "Marks" C_Marks P_m_Marks_init [] (sp_m_Marks_init K ⟨0, e_NoPlace, e_NoGap⟩ C_Letters C_Marks tb_m_Letters_init) := ⟨⟨f_m_Marks_init, _, [], ok_m_Marks_init F_d15 B ER CF GC G_p_check_gap MK_Letters M_m_Letters_before, ⟨mk_Marks, a_d15, i_d15, kc_Marks⟩, b_d15, .nil⟩, PySem.W.mg_of X G aC_Marks⟩
  have b_d16 := F_d16.binds (ps := P_m_Marks_kept) fun _ _ _ _ _ _ us hl => by obtain ⟨_, rfl⟩ := us1 hl; exact rfl
  have M_m_Marks_kept : Md l.prog w K mg base CX0 1 C_Marks "kept" P_m_Marks_kept [] (sp_m_Marks_kept K C_Marks) := ⟨⟨f_m_Marks_kept, _, [], ok_m_Marks_kept F_d16 B ER CF GC , ⟨a_d16, i_d16, k_d16⟩, b_d16, .nil⟩, CF.cl_Marks⟩
  exact ok_law F_d11 B ER CF GC G_w_cell_at G_w_mixed G_w_signs G_w_letters_by G_w_rows G_w_kept_right G_w_before_right MK_Marks M_m_Marks_kept
theorem walk {l : PySem.W.OpenLaw} {q : Program} {loose : List Str} {XP : (Str → Option Value) → Heap → Prop} {YP : World → Heap → Prop} {d : DefRec} {K : Params → PySem.W.Frag} {ts : List Addr} (tb_m_Letters_init : Addr) (hn : l.most = some 63) (hdf : d.params.defaults = [])
    (hY : ∀ (w : World) (h : Heap), YP w h → (K w.params).In h ∧ ∀ p ∈ ts, h.get? p = some (PySem.W.tabObj #[]))
    (F : ∀ (w : World) (mg : Str → Option Value) (fa : Addr) (h : Heap), (K w.params).In h → h.Ns mainGlobals mg → mg d.name = some (.ref fa) →
      (∀ p ∈ ts, (K w.params).lookup p = none ∧ ∃ c, PySem.W.codeHdIn (K w.params) c p = true) ∧ ∃ fd : FuncData, (∀ (s : Shared) (u : Value), BindsTo s fd ⟨[u], []⟩ [("_law_script", u)]) ∧ ∀ base : Heap, (K w.params).In base → base.Ns mainGlobals mg → BmAt mg base → FnOk l.prog w (K w.params) mg base CX0 7 fa fd P_law (sp_law (K w.params) tb_m_Letters_init))
    (m_m_Letters_init : tb_m_Letters_init ∈ ts) :
    PySem.W.WalkO q loose XP YP l.row.toRowW d [] (fun f vs => PySem.call f vs) :=
  L2.walk_ofT (n := 63) (k := 7) (x := "_law_script") (ts := ts) (CX := fun _ => CX0) (sp := fun w => sp_law (K w.params) tb_m_Letters_init) hn (by decide) hdf ⟨rfl, by decide, by decide⟩ hY F (fun _ H a ns hl hS hT => ⟨a, ns, rfl, hS, hl, .inl (hT _ m_m_Letters_init), fun _ => rfl⟩) fun _ _ _ _ _ z => z
end My
open PySem PySem.W PyProof.Rows
set_option maxRecDepth 100000 in
set_option maxHeartbeats 0 in
theorem PySem.Challenge.cw_backindex_k14_marks_holds : PySem.Challenge.rw_backindex_k14_marks.Holds := by
  w_on; o_law; k_head; (case hw => w_witness2)
  k_fill
  refine' My.walk (l := PySem.Challenge.rw_backindex_k14_marks) ?tb_m_Letters_init rfl rfl (fun w h Y => ⟨PySem.W.km_in_of Y, PySem.W.km_tabs_of Y⟩) ?F ?m_m_Letters_init
  case F =>
    intro w mg fa h KX G hmg
    refine' My.all_mk KX G hmg ?a_d0 ?l_d0 ?c_d0 ?k_d0 ?a_d1 ?l_d1 ?c_d1 ?k_d1 ?a_d2 ?l_d2 ?c_d2 ?k_d2 ?a_d3 ?l_d3 ?c_d3 ?k_d3 ?a_d4 ?l_d4 ?c_d4 ?k_d4 ?a_d5 ?l_d5 ?c_d5 ?k_d5 ?a_d6 ?l_d6 ?c_d6 ?k_d6 ?a_d7 ?l_d7 ?c_d7 ?k_d7 ?a_d8 ?l_d8 ?c_d8 ?k_d8 ?a_d9 ?l_d9 ?c_d9 ?k_d9 ?a_d10 ?l_d10 ?c_d10 ?k_d10 ?a_d11 ?l_d11 ?c_d11 ?k_d11 ?a_d12 ?i_d12 ?l_d12 ?c_d12 ?k_d12 ?t_m_Letters_init ?u_d12 ?h_d12 ?n_d12 ?a_d13 ?i_d13 ?l_d13 ?c_d13 ?k_d13 ?a_d14 ?i_d14 ?l_d14 ?c_d14 ?k_d14 ?a_d15 ?i_d15 ?l_d15 ?c_d15 ?k_d15 ?a_d16 ?i_d16 ?l_d16 ?c_d16 ?k_d16 ?a_d17 ?i_d17 ?l_d17 ?c_d17 ?k_d17 ?m_NoPlace ?x_NoPlace ?m_NoGap ?x_NoGap ?aC_Letters ?pg_Letters ?hd_Letters ?po_Letters ?sa_Letters ?mk_Letters ?kc_Letters ?na_Letters_column ?na_Letters_forths ?na_Letters_home ?na_Letters_last ?na_Letters_totals ?aC_Marks ?pg_Marks ?hd_Marks ?po_Marks ?sa_Marks ?mk_Marks ?kc_Marks ?na_Marks_gap ?na_Marks_held ?na_Marks_marks ?gc_NO_LETTER ?z_bool ?z_dict ?z_int ?z_isinstance ?z_len ?z_list ?z_range ?z_set ?z_sorted ?z_str ?z_tuple ?hts
    (case aC_Letters => k_is)
    (case aC_Marks => k_is)
    (case a_d0 => k_is)
    (case l_d0 => k_is)
    (case c_d0 => k_is)
    (case k_d0 => k_is)
    (case a_d1 => k_is)
    (case l_d1 => k_is)
    (case c_d1 => k_is)
    (case k_d1 => k_is)
    (case a_d2 => k_is)
    (case l_d2 => k_is)
    (case c_d2 => k_is)
    (case k_d2 => k_is)
    (case a_d3 => k_is)
    (case l_d3 => k_is)
    (case c_d3 => k_is)
    (case k_d3 => k_is)
    (case a_d4 => k_is)
    (case l_d4 => k_is)
    (case c_d4 => k_is)
    (case k_d4 => k_is)
    (case a_d5 => k_is)
    (case l_d5 => k_is)
    (case c_d5 => k_is)
    (case k_d5 => k_is)
    (case a_d6 => k_is)
    (case l_d6 => k_is)
    (case c_d6 => k_is)
    (case k_d6 => k_is)
    (case a_d7 => k_is)
    (case l_d7 => k_is)
    (case c_d7 => k_is)
    (case k_d7 => k_is)
    (case a_d8 => k_is)
    (case l_d8 => k_is)
    (case c_d8 => k_is)
    (case k_d8 => k_is)
    (case a_d9 => k_is)
    (case l_d9 => k_is)
    (case c_d9 => k_is)
    (case k_d9 => k_is)
    (case a_d10 => k_is)
    (case l_d10 => k_is)
    (case c_d10 => k_is)
    (case k_d10 => k_is)
    (case a_d11 => k_is)
    (case l_d11 => k_is)
    (case c_d11 => k_is)
    (case k_d11 => k_is)
    (case a_d12 => k_is)
    (case i_d12 => k_is)
    (case l_d12 => k_is)
    (case c_d12 => k_is)
    (case k_d12 => k_is)
    (case t_m_Letters_init => k_is)
    (case u_d12 => rfl)
    (case h_d12 => kernel_rfl)
    (case n_d12 => rfl)
    (case a_d13 => k_is)
    (case i_d13 => k_is)
    (case l_d13 => k_is)
    (case c_d13 => k_is)
    (case k_d13 => k_is)
    (case a_d14 => k_is)
    (case i_d14 => k_is)
    (case l_d14 => k_is)
    (case c_d14 => k_is)
    (case k_d14 => k_is)
    (case a_d15 => k_is)
    (case i_d15 => k_is)
    (case l_d15 => k_is)
    (case c_d15 => k_is)
    (case k_d15 => k_is)
    (case a_d16 => k_is)
    (case i_d16 => k_is)
    (case l_d16 => k_is)
    (case c_d16 => k_is)
    (case k_d16 => k_is)
    (case a_d17 => k_is)
    (case i_d17 => k_is)
    (case l_d17 => k_is)
    (case c_d17 => k_is)
    (case k_d17 => k_is)
    (case m_NoPlace => k_is)
    (case x_NoPlace => k_exc)
    (case m_NoGap => k_is)
    (case x_NoGap => k_exc)
    (case pg_Letters => k_is)
    (case hd_Letters => k_is)
    (case po_Letters => k_is)
    (case sa_Letters => k_is)
    (case mk_Letters => k_is)
    (case kc_Letters => k_is)
    (case na_Letters_column => k_is)
    (case na_Letters_forths => k_is)
    (case na_Letters_home => k_is)
    (case na_Letters_last => k_is)
    (case na_Letters_totals => k_is)
    (case pg_Marks => k_is)
    (case hd_Marks => k_is)
    (case po_Marks => k_is)
    (case sa_Marks => k_is)
    (case mk_Marks => k_is)
    (case kc_Marks => k_is)
    (case na_Marks_gap => k_is)
    (case na_Marks_held => k_is)
    (case na_Marks_marks => k_is)
    (case gc_NO_LETTER => k_is)
    (case z_bool => k_is)
    (case z_dict => k_is)
    (case z_int => k_is)
    (case z_isinstance => k_is)
    (case z_len => k_is)
    (case z_list => k_is)
    (case z_range => k_is)
    (case z_set => k_is)
    (case z_sorted => k_is)
    (case z_str => k_is)
    (case z_tuple => k_is)
    (case hts => decide)
  (case m_m_Letters_init => decide)