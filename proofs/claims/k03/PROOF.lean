import PyProof.Rows.All
import Wide.All
import OpenK.AllK
import Wide.FinOn
import Lean
import PyProof.EqAt
import PyProof.EqKinds
import PyProof.TupleCall
import PySem.Challenge.RW_backindex_k03_order_rises
import KE.KRevIter
import KE.KSortAsk
import KE.KSortTup
import PyProof.Rows.SortKeyStr
import KE.KLam
import KE.KSortKey
import OpenK.KOwn
import KE.RegKIsAll
import PyProof.EnumMake
import PyProof.EnumFor
import PyProof.EnumStmt
import KE.KNestM
import PyProof.Rows.CallKwBuiltin
import PyProof.StrWalks
import KE.KDictOf
import PyProof.CompUse
import PyProof.NeKinds
import PyProof.ZipIter
import PyProof.Rows.SumAny
import PyProof.Rows.SetFrom
import PyProof.ListRange
import PyProof.StrLawsIn
import PyProof.CollectIter
import PyProof.JoinWalk
import PyProof.Conv_int_bool
import KE.IntBitsLaws
import PyProof.FactsAll.str
import PyProof.ListStr
import PyProof.Draws
import PyProof.CallStr
import PyProof.StrLawsFrom
import PyProof.Rows.StrNews2
import PyProof.StrCalls
import KE.KIntText
import PyProof.Rows.RegStrFacts
import PyProof.DictWalks
import PyProof.AttrMissHeap
import PyProof.LongRange
import PyProof.Rows.Range3
import PyProof.Rows.StrSplitMax
import OpenK.KTop
import PyProof.Rows.Chain
noncomputable section
set_option Elab.async false
set_option linter.all false
set_option maxRecDepth 100000
namespace L2
open PySem PySem.Spec PyProof.Rows
abbrev Key := Sum Int Str
noncomputable def keyIs : Key → Value → Bool
  | .inl k, v => Value.isInt k v
  | .inr x, v => Value.isStrOf x v
noncomputable def keyH (w : World) : Key → Int
  | .inl k => hashInt k
  | .inr x => hashStr w x
theorem keyIs_shape : ∀ {k : Key} {v : Value}, keyIs k v = true → (∃ i t, k = Sum.inl i ∧ v = Value.int i t) ∨ (∃ x t, k = Sum.inr x ∧ v = Value.str x t)
  | .inl i, v, h => by
    obtain ⟨t, e⟩ := Value.isInt_shape (k := i) (v := v) h
    exact .inl ⟨i, t, rfl, e⟩
  | .inr x, v, h => by
    obtain ⟨t, e⟩ := Value.isStrOf_shape (x := x) (v := v) h
    exact .inr ⟨x, t, rfl, e⟩
theorem keyIs_int (i : Int) (t : Tok) : keyIs (.inl i) (.int i t) = true := by simp [keyIs, Value.isInt]
theorem keyIs_str (x : Str) (t : Tok) : keyIs (.inr x) (.str x t) = true := by simp [keyIs, Value.isStrOf]
theorem key_ll (a b : Int) : decide ((Sum.inl a : Key) = Sum.inl b) = (a == b) := by
  by_cases e : a = b
  · subst e; simp
  · have h : ¬ (Sum.inl a : Key) = Sum.inl b := fun q => e (Sum.inl.inj q)
    rw [decide_eq_false h]
    exact (beq_eq_false_iff_ne.mpr e).symm
theorem key_rr (a b : Str) : decide ((Sum.inr a : Key) = Sum.inr b) = decide (a = b) := by
  by_cases e : a = b
  · subst e; simp
  · have h : ¬ (Sum.inr a : Key) = Sum.inr b := fun q => e (Sum.inr.inj q)
    rw [decide_eq_false h, decide_eq_false e]
theorem key_lr (a : Int) (b : Str) : decide ((Sum.inl a : Key) = Sum.inr b) = false := decide_eq_false (fun q => nomatch q)
theorem key_rl (a : Str) (b : Int) : decide ((Sum.inr a : Key) = Sum.inl b) = false := decide_eq_false (fun q => nomatch q)
noncomputable def mixKind (prog : Program) (w : World) : PySem.KeyKind prog w Key where
  is := keyIs
  hash := keyH w
  inj := fun v a b ha hb => by
    rcases keyIs_shape ha with ⟨i, t, rfl, rfl⟩ | ⟨x, t, rfl, rfl⟩
    · rcases keyIs_shape hb with ⟨j, u, rfl, e⟩ | ⟨y, u, rfl, e⟩
      · injection e with e1 _; rw [e1]
      · exact nomatch e
    · rcases keyIs_shape hb with ⟨j, u, rfl, e⟩ | ⟨y, u, rfl, e⟩
      · exact nomatch e
      · injection e with e1 _; rw [e1]
  byValue := fun k v h => by
    rcases keyIs_shape h with ⟨i, t, rfl, rfl⟩ | ⟨x, t, rfl, rfl⟩ <;> rfl
  pyHash := fun hv h => by
    rcases keyIs_shape hv with ⟨i, t, rfl, rfl⟩ | ⟨x, t, rfl, rfl⟩
    · exact wpAny_pyHash_int h
    · exact wpAny_pyHash_str h
  eqBool := fun hu hv h => by
    rcases keyIs_shape hu with ⟨i, t, rfl, rfl⟩ | ⟨x, t, rfl, rfl⟩
    · rcases keyIs_shape hv with ⟨j, u, rfl, rfl⟩ | ⟨y, u, rfl, rfl⟩
      · rw [key_ll] at h; exact wpAny_eqBool_int h
      · rw [key_lr] at h; exact SeqAt.EqAt.int_str i t y u _ _ _ _ h
    · rcases keyIs_shape hv with ⟨j, u, rfl, rfl⟩ | ⟨y, u, rfl, rfl⟩
      · rw [key_rl] at h; exact SeqAt.EqAt.str_int x t j u _ _ _ _ h
      · rw [key_rr] at h; exact wpAny_eqBool_str h
  «strs» := fun k x t v h => by
    rcases keyIs_shape h with ⟨i, u, rfl, e⟩ | ⟨y, u, rfl, e⟩
    · exact nomatch e
    · injection e with e1 _
      subst e1
      cases v <;> rfl
theorem mixKind_int (prog : Program) (w : World) (i : Int) (t : Tok) : (mixKind prog w).is (.inl i) (.int i t) = true := keyIs_int i t
theorem mixKind_str (prog : Program) (w : World) (x : Str) (t : Tok) : (mixKind prog w).is (.inr x) (.str x t) = true := keyIs_str x t
end L2
namespace L2
open PySem PySem.Spec PyProof.Rows
inductive V where
  | non | bl (b : Bool) | int (i : Int) | str (x : Str) | byt (b : Array UInt8) | flt (b : UInt64) | ref (a : Addr) | ty (n : String)
  deriving DecidableEq
noncomputable def RelV : V → Value → Prop
  | .non, u => u = Value.none
  | .bl b, u => u = Value.bool b
  | .int i, u => ∃ t, u = Value.int i t
  | .str x, u => ∃ t, u = Value.str x t
  | .byt b, u => ∃ t, u = Value.bytes b t
  | .flt b, u => ∃ t, u = Value.float b t
  | .ref a, u => u = Value.ref a
  | .ty n, u => u = Value.type n
abbrev Vals : List V → List Value → Prop := Paired RelV
theorem Vals.length {xs : List V} {us : List Value} (r : Vals xs us) : xs.length = us.length := Paired.length r
theorem Vals.get : ∀ {xs : List V} {us : List Value} {i : Nat} {x : V}, Vals xs us → xs[i]? = some x → ∃ u, us[i]? = some u ∧ RelV x u
  | _, _, _, _, .nil, e => by simp at e
  | _, _, 0, _, .cons r _, e => by simp at e; subst e; exact ⟨_, rfl, r⟩
  | _, _, i + 1, x, .cons _ t, e => by
    obtain ⟨u, h1, h2⟩ := Vals.get (i := i) (x := x) t (by simpa using e)
    exact ⟨u, by simpa using h1, h2⟩
theorem Vals.set {x : V} {u : Value} (r : RelV x u) : ∀ {xs : List V} {us : List Value} (i : Nat), Vals xs us → Vals (xs.set i x) (us.set i u)
  | _, _, _, .nil => .nil
  | _, _, 0, .cons _ t => .cons r t
  | _, _, i + 1, .cons q t => .cons q (Vals.set r i t)
theorem Vals.append : ∀ {xs ys : List V} {us ws : List Value}, Vals xs us → Vals ys ws → Vals (xs ++ ys) (us ++ ws)
  | _, _, _, _, .nil, s => s
  | _, _, _, _, .cons r t, s => .cons r (Vals.append t s)
theorem Vals.take : ∀ {xs : List V} {us : List Value} (n : Nat), Vals xs us → Vals (xs.take n) (us.take n)
  | _, _, 0, _ => .nil
  | _, _, _ + 1, .nil => .nil
  | _, _, n + 1, .cons r t => .cons r (Vals.take n t)
theorem Vals.drop : ∀ {xs : List V} {us : List Value} (n : Nat), Vals xs us → Vals (xs.drop n) (us.drop n)
  | _, _, 0, r => r
  | _, _, _ + 1, .nil => .nil
  | _, _, n + 1, .cons _ t => Vals.drop n t
noncomputable def RelO : Option V → Option Value → Prop
  | some v, some u => RelV v u
  | none, none => True
  | _, _ => False
noncomputable def KV {κ : Type} : List (κ × V) → List (κ × Value) → Prop := Paired fun (p : κ × V) (q : κ × Value) => p.1 = q.1 ∧ RelV p.2 q.2
noncomputable def kV : Key → V
  | .inl i => .int i
  | .inr x => .str x
inductive HO where
  | lst (xs : List V)
  | tup (xs : List V)
  | dK (kvs : List (Key × V)) | dT (kvs : List (List Key × V))
  | set (S : Int → Bool) (n : Nat)
  | ins (C dx : Addr) (fs : List (Str × V))
  | own (x : Addr)
  | xd (fs : List (Str × V))
  | met (f x : Addr)
  | rng (lo hi : Int)
  | frz (o : Obj) (u : HO)
  | tbl (ps : Array Value)
  | ext (φ : Heap → Prop)
abbrev Hp := Addr → Option HO
noncomputable def upd (H : Hp) (a : Addr) (o : HO) : Hp := fun b => if b = a then some o else H b
theorem upd_same {H : Hp} {a : Addr} {o : HO} : upd H a o a = some o := by unfold upd; rw [if_pos rfl]
theorem upd_ne {H : Hp} {a b : Addr} {o : HO} (h : b ≠ a) : upd H a o b = H b := by unfold upd; rw [if_neg h]
theorem upd_upd {H : Hp} {a : Addr} {o u : HO} : upd (upd H a o) a u = upd H a u := by
  funext b; unfold upd; split <;> rfl
theorem ne_of {H : Hp} {a b : Addr} {o u : HO} (h : H a = some o) (h' : H b = some u) (d : o ≠ u) : a ≠ b := by
  intro e; subst e; rw [h] at h'; exact d (Option.some.inj h')
theorem ne_of_none {H : Hp} {a b : Addr} {o : HO} (h : H a = some o) (h' : H b = none) : a ≠ b := by
  intro e; subst e; rw [h] at h'; cases h'
section
variable (P : Program) (w : World)
noncomputable def ObjOk (H : Hp) (h : Heap) (a : Addr) : HO → Prop
  | .lst xs => xs.length ≤ sizeLine ∧ ∃ (its : List Value) (n : Nat), Vals xs its ∧ h.get? a = some { cls := .type "list", data := .seq its.toArray n }
  | .tup xs => xs.length ≤ sizeLine ∧ ∃ its : List Value, Vals xs its ∧ IsTup h a its.toArray
  | .dK kvs => kvs.length ≤ sizeLine ∧ (a == sysModules) = false ∧ ∃ vs, KV kvs vs ∧ h.DictOf (mixKind P w) a vs
  | .dT _ => False
  | .set S n => h.SetOf (intKind P w) a S n
  | .ins C dx fs => H dx = some (.own a) ∧ fs.length ≤ 1000 ∧ dx ≠ a ∧ h.get? a = some (PySem.W.instObj C dx) ∧
      ∃ mA, h.Ns1 dx mA ∧ (∀ f, RelO (fs.lookup f) (mA f)) ∧ PySem.Within mA (fs.map (·.1))
  | .own _ => ∃ o, h.get? a = some o
  | .xd fs => ∃ mA, h.Ns1 a mA ∧ ∀ f, RelO (fs.lookup f) (mA f)
  | .rng lo hi => ∃ t u v, h.get? a = some { cls := .type "range", data := .fields #[.int lo t, .int hi u, .int 1 v] }
  | .frz o u => h.get? a = some o ∧ ObjOk H h a u
  | .tbl ps => h.get? a = some { cls := .none, data := .fields ps }
  | .met f x => h.get? a = some (PySem.W.methodObj (.ref f) (.ref x))
  | .ext φ => φ h ∧ (∃ o, h.get? a = some o) ∧ ∀ h1 h2 : Heap, φ h1 → (∀ o, h1.get? a = some o → h2.get? a = some o) → φ h2
noncomputable def HOk (H : Hp) (h : Heap) : Prop := ∀ a o, H a = some o → ObjOk P w H h a o
end
section
variable {P : Program} {w : World} {H H' : Hp} {h h' : Heap} {a : Addr} {o : HO}
theorem ObjOk.lt (x : ObjOk P w H h a o) : a < h.objs.size := by
  cases o with
  | lst xs => obtain ⟨_, _, _, _, e⟩ := x; exact Heap.lt_size e
  | tup xs => obtain ⟨_, _, _, p⟩ := x; exact p.lt
  | dK kvs => obtain ⟨_, _, _, _, o, _, _, e, _⟩ := x; exact Heap.lt_size e
  | dT kvs => exact False.elim x
  | set S n => obtain ⟨o, _, _, _, e, _⟩ := x; exact Heap.lt_size e
  | ins C dx fs => obtain ⟨_, _, _, e, _⟩ := x; exact Heap.lt_size e
  | own y => obtain ⟨_, e⟩ := x; exact Heap.lt_size e
  | xd fs => obtain ⟨_, ⟨_, _, _, e, _⟩, _⟩ := x; exact Heap.lt_size e
  | rng lo hi => obtain ⟨_, _, _, e⟩ := x; exact Heap.lt_size e
  | frz ob u => obtain ⟨e, _⟩ := x; exact Heap.lt_size e
  | tbl ps => exact Heap.lt_size (show h.get? a = some _ from x)
  | met f y => exact Heap.lt_size (show h.get? a = some _ from x)
  | ext φ => obtain ⟨_, ⟨_, e⟩, _⟩ := x; exact Heap.lt_size e
theorem Paired.mapP {α β : Type} {F G : α → β → Prop} : ∀ {l₁ : List α} {l₂ : List β}, Paired F l₁ l₂ → (∀ a b, F a b → G a b) → Paired G l₁ l₂
  | _, _, .nil, _ => .nil
  | _, _, .cons r t, f => .cons (f _ _ r) (Paired.mapP t f)
theorem ObjOk.stay (x : ObjOk P w H h a o) (k : ∀ b u, (b = a ∨ H b = some (.own a)) → h.get? b = some u → h'.get? b = some u)
    (ho : ∀ b, H b = some (.own a) → H' b = some (.own a)) (ht : ∀ b xs, H b = some (.tup xs) → H' b = some (.tup xs)) : ObjOk P w H' h' a o := by
  induction o with
  | lst xs => obtain ⟨z, its, n, r, e⟩ := x; exact ⟨z, its, n, r, k _ _ (.inl rfl) e⟩
  | tup xs => obtain ⟨z, its, r, ob, e, c⟩ := x; exact ⟨z, its, r, ob, k _ _ (.inl rfl) e, c⟩
  | dK kvs => obtain ⟨z, y, vs, r, ob, es, ep, e, c⟩ := x; exact ⟨z, y, vs, r, ob, es, ep, k _ _ (.inl rfl) e, c⟩
  | dT kvs => exact False.elim x
  | set S n => obtain ⟨ob, es, ep, t, e, c⟩ := x; exact ⟨ob, es, ep, t, k _ _ (.inl rfl) e, c⟩
  | ins C dx fs =>
    obtain ⟨d, z, ne, e, mA, ⟨od, es, ep, e2, c⟩, r⟩ := x
    exact ⟨ho _ d, z, ne, k _ _ (.inl rfl) e, mA, ⟨od, es, ep, k _ _ (.inr d) e2, c⟩, r⟩
  | own y => obtain ⟨ob, e⟩ := x; exact ⟨ob, k _ _ (.inl rfl) e⟩
  | xd fs => obtain ⟨mA, ⟨od, es, ep, e, c⟩, r⟩ := x; exact ⟨mA, ⟨od, es, ep, k _ _ (.inl rfl) e, c⟩, r⟩
  | rng lo hi => obtain ⟨t, u, v, e⟩ := x; exact ⟨t, u, v, k _ _ (.inl rfl) e⟩
  | frz ob u ih => obtain ⟨e, q⟩ := x; exact ⟨k _ _ (.inl rfl) e, ih q⟩
  | tbl ps =>
    have e : h.get? a = some { cls := .none, data := .fields ps } := x
    show h'.get? a = some { cls := .none, data := .fields ps }
    exact k a _ (.inl rfl) e
  | met f y =>
    have e : h.get? a = some (PySem.W.methodObj (.ref f) (.ref y)) := x
    show h'.get? a = some (PySem.W.methodObj (.ref f) (.ref y))
    exact k a _ (.inl rfl) e
  | ext φ => obtain ⟨p, ⟨o, e⟩, st⟩ := x; exact ⟨st _ _ p fun o q => k _ _ (.inl rfl) q, ⟨o, k _ _ (.inl rfl) e⟩, st⟩
theorem HOk.lt (x : HOk P w H h) (e : H a = some o) : a < h.objs.size := (x a o e).lt
theorem HOk.fresh (x : HOk P w H h) (e : h.objs.size ≤ a) : H a = none := by
  cases q : H a with
  | none => rfl
  | some u => exact absurd (Nat.lt_of_lt_of_le (x.lt q) e) (Nat.lt_irrefl _)
theorem HOk.kept (x : HOk P w H h) (k : ∀ b u, h.get? b = some u → h'.get? b = some u) : HOk P w H h' := fun a o e =>
  (x a o e).stay (fun b u _ q => k b u q) (fun _ q => q) fun _ _ q => q
theorem HOk.laid (x : HOk P w H h) (k : ∀ b u, h.get? b = some u → h'.get? b = some u) (hp : h.objs.size ≤ a) (new : ObjOk P w (upd H a o) h' a o) : HOk P w (upd H a o) h' := fun b u e => by
  have hn := x.fresh hp
  by_cases hb : b = a
  · subst hb; rw [upd_same] at e; cases e; exact new
  · rw [upd_ne hb] at e
    exact (x b u e).stay (fun c v _ q => k c v q) (fun c q => by rw [upd_ne (ne_of_none q hn)]; exact q) fun c xs q => by rw [upd_ne (ne_of_none q hn)]; exact q
end
noncomputable def Rd (H : Hp) (a : Addr) (u : HO) : Prop := H a = some u ∨ ∃ o, H a = some (.frz o u)
theorem Rd.of {H : Hp} {a : Addr} {u : HO} (h : H a = some u) : Rd H a u := .inl h
theorem Rd.ok {P : Program} {w : World} {H : Hp} {h : Heap} {a : Addr} {u : HO} (r : Rd H a u) (x : HOk P w H h) : ObjOk P w H h a u := by
  rcases r with r | ⟨o, r⟩
  · exact x a u r
  · obtain ⟨_, q⟩ := x a _ r
    exact q
noncomputable def Mut : Option HO → Prop
  | some (.lst _) => True
  | some (.dK _) => True
  | some (.dT _) => True
  | some (.set _ _) => True
  | some (.ins _ _ _) => True
  | some (.ext _) => True
  | _ => False
section
variable {P : Program} {w : World} {H : Hp} {h h' : Heap} {x e : Addr} {o' : HO}
theorem HOk.write (ok : HOk P w H h) (mu : Mut (H x)) (he : e = x ∨ H e = some (.own x)) (k : ∀ b u, b ≠ e → h.get? b = some u → h'.get? b = some u) (heo : ∃ u, h'.get? e = some u)
    (new : ObjOk P w (upd H x o') h' x o') : HOk P w (upd H x o') h' := fun b u q => by
  have nown : ∀ c y, H c = some (.own y) → c ≠ x := fun c y r z => by subst z; rw [r] at mu; exact mu
  have ntup : ∀ c xs, H c = some (.tup xs) → c ≠ x := fun c xs r z => by subst z; rw [r] at mu; exact mu
  by_cases hb : b = x
  · subst hb; rw [upd_same] at q; cases q; exact new
  · rw [upd_ne hb] at q
    by_cases hbe : b = e
    · have q' : H b = some (.own x) := by
        rcases he with z | z
        · exact absurd (hbe.trans z) hb
        · rw [hbe]; exact z
      rw [q] at q'; cases q'
      obtain ⟨v, hv⟩ := heo
      exact ⟨v, by rw [hbe]; exact hv⟩
    · refine (ok b u q).stay (fun c v hc r => k c v ?_ r) (fun c r => by rw [upd_ne (nown c b r)]; exact r) fun c xs r => by rw [upd_ne (ntup c xs r)]; exact r
      rcases hc with rfl | hc
      · exact hbe
      · rintro rfl
        rcases he with z | z
        · exact nown c b hc z
        · rw [hc] at z; cases z; exact hb rfl
end
structure Un (fs ex : List Addr) (H H' : Hp) (h h' : Heap) : Prop where
  keep : ∀ b o, h.get? b = some o → H b = none → b ∉ fs → b ∉ ex → h'.get? b = some o
  slot : ∀ b o, h.get? b = some o → H b = none → b ∈ fs → b ∉ ex → ∃ sl, h'.get? b = some { o with slots := sl }
  free : ∀ b o, h.get? b = some o → H b = none → b ∉ ex → H' b = none
  there : ∀ b o, h.get? b = some o → b ∉ ex → ∃ o', h'.get? b = some o'
  tups : ∀ b xs, H b = some (.tup xs) → H' b = some (.tup xs)
  frzs : ∀ b o u, H b = some (.frz o u) → H' b = some (.frz o u)
  tbls : ∀ b ps, H b = some (.tbl ps) → ∃ more, H' b = some (.tbl (ps ++ more))
section
variable {fs fs' ex ex' : List Addr} {H H1 H2 : Hp} {h h1 h2 h' : Heap} {a x e : Addr} {o : HO}
theorem Un.any (u : Un fs ex H H1 h h1) {b : Addr} {ob : Obj} (q : h.get? b = some ob) (n : H b = none) (hx : b ∉ ex) : ∃ sl, h1.get? b = some { ob with slots := sl } := by
  by_cases hb : b ∈ fs
  · exact u.slot b ob q n hb hx
  · exact ⟨ob.slots, u.keep b ob q n hb hx⟩
theorem Un.trans (a : Un fs ex H H1 h h1) (b : Un fs ex H1 H2 h1 h2) : Un fs ex H H2 h h2 where
  keep := fun c ob q n hc hx => b.keep c ob (a.keep c ob q n hc hx) (a.free c ob q n hx) hc hx
  slot := fun c ob q n hc hx => by
    obtain ⟨sl, e1⟩ := a.slot c ob q n hc hx
    obtain ⟨sl', e2⟩ := b.slot c _ e1 (a.free c ob q n hx) hc hx
    exact ⟨sl', e2⟩
  free := fun c ob q n hx => by
    obtain ⟨o', e1⟩ := a.there c ob q hx
    exact b.free c o' e1 (a.free c ob q n hx) hx
  there := fun c ob q hx => by
    obtain ⟨o', e1⟩ := a.there c ob q hx
    exact b.there c o' e1 hx
  tups := fun c xs q => b.tups c xs (a.tups c xs q)
  frzs := fun c ob xs q => b.frzs c ob xs (a.frzs c ob xs q)
  tbls := fun c ps q => by
    obtain ⟨m1, e1⟩ := a.tbls c ps q
    obtain ⟨m2, e2⟩ := b.tbls c _ e1
    exact ⟨m1 ++ m2, by rw [e2, Array.append_assoc]⟩
theorem Un.kept (k : ∀ b u, h.get? b = some u → h'.get? b = some u) : Un fs ex H H h h' :=
  ⟨fun b ob q _ _ _ => k b ob q, fun b ob q _ _ _ => ⟨ob.slots, k b ob q⟩, fun _ _ _ n _ => n, fun b ob q _ => ⟨ob, k b ob q⟩, fun _ _ q => q, fun _ _ _ q => q, fun _ ps q => ⟨#[], by rw [q]; simp⟩⟩
theorem Un.refl : Un fs ex H H h h := Un.kept fun _ _ q => q
theorem Un.laid (k : ∀ b u, h.get? b = some u → h'.get? b = some u) (hp : h.objs.size ≤ a) (hn : H a = none) : Un fs ex H (upd H a o) h h' where
  keep := fun b u q _ _ _ => k b u q
  slot := fun b u q _ _ _ => ⟨u.slots, k b u q⟩
  free := fun b u q n _ => by rw [upd_ne (Nat.ne_of_lt (Nat.lt_of_lt_of_le (Heap.lt_size q) hp))]; exact n
  there := fun b u q _ => ⟨u, k b u q⟩
  tups := fun b xs q => by rw [upd_ne (ne_of_none q hn)]; exact q
  frzs := fun b u xs q => by rw [upd_ne (ne_of_none q hn)]; exact q
  tbls := fun b ps q => ⟨#[], by rw [upd_ne (ne_of_none q hn), q]; simp⟩
theorem Un.write (mu : Mut (H x)) (he : e = x ∨ H e = some (.own x)) (k : ∀ b u, b ≠ e → h.get? b = some u → h'.get? b = some u) (heo : ∃ u, h'.get? e = some u) : Un fs ex H (upd H x o) h h' := by
  have hx : ∀ b, H b = none → b ≠ x := fun b n z => by subst z; rw [n] at mu; exact mu
  have hb : ∀ b, H b = none → b ≠ e := fun b n z => by
    subst z
    rcases he with r | r
    · exact hx b n r
    · rw [n] at r; cases r
  have hm : ∀ b u, H b = some u → ¬ Mut (some u) → b ≠ x := fun b u q nm z => by subst z; rw [q] at mu; exact nm mu
  refine ⟨fun b u q n _ _ => k b u (hb b n) q, fun b u q n _ _ => ⟨u.slots, k b u (hb b n) q⟩, fun b u q n _ => by rw [upd_ne (hx b n)]; exact n, fun b u q _ => ?_,
    fun b xs q => by rw [upd_ne (hm b _ q fun z => z)]; exact q, fun b u xs q => by rw [upd_ne (hm b _ q fun z => z)]; exact q, fun b ps q => ⟨#[], by rw [upd_ne (hm b _ q fun z => z), q]; simp⟩⟩
  by_cases hbe : b = e
  · subst hbe; exact heo
  · exact ⟨u, k b u hbe q⟩
theorem Un.mono (u : Un fs ex H H1 h h1) (hs : ∀ b ∈ fs, b ∈ fs') (hx : ∀ b ∈ ex, b ∈ ex') : Un fs' ex' H H1 h h1 :=
  ⟨fun b ob q n hb he => u.keep b ob q n (fun z => hb (hs b z)) fun z => he (hx b z), fun _ _ q n _ he => u.any q n fun z => he (hx _ z), fun b ob q n he => u.free b ob q n fun z => he (hx b z), fun b ob q he => u.there b ob q fun z => he (hx b z), u.tups, u.frzs, u.tbls⟩
end
noncomputable def trk (h : Heap) (H : Hp) : List Addr := (List.range h.objs.size).filter fun a => (H a).isSome
noncomputable def hidT (h : Heap) (H : Hp) : Heap := PySem.W.hideAll h (trk h H)
theorem hidT_size (h : Heap) (H : Hp) : (hidT h H).objs.size = h.objs.size := PySem.W.hideAll_size _ _
theorem hidT_get {h : Heap} {H : Hp} {b : Addr} {o : Obj} (e : h.get? b = some o) (n : H b = none) : (hidT h H).get? b = some o :=
  PySem.W.hideAll_get _ e fun hm => by
    have q : (H b).isSome = true := (List.mem_filter.mp hm).2
    rw [n] at q; simp at q
theorem of_hidT {h : Heap} {H : Hp} {b : Addr} {o : Obj} (e : (hidT h H).get? b = some o) : h.get? b = some o ∧ H b = none := by
  have e' : h.get? b = some o := PySem.W.of_hideAll (trk h H) e
  refine ⟨e', ?_⟩
  cases q : H b with
  | none => rfl
  | some x =>
    have hm : b ∈ trk h H := List.mem_filter.mpr ⟨List.mem_range.mpr (Heap.lt_size e'), by simp [q]⟩
    have z : (hidT h H).get? b = none := PySem.W.hideAll_none (trk h H) hm
    rw [z] at e; cases e
noncomputable def allNews (g h : Heap) (L : Addr) : List (Addr × Obj) := (List.range h.objs.size).filterMap fun a => if a = L ∨ (g.get? a).isSome = true then none else (h.get? a).map fun o => (a, o)
noncomputable def rest (g h : Heap) (L d : Addr) : List (Addr × Obj) := (allNews g h L).filter fun p => decide (p.1 ≠ d)
end L2
namespace L2
open PySem PySem.Spec PyProof.Rows
structure Mod (K : PySem.W.Frag) (mg : Str → Option Value) (base : Heap) : Prop where
  kin : K.In base
  glob : base.Ns mainGlobals mg
  blt : ∃ mb, base.Ns builtinsNs mb ∧ ∀ x : Str, x ≠ "__name__" → mb x = bootBuiltins x
  nolimit : base.NoLimit
/-- the context: a def's body (or a comprehension's block) running. base: fixed through the whole law; s₀, H₀: the entry; outer: the frames whose slots others may change (a def's callers); stack: all frames that run;
   ex: iterators that were made ahead of the entry and are walked here (a comprehension's); fn: the names whose cells were made at the entry (a def: all; a comprehension's block: its own); calm: not within an except suite; pn: pins that every state bears; xe: what is wanted of an exception that leaves the code -/
structure Cx where
  prog : Program
  w : World
  K : PySem.W.Frag
  mg : Str → Option Value
  base : Heap
  A : Around
  N : List Str
  s₀ : Shared
  H₀ : Hp
  env : Env
  outer : List Env
  stack : List Env
  ex : List Addr
  fn : Str → Bool
  calm : Bool
  pn : List (Addr × Obj)
  xe : Value → Shared → Prop
noncomputable def frs (l : List Env) : List Addr := l.filterMap (·.frame)
abbrev Cx.fs (X : Cx) : List Addr := frs X.outer
noncomputable def Vis (sc : Scope) (x : Str) : Prop := sc.names.lookup x = some .local ∨ sc.names.lookup x = some .cell ∨ sc.names.lookup x = some .free
noncomputable def Loc (sc : Scope) (x : Str) : Prop := sc.names.lookup x = some .local ∨ sc.names.lookup x = some .cell
noncomputable def Look (env : Env) (h : Heap) (m : Str → Option Value) (x : Str) (u : Value) : Prop :=
  (env.kindOf x = some .local ∧ m x = some u) ∨ ((env.kindOf x = some .cell ∨ env.kindOf x = some .free) ∧ ∃ c, env.cells.lookup x = some c ∧ h.IsCell c (some u))
structure Cx.Ok (X : Cx) : Prop where
  mod : Mod X.K X.mg X.base
  kind : X.env.scope.kind = .function
  glob : X.env.globals = mainGlobals
  blt : X.env.builtins = builtinsNs
  above : X.s₀.heap.objs.size ≤ X.env.locals
  inj : ∀ x y c, X.env.cells.lookup x = some c → X.env.cells.lookup y = some c → x = y
  has : ∀ x, (X.env.kindOf x = some .cell ∨ X.env.kindOf x = some .free) → ∃ c, X.env.cells.lookup x = some c
  cab : ∀ x c, X.fn x = true → X.env.cells.lookup x = some c → X.s₀.heap.objs.size ≤ c
  hd : X.calm = true → X.A.handled = none
  frames : X.A.frames = some X.stack
  stk : X.stack = X.outer ∨ (X.stack = X.env :: X.outer ∧ X.env.frame = some X.env.locals)
  exf : ∀ b ∈ X.ex, b ≠ X.env.locals ∧ ∀ x c, X.env.cells.lookup x = some c → c ≠ b
  bs : ∀ b o, X.base.get? b = some o → X.s₀.heap.get? b = some o ∧ X.H₀ b = none
  bsz : X.base.objs.size ≤ X.s₀.heap.objs.size
  noex : ∀ b o, X.base.get? b = some o → b ∉ X.ex
  exfs : ∀ b ∈ X.ex, b ∉ X.fs
  funs : X.s₀.heap.FunFrames X.base X.outer
  frf : ∀ b ∈ X.fs, X.H₀ b = none
structure Inv (X : Cx) (pins : List (Addr × Obj)) (σ : List (Option V)) (H : Hp) (s : Shared) : Prop where
  ok : X.Ok
  os : s.os = X.s₀.os
  bare : AllBare s.gens
  base : Un X.fs X.ex X.H₀ H X.s₀.heap s.heap
  loc : ∃ m, s.heap.Ns X.env.locals m ∧ ∀ (i : Nat) (x : Str) (v : V), X.N[i]? = some x → σ[i]? = some (some v) → Vis X.env.scope x → ∃ u, RelV v u ∧ Look X.env s.heap m x u
  cell : ∀ x c, X.env.cells.lookup x = some c → ∃ v, s.heap.IsCell c v
  free : H X.env.locals = none
  freeC : ∀ x c, X.env.cells.lookup x = some c → H c = none
  pin : ∀ p ∈ X.pn ++ pins, s.heap.get? p.1 = some p.2 ∧ H p.1 = none ∧ p.1 ≠ X.env.locals ∧ p.1 ∉ X.fs ∧ ∀ v, p.2.data ≠ .cell v
  hok : HOk X.prog X.w H s.heap
  len : σ.length = X.N.length
section
variable {X : Cx} {pins : List (Addr × Obj)} {σ : List (Option V)} {H H' : Hp} {s : Shared} {h' : Heap}
theorem Cx.Ok.nofr (ok : X.Ok) {b : Addr} {o : Obj} (e : X.base.get? b = some o) : b ∉ X.fs := fun hb => by
  have := (ok.funs.mem hb).1
  rw [e] at this; cases this
theorem Inv.bs (I : Inv X pins σ H s) : ∀ b o, X.base.get? b = some o → s.heap.get? b = some o ∧ H b = none := fun b o e =>
  ⟨I.base.keep b o (I.ok.bs b o e).1 (I.ok.bs b o e).2 (I.ok.nofr e) (I.ok.noex b o e), I.base.free b o (I.ok.bs b o e).1 (I.ok.bs b o e).2 (I.ok.noex b o e)⟩
theorem Inv.bk (I : Inv X pins σ H s) : ∀ b o, X.base.get? b = some o → s.heap.get? b = some o := fun b o e => (I.bs b o e).1
theorem Inv.mod (I : Inv X pins σ H s) : Mod X.K X.mg X.base := I.ok.mod
theorem Inv.kIn (I : Inv X pins σ H s) : X.K.In s.heap := I.ok.mod.kin.keeps I.bk
theorem Inv.nolimit (I : Inv X pins σ H s) : s.heap.NoLimit := I.ok.mod.nolimit.keeps I.bk
theorem Inv.lt (I : Inv X pins σ H s) : X.env.locals < s.heap.objs.size := let ⟨_, hn, _⟩ := I.loc; hn.lt
theorem Inv.sz (I : Inv X pins σ H s) : X.s₀.heap.objs.size ≤ s.heap.objs.size := Nat.le_trans I.ok.above (Nat.le_of_lt I.lt)
theorem Inv.nofs (I : Inv X pins σ H s) {a : Addr} (h : s.heap.objs.size ≤ a) : a ∉ X.fs := fun hb => by
  obtain ⟨_, o, ho, _⟩ := I.ok.funs.mem hb
  exact absurd (Nat.lt_of_lt_of_le (Heap.lt_size ho) (Nat.le_trans I.sz h)) (Nat.lt_irrefl _)
theorem Inv.cne (I : Inv X pins σ H s) : ∀ x c, X.env.cells.lookup x = some c → c ≠ X.env.locals := fun x c e z => by
  obtain ⟨v, o, ho, hd⟩ := I.cell x c e
  obtain ⟨m, ⟨o', es, ep, ho', hd', _⟩, _⟩ := I.loc
  rw [z, ho'] at ho; cases ho; rw [hd'] at hd; cases hd
theorem Inv.funs (I : Inv X pins σ H s) : s.heap.FunFrames X.base X.outer := by
  have all : ∀ (l : List Env), (∀ b ∈ frs l, b ∈ X.fs) → X.s₀.heap.FunFrames X.base l → s.heap.FunFrames X.base l := by
    intro l
    induction l with
    | nil => intro _ _; trivial
    | cons env r ih =>
      intro hs hl
      obtain ⟨hk, ⟨L, o, hf, hn, ho, hd⟩, hr⟩ := hl
      have hL : L ∈ X.fs := hs L (by unfold frs; rw [List.filterMap_cons, hf]; exact List.mem_cons_self)
      obtain ⟨sl, e⟩ := I.base.slot L o ho (I.ok.frf L hL) hL fun z => I.ok.exfs L z hL
      exact ⟨hk, ⟨L, _, hf, hn, e, hd⟩, ih (fun b hb => hs b (by unfold frs; rw [List.filterMap_cons, hf]; exact List.mem_cons_of_mem _ hb)) hr⟩
  exact all X.outer (fun _ hb => hb) I.ok.funs
theorem Inv.stack (I : Inv X pins σ H s) : s.heap.FunFrames X.base X.stack := by
  rcases I.ok.stk with e | ⟨e, hf⟩
  · rw [e]; exact I.funs
  · rw [e]
    obtain ⟨m, hn, _⟩ := I.loc
    refine .cons (by rw [I.ok.kind]; decide) hf hn ?_ I.funs
    exact Heap.get?_none_of_le (Nat.le_trans I.ok.bsz I.ok.above)
theorem Inv.stkSub (I : Inv X pins σ H s) : ∀ b ∈ frs X.stack, b ∈ X.env.locals :: X.fs := fun b hb => by
  rcases I.ok.stk with e | ⟨e, hf⟩
  · rw [e] at hb; exact List.mem_cons_of_mem _ hb
  · rw [e] at hb
    unfold frs at hb
    rw [List.filterMap_cons, hf] at hb
    exact hb
theorem Inv.stkFree (I : Inv X pins σ H s) : ∀ b ∈ frs X.stack, H b = none := fun b hb => by
  rcases List.mem_cons.mp (I.stkSub b hb) with e | hb
  · rw [e]; exact I.free
  · obtain ⟨_, o, ho, _⟩ := I.ok.funs.mem hb
    exact I.base.free b o ho (I.ok.frf b hb) fun z => I.ok.exfs b z hb
theorem Inv.step {g' : Array GenState} {t' : Nat} {d' : Drawn} {ch : List Addr} (I : Inv X pins σ H s)
    (hch : ∀ b ∈ ch, (b ∈ X.ex ∨ X.s₀.heap.objs.size ≤ b) ∧ b ≠ X.env.locals ∧ (∀ x c, X.env.cells.lookup x = some c → c ≠ b) ∧ ∀ p ∈ X.pn ++ pins, p.1 ≠ b)
    (keep : ∀ b o, b ≠ X.env.locals → b ∉ X.fs → b ∉ ch → s.heap.get? b = some o → H b = none → h'.get? b = some o)
    (slot : ∀ b o, b ≠ X.env.locals → b ∈ X.fs → b ∉ ch → s.heap.get? b = some o → H b = none → ∃ sl, h'.get? b = some { o with slots := sl }) (free : ∀ b o, b ∉ ch → s.heap.get? b = some o → H b = none → H' b = none)
    (there : ∀ b o, b ∉ ch → s.heap.get? b = some o → ∃ o', h'.get? b = some o')
    (tups : ∀ b xs, H b = some (.tup xs) → H' b = some (.tup xs)) (frzs : ∀ b o u, H b = some (.frz o u) → H' b = some (.frz o u)) (tbls : ∀ b ps, H b = some (.tbl ps) → ∃ more, H' b = some (.tbl (ps ++ more)))
    (ns : ∀ m, s.heap.Ns X.env.locals m → h'.Ns X.env.locals m) (hok : HOk X.prog X.w H' h') (hg : AllBare g') :
    Inv X pins σ H' { s with heap := h', gens := g', drawn := d', toks := t' } := by
  have neL : ∀ b o, X.s₀.heap.get? b = some o → b ≠ X.env.locals := fun b o e => Nat.ne_of_lt (Nat.lt_of_lt_of_le (Heap.lt_size e) I.ok.above)
  have neC : ∀ b o, X.s₀.heap.get? b = some o → b ∉ X.ex → b ∉ ch := fun b o e hx hb => by
    rcases (hch b hb).1 with z | z
    · exact hx z
    · exact absurd (Nat.lt_of_lt_of_le (Heap.lt_size e) z) (Nat.lt_irrefl _)
  have cellK : ∀ x c, X.env.cells.lookup x = some c → ∀ v, s.heap.IsCell c v → h'.IsCell c v := fun x c e v ⟨o, ho, hd⟩ => by
    have nch : c ∉ ch := fun z => (hch c z).2.2.1 x c e rfl
    by_cases hc : c ∈ X.fs
    · obtain ⟨sl, q⟩ := slot c o (I.cne x c e) hc nch ho (I.freeC x c e)
      exact ⟨_, q, hd⟩
    · exact ⟨o, keep c o (I.cne x c e) hc nch ho (I.freeC x c e), hd⟩
  refine ⟨I.ok, I.os, hg, ⟨fun b o e n hb hx => ?_, fun b o e n hb hx => ?_, fun b o e n hx => ?_, fun b o e hx => ?_, fun b xs e => tups b xs (I.base.tups b xs e), fun b o xs e => frzs b o xs (I.base.frzs b o xs e), fun b ps e => ?_⟩, ?_, fun x c e => ?_, ?_, fun x c e => ?_, fun p hp => ?_, hok, I.len⟩
  · exact keep b o (neL b o e) hb (neC b o e hx) (I.base.keep b o e n hb hx) (I.base.free b o e n hx)
  · obtain ⟨sl, e1⟩ := I.base.slot b o e n hb hx
    obtain ⟨sl', e2⟩ := slot b _ (neL b o e) hb (neC b o e hx) e1 (I.base.free b o e n hx)
    exact ⟨sl', e2⟩
  · obtain ⟨o', e1⟩ := I.base.there b o e hx
    exact free b o' (neC b o e hx) e1 (I.base.free b o e n hx)
  · obtain ⟨o', e1⟩ := I.base.there b o e hx
    exact there b o' (neC b o e hx) e1
  · obtain ⟨m1, e1⟩ := I.base.tbls b ps e
    obtain ⟨m2, e2⟩ := tbls b _ e1
    exact ⟨m1 ++ m2, by rw [e2, Array.append_assoc]⟩
  · obtain ⟨m, hn, hl⟩ := I.loc
    refine ⟨m, ns m hn, fun i x v e1 e2 e3 => ?_⟩
    obtain ⟨u, r, l⟩ := hl i x v e1 e2 e3
    refine ⟨u, r, ?_⟩
    rcases l with l | ⟨k, c, e, z⟩
    · exact .inl l
    · exact .inr ⟨k, c, e, cellK x c e _ z⟩
  · obtain ⟨v, z⟩ := I.cell x c e
    exact ⟨v, cellK x c e v z⟩
  · obtain ⟨m, ⟨o, _, _, ho, _⟩, _⟩ := I.loc
    exact free _ o (fun z => (hch _ z).2.1 rfl) ho I.free
  · obtain ⟨v, o, ho, hd⟩ := I.cell x c e
    exact free c o (fun z => (hch c z).2.2.1 x c e rfl) ho (I.freeC x c e)
  · obtain ⟨e, n, ne, nf, d⟩ := I.pin p hp
    have nch : p.1 ∉ ch := fun z => (hch p.1 z).2.2.2 p hp rfl
    exact ⟨keep p.1 p.2 ne nf nch e n, free p.1 p.2 nch e n, ne, nf, d⟩
theorem Inv.un {t' : Nat} (I : Inv X pins σ H s) (u : Un X.fs [] H H' s.heap h') (hok : HOk X.prog X.w H' h') : Inv X pins σ H' { s with heap := h', toks := t' } := by
  obtain ⟨m, ⟨o, es, ep, ho, r⟩, _⟩ := id I.loc
  obtain ⟨sl, hL⟩ := u.any ho I.free (by simp)
  exact I.step (g' := s.gens) (d' := s.drawn) (ch := []) (fun _ z => nomatch z) (fun b o _ hb _ e n => u.keep b o e n hb (by simp)) (fun b o _ hb _ e n => u.slot b o e n hb (by simp)) (fun b o _ e n => u.free b o e n (by simp)) (fun b o _ e => u.there b o e (by simp)) u.tups u.frzs u.tbls (fun m' hm => by
    obtain ⟨o', es', ep', ho', r'⟩ := hm
    rw [ho] at ho'; cases ho'
    exact ⟨_, es', ep', hL, r'⟩) hok I.bare
theorem Inv.call {g' : Array GenState} {t' : Nat} {d' : Drawn} {ch : List Addr} (I : Inv X pins σ H s) (u : Un (frs X.stack) ch H H' s.heap h') (hok : HOk X.prog X.w H' h') (hg : AllBare g')
    (hch : ∀ b ∈ ch, (b ∈ X.ex ∨ X.s₀.heap.objs.size ≤ b) ∧ b ≠ X.env.locals ∧ (∀ x c, X.env.cells.lookup x = some c → c ≠ b) ∧ ∀ p ∈ X.pn ++ pins, p.1 ≠ b) :
    Inv X pins σ H' { s with heap := h', gens := g', drawn := d', toks := t' } := by
  obtain ⟨m, ⟨o, es, ep, ho, r⟩, _⟩ := id I.loc
  obtain ⟨sl, hL⟩ := u.any ho I.free fun z => (hch _ z).2.1 rfl
  exact I.step (ch := ch) hch (fun b o hL hb hc e n => u.keep b o e n (fun z => (List.mem_cons.mp (I.stkSub b z)).elim hL hb) hc) (fun b o _ _ hc e n => u.any e n hc) (fun b o hc e n => u.free b o e n hc) (fun b o hc e => u.there b o e hc) u.tups u.frzs u.tbls (fun m' hm => by
    obtain ⟨o', es', ep', ho', r'⟩ := hm
    rw [ho] at ho'; cases ho'
    exact ⟨_, es', ep', hL, r'⟩) hok hg
theorem Inv.turned {t' : Nat} {it : Addr} (I : Inv X pins σ H s) (k : ∀ b o, b ≠ it → s.heap.get? b = some o → h'.get? b = some o) (hn : H it = none) (hL : it ≠ X.env.locals)
    (h1 : it ∈ X.ex ∨ X.s₀.heap.objs.size ≤ it) (h2 : ∀ x c, X.env.cells.lookup x = some c → c ≠ it) (h3 : ∀ p ∈ X.pn ++ pins, p.1 ≠ it) : Inv X pins σ H { s with heap := h', toks := t' } := by
  have nit : ∀ b u, H b = some u → b ≠ it := fun b u e z => by rw [z, hn] at e; cases e
  refine I.step (g' := s.gens) (d' := s.drawn) (ch := [it]) (fun b hb => ?_) (fun b o _ _ hc e _ => k b o (fun z => hc (by simp [z])) e) (fun b o _ _ hc e _ => ⟨o.slots, k b o (fun z => hc (by simp [z])) e⟩) (fun _ _ _ _ n => n)
    (fun b o hc e => ⟨o, k b o (fun z => hc (by simp [z])) e⟩) (fun _ _ e => e) (fun _ _ _ e => e) (fun b ps e => ⟨#[], by rw [e]; simp⟩) (fun m hm => ?_) (fun b u e => ?_) I.bare
  · have e : b = it := by simpa using hb
    subst e
    exact ⟨h1, hL, h2, h3⟩
  · obtain ⟨o, es, ep, ho, r⟩ := hm
    exact ⟨o, es, ep, k _ o (Ne.symm hL) ho, r⟩
  · refine (I.hok b u e).stay (fun c v hc q => k c v ?_ q) (fun _ q => q) fun _ _ q => q
    rcases hc with z | z
    · rw [z]; exact nit b u e
    · exact nit c _ z
theorem Inv.tok (I : Inv X pins σ H s) (t : Nat) : Inv X pins σ H { s with toks := t } := I.un (h' := s.heap) (t' := t) Un.refl I.hok
theorem Inv.kept {t' : Nat} (I : Inv X pins σ H s) (k : ∀ b u, s.heap.get? b = some u → h'.get? b = some u) : Inv X pins σ H { s with heap := h', toks := t' } := I.un (Un.kept k) (I.hok.kept k)
theorem Inv.laid {a : Addr} {o : HO} {t' : Nat} (I : Inv X pins σ H s) (k : ∀ b u, s.heap.get? b = some u → h'.get? b = some u) (hp : s.heap.objs.size ≤ a) (new : ObjOk X.prog X.w (upd H a o) h' a o) :
    Inv X pins σ (upd H a o) { s with heap := h', toks := t' } := I.un (Un.laid k hp (I.hok.fresh hp)) (I.hok.laid k hp new)
theorem Inv.write {x e : Addr} {o : HO} {t' : Nat} (I : Inv X pins σ H s) (mu : Mut (H x)) (he : e = x ∨ H e = some (.own x)) (k : ∀ b u, b ≠ e → s.heap.get? b = some u → h'.get? b = some u) (heo : ∃ u, h'.get? e = some u)
    (new : ObjOk X.prog X.w (upd H x o) h' x o) : Inv X pins σ (upd H x o) { s with heap := h', toks := t' } := I.un (Un.write mu he k heo) (I.hok.write mu he k heo new)
theorem Inv.weak {σ' : List (Option V)} (I : Inv X pins σ H s) (hl : σ'.length = σ.length) (w : ∀ (i : Nat) v, σ'[i]? = some (some v) → σ[i]? = some (some v)) : Inv X pins σ' H s :=
  ⟨I.ok, I.os, I.bare, I.base, let ⟨m, hn, hl'⟩ := I.loc; ⟨m, hn, fun i x v e1 e2 e3 => hl' i x v e1 (w i v e2) e3⟩, I.cell, I.free, I.freeC, I.pin, I.hok, hl.trans I.len⟩
theorem Inv.pins_of {pins' : List (Addr × Obj)} (I : Inv X pins σ H s) (h : ∀ p ∈ pins', s.heap.get? p.1 = some p.2 ∧ H p.1 = none ∧ p.1 ≠ X.env.locals ∧ p.1 ∉ X.fs ∧ ∀ v, p.2.data ≠ .cell v) : Inv X pins' σ H s :=
  ⟨I.ok, I.os, I.bare, I.base, I.loc, I.cell, I.free, I.freeC, fun p hp => (List.mem_append.mp hp).elim (fun z => I.pin p (List.mem_append_left _ z)) (h p), I.hok, I.len⟩
theorem nodup_ix {N : List Str} (hN : N.Nodup) {i j : Nat} {x : Str} (a : N[i]? = some x) (b : N[j]? = some x) : i = j := by
  obtain ⟨h1, e1⟩ := List.getElem?_eq_some_iff.mp a
  obtain ⟨h2, e2⟩ := List.getElem?_eq_some_iff.mp b
  exact (List.getElem_inj hN).mp (e1.trans e2.symm)
theorem store_ok2 {M : Model} {A : Around} {E : Value → Shared → Prop} {i : Nat} {x : Str} {v : V} {u : Value} {Q : Unit → Shared → Prop} (I : Inv X pins σ H s) (hN : X.N.Nodup) (hi : X.N[i]? = some x) (hx : Loc X.env.scope x) (r : RelV v u)
    (h : ∀ s', Inv X pins (σ.set i (some v)) H s' → (∃ a, Heap.SameBut a s.heap s'.heap ∧ (a = X.env.locals ∨ X.env.cells.lookup x = some a)) → Q () s') (hf : X.fn x = true ∨ X.env.scope.names.lookup x = some .local := by first | exact .inl rfl | exact .inr rfl | assumption) : wpAny M A (storeName X.env x u) Q E s := by
  obtain ⟨m, hn, hl⟩ := id I.loc
  have hcls : (X.env.scope.kind == .class || (X.env.scope.kind == .module && X.env.locals != X.env.globals)) = false := by rw [I.ok.kind]; rfl
  have hiσ : i < σ.length := by rw [I.len]; exact (List.getElem?_eq_some_iff.mp hi).1
  have cne := I.cne
  have tracked : ∀ {a : Addr} {h' : Heap}, (∃ o, s.heap.get? a = some o ∧ H a = none) → Heap.SameBut a s.heap h' → HOk X.prog X.w H h' := fun {a h'} ha hs b ob e => by
    obtain ⟨_, _, hfree⟩ := ha
    refine (I.hok b ob e).stay (fun c w' hc q => (hs.2 c ?_).trans q) (fun _ q => q) fun _ _ q => q
    rintro rfl
    rcases hc with rfl | hc
    · rw [hfree] at e; cases e
    · rw [hfree] at hc; cases hc
  rcases hx with hk | hk
  · refine wpAny_storeName_local hk hn (fun h' hn' hs => ?_) hcls
    obtain ⟨oL, _, _, hoL, _⟩ := id hn
    refine h _ ⟨I.ok, I.os, I.bare, ⟨fun b o e n hb hx => ?_, fun b o e n hb hx => ?_, I.base.free, fun b o e hx => ?_, I.base.tups, I.base.frzs, I.base.tbls⟩, ⟨_, hn', fun j y v' e1 e2 e3 => ?_⟩, fun y c e => ?_, I.free, I.freeC, fun p hp => ?_, tracked ⟨oL, hoL, I.free⟩ hs, by simpa using I.len⟩ ⟨_, hs, .inl rfl⟩
    · exact (hs.2 b (Nat.ne_of_lt (Nat.lt_of_lt_of_le (Heap.lt_size e) I.ok.above))).trans (I.base.keep b o e n hb hx)
    · obtain ⟨sl, e1⟩ := I.base.slot b o e n hb hx
      exact ⟨sl, (hs.2 b (Nat.ne_of_lt (Nat.lt_of_lt_of_le (Heap.lt_size e) I.ok.above))).trans e1⟩
    · obtain ⟨o', e1⟩ := I.base.there b o e hx
      exact ⟨o', (hs.2 b (Nat.ne_of_lt (Nat.lt_of_lt_of_le (Heap.lt_size e) I.ok.above))).trans e1⟩
    · by_cases hj : j = i
      · subst hj
        rw [hi] at e1; cases e1
        rw [List.getElem?_set_self hiσ] at e2
        cases e2
        exact ⟨u, r, .inl ⟨hk, by simp⟩⟩
      · rw [List.getElem?_set_ne (Ne.symm hj)] at e2
        obtain ⟨u', r', q⟩ := hl j y v' e1 e2 e3
        refine ⟨u', r', ?_⟩
        rcases q with ⟨k, e⟩ | ⟨k, c, e, z⟩
        · refine .inl ⟨k, ?_⟩
          have : y ≠ x := fun e => hj (nodup_ix hN e1 (e ▸ hi))
          simp [this, e]
        · exact .inr ⟨k, c, e, z.sameBut hs (cne y c e)⟩
    · obtain ⟨w', z⟩ := I.cell y c e
      exact ⟨w', z.sameBut hs (cne y c e)⟩
    · obtain ⟨e, n, ne, nf, d⟩ := I.pin p hp
      exact ⟨(hs.2 p.1 ne).trans e, n, ne, nf, d⟩
  · have hfn : X.fn x = true := by
      rcases hf with z | z
      · exact z
      · rw [z] at hk; cases hk
    obtain ⟨c, hc⟩ := I.ok.has x (.inl hk)
    obtain ⟨w', z⟩ := I.cell x c hc
    refine wpAny_storeName_cell I.ok.kind hk hc z (fun h' hc' hs => ?_)
    obtain ⟨oc, hoc, hocd⟩ := id z
    refine h { s with heap := h' } ⟨I.ok, I.os, I.bare, ⟨fun b o e n hb hx => ?_, fun b o e n hb hx => ?_, I.base.free, fun b o e hx => ?_, I.base.tups, I.base.frzs, I.base.tbls⟩, ⟨m, hn.sameBut hs (Ne.symm (cne x c hc)), fun j y v' e1 e2 e3 => ?_⟩, fun y c' e => ?_, I.free, I.freeC, fun p hp => ?_, tracked ⟨oc, hoc, I.freeC x c hc⟩ hs, by simpa using I.len⟩ ⟨c, hs, .inr hc⟩
    · exact (hs.2 b (Nat.ne_of_lt (Nat.lt_of_lt_of_le (Heap.lt_size e) (I.ok.cab x c hfn hc)))).trans (I.base.keep b o e n hb hx)
    · obtain ⟨sl, e1⟩ := I.base.slot b o e n hb hx
      exact ⟨sl, (hs.2 b (Nat.ne_of_lt (Nat.lt_of_lt_of_le (Heap.lt_size e) (I.ok.cab x c hfn hc)))).trans e1⟩
    · obtain ⟨o', e1⟩ := I.base.there b o e hx
      exact ⟨o', (hs.2 b (Nat.ne_of_lt (Nat.lt_of_lt_of_le (Heap.lt_size e) (I.ok.cab x c hfn hc)))).trans e1⟩
    · by_cases hj : j = i
      · subst hj
        rw [hi] at e1; cases e1
        rw [List.getElem?_set_self hiσ] at e2
        cases e2
        exact ⟨u, r, .inr ⟨.inl hk, c, hc, hc'⟩⟩
      · rw [List.getElem?_set_ne (Ne.symm hj)] at e2
        obtain ⟨u', r', q⟩ := hl j y v' e1 e2 e3
        refine ⟨u', r', ?_⟩
        rcases q with q | ⟨k, c', e, z'⟩
        · exact .inl q
        · refine .inr ⟨k, c', e, z'.sameBut hs ?_⟩
          rintro rfl
          exact hj (nodup_ix hN e1 (I.ok.inj _ _ _ e hc ▸ hi))
    · by_cases hcc : c' = c
      · subst hcc; exact ⟨_, hc'⟩
      · obtain ⟨w2, z2⟩ := I.cell y c' e
        exact ⟨w2, z2.sameBut hs hcc⟩
    · obtain ⟨e, n, ne, nf, d⟩ := I.pin p hp
      refine ⟨(hs.2 p.1 ?_).trans e, n, ne, nf, d⟩
      intro q
      rw [q, hoc] at e
      have q' : oc = p.2 := Option.some.inj e
      exact d w' (by rw [← q']; exact hocd)
theorem store_ok {M : Model} {A : Around} {E : Value → Shared → Prop} {i : Nat} {x : Str} {v : V} {u : Value} {Q : Unit → Shared → Prop} (I : Inv X pins σ H s) (hN : X.N.Nodup) (hi : X.N[i]? = some x) (hx : Loc X.env.scope x) (r : RelV v u)
    (h : ∀ s', Inv X pins (σ.set i (some v)) H s' → Q () s') (hf : X.fn x = true ∨ X.env.scope.names.lookup x = some .local := by first | exact .inl rfl | exact .inr rfl | assumption) : wpAny M A (storeName X.env x u) Q E s :=
  store_ok2 I hN hi hx r (fun s' I' _ => h s' I') hf
theorem Inv.call' {s' : Shared} {ch : List Addr} (I : Inv X pins σ H s) (ho : s'.os = s.os) (u : Un (frs X.stack) ch H H' s.heap s'.heap) (hok : HOk X.prog X.w H' s'.heap) (hg : AllBare s'.gens)
    (hch : ∀ b ∈ ch, (b ∈ X.ex ∨ X.s₀.heap.objs.size ≤ b) ∧ b ≠ X.env.locals ∧ (∀ x c, X.env.cells.lookup x = some c → c ≠ b) ∧ ∀ p ∈ X.pn ++ pins, p.1 ≠ b) : Inv X pins σ H' s' := by
  obtain ⟨h', g', d', t', o'⟩ := s'
  have e : o' = s.os := ho
  subst e
  exact I.call (g' := g') (t' := t') (d' := d') u hok hg hch
end
abbrev XK := Value → Option Addr → Hp → Prop
abbrev St := List (Option V)
abbrev VK := V → Hp → Prop
abbrev TE := St → Hp → VK → Prop
abbrev TT := St → Hp → (Bool → Hp → Prop) → Prop
abbrev TA := St → Hp → (List V → Hp → Prop) → Prop
structure Ends where
  nx : St → Hp → Prop
  rt : VK
  bk : St → Hp → Prop := fun _ _ => False
  ct : St → Hp → Prop := fun _ _ => False
abbrev TS := Ends → St → Hp → Prop
noncomputable def EP (X : Cx) (pins : List (Addr × Obj)) (σ : St) (Q : VK) (u : Value) (s' : Shared) : Prop := ∃ v H', Inv X pins σ H' s' ∧ RelV v u ∧ Q v H'
noncomputable def TP (X : Cx) (pins : List (Addr × Obj)) (σ : St) (Q : Bool → Hp → Prop) (b : Bool) (s' : Shared) : Prop := ∃ H', Inv X pins σ H' s' ∧ Q b H'
noncomputable def AP (X : Cx) (pins : List (Addr × Obj)) (σ : St) (Q : List V → Hp → Prop) (us : List Value) (s' : Shared) : Prop := ∃ vs H', Inv X pins σ H' s' ∧ Vals vs us ∧ Q vs H'
noncomputable def SP (X : Cx) (pins : List (Addr × Obj)) (D : Ends) (f : Flow) (s' : Shared) : Prop :=
  match f with
  | .next => ∃ σ' H', Inv X pins σ' H' s' ∧ D.nx σ' H'
  | .brk => ∃ σ' H', Inv X pins σ' H' s' ∧ D.bk σ' H'
  | .cont => ∃ σ' H', Inv X pins σ' H' s' ∧ D.ct σ' H'
  | .ret u => ∃ v σ' H', Inv X pins σ' H' s' ∧ RelV v u ∧ D.rt v H'
noncomputable def PE (X : Cx) (e : Expr) (t : TE) : Prop :=
  ∀ (pins : List (Addr × Obj)) (s : Shared) (σ : St) (H : Hp) (Q : VK), Inv X pins σ H s → t σ H Q → wpAny (model X.prog X.w) X.A (eval e X.env) (EP X pins σ Q) X.xe s
noncomputable def PT (X : Cx) (e : Expr) (t : TT) : Prop :=
  ∀ (pins : List (Addr × Obj)) (s : Shared) (σ : St) (H : Hp) (Q : Bool → Hp → Prop), Inv X pins σ H s → t σ H Q → wpAny (model X.prog X.w) X.A (isTrue e X.env (eval e X.env)) (TP X pins σ Q) X.xe s
noncomputable def PW (X : Cx) (e : Expr) (t : TT) : Prop :=
  ∀ (whole : Sem Value) (pins : List (Addr × Obj)) (s : Shared) (σ : St) (H : Hp) (Q : Bool → Hp → Prop), Inv X pins σ H s → t σ H Q → wpAny (model X.prog X.w) X.A (isTrue e X.env whole) (TP X pins σ Q) X.xe s
theorem PW.pt {X : Cx} {e : Expr} {t : TT} (h : PW X e t) : PT X e t := h _
noncomputable def PA (X : Cx) (es : List Expr) (t : TA) : Prop :=
  ∀ (pos : Pos) (pins : List (Addr × Obj)) (s : Shared) (σ : St) (H : Hp) (Q : List V → Hp → Prop), Inv X pins σ H s → t σ H Q → wpAny (model X.prog X.w) X.A (spliced (backTo pos (starEach es X.env))) (AP X pins σ Q) X.xe s
noncomputable def PS (X : Cx) (st : Stmt) (t : TS) : Prop :=
  ∀ (pins : List (Addr × Obj)) (s : Shared) (σ : St) (H : Hp) (D : Ends), Inv X pins σ H s → t D σ H → wpAny (model X.prog X.w) X.A (exec st X.env) (SP X pins D) X.xe s
noncomputable def PSs (X : Cx) (st : List Stmt) (t : TS) : Prop :=
  ∀ (pins : List (Addr × Obj)) (s : Shared) (σ : St) (H : Hp) (D : Ends), Inv X pins σ H s → t D σ H → wpAny (model X.prog X.w) X.A (execs st X.env) (SP X pins D) X.xe s
theorem thn {α : Type} {t : Sem α} {Q Q' : α → Shared → Prop} {M : Model} {A : Around} {E : Value → Shared → Prop} {s : Shared} (h : wpAny M A t Q E s) (hQ : ∀ a s, Q a s → Q' a s) : wpAny M A t Q' E s := wpAny_mono h hQ fun _ _ x => x
end L2
namespace L2
open PySem PySem.Spec PyProof.Rows
section
variable {X : Cx}
noncomputable def tVar (i : Nat) : TE := fun σ H Q => ∃ v, σ[i]? = some (some v) ∧ Q v H
noncomputable def tC (v : V) : TE := fun _ H Q => Q v H
theorem pe_var {i : Nat} {x : Str} {pos : Pos} (hN : X.N[i]? = some x) (hv : Vis X.env.scope x) (hd : (x == ("__debug__" : Str)) = false := by decide) (hcd : (x == ("__classdict__" : Str)) = false := by decide) : PE X (.Name x pos) (tVar i) := by
  intro pins s σ H Q I h
  obtain ⟨v, e, h⟩ := h
  obtain ⟨m, hn, hl⟩ := I.loc
  obtain ⟨u, r, l⟩ := hl i x v hN e hv
  have fin : EP X pins σ Q u s := ⟨v, H, I, r, h⟩
  rcases l with ⟨hk, hm⟩ | ⟨hk, c, hc, hcell⟩
  · exact wpAny_Name (wpAny_loadName_local I.ok.kind hk hn hm fin) hd
  · rcases hk with hk | hk
    · exact wpAny_Name (wpAny_loadName_cell I.ok.kind hk hc hcell fin) hd
    · exact wpAny_Name (wpAny_loadName_free I.ok.kind hk hc hcell fin hcd) hd
theorem pe_int {i j pos} : PE X (.Constant (.int i) j pos) (tC (.int i)) := fun _ _ _ H _ I h => wpAny_Constant_int ⟨.int i, H, I.tok _, ⟨_, rfl⟩, h⟩
theorem pe_bl {b j pos} : PE X (.Constant (.bool b) j pos) (tC (.bl b)) := fun _ _ _ H _ I h => Constant_bool ⟨.bl b, H, I, rfl, h⟩
theorem pe_str {x j pos} : PE X (.Constant (.str x) j pos) (tC (.str x)) := fun _ _ _ H _ I h => Calls.Constant_str ⟨.str x, H, I.tok _, ⟨_, rfl⟩, h⟩
noncomputable def Gl (X : Cx) (x : Str) : Prop := X.env.kindOf x = some .globalImplicit
theorem ld_glob {E : Value → Shared → Prop} {pins : List (Addr × Obj)} {s : Shared} {σ : St} {H : Hp} {x : Str} {u : Value} {pos : Pos} {Q : Value → Shared → Prop} (I : Inv X pins σ H s) (hg : Gl X x) (hm : X.mg x = some u) (h : Q u s)
    (hd : (x == ("__debug__" : Str)) = false := by decide) : wpAny (model X.prog X.w) X.A (eval (.Name x pos) X.env) Q E s :=
  Calls.Name_function_global I.ok.kind hg (Calls.loadGlobal_global (by rw [I.ok.glob]; exact I.mod.glob.keeps I.bk) hm h) hd
theorem ld_blt {E : Value → Shared → Prop} {pins : List (Addr × Obj)} {s : Shared} {σ : St} {H : Hp} {x : Str} {u : Value} {pos : Pos} {Q : Value → Shared → Prop} (I : Inv X pins σ H s) (hg : Gl X x) (hm : X.mg x = none) (hv : bootBuiltins x = some u) (h : Q u s)
    (hn : x ≠ "__name__" := by decide) (hd : (x == ("__debug__" : Str)) = false := by decide) : wpAny (model X.prog X.w) X.A (eval (.Name x pos) X.env) Q E s := by
  obtain ⟨mb, h1, h2⟩ := I.mod.blt
  exact Calls.Name_function_global I.ok.kind hg (Calls.loadGlobal_builtin (by rw [I.ok.glob]; exact I.mod.glob.keeps I.bk) hm (by rw [I.ok.blt]; exact h1.keeps I.bk) ((h2 x hn).trans hv) h) hd
theorem pe_bltn {x : Str} {v : V} {u : Value} {pos : Pos} (hg : Gl X x) (hm : X.mg x = none) (hv : bootBuiltins x = some u) (r : RelV v u) (hn : x ≠ "__name__" := by decide) (hd : (x == ("__debug__" : Str)) = false := by decide) : PE X (.Name x pos) (tC v) :=
  fun _ _ _ H _ I h => ld_blt I hg hm hv ⟨v, H, I, r, h⟩ hn hd
variable {a b : Expr} {ta tb : TE} {pos : Pos}
noncomputable def PC (X : Cx) (op : CmpOp) (a b : Expr) (t : TE) : Prop :=
  ∀ (pins : List (Addr × Obj)) (s : Shared) (σ : St) (H : Hp) (Q : VK), Inv X pins σ H s → t σ H Q →
    wpAny (model X.prog X.w) X.A (eval a X.env) (fun v s₁ => wpAny (model X.prog X.w) X.A (eval b X.env) (fun u s₂ => wpAny (model X.prog X.w) X.A (compareOp op v u) (EP X pins σ Q) X.xe s₂) X.xe s₁) X.xe s
theorem nobehind (b : Expr) {op : CmpOp} (h : op ≠ .In) (h2 : op ≠ .NotIn) : behindInMarks op b = false := by
  have e1 : (op == CmpOp.In) = false := by cases op <;> first | rfl | exact absurd rfl h
  have e2 : (op == CmpOp.NotIn) = false := by cases op <;> first | rfl | exact absurd rfl h2
  cases b <;> simp [behindInMarks, e1, e2]
noncomputable def tB (t : TE) : TT := fun σ H Q => t σ H fun x H1 => ∃ c, x = .bl c ∧ Q c H1
theorem pt_cmp {op : CmpOp} {t : TE} (h : PC X op a b t) (h1 : behindInMarks op b = false := by first | exact nobehind _ (by decide) (by decide) | rfl) : PT X (.Compare a [op] [b] pos) (tB t) := by
  intro pins s σ H Q I hw
  refine wpAny_isTrue_Compare1 (thn (h pins s σ H _ I hw) fun v s1 h1 => thn h1 fun u s2 h2 => thn h2 fun c s3 ⟨x, H1, I1, r1, q1⟩ => ?_) h1
  obtain ⟨d, rfl, q⟩ := q1
  cases r1
  exact wpAny_truthy_bool ⟨H1, I1, q⟩
variable {tA tB' : TT} {rest : List Expr}
noncomputable def tAnd (t u : TT) : TT := fun σ H Q => t σ H fun c H1 => if c = true then u σ H1 Q else Q false H1
noncomputable def tOr (t u : TT) : TT := fun σ H Q => t σ H fun c H1 => if c = true then Q true H1 else u σ H1 Q
noncomputable def tNot (t : TT) : TT := fun σ H Q => t σ H fun c H1 => Q (!c) H1
theorem pw_and1 (ha : PT X a tA) : PW X (.BoolOp .And [a] pos) tA := by
  intro wh pins s σ H Q I h
  refine isTrue_and (thn (ha pins s σ H Q I h) fun c s1 e => ?_)
  cases c with
  | true => exact isTrue_and_nil e
  | false => exact e
theorem pw_or1 (ha : PT X a tA) : PW X (.BoolOp .Or [a] pos) tA := by
  intro wh pins s σ H Q I h
  refine isTrue_or (thn (ha pins s σ H Q I h) fun c s1 e => ?_)
  cases c with
  | false => exact isTrue_or_nil e
  | true => exact e
theorem pw_and (ha : PT X a tA) (hb : PW X (.BoolOp .And (b :: rest) pos) tB') : PW X (.BoolOp .And (a :: b :: rest) pos) (tAnd tA tB') := by
  intro wh pins s σ H Q I h
  refine isTrue_and (thn (ha pins s σ H _ I h) fun c s1 ⟨H1, I1, q1⟩ => ?_)
  cases c with
  | true => exact hb wh pins s1 σ H1 Q I1 q1
  | false => exact ⟨H1, I1, q1⟩
theorem pw_or (ha : PT X a tA) (hb : PW X (.BoolOp .Or (b :: rest) pos) tB') : PW X (.BoolOp .Or (a :: b :: rest) pos) (tOr tA tB') := by
  intro wh pins s σ H Q I h
  refine isTrue_or (thn (ha pins s σ H _ I h) fun c s1 ⟨H1, I1, q1⟩ => ?_)
  cases c with
  | true => exact ⟨H1, I1, q1⟩
  | false => exact hb wh pins s1 σ H1 Q I1 q1
theorem pt_not (ha : PT X a tA) : PT X (.UnaryOp .Not a pos) (tNot tA) := by
  intro pins s σ H Q I h
  exact isTrue_not (ha pins s σ H (fun c H1 => Q (!c) H1) I h)
noncomputable def tAndV (ta tb : TE) : TE := fun σ H Q => ta σ H fun x H1 => ∃ c, x = .bl c ∧ if c = true then tb σ H1 Q else Q (.bl false) H1
noncomputable def tNotV (ta : TE) : TE := fun σ H Q => ta σ H fun x H1 => ∃ c, x = .bl c ∧ Q (.bl (!c)) H1
theorem pe_one {op} {t : TE} (h : PE X a t) : PE X (.BoolOp op [a] pos) t := fun pins s σ H Q I hw => BoolOp_one (h pins s σ H Q I hw)
theorem pe_and (ha : PE X a ta) (hb : PE X (.BoolOp .And (b :: rest) pos) tb) : PE X (.BoolOp .And (a :: b :: rest) pos) (tAndV ta tb) := by
  intro pins s σ H Q I h
  refine BoolOp_and (thn (ha pins s σ H _ I h) fun v s1 ⟨x, H1, I1, r1, q1⟩ => ?_)
  obtain ⟨c, rfl, q1⟩ := q1
  cases r1
  refine wpAny_truthy_bool ?_
  cases c with
  | true => exact hb pins s1 σ H1 Q I1 q1
  | false => exact ⟨.bl false, H1, I1, rfl, q1⟩
theorem pe_not (ha : PE X a ta) : PE X (.UnaryOp .Not a pos) (tNotV ta) := by
  intro pins s σ H Q I h
  refine UnaryOp_ (thn (ha pins s σ H _ I h) fun v s1 ⟨x, H1, I1, r1, q1⟩ => ?_)
  obtain ⟨c, rfl, q1⟩ := q1
  cases r1
  exact not_of (wpAny_truthy_bool ⟨.bl (!c), H1, I1, rfl, q1⟩)
end
end L2
namespace L2
open PySem PySem.Spec PyProof.Rows
noncomputable def SqL (K : PySem.W.Frag) (H : Hp) (a : Addr) (xs : List V) : Prop :=
  Rd H a (.lst xs) ∨
    ∃ (o : Obj) (its : Array Value) (n : Nat), K.lookup a = some o ∧ o.cls = .type "list" ∧ o.dict = none ∧ o.data = .seq its n ∧ its.size ≤ sizeLine ∧ Vals xs its.toList
noncomputable def SqT (K : PySem.W.Frag) (H : Hp) (a : Addr) (xs : List V) : Prop :=
  Rd H a (.tup xs) ∨
    ∃ (o : Obj) (its : Array Value) (n : Nat), K.lookup a = some o ∧ o.cls = .type "tuple" ∧ o.data = .seq its n ∧ its.size ≤ sizeLine ∧ Vals xs its.toList
noncomputable def absV : Value → Option V
  | .none => some .non
  | .bool b => some (.bl b)
  | .int i _ => some (.int i)
  | .str x _ => some (.str x)
  | .bytes b _ => some (.byt b)
  | .float b _ => some (.flt b)
  | .ref a => some (.ref a)
  | .type n => some (.ty n)
  | _ => none
theorem RelV.abs {x : V} {u : Value} (r : RelV x u) : absV u = some x := by
  cases x with
  | non => cases r; rfl
  | bl _ => cases r; rfl
  | int _ => obtain ⟨t, rfl⟩ := r; rfl
  | str _ => obtain ⟨t, rfl⟩ := r; rfl
  | byt _ => obtain ⟨t, rfl⟩ := r; rfl
  | flt _ => obtain ⟨t, rfl⟩ := r; rfl
  | ref _ => cases r; rfl
  | ty _ => cases r; rfl
theorem RelV.inj {x y : V} {u : Value} (r : RelV x u) (q : RelV y u) : x = y := Option.some.inj (r.abs.symm.trans q.abs)
theorem Vals.inj : ∀ {xs ys : List V} {us : List Value}, Vals xs us → Vals ys us → xs = ys
  | _, _, _, .nil, .nil => rfl
  | _, _, _, .cons r t, .cons r' t' => by rw [r.inj r', Vals.inj t t']
section
variable {X : Cx} {pins : List (Addr × Obj)} {σ : St} {H : Hp} {s : Shared} {a : Addr} {xs ys : List V}
theorem SqL.of {K : PySem.W.Frag} (h : H a = some (.lst xs)) : SqL K H a xs := .inl (.inl h)
theorem SqT.of {K : PySem.W.Frag} (h : H a = some (.tup xs)) : SqT K H a xs := .inl (.inl h)
theorem Inv.list (I : Inv X pins σ H s) (h : SqL X.K H a xs) : ∃ its : List Value, Vals xs its ∧ PlainL s.heap a its.toArray ∧ xs.length ≤ sizeLine := by
  rcases h with h | ⟨o, its, n, hk, hc, hd, hs, hz, r⟩
  · obtain ⟨z, its, n, r, e⟩ := h.ok I.hok
    exact ⟨its, r, ⟨_, n, e, rfl, rfl, rfl⟩, z⟩
  · refine ⟨its.toList, r, ⟨o, n, I.kIn a o hk, hc, hd, by simpa using hs⟩, ?_⟩
    have e := r.length
    simp only [Array.length_toList] at e
    omega
theorem Inv.tuple (I : Inv X pins σ H s) (h : SqT X.K H a xs) : ∃ its : List Value, Vals xs its ∧ IsTup s.heap a its.toArray ∧ xs.length ≤ sizeLine := by
  rcases h with h | ⟨o, its, n, hk, hc, hs, hz, r⟩
  · obtain ⟨z, its, r, p⟩ := h.ok I.hok
    exact ⟨its, r, p, z⟩
  · refine ⟨its.toList, r, ⟨o, I.kIn a o hk, hc, n, by simpa using hs⟩, ?_⟩
    have e := r.length
    simp only [Array.length_toList] at e
    omega
theorem Inv.list_inj (I : Inv X pins σ H s) (h : SqL X.K H a xs) (h' : SqL X.K H a ys) : xs = ys := by
  obtain ⟨its, r, ⟨o, n, e, _, _, d⟩, _⟩ := I.list h
  obtain ⟨its', r', ⟨o', n', e', _, _, d'⟩, _⟩ := I.list h'
  rw [e] at e'; cases e'
  rw [d] at d'
  injection d' with d1 _
  have : its = its' := by simpa using congrArg Array.toList d1
  subst this
  exact r.inj r'
end
abbrev Cx.wish (X : Cx) (E : Value → Shared → Prop) : Cx := { X with xe := E }
abbrev Cx.nox (X : Cx) : Cx := X.wish fun _ _ => False
theorem Cx.Ok.wish {X : Cx} (ok : X.Ok) (E : Value → Shared → Prop) : (X.wish E).Ok :=
  ⟨ok.mod, ok.kind, ok.glob, ok.blt, ok.above, ok.inj, ok.has, ok.cab, ok.hd, ok.frames, ok.stk, ok.exf, ok.bs, ok.bsz, ok.noex, ok.exfs, ok.funs, ok.frf⟩
theorem Cx.Ok.unwish {X : Cx} {E : Value → Shared → Prop} (ok : (X.wish E).Ok) : X.Ok :=
  ⟨ok.mod, ok.kind, ok.glob, ok.blt, ok.above, ok.inj, ok.has, ok.cab, ok.hd, ok.frames, ok.stk, ok.exf, ok.bs, ok.bsz, ok.noex, ok.exfs, ok.funs, ok.frf⟩
section
variable {X : Cx} {pins : List (Addr × Obj)} {σ : St} {H : Hp} {s : Shared} {E : Value → Shared → Prop}
theorem Inv.wish (I : Inv X pins σ H s) (E : Value → Shared → Prop) : Inv (X.wish E) pins σ H s := ⟨I.ok.wish E, I.os, I.bare, I.base, I.loc, I.cell, I.free, I.freeC, I.pin, I.hok, I.len⟩
theorem Inv.unwish (I : Inv (X.wish E) pins σ H s) : Inv X pins σ H s := ⟨I.ok.unwish, I.os, I.bare, I.base, I.loc, I.cell, I.free, I.freeC, I.pin, I.hok, I.len⟩
theorem SP.unwish {D : Ends} {f : Flow} {s' : Shared} (h : SP (X.wish E) pins D f s') : SP X pins D f s' := by
  cases f with
  | next => obtain ⟨σ', H', I, q⟩ := h; exact ⟨σ', H', I.unwish, q⟩
  | brk => obtain ⟨σ', H', I, q⟩ := h; exact ⟨σ', H', I.unwish, q⟩
  | cont => obtain ⟨σ', H', I, q⟩ := h; exact ⟨σ', H', I.unwish, q⟩
  | ret u => obtain ⟨v, σ', H', I, r, q⟩ := h; exact ⟨v, σ', H', I.unwish, r, q⟩
theorem PE.nox {e : Expr} {t : TE} (h : PE X.nox e t) : PE X e t := fun pins s σ H Q I hw =>
  wpAny_mono (h pins s σ H Q (I.wish _) hw) (fun _ _ ⟨v, H', I', r, q⟩ => ⟨v, H', I'.unwish, r, q⟩) fun _ _ z => False.elim z
theorem PT.nox {e : Expr} {t : TT} (h : PT X.nox e t) : PT X e t := fun pins s σ H Q I hw =>
  wpAny_mono (h pins s σ H Q (I.wish _) hw) (fun _ _ ⟨H', I', q⟩ => ⟨H', I'.unwish, q⟩) fun _ _ z => False.elim z
theorem PSs.nox {st : List Stmt} {t : TS} (h : PSs X.nox st t) : PSs X st t := fun pins s σ H D I hw =>
  wpAny_mono (h pins s σ H D (I.wish _) hw) (fun _ _ q => q.unwish) fun _ _ z => False.elim z
end
section
variable {X : Cx} {st : Stmt} {rest : List Stmt} {t u : TS} {e : Expr} {te : TE} {pos : Pos}
noncomputable def tNext : TS := fun D σ H => D.nx σ H
noncomputable def tSeq (t u : TS) : TS := fun D σ H => t { D with nx := u D } σ H
theorem pss_nil : PSs X [] tNext := fun _ _ σ H _ I h => wpAny_execs_nil ⟨σ, H, I, h⟩
theorem pss_cons (h1 : PS X st t) (h2 : PSs X rest u) : PSs X (st :: rest) (tSeq t u) := by
  intro pins s σ H D I h
  refine wpAny_execs_cons (thn (h1 pins s σ H { D with nx := u D } I h) fun f s1 q => ?_)
  cases f with
  | next =>
    obtain ⟨σ', H', I', q⟩ := q
    exact h2 pins s1 σ' H' D I' q
  | ret v => exact q
  | brk => exact q
  | cont => exact q
theorem pss_one (h1 : PS X st t) : PSs X [st] t := by
  intro pins s σ H D I h
  refine wpAny_execs_cons (thn (h1 pins s σ H D I h) fun f s1 q => ?_)
  cases f with
  | next => exact wpAny_execs_nil q
  | ret v => exact q
  | brk => exact q
  | cont => exact q
theorem Inv.quiet {pins : List (Addr × Obj)} {σ : St} {H : Hp} {s : Shared} (I : Inv X pins σ H s) : interactive X.env = false := by simp [interactive, I.ok.kind]
noncomputable def tDrop (te : TE) : TS := fun D σ H => te σ H fun _ H1 => D.nx σ H1
theorem ps_expr (he : PE X e te) (hs : swapsWith e none pos.line X.env = pure false := by rfl) : PS X (.Expr e pos) (tDrop te) := by
  intro pins s σ H D I h
  exact wpAny_Expr_any (thn (he pins s σ H _ I h) fun v s1 ⟨x, H1, I1, r1, q1⟩ => ⟨σ, H1, I1, q1⟩) I.quiet hs
noncomputable def tRet (te : TE) : TS := fun D σ H => te σ H D.rt
theorem ps_ret (he : PE X e te) : PS X (.Return (some e) pos) (tRet te) := by
  intro pins s σ H D I h
  exact wpAny_Return_some (thn (he pins s σ H _ I h) fun v s1 ⟨x, H1, I1, r1, q1⟩ => ⟨x, σ, H1, I1, r1, q1⟩)
noncomputable def tRetN : TS := fun D _ H => D.rt .non H
noncomputable def tIfS (c : TT) (t u : TS) : TS := fun D σ H => c σ H fun b H1 => if b = true then t D σ H1 else u D σ H1
theorem ps_if {c : Expr} {a b : List Stmt} {tc : TT} (hc : PT X c tc) (ha : PSs X a t) (hb : PSs X b u) : PS X (.If c a b pos) (tIfS tc t u) := by
  intro pins s σ H D I h
  refine wpAny_If (thn (hc pins s σ H _ I h) fun d s1 ⟨H1, I1, q1⟩ => ?_)
  cases d with
  | true => exact ha pins s1 σ H1 D I1 q1
  | false => exact hb pins s1 σ H1 D I1 q1
end
abbrev TG := V → St → Hp → (St → Hp → Prop) → Prop
abbrev TGs := List V → St → Hp → (St → Hp → Prop) → Prop
noncomputable def PG (X : Cx) (target : Expr) (t : TG) : Prop :=
  ∀ (pins : List (Addr × Obj)) (s : Shared) (σ : St) (H : Hp) (v : V) (u : Value) (Q : St → Hp → Prop), Inv X pins σ H s → RelV v u → t v σ H Q →
    wpAny (model X.prog X.w) X.A (assign target X.env u) (fun _ s' => ∃ σ' H', Inv X pins σ' H' s' ∧ Q σ' H') X.xe s
abbrev TIp := V → V → Hp → VK → Prop
noncomputable def PIp (X : Cx) (op : Operator) (t : TIp) : Prop :=
  ∀ (pins : List (Addr × Obj)) (s : Shared) (σ : St) (H : Hp) (x y : V) (v u : Value) (Q : VK), Inv X pins σ H s → RelV x v → RelV y u → t x y H Q →
    wpAny (model X.prog X.w) X.A (inplaceOp op v u) (EP X pins σ Q) X.xe s
section
variable {X : Cx} {pos : Pos}
noncomputable def gName (i : Nat) : TG := fun v σ H Q => Q (σ.set i (some v)) H
theorem pg_name {i : Nat} {x : Str} (hN : X.N.Nodup) (hi : X.N[i]? = some x) (hx : Loc X.env.scope x) (hf : X.fn x = true ∨ X.env.scope.names.lookup x = some .local := by first | exact .inl rfl | exact .inr rfl | assumption) : PG X (.Name x pos) (gName i) := by
  intro pins s σ H v u Q I r h
  exact wpAny_assign_Name (store_ok I hN hi hx r (fun s' I' => ⟨_, H, I', h⟩) hf)
noncomputable def gNil : TGs := fun vs σ H Q => vs = [] ∧ Q σ H
noncomputable def gCons (t : TG) (u : TGs) : TGs := fun vs σ H Q => ∃ v r, vs = v :: r ∧ t v σ H fun σ' H' => u r σ' H' Q
noncomputable def gTup (K : PySem.W.Frag) (n : Nat) (t : TGs) : TG := fun v σ H Q => ∃ a xs, v = .ref a ∧ SqT K H a xs ∧ xs.length = n ∧ t xs σ H Q
noncomputable def tAsg (te : TE) (g : TG) : TS := fun D σ H => te σ H fun x H1 => g x σ H1 D.nx
theorem ps_set {i : Nat} {x : Str} {e : Expr} {te : TE} {pos' : Pos} (hN : X.N.Nodup) (hi : X.N[i]? = some x) (hx : Loc X.env.scope x) (he : PE X e te) (hs : swapsWith e (some (.Name x pos')) pos.line X.env = pure false := by rfl) (hf : X.fn x = true ∨ X.env.scope.names.lookup x = some .local := by first | exact .inl rfl | exact .inr rfl | assumption) :
    PS X (.Assign [.Name x pos'] e pos) (tAsg te (gName i)) := by
  intro pins s σ H D I h
  refine wpAny_Assign_Name (thn (he pins s σ H _ I h) fun v s1 ⟨y, H1, I1, r1, q1⟩ => ?_) hs
  exact store_ok I1 hN hi hx r1 (fun s2 I2 => ⟨_, H1, I2, q1⟩) hf
noncomputable def tAug (i : Nat) (te : TE) (ti : TIp) : TS := fun D σ H => ∃ x, σ[i]? = some (some x) ∧ te σ H fun y H1 => ti x y H1 fun z H2 => D.nx (σ.set i (some z)) H2
theorem ps_aug {i : Nat} {x : Str} {e : Expr} {te : TE} {op : Operator} {ti : TIp} {pos' : Pos} (hN : X.N.Nodup) (hi : X.N[i]? = some x) (hx : Loc X.env.scope x) (he : PE X e te) (ho : PIp X op ti) (hf : X.fn x = true ∨ X.env.scope.names.lookup x = some .local := by first | exact .inl rfl | exact .inr rfl | assumption) :
    PS X (.AugAssign (.Name x pos') op e pos) (tAug i te ti) := by
  intro pins s σ H D I h
  obtain ⟨v, e1, h⟩ := h
  obtain ⟨m, hn, hl⟩ := I.loc
  have vis : Vis X.env.scope x := by rcases hx with k | k; exact .inl k; exact .inr (.inl k)
  obtain ⟨u, r, l⟩ := hl i x v hi e1 vis
  refine wpAny_AugAssign_Name ?_
  have go : wpAny (model X.prog X.w) X.A (eval e X.env) (fun w s₂ => wpAny (model X.prog X.w) X.A (inplaceOp op u w) (fun r s₃ => wpAny (model X.prog X.w) X.A (storeName X.env x r) (fun _ => SP X pins D .next) X.xe s₃) X.xe s₂) X.xe s := by
    refine thn (he pins s σ H _ I h) fun w s1 ⟨y, H1, I1, r1, q1⟩ => ?_
    refine thn (ho pins s1 σ H1 v y u w _ I1 r r1 q1) fun z s2 ⟨zv, H2, I2, r2, q2⟩ => ?_
    exact store_ok I2 hN hi hx r2 (fun s3 I3 => ⟨_, H2, I3, q2⟩) hf
  rcases l with ⟨hk, hm⟩ | ⟨hk, c, hc, hcell⟩
  · exact wpAny_loadName_local I.ok.kind hk hn hm go
  · rcases hk with hk | hk
    · exact wpAny_loadName_cell I.ok.kind hk hc hcell go
    · rcases hx with k | k
      · have : X.env.scope.names.lookup x = some .free := hk
        rw [k] at this; cases this
      · have : X.env.scope.names.lookup x = some .free := hk
        rw [k] at this; cases this
end
section
variable {X : Cx} {pos : Pos}
noncomputable def tWhile (c : TT) (tb : TS) : TS := fun D σ H => ∃ W : Nat → St → Hp → Prop, (∃ m, W m σ H) ∧ ∀ m σ H, W m σ H →
  c σ H fun b H1 => if b = true then ∃ N : St → Hp → Prop, (∀ σ' H', N σ' H' → ∃ m', m' < m ∧ W m' σ' H') ∧ tb { D with nx := N, ct := N, bk := D.nx } σ H1 else D.nx σ H1
theorem ps_while {c : Expr} {body : List Stmt} {tc : TT} {tb : TS} (hp : PassesOwn (model X.prog X.w) X.A X.env X.xe) (hc : PT X c tc) (hb : PSs X body tb) : PS X (.While c body [] pos) (tWhile tc tb) := by
  intro pins s σ H D I h
  obtain ⟨W, ⟨m0, w0⟩, turn⟩ := h
  refine wpAny_While (codeAny_whileLoop (fun n s' => ∃ σ' H', Inv X pins σ' H' s' ∧ W n σ' H') ?_ m0 ⟨σ, H, I, w0⟩)
  rintro n s1 ⟨σ1, H1, I1, w1⟩
  refine wpAny_passesOwn hp (thn (hc pins s1 σ1 H1 _ I1 (turn n σ1 H1 w1)) fun b s2 ⟨H2, I2, q2⟩ => ?_)
  cases b with
  | true =>
    obtain ⟨N, hN, q2⟩ := q2
    rw [if_pos rfl]
    refine wpAny_passesOwn hp (thn (hb pins s2 σ1 H2 _ I2 q2) fun f s3 q3 => ?_)
    cases f with
    | next =>
      obtain ⟨σ3, H3, I3, n3⟩ := q3
      obtain ⟨m', hm, w3⟩ := hN σ3 H3 n3
      exact ⟨m', hm, σ3, H3, I3, w3⟩
    | cont =>
      obtain ⟨σ3, H3, I3, n3⟩ := q3
      obtain ⟨m', hm, w3⟩ := hN σ3 H3 n3
      exact ⟨m', hm, σ3, H3, I3, w3⟩
    | brk => exact q3
    | ret v => exact q3
  | false =>
    rw [if_neg Bool.false_ne_true]
    exact wpAny_execs_nil ⟨σ1, H2, I2, q2⟩
end
structure It where
  go : Nat → Hp → Prop
  yld : Nat → Hp → V → Hp → Prop
  stop : Nat → Hp → Prop
noncomputable def FpOk (X : Cx) (pins : List (Addr × Obj)) (H : Hp) (b : Addr) : Prop :=
  H b = none ∧ b ≠ X.env.locals ∧ b ∉ X.fs ∧ (b ∈ X.ex ∨ X.s₀.heap.objs.size ≤ b) ∧ (∀ x c, X.env.cells.lookup x = some c → c ≠ b) ∧ ∀ p ∈ X.pn ++ pins, p.1 ≠ b
theorem Inv.fpOk {X : Cx} {pins : List (Addr × Obj)} {σ : St} {H H' : Hp} {s : Shared} {b : Addr} (I : Inv X pins σ H s) (hb : s.heap.objs.size ≤ b) (hn : H' b = none) : FpOk X pins H' b := by
  refine ⟨hn, Nat.ne_of_gt (Nat.lt_of_lt_of_le I.lt hb), I.nofs hb, .inr (Nat.le_trans I.sz hb), fun x c e z => ?_, fun p hp z => ?_⟩
  · obtain ⟨v, q⟩ := I.cell x c e
    exact absurd (Nat.lt_of_lt_of_le q.lt (by rw [z]; exact hb)) (Nat.lt_irrefl _)
  · exact absurd (Nat.lt_of_lt_of_le (Heap.lt_size (I.pin p hp).1) (by rw [z]; exact hb)) (Nat.lt_irrefl _)
structure Turn (P : Program) (w : World) (K : PySem.W.Frag) (tg : Expr) (J : It) (fp : List Addr) (it : Addr) (tn : Nat → Heap → Prop) : Prop where
  mem : it ∈ fp
  obj : ∀ i h, tn i h → ∀ b ∈ fp, ∃ o, h.get? b = some o ∧ ∀ v, o.data ≠ .cell v
  keep : ∀ i h h', tn i h → (∀ b ∈ fp, ∀ o, h.get? b = some o → h'.get? b = some o) → tn i h'
  item : ∀ (X : Cx), X.prog = P → X.w = w → X.K = K → X.calm = true → ∀ (i : Nat) (pins : List (Addr × Obj)) (s : Shared) (σ : St) (H : Hp) (E : Value → Shared → Prop), Inv X pins σ H s → (∀ b ∈ fp, FpOk X pins H b) → tn i s.heap → J.go i H →
    wpAny (model P w) X.A (pyNext (.ref it)) (fun r s1 => ∃ u, r = some u ∧
      wpAny (model P w) X.A (letOwnedTupleGo tg (.ref it) u) (fun _ s2 => ∃ x H', Inv X pins σ H' s2 ∧ RelV x u ∧ J.yld i H x H' ∧ tn (i + 1) s2.heap ∧ ∀ b ∈ fp, H' b = none) E s1) E s
  done : ∀ (X : Cx), X.prog = P → X.w = w → X.K = K → X.calm = true → ∀ (i : Nat) (pins : List (Addr × Obj)) (s : Shared) (σ : St) (H : Hp) (E : Value → Shared → Prop), Inv X pins σ H s → (∀ b ∈ fp, FpOk X pins H b) → tn i s.heap → J.stop i H →
    wpAny (model P w) X.A (pyNext (.ref it)) (fun r s1 => r = none ∧ Inv X pins σ H s1) E s
  self : ∀ (A : Around) (i : Nat) (s : Shared) (Q : Value → Shared → Prop) (E : Value → Shared → Prop), tn i s.heap → Q (.ref it) s → wpAny (model P w) A (pyIter (.ref it)) Q E s
abbrev TI := St → Hp → (It → Hp → Prop) → Prop
noncomputable def PIE (X : Cx) (pins : List (Addr × Obj)) (σ : St) (tg : Expr) (R : It → Hp → Prop) (itv : Value) (s2 : Shared) : Prop :=
  ∃ (it : Addr) (fp : List Addr) (tn : Nat → Heap → Prop) (J : It) (H' : Hp), itv = .ref it ∧ Inv X pins σ H' s2 ∧ Turn X.prog X.w X.K tg J fp it tn ∧ tn 0 s2.heap ∧ (∀ b ∈ fp, FpOk X pins H' b) ∧ R J H'
noncomputable def PI (X : Cx) (tg iter : Expr) (wi : TI) : Prop :=
  ∀ (pins : List (Addr × Obj)) (s : Shared) (σ : St) (H : Hp) (R : It → Hp → Prop), Inv X pins σ H s → wi σ H R →
    wpAny (model X.prog X.w) X.A (eval iter X.env) (fun v s1 => wpAny (model X.prog X.w) X.A (pyIter v) (PIE X pins σ tg R) X.xe s1) X.xe s
theorem go_of {M : Model} {A : Around} {E : Value → Shared → Prop} {s : Shared} {tg : Expr} {it : Addr} {u : Value} {o : Obj} {n : String} {vs : Array Value} {Q : Unit → Shared → Prop} (ho : s.heap.get? it = some o) (hc : o.cls = .type n) (hd : o.data = .fields vs)
    (hn : ["enumerate", "zip", "dict_itemiterator", "dict_reverseitemiterator", "odict_iterator", "itertools.zip_longest", "itertools.pairwise"].contains n = false) (hQ : Q () s) : wpAny M A (letOwnedTupleGo tg (.ref it) u) Q E s := by
  unfold letOwnedTupleGo
  cases tg <;> first
    | exact wpAny_pure hQ
    | (cases u <;> first
        | exact wpAny_pure hQ
        | (refine wpAny_bind (wpAny_load ho ?_)
           rw [hc, hd]
           show wpAny M A (if (["enumerate", "zip", "dict_itemiterator", "dict_reverseitemiterator", "odict_iterator", "itertools.zip_longest", "itertools.pairwise"].contains n && vs[0]? == some (rawInt _)) = true then _ else _) Q E s
           rw [if_neg (by intro h; rw [hn, Bool.false_and] at h; cases h)]
           exact wpAny_pure hQ))
noncomputable def Itl (K : PySem.W.Frag) (a : Addr) : It :=
  ⟨fun i H => ∃ xs x, SqL K H a xs ∧ xs[i]? = some x, fun i H x H' => H' = H ∧ ∀ xs, SqL K H a xs → xs[i]? = some x, fun i H => ∃ xs, SqL K H a xs ∧ xs.length ≤ i⟩
noncomputable def Itr (lo : Int) (n : Nat) : It := ⟨fun i _ => i < n, fun i H x H' => H' = H ∧ x = .int (lo + i), fun i _ => n ≤ i⟩
theorem turn_list {P : Program} {w : World} {K : PySem.W.Frag} {tg : Expr} (a it : Addr) : Turn P w K tg (Itl K a) [it] it (fun i h => h.IsListIter it a i) where
  mem := by simp
  obj := fun i h st b hb => by
    have e : b = it := by simpa using hb
    subst e
    obtain ⟨o, e, c, d⟩ := st
    exact ⟨o, e, fun v z => by rw [d] at z; cases z⟩
  keep := fun i h h' st k => st.at fun o e => k it (by simp) o e
  item := by
    intro X hP hw hK hc i pins s σ H E I hf st hg
    subst hP hw hK
    obtain ⟨xs, x, hq, hx⟩ := hg
    obtain ⟨its, rv, p, hz⟩ := I.list hq
    obtain ⟨u, hu, ru⟩ := rv.get hx
    obtain ⟨f0, f1, f2, f3, f4, f5⟩ := hf it (by simp)
    refine wpAny_pyNext_list_item st p.isList (x := u) (by simpa using hu) fun h' st' sb => ?_
    have I1 : Inv X pins σ H { s with heap := h' } := I.turned (t' := s.toks) (fun b o hb e => (sb.2 b hb).trans e) f0 f1 f3 f4 f5
    obtain ⟨o, e, c, d⟩ := id st'
    exact ⟨u, rfl, go_of (s := { s with heap := h' }) e c d (by decide) ⟨x, H, I1, ru, ⟨rfl, fun ys hy => by rw [I.list_inj hy hq]; exact hx⟩, st', fun b hb => (hf b hb).1⟩⟩
  done := by
    intro X hP hw hK hc i pins s σ H E I hf st hg
    subst hP hw hK
    obtain ⟨xs, hq, hx⟩ := hg
    obtain ⟨its, rv, p, hz⟩ := I.list hq
    obtain ⟨f0, f1, f2, f3, f4, f5⟩ := hf it (by simp)
    have hl := rv.length
    exact wpAny_pyNext_list_end (I.ok.hd hc) st p.isList (by simp; omega) fun h' eb => ⟨rfl, I.turned (t' := s.toks) (fun b o hb e => eb b o hb e) f0 f1 f3 f4 f5⟩
  self := fun _ _ _ _ _ st h => wpAny_pyIter_listiter st h
theorem turn_range {P : Program} {w : World} {K : PySem.W.Frag} {tg : Expr} (it : Addr) (lo : Int) (n : Nat) : Turn P w K tg (Itr lo n) [it] it (fun i h => IsRangeIter h it (lo + (i : Nat) * 1) ((n : Int) - (i : Nat)) 1) where
  mem := by simp
  obj := fun i h st b hb => by
    have e : b = it := by simpa using hb
    subst e
    exact ⟨_, st, fun v z => by
      have z' : Data.fields _ = Data.cell v := z
      cases z'⟩
  keep := fun i h h' st k => k it (by simp) _ st
  item := by
    intro X hP hw hK hc i pins s σ H E I hf st hg
    subst hP hw hK
    obtain ⟨f0, f1, f2, f3, f4, f5⟩ := hf it (by simp)
    have W := Walks.range (prog := X.prog) (w := X.w) (I.ok.hd hc) it lo 1 n
    refine W.item i s _ _ hg st fun v h' tk hv st' kk => ?_
    obtain ⟨t, rfl⟩ := hv
    have I1 : Inv X pins σ H { s with heap := h', toks := tk } := I.turned (fun b o hb e => kk b o (by simpa using hb) e) f0 f1 f3 f4 f5
    refine ⟨_, rfl, go_of (s := { s with heap := h', toks := tk }) (n := "range_iterator") st' rfl rfl (by decide) ⟨.int (lo + i), H, I1, ⟨t, ?_⟩, ⟨rfl, rfl⟩, st', fun b hb => (hf b hb).1⟩⟩
    rw [Int.mul_one]
  done := by
    intro X hP hw hK hc i pins s σ H E I hf st hg
    subst hP hw hK
    obtain ⟨f0, f1, f2, f3, f4, f5⟩ := hf it (by simp)
    exact wpAny_pyNext_range_end (I.ok.hd hc) st (by have : n ≤ i := hg; omega) fun h' eb => ⟨rfl, I.turned (t' := s.toks) (fun b o hb e => eb b o hb e) f0 f1 f3 f4 f5⟩
  self := fun _ _ _ _ _ st h => wpAny_pyIter_rangeiter st h
end L2
namespace L2
open PySem PySem.Spec PyProof.Rows
section
variable {X : Cx} {tg : Expr}
noncomputable def iList (K : PySem.W.Frag) (tl : TE) : TI := fun σ H R => tl σ H fun x H1 => ∃ a, x = .ref a ∧ (∃ xs, SqL K H1 a xs) ∧ R (Itl K a) H1
theorem pi_list {l : Expr} {tl : TE} (hl : PE X l tl) : PI X tg l (iList X.K tl) := by
  intro pins s σ H R I h
  refine thn (hl pins s σ H _ I h) fun v s1 ⟨x, H1, I1, r1, q1⟩ => ?_
  obtain ⟨a, e, ⟨xs, hq⟩, q⟩ := q1
  subst e
  cases r1
  obtain ⟨its, rv, p, hz⟩ := I1.list hq
  refine wpAny_pyIter_list p.isList ?_
  refine ⟨s1.heap.objs.size, [s1.heap.objs.size], _, _, H1, rfl, I1.kept (t' := s1.toks) fun b o e => Heap.get?_push_of_some _ e, turn_list a _, ⟨_, Heap.get?_push_size _ rfl, rfl, rfl⟩, fun b hb => ?_, q⟩
  have e : b = s1.heap.objs.size := by simpa using hb
  subst e
  exact I1.fpOk (Nat.le_refl _) (I1.hok.fresh (Nat.le_refl _))
theorem range_it {pins : List (Addr × Obj)} {σ : St} {H : Hp} {s : Shared} {R : It → Hp → Prop} {E : Value → Shared → Prop} {lo hi : Int} {t u v : Tok} {tk : Nat} (I : Inv X pins σ H s) (h1 : -(2 ^ 62) ≤ lo) (h2 : lo < 2 ^ 62) (h3 : -(2 ^ 62) ≤ hi) (h4 : hi < 2 ^ 62)
    (q : R (Itr lo (hi - lo).toNat) H) : wpAny (model X.prog X.w) X.A (pyIter (.ref s.heap.objs.size)) (PIE X pins σ tg R) E { s with heap := s.heap.push { cls := .type "range", data := .fields #[.int lo t, .int hi u, .int 1 v] }, toks := tk } := by
  refine wpAny_pyIter_range (IsRange.new ..) (small_one h1 h2 h3 h4) ?_
  have I1 : Inv X pins σ H { s with heap := s.heap.push { cls := .type "range", data := .fields #[.int lo t, .int hi u, .int 1 v] }, toks := tk } := I.kept fun b o e => Heap.get?_push_of_some _ e
  refine ⟨(s.heap.push { cls := .type "range", data := .fields #[.int lo t, .int hi u, .int 1 v] }).objs.size, [(s.heap.push { cls := .type "range", data := .fields #[.int lo t, .int hi u, .int 1 v] }).objs.size], _, _, H, rfl,
    I1.kept (t' := tk) fun b o e => Heap.get?_push_of_some _ e, turn_range _ lo (hi - lo).toNat, ?_, fun b hb => ?_, q⟩
  · have e1 : lo + ((0 : Nat) : Int) * 1 = lo := by simp
    have e2 : (((hi - lo).toNat : Nat) : Int) - ((0 : Nat) : Int) = Builtin.Range.rangeSize lo hi 1 := by rw [rangeSize_one]; split <;> omega
    show IsRangeIter _ _ (lo + ((0 : Nat) : Int) * 1) ((((hi - lo).toNat : Nat) : Int) - ((0 : Nat) : Int)) 1
    rw [e1, e2]
    exact Heap.get?_push_size _ rfl
  · have e : b = (s.heap.push { cls := .type "range", data := .fields #[.int lo t, .int hi u, .int 1 v] }).objs.size := by simpa using hb
    subst e
    exact I1.fpOk (Nat.le_refl _) (I1.hok.fresh (Nat.le_refl _))
noncomputable def iRng1 (ta : TA) : TI := fun σ H R => ta σ H fun vs H1 => ∃ j : Int, vs = [.int j] ∧ -(2 ^ 62) ≤ j ∧ j < 2 ^ 62 ∧ R (Itr 0 j.toNat) H1
theorem pi_range1 {a : Expr} {ta : TA} {p pos : Pos} (hg : Gl X "range") (hm : X.mg "range" = none) (ha : PA X [a] ta) (hs : starEach [a] X.env = [(false, eval a X.env)] := by rfl) : PI X tg (.Call (.Name "range" p) [a] [] pos) (iRng1 ta) := by
  intro pins s σ H R I h
  refine Call_ (ld_blt I hg hm boot_range (PyProof.Rows.callWith_type1 (thn (ha pos pins s σ H _ I h) fun us s1 ⟨vs, H1, I1, r1, q1⟩ => ?_) hs rfl))
  obtain ⟨j, e, q1, q2, q⟩ := q1
  subst e
  cases r1 with
  | cons r rr =>
    cases rr
    obtain ⟨t, rfl⟩ := r
    exact call_range_1 (range_it I1 (by omega) (by omega) q1 q2 (by simpa using q))
noncomputable def tFor (wi : TI) (g : TG) (tb : TS) : TS := fun D σ H => wi σ H fun J H1 => ∃ W : Nat → Nat → St → Hp → Prop, (∃ m, W 0 m σ H1) ∧ ∀ i m σ H, W i m σ H →
  (J.stop i H ∧ D.nx σ H) ∨ (J.go i H ∧ ∃ N : St → Hp → Prop, (∀ σ' H', N σ' H' → ∃ m', m' < m ∧ W (i + 1) m' σ' H') ∧ ∀ x H', J.yld i H x H' → g x σ H' fun σ2 H2 => tb { D with nx := N, ct := N, bk := D.nx } σ2 H2)
noncomputable def pinsAt (fp : List Addr) (h : Heap) : List (Addr × Obj) := fp.filterMap fun b => (h.get? b).map fun o => (b, o)
theorem mem_pinsAt {fp : List Addr} {h : Heap} {b : Addr} {o : Obj} (hb : b ∈ fp) (e : h.get? b = some o) : (b, o) ∈ pinsAt fp h := List.mem_filterMap.mpr ⟨b, hb, by rw [e]; rfl⟩
theorem of_pinsAt {fp : List Addr} {h : Heap} {p : Addr × Obj} (hp : p ∈ pinsAt fp h) : p.1 ∈ fp ∧ h.get? p.1 = some p.2 := by
  obtain ⟨b, hb, e⟩ := List.mem_filterMap.mp hp
  cases q : h.get? b with
  | none => rw [q] at e; cases e
  | some o =>
    rw [q] at e
    have e' : (b, o) = p := Option.some.inj e
    subst e'
    exact ⟨hb, q⟩
theorem Inv.pinned {pins : List (Addr × Obj)} {σ : St} {H : Hp} {s : Shared} {fp : List Addr} (I : Inv X pins σ H s) (hf : ∀ b ∈ fp, FpOk X pins H b) (ho : ∀ b ∈ fp, ∃ o, s.heap.get? b = some o ∧ ∀ v, o.data ≠ .cell v) : Inv X (pins ++ pinsAt fp s.heap) σ H s :=
  I.pins_of fun p hp => (List.mem_append.mp hp).elim (fun z => I.pin p (List.mem_append_right _ z)) fun z => by
    obtain ⟨hb, e⟩ := of_pinsAt z
    obtain ⟨f0, f1, f2, _⟩ := hf p.1 hb
    obtain ⟨o, e', d⟩ := ho p.1 hb
    rw [e] at e'; cases e'
    exact ⟨e, f0, f1, f2, d⟩
theorem Inv.unpinned {pins pl : List (Addr × Obj)} {σ : St} {H : Hp} {s : Shared} (I : Inv X (pins ++ pl) σ H s) : Inv X pins σ H s := I.pins_of fun p hp => I.pin p (List.mem_append_right _ (List.mem_append_left _ hp))
theorem ps_for {iter : Expr} {body : List Stmt} {wi : TI} {g : TG} {tb : TS} {pos : Pos} (hp : PassesOwn (model X.prog X.w) X.A X.env X.xe) (hc : X.calm = true) (hi : PI X tg iter wi) (hg : PG X tg g) (hb : PSs X body tb)
    (hs : ∀ x, foldedSetIterable iter X.env x = pure x := by intro _; rfl) : PS X (.For tg iter body [] pos) (tFor wi g tb) := by
  intro pins s σ H D I h
  refine wpAny_For (thn (hi pins s σ H _ I h) fun v s1 h1 => thn h1 fun itv s2 h2 => ?_) hs
  obtain ⟨it, fp, tn, J, H2, e, I2, T, st2, f2, W, ⟨m0, w0⟩, turn⟩ := h2
  subst e
  -- what stays true of the iterator's objects through the loop
  have stat : ∀ {H' : Hp}, (∀ b ∈ fp, H' b = none) → ∀ b ∈ fp, FpOk X pins H' b := fun hn b hb => ⟨hn b hb, (f2 b hb).2⟩
  refine codeAny_forLoop_any (fun n s' => ∃ i σ' H', Inv X pins σ' H' s' ∧ tn i s'.heap ∧ (∀ b ∈ fp, H' b = none) ∧ W i n σ' H') ?_ m0 ⟨0, σ, H2, I2, st2, fun b hb => (f2 b hb).1, w0⟩
  rintro n s3 ⟨i, σ3, H3, I3, st3, fr3, w3⟩
  rcases turn i n σ3 H3 w3 with ⟨stop, qn⟩ | ⟨go, N, hN, step⟩
  · refine wpAny_passesOwn hp (thn (T.done X rfl rfl rfl hc i pins s3 σ3 H3 X.xe I3 (stat fr3) st3 stop) fun r s4 ⟨hr, I4⟩ => ?_)
    subst hr
    exact wpAny_execs_nil ⟨σ3, H3, I4, qn⟩
  · refine wpAny_passesOwn hp (thn (T.item X rfl rfl rfl hc i pins s3 σ3 H3 X.xe I3 (stat fr3) st3 go) fun r s4 ⟨u, hr, h4⟩ => ?_)
    subst hr
    refine wpAny_passesOwn hp (thn h4 fun _ s5 ⟨x, H5, I5, r5, y5, st5, fr5⟩ => ?_)
    have I5' := I5.pinned (stat fr5) (T.obj _ _ st5)
    refine wpAny_passesOwn hp (thn (hg _ s5 σ3 H5 x u _ I5' r5 (step x H5 y5)) fun _ s6 ⟨σ6, H6, I6, q6⟩ => ?_)
    refine wpAny_passesOwn hp (thn (hb _ s6 σ6 H6 _ I6 q6) fun f s7 q7 => ?_)
    have again : ∀ {σ7 : St} {H7 : Hp}, Inv X (pins ++ pinsAt fp s5.heap) σ7 H7 s7 → N σ7 H7 → ∃ m, m < n ∧ ∃ i σ' H', Inv X pins σ' H' s7 ∧ tn i s7.heap ∧ (∀ b ∈ fp, H' b = none) ∧ W i m σ' H' := fun {σ7 H7} I7 n7 => by
      obtain ⟨m', hm, w7⟩ := hN σ7 H7 n7
      refine ⟨m', hm, i + 1, σ7, H7, I7.unpinned, T.keep _ _ _ st5 fun b hb o e => (I7.pin (b, o) (List.mem_append_right _ (List.mem_append_right _ (mem_pinsAt hb e)))).1, fun b hb => ?_, w7⟩
      obtain ⟨o, e, d⟩ := T.obj _ _ st5 b hb
      exact (I7.pin (b, o) (List.mem_append_right _ (List.mem_append_right _ (mem_pinsAt hb e)))).2.1
    cases f with
    | next => obtain ⟨σ7, H7, I7, n7⟩ := q7; exact again I7 n7
    | cont => obtain ⟨σ7, H7, I7, n7⟩ := q7; exact again I7 n7
    | brk => obtain ⟨σ7, H7, I7, q7⟩ := q7; exact ⟨σ7, H7, I7.unpinned, q7⟩
    | ret v => obtain ⟨x7, σ7, H7, I7, r7, q7⟩ := q7; exact ⟨x7, σ7, H7, I7.unpinned, r7, q7⟩
end
theorem for_range {lo : Int} {n : Nat} {g : TG} {tb : TS} {D : Ends} {σ : St} {H : Hp} (Pv : Nat → St → Hp → Prop) (h0 : Pv 0 σ H)
    (hs : ∀ i σ H, i < n → Pv i σ H → g (.int (lo + i)) σ H fun σ2 H2 => tb { D with nx := Pv (i + 1), ct := Pv (i + 1), bk := D.nx } σ2 H2) (hd : ∀ σ H, Pv n σ H → D.nx σ H) :
    ∃ W : Nat → Nat → St → Hp → Prop, (∃ m, W 0 m σ H) ∧ ∀ i m σ H, W i m σ H →
      ((Itr lo n).stop i H ∧ D.nx σ H) ∨ ((Itr lo n).go i H ∧ ∃ N : St → Hp → Prop, (∀ σ' H', N σ' H' → ∃ m', m' < m ∧ W (i + 1) m' σ' H') ∧ ∀ x H', (Itr lo n).yld i H x H' → g x σ H' fun σ2 H2 => tb { D with nx := N, ct := N, bk := D.nx } σ2 H2) := by
  refine ⟨fun i m σ H => m = n - i ∧ i ≤ n ∧ Pv i σ H, ⟨n, by simp, Nat.zero_le _, h0⟩, ?_⟩
  rintro i m σ H ⟨rfl, hi, p⟩
  by_cases hlt : i < n
  · refine .inr ⟨hlt, Pv (i + 1), fun σ' H' p' => ⟨n - (i + 1), by omega, rfl, hlt, p'⟩, fun x H' y => ?_⟩
    obtain ⟨e, y⟩ := y
    subst e y
    exact hs i σ _ hlt p
  · have e : i = n := by omega
    subst e
    exact .inl ⟨Nat.le_refl _, hd σ H p⟩
end L2
namespace L2
open PySem PySem.Spec PyProof.Rows
abbrev R2 := V → V → Hp → VK → Prop
noncomputable def OpR (X : Cx) (f : Value → Value → Sem Value) (r : R2) : Prop :=
  ∀ (pins : List (Addr × Obj)) (s : Shared) (σ : St) (H : Hp) (x y : V) (v u : Value) (Q : VK), Inv X pins σ H s → RelV x v → RelV y u → r x y H Q →
    wpAny (model X.prog X.w) X.A (f v u) (EP X pins σ Q) X.xe s
noncomputable def CallR (X : Cx) (f : Value) (r : List V → Hp → VK → Prop) : Prop :=
  ∀ (pins : List (Addr × Obj)) (s : Shared) (σ : St) (H : Hp) (xs : List V) (us : List Value) (Q : VK), Inv X pins σ H s → Vals xs us → r xs H Q →
    wpAny (model X.prog X.w) X.A (call f us) (EP X pins σ Q) X.xe s
noncomputable def TruR (X : Cx) (r : V → Hp → (Bool → Hp → Prop) → Prop) : Prop :=
  ∀ (pins : List (Addr × Obj)) (s : Shared) (σ : St) (H : Hp) (x : V) (v : Value) (Q : Bool → Hp → Prop), Inv X pins σ H s → RelV x v → r x H Q →
    wpAny (model X.prog X.w) X.A (truthy v) (TP X pins σ Q) X.xe s
noncomputable def tOp (r : R2) (ta tb : TE) : TE := fun σ H Q => ta σ H fun x H1 => tb σ H1 fun y H2 => r x y H2 Q
noncomputable def tUn (r : V → Hp → VK → Prop) (ta : TE) : TE := fun σ H Q => ta σ H fun x H1 => r x H1 Q
noncomputable def rI (C : Int → Int → Prop) (g : Int → Int → V) : R2 := fun x y H Q => ∃ i j, x = .int i ∧ y = .int j ∧ C i j ∧ Q (g i j) H
noncomputable def rI0 (g : Int → Int → V) : R2 := fun x y H Q => ∃ i j, x = .int i ∧ y = .int j ∧ Q (g i j) H
section
variable {X : Cx} {a b c : Expr} {ta tb tc : TE} {pos : Pos}
theorem binT (ha : PE X a ta) (hb : PE X b tb) {pins : List (Addr × Obj)} {s : Shared} {σ : St} {H : Hp} {R : V → V → Hp → Prop} (I : Inv X pins σ H s)
    (h : ta σ H fun x H1 => tb σ H1 fun y H2 => R x y H2) {Q : Value → Shared → Prop} {f : Value → Value → Sem Value}
    (hf : ∀ v u s2 x y H2, Inv X pins σ H2 s2 → RelV x v → RelV y u → R x y H2 → wpAny (model X.prog X.w) X.A (f v u) Q X.xe s2) :
    wpAny (model X.prog X.w) X.A (eval a X.env) (fun v s₁ => wpAny (model X.prog X.w) X.A (eval b X.env) (fun u s₂ => wpAny (model X.prog X.w) X.A (f v u) Q X.xe s₂) X.xe s₁) X.xe s := by
  refine thn (ha pins s σ H _ I h) fun v s1 ⟨x, H1, I1, r1, q1⟩ => ?_
  refine thn (hb pins s1 σ H1 _ I1 q1) fun u s2 ⟨y, H2, I2, r2, q2⟩ => ?_
  exact hf v u s2 x y H2 I2 r1 r2 q2
theorem pe_op {op : Operator} {r : R2} (ho : OpR X (binaryOp op) r) (ha : PE X a ta) (hb : PE X b tb) : PE X (.BinOp a op b pos) (tOp r ta tb) := by
  intro pins s σ H Q I h
  exact wpAny_BinOp (binT ha hb I h fun v u s2 x y H2 I2 rx ry q => ho pins s2 σ H2 x y v u Q I2 rx ry q)
theorem opI {f : Value → Value → Sem Value} {C : Int → Int → Prop} {g : Int → Int → Int}
    (rule : ∀ (i j : Int) (t u : Tok) (s : Shared) (Q : Value → Shared → Prop) (E : Value → Shared → Prop), C i j → Q (.int (g i j) s.toks) { s with toks := s.toks + 1 } → wpAny (model X.prog X.w) X.A (f (.int i t) (.int j u)) Q E s) :
    OpR X f (rI C fun i j => .int (g i j)) := by
  intro pins s σ H x y v u Q I rx ry h
  obtain ⟨i, j, rfl, rfl, hc, q⟩ := h
  obtain ⟨t, rfl⟩ := rx
  obtain ⟨t', rfl⟩ := ry
  exact rule i j t t' s _ _ hc ⟨.int (g i j), H, I.tok _, ⟨_, rfl⟩, q⟩
theorem opI0 {f : Value → Value → Sem Value} {g : Int → Int → Int}
    (rule : ∀ (i j : Int) (t u : Tok) (s : Shared) (Q : Value → Shared → Prop) (E : Value → Shared → Prop), Q (.int (g i j) s.toks) { s with toks := s.toks + 1 } → wpAny (model X.prog X.w) X.A (f (.int i t) (.int j u)) Q E s) :
    OpR X f (rI0 fun i j => .int (g i j)) := by
  intro pins s σ H x y v u Q I rx ry h
  obtain ⟨i, j, rfl, rfl, q⟩ := h
  obtain ⟨t, rfl⟩ := rx
  obtain ⟨t', rfl⟩ := ry
  exact rule i j t t' s _ _ ⟨.int (g i j), H, I.tok _, ⟨_, rfl⟩, q⟩
theorem opB0 {f : Value → Value → Sem Value} {g : Int → Int → Bool}
    (rule : ∀ (i j : Int) (t u : Tok) (s : Shared) (Q : Value → Shared → Prop) (E : Value → Shared → Prop), Q (.bool (g i j)) s → wpAny (model X.prog X.w) X.A (f (.int i t) (.int j u)) Q E s) :
    OpR X f (rI0 fun i j => .bl (g i j)) := by
  intro pins s σ H x y v u Q I rx ry h
  obtain ⟨i, j, rfl, rfl, q⟩ := h
  obtain ⟨t, rfl⟩ := rx
  obtain ⟨t', rfl⟩ := ry
  exact rule i j t t' s _ _ ⟨.bl (g i j), H, I, rfl, q⟩
noncomputable def CPow (i j : Int) : Prop := 0 ≤ j ∧ j ≤ 1000000 ∧ i.natAbs < 2 ^ 64
noncomputable def CMul (i j : Int) : Prop := (-(2 ^ 64) < i ∧ i < 2 ^ 64) ∨ (-(2 ^ 64) < j ∧ j < 2 ^ 64)
theorem CMul.ok {i j : Int} (h : CMul i j) : IntMulOk i j := by
  rcases h with ⟨h1, h2⟩ | ⟨h1, h2⟩
  · exact .of_left (intBits_le_64 h1 h2)
  · exact .of_right (intBits_le_64 h1 h2)
theorem op_add : OpR X (binaryOp .Add) (rI0 fun i j => .int (i + j)) := opI0 fun _ _ _ _ _ _ _ q => add_int q
theorem op_sub : OpR X (binaryOp .Sub) (rI0 fun i j => .int (i - j)) := opI0 fun _ _ _ _ _ _ _ q => sub_int q
theorem op_mul : OpR X (binaryOp .Mult) (rI CMul fun i j => .int (i * j)) := opI fun _ _ _ _ _ _ _ hc q => mul_int q hc.ok
theorem op_mod : OpR X (binaryOp .Mod) (rI (fun _ j => 0 < j) fun i j => .int (i % j)) := opI fun i j _ _ _ _ _ hc q => by
  have h1 : (0 : Int) < j := hc
  exact mod_int' (by omega) (by rw [Int.fmod_eq_emod_of_nonneg i (by omega)]; exact q)
theorem op_pow : OpR X (binaryOp .Pow) (rI CPow fun i j => .int (i ^ j.toNat)) := opI fun _ _ _ _ _ _ _ hc q => pow_int_small hc.1 hc.2.1 hc.2.2 q
theorem iop_add : OpR X (inplaceOp .Add) (rI0 fun i j => .int (i + j)) := opI0 fun _ _ _ _ _ _ _ q => iadd_int q
end
noncomputable def scal : V → V → Bool
  | .non, .non => true | .non, .int _ => true | .int _, .non => true | .non, .bl _ => true | .bl _, .non => true | .non, .str _ => true | .str _, .non => true
  | .int _, .int _ => true | .bl _, .bl _ => true | .str _, .str _ => true | .byt _, .byt _ => true
  | .int _, .str _ => true | .str _, .int _ => true | .bl _, .str _ => true | .str _, .bl _ => true
  | _, _ => false
noncomputable def rEq : R2 := fun x y H Q => scal x y = true ∧ Q (.bl (decide (x = y))) H
noncomputable def rNe : R2 := fun x y H Q => scal x y = true ∧ Q (.bl (!decide (x = y))) H
theorem dec_int {i j : Int} : decide (V.int i = V.int j) = (i == j) := by
  rw [Bool.eq_iff_iff]
  simp
theorem dec_bl {i j : Bool} : decide (V.bl i = V.bl j) = (i == j) := by
  rw [Bool.eq_iff_iff]
  simp
theorem dec_str {i j : Str} : decide (V.str i = V.str j) = (i == j) := by
  rw [Bool.eq_iff_iff]
  simp
theorem dec_byt {i j : Array UInt8} : decide (V.byt i = V.byt j) = (i.toList == j.toList) := by
  rw [Bool.eq_iff_iff]
  cases i
  cases j
  simp
section
variable {X : Cx} {a b c : Expr} {ta tb tc : TE} {pos : Pos}
theorem fin_bl {pins : List (Addr × Obj)} {σ : St} {H : Hp} {s : Shared} {Q : VK} {k k' : Bool} (I : Inv X pins σ H s) (q : Q (.bl k) H) (e : k = k') : EP X pins σ Q (.bool k') s := by
  subst e
  exact ⟨.bl k, H, I, rfl, q⟩
theorem op_eq : OpR X (compareOp .Eq) rEq := by
  intro pins s σ H x y v u Q I rx ry h
  obtain ⟨hs, q⟩ := h
  cases x with
  | non =>
    cases rx
    cases y with
    | non => cases ry; exact PySem.EqNone.eq_none_none (fin_bl I q (by simp))
    | bl j => cases ry; exact PySem.EqNone.eq_none_bool (fin_bl I q (by simp))
    | int j => obtain ⟨t', rfl⟩ := ry; exact PySem.EqNone.eq_none_int (fin_bl I q (by simp))
    | str j => obtain ⟨t', rfl⟩ := ry; exact PySem.EqNone.eq_none_str (fin_bl I q (by simp))
    | _ => exact absurd (show false = true from hs) Bool.false_ne_true
  | bl i =>
    cases rx
    cases y with
    | non => cases ry; exact PySem.EqNone.eq_bool_none (fin_bl I q (by simp))
    | bl j => cases ry; exact eq_bool (fin_bl I q dec_bl)
    | str j => obtain ⟨t', rfl⟩ := ry; exact PySem.EqMixed.eq_bool_str (fin_bl I q (by simp))
    | _ => exact absurd (show false = true from hs) Bool.false_ne_true
  | int i =>
    obtain ⟨t, rfl⟩ := rx
    cases y with
    | non => cases ry; exact PySem.EqNone.eq_int_none (fin_bl I q (by simp))
    | int j => obtain ⟨t', rfl⟩ := ry; exact eq_int (fin_bl I q dec_int)
    | str j => obtain ⟨t', rfl⟩ := ry; exact PySem.EqMixed.eq_int_str (fin_bl I q (by simp))
    | _ => exact absurd (show false = true from hs) Bool.false_ne_true
  | str i =>
    obtain ⟨t, rfl⟩ := rx
    cases y with
    | non => cases ry; exact PySem.EqNone.eq_str_none (fin_bl I q (by simp))
    | bl j => cases ry; exact PySem.EqMixed.eq_str_bool (fin_bl I q (by simp))
    | int j => obtain ⟨t', rfl⟩ := ry; exact PySem.EqMixed.eq_str_int (fin_bl I q (by simp))
    | str j => obtain ⟨t', rfl⟩ := ry; exact eq_str (fin_bl I q dec_str)
    | _ => exact absurd (show false = true from hs) Bool.false_ne_true
  | byt i =>
    obtain ⟨t, rfl⟩ := rx
    cases y with
    | byt j => obtain ⟨t', rfl⟩ := ry; exact PySem.W.eq_bytes (fin_bl I q dec_byt)
    | _ => exact absurd (show false = true from hs) Bool.false_ne_true
  | _ => cases y <;> exact absurd (show false = true from hs) Bool.false_ne_true
theorem op_ne : OpR X (compareOp .NotEq) rNe := by
  intro pins s σ H x y v u Q I rx ry h
  obtain ⟨hs, q⟩ := h
  cases x with
  | non =>
    cases rx
    cases y with
    | non => cases ry; exact PySem.EqNone.ne_none_none (fin_bl I q (by simp))
    | bl j => cases ry; exact PySem.EqNone.ne_none_bool (fin_bl I q (by simp))
    | int j => obtain ⟨t', rfl⟩ := ry; exact PySem.EqNone.ne_none_int (fin_bl I q (by simp))
    | str j => obtain ⟨t', rfl⟩ := ry; exact PySem.EqNone.ne_none_str (fin_bl I q (by simp))
    | _ => exact absurd (show false = true from hs) Bool.false_ne_true
  | bl i =>
    cases rx
    cases y with
    | non => cases ry; exact PySem.EqNone.ne_bool_none (fin_bl I q (by simp))
    | bl j => cases ry; exact ne_bool (fin_bl I q (congrArg not dec_bl))
    | str j => obtain ⟨t', rfl⟩ := ry; exact PySem.EqMixed.ne_bool_str (fin_bl I q (by simp))
    | _ => exact absurd (show false = true from hs) Bool.false_ne_true
  | int i =>
    obtain ⟨t, rfl⟩ := rx
    cases y with
    | non => cases ry; exact PySem.EqNone.ne_int_none (fin_bl I q (by simp))
    | int j => obtain ⟨t', rfl⟩ := ry; exact ne_int (fin_bl I q (congrArg not dec_int))
    | str j => obtain ⟨t', rfl⟩ := ry; exact PySem.EqMixed.ne_int_str (fin_bl I q (by simp))
    | _ => exact absurd (show false = true from hs) Bool.false_ne_true
  | str i =>
    obtain ⟨t, rfl⟩ := rx
    cases y with
    | non => cases ry; exact PySem.EqNone.ne_str_none (fin_bl I q (by simp))
    | bl j => cases ry; exact PySem.EqMixed.ne_str_bool (fin_bl I q (by simp))
    | int j => obtain ⟨t', rfl⟩ := ry; exact PySem.EqMixed.ne_str_int (fin_bl I q (by simp))
    | str j => obtain ⟨t', rfl⟩ := ry; exact ne_str (fin_bl I q (congrArg not dec_str))
    | _ => exact absurd (show false = true from hs) Bool.false_ne_true
  | byt i =>
    obtain ⟨t, rfl⟩ := rx
    cases y with
    | byt j => obtain ⟨t', rfl⟩ := ry; exact PySem.W.ne_bytes (fin_bl I q (congrArg not dec_byt))
    | _ => exact absurd (show false = true from hs) Bool.false_ne_true
  | _ => cases y <;> exact absurd (show false = true from hs) Bool.false_ne_true
theorem op_lt : OpR X (compareOp .Lt) (rI0 fun i j => .bl (decide (i < j))) := opB0 fun _ _ _ _ _ _ _ q => lt_int q
theorem op_gt : OpR X (compareOp .Gt) (rI0 fun i j => .bl (decide (j < i))) := opB0 fun _ _ _ _ _ _ _ q => gt_int q
theorem op_lt_str : OpR X (compareOp .Lt) (fun x y H Q => ∃ i j, x = .str i ∧ y = .str j ∧ Q (.bl (decide (i.cps.toList < j.cps.toList))) H) := by
  intro pins s σ H x y v u Q I rx ry h
  obtain ⟨i, j, rfl, rfl, q⟩ := h
  obtain ⟨t, rfl⟩ := rx
  obtain ⟨t', rfl⟩ := ry
  exact lt_str (fin_bl I q rfl)
theorem OpR.or {f : Value → Value → Sem Value} {r r' : R2} (h : OpR X f r) (h' : OpR X f r') : OpR X f (fun x y H Q => r x y H Q ∨ r' x y H Q) := by
  intro pins s σ H x y v u Q I rx ry q
  rcases q with q | q
  · exact h pins s σ H x y v u Q I rx ry q
  · exact h' pins s σ H x y v u Q I rx ry q
theorem nomark (b : Expr) {op : CmpOp} (h : op ≠ .In := by decide) (h2 : op ≠ .NotIn := by decide) : behindInMarks op b = false := by
  have e1 : (op == CmpOp.In) = false := by cases op <;> first | rfl | exact absurd rfl h
  have e2 : (op == CmpOp.NotIn) = false := by cases op <;> first | rfl | exact absurd rfl h2
  cases b <;> simp [behindInMarks, e1, e2]
theorem pe_cmpR {op : CmpOp} {r : R2} (ho : OpR X (compareOp op) r) (ha : PE X a ta) (hb : PE X b tb) (hm : behindInMarks op b = false) : PE X (.Compare a [op] [b] pos) (tOp r ta tb) := by
  intro pins s σ H Q I h
  exact wpAny_Compare1 (binT ha hb I h fun v u s2 x y H2 I2 rx ry q => ho pins s2 σ H2 x y v u Q I2 rx ry q) hm
noncomputable def TruV (K : PySem.W.Frag) (x : V) (H : Hp) (k : Bool) : Prop :=
  match x with
  | .non => k = false
  | .bl b => k = b
  | .int i => k = (i != 0)
  | .str y => y.length ≤ sizeLine ∧ k = ((y.length : Int) != 0)
  | .byt y => y.size ≤ sizeLine ∧ k = ((y.size : Int) != 0)
  | .ref p => (∃ xs, SqL K H p xs ∧ k = !xs.isEmpty) ∨ (∃ xs, SqT K H p xs ∧ k = !xs.isEmpty) ∨ ∃ kvs, H p = some (.dK kvs) ∧ k = !kvs.isEmpty
  | _ => False
theorem isEmpty_kv {κ : Type} {kvs : List (κ × V)} {vs : List (κ × Value)} (r : KV kvs vs) : (!vs.isEmpty) = !kvs.isEmpty := by
  cases r <;> rfl
theorem isEmpty_of {xs : List V} {its : List Value} (r : Vals xs its) : (!its.toArray.isEmpty) = !xs.isEmpty := by
  cases r <;> simp
theorem line63 : (sizeLine : Nat) < 2 ^ 63 := by rw [sizeLine_eq]; decide
theorem tru_ok : TruR X (fun x H Q => ∃ k, TruV X.K x H k ∧ Q k H) := by
  intro pins s σ H x v Q I rx h
  obtain ⟨k, e, q⟩ := h
  have hl := line63
  have hs : sizeLine = 16777216 := sizeLine_eq
  cases x with
  | non =>
    cases rx
    have e' : k = false := e
    subst e'
    exact truthy_none ⟨H, I, q⟩
  | bl b =>
    cases rx
    have e' : k = b := e
    subst e'
    exact wpAny_truthy_bool ⟨H, I, q⟩
  | int i =>
    obtain ⟨t, rfl⟩ := rx
    have e' : k = (i != 0) := e
    subst e'
    exact PySem.P.truthy_int ⟨H, I, q⟩
  | str y =>
    obtain ⟨t, rfl⟩ := rx
    obtain ⟨hy, e'⟩ : y.length ≤ sizeLine ∧ k = ((y.length : Int) != 0) := e
    subst e'
    exact PySem.P.truthy_str (by omega) ⟨H, I.tok _, q⟩
  | byt y =>
    obtain ⟨t, rfl⟩ := rx
    obtain ⟨hy, e'⟩ : y.size ≤ sizeLine ∧ k = ((y.size : Int) != 0) := e
    subst e'
    exact PySem.W.truthy_bytes (by omega) ⟨H, I.tok _, q⟩
  | ref p =>
    cases rx
    have e' : (∃ xs, SqL X.K H p xs ∧ k = !xs.isEmpty) ∨ (∃ xs, SqT X.K H p xs ∧ k = !xs.isEmpty) ∨ ∃ kvs, H p = some (.dK kvs) ∧ k = !kvs.isEmpty := e
    rcases e' with ⟨xs, hx, e'⟩ | ⟨xs, hx, e'⟩ | ⟨kvs, hx, e'⟩
    · subst e'
      obtain ⟨its, r, pl, hz⟩ := I.list hx
      have hlen := r.length
      exact wpAny_truthy_list pl.isList (by simp only [List.size_toArray]; omega) ⟨H, I.tok _, by rw [isEmpty_of r]; exact q⟩
    · subst e'
      obtain ⟨its, r, pl, hz⟩ := I.tuple hx
      have hlen := r.length
      exact truthy_tuple pl (by simp only [List.size_toArray]; omega) ⟨H, I.tok _, by rw [isEmpty_of r]; exact q⟩
    · subst e'
      obtain ⟨hz, hS, vs, r, m⟩ : kvs.length ≤ sizeLine ∧ (p == sysModules) = false ∧ ∃ vs, KV kvs vs ∧ s.heap.DictOf (mixKind X.prog X.w) p vs := I.hok p _ hx
      have hlen : kvs.length = vs.length := Paired.length r
      exact wpAny_truthy_dict hS m (by omega) ⟨H, I.tok _, by rw [isEmpty_kv r]; exact q⟩
  | _ => exact (show False from e).elim
theorem op_add_str : OpR X (binaryOp .Add) (fun x y H Q => ∃ i j, x = .str i ∧ y = .str j ∧ i.length + j.length ≤ sizeLine ∧ Q (.str (i ++ j)) H) := by
  intro pins s σ H x y v u Q I rx ry h
  obtain ⟨i, j, rfl, rfl, hz, q⟩ := h
  obtain ⟨t, rfl⟩ := rx
  obtain ⟨t', rfl⟩ := ry
  exact add_str (fun t' tk => ⟨.str (i ++ j), H, I.tok _, ⟨_, rfl⟩, q⟩) hz
theorem iop_add_str : OpR X (inplaceOp .Add) (fun x y H Q => ∃ i j, x = .str i ∧ y = .str j ∧ i.length + j.length ≤ sizeLine ∧ Q (.str (i ++ j)) H) := by
  intro pins s σ H x y v u Q I rx ry h
  obtain ⟨i, j, rfl, rfl, hz, q⟩ := h
  obtain ⟨t, rfl⟩ := rx
  obtain ⟨t', rfl⟩ := ry
  exact iadd_str (fun t' tk => ⟨.str (i ++ j), H, I.tok _, ⟨_, rfl⟩, q⟩) hz
theorem vals1 {x : V} {us : List Value} (r : Vals [x] us) : ∃ u, us = [u] ∧ RelV x u := by
  cases r with
  | cons r1 r2 => cases r2; exact ⟨_, rfl, r1⟩
theorem vals2 {x y : V} {us : List Value} (r : Vals [x, y] us) : ∃ u w', us = [u, w'] ∧ RelV x u ∧ RelV y w' := by
  cases r with
  | cons r1 r2 =>
    cases r2 with
    | cons r3 r4 => cases r4; exact ⟨_, _, rfl, r1, r3⟩
theorem call_max2 (hc : X.calm = true) : CallR X (.builtin "max") (fun xs H Q => ∃ i j, xs = [.int i, .int j] ∧ Q (.int (if j > i then j else i)) H) := by
  intro pins s σ H xs us Q I r h
  obtain ⟨i, j, rfl, q⟩ := h
  obtain ⟨u, w', rfl, ⟨t, rfl⟩, ⟨t', rfl⟩⟩ := vals2 r
  refine max_two_ints (I.ok.hd hc) fun h' tk k => ⟨_, H, I.kept k, ?_, q⟩
  by_cases hj : j > i
  · rw [if_pos hj, if_pos hj]; exact ⟨_, rfl⟩
  · rw [if_neg hj, if_neg hj]; exact ⟨_, rfl⟩
theorem call_ord : CallR X (.builtin "ord") (fun xs H Q => ∃ x, xs = [.str x] ∧ x.length = 1 ∧ Q (.int (x.cps.getD 0 0 : Nat)) H) := by
  intro pins s σ H xs us Q I r h
  obtain ⟨x, rfl, hz, q⟩ := h
  obtain ⟨u, rfl, t, rfl⟩ := vals1 r
  exact ord_of_one hz ⟨.int _, H, I.tok _, ⟨_, rfl⟩, q⟩
end
end L2
namespace L2
open PySem PySem.Spec PyProof.Rows
structure ObjM (h : Heap) (x dx C : Addr) (mA : Str → Option Value) : Prop where
  obj : h.get? x = some (PySem.W.instObj C dx)
  ns : h.Ns1 dx mA
  ne : dx ≠ x
theorem lookIn_ns {h : Heap} {dx : Addr} {mA : Str → Option Value} (n : h.Ns1 dx mA) : ∃ od, h.get? dx = some od ∧ ∀ name, PySem.W.lookIn name od = some (mA name) := by
  obtain ⟨o, es, ep, ho, hd, hk, _, hm⟩ := n
  refine ⟨o, ho, fun name => ?_⟩
  have e := hm name
  unfold nsFind findBy at e
  rw [← Array.find?_toList] at e
  unfold PySem.W.lookIn
  rw [hd]
  dsimp only
  split
  · rename_i y q
    rw [q] at e
    exact congrArg some e
  · rename_i q
    rw [q] at e
    have a : es.toList.any (·.refKey) = false := by
      rw [List.any_eq_false]
      intro y hy
      obtain ⟨z, t, hkey⟩ := hk y (Array.mem_toList_iff.mp hy)
      simp [DictEntry.refKey, hkey]
    have a' : ¬ es.toList.any (·.refKey) = true := by rw [a]; exact Bool.false_ne_true
    rw [if_neg a']
    exact congrArg some e
theorem ObjM.look {h : Heap} {x dx C : Addr} {mA : Str → Option Value} (I : ObjM h x dx C mA) : ∃ od, PySem.W.InstAt h x (PySem.W.instObj C dx) C (some od) ∧ ∀ name, PySem.W.lookIn name od = some (mA name) :=
  let ⟨od, ho, hl⟩ := lookIn_ns I.ns
  ⟨od, ⟨I.obj, rfl, rfl, ho⟩, hl⟩
section
variable {prog : Program} {w : World} {A : Around} {E : Value → Shared → Prop} {s : Shared} {K : PySem.W.Frag} {x dx C f : Addr} {mA : Str → Option Value} {name : Str} {v : Value}
end
section
variable {P : Program} {w : World} {H H' : Hp} {h h' : Heap} {a C dx : Addr} {fs fs' : List (Str × V)}
theorem ins_get (hok : HOk P w H h) (e : H a = some (.ins C dx fs)) : ∃ mA, ObjM h a dx C mA ∧ (∀ f, RelO (fs.lookup f) (mA f)) ∧ PySem.Within mA (fs.map (·.1)) ∧ fs.length ≤ 1000 ∧ H dx = some (.own a) := by
  obtain ⟨d, z, ne, ob, mA, n, r, q⟩ := (show ObjOk P w H h a (.ins C dx fs) from hok a _ e)
  exact ⟨mA, ⟨ob, n, ne⟩, r, q, z, d⟩
end
structure Cls (K : PySem.W.Frag) (C : Addr) : Prop where
  pg : PySem.W.plainGet K C Str.empty = true
  hd : PySem.W.hasDictIn K C = true
  po : PySem.W.plainOver K C = true
  sa : PySem.W.findIn K (.ref C) "__setattr__" = some (some (.builtin "object.__setattr__"))
theorem Cls.get {K : PySem.W.Frag} {C : Addr} (c : Cls K C) (f : Str) : PySem.W.plainGet K C f = true := c.pg
structure Con (K : PySem.W.Frag) (C : Addr) (f : Str) (v : V) (u : Value) : Prop where
  at_ : PySem.W.findIn K (.ref C) f = some (some u)
  rel : RelV v u
  get : PySem.W.specialIn K u "__get__" = some none
  cp : PySem.W.copiedNames.contains f = false
structure Meth (K : PySem.W.Frag) (C : Addr) (m : Str) (f : Addr) : Prop where
  at_ : PySem.W.findIn K (.ref C) m = some (some (.ref f))
  fn : PySem.W.isFn K (.ref f) = true
  kp : PySem.W.keepIn K (.ref f) = true
section
variable {X : Cx} {pins : List (Addr × Obj)} {σ : St} {H : Hp} {s : Shared} {a C dx : Addr} {fs : List (Str × V)} {f : Str} {v : V} {A : Around} {E : Value → Shared → Prop}
theorem Inv.made (I : Inv X pins σ H s) : Inv X pins σ (upd (upd H s.heap.objs.size (.own (s.heap.objs.size + 1))) (s.heap.objs.size + 1) (.ins C s.heap.objs.size []))
    { s with heap := (s.heap.push PySem.W.emptyDict).push (PySem.W.instObj C s.heap.objs.size) } := by
  have e1 : (s.heap.push PySem.W.emptyDict).get? s.heap.objs.size = some PySem.W.emptyDict := Heap.get?_push_size s.heap rfl
  have e2 : ((s.heap.push PySem.W.emptyDict).push (PySem.W.instObj C s.heap.objs.size)).get? (s.heap.objs.size + 1) = some (PySem.W.instObj C s.heap.objs.size) := by
    have := Heap.get?_push_size (s.heap.push PySem.W.emptyDict) (o := PySem.W.instObj C s.heap.objs.size) rfl
    rwa [Heap.size_push] at this
  have e3 : (s.heap.push PySem.W.emptyDict).Ns s.heap.objs.size (fun _ => none) := ⟨PySem.W.emptyDict, #[], _, e1, rfl, (fun e he => absurd he (by simp)), fun _ => rfl⟩
  have I1 := I.laid (a := s.heap.objs.size) (o := .own (s.heap.objs.size + 1)) (h' := s.heap.push PySem.W.emptyDict) (t' := s.toks) (fun b u q => Heap.get?_push_of_some _ q) (Nat.le_refl _) ⟨_, e1⟩
  refine I1.laid (a := s.heap.objs.size + 1) (o := .ins C s.heap.objs.size []) (t' := s.toks) (fun b u q => Heap.get?_push_of_some _ q) (Nat.le_of_eq (Heap.size_push _ _)) ?_
  have ne : s.heap.objs.size ≠ s.heap.objs.size + 1 := Nat.ne_of_lt (Nat.lt_succ_self _)
  refine ⟨by rw [upd_ne ne, upd_same], Nat.zero_le _, ne, e2, fun _ => none, (Heap.Ns1.of_empty e3).at fun o q => Heap.get?_push_of_some _ q, fun _ => True.intro, fun y hy => absurd rfl hy⟩
end
section
variable {X : Cx} {o e value : Expr} {f : Str} {pos pos' tpos : Pos} {ta tv : TE}
end
section
variable {X : Cx} {pins : List (Addr × Obj)} {σ : St} {H : Hp} {s : Shared} {A : Around} {E : Value → Shared → Prop} {Q : Value → Shared → Prop} {c : Value} {b : Bool}
inductive TyOf (K : PySem.W.Frag) (H : Hp) : V → Value → Prop where
  | non : TyOf K H .non (.type "NoneType")
  | bl (x : Bool) : TyOf K H (.bl x) (.type "bool")
  | int (i : Int) : TyOf K H (.int i) (.type "int")
  | str (x : Str) : TyOf K H (.str x) (.type "str")
  | flt (x : UInt64) : TyOf K H (.flt x) (.type "float")
  | lst {a : Addr} {xs : List V} (e : H a = some (.lst xs)) : TyOf K H (.ref a) (.type "list")
  | frz {a : Addr} {o : Obj} {xs : List V} (e : H a = some (.frz o (.lst xs))) : TyOf K H (.ref a) (.type "list")
  | tup {a : Addr} {xs : List V} (e : H a = some (.tup xs)) : TyOf K H (.ref a) (.type "tuple")
  | dK {a : Addr} {kvs : List (Key × V)} (e : H a = some (.dK kvs)) : TyOf K H (.ref a) (.type "dict")
  | dT {a : Addr} {kvs : List (List Key × V)} (e : H a = some (.dT kvs)) : TyOf K H (.ref a) (.type "dict")
  | ins {a C dx : Addr} {fs : List (Str × V)} (e : H a = some (.ins C dx fs)) (cl : Cls K C) (ha : PySem.W.findIn K (.ref C) "__class__" = some (some (.builtin "object.__class__")))
      (hn : PySem.W.specialIn K (.builtin "object.__class__") "__get__" = some (some (.builtin "getset_descriptor.__get__"))) (htk : PySem.W.takesIn K (.builtin "object.__class__") = some true)
      (hm : PySem.W.mroIn K C (.type "object") = some true) : TyOf K H (.ref a) (.ref C)
theorem isinst_ok {x : V} {u t : Value} (I : Inv X pins σ H s) (rx : RelV x u) (ty : TyOf X.K H x t) (e : PySem.W.kitOne X.K t c = some b) (h : ∀ tk, Q (.bool b) { s with toks := tk }) :
    wpAny (model X.prog X.w) A (call (.builtin "isinstance") [u, c]) Q E s := by
  cases ty with
  | non => cases (show u = Value.none from rx); exact PySem.W.kia_one PySem.W.kitx_none I.kIn True.intro e (fun z => nomatch z) h
  | bl y => cases (show u = Value.bool y from rx); exact PySem.W.kia_one PySem.W.kitx_bool I.kIn True.intro e (fun z => nomatch z) h
  | int i => obtain ⟨t, q⟩ := (show ∃ t, u = Value.int i t from rx); cases q; exact PySem.W.kia_one PySem.W.kitx_int I.kIn True.intro e (fun z => nomatch z) h
  | str y => obtain ⟨t, q⟩ := (show ∃ t, u = Value.str y t from rx); cases q; exact PySem.W.kia_one PySem.W.kitx_str I.kIn True.intro e (fun z => nomatch z) h
  | flt y => obtain ⟨t, q⟩ := (show ∃ t, u = Value.float y t from rx); cases q; exact PySem.W.kia_one PySem.W.kitx_float I.kIn True.intro e (fun z => nomatch z) h
  | @lst a xs ea =>
    cases (show u = Value.ref a from rx)
    obtain ⟨_, _, n, _, h1⟩ := (show ObjOk X.prog X.w H s.heap a (.lst xs) from I.hok a _ ea)
    exact PySem.W.kia_one PySem.W.kitx_list I.kIn ⟨_, h1, rfl⟩ e (fun z => nomatch z) h
  | @frz a ob xs ea =>
    cases (show u = Value.ref a from rx)
    obtain ⟨_, _, _, n, _, h1⟩ := (show ObjOk X.prog X.w H s.heap a (.frz ob (.lst xs)) from I.hok a _ ea)
    exact PySem.W.kia_one PySem.W.kitx_list I.kIn ⟨_, h1, rfl⟩ e (fun z => nomatch z) h
  | @tup a xs ea =>
    cases (show u = Value.ref a from rx)
    obtain ⟨_, _, _, p⟩ := (show ObjOk X.prog X.w H s.heap a (.tup xs) from I.hok a _ ea)
    obtain ⟨o, h1, h2, _⟩ := p
    exact PySem.W.kia_one PySem.W.kitx_tuple I.kIn ⟨o, h1, h2⟩ e (fun z => nomatch z) h
  | @dK a kvs ea =>
    cases (show u = Value.ref a from rx)
    obtain ⟨_, _, vs, _, p⟩ := (show ObjOk X.prog X.w H s.heap a (.dK kvs) from I.hok a _ ea)
    obtain ⟨o, es, ep, h1, h2, _⟩ := p
    exact PySem.W.kia_one PySem.W.kitx_dict I.kIn ⟨o, h1, h2.1⟩ e (fun z => nomatch z) h
  | @dT a kvs ea => exact False.elim (show ObjOk X.prog X.w H s.heap a (.dT kvs) from I.hok a _ ea)
  | @ins a C dx fs ea cl ha hn htk hm =>
    cases (show u = Value.ref a from rx)
    obtain ⟨mA, O, _⟩ := ins_get I.hok ea
    obtain ⟨od, J, _⟩ := O.look
    exact PySem.W.kia_one (PySem.W.kitx_own (cl.get _) cl.hd ha hn htk hm) I.kIn J e (fun z => nomatch z) h
end
end L2
namespace L2
open PySem PySem.Spec PyProof.Rows
structure Room (k : Nat) (A : Around) : Prop where
  hd : A.handled = none
  dp : A.depth + 3 * k + 5 < recursionLimit
  un : A.units + 16 * k + 200 < cLine
theorem Room.mono {j k : Nat} {A : Around} (r : Room k A) (h : j ≤ k) : Room j A := ⟨r.hd, by have := r.dp; omega, by have := r.un; omega⟩
theorem Room.deeper {k : Nat} {A : Around} (r : Room (k + 1) A) (env : Env) : Room k (A.deeper env) :=
  ⟨r.hd, by have := r.dp; show A.depth + 1 + 3 * k + 5 < _; omega, by have := r.un; show A.units + 3 + 16 * k + 200 < _; omega⟩
theorem Room.in1 {k : Nat} {A : Around} (r : Room (k + 1) A) : Room k A.in1 :=
  ⟨r.hd, by have := r.dp; show A.depth + 3 * k + 5 < _; omega, by have := r.un; show A.units + 1 + 16 * k + 200 < _; omega⟩
theorem Room.depth {k : Nat} {A : Around} (r : Room k A) : A.depth < recursionLimit := by have := r.dp; omega
theorem Room.units {k : Nat} {A : Around} (r : Room k A) : A.units + 64 < cLine := by have := r.un; omega
noncomputable def tNil : TA := fun _ H Q => Q [] H
noncomputable def tCons (ta : TE) (tr : TA) : TA := fun σ H Q => ta σ H fun x H1 => tr σ H1 fun xs H2 => Q (x :: xs) H2
section
variable {X : Cx} {e : Expr} {es : List Expr} {te : TE} {t : TA} {pos : Pos}
theorem pa_nil : PA X [] tNil := fun _ _ _ _ H Q I h => Calls.spliced_nil ⟨[], H, I, .nil, h⟩
theorem pa_cons (ha : PE X e te) (hr : PA X es t) (hs : starEach (e :: es) X.env = (false, eval e X.env) :: starEach es X.env := by rfl) : PA X (e :: es) (tCons te t) := by
  intro pos pins s σ H Q I h
  rw [hs]
  show wpAny _ _ (spliced ((false, eval e X.env) :: backTo pos (starEach es X.env))) _ _ s
  refine Calls.spliced_cons (thn (ha pins s σ H _ I h) fun u s1 ⟨x, H1, I1, r1, q1⟩ => ?_)
  exact thn (hr pos pins s1 σ H1 _ I1 q1) fun us s2 ⟨xs, H2, I2, r2, q2⟩ => ⟨x :: xs, H2, I2, .cons r1 r2, q2⟩
noncomputable def tTup (t : TA) : TE := fun σ H Q => t σ H fun xs H1 => xs.length ≤ sizeLine ∧ ∀ p, H1 p = none → Q (.ref p) (upd H1 p (.tup xs))
noncomputable def tLst (t : TA) : TE := fun σ H Q => t σ H fun xs H1 => xs.length ≤ sizeLine ∧ ∀ p, H1 p = none → Q (.ref p) (upd H1 p (.lst xs))
theorem pe_tup {x1} (h : PA X es t) : PE X (.Tuple es x1 pos) (tTup t) := by
  intro pins s σ H Q I hq
  refine wpAny_Tuple_spliced (thn (h pos pins s σ H _ I hq) fun us s1 ⟨xs, H1, I1, r, z, q⟩ => ⟨by rw [← r.length]; exact z, ?_⟩)
  have hf : H1 s1.heap.objs.size = none := I1.hok.fresh (Nat.le_refl _)
  refine ⟨.ref s1.heap.objs.size, upd H1 s1.heap.objs.size (.tup xs), I1.laid (t' := s1.toks) (fun b u e => Heap.get?_push_of_some _ e) (Nat.le_refl _) ?_, rfl, q _ hf⟩
  exact ⟨z, us, r, ⟨_, Heap.get?_push_size _ rfl, rfl, _, rfl⟩⟩
end
abbrev Sp := List V → Hp → VK → XK → Prop
abbrev CXT := List Env → Hp → Shared → XK → Value → Shared → Prop
structure Env0 (P : Program) (w : World) (K : PySem.W.Frag) (mg : Str → Option Value) (base : Heap) (A : Around) (outer : List Env) (s : Shared) (H : Hp) : Prop where
  frames : A.frames = some outer
  mod : Mod K mg base
  bs : ∀ b o, base.get? b = some o → s.heap.get? b = some o ∧ H b = none
  bsz : base.objs.size ≤ s.heap.objs.size
  funs : s.heap.FunFrames base outer
  frf : ∀ b ∈ frs outer, H b = none
  hok : HOk P w H s.heap
  bare : AllBare s.gens
noncomputable def CE (outer : List Env) (P : Program) (w : World) (H : Hp) (s : Shared) (Q : VK) (u : Value) (s' : Shared) : Prop :=
  ∃ v H', s'.os = s.os ∧ AllBare s'.gens ∧ Un (frs outer) [] H H' s.heap s'.heap ∧ HOk P w H' s'.heap ∧ RelV v u ∧ Q v H'
noncomputable def CR (CX : CXT) (outer : List Env) (P : Program) (w : World) (H : Hp) (s : Shared) (Q : VK) (E : XK) (r : Result) (s' : Shared) : Prop :=
  match r with
  | .ok (.ret u) => CE outer P w H s Q u s'
  | .ok _ => False
  | .error e => CX outer H s E e s'
structure FnOk (P : Program) (w : World) (K : PySem.W.Frag) (mg : Str → Option Value) (base : Heap) (CX : CXT) (k : Nat) (f : Addr) (fd : FuncData) (ps : List Str) (sp : Sp) : Prop where
  len : ∀ vs H Q E, sp vs H Q E → vs.length = ps.length
  run : ∀ (A : Around) (outer : List Env) (s : Shared) (H : Hp) (args : Args) (us : List Value) (vs : List V) (Q : VK) (E : XK), Room k A → Env0 P w K mg base A outer s H → BindsTo s fd args (ps.zip us) → Vals vs us → sp vs H Q E →
    codeAny (model P w) A (.call (.ref f) args) (CR CX outer P w H s Q E) s
theorem FnOk.mono {P : Program} {w : World} {K : PySem.W.Frag} {mg : Str → Option Value} {base : Heap} {CX : CXT} {j k : Nat} {f : Addr} {fd : FuncData} {ps : List Str} {sp : Sp} (F : FnOk P w K mg base CX j f fd ps sp) (h : j ≤ k) :
    FnOk P w K mg base CX k f fd ps sp := ⟨F.len, fun A outer s H args us vs Q E hr => F.run A outer s H args us vs Q E (hr.mono h)⟩
theorem FnOk.imp {P : Program} {w : World} {K : PySem.W.Frag} {mg : Str → Option Value} {base : Heap} {CX : CXT} {k : Nat} {f : Addr} {fd : FuncData} {ps : List Str} {sp sp' : Sp} (F : FnOk P w K mg base CX k f fd ps sp)
    (h : ∀ vs H Q E, sp' vs H Q E → sp vs H Q E) : FnOk P w K mg base CX k f fd ps sp' :=
  ⟨fun vs H Q E q => F.len vs H Q E (h _ _ _ _ q), fun A outer s H args us vs Q E hr he hb hv hs => F.run A outer s H args us vs Q E hr he hb hv (h _ _ _ _ hs)⟩
theorem Env0.in1 {P : Program} {w : World} {K : PySem.W.Frag} {mg : Str → Option Value} {base : Heap} {A : Around} {outer : List Env} {s : Shared} {H : Hp} (e : Env0 P w K mg base A outer s H) :
    Env0 P w K mg base A.in1 outer s H := ⟨e.frames, e.mod, e.bs, e.bsz, e.funs, e.frf, e.hok, e.bare⟩
section
variable {X : Cx} {pins : List (Addr × Obj)} {σ : St} {H : Hp} {s s' : Shared}
theorem Inv.env0 (I : Inv X pins σ H s) : Env0 X.prog X.w X.K X.mg X.base X.A X.stack s H :=
  ⟨I.ok.frames, I.ok.mod, I.bs, Nat.le_trans I.ok.bsz I.sz, I.stack, I.stkFree, I.hok, I.bare⟩
theorem Inv.after {Q : VK} {u : Value} (I : Inv X pins σ H s) (h : CE X.stack X.prog X.w H s Q u s') : EP X pins σ Q u s' := by
  obtain ⟨v, H', os, bare, un, hok, r, q⟩ := h
  obtain ⟨hh, g, d, t, os'⟩ := s'
  obtain rfl : os' = s.os := os
  exact ⟨v, H', I.call (h' := hh) (g' := g) (d' := d) (t' := t) (ch := []) un hok bare (fun b z => absurd z (by simp)), r, q⟩
end
noncomputable def tCall (sp : Sp) (dvs : List V) (E : XK) (t : TA) : TE := fun σ H Q => t σ H fun vs H1 => sp (vs ++ dvs) H1 Q E
noncomputable def Binds (K : PySem.W.Frag) (fd : FuncData) (ps : List Str) (ds : List Value) : Prop :=
  ∀ (s : Shared) (us : List Value), K.In s.heap → (us ++ ds).length = ps.length → BindsTo s fd ⟨us, []⟩ (ps.zip (us ++ ds))
theorem Binds.all {K : PySem.W.Frag} {fd : FuncData} {ps : List Str} (h : ∀ us : List Value, us.length = ps.length → bindArgs fd ⟨us, []⟩ = pure (ps.zip us)) : Binds K fd ps [] := fun s us _ hl => by
  rw [List.append_nil] at hl ⊢
  exact .of_eq (h us hl)
noncomputable def Passes (CX : CXT) (X : Cx) (E : XK) : Prop := ∀ (pins : List (Addr × Obj)) (σ : St) (H : Hp) (s : Shared) (e : Value) (s' : Shared), Inv X pins σ H s → CX X.stack H s E e s' → X.xe e s'
section
variable {X : Cx} {CX : CXT} {k : Nat} {f C : Addr} {fd : FuncData} {ps : List Str} {sp : Sp} {dvs : List V} {ds : List Value} {E : XK} {x m : Str} {p pos apos : Pos} {e o : Expr} {es : List Expr} {ta : TE} {t : TA}
theorem run_fn {pins : List (Addr × Obj)} {σ : St} {H : Hp} {s : Shared} {Q : VK} {us : List Value} {vs : List V} (F : FnOk X.prog X.w X.K X.mg X.base CX k f fd ps sp) (hr : Room k X.A) (hb : Binds X.K fd ps ds) (hd : Vals dvs ds) (hx : Passes CX X E)
    (I : Inv X pins σ H s) (r : Vals vs us) (h : sp (vs ++ dvs) H Q E) : wpAny (model X.prog X.w) X.A (call (.ref f) us) (EP X pins σ Q) X.xe s := by
  have r2 : Vals (vs ++ dvs) (us ++ ds) := r.append hd
  have hl : (us ++ ds).length = ps.length := by rw [← r2.length]; exact F.len _ _ _ _ h
  refine wpAny_call (codeAny_mono (F.run X.A X.stack s H ⟨us, []⟩ (us ++ ds) (vs ++ dvs) Q E hr I.env0 (hb s us I.kIn hl) r2 h) fun r s' hq => ?_)
  cases r with
  | error e => exact hx pins σ H s e s' I hq
  | ok fl =>
    cases fl with
    | ret u => exact I.after hq
    | next => exact False.elim hq
    | brk => exact False.elim hq
    | cont => exact False.elim hq
theorem pe_call (F : FnOk X.prog X.w X.K X.mg X.base CX k f fd ps sp) (hr : Room k X.A) (hg : Gl X x) (hm : X.mg x = some (.ref f)) (hk : PySem.W.keepIn X.K (.ref f) = true) (hb : Binds X.K fd ps ds) (hd : Vals dvs ds) (hx : Passes CX X E)
    (ha : PA X (e :: es) t) (hdb : (x == ("__debug__" : Str)) = false := by decide) (he : starEach (e :: es) X.env = (false, eval e X.env) :: starEach es X.env := by rfl) (hpl : (backTo pos (starEach es X.env)).any (·.1) = false := by rfl) :
    PE X (.Call (.Name x p) (e :: es) [] pos) (tCall sp dvs E t) := by
  intro pins s σ H Q I h
  refine wpAny_Call_Name_kw (ld_glob I hg hm ?_ hdb)
  refine PySem.W.callWith_K (h₀ := X.base) I.ok.mod.kin hk (thn (ha pos pins s σ H _ I h) fun us s1 ⟨vs, H1, I1, r, q⟩ => ⟨I1.kIn, ?_⟩) he hpl
  exact run_fn F hr hb hd hx I1 r q
theorem pe_call0 (F : FnOk X.prog X.w X.K X.mg X.base CX k f fd ps sp) (hr : Room k X.A) (hg : Gl X x) (hm : X.mg x = some (.ref f)) (hk : PySem.W.keepIn X.K (.ref f) = true) (hb : Binds X.K fd ps ds) (hd : Vals dvs ds) (hx : Passes CX X E)
    (hdb : (x == ("__debug__" : Str)) = false := by decide) : PE X (.Call (.Name x p) [] [] pos) (tCall sp dvs E tNil) := by
  intro pins s σ H Q I h
  refine wpAny_Call_Name_kw (ld_glob I hg hm ?_ hdb)
  exact PySem.W.callWith_K0 I.kIn hk (run_fn (us := []) F hr hb hd hx I .nil h)
structure Mk (K : PySem.W.Frag) (C f : Addr) : Prop where
  makes : PySem.W.makesIn K C = true
  init : PySem.W.findIn K (.ref C) "__init__" = some (some (.ref f))
  fn : PySem.W.isFn K (.ref f) = true
  kp : PySem.W.keepIn K (.ref C) = true
end
section
variable {X : Cx} {CX : CXT} {k : Nat} {f C : Addr} {fd : FuncData} {ps ks : List Str} {sp : Sp} {E : XK} {x m : Str} {p pos apos kpos : Pos} {e o : Expr} {es : List Expr} {kws : List Keyword} {te ta : TE} {t tk : TA} {nm : Option Str}
structure KBinds (K : PySem.W.Frag) (fd : FuncData) (ps ks : List Str) (g : List Value → List Value → List Value) (gV : List V → List V → List V) : Prop where
  to : ∀ (s : Shared) (us ws : List Value), K.In s.heap → (g us ws).length = ps.length → BindsTo s fd ⟨us, ks.zip ws⟩ (ps.zip (g us ws))
  rel : ∀ {vs : List V} {us : List Value} {zs : List V} {ws : List Value}, Vals vs us → Vals zs ws → Vals (gV vs zs) (g us ws)
variable {g : List Value → List Value → List Value} {gV : List V → List V → List V}
end
structure FnScope (N P : List Str) (sc : Scope) : Prop where
  kind : sc.kind = .function
  co : sc.isCoroutine = false
  gen : sc.isGenerator = false
  nd : N.Nodup
  pre : N.take P.length = P
  par : ∀ x ∈ P, sc.names.lookup x = some .local ∨ sc.names.lookup x = some .cell
  nofree : ∀ y ∈ sc.names, y.2 ≠ .free
theorem bindL_out {kindOf : Str → Option NameKind} {x : Str} : ∀ {binds : List (Str × Value)} {m : Str → Option Value}, (∀ v, (x, v) ∉ binds) → bindL kindOf binds m x = m x
  | [], _, _ => rfl
  | (n, v) :: r, m, h => by
    unfold bindL
    rw [bindL_out fun w hw => h w (List.mem_cons_of_mem _ hw)]
    split
    · have : x ≠ n := by rintro rfl; exact h v List.mem_cons_self
      simp [this]
    · rfl
theorem bindC_out {kindOf : Str → Option NameKind} {x : Str} : ∀ {binds : List (Str × Value)} {m : Str → Option Value}, (∀ v, (x, v) ∉ binds) → bindC kindOf binds m x = m x
  | [], _, _ => rfl
  | (n, v) :: r, m, h => by
    unfold bindC
    rw [bindC_out fun w hw => h w (List.mem_cons_of_mem _ hw)]
    split
    · rfl
    · have : x ≠ n := by rintro rfl; exact h v List.mem_cons_self
      simp [this]
theorem bindL_get {kindOf : Str → Option NameKind} {x : Str} {v : Value} : ∀ {P : List Str} {vs : List Value} {i : Nat} {m : Str → Option Value}, P.Nodup → P[i]? = some x → vs[i]? = some v → kindOf x = some .local →
    bindL kindOf (P.zip vs) m x = some v
  | [], _, _, _, _, h, _, _ => by simp at h
  | _ :: _, [], _, _, _, _, h, _ => by simp at h
  | p :: P, w :: vs, 0, m, nd, h1, h2, hk => by
    simp at h1 h2; subst h1; subst h2
    show bindL kindOf ((p, w) :: P.zip vs) m p = _
    unfold bindL
    rw [bindL_out fun v hv => (List.nodup_cons.mp nd).1 (List.of_mem_zip hv).1, if_pos hk]
    simp
  | p :: P, w :: vs, i + 1, m, nd, h1, h2, hk => by
    show bindL kindOf ((p, w) :: P.zip vs) m x = _
    unfold bindL
    exact bindL_get (i := i) (List.nodup_cons.mp nd).2 (by simpa using h1) (by simpa using h2) hk
theorem bindC_get {kindOf : Str → Option NameKind} {x : Str} {v : Value} : ∀ {P : List Str} {vs : List Value} {i : Nat} {m : Str → Option Value}, P.Nodup → P[i]? = some x → vs[i]? = some v → kindOf x ≠ some .local →
    bindC kindOf (P.zip vs) m x = some v
  | [], _, _, _, _, h, _, _ => by simp at h
  | _ :: _, [], _, _, _, _, h, _ => by simp at h
  | p :: P, w :: vs, 0, m, nd, h1, h2, hk => by
    simp at h1 h2; subst h1; subst h2
    show bindC kindOf ((p, w) :: P.zip vs) m p = _
    unfold bindC
    rw [bindC_out fun v hv => (List.nodup_cons.mp nd).1 (List.of_mem_zip hv).1, if_neg hk]
    simp
  | p :: P, w :: vs, i + 1, m, nd, h1, h2, hk => by
    show bindC kindOf ((p, w) :: P.zip vs) m x = _
    unfold bindC
    exact bindC_get (i := i) (List.nodup_cons.mp nd).2 (by simpa using h1) (by simpa using h2) hk
noncomputable def start (N : List Str) (vs : List V) : St := vs.map some ++ List.replicate (N.length - vs.length) none
noncomputable def cxOf (CX : CXT) (P : Program) (w : World) (K : PySem.W.Frag) (mg : Str → Option Value) (base : Heap) (N : List Str) (qual : Str) (scope : Scope) (f : Addr) (cd : Value) (A : Around) (outer : List Env) (s : Shared) (H : Hp) (E : XK) : Cx where
  prog := P
  w := w
  K := K
  mg := mg
  base := base
  A := A.deeper (envOfC qual scope s.heap.objs.size f cd)
  N := N
  s₀ := s
  H₀ := H
  env := envOfC qual scope s.heap.objs.size f cd
  outer := outer
  stack := envOfC qual scope s.heap.objs.size f cd :: outer
  ex := []
  calm := true
  fn := fun _ => true
  pn := []
  xe := fun e s' => wpAny (model P w) (A.deeper (envOfC qual scope s.heap.objs.size f cd)) (leaving (envOfC qual scope s.heap.objs.size f cd) e) (fun _ s'' => CX outer H s E e s'') (fun e' s'' => CX outer H s E e' s'') s'
theorem cell_has {sc : Scope} {n : Nat} {x : Str} (h : sc.names.lookup x = some .cell) : ∃ c, (cellsFrom n sc.names []).lookup x = some c := by
  have q := PySem.W.cellsFrom_some sc.names n [] (.inl h)
  exact Option.isSome_iff_exists.mp q
theorem inv_start {CX : CXT} {P : Program} {w : World} {K : PySem.W.Frag} {mg : Str → Option Value} {base : Heap} {N ps : List Str} {qual : Str} {scope : Scope} {f : Addr} {cd : Value} {A : Around} {outer : List Env} {s s1 : Shared} {H : Hp} {E : XK} {us : List Value} {vs : List V}
    (S : FnScope N ps scope) (hd : A.handled = none) (e0 : Env0 P w K mg base A outer s H) (hl : vs.length = ps.length) (r : Vals vs us)
    (x : InCallC s s.heap.objs.size (bindL (envOfC qual scope s.heap.objs.size f cd).kindOf (ps.zip us) fun _ => none) (cellsFrom (s.heap.objs.size + 1) scope.names []) (bindC (envOfC qual scope s.heap.objs.size f cd).kindOf (ps.zip us) fun _ => none) s1) :
    Inv (cxOf CX P w K mg base N qual scope f cd A outer s H E) [] (start N vs) H s1 := by
  have hpl : ps.length ≤ N.length := by have := congrArg List.length S.pre; rw [List.length_take] at this; omega
  obtain ⟨h1, tk, rfl, hk⟩ := x.done
  have noA : ∀ b : Addr, b ∉ (cxOf CX P w K mg base N qual scope f cd A outer s H E).ex := fun b z => absurd (show b ∈ ([] : List Addr) from z) (by simp)
  refine ⟨⟨e0.mod, S.kind, rfl, rfl, Nat.le_refl _, fun y z c h1 h2 => ?_, fun y hy => ?_, fun y c _ h => ?_, fun _ => hd, Around.frames_deeper e0.frames, .inr ⟨rfl, rfl⟩, fun b z => absurd z (noA b), e0.bs, e0.bsz, fun b _ _ => noA b, fun b z => absurd z (noA b), e0.funs, e0.frf⟩,
    rfl, e0.bare, Un.kept hk, ⟨_, x.toInCall.ns, fun i y v h1 h2 h3 => ?_⟩, fun y c h => ⟨_, x.cell y c h⟩, e0.hok.fresh (Nat.le_refl _), fun y c h => ?_, fun p hp => absurd (show p ∈ ([] : List (Addr × Obj)) from hp) (by simp), e0.hok.kept hk, ?_⟩
  · exact name_of_addr x.apart (PySem.mem_of_lookup h1) (PySem.mem_of_lookup h2)
  · have hy : scope.names.lookup y = some .cell ∨ scope.names.lookup y = some .free := hy
    rcases hy with hy | hy
    · exact cell_has hy
    · exact absurd rfl (S.nofree _ (PySem.mem_of_lookup hy))
  · exact Nat.le_of_lt (x.above y c (PySem.mem_of_lookup h))
  · have hi : i < vs.length := by
      unfold start at h2
      by_cases hi : i < vs.length
      · exact hi
      · rw [List.getElem?_append_right (by simpa using hi)] at h2
        rw [List.getElem?_replicate] at h2
        split at h2 <;> cases h2
    have ha : vs[i]? = some v := by
      unfold start at h2
      rw [List.getElem?_append_left (by simpa using hi), List.getElem?_map] at h2
      cases e : vs[i]? with
      | none => rw [e] at h2; cases h2
      | some a => rw [e] at h2; cases h2; rfl
    obtain ⟨u, hu, rv⟩ := r.get ha
    have hp : ps[i]? = some y := by
      rw [← S.pre, List.getElem?_take_of_lt (by omega)]; exact h1
    have ndP : ps.Nodup := by rw [← S.pre]; exact S.nd.sublist (List.take_sublist _ _)
    refine ⟨u, rv, ?_⟩
    rcases S.par y (List.mem_of_getElem? hp) with k | k
    · exact .inl ⟨k, bindL_get ndP hp hu k⟩
    · obtain ⟨c, e⟩ := cell_has (n := s.heap.objs.size + 1) k
      refine .inr ⟨.inl k, c, e, ?_⟩
      have q := x.cell y c e
      rw [bindC_get ndP hp hu (by show scope.names.lookup y ≠ _; rw [k]; decide)] at q
      exact q
  · exact e0.hok.fresh (Nat.le_of_lt (x.above y c (PySem.mem_of_lookup h)))
  · unfold start
    show _ = N.length
    rw [List.length_append, List.length_map, List.length_replicate]
    omega
theorem fn_of {CX : CXT} {P : Program} {w : World} {K : PySem.W.Frag} {mg : Str → Option Value} {base : Heap} {k : Nat} {f : Addr} {name qual : Str} {params : Arguments} {body : List Stmt} {scope : Scope} {dV kV doc pm cdv ct oc : Value} {an od : Option Addr}
    {osl : Array (Option Value)} {N ps : List Str} {sp : Sp} (lk : K.lookup f = some ⟨oc, od, .func (PySem.W.fnOf name qual params body scope dV kV doc pm an cdv ct), osl⟩) (hcd : PySem.W.codeIn K cdv qual = true) (S : FnScope N ps scope)
    (len : ∀ vs H Q E, sp vs H Q E → vs.length = ps.length)
    (hbody : ∀ (A : Around) (outer : List Env) (s : Shared) (H : Hp) (vs : List V) (Q : VK) (E : XK), Room k (A.deeper (envOfC qual scope s.heap.objs.size f cdv)) → sp vs H Q E →
      ∃ t, PSs (cxOf CX P w K mg base N qual scope f cdv A outer s H E) body t ∧ t { nx := fun _ H' => Q .non H', rt := Q } (start N vs) H) :
    FnOk P w K mg base CX (k + 1) f (PySem.W.fnOf name qual params body scope dV kV doc pm an cdv ct) ps sp := by
  refine ⟨len, fun A outer s H args us vs Q E hr e0 hb r hsp => ?_⟩
  have hl := len _ _ _ _ hsp
  have KX : K.In s.heap := e0.mod.kin.keeps fun b o e => (e0.bs b o e).1
  have lim : s.heap.NoLimit := e0.mod.nolimit.keeps fun b o e => (e0.bs b o e).1
  have hkind : ∀ y ∈ ps.zip us, scope.names.lookup y.1 = some .local ∨ (scope.names.lookup y.1 = some .cell ∧ ((cellsFrom (s.heap.objs.size + 1) scope.names []).lookup y.1).isSome = true) := fun ⟨n, v⟩ hy => by
    rcases S.par n (List.of_mem_zip hy).1 with q | q
    · exact .inl q
    · exact .inr ⟨q, PySem.W.cellsFrom_some _ _ _ (.inl q)⟩
  refine codeAny_call_function hr.depth (KX _ _ lk) rfl S.co S.gen rfl (PySem.W.codeRec_of KX hcd) (hb _ _ _ _ ?_)
  refine wpAny_newFunctionEnv_cells S.kind hkind fun env he s1 x => ?_
  subst he
  refine ⟨lim.keeps x.toInCall.keep, codeAny_func ?_⟩
  obtain ⟨t, ht, hq⟩ := hbody A outer s H vs Q E (hr.deeper _) hsp
  have I : Inv (cxOf CX P w K mg base N qual scope f cdv A outer s H E) [] (start N vs) H s1 := inv_start S hr.hd e0 hl r x
  refine wpAny_mono (ht [] s1 (start N vs) H _ I hq) (fun fl s' hs => ?_) fun e s' hs => hs
  have fin : ∀ {σ' : St} {H' : Hp} {v : V} {u : Value}, Inv (cxOf CX P w K mg base N qual scope f cdv A outer s H E) [] σ' H' s' → RelV v u → Q v H' → CE outer P w H s Q u s' :=
    fun {σ' H' v u} J rv q => ⟨v, H', J.os, J.bare, J.base, J.hok, rv, q⟩
  cases fl with
  | ret u =>
    obtain ⟨v, σ', H', J, rv, q⟩ := hs
    exact fin J rv q
  | next =>
    obtain ⟨σ', H', J, q⟩ := hs
    exact fin (v := V.non) (u := Value.none) J rfl q
  | brk =>
    obtain ⟨_, _, _, q⟩ := hs
    exact False.elim q
  | cont =>
    obtain ⟨_, _, _, q⟩ := hs
    exact False.elim q
end L2
namespace L2
open PySem PySem.Spec PyProof.Rows
section
variable {X : Cx} {x : Str} {p pos : Pos} {e : Expr} {es : List Expr} {t : TA} {id T : String} {r : List V → Hp → VK → Prop}
noncomputable def tCB (r : List V → Hp → VK → Prop) (t : TA) : TE := fun σ H Q => t σ H fun vs H1 => r vs H1 Q
theorem pe_callB (hc : CallR X (.builtin id) r) (hg : Gl X x) (hm : X.mg x = none) (hv : bootBuiltins x = some (.builtin id)) (ha : PA X (e :: es) t) (hn : x ≠ "__name__" := by decide) (hdb : (x == ("__debug__" : Str)) = false := by decide)
    (he : starEach (e :: es) X.env = (false, eval e X.env) :: starEach es X.env := by rfl) (hpl : (backTo pos (starEach es X.env)).any (·.1) = false := by rfl) : PE X (.Call (.Name x p) (e :: es) [] pos) (tCB r t) := by
  intro pins s σ H Q I h
  refine wpAny_Call_Name_kw (ld_blt I hg hm hv ?_ hn hdb)
  exact PyProof.Rows.callWith_builtin1 (thn (ha pos pins s σ H _ I h) fun us s1 ⟨vs, H1, I1, r1, q1⟩ => hc pins s1 σ H1 vs us Q I1 r1 q1) he hpl
theorem pe_callTy (hc : CallR X (.type T) r) (hg : Gl X x) (hm : X.mg x = none) (hv : bootBuiltins x = some (.type T)) (ha : PA X (e :: es) t) (hn : x ≠ "__name__" := by decide) (hdb : (x == ("__debug__" : Str)) = false := by decide)
    (he : starEach (e :: es) X.env = (false, eval e X.env) :: starEach es X.env := by rfl) (hpl : (backTo pos (starEach es X.env)).any (·.1) = false := by rfl) : PE X (.Call (.Name x p) (e :: es) [] pos) (tCB r t) := by
  intro pins s σ H Q I h
  refine wpAny_Call_Name_kw (ld_blt I hg hm hv ?_ hn hdb)
  exact PyProof.Rows.callWith_type1 (thn (ha pos pins s σ H _ I h) fun us s1 ⟨vs, H1, I1, r1, q1⟩ => hc pins s1 σ H1 vs us Q I1 r1 q1) he hpl
end
end L2
namespace HT
open PySem PyProof.Rows
section
open PySem.SeqAt
open PySem.AutoSeq1 (wpAny_loadPart')
open PySem.MeetsSeq PySem.MeetsSeq2 PySem.MeetsSeq3
end
section
variable {prog : Program} {w : World} {A : Around} {E : Value → Shared → Prop} {s : Shared}
noncomputable def sIx (n d : Nat) : Option Int → Nat
  | none => d
  | some v => if v < 0 then (v + (n : Int)).toNat else min v.toNat n
theorem sIx_le (n d : Nat) (hd : d ≤ n) (o : Option Int) : sIx n d o ≤ n := by
  cases o with
  | none => exact hd
  | some v =>
    show (if v < 0 then (v + (n : Int)).toNat else min v.toNat n) ≤ n
    by_cases hv : v < 0
    · rw [if_pos hv]; omega
    · rw [if_neg hv]; exact Nat.min_le_right _ _
end
end HT
namespace L2
open PySem PySem.Spec PyProof.Rows
abbrev TO := St → Hp → (Option Int → Hp → Prop) → Prop
noncomputable def PO (X : Cx) (e : Option Expr) (t : TO) : Prop :=
  ∀ (pins : List (Addr × Obj)) (s : Shared) (σ : St) (H : Hp) (Q : Option Int → Hp → Prop), Inv X pins σ H s → t σ H Q →
    wpAny (model X.prog X.w) X.A (evalPart e X.env) (fun u s' => ∃ o H', Inv X pins σ H' s' ∧ IsPart u o ∧ Q o H') X.xe s
noncomputable def tNoPart : TO := fun _ H Q => Q none H
noncomputable def tPart (t : TE) : TO := fun σ H Q => t σ H fun x H1 => ∃ i, x = .int i ∧ Q (some i) H1
section
variable {X : Cx} {e : Expr} {te : TE} {lo hi : Option Expr} {tl th : TO} {pos p2 : Pos}
theorem po_none : PO X none tNoPart := by
  intro pins s σ H Q I h
  rw [evalPart_none]
  exact wpAny_pure ⟨none, H, I, .none, h⟩
theorem po_some (h : PE X e te) : PO X (some e) (tPart te) := by
  intro pins s σ H Q I hw
  rw [evalPart_some]
  refine thn (h pins s σ H _ I hw) fun u s1 ⟨x, H1, I1, r1, q1⟩ => ?_
  obtain ⟨i, rfl, q⟩ := q1
  obtain ⟨t, rfl⟩ := r1
  exact ⟨some i, H1, I1, .int i t, q⟩
noncomputable def SlR (X : Cx) (r : V → Option Int → Option Int → Hp → VK → Prop) : Prop :=
  ∀ (pins : List (Addr × Obj)) (s : Shared) (σ : St) (H : Hp) (x : V) (v vl vu : Value) (lo hi : Option Int) (sl : Addr) (Q : VK), Inv X pins σ H s → RelV x v → s.heap.IsSliceOf sl vl vu .none → IsPart vl lo → IsPart vu hi → r x lo hi H Q →
    ∃ T id, typeLookup (.type T) "__getitem__" = pure (some (.builtin id)) ∧ s.TypeIs v T ∧ wpAny (model X.prog X.w) X.A (getItem v (.ref sl)) (EP X pins σ Q) X.xe s
theorem SlR.or {r r' : V → Option Int → Option Int → Hp → VK → Prop} (h : SlR X r) (h' : SlR X r') : SlR X (fun x lo hi H Q => r x lo hi H Q ∨ r' x lo hi H Q) := by
  intro pins s σ H x v vl vu lo hi sl Q I rx hs pl pu q
  rcases q with q | q
  · exact h pins s σ H x v vl vu lo hi sl Q I rx hs pl pu q
  · exact h' pins s σ H x v vl vu lo hi sl Q I rx hs pl pu q
noncomputable def tSl (r : V → Option Int → Option Int → Hp → VK → Prop) (te : TE) (tl th : TO) : TE := fun σ H Q => te σ H fun x H1 => tl σ H1 fun l H2 => th σ H2 fun u H3 => r x l u H3 Q
theorem pe_slice {r : V → Option Int → Option Int → Hp → VK → Prop} (hr : SlR X r) (he : PE X e te) (hl : PO X lo tl) (hu : PO X hi th) : PE X (.Subscript e (.Slice lo hi none p2) pos) (tSl r te tl th) := by
  intro pins s σ H Q I h
  refine Subscript_ (thn (he pins s σ H _ I h) fun v s1 ⟨x, H1, I1, r1, q1⟩ => ?_)
  refine wpAny_Slice (thn (hl pins s1 σ H1 _ I1 q1) fun vl s2 ⟨l, H2, I2, pl, q2⟩ => thn (hu pins s2 σ H2 _ I2 q2) fun vu s3 ⟨u, H3, I3, pu, q3⟩ => ?_)
  rw [evalPart_none]
  refine wpAny_pure ?_
  have I4 : Inv X pins σ H3 { s3 with heap := s3.heap.push { cls := .type "slice", data := .fields #[vl, vu, .none] } } := I3.kept (t' := s3.toks) fun b ob q => Heap.get?_push_of_some _ q
  obtain ⟨T, id, hT, ht, hg⟩ := hr pins { s3 with heap := s3.heap.push { cls := .type "slice", data := .fields #[vl, vu, .none] } } σ H3 x v vl vu l u s3.heap.objs.size Q I4 r1 (Heap.IsSliceOf.new ..) pl pu q3
  show wpAny (model X.prog X.w) X.A (subscriptTail e (.Slice lo hi none p2) v (.ref s3.heap.objs.size)) (EP X pins σ Q) X.xe { s3 with heap := s3.heap.push { cls := .type "slice", data := .fields #[vl, vu, .none] } }
  exact tail_any (ops := [.ref s3.heap.objs.size, v]) ht hT hg (by with_unfolding_all rfl)
noncomputable def cutV (xs : List V) (lo hi : Option Int) : List V := (xs.drop (HT.sIx xs.length 0 lo)).take (HT.sIx xs.length xs.length hi - HT.sIx xs.length 0 lo)
theorem cutV_length (xs : List V) (lo hi : Option Int) : (cutV xs lo hi).length ≤ xs.length := by
  unfold cutV
  rw [List.length_take, List.length_drop]
  omega
end
end L2
namespace L2
open PySem PySem.Spec PyProof.Rows
noncomputable def ixN (n : Nat) (i : Int) : Option Nat := if 0 ≤ i then (if i < n then some i.toNat else none) else if -(n : Int) ≤ i then some (i + n).toNat else none
noncomputable def atI {α : Type} (xs : List α) (i : Int) : Option α := (ixN xs.length i).bind fun j => xs[j]?
theorem ixN_seq {n : Nat} {i : Int} {j : Nat} (h : ixN n i = some j) : seqIndex? i n = some j ∧ j < n ∧ -(n : Int) ≤ i ∧ i < n := by
  unfold ixN at h
  by_cases h0 : 0 ≤ i
  · rw [if_pos h0] at h
    by_cases h1 : i < n
    · rw [if_pos h1] at h
      have e : i.toNat = j := Option.some.inj h
      exact ⟨by rw [seqIndex_of h0 h1, e], by omega, by omega, h1⟩
    · rw [if_neg h1] at h; cases h
  · rw [if_neg h0] at h
    by_cases h1 : -(n : Int) ≤ i
    · rw [if_pos h1] at h
      have e : (i + n).toNat = j := Option.some.inj h
      exact ⟨by rw [seqIndex_neg (by omega) h1, e], by omega, h1, by omega⟩
    · rw [if_neg h1] at h; cases h
theorem atI_get {α : Type} {xs : List α} {i : Int} {v : α} (h : atI xs i = some v) : ∃ j, seqIndex? i xs.length = some j ∧ xs[j]? = some v ∧ j < xs.length ∧ -(xs.length : Int) ≤ i ∧ i < xs.length := by
  unfold atI at h
  cases e : ixN xs.length i with
  | none => rw [e] at h; cases h
  | some j =>
    rw [e] at h
    obtain ⟨h1, h2, h3, h4⟩ := ixN_seq e
    exact ⟨j, h1, h, h2, h3, h4⟩
noncomputable def PlainIx (b : Expr) : Prop := ∀ o i, subscripted b false o i = operate [o, i] (getItem o i)
noncomputable def IxR (X : Cx) (r : R2) : Prop :=
  ∀ (value slice : Expr) (pins : List (Addr × Obj)) (s : Shared) (σ : St) (H : Hp) (x y : V) (v u : Value) (Q : VK), Inv X pins σ H s → RelV x v → RelV y u → r x y H Q →
    subscripted slice false v u = operate [v, u] (getItem v u) → wpAny (model X.prog X.w) X.A (subscriptTail value slice v u) (EP X pins σ Q) X.xe s
noncomputable def MtR (X : Cx) (id : String) (r : V → List V → Hp → VK → Prop) : Prop :=
  ∀ (pins : List (Addr × Obj)) (s : Shared) (σ : St) (H : Hp) (x : V) (xs : List V) (v : Value) (us : List Value) (Q : VK), Inv X pins σ H s → RelV x v → Vals xs us → r x xs H Q →
    wpAny (model X.prog X.w) X.A (call (.builtin id) (v :: us)) (EP X pins σ Q) X.xe s
section
variable {X : Cx} {a b : Expr} {ta tb : TE} {pos : Pos}
theorem IxR.or {r r' : R2} (h : IxR X r) (h' : IxR X r') : IxR X (fun x y H Q => r x y H Q ∨ r' x y H Q) := by
  intro value slice pins s σ H x y v u Q I rx ry q hs
  rcases q with q | q
  · exact h value slice pins s σ H x y v u Q I rx ry q hs
  · exact h' value slice pins s σ H x y v u Q I rx ry q hs
theorem MtR.or {id : String} {r r' : V → List V → Hp → VK → Prop} (h : MtR X id r) (h' : MtR X id r') : MtR X id (fun x xs H Q => r x xs H Q ∨ r' x xs H Q) := by
  intro pins s σ H x xs v us Q I rx rs q
  rcases q with q | q
  · exact h pins s σ H x xs v us Q I rx rs q
  · exact h' pins s σ H x xs v us Q I rx rs q
theorem pe_ix {r : R2} (hr : IxR X r) (ha : PE X a ta) (hb : PE X b tb) (hs : PlainIx b) : PE X (.Subscript a b pos) (tOp r ta tb) := by
  intro pins s σ H Q I h
  exact Subscript_ (binT ha hb I h fun v u s2 x y H2 I2 rx ry q => hr a b pins s2 σ H2 x y v u Q I2 rx ry q (hs _ _))
noncomputable def rIxL (K : PySem.W.Frag) : R2 := fun x y H Q => ∃ p xs i v, x = .ref p ∧ y = .int i ∧ SqL K H p xs ∧ atI xs i = some v ∧ Q v H
noncomputable def rIxT (K : PySem.W.Frag) : R2 := fun x y H Q => ∃ p xs i v, x = .ref p ∧ y = .int i ∧ SqT K H p xs ∧ atI xs i = some v ∧ Q v H
noncomputable def rIxS : R2 := fun x y H Q => ∃ z i c, x = .str z ∧ y = .int i ∧ z.length ≤ sizeLine ∧ atI z.cps.toList i = some c ∧ Q (.str ⟨#[c]⟩) H
theorem ix_list : IxR X (rIxL X.K) := by
  intro value slice pins s σ H x y v u Q I rx ry h hs
  obtain ⟨p, xs, i, z, rfl, rfl, hq, he, q⟩ := h
  cases rx
  obtain ⟨t, rfl⟩ := ry
  obtain ⟨its, r, pl, hz⟩ := I.list hq
  obtain ⟨j, h1, h2, h3, h4, h5⟩ := atI_get he
  obtain ⟨w, ew, rw'⟩ := r.get h2
  have hl := r.length
  have hn := line63
  have fin : EP X pins σ Q w s := ⟨z, H, I, rw', q⟩
  by_cases h0 : 0 ≤ i
  · have hj : i.toNat = j := by
      rw [seqIndex_of h0 h5] at h1
      exact Option.some.inj h1
    exact item_listR pl.isList h0 (by omega) (by rw [hj]; simpa using ew) fin hs
  · have hj : (i + (its.toArray.size : Int)).toNat = j := by
      rw [seqIndex_neg (by omega) h4] at h1
      rw [List.size_toArray, ← hl]
      exact Option.some.inj h1
    exact subscriptTail_builtinR (x := w) pl.isList.typeIs slot_list_getitem.lookup
      (wpAny_getItem_list_neg (Q := fun r s' => r = w ∧ EP X pins σ Q r s') pl.isList (by omega) (by rw [List.size_toArray] <;> omega) (by omega) (by rw [hj]; simpa using ew) ⟨rfl, fin⟩) hs
theorem ix_tup : IxR X (rIxT X.K) := by
  intro value slice pins s σ H x y v u Q I rx ry h hs
  obtain ⟨p, xs, i, z, rfl, rfl, hq, he, q⟩ := h
  cases rx
  obtain ⟨t, rfl⟩ := ry
  obtain ⟨its, r, pl, hz⟩ := I.tuple hq
  obtain ⟨j, h1, h2, h3, h4, h5⟩ := atI_get he
  obtain ⟨w, ew, rw'⟩ := r.get h2
  have hl := r.length
  have hn := line63
  have fin : EP X pins σ Q w s := ⟨z, H, I, rw', q⟩
  exact subscriptTail_builtinR (x := w) pl.typeIs slot_tuple_getitem.lookup
    (getItem_tuple (j := j) (Q := fun r s' => r = w ∧ EP X pins σ Q r s') pl (by omega) (by omega) (by rw [List.size_toArray, ← hl]; exact h1) (by simpa using ew) ⟨rfl, fin⟩) hs
theorem ix_str : IxR X rIxS := by
  intro value slice pins s σ H x y v u Q I rx ry h hs
  obtain ⟨z, i, c, rfl, rfl, hz, he, q⟩ := h
  obtain ⟨t, rfl⟩ := rx
  obtain ⟨t', rfl⟩ := ry
  obtain ⟨j, h1, h2, h3, h4, h5⟩ := atI_get he
  have hl : z.cps.toList.length = z.length := by simp [Str.length]
  rw [hl] at h1 h4 h5
  have hn := line63
  exact tail_any (typeIs_str s z t) slot_str_getitem.lookup (getItem_str (c := c) (by
    have e1 : decide (i < -(2 ^ 63 : Int)) = false := decide_eq_false (by omega)
    have e2 : decide (i ≥ 2 ^ 63) = false := decide_eq_false (by omega)
    rw [e1, e2, Bool.or_false]) (by rw [h1]; simpa using h2) ⟨.str ⟨#[c]⟩, H, I.tok _, ⟨_, rfl⟩, q⟩) hs
theorem Inv.lst {pins : List (Addr × Obj)} {σ : St} {H : Hp} {s : Shared} {p : Addr} {xs : List V} (I : Inv X pins σ H s) (h : H p = some (.lst xs)) :
    ∃ (its : List Value) (n : Nat), Vals xs its ∧ s.heap.get? p = some { cls := .type "list", data := .seq its.toArray n } ∧ xs.length ≤ sizeLine := by
  obtain ⟨z, its, n, r, e⟩ := I.hok p _ h
  exact ⟨its, n, r, e, z⟩
theorem slice_bounds (lo hi : Option Int) (n : Nat) : (sliceBounds lo hi none n).1 = ((HT.sIx n 0 lo : Nat) : Int) ∧ (sliceBounds lo hi none n).2.1 = ((HT.sIx n n hi : Nat) : Int) ∧ (sliceBounds lo hi none n).2.2 = 1 := by
  refine ⟨?_, ?_, rfl⟩
  · cases lo with
    | none => simp [sliceBounds, HT.sIx]
    | some i =>
      simp only [sliceBounds, HT.sIx, Option.getD_none, show (1 : Int) > 0 by decide, if_true]
      by_cases h : i < 0
      · simp only [h, if_true] <;> omega
      · simp only [h, if_false] <;> omega
  · cases hi with
    | none => simp [sliceBounds, HT.sIx]
    | some i =>
      simp only [sliceBounds, HT.sIx, Option.getD_none, show (1 : Int) > 0 by decide, if_true]
      by_cases h : i < 0
      · simp only [h, if_true] <;> omega
      · simp only [h, if_false] <;> omega
theorem slicePick_cut (its : List Value) (lo hi : Option Int) : slicePick its.toArray lo hi none = ((its.drop (HT.sIx its.length 0 lo)).take (HT.sIx its.length its.length hi - HT.sIx its.length 0 lo)).toArray := by
  obtain ⟨h1, h2, h3⟩ := slice_bounds lo hi its.toArray.size
  unfold slicePick
  rw [h1, h2, h3]
  simp only [sliceRange_one, pick_run, List.size_toArray] <;> rfl
noncomputable def rSlL (K : PySem.W.Frag) : V → Option Int → Option Int → Hp → VK → Prop := fun x lo hi H Q => ∃ a xs, x = .ref a ∧ SqL K H a xs ∧ ∀ p, H p = none → Q (.ref p) (upd H p (.lst (cutV xs lo hi)))
theorem sl_list : SlR X (rSlL X.K) := by
  intro pins s σ H x v vl vu lo hi sl Q I rx hs pl pu h
  obtain ⟨a, xs, rfl, hx, q⟩ := h
  cases rx
  obtain ⟨its, r, ht, hz⟩ := I.list hx
  have hlen := r.length
  refine ⟨"list", _, slot_list_getitem.lookup, ht.isList.typeIs, ?_⟩
  refine wpAny_getItem_list_slice ht.isList hs pl pu .none (by simp) ?_ (by rw [List.size_toArray] <;> omega)
  rw [slicePick_cut, ← hlen]
  refine ⟨.ref s.heap.objs.size, _, I.laid (t' := s.toks) (o := .lst (cutV xs lo hi)) (fun b ob q => Heap.get?_push_of_some _ q) (Nat.le_refl _) ?_, rfl, q _ (I.hok.fresh (Nat.le_refl _))⟩
  exact ⟨Nat.le_trans (cutV_length xs lo hi) hz, _, 0, (r.drop (HT.sIx xs.length 0 lo)).take (HT.sIx xs.length xs.length hi - HT.sIx xs.length 0 lo), Heap.get?_push_size _ rfl⟩
noncomputable def flatV : V → Bool
  | .non => true
  | .bl _ => true
  | .int _ => true
  | .str _ => true
  | _ => false
noncomputable def eqV : V → V → Bool
  | .non, .non => true
  | .bl a, .bl b => a == b
  | .bl a, .int b => (if a then 1 else 0) == b
  | .int a, .bl b => a == (if b then 1 else 0)
  | .int a, .int b => a == b
  | .str a, .str b => a == b
  | _, _ => false
theorem eqAt_V {A : Around} {s : Shared} {y x : V} {u v : Value} (ry : RelV y u) (rx : RelV x v) (fy : flatV y = true) (fx : flatV x = true) : SeqAt.EqAt A s u v (eqV y x) := by
  cases y with
  | non =>
    cases ry
    cases x with
    | non => cases rx; exact SeqAt.EqAt.same _
    | bl b => cases rx; exact SeqAt.EqAt.none_bool b
    | int b => obtain ⟨t, rfl⟩ := rx; exact SeqAt.EqAt.none_int b t
    | str b => obtain ⟨t, rfl⟩ := rx; exact SeqAt.EqAt.none_str b t
    | _ => exact absurd (show false = true from fx) Bool.false_ne_true
  | bl a =>
    cases ry
    cases x with
    | non => cases rx; exact SeqAt.EqAt.bool_none a
    | bl b => cases rx; exact SeqAt.EqAt.bool_bool a b
    | int b => obtain ⟨t, rfl⟩ := rx; exact SeqAt.EqAt.bool_int a b t
    | str b => obtain ⟨t, rfl⟩ := rx; exact SeqAt.EqAt.bool_str a b t
    | _ => exact absurd (show false = true from fx) Bool.false_ne_true
  | int a =>
    obtain ⟨t', rfl⟩ := ry
    cases x with
    | non => cases rx; exact SeqAt.EqAt.int_none a t'
    | bl b => cases rx; exact SeqAt.EqAt.int_bool a t' b
    | int b => obtain ⟨t, rfl⟩ := rx; exact SeqAt.EqAt.int_int a t' b t
    | str b => obtain ⟨t, rfl⟩ := rx; exact SeqAt.EqAt.int_str a t' b t
    | _ => exact absurd (show false = true from fx) Bool.false_ne_true
  | str a =>
    obtain ⟨t', rfl⟩ := ry
    cases x with
    | non => cases rx; exact SeqAt.EqAt.str_none a t'
    | bl b => cases rx; exact SeqAt.EqAt.str_bool a t' b
    | int b => obtain ⟨t, rfl⟩ := rx; exact SeqAt.EqAt.str_int a t' b t
    | str b => obtain ⟨t, rfl⟩ := rx; exact SeqAt.EqAt.str_str a t' b t
    | _ => exact absurd (show false = true from fx) Bool.false_ne_true
  | _ => exact absurd (show false = true from fy) Bool.false_ne_true
theorem call_len_seq : CallR X (.builtin "len") (fun xs H Q => ∃ p ys, xs = [.ref p] ∧ (SqL X.K H p ys ∨ SqT X.K H p ys) ∧ Q (.int ys.length) H) := by
  intro pins s σ H xs us Q I r h
  obtain ⟨p, ys, rfl, hq, q⟩ := h
  obtain ⟨u, rfl, rx⟩ := vals1 r
  cases rx
  have hn := line63
  rcases hq with hq | hq
  · obtain ⟨its, r', pl, hz⟩ := I.list hq
    have hlen := r'.length
    exact Calls.call_len_list pl.isList (by simp only [List.size_toArray] <;> omega) ⟨.int ys.length, H, I.tok _, ⟨s.toks + 1, by rw [List.size_toArray, hlen]⟩, q⟩
  · obtain ⟨its, r', pl, hz⟩ := I.tuple hq
    have hlen := r'.length
    exact len_tuple pl (by simp only [List.size_toArray] <;> omega) ⟨.int ys.length, H, I.tok _, ⟨s.toks + 1, by rw [List.size_toArray, hlen]⟩, q⟩
theorem call_len_str : CallR X (.builtin "len") (fun xs H Q => ∃ z, xs = [.str z] ∧ z.length ≤ sizeLine ∧ Q (.int z.length) H) := by
  intro pins s σ H xs us Q I r h
  obtain ⟨z, rfl, hz, q⟩ := h
  obtain ⟨u, rfl, t, rfl⟩ := vals1 r
  have hn := line63
  exact len_str (by omega) ⟨.int z.length, H, I.tok _, ⟨_, rfl⟩, q⟩
theorem CallR.or {f : Value} {r r' : List V → Hp → VK → Prop} (h : CallR X f r) (h' : CallR X f r') : CallR X f (fun xs H Q => r xs H Q ∨ r' xs H Q) := by
  intro pins s σ H xs us Q I rs q
  rcases q with q | q
  · exact h pins s σ H xs us Q I rs q
  · exact h' pins s σ H xs us Q I rs q
theorem call_list_of : CallR X (.type "list") (fun xs H Q => ∃ p ys, xs = [.ref p] ∧ (SqL X.K H p ys ∨ SqT X.K H p ys) ∧ ∀ l, H l = none → Q (.ref l) (upd H l (.lst ys))) := by
  intro pins s σ H xs us Q I r h
  obtain ⟨p, ys, rfl, hq, q⟩ := h
  obtain ⟨u, rfl, rx⟩ := vals1 r
  cases rx
  have fin : ∀ (its : List Value), Vals ys its → ys.length ≤ sizeLine → ∀ (h' : Heap) (c' : Nat), (∀ b o', s.heap.get? b = some o' → h'.get? b = some o') →
      h'.get? s.heap.objs.size = some { cls := .type "list", dict := none, data := .seq its.toArray c', slots := #[] } → EP X pins σ Q (.ref s.heap.objs.size) { s with heap := h' } := fun its r' hz h' c' kp e =>
    ⟨.ref s.heap.objs.size, _, I.laid (t' := s.toks) kp (Nat.le_refl _) (show ObjOk X.prog X.w _ h' _ (.lst ys) from ⟨hz, its, c', r', e⟩), rfl, q _ (I.hok.fresh (Nat.le_refl _))⟩
  rcases hq with hq | hq
  · obtain ⟨its, r', pl, hz⟩ := I.list hq
    have hlen := r'.length
    obtain ⟨o, ho, hc, n, hd⟩ := pl.isList
    exact call_list_seq p (.inl rfl) ho hc hd (fun h' c' kp e => fin its r' hz h' c' kp e) (by simp only [List.size_toArray] <;> omega)
  · obtain ⟨its, r', pl, hz⟩ := I.tuple hq
    have hlen := r'.length
    obtain ⟨o, ho, hc, n, hd⟩ := pl
    exact call_list_seq p (.inr rfl) ho hc hd (fun h' c' kp e => fin its r' hz h' c' kp e) (by simp only [List.size_toArray] <;> omega)
noncomputable def tyV (K : PySem.W.Frag) (T : String) (x : V) (H : Hp) : Prop := match x with
  | .str _ => T = "str"
  | .int _ => T = "int"
  | .ref p => (T = "list" ∧ ∃ xs, SqL K H p xs) ∨ (T = "tuple" ∧ ∃ o, K.lookup p = some o ∧ o.cls = .type "tuple" ∧ o.dict = none) ∨
      (T = "dict" ∧ ((∃ kvs, H p = some (.dK kvs)) ∨ ∃ kvs, H p = some (.dT kvs))) ∨ (T = "set" ∧ ∃ S n, H p = some (.set S n))
  | _ => False
theorem tyV_is {pins : List (Addr × Obj)} {σ : St} {H : Hp} {s : Shared} {T : String} {x : V} {v : Value} (I : Inv X pins σ H s) (r : RelV x v) (ty : tyV X.K T x H) :
    s.TypeIs v T ∧ ∀ a, v = .ref a → ∃ ob, s.heap.get? a = some ob ∧ ob.dict = none := by
  cases x with
  | str z =>
    obtain ⟨t, rfl⟩ := r
    cases (show T = "str" from ty)
    exact ⟨typeIs_str s z t, fun _ e => nomatch e⟩
  | int i =>
    obtain ⟨t, rfl⟩ := r
    cases (show T = "int" from ty)
    exact ⟨typeIs_int s i t, fun _ e => nomatch e⟩
  | ref p =>
    cases r
    rcases ty with ⟨rfl, xs, hq⟩ | ⟨rfl, o, hk, hc, hd⟩ | ⟨rfl, hk⟩ | ⟨rfl, S, n, hk⟩
    · obtain ⟨its, _, pl, _⟩ := I.list hq
      refine ⟨pl.isList.typeIs, fun a e => ?_⟩
      cases e
      obtain ⟨o, n, e, c, hd, _⟩ := pl
      exact ⟨o, e, hd⟩
    · refine ⟨⟨o, I.kIn p o hk, hc⟩, fun a e => ?_⟩
      cases e
      exact ⟨o, I.kIn _ o hk, hd⟩
    · have z : ∃ o, s.heap.get? p = some o ∧ o.ExactDict := by
        rcases hk with ⟨kvs, hk⟩ | ⟨kvs, hk⟩
        · obtain ⟨_, _, _, _, o, _, _, e, ex, _⟩ := I.hok p _ hk
          exact ⟨o, e, ex⟩
        · exact False.elim (show ObjOk X.prog X.w H s.heap p (.dT kvs) from I.hok p _ hk)
      obtain ⟨o, e, ex⟩ := z
      refine ⟨⟨o, e, ex.1⟩, fun a e2 => ?_⟩
      cases e2
      exact ⟨o, e, ex.2.1⟩
    · obtain ⟨o, _, _, _, e, ex, _⟩ := I.hok p _ hk
      refine ⟨⟨o, e, ex.1⟩, fun a e2 => ?_⟩
      cases e2
      exact ⟨o, e, ex.2.1⟩
  | _ => exact False.elim ty
noncomputable def tBM0 (K : PySem.W.Frag) (T : String) (r : V → List V → Hp → VK → Prop) (to : TE) : TE := fun σ H Q => to σ H fun x H1 => tyV K T x H1 ∧ r x [] H1 Q
noncomputable def tBM (K : PySem.W.Frag) (T : String) (r : V → List V → Hp → VK → Prop) (to : TE) (t : TA) : TE := fun σ H Q => to σ H fun x H1 => tyV K T x H1 ∧ t σ H1 fun xs H2 => r x xs H2 Q
variable {o e : Expr} {es : List Expr} {to : TE} {t : TA} {name : Str} {apos cpos : Pos} {T id : String} {r : V → List V → Hp → VK → Prop}
theorem pe_bm0 (pa : PlainAttrs T) (slot : Slot T name id) (hty : typeOf (.builtin id) = pure (.type "method_descriptor")) (hm : MtR X id r) (ho : PE X o to)
    (hbase : attributeBase o name X.env (eval o X.env) = eval o X.env := by rfl) (hline : (apos.endLine == cpos.line) = true := by rfl) : PE X (.Call (.Attribute o name apos) [] [] cpos) (tBM0 X.K T r to) := by
  intro pins s σ H Q I h
  refine wpAny_Call_method0_late hbase hline (thn (ho pins s σ H _ I h) fun v s1 ⟨x, H1, I1, r1, ty, q1⟩ => ?_)
  obtain ⟨h1, h2⟩ := tyV_is I1 r1 ty
  exact ⟨T, id, pa, slot, hty, h1, h2, Calls.callWith_builtin rfl (PySem.evalArgs_none (hm pins s1 σ H1 x [] v [] Q I1 r1 .nil q1))⟩
theorem pe_bm (pa : PlainAttrs T) (slot : Slot T name id) (hty : typeOf (.builtin id) = pure (.type "method_descriptor")) (hm : MtR X id r) (ho : PE X o to) (ha : PA X (e :: es) t)
    (hbase : attributeBase o name X.env (eval o X.env) = eval o X.env := by rfl)
    (hfew : ((backTo cpos (starEach (e :: es) X.env)).all (fun x => !x.1) && (backToKw cpos (keywordEach [] X.env)).all (fun x => x.1.isSome)
      && decide ((e :: es).length + ([] : List Keyword).length + (if ([] : List Keyword).isEmpty then 0 else 1) < 30)) = true := by rfl)
    (hline : (apos.endLine == cpos.line) = true := by rfl) (hs : starEach (e :: es) X.env = (false, eval e X.env) :: starEach es X.env := by rfl) (hplain : (backTo cpos (starEach es X.env)).any (·.1) = false := by rfl) :
    PE X (.Call (.Attribute o name apos) (e :: es) [] cpos) (tBM X.K T r to t) := by
  intro pins s σ H Q I h
  refine wpAny_Call_method_late hbase hfew hline rfl (thn (ho pins s σ H _ I h) fun v s1 ⟨x, H1, I1, r1, ty, q1⟩ => ?_)
  obtain ⟨h1, h2⟩ := tyV_is I1 r1 ty
  refine ⟨T, id, pa, slot, hty, h1, h2, ?_⟩
  have hA := ha cpos pins s1 σ H1 _ I1 q1
  rw [hs] at hA ⊢
  refine Calls.callWith_builtin (by show (false || (backTo cpos (starEach es X.env)).any (·.1)) = false; rw [hplain] <;> rfl) (Calls.evalArgs_plain ?_)
  exact thn hA fun us s2 ⟨vs, H2, I2, r2, q2⟩ => hm pins s2 σ H2 x vs v us Q I2 r1 r2 q2
/- xs.append(e), list.index on a module's tuple .. are MtR facts of 06m -/
end
end L2
namespace L2
open PySem PySem.Spec PyProof.Rows
noncomputable def MtM (X : Cx) (id : String) (r : V → List V → Hp → VK → Prop) : Prop :=
  ∀ (pins : List (Addr × Obj)) (s : Shared) (σ : St) (H : Hp) (x : V) (xs : List V) (v : Value) (us : List Value) (Q : VK), Inv X pins σ H s → RelV x v → Vals xs us → r x xs H Q →
    wpAny (model X.prog X.w) X.A (call (.builtin id) (v :: us)) (EP X pins σ Q) X.xe s
theorem Vals.one : ∀ {x : V} {us : List Value}, Vals [x] us → ∃ u, us = [u] ∧ RelV x u
  | _, _, .cons r .nil => ⟨_, rfl, r⟩
theorem Vals.two : ∀ {x y : V} {us : List Value}, Vals [x, y] us → ∃ u v, us = [u, v] ∧ RelV x u ∧ RelV y v
  | _, _, _, .cons r (.cons q .nil) => ⟨_, _, rfl, r, q⟩
theorem Vals.zero : ∀ {us : List Value}, Vals [] us → us = []
  | _, .nil => rfl
theorem Vals.reverse {xs : List V} {us : List Value} (h : Vals xs us) : Vals xs.reverse us.reverse := by
  induction h with
  | nil => exact .nil
  | cons r t ih => rw [List.reverse_cons, List.reverse_cons]; exact Vals.append ih (.cons r .nil)
theorem Vals.rep {xs : List V} {us : List Value} (h : Vals xs us) : ∀ k : Nat, Vals (List.replicate k xs).flatten (List.replicate k us).flatten
  | 0 => .nil
  | k + 1 => by
    rw [List.replicate_succ, List.replicate_succ, List.flatten_cons, List.flatten_cons]
    exact Vals.append h (Vals.rep h k)
theorem foldl_rep (its : List Value) : ∀ (k : Nat) (acc : List Value),
    List.foldl (fun x1 x2 => x1 ++ x2) acc.toArray (List.replicate k its.toArray) = (acc ++ (List.replicate k its).flatten).toArray
  | 0, acc => by simp
  | k + 1, acc => by
    have e : acc.toArray ++ its.toArray = (acc ++ its).toArray := by simp
    have e2 : (acc ++ its) ++ (List.replicate k its).flatten = acc ++ (List.replicate (k + 1) its).flatten := by
      rw [List.replicate_succ, List.flatten_cons, List.append_assoc]
    rw [← e2, ← foldl_rep its k (acc ++ its), ← e, List.replicate_succ, List.foldl_cons]
section
variable {X : Cx} {pins : List (Addr × Obj)} {σ : St} {H : Hp} {s : Shared} {l b : Addr} {xs ys zs : List V}
theorem Inv.lset {its its' : List Value} {n : Nat} {f : Array Value → Array Value} {t' : Nat} (I : Inv X pins σ H s) (hH : H l = some (.lst xs))
    (e : s.heap.get? l = some { cls := .type "list", data := .seq its.toArray n }) (hf : f its.toArray = its'.toArray) (hv : Vals ys its') (hz : ys.length ≤ sizeLine) :
    Inv X pins σ (upd H l (.lst ys)) { s with heap := s.heap.update l (Obj.mapSeq f), toks := t' } := by
  have q := PySem.IsL.update e f
  rw [hf] at q
  refine I.write (x := l) (e := l) (by rw [hH]; exact trivial) (.inl rfl) (fun b' u hb hu => (Heap.get?_update_other s.heap (Obj.mapSeq f) (Ne.symm hb)).trans hu) ⟨_, q⟩ ?_
  exact ⟨hz, its', _, hv, q⟩
theorem Inv.lnew {its : List Value} {t' : Nat} (I : Inv X pins σ H s) (hv : Vals ys its) (hz : ys.length ≤ sizeLine) :
    Inv X pins σ (upd H s.heap.objs.size (.lst ys)) { s with heap := s.heap.push { cls := .type "list", data := .seq its.toArray }, toks := t' } :=
  I.laid (fun _ _ q => Heap.get?_push_of_some _ q) (Nat.le_refl _) ⟨hz, its, 0, hv, Heap.get?_push_size _ rfl⟩
theorem Inv.fresh (I : Inv X pins σ H s) : H s.heap.objs.size = none := I.hok.fresh (Nat.le_refl _)
theorem Inv.lstM (I : Inv X pins σ H s) (hH : H l = some (.lst xs)) : xs.length ≤ sizeLine ∧ ∃ (its : List Value) (n : Nat), Vals xs its ∧ xs.length = its.length ∧ s.heap.get? l = some { cls := .type "list", data := .seq its.toArray n } := by
  obtain ⟨z, its, n, r, e⟩ := I.hok l _ hH
  exact ⟨z, its, n, r, r.length, e⟩
theorem notLongL {n : Nat} (h : n ≤ sizeLine) : Builtin.List.listTooLong n = false := by
  unfold Builtin.List.listTooLong
  exact decide_eq_false (by omega)
end
section
variable {X : Cx}
noncomputable def rAppend : V → List V → Hp → VK → Prop := fun x vs H Q => ∃ l xs y, x = .ref l ∧ vs = [y] ∧ H l = some (.lst xs) ∧ xs.length < sizeLine ∧ Q .non (upd H l (.lst (xs ++ [y])))
theorem mt_append : MtM X "list.append" rAppend := by
  intro pins s σ H x vs v us Q I rx rv h
  obtain ⟨l, xs, y, rfl, rfl, hH, hz, q⟩ := h
  cases rx
  obtain ⟨u, rfl, ru⟩ := rv.one
  obtain ⟨z, its, n, r, hl, e⟩ := I.lstM hH
  refine call_meets F.slot_list_append ⟨_, e, rfl⟩ F.entry_list_append (F.args_list_append_2 _ _) (PySem.list_append l its.toArray n u (by rw [List.size_toArray]; omega)) ⟨e, ?_⟩
  refine ⟨.non, _, I.lset (its' := its ++ [u]) hH e (by simp) (r.append (.cons ru .nil)) ?_, rfl, q⟩
  rw [List.length_append, List.length_singleton]
  omega
noncomputable def rReverse : V → List V → Hp → VK → Prop := fun x vs H Q => ∃ l xs, x = .ref l ∧ vs = [] ∧ H l = some (.lst xs) ∧ Q .non (upd H l (.lst xs.reverse))
theorem mt_reverse : MtM X "list.reverse" rReverse := by
  intro pins s σ H x vs v us Q I rx rv h
  obtain ⟨l, xs, rfl, rfl, hH, q⟩ := h
  cases rx
  have hus := rv.zero
  subst hus
  obtain ⟨z, its, n, r, hl, e⟩ := I.lstM hH
  refine call_meets F.slot_list_reverse ⟨_, e, rfl⟩ F.entry_list_reverse (F.args_list_reverse_1 _) (AutoSeq1.list_reverse_list_0 l its.toArray n (by rw [List.size_toArray]; omega)) ⟨e, ?_⟩
  refine ⟨.non, _, I.lset (its' := its.reverse) hH e (by simp) r.reverse ?_, rfl, q⟩
  rw [List.length_reverse]
  omega
noncomputable def rCat : R2 := fun x y H Q => ∃ l b xs zs, x = .ref l ∧ y = .ref b ∧ H l = some (.lst xs) ∧ H b = some (.lst zs) ∧ xs.length + zs.length ≤ sizeLine ∧ ∀ p, H p = none → Q (.ref p) (upd H p (.lst (xs ++ zs)))
theorem op_cat : OpR X (binaryOp .Add) rCat := by
  intro pins s σ H x y v u Q I rx ry h
  obtain ⟨l, b, xs, zs, rfl, rfl, hH, hB, hz, q⟩ := h
  cases rx
  cases ry
  obtain ⟨z, its, n, r, hl, e⟩ := I.lstM hH
  obtain ⟨z2, its2, n2, r2, hl2, e2⟩ := I.lstM hB
  refine PySem.P.add_list e e2 ?_ (by rw [List.size_toArray, List.size_toArray]; omega)
  have ea : its.toArray ++ its2.toArray = (its ++ its2).toArray := by simp
  rw [ea]
  exact ⟨.ref _, _, I.lnew (t' := s.toks) (r.append r2) (by rw [List.length_append]; omega), rfl, q _ I.fresh⟩
noncomputable def rRep : R2 := fun x y H Q => ∃ l k xs, x = .ref l ∧ y = .int k ∧ H l = some (.lst xs) ∧ -(2 ^ 63) ≤ k ∧ k < 2 ^ 63 ∧ xs.length * k.toNat ≤ sizeLine ∧
  ∀ p, H p = none → Q (.ref p) (upd H p (.lst (List.replicate k.toNat xs).flatten))
theorem len_rep {α : Type} (xs : List α) (k : Nat) : (List.replicate k xs).flatten.length = k * xs.length := by
  induction k with
  | zero => simp
  | succ k ih => rw [List.replicate_succ, List.flatten_cons, List.length_append, ih, Nat.succ_mul, Nat.add_comm]
theorem op_rep : OpR X (binaryOp .Mult) rRep := by
  intro pins s σ H x y v u Q I rx ry h
  obtain ⟨l, k, xs, rfl, rfl, hH, h1, h2, hz, q⟩ := h
  cases rx
  obtain ⟨t, rfl⟩ := ry
  obtain ⟨z, its, n, r, hl, e⟩ := I.lstM hH
  have hlen : its.toArray.size * k.toNat ≤ sizeLine := by rw [List.size_toArray, ← hl]; exact hz
  have hcap : ¬ its.toArray.size * k.toNat > (2 ^ 63 - 1) / 8 := by
    have : (sizeLine : Nat) ≤ (2 ^ 63 - 1) / 8 := by decide
    omega
  have hfit : ¬ (!Builtin.List.listFitsIndex k) = true := by
    rw [fitsIndex_both h1 h2]
    exact Bool.false_ne_true
  have hlong : ¬ Builtin.List.listTooLong (its.toArray.size * k.toNat) = true := by
    rw [notLongL hlen]
    exact Bool.false_ne_true
  have hnew : List.foldl (fun x1 x2 => x1 ++ x2) #[] (List.replicate (if its.toArray.isEmpty = true then 0 else k.toNat) its.toArray) = (List.replicate k.toNat its).flatten.toArray := by
    have f0 : ∀ m : Nat, List.foldl (fun x1 x2 => x1 ++ x2) #[] (List.replicate m its.toArray) = (List.replicate m its).flatten.toArray := fun m => by
      have := foldl_rep its m []
      rw [List.nil_append] at this
      exact this
    rw [f0]
    cases its with
    | nil => simp
    | cons a r' => rw [if_neg (by simp)]
  refine wpAny_binaryOp_repeat_ref (T := "list") (U := "int") (by decide) ⟨_, e, rfl⟩ (fun s' => typeIs_int s' k t) noFill_list_mul F.fills_int_mul F.slot_int_rmul repeat_list F.slot_int_index.lookup
    (call_meets F.slot_int_rmul (typeIs_int s k t) F.entry_int_rmul (F.args_int_rmul_2 _ _) (int___rmul___int_list k t l its.toArray n)
      ⟨e, rfl, ⟨_, e, rfl⟩, call_meets F.slot_list_mul ⟨_, e, rfl⟩ F.entry_list_mul (F.args_list_mul_2 _ _) (AutoListH.list___mul___list_int_3 l its.toArray n k t hfit hcap hlong) ⟨e, ?_⟩⟩)
  rw [hnew]
  exact ⟨.ref _, _, I.lnew (t' := s.toks) (r.rep k.toNat) (by rw [len_rep, Nat.mul_comm]; exact hz), rfl, q _ I.fresh⟩
end
section
variable {prog : Program} {w : World} {A : Around} {E : Value → Shared → Prop} {s : Shared}
end
section
variable {X : Cx}
end
end L2
namespace Att
open PySem PySem.W PySem.Calls PyProof.Rows
theorem ints_of_wellAll {P : Params} {h : Heap} : ∀ (ns : List Int) (vs : List Value), WellAll P h vs (ns.map WData.int) → IntsAre vs ns := by
  intro ns
  induction ns with
  | nil =>
    intro vs w
    rw [List.map_nil] at w
    cases w
    exact .nil
  | cons n ns ih =>
    intro vs w
    rw [List.map_cons] at w
    cases w with
    | cons a b =>
      cases a
      exact .cons _ _ (ih _ b)
theorem script_of {l : OpenLaw} {n : Nat} (hn : l.most = some n) {P : Params} {h : Heap} {args : List WData} {vals : List Value}
    (hpre : l.row.toRowW.claim.pre args = true) (hwl : WellAll P h vals args) :
    ∃ a vs ns, vals = [Value.ref a] ∧ args = [WData.list (ns.map WData.int)] ∧ h.get? a = some { cls := .type "list", data := .seq vs.toArray } ∧ IntsAre vs ns ∧ ns.length ≤ n := by
  have hsh : WShape.hasAll [] args [.list .int] = true := (pre_splitW hpre).1
  have hc : l.pre.holds [] { args := args } = true := (pre_splitW hpre).2
  obtain ⟨d, r, rfl, h1, h2⟩ := hasAllW_cons hsh
  obtain rfl := hasAllW_nil h2
  obtain ⟨xs, rfl, h3⟩ := hasW_list h1
  obtain ⟨ns, rfl⟩ := items_int h3
  have hlen : ns.length ≤ n := by
    unfold OpenLaw.pre at hc
    have h4 : (WTm.not (.lt (.lit (.int (n : Int))) (.len (.arg 0)))).holds [] { args := [.list (ns.map .int)] } = true := by
      have h4 := (holds_andW hc).1
      rw [hn] at h4
      exact h4
    have h5 := condW_of h4 (w_not (w_lt w_lit (w_len_list (w_arg rfl))))
    rw [List.length_map] at h5
    refine Nat.le_of_not_lt fun q => ?_
    have q' : (n : Int) < ((ns.length : Nat) : Int) := by omega
    first
      | (rw [decide_eq_true q'] at h5; exact absurd h5 (by decide))
      | (simp at h5; omega)
  cases hwl with
  | cons w1 w2 =>
    cases w2
    cases w1 with
    | list ho hall => exact ⟨_, _, ns, rfl, rfl, ho, ints_of_wellAll ns _ hall, hlen⟩
theorem post_true (l : OpenLaw) (args : List WData) : l.row.toRowW.claim.post args (.bool true) args = true :=
  postW_of (r := l.row.toRowW) (X := (true == true))
    (show WShape.has [] (.bool true) .bool = true by first | rfl | decide | simp [WShape.has, WShape.arms, WShape.armsAll])
    (show (WTm.eq .res (.lit (.bool true))).value [] { args := args, res := some (.bool true), after := args } = some (.bool (true == true)) from w_eq_bool (w_res rfl) w_lit) rfl
theorem attach_call {l : OpenLaw} {n : Nat} {q : Program} {loose : List Str} {XP : (Str → Option Value) → Heap → Prop} {YP : World → Heap → Prop} {d : DefRec}
    (hn : l.most = some n) (hdf : d.params.defaults = [])
    (call : ∀ (w : World) (s₀ s₁ : Shared) (mg mb : Str → Option Value) (fa : Addr) (o : Obj) (pm cd doc : Value) (a : Addr) (vs : List Value) (ns : List Int),
      Ground q loose [] XP w s₀ mg mb s₁.heap → YP w s₁.heap →
      s₁.heap.get? fa = some o → o.data = .func (docDef d.name d.params d.body d.scope pm cd doc) → s₁.heap.CodeRec cd d.name → mg d.name = some (.ref fa) →
      s₁.heap.get? a = some { cls := .type "list", data := .seq vs.toArray } → IntsAre vs ns → ns.length ≤ n → s₁.gens = #[] →
      codeAny (model l.prog w) callerA (.call (.ref fa) ⟨[.ref a], []⟩) (fun r s' => r = .ok (.ret (.bool true)) ∧ OldK s₁.heap s'.heap ∧ s'.os = s₁.os ∧ AllBare s'.gens) s₁) :
    WalkO q loose XP YP l.row.toRowW d [] (fun f vs => PySem.call f vs) := by
  intro w s₀ s₁ mg mb G Y fa o pm cd doc dV kV ho hd hcd hD hmg hg args vals as hpre hlay hrd hwl hlo
  obtain rfl : dV = .none := Dflts.none hD hdf
  obtain rfl : kV = .none := Dflts.noKw hD
  obtain ⟨a, vs, ns, rfl, rfl, hobj, hints, hlen⟩ := script_of hn hpre hwl
  refine enter_call (codeAny_mono (call w s₀ s₁ mg mb fa o pm cd doc a vs ns G Y ho (fd_plain hd) hcd hmg hobj hints hlen hg) fun r s' hq => ?_)
  obtain ⟨rfl, h2, h3, h4⟩ := hq
  exact ⟨.inl ⟨.bool true, .bool true, [], rfl, fun _ => rfl, .bool true, post_true l _, fun _ => ⟨List.Pairwise.nil, fun _ hm => (nomatch hm)⟩⟩, h2, h3, h4⟩
section
variable {prog : Program} {w : World} {A : Around} {E : Value → Shared → Prop} {s : Shared} {K : Frag}
end
end Att
namespace L2
open PySem PySem.Spec PyProof.Rows
theorem vals_ints : ∀ {vs : List Value} {ns : List Int}, IntsAre vs ns → Vals (ns.map V.int) vs
  | _, _, .nil => .nil
  | _, _, .cons n t h => .cons ⟨t, rfl⟩ (vals_ints h)
end L2
namespace L2
open PySem PySem.Spec PyProof.Rows
end L2
namespace L2
open PySem PySem.Spec PyProof.Rows
noncomputable def defArgs (s : Stmt) : Arguments := match s with
  | .FunctionDef _ a _ _ _ _ _ _ _ _ => a
  | _ => { posonlyargs := [], args := [], vararg := none, kwonlyargs := [], kw_defaults := [], kwarg := none, defaults := [] }
noncomputable def defBody (s : Stmt) : List Stmt := match s with
  | .FunctionDef _ _ b _ _ _ _ _ _ _ => b
  | _ => []
noncomputable def defScope (s : Stmt) : Scope := match s with
  | .FunctionDef _ _ _ _ _ _ sc _ _ _ => sc
  | _ => { kind := .function, names := [], isGenerator := false, isCoroutine := false }
abbrev CX0 : CXT := fun _ _ _ _ _ _ => False
abbrev E0 : XK := fun _ _ _ => False
theorem pass0 {X : Cx} : Passes CX0 X E0 := fun _ _ _ _ _ _ _ h => h.elim
structure Fun (K : PySem.W.Frag) (x qual : Str) (st : Stmt) (f : Addr) (fd : FuncData) : Prop where
  ex : ∃ (oc : Value) (od : Option Addr) (kV doc pm : Value) (an : Option Addr) (cdv ct : Value) (osl : Array (Option Value)),
    fd = PySem.W.fnOf x qual (defArgs st) (defBody st) (defScope st) .none kV doc pm an cdv ct ∧ K.lookup f = some ⟨oc, od, .func fd, osl⟩ ∧ PySem.W.codeIn K cdv qual = true
  kp : PySem.W.keepIn K (.ref f) = true
section
variable {P : Program} {w : World} {K : PySem.W.Frag} {mg : Str → Option Value} {base : Heap}
theorem Fun.ok {x qual : Str} {st : Stmt} {f : Addr} {fd : FuncData} {N ps : List Str} {k : Nat} {sp : Sp} (F : Fun K x qual st f fd) (S : FnScope N ps (defScope st)) (len : ∀ vs H Q E, sp vs H Q E → vs.length = ps.length)
    (hbody : ∀ (cdv : Value) (A : Around) (outer : List Env) (s : Shared) (H : Hp) (vs : List V) (Q : VK) (E : XK), Room k (A.deeper (envOfC qual (defScope st) s.heap.objs.size f cdv)) → sp vs H Q E →
      ∃ t, PSs (cxOf CX0 P w K mg base N qual (defScope st) f cdv A outer s H E).nox (defBody st) t ∧ t { nx := fun _ H' => Q .non H', rt := Q } (start N vs) H) : FnOk P w K mg base CX0 (k + 1) f fd ps sp := by
  obtain ⟨oc, od, kV, doc, pm, an, cdv, ct, osl, rfl, lk, hcd⟩ := F.ex
  refine fn_of lk hcd S len fun A outer s H vs Q E hr hsp => ?_
  obtain ⟨t, h, q⟩ := hbody cdv A outer s H vs Q E hr hsp
  exact ⟨t, h.nox, q⟩
theorem Fun.binds {x qual : Str} {st : Stmt} {f : Addr} {fd : FuncData} {ps : List Str} (F : Fun K x qual st f fd)
    (h : ∀ (kV doc pm : Value) (an : Option Addr) (cdv ct : Value) (us : List Value), us.length = ps.length → bindArgs (PySem.W.fnOf x qual (defArgs st) (defBody st) (defScope st) .none kV doc pm an cdv ct) ⟨us, []⟩ = pure (ps.zip us)) : Binds K fd ps [] := by
  obtain ⟨oc, od, kV, doc, pm, an, cdv, ct, osl, rfl, lk, hcd⟩ := F.ex
  exact .all (h kV doc pm an cdv ct)
theorem fun_mk {x qual : Str} {st : Stmt} {f : Addr} {oc : Value} {od an : Option Addr} {osl : Array (Option Value)} {kV doc pm cdv ct : Value} (l : K.lookup f = some ⟨oc, od, .func (PySem.W.fnOf x qual (defArgs st) (defBody st) (defScope st) .none kV doc pm an cdv ct), osl⟩)
    (c : PySem.W.codeIn K cdv qual = true) (k : PySem.W.keepIn K (.ref f) = true) : Fun K x qual st f (PySem.W.fnOf x qual (defArgs st) (defBody st) (defScope st) .none kV doc pm an cdv ct) := ⟨⟨oc, od, kV, doc, pm, an, cdv, ct, osl, rfl, l, c⟩, k⟩
end
theorem hu_of {A : Around} {k : Nat} (hr : Room k A) : A.units + 1 < cLine := Nat.lt_of_le_of_lt (Nat.add_le_add_left (by decide : 1 ≤ 64) _) hr.units
section
variable {X : Cx}
theorem pv (i : Nat) {x : Str} {pos : Pos} (hN : X.N[i]? = some x := by rfl) (hv : Vis X.env.scope x := by first | exact Or.inl rfl | exact Or.inr (Or.inl rfl) | exact Or.inr (Or.inr rfl)) (hd : (x == ("__debug__" : Str)) = false := by decide)
    (hcd : (x == ("__classdict__" : Str)) = false := by decide) : PE X (.Name x pos) (tVar i) := pe_var hN hv hd hcd
end
theorem iteF {A B : Prop} (h : B) : if false = true then A else B := by
  rw [if_neg Bool.false_ne_true]
  exact h
theorem ite2 {c A B : Prop} [Decidable c] (h1 : c → A) (h2 : ¬ c → B) : if c then A else B := by
  by_cases h : c
  · rw [if_pos h]
    exact h1 h
  · rw [if_neg h]
    exact h2 h
theorem iteNS {c A B : Prop} [Decidable c] (hc : c) (h : B) : if (!decide c) = true then A else B := by
  rw [decide_eq_true hc]
  exact iteF h
noncomputable def Same (H H' : Hp) : Prop := ∀ b o, H b = some o → H' b = some o
theorem Same.refl (H : Hp) : Same H H := fun _ _ h => h
theorem Same.trans {H H1 H2 : Hp} (a : Same H H1) (b : Same H1 H2) : Same H H2 := fun c o h => b c o (a c o h)
theorem Same.free {H H' : Hp} (e : Same H H') {l : Addr} (h : H' l = Option.none) : H l = Option.none := by
  cases q : H l with
  | none => rfl
  | some o =>
    rw [e l o q] at h
    cases h
theorem Same.seq {K : PySem.W.Frag} {H H' : Hp} {a : Addr} {xs : List V} (e : Same H H') (h : SqL K H a xs) : SqL K H' a xs := by
  rcases h with (h | ⟨o, h⟩) | h
  · exact .inl (.inl (e _ _ h))
  · exact .inl (.inr ⟨o, e _ _ h⟩)
  · exact .inr h
end L2
set_option maxRecDepth 100000
namespace L2
open PySem PySem.Spec PyProof.Rows
noncomputable def T (l : List Nat) : Str := ⟨l.toArray⟩
noncomputable def L (z : Str) : List Nat := z.cps.toList
theorem L_T (l : List Nat) : L (T l) = l := by
  unfold L T
  simp
theorem T_L (z : Str) : T (L z) = z := by
  cases z
  simp [T, L]
theorem L_len (z : Str) : (L z).length = z.length := by simp [L, Str.length]
theorem T_len (l : List Nat) : (T l).length = l.length := by simp [T, Str.length]
theorem T_app (a b : List Nat) : T a ++ T b = T (a ++ b) := by
  show Str.append (T a) (T b) = T (a ++ b)
  simp [Str.append, T]
noncomputable def gS : St → Nat → Option V
  | [], _ => none
  | a :: _, 0 => a
  | _ :: r, n + 1 => gS r n
theorem gS_get : ∀ {σ : St} {i : Nat} {v : V}, gS σ i = some v → σ[i]? = some (some v)
  | [], _, _, h => by simp [gS] at h
  | a :: _, 0, v, h => by
    have h : a = some v := h
    simp [h]
  | _ :: r, n + 1, v, h => by
    have h : gS r n = some v := h
    simpa using gS_get h
noncomputable def rVar (i : Nat) : TE := fun σ H Q => match gS σ i with
  | some v => Q v H
  | none => False
section
variable {X : Cx}
theorem qv (i : Nat) {x : Str} {pos : Pos} (hN : X.N[i]? = some x := by rfl) (hv : Vis X.env.scope x := by first | exact Or.inl rfl | exact Or.inr (Or.inl rfl) | exact Or.inr (Or.inr rfl)) (hd : (x == ("__debug__" : Str)) = false := by decide)
    (hcd : (x == ("__classdict__" : Str)) = false := by decide) : PE X (.Name x pos) (rVar i) := by
  intro pins s σ H Q I h
  refine pv i hN hv hd hcd pins s σ H Q I ?_
  unfold rVar at h
  cases e : gS σ i with
  | none => rw [e] at h; exact h.elim
  | some v => rw [e] at h; exact ⟨v, gS_get e, h⟩
noncomputable def addV : R2 := fun x y H Q => match x, y with
  | .int i, .int j => Q (.int (i + j)) H
  | .str a, .str b => (L a).length + (L b).length ≤ sizeLine ∧ Q (.str (T (L a ++ L b))) H
  | .ref l, .ref b => rCat (.ref l) (.ref b) H Q
  | _, _ => False
theorem o_add : OpR X (binaryOp .Add) addV := by
  intro pins s σ H x y v u Q I rx ry h
  cases x <;> cases y <;> first
    | exact False.elim h
    | exact op_add pins s σ H _ _ v u Q I rx ry ⟨_, _, rfl, rfl, h⟩
    | exact op_cat pins s σ H _ _ v u Q I rx ry h
    | (refine op_add_str pins s σ H _ _ v u Q I rx ry ⟨_, _, rfl, rfl, ?_, ?_⟩
       · rw [← L_len, ← L_len]; exact h.1
       · rename_i a b
         have e := T_app (L a) (L b)
         rw [T_L, T_L] at e
         rw [e]; exact h.2)
theorem o_iadd : OpR X (inplaceOp .Add) (fun x y H Q => match x, y with
    | .int i, .int j => Q (.int (i + j)) H
    | .str a, .str b => (L a).length + (L b).length ≤ sizeLine ∧ Q (.str (T (L a ++ L b))) H
    | _, _ => False) := by
  intro pins s σ H x y v u Q I rx ry h
  cases x <;> cases y <;> first
    | exact False.elim h
    | exact iop_add pins s σ H _ _ v u Q I rx ry ⟨_, _, rfl, rfl, h⟩
    | (refine iop_add_str pins s σ H _ _ v u Q I rx ry ⟨_, _, rfl, rfl, ?_, ?_⟩
       · rw [← L_len, ← L_len]; exact h.1
       · rename_i a b
         have e := T_app (L a) (L b)
         rw [T_L, T_L] at e
         rw [e]; exact h.2)
noncomputable def int2 (C : Int → Int → Prop) (g : Int → Int → V) : R2 := fun x y H Q => match x, y with
  | .int i, .int j => C i j ∧ Q (g i j) H
  | _, _ => False
noncomputable def int2' (g : Int → Int → V) : R2 := fun x y H Q => match x, y with
  | .int i, .int j => Q (g i j) H
  | _, _ => False
theorem o_int2 {f : Value → Value → Sem Value} {C : Int → Int → Prop} {g : Int → Int → V} (h : OpR X f (rI C g)) : OpR X f (int2 C g) := by
  intro pins s σ H x y v u Q I rx ry q
  cases x <;> cases y <;> first
    | exact False.elim q
    | exact h pins s σ H _ _ v u Q I rx ry ⟨_, _, rfl, rfl, q.1, q.2⟩
theorem o_int2' {f : Value → Value → Sem Value} {g : Int → Int → V} (h : OpR X f (rI0 g)) : OpR X f (int2' g) := by
  intro pins s σ H x y v u Q I rx ry q
  cases x <;> cases y <;> first
    | exact False.elim q
    | exact h pins s σ H _ _ v u Q I rx ry ⟨_, _, rfl, rfl, q⟩
abbrev subV : R2 := int2' fun i j => .int (i - j)
theorem o_sub : OpR X (binaryOp .Sub) subV := o_int2' op_sub
abbrev modV : R2 := int2 (fun _ j => 0 < j) fun i j => .int (i % j)
theorem o_mod : OpR X (binaryOp .Mod) modV := o_int2 op_mod
abbrev powV : R2 := int2 CPow fun i j => .int (i ^ j.toNat)
theorem o_pow : OpR X (binaryOp .Pow) powV := o_int2 op_pow
noncomputable def rep (n : Nat) (l : List Nat) : List Nat := (List.replicate n l).flatten
theorem foldl_app (c : List (Array Nat)) : ∀ a : Array Nat, (c.foldl (fun x y => x ++ y) a).toList = a.toList ++ (c.map Array.toList).flatten := by
  induction c with
  | nil => intro a; simp
  | cons x r ih => intro a; simp [ih]
theorem mul_T (z : Str) (n : Int) : Txt.mul z n = T (rep n.toNat (L z)) := by
  unfold Txt.mul rep
  by_cases h1 : n < 1
  · rw [if_pos h1]
    have : n.toNat = 0 := by omega
    rw [this]
    rfl
  · rw [if_neg h1]
    by_cases h2 : (n == 1 || z.length == 0) = true
    · rw [if_pos h2]
      rcases Bool.or_eq_true _ _ |>.mp h2 with e | e
      · have : n = 1 := by simpa using e
        subst this
        show z = T (List.flatten [L z])
        simp [T_L]
      · have e0 : z.length = 0 := by simpa using e
        have e1 : L z = [] := List.eq_nil_of_length_eq_zero (by rw [L_len]; exact e0)
        rw [e1]
        have e2 : z = T [] := by rw [← e1, T_L]
        rw [e2]
        congr 1
        simp
    · rw [if_neg h2]
      have e := foldl_app (List.replicate n.toNat z.cps) #[]
      rw [← T_L ⟨_⟩]
      congr 1
      show (List.foldl (fun x y => x ++ y) #[] (List.replicate n.toNat z.cps)).toList = _
      rw [e]
      simp [L]
noncomputable def mulV : R2 := fun x y H Q => match x, y with
  | .int i, .int j => CMul i j ∧ Q (.int (i * j)) H
  | .str a, .int n => (-(2 ^ 63) ≤ n ∧ n < 2 ^ 63 ∧ (L a).length * n.toNat ≤ sizeLine) ∧ Q (.str (T (rep n.toNat (L a)))) H
  | .ref l, .int k => rRep (.ref l) (.int k) H Q
  | _, _ => False
theorem o_mul : OpR X (binaryOp .Mult) mulV := by
  intro pins s σ H x y v u Q I rx ry h
  cases x <;> cases y <;> first
    | exact False.elim h
    | exact op_mul pins s σ H _ _ v u Q I rx ry ⟨_, _, rfl, rfl, h.1, h.2⟩
    | exact op_rep pins s σ H _ _ v u Q I rx ry h
    | (rename_i a n
       obtain ⟨t, e⟩ := rx
       obtain ⟨t', e'⟩ := ry
       subst e e'
       obtain ⟨⟨h1, h2, h3⟩, q⟩ := h
       rw [L_len] at h3
       have hl : sizeLine = 16777216 := sizeLine_eq
       refine SB.mul ⟨?_, fun h4 h5 => ?_, fun h4 h5 => ?_⟩ fun t' k => ?_
       · rw [decide_eq_false (by omega), decide_eq_false (by omega)]; rfl
       · intro h6
         have h7 : n ≤ (a.length : Int) * n := by
           have h8 : a.length ≠ 0 := by
             intro z
             rw [z] at h5
             simp at h5
           have h9 : (1 : Int) ≤ (a.length : Int) := by omega
           calc n = 1 * n := by omega
             _ ≤ (a.length : Int) * n := Int.mul_le_mul_of_nonneg_right h9 (by omega)
         have h10 : (a.length : Int) * n ≤ 16777216 := by
           have : ((a.length * n.toNat : Nat) : Int) ≤ 16777216 := by omega
           rw [Int.natCast_mul, Int.toNat_of_nonneg (by omega)] at this
           exact this
         have h11 : (a.length : Int) ≤ (2 ^ 63 - 1) / n := by
           rw [Int.le_ediv_iff_mul_le (by omega)]
           omega
         omega
       · unfold Builtin.Str.tooLong
         exact decide_eq_false (by omega)
       · exact ⟨.str (T (rep n.toNat (L a))), H, I.tok _, ⟨_, by rw [mul_T]⟩, q⟩)
noncomputable def ltV : R2 := fun x y H Q => match x, y with
  | .int i, .int j => Q (.bl (decide (i < j))) H
  | .str a, .str b => Q (.bl (decide (L a < L b))) H
  | _, _ => False
theorem o_lt : OpR X (compareOp .Lt) ltV := by
  intro pins s σ H x y v u Q I rx ry h
  cases x <;> cases y <;> first
    | exact False.elim h
    | exact op_lt pins s σ H _ _ v u Q I rx ry ⟨_, _, rfl, rfl, h⟩
    | exact op_lt_str pins s σ H _ _ v u Q I rx ry ⟨_, _, rfl, rfl, h⟩
abbrev gtV : R2 := int2' fun i j => .bl (decide (j < i))
theorem o_gt : OpR X (compareOp .Gt) gtV := o_int2' op_gt
noncomputable def sc : V → V → Option Bool
  | .int i, .int j => some (decide (i = j))
  | .str a, .str b => some (decide (L a = L b))
  | .bl a, .bl b => some (decide (a = b))
  | .non, .non => some true
  | .non, .int _ => some false | .int _, .non => some false | .non, .bl _ => some false | .bl _, .non => some false | .non, .str _ => some false | .str _, .non => some false
  | .int _, .str _ => some false | .str _, .int _ => some false | .bl _, .str _ => some false | .str _, .bl _ => some false
  | _, _ => none
theorem L_inj {a b : Str} : L a = L b ↔ a = b := by
  constructor
  · intro h
    rw [← T_L a, ← T_L b, h]
  · intro h
    rw [h]
theorem sc_eq {x y : V} {b : Bool} (h : sc x y = some b) : scal x y = true ∧ b = decide (x = y) := by
  cases x <;> cases y <;> first
    | exact (nomatch (show (none : Option Bool) = some b from h))
    | (have h := Option.some.inj h
       subst h
       refine ⟨rfl, ?_⟩
       simp [L_inj])
noncomputable def eqR : R2 := fun x y H Q => match sc x y with
  | some b => Q (.bl b) H
  | none => False
noncomputable def neR : R2 := fun x y H Q => match sc x y with
  | some b => Q (.bl (!b)) H
  | none => False
theorem o_eq : OpR X (compareOp .Eq) eqR := by
  intro pins s σ H x y v u Q I rx ry h
  unfold eqR at h
  cases e : sc x y with
  | none => rw [e] at h; exact h.elim
  | some b =>
    rw [e] at h
    obtain ⟨h1, h2⟩ := sc_eq e
    subst h2
    exact op_eq pins s σ H x y v u Q I rx ry ⟨h1, h⟩
theorem o_ne : OpR X (compareOp .NotEq) neR := by
  intro pins s σ H x y v u Q I rx ry h
  unfold neR at h
  cases e : sc x y with
  | none => rw [e] at h; exact h.elim
  | some b =>
    rw [e] at h
    obtain ⟨h1, h2⟩ := sc_eq e
    subst h2
    exact op_ne pins s σ H x y v u Q I rx ry ⟨h1, h⟩
noncomputable def isV : R2 := fun x y H Q => match y, x with
  | .non, x => Q (.bl (decide (x = .non))) H
  | .bl b, .bl c => Q (.bl (c == b)) H
  | _, _ => False
noncomputable def isntV : R2 := fun x y H Q => match y, x with
  | .non, x => Q (.bl (!decide (x = .non))) H
  | .bl b, .bl c => Q (.bl (c != b)) H
  | _, _ => False
noncomputable def ixV (K : PySem.W.Frag) : R2 := fun x y H Q => match x, y with
  | .str z, .int i => (L z).length ≤ sizeLine ∧ ∃ c, atI (L z) i = some c ∧ Q (.str (T [c])) H
  | .ref p, .int i => ∃ xs v, (SqL K H p xs ∨ SqT K H p xs) ∧ atI xs i = some v ∧ Q v H
  | _, _ => False
theorem i_ix : IxR X (ixV X.K) := by
  intro value slice pins s σ H x y v u Q I rx ry h hs
  cases x <;> cases y <;> first
    | exact False.elim h
    | (obtain ⟨hz, c, e, q⟩ := h
       exact ix_str value slice pins s σ H _ _ v u Q I rx ry ⟨_, _, c, rfl, rfl, (by rw [← L_len]; exact hz), e, q⟩ hs)
    | (obtain ⟨xs, w, e | e, ei, q⟩ := h
       · exact ix_list value slice pins s σ H _ _ v u Q I rx ry ⟨_, xs, _, w, rfl, rfl, e, ei, q⟩ hs
       · exact ix_tup value slice pins s σ H _ _ v u Q I rx ry ⟨_, xs, _, w, rfl, rfl, e, ei, q⟩ hs)
noncomputable def cut {α : Type} (xs : List α) (lo hi : Option Int) : List α := (xs.drop (HT.sIx xs.length 0 lo)).take (HT.sIx xs.length xs.length hi - HT.sIx xs.length 0 lo)
theorem cut_len {α : Type} (xs : List α) (lo hi : Option Int) : (cut xs lo hi).length ≤ xs.length := by
  unfold cut
  rw [List.length_take, List.length_drop]
  omega
theorem range_eq (a b : Nat) : sliceRange (a : Int) (b : Int) 1 = (List.range (b - a)).map fun k => a + k := by
  unfold sliceRange
  have h1 : (1 : Int) > 0 := by decide
  simp only [h1, if_true]
  have e2 : (if (a : Int) < (b : Int) then ((b : Int) - (a : Int) + 1 - 1) / 1 else 0).toNat = b - a := by
    split <;> omega
  rw [e2]
  apply List.map_congr_left
  intro k _
  omega
theorem ixs_eq (lo hi : Option Int) (n : Nat) : Builtin.Str.strSliceIndices lo hi 1 n = (List.range (HT.sIx n n hi - HT.sIx n 0 lo)).map fun k => HT.sIx n 0 lo + k := by
  rw [← range_eq]
  have h1 : (1 : Int) > 0 := by decide
  have cl : ∀ (i : Int) (d : Nat), max 0 (min (if i < 0 then i + (n : Int) else i) (n : Int)) = ((HT.sIx n d (some i) : Nat) : Int) := by
    intro i d
    show max 0 (min (if i < 0 then i + (n : Int) else i) (n : Int)) = (((if i < 0 then (i + (n : Int)).toNat else min i.toNat n) : Nat) : Int)
    by_cases hi : i < 0
    · rw [if_pos hi, if_pos hi]; omega
    · rw [if_neg hi, if_neg hi]; omega
  unfold Builtin.Str.strSliceIndices
  simp only [h1, if_true]
  cases lo with
  | none =>
    cases hi with
    | none => rfl
    | some j =>
      simp only [cl j n]
      rfl
  | some i =>
    cases hi with
    | none =>
      simp only [cl i 0]
      rfl
    | some j => simp only [cl i 0, cl j n]
theorem pick_L (l : List Nat) (a : Nat) : ∀ k : Nat, ((List.range k).map fun m => a + m).filterMap (fun i => l[i]?) = (l.drop a).take k
  | 0 => by simp
  | k + 1 => by
    rw [List.range_succ, List.map_append, List.filterMap_append, pick_L l a k, List.take_succ, List.getElem?_drop]
    cases e : l[a + k]? <;> simp [e]
theorem slice_T (z : Str) (lo hi : Option Int) : Txt.slice z lo hi = T (cut (L z) lo hi) := by
  unfold Txt.slice
  rw [ixs_eq]
  have e0 : (fun i : Nat => z.cps[i]?) = fun i : Nat => (L z)[i]? := by
    funext i
    simp [L]
  have hl : (L z).length = z.length := L_len z
  have h1 := HT.sIx_le z.length z.length (Nat.le_refl _) hi
  have e : T (cut (L z) lo hi) = ⟨(((List.range (HT.sIx z.length z.length hi - HT.sIx z.length 0 lo)).map fun k => HT.sIx z.length 0 lo + k).filterMap fun i => z.cps[i]?).toArray⟩ := by
    rw [e0, pick_L]
    unfold cut T
    rw [hl]
  rw [← e]
  split
  · rename_i h
    rw [List.length_map, List.length_range] at h
    have h2 : HT.sIx z.length z.length hi - HT.sIx z.length 0 lo = z.length := by simpa using h
    have h3 : HT.sIx z.length 0 lo = 0 := by
      by_cases hz : z.length = 0
      · have := HT.sIx_le z.length 0 (Nat.zero_le _) lo
        omega
      · omega
    unfold cut
    rw [hl, h2, h3, List.drop_zero, ← hl, List.take_length, T_L]
  · rfl
noncomputable def slV (K : PySem.W.Frag) : V → Option Int → Option Int → Hp → VK → Prop := fun x lo hi H Q => match x with
  | .str z => (L z).length ≤ sizeLine ∧ Q (.str (T (cut (L z) lo hi))) H
  | .ref p => ∃ xs, SqL K H p xs ∧ ∀ q, H q = none → Q (.ref q) (upd H q (.lst (cut xs lo hi)))
  | _ => False
theorem part_of {v : Value} {o : Option Int} (h : IsPart v o) : ∃ q : Option (Int × Tok), v = partValue q ∧ q.map (·.1) = o := by
  cases h with
  | none => exact ⟨none, rfl, rfl⟩
  | int i t => exact ⟨some (i, t), rfl, rfl⟩
theorem s_sl : SlR X (slV X.K) := by
  intro pins s σ H x v vl vu lo hi sl Q I rx hs pl pu h
  cases x with
  | str z =>
    obtain ⟨hz, q⟩ := h
    obtain ⟨t, rfl⟩ := rx
    obtain ⟨l, rfl, el⟩ := part_of pl
    obtain ⟨u, rfl, eu⟩ := part_of pu
    refine ⟨"str", _, F.slot_str_getitem.lookup, typeIs_str _ _ _, ?_⟩
    refine wpAny_getItem_str_slice (l := l) (u := u) (st := none) hs rfl ?_
    refine post_val_or_str ⟨?_, fun t' k => ?_⟩
    · show (Txt.slice z (l.map (·.1)) (u.map (·.1))).length ≤ sizeLine
      refine Nat.le_trans (Txt.slice_le z _ _) ?_
      rw [← L_len]
      exact hz
    · refine ⟨.str (T (cut (L z) lo hi)), H, I.tok _, ⟨t', ?_⟩, q⟩
      show Value.str (Txt.slice z (l.map (·.1)) (u.map (·.1))) t' = _
      rw [slice_T, el, eu]
  | ref p =>
    obtain ⟨xs, hx, q⟩ := h
    exact sl_list pins s σ H _ v vl vu lo hi sl Q I rx hs pl pu ⟨p, xs, rfl, hx, q⟩
  | _ => exact False.elim h
noncomputable def lenV (K : PySem.W.Frag) : List V → Hp → VK → Prop := fun xs H Q => match xs with
  | [.str z] => (L z).length ≤ sizeLine ∧ Q (.int (L z).length) H
  | [.ref p] => ∃ ys, (SqL K H p ys ∨ SqT K H p ys) ∧ Q (.int ys.length) H
  | _ => False
theorem c_len : CallR X (.builtin "len") (lenV X.K) := by
  intro pins s σ H xs us Q I r h
  unfold lenV at h
  split at h
  · exact call_len_str pins s σ H _ us Q I r ⟨_, rfl, by rw [← L_len]; exact h.1, by rw [← L_len]; exact h.2⟩
  · obtain ⟨ys, hy, q⟩ := h
    exact call_len_seq pins s σ H _ us Q I r ⟨_, ys, rfl, hy, q⟩
  · exact h.elim
noncomputable def ordV : List V → Hp → VK → Prop := fun xs H Q => match xs with
  | [.str z] => ∃ c, L z = [c] ∧ Q (.int c) H
  | _ => False
theorem c_ord : CallR X (.builtin "ord") ordV := by
  intro pins s σ H xs us Q I r h
  unfold ordV at h
  split at h
  · rename_i z
    obtain ⟨c, e, q⟩ := h
    refine call_ord pins s σ H _ us Q I r ⟨z, rfl, by rw [← L_len, e]; rfl, ?_⟩
    have : z = T [c] := by rw [← e, T_L]
    rw [this]
    exact q
  · exact h.elim
noncomputable def joinL (sep : List Nat) : List (List Nat) → List Nat
  | [] => []
  | [x] => x
  | x :: y :: r => x ++ sep ++ joinL sep (y :: r)
theorem joinL_nil : ∀ xs : List (List Nat), joinL [] xs = xs.flatten
  | [] => rfl
  | [x] => by simp [joinL]
  | x :: y :: r => by
    rw [joinL, joinL_nil (y :: r)]
    simp
theorem join_T (sep : Str) : ∀ ys : List Str, Str.join sep ys = T (joinL (L sep) (ys.map L))
  | [] => rfl
  | [x] => by
    show x = T (L x)
    rw [T_L]
  | x :: y :: r => by
    show x ++ sep ++ Str.join sep (y :: r) = T (L x ++ L sep ++ joinL (L sep) ((y :: r).map L))
    rw [join_T sep (y :: r), ← T_app, ← T_app, T_L, T_L]
theorem strs_of : ∀ {zs : List Str} {us : List Value}, Vals (zs.map V.str) us → StrsAre us zs := by
  intro zs
  induction zs with
  | nil => intro us r; cases r; exact .nil
  | cons z r ih =>
    intro us h
    rw [List.map_cons] at h
    cases h with
    | cons r1 r2 =>
      obtain ⟨t, rfl⟩ := r1
      exact .cons z t (ih r2)
noncomputable def joinV (K : PySem.W.Frag) : V → List V → Hp → VK → Prop := fun x xs H Q => match x, xs with
  | .str a, [.ref p] => ∃ zs : List (List Nat), SqL K H p (zs.map fun l => V.str (T l)) ∧ (zs.map List.length).sum + zs.length * (L a).length ≤ sizeLine ∧ Q (.str (T (joinL (L a) zs))) H
  | _, _ => False
theorem m_join : MtR X "str.join" (joinV X.K) := by
  intro pins s σ H x xs v us Q I rx rs h
  unfold joinV at h
  split at h
  · rename_i a p
    obtain ⟨zs, hp, hz, q⟩ := h
    obtain ⟨t, rfl⟩ := rx
    obtain ⟨u, rfl, ru⟩ := vals1 rs
    cases ru
    obtain ⟨its, r', pl, _⟩ := I.list hp
    have e : (zs.map fun l => V.str (T l)) = (zs.map T).map V.str := by simp
    rw [e] at r'
    have hl : sizeLine = 16777216 := sizeLine_eq
    refine join_list (ys := zs.map T) pl.isList (by simpa using strs_of r') ?_ fun t' k => ?_
    · rw [List.map_map, List.length_map, ← L_len a]
      have : (Str.length ∘ T) = List.length := by
        funext l
        exact T_len l
      rw [← hl]
      show (List.map (Str.length ∘ T) zs).sum + _ ≤ _
      rw [this]
      exact hz
    · refine ⟨.str (T (joinL (L a) zs)), H, I.tok _, ⟨t', ?_⟩, q⟩
      show Value.str (Txt.join a (zs.map T)) t' = _
      have e2 : Txt.join a (zs.map T) = Str.join a (zs.map T) := StrLaws.glued_eq_join _ _
      rw [e2, join_T, List.map_map]
      congr 3
      simp [L_T, Function.comp_def]
  · exact h.elim
end
end L2
set_option maxRecDepth 100000
namespace L2
open PySem PySem.Spec PyProof.Rows
theorem ObjOk.forget {P : Program} {w : World} {H H' : Hp} {h h' : Heap} {a : Addr} {o : HO} (x : ObjOk P w H h a o) (y : ObjOk P w H' h' a o) : ObjOk P w H h' a o := by
  induction o with
  | frz ob u ih => exact ⟨y.1, ih x.2 y.2⟩
  | ins C dx fs => exact ⟨x.1, y.2⟩
  | dT kvs => exact False.elim x
  | _ => exact y
theorem HOk.forget {P : Program} {w : World} {H H' : Hp} {h h' : Heap} (x : HOk P w H h) (y : HOk P w H' h') (sm : Same H H') : HOk P w H h' := fun a o e => (x a o e).forget (y a o (sm a o e))
section
variable {X : Cx} {pins : List (Addr × Obj)} {σ σ' : St} {H H' : Hp} {s s' : Shared}
theorem Inv.forget (I : Inv X pins σ H s) (J : Inv X pins σ' H' s') (sm : Same H H') : Inv X pins σ' H s' :=
  ⟨J.ok, J.os, J.bare, ⟨J.base.keep, J.base.slot, I.base.free, J.base.there, I.base.tups, I.base.frzs, I.base.tbls⟩, J.loc, J.cell, I.free, I.freeC,
    fun p hp => ⟨(J.pin p hp).1, (I.pin p hp).2.1, (J.pin p hp).2.2⟩, I.hok.forget J.hok sm, J.len⟩
theorem Same.upd {H H' : Hp} {a : Addr} {o : HO} (e : Same H H') (n : H' a = none) : Same H (upd H' a o) := fun b u q => by
  have q' := e b u q
  rw [upd_ne (ne_of_none q' n)]
  exact q'
theorem Same.updN {H : Hp} {a : Addr} {o : HO} (n : H a = none) : Same H (L2.upd H a o) := Same.upd (Same.refl H) n
noncomputable def tFE (t : TE) : TE := fun σ H Q => t σ H fun v H' => Same H H' ∧ Q v H
end
structure Fn (P : Program) (w : World) (K : PySem.W.Frag) (mg : Str → Option Value) (base : Heap) (k : Nat) (x : Str) (ps : List Str) (sp : Sp) : Prop where
  ex : ∃ f fd, FnOk P w K mg base CX0 k f fd ps sp ∧ mg x = some (.ref f) ∧ PySem.W.keepIn K (.ref f) = true ∧ Binds K fd ps []
section
variable {P : Program} {w : World} {K : PySem.W.Frag} {mg : Str → Option Value} {base : Heap}
theorem Fn.mono {j k : Nat} {x : Str} {ps : List Str} {sp : Sp} (F : Fn P w K mg base j x ps sp) (h : j ≤ k) : Fn P w K mg base k x ps sp := by
  obtain ⟨f, fd, F, r⟩ := F.ex
  exact ⟨f, fd, F.mono h, r⟩
theorem Fun.pure {x qual : Str} {st : Stmt} {f : Addr} {fd : FuncData} {N ps : List Str} {k : Nat} {sp : Sp} (F : Fun K x qual st f fd) (S : FnScope N ps (defScope st)) (len : ∀ vs H Q E, sp vs H Q E → vs.length = ps.length)
    (hbody : ∀ (cdv : Value) (A : Around) (outer : List Env) (s : Shared) (H : Hp) (vs : List V) (Q : VK) (E : XK), Room k (A.deeper (envOfC qual (defScope st) s.heap.objs.size f cdv)) → sp vs H Q E →
      ∃ t, PSs (cxOf CX0 P w K mg base N qual (defScope st) f cdv A outer s H E).nox (defBody st) t ∧ t { nx := fun _ H' => Same H H' ∧ Q .non H, rt := fun v H' => Same H H' ∧ Q v H } (start N vs) H) : FnOk P w K mg base CX0 (k + 1) f fd ps sp := by
  have F1 : FnOk P w K mg base CX0 (k + 1) f fd ps (fun vs H Q' E => ∃ Q, sp vs H Q E ∧ Q' = fun v H' => Same H H' ∧ Q v H) := by
    refine F.ok S (fun vs H Q E ⟨Q0, h, _⟩ => len vs H Q0 E h) fun cdv A outer s H vs Q E hr ⟨Q0, h, e⟩ => ?_
    subst e
    exact hbody cdv A outer s H vs Q0 E hr h
  refine ⟨len, fun A outer s H args us vs Q E hr e0 hb r hsp => ?_⟩
  refine codeAny_mono (F1.run A outer s H args us vs (fun v H' => Same H H' ∧ Q v H) E hr e0 hb r ⟨Q, hsp, rfl⟩) fun r s' h => ?_
  cases r with
  | error e => exact h
  | ok fl =>
    cases fl with
    | ret u =>
      obtain ⟨v, H', os, bare, un, hok, rv, sm, q⟩ := h
      exact ⟨v, H, os, bare, ⟨un.keep, un.slot, fun _ _ _ n _ => n, un.there, fun _ _ q => q, fun _ _ _ q => q, fun _ ps q => ⟨#[], by rw [q]; simp⟩⟩, e0.hok.forget hok sm, rv, q⟩
    | next => exact h
    | brk => exact h
    | cont => exact h
end
section
variable {X : Cx} {k : Nat} {x : Str} {ps : List Str} {sp : Sp} {p pos : Pos} {e : Expr} {es : List Expr} {t : TA}
noncomputable def tFn (sp : Sp) (t : TA) : TE := fun σ H Q => t σ H fun vs H1 => sp vs H1 Q E0
theorem pe_fn (F : Fn X.prog X.w X.K X.mg X.base k x ps sp) (hr : Room k X.A) (ha : PA X (e :: es) t) (hg : Gl X x := by rfl) (hdb : (x == ("__debug__" : Str)) = false := by decide)
    (he : starEach (e :: es) X.env = (false, eval e X.env) :: starEach es X.env := by rfl) (hpl : (backTo pos (starEach es X.env)).any (·.1) = false := by rfl) : PE X (.Call (.Name x p) (e :: es) [] pos) (tFn sp t) := by
  obtain ⟨f, fd, F, hm, hk, hb⟩ := F.ex
  intro pins s σ H Q I h
  refine pe_call F hr hg hm hk hb .nil pass0 ha hdb he hpl pins s σ H Q I ?_
  show t σ H fun vs H1 => sp (vs ++ []) H1 Q E0
  simp only [List.append_nil]
  exact h
theorem pe_fn0 (F : Fn X.prog X.w X.K X.mg X.base k x ps sp) (hr : Room k X.A) (hg : Gl X x := by rfl) (hdb : (x == ("__debug__" : Str)) = false := by decide) : PE X (.Call (.Name x p) [] [] pos) (fun _ H Q => sp [] H Q E0) := by
  obtain ⟨f, fd, F, hm, hk, hb⟩ := F.ex
  intro pins s σ H Q I h
  exact pe_call0 F hr hg hm hk hb .nil pass0 hdb pins s σ H Q I h
end
noncomputable def closL : List (Str × NameKind) → List (Str × Addr) → List (Str × Addr) → Option (List (Str × Addr))
  | [], _, acc => some acc
  | (n, k) :: r, cells, acc => if k == .free then (match cells.lookup n with
      | some c => closL r cells ((n, c) :: acc)
      | none => none) else closL r cells acc
theorem closureFor_L {scope : Scope} {env : Env} {cl : List (Str × Addr)} (h : closL scope.names env.cells [] = some cl) : closureFor scope env = pure cl := by
  have all : ∀ (names : List (Str × NameKind)) (acc : List (Str × Addr)), closL names env.cells acc = some cl →
      (do
        let mut cs := acc
        for (name, kind) in names do
          if kind == .free then cs := (name, ← cellOf env name) :: cs
        return cs : Sem (List (Str × Addr))) = pure cl := by
    intro names
    induction names with
    | nil =>
      intro acc h
      cases Option.some.inj (show some acc = some cl from h)
      rfl
    | cons x r ih =>
      intro acc h
      obtain ⟨n, k⟩ := x
      unfold closL at h
      dsimp only at ih ⊢
      rw [List.forIn_cons]
      dsimp only
      cases hk : (k == NameKind.free) with
      | false =>
        rw [hk] at h
        simp only [hk, Bool.false_eq_true, if_false] at h ⊢
        exact ih acc h
      | true =>
        rw [hk] at h
        simp only [hk, if_true] at h ⊢
        cases hc : env.cells.lookup n with
        | none => rw [hc] at h; cases h
        | some c =>
          rw [hc] at h
          unfold cellOf
          simp only [hc]
          exact ih ((n, c) :: acc) h
  exact all scope.names [] h
theorem closL_in {cells : List (Str × Addr)} {cl : List (Str × Addr)} : ∀ (names : List (Str × NameKind)) (acc : List (Str × Addr)), closL names cells acc = some cl →
    (∀ x c, acc.lookup x = some c → cells.lookup x = some c) → (∀ x c, cl.lookup x = some c → cells.lookup x = some c) ∧ ∀ x, ((∃ c, acc.lookup x = some c) ∨ names.lookup x = some .free) → ∃ c, cl.lookup x = some c
  | [], acc, h, ha => by
    cases Option.some.inj (show some acc = some cl from h)
    exact ⟨ha, fun x hx => hx.elim id fun z => by simp at z⟩
  | (n, k) :: r, acc, h, ha => by
    unfold closL at h
    cases hk : (k == NameKind.free) with
    | false =>
      rw [hk] at h
      simp only [Bool.false_eq_true, if_false] at h
      obtain ⟨h1, h2⟩ := closL_in r acc h ha
      refine ⟨h1, fun x hx => h2 x (hx.imp id fun z => ?_)⟩
      rw [List.lookup_cons] at z
      cases hx : x == n with
      | true =>
        rw [hx] at z
        cases Option.some.inj z
        cases hk
      | false => rw [hx] at z; exact z
    | true =>
      rw [hk] at h
      simp only [if_true] at h
      cases hc : cells.lookup n with
      | none => rw [hc] at h; cases h
      | some c =>
        rw [hc] at h
        obtain ⟨h1, h2⟩ := closL_in r ((n, c) :: acc) h (fun x d hx => by
          rw [List.lookup_cons] at hx
          cases e : x == n with
          | true =>
            rw [e] at hx
            cases Option.some.inj hx
            rw [eq_of_beq e]
            exact hc
          | false => rw [e] at hx; exact ha x d hx)
        refine ⟨h1, fun x hx => ?_⟩
        cases e : x == n with
        | true => exact h2 x (.inl ⟨c, by rw [List.lookup_cons, e]⟩)
        | false =>
          refine h2 x ?_
          rcases hx with ⟨d, hd⟩ | hx
          · exact .inl ⟨d, by rw [List.lookup_cons, e]; exact hd⟩
          · rw [List.lookup_cons, e] at hx
            exact .inr hx
theorem relabel_of {scope : Scope} {env : Env} {x : Str} {k : NameKind} (h : scope.names.lookup x = some k) : (relabel scope env).names.lookup x = some (if (k == .free && env.scope.kind == .function && env.kindOf x == some .cell) = true then .cell else k) := by
  unfold relabel
  dsimp only
  generalize scope.names = names at h
  induction names with
  | nil => simp at h
  | cons y r ih =>
    obtain ⟨n, j⟩ := y
    rw [List.map_cons]
    rw [List.lookup_cons] at h
    cases e : x == n with
    | true =>
      rw [e] at h
      cases Option.some.inj h
      have en := eq_of_beq e
      subst en
      dsimp only
      split <;> rw [List.lookup_cons, beq_self_eq_true]
    | false =>
      rw [e] at h
      have := ih h
      dsimp only
      split <;> (rw [List.lookup_cons, e]; exact this)
theorem relabel_none {scope : Scope} {env : Env} {x : Str} (h : scope.names.lookup x = none) : (relabel scope env).names.lookup x = none := by
  unfold relabel
  dsimp only
  generalize scope.names = names at h
  induction names with
  | nil => rfl
  | cons y r ih =>
    obtain ⟨n, j⟩ := y
    rw [List.map_cons]
    rw [List.lookup_cons] at h
    cases e : x == n with
    | true => rw [e] at h; cases h
    | false =>
      rw [e] at h
      have := ih h
      dsimp only
      split <;> (rw [List.lookup_cons, e]; exact this)
noncomputable def PFs (X : Cx) (ifs : List Expr) (t : TT) : Prop :=
  ∀ (pins : List (Addr × Obj)) (s : Shared) (σ : St) (H : Hp) (Q : Bool → Hp → Prop), Inv X pins σ H s → t σ H Q →
    wpAny (model X.prog X.w) X.A (forIn ifs true fun c r => if r = true then do let ok ← isTrue c X.env (eval c X.env); pure (ForInStep.yield ok) else pure (ForInStep.yield r)) (TP X pins σ Q) X.xe s
theorem pf_nil {X : Cx} : PFs X [] (fun _ H Q => Q true H) := fun _ _ _ H _ I h => wpAny_tests_nil ⟨H, I, h⟩
noncomputable def CapOk (X : Cx) (scope : Scope) : List (Str × Nat) → Prop
  | [] => True
  | (x, j) :: r => (X.N[j]? = some x ∧ X.env.scope.names.lookup x = some .cell ∧ scope.names.lookup x = some .free) ∧ CapOk X scope r
theorem CapOk.get {X : Cx} {scope : Scope} : ∀ {cp : List (Str × Nat)} {i : Nat} {x : Str} {j : Nat}, CapOk X scope cp → cp[i]? = some (x, j) → X.N[j]? = some x ∧ X.env.scope.names.lookup x = some .cell ∧ scope.names.lookup x = some .free
  | [], _, _, _, _, e => by simp at e
  | (y, k) :: r, 0, x, j, h, e => by
    simp at e
    obtain ⟨rfl, rfl⟩ := e
    exact h.1
  | _ :: r, i + 1, x, j, h, e => CapOk.get (cp := r) (i := i) h.2 (by simpa using e)
noncomputable def capS (n : Nat) (cp : List (Str × Nat)) (σ : St) : St := List.replicate n none ++ cp.map fun p => gS σ p.2
noncomputable def cxC (X : Cx) (scope : Scope) (cl : List (Str × Addr)) (N : List Str) (fp : List Addr) (C : Addr) (s : Shared) (H : Hp) : Cx :=
  { X with N := N, s₀ := s, H₀ := H, env := compEnvC scope cl C X.env, outer := X.stack, stack := X.stack, ex := fp, fn := fun _ => false, pn := [], xe := fun _ _ => False }
noncomputable def GKeep (n : Nat) (g : TG) : Prop := ∀ x σ H Q, g x σ H Q → g x σ H fun σ' H' => Q σ' H' ∧ ∀ j : Nat, n ≤ j → σ'[j]? = σ[j]?
theorem gk_name {n i : Nat} (h : i < n) : GKeep n (gName i) := fun x σ H Q q => ⟨q, fun j hj => List.getElem?_set_ne (by omega)⟩
noncomputable def tComp (n : Nat) (cp : List (Str × Nat)) (wi : TI) (g : TG) (tc : TT) (te : TE) : TE := fun σ H Q => wi σ H fun J H1 => ∃ W : Nat → Nat → Hp → List V → Prop, (∃ m, W 0 m H1 []) ∧ ∀ i m H2 acc, W i m H2 acc →
  acc.length < sizeLine ∧ ((J.stop i H2 ∧ ∀ l, H2 l = none → Q (.ref l) (upd H2 l (.lst acc))) ∨
    (J.go i H2 ∧ ∀ x H3, J.yld i H2 x H3 → g x (capS n cp σ) H3 fun σ' H4 => tc σ' H4 fun b H5 => if b = true then te σ' H5 fun y H6 => ∃ m', m' < m ∧ W (i + 1) m' H6 (acc ++ [y]) else ∃ m', m' < m ∧ W (i + 1) m' H5 acc))
abbrev lobj (its : List Value) (n : Nat) : Obj := { cls := .type "list", data := .seq its.toArray n }
section
variable {X : Cx} {pins : List (Addr × Obj)} {σ : St} {H2 : Hp} {s2 : Shared} {scope : Scope} {cl : List (Str × Addr)} {own : List Str} {cp : List (Str × Nat)} {fp : List Addr} {C D : Addr} {h1 : Heap}
theorem comp_ok (I : Inv X pins σ H2 s2) (hcl : closL scope.names X.env.cells [] = some cl) (hk : scope.kind = .function) (hnc : ∀ y ∈ scope.names, y.2 ≠ .cell)
    (f2 : ∀ b ∈ fp, FpOk X pins H2 b) (hC : s2.heap.objs.size ≤ C) (hlt : ∀ b ∈ fp, b < s2.heap.objs.size) (N : List Str) : (cxC X scope cl N fp C s2 H2).Ok := by
  have c1 := (closL_in scope.names [] hcl (fun x c h => by simp at h)).1
  have c2 := (closL_in scope.names [] hcl (fun x c h => by simp at h)).2
  refine ⟨I.ok.mod, hk, I.ok.glob, I.ok.blt, hC, fun x y c h1 h2 => I.ok.inj x y c (c1 x c h1) (c1 y c h2), fun x hx => ?_, fun x c h _ => absurd h (by simp [cxC]), I.ok.hd, I.ok.frames, .inl rfl, fun b hb => ⟨?_, fun x c h => ?_⟩, I.bs, Nat.le_trans I.ok.bsz I.sz, fun b o e hb => ?_, fun b hb hf => ?_, I.stack, I.stkFree⟩
  · have hx : (relabel scope X.env).names.lookup x = some .cell ∨ (relabel scope X.env).names.lookup x = some .free := hx
    cases e : scope.names.lookup x with
    | none => rw [relabel_none e] at hx; rcases hx with z | z <;> cases z
    | some k =>
      rw [relabel_of e] at hx
      refine c2 x (.inr ?_)
      by_cases hf : (k == .free && X.env.scope.kind == .function && X.env.kindOf x == some .cell) = true
      · have : k = .free := by
          simp only [Bool.and_eq_true] at hf
          exact eq_of_beq hf.1.1
        rw [e, this]
      · rw [if_neg hf] at hx
        rcases hx with z | z
        · cases Option.some.inj z
          exact absurd rfl (hnc _ (PySem.mem_of_lookup e))
        · cases Option.some.inj z
          exact e
  · exact Nat.ne_of_lt (Nat.lt_of_lt_of_le (hlt b hb) hC)
  · exact (f2 b hb).2.2.2.2.1 x c (c1 x c h)
  · rcases (f2 b hb).2.2.2.1 with z | z
    · exact I.ok.noex b o e z
    · exact absurd (Nat.lt_of_lt_of_le (Heap.lt_size e) (Nat.le_trans I.ok.bsz z)) (Nat.lt_irrefl _)
  · have hf : b ∈ frs X.stack := hf
    rcases List.mem_cons.mp (I.stkSub b hf) with z | z
    · exact (f2 b hb).2.1 z
    · exact (f2 b hb).2.2.1 z
theorem comp_start {tk : Nat} (I : Inv X pins σ H2 s2) (hcl : closL scope.names X.env.cells [] = some cl) (hk : scope.kind = .function) (hnc : ∀ y ∈ scope.names, y.2 ≠ .cell) (hcp : CapOk X scope cp)
    (f2 : ∀ b ∈ fp, FpOk X pins H2 b) (hC : s2.heap.objs.size < C) (hlt : ∀ b ∈ fp, b < s2.heap.objs.size) (hns : h1.Ns C (fun _ => none)) (old : ∀ b o, s2.heap.get? b = some o → h1.get? b = some o)
    (hD : h1.get? s2.heap.objs.size = some (lobj [] 0)) :
    Inv (cxC X scope cl (own ++ cp.map (·.1)) fp C s2 H2) [(s2.heap.objs.size, lobj [] 0)] (capS own.length cp σ) H2 { s2 with heap := h1, toks := tk } := by
  have ok := comp_ok I hcl hk hnc f2 (Nat.le_of_lt hC) hlt (own ++ cp.map (·.1))
  have c1 := (closL_in scope.names [] hcl (fun x c h => by simp at h)).1
  have c2 := (closL_in scope.names [] hcl (fun x c h => by simp at h)).2
  obtain ⟨m, hm, hl⟩ := id I.loc
  refine ⟨ok, rfl, I.bare, Un.kept old, ⟨_, hns, fun i x v e1 e2 e3 => ?_⟩, fun x c e => ?_, I.hok.fresh (Nat.le_of_lt hC), fun x c e => I.freeC x c (c1 x c e), fun p hp => ?_, I.hok.kept old, ?_⟩
  · have e1 : (own ++ cp.map (·.1))[i]? = some x := e1
    unfold capS at e2
    by_cases hi : i < own.length
    · rw [List.getElem?_append_left (by simpa using hi), List.getElem?_replicate] at e2
      split at e2 <;> cases e2
    · rw [List.getElem?_append_right (by simpa using hi), List.length_replicate, List.getElem?_map] at e2
      rw [List.getElem?_append_right (by omega), List.getElem?_map] at e1
      cases q : cp[i - own.length]? with
      | none => rw [q] at e1; cases e1
      | some p =>
        rw [q] at e1 e2
        obtain ⟨y, j⟩ := p
        cases Option.some.inj e1
        obtain ⟨g1, g2, g3⟩ := hcp.get q
        have e4 : gS σ j = some v := Option.some.inj e2
        obtain ⟨u, r, lk⟩ := hl j y v g1 (gS_get e4) (.inr (.inl g2))
        refine ⟨u, r, .inr ⟨?_, ?_⟩⟩
        · left
          show (relabel scope X.env).names.lookup y = some .cell
          rw [relabel_of g3]
          rw [if_pos]
          have : X.env.kindOf y = some .cell := g2
          rw [this, I.ok.kind]
          rfl
        · rcases lk with ⟨z, _⟩ | ⟨_, c, z, zc⟩
          · have z' : X.env.scope.names.lookup y = some .local := z
            rw [g2] at z'
            cases z'
          · obtain ⟨d, hd⟩ := c2 y (.inr g3)
            have hd' := c1 y d hd
            rw [z] at hd'
            cases Option.some.inj hd'
            obtain ⟨o, ho, hdt⟩ := zc
            exact ⟨c, hd, o, old _ _ ho, hdt⟩
  · obtain ⟨v, o, ho, hd⟩ := I.cell x c (c1 x c e)
    exact ⟨v, o, old _ _ ho, hd⟩
  · have hp : p ∈ [(s2.heap.objs.size, lobj [] 0)] := hp
    cases List.mem_singleton.mp hp
    refine ⟨hD, I.hok.fresh (Nat.le_refl _), Nat.ne_of_lt hC, fun hf => ?_, fun v z => by cases z⟩
    have hf : s2.heap.objs.size ∈ frs X.stack := hf
    rcases List.mem_cons.mp (I.stkSub _ hf) with z | z
    · exact Nat.ne_of_gt I.lt z
    · exact I.nofs (Nat.le_refl _) z
  · show (capS own.length cp σ).length = (own ++ cp.map (·.1)).length
    unfold capS
    simp
theorem comp_end {X' : Cx} {σ' : St} {H' : Hp} {s' : Shared} {h'' : Heap} {acc : List V} {its : List Value} {n : Nat} (I : Inv X pins σ H2 s2) (f2 : ∀ b ∈ fp, FpOk X pins H2 b)
    (hX : X' = cxC X scope cl (own ++ cp.map (·.1)) fp C s2 H2) (hC : s2.heap.objs.size < C) (J : Inv X' [(s2.heap.objs.size, lobj its n)] σ' H' s') (rv : Vals acc its) (hz : acc.length ≤ sizeLine)
    (hsb : Heap.SameBut C s'.heap h'') : H' s2.heap.objs.size = none ∧ Inv X pins σ (upd H' s2.heap.objs.size (.lst acc)) { s' with heap := h'' } := by
  subst hX
  obtain ⟨p1, p2, p3, p4, p5⟩ := J.pin (s2.heap.objs.size, lobj its n) (List.mem_append_right _ (List.mem_singleton.mpr rfl))
  have p1 : s'.heap.get? s2.heap.objs.size = some (lobj its n) := p1
  have p2 : H' s2.heap.objs.size = none := p2
  have hfC : H' C = none := J.free
  have up : ∀ b o, b ≠ C → s'.heap.get? b = some o → h''.get? b = some o := fun b o hb e => (hsb.2 b hb).trans e
  have ltC : ∀ b o, s2.heap.get? b = some o → b ≠ C := fun b o e => Nat.ne_of_lt (Nat.lt_trans (Heap.lt_size e) hC)
  have ltD : ∀ b o, s2.heap.get? b = some o → b ≠ s2.heap.objs.size := fun b o e => Nat.ne_of_lt (Heap.lt_size e)
  have B : Un (frs X.stack) fp H2 H' s2.heap s'.heap := J.base
  refine ⟨p2, I.call' (ch := fp) J.os ⟨fun b o e n hb hx => up b o (ltC b o e) (B.keep b o e n hb hx), fun b o e n hb hx => ?_, fun b o e n hx => ?_, fun b o e hx => ?_, fun b xs e => ?_, fun b o u e => ?_, fun b ps e => ?_⟩ (fun a o e => ?_) J.bare
    fun b hb => ⟨(f2 b hb).2.2.2.1, (f2 b hb).2.1, (f2 b hb).2.2.2.2.1, (f2 b hb).2.2.2.2.2⟩⟩
  · obtain ⟨sl, e1⟩ := B.slot b o e n hb hx
    exact ⟨sl, up b _ (ltC b o e) e1⟩
  · rw [upd_ne (ltD b o e)]
    exact B.free b o e n hx
  · obtain ⟨o', e1⟩ := B.there b o e hx
    exact ⟨o', up b o' (ltC b o e) e1⟩
  · have q := B.tups b xs e
    rw [upd_ne (ne_of_none q p2)]
    exact q
  · have q := B.frzs b o u e
    rw [upd_ne (ne_of_none q p2)]
    exact q
  · obtain ⟨more, q⟩ := B.tbls b ps e
    exact ⟨more, by rw [upd_ne (ne_of_none q p2)]; exact q⟩
  · by_cases ha : a = s2.heap.objs.size
    · subst ha
      rw [upd_same] at e
      cases e
      exact ⟨hz, its, n, rv, up _ _ (Nat.ne_of_lt hC) p1⟩
    · rw [upd_ne ha] at e
      refine (J.hok a o e).stay (fun b u hb q => up b u ?_ q) (fun b q => ?_) fun b xs q => ?_
      · rintro rfl
        rcases hb with z | z
        · subst z
          rw [hfC] at e
          cases e
        · rw [hfC] at z
          cases z
      · rw [upd_ne (ne_of_none q p2)]
        exact q
      · rw [upd_ne (ne_of_none q p2)]
        exact q
end
theorem thnE {α : Type} {t : Sem α} {Q Q' : α → Shared → Prop} {M : Model} {A : Around} {E : Value → Shared → Prop} {s : Shared} (h : wpAny M A t Q (fun _ _ => False) s) (hQ : ∀ a s, Q a s → Q' a s) : wpAny M A t Q' E s := wpAny_mono h hQ fun _ _ x => x.elim
section
variable {X : Cx}
theorem pe_comp {elt iter target : Expr} {ifs : List Expr} {scope : Scope} {pos : Pos} {cl : List (Str × Addr)} {own : List Str} {cp : List (Str × Nat)} {wi : TI} {g : TG} {tc : TT} {te : TE}
    (hc : X.calm = true) (hcl : closL scope.names X.env.cells [] = some cl) (hk : scope.kind = .function) (hnc : ∀ y ∈ scope.names, y.2 ≠ .cell)
    (hnm : ∀ x ∈ scope.names, x.2 = .local → scope.names.lookup x.1 = some .local) (hcp : CapOk X scope cp) (hi : PI X target iter wi) (gk : GKeep own.length g)
    (hg : ∀ fp C s H, PG (cxC X scope cl (own ++ cp.map (·.1)) fp C s H) target g) (ht : ∀ fp C s H, PFs (cxC X scope cl (own ++ cp.map (·.1)) fp C s H) ifs tc) (he : ∀ fp C s H, PE (cxC X scope cl (own ++ cp.map (·.1)) fp C s H) elt te)
    (hs : ∀ x, foldedSetIterable iter X.env x = pure x := by intro _; rfl) : PE X (.ListComp elt [⟨target, iter, ifs, 0⟩] scope pos) (tComp own.length cp wi g tc te) := by
  intro pins s σ H Q I h
  rw [eval_ListComp]
  refine wpAny_comprehension_free (use := none) rfl hs (closureFor_L hcl) hk hnm (thn (hi pins s σ H _ I h) fun xv s1 h1 => thn h1 fun itv s2 h2 => ?_)
  obtain ⟨it, fp, tn, J, H2, e, I2, Tn, st2, f2, W, ⟨m0, w0⟩, turn⟩ := h2
  subst e
  have hlt : ∀ b ∈ fp, b < s2.heap.objs.size := fun b hb => by
    obtain ⟨o, e, _⟩ := Tn.obj _ _ st2 b hb
    exact Heap.lt_size e
  refine wpAny_newObj_type (wpAny_newFunctionEnv hnc (by intro y hy; simp at hy) (fun h1 hns hsb => ?_) hk)
  dsimp only at hns hsb ⊢
  generalize hP : s2.heap.push { cls := .type "list", dict := none, data := .seq ([] : List Value).toArray } = h0 at hns hsb ⊢
  have hCs : h0.objs.size = s2.heap.objs.size + 1 := by rw [← hP, Heap.size_push]
  generalize hCg : h0.objs.size = C at hns hsb hCs ⊢
  have hC : s2.heap.objs.size < C := by omega
  have neC : ∀ b : Addr, b < s2.heap.objs.size → b ≠ C := fun b h => Nat.ne_of_lt (Nat.lt_trans h hC)
  have old : ∀ b o, s2.heap.get? b = some o → h1.get? b = some o := fun b o e =>
    (hsb.2 b (neC b (Heap.lt_size e))).trans (by rw [Heap.get?_push_of_some _ (by rw [← hP]; exact Heap.get?_push_of_some _ e)])
  have hD : h1.get? s2.heap.objs.size = some (lobj [] 0) :=
    (hsb.2 _ (Nat.ne_of_lt hC)).trans (by rw [Heap.get?_push_of_some _ (by rw [← hP]; exact Heap.get?_push_size _ rfl)])
  have fpok : ∀ {its : List Value} {k : Nat} {H' : Hp}, (∀ b ∈ fp, H' b = none) → ∀ b ∈ fp, FpOk (cxC X scope cl (own ++ cp.map (·.1)) fp C s2 H2) [(s2.heap.objs.size, lobj its k)] H' b := fun {its k H'} fr b hb => by
    refine ⟨fr b hb, neC b (hlt b hb), fun hf => ?_, .inl hb, fun x c e => ?_, fun p hp => ?_⟩
    · have hf : b ∈ frs X.stack := hf
      rcases List.mem_cons.mp (I2.stkSub b hf) with z | z
      · exact (f2 b hb).2.1 z
      · exact (f2 b hb).2.2.1 z
    · exact (f2 b hb).2.2.2.2.1 x c ((closL_in scope.names [] hcl (fun x c h => by simp at h)).1 x c e)
    · have hp : p ∈ [(s2.heap.objs.size, lobj its k)] := hp
      cases List.mem_singleton.mp hp
      exact Nat.ne_of_gt (hlt b hb)
  have loop : ∀ s4 : Shared, s4 = { s2 with heap := h1, toks := s2.toks + ([] : List (Str × Value)).length } →
      codeAny (model X.prog X.w) X.A (.compLoop (.ListComp elt [⟨target, iter, ifs, 0⟩] scope pos) 0 (.ref it) (.ref s2.heap.objs.size) (compEnvC scope cl C X.env))
        (compPost (model X.prog X.w) X.A X.xe none (EP X pins σ Q) (.ref s2.heap.objs.size) C) s4 := by
    intro s4 e4
    have I4 : Inv (cxC X scope cl (own ++ cp.map (·.1)) fp C s2 H2) [(s2.heap.objs.size, lobj [] 0)] (capS own.length cp σ) H2 s4 := by
      rw [e4]
      exact comp_start I2 hcl hk hnc hcp f2 hC hlt (by simpa using hns) old hD
    have st4 : tn 0 s4.heap := by
      rw [e4]
      exact Tn.keep _ _ _ st2 fun b _ o e => old b o e
    refine codeAny_loop rfl (fun n s' => ∃ i H' acc its k, Inv (cxC X scope cl (own ++ cp.map (·.1)) fp C s2 H2) [(s2.heap.objs.size, lobj its k)] (capS own.length cp σ) H' s' ∧ Vals acc its ∧ tn i s'.heap ∧ (∀ b ∈ fp, H' b = none) ∧ W i n H' acc)
      (fun n s' hI => ?_) m0 ⟨0, H2, [], [], 0, I4, .nil, st4, fun b hb => (f2 b hb).1, w0⟩
    obtain ⟨i, H', acc, its, k, I', rv, st, fr, w⟩ := hI
    show wpAny _ X.A ((compTurn (.ListComp elt [⟨target, iter, ifs, 0⟩] scope pos) 0 (.ref it) (.ref s2.heap.objs.size) (compEnvC scope cl C X.env)).onRaise (fun x => do noteFrame x (compEnvC scope cl C X.env); theTreesLotGoes x)) _ _ s'
    refine wpAny_noted ?_
    rw [compTurn_list]
    refine wpAny_bind (wpAny_standAt (wpAny_bind ?_))
    obtain ⟨hz, ⟨stop, fin⟩ | ⟨go, step⟩⟩ := turn i n H' acc w
    · refine thnE (Tn.done (cxC X scope cl (own ++ cp.map (·.1)) fp C s2 H2) rfl rfl rfl hc i _ s' _ H' (fun _ _ => False) I' (fpok fr) st stop) fun r s5 ⟨hr, I5⟩ => ?_
      subst hr
      refine wpAny_pure ?_
      obtain ⟨mm, hmm, _⟩ := I5.loc
      refine ⟨mm, hmm, fun h'' hs'' => ?_⟩
      obtain ⟨hn, I6⟩ := comp_end I2 f2 rfl hC I5 rv (Nat.le_of_lt hz) hs''
      exact ⟨.ref s2.heap.objs.size, _, I6, rfl, fin _ hn⟩
    · refine thnE (Tn.item (cxC X scope cl (own ++ cp.map (·.1)) fp C s2 H2) rfl rfl rfl hc i _ s' _ H' (fun _ _ => False) I' (fpok fr) st go) fun r s5 ⟨u, hr, h5⟩ => ?_
      subst hr
      refine wpAny_bind (thnE h5 fun _ s6 ⟨x, H6, I6, r6, y6, st6, fr6⟩ => ?_)
      have I6' := I6.pinned (fpok fr6) (Tn.obj _ _ st6)
      refine wpAny_bind (thnE (hg fp C s2 H2 _ s6 _ H6 x u _ I6' r6 (gk _ _ _ _ (step x H6 y6))) fun _ s7 ⟨σ7, H7, I7, q7, kp7⟩ => ?_)
      refine wpAny_bind (thnE (ht fp C s2 H2 _ s7 σ7 H7 _ I7 q7) fun b s8 ⟨H8, I8, q8⟩ => ?_)
      have weak : ∀ {H9 : Hp} {s9 : Shared} {ps : List (Addr × Obj)}, Inv (cxC X scope cl (own ++ cp.map (·.1)) fp C s2 H2) ps σ7 H9 s9 → Inv (cxC X scope cl (own ++ cp.map (·.1)) fp C s2 H2) ps (capS own.length cp σ) H9 s9 := fun {H9 s9 ps} I9 =>
        I9.weak (by rw [I9.len]; exact I'.len) fun j v e => by
          by_cases hj : own.length ≤ j
          · rw [kp7 j hj]
            exact e
          · unfold capS at e
            rw [List.getElem?_append_left (by rw [List.length_replicate]; omega), List.getElem?_replicate] at e
            split at e <;> cases e
      have turned : ∀ {H9 : Hp} {s9 : Shared}, Inv (cxC X scope cl (own ++ cp.map (·.1)) fp C s2 H2) ([(s2.heap.objs.size, lobj its k)] ++ pinsAt fp s6.heap) σ7 H9 s9 → (∀ b ∈ fp, H9 b = none) ∧ ∀ b ∈ fp, ∀ o, s6.heap.get? b = some o → s9.heap.get? b = some o := fun {H9 s9} I9 => by
        refine ⟨fun b hb => ?_, fun b hb o e => ?_⟩
        · obtain ⟨o, e, _⟩ := Tn.obj _ _ st6 b hb
          exact (I9.pin (b, o) (List.mem_append_right _ (List.mem_append_right _ (mem_pinsAt hb e)))).2.1
        · exact (I9.pin (b, o) (List.mem_append_right _ (List.mem_append_right _ (mem_pinsAt hb e)))).1
      cases b with
      | false =>
        obtain ⟨m', hm', w8⟩ := q8
        refine wpAny_pure ⟨rfl, m', hm', i + 1, H8, acc, its, k, weak I8.unpinned, rv, Tn.keep _ _ _ st6 (turned I8).2, (turned I8).1, w8⟩
      | true =>
        refine wpAny_bind (wpAny_bind (thnE (he fp C s2 H2 _ s8 σ7 H8 _ I8 q8) fun uy s9 ⟨y, H9, I9, r9, m', hm', w9⟩ => ?_))
        have pD := I9.pin (s2.heap.objs.size, lobj its k) (List.mem_append_right _ (List.mem_append_left _ (List.mem_singleton.mpr rfl)))
        have lenI := rv.length
        refine wpAny_bind (wpAny_list_append_plain (items := its.toArray) ⟨k, pD.1⟩ (fun h10 pl sb => ?_) (by rw [List.size_toArray]; omega))
        obtain ⟨k', hk'⟩ := pl
        have I10 : Inv (cxC X scope cl (own ++ cp.map (·.1)) fp C s2 H2) (pinsAt fp s6.heap) σ7 H9 { s9 with heap := h10 } := by
          have I9' : Inv (cxC X scope cl (own ++ cp.map (·.1)) fp C s2 H2) (pinsAt fp s6.heap) σ7 H9 s9 := I9.pins_of fun p hp => I9.pin p (List.mem_append_right _ (List.mem_append_right _ hp))
          refine I9'.turned (t' := s9.toks) (it := s2.heap.objs.size) (fun b o hb e => (sb.2 b hb).trans e) pD.2.1 pD.2.2.1 (.inr (Nat.le_refl _)) (fun x c e z => ?_) fun p hp z => ?_
          · obtain ⟨v, o, ho, hd⟩ := I9.cell x c e
            rw [z, pD.1] at ho
            cases ho
            cases hd
          · have hp : p ∈ pinsAt fp s6.heap := hp
            exact Nat.ne_of_lt (hlt p.1 (of_pinsAt hp).1) z
        have kk : ∀ b ∈ fp, ∀ o, s6.heap.get? b = some o → h10.get? b = some o := fun b hb o e => (sb.2 b (Nat.ne_of_lt (hlt b hb))).trans ((turned I9).2 b hb o e)
        have I11 : Inv (cxC X scope cl (own ++ cp.map (·.1)) fp C s2 H2) [(s2.heap.objs.size, lobj (its ++ [uy]) k')] σ7 H9 { s9 with heap := h10 } := I10.pins_of fun p hp => by
          cases List.mem_singleton.mp hp
          refine ⟨?_, pD.2.1, pD.2.2.1, pD.2.2.2.1, fun v z => by cases z⟩
          rw [hk']
          simp
        exact wpAny_pure (wpAny_pure ⟨rfl, m', hm', i + 1, H9, acc ++ [y], its ++ [uy], k', weak I11, rv.append (.cons r9 .nil), Tn.keep _ _ _ st6 kk, (turned I9).1, w9⟩)
  exact codeAny_compStart_list (loop _ rfl) (Tn.self _ 0 _ _ _ (Tn.keep _ _ _ st2 fun b _ o e => old b o e) (loop _ rfl))
end
end L2
set_option maxRecDepth 100000
namespace L2
open PySem PySem.Spec PyProof.Rows
section
variable {X : Cx} {pos : Pos}
noncomputable def trV (K : PySem.W.Frag) (t : TE) : TT := fun σ H Q => t σ H fun x H' => match x with
  | .bl b => Q b H'
  | .int i => Q (i != 0) H'
  | .non => Q false H'
  | .str z => (L z).length ≤ sizeLine ∧ Q (((L z).length : Int) != 0) H'
  | .ref p => ∃ k, TruV K (.ref p) H' k ∧ Q k H'
  | _ => False
theorem pt_tr {a : Expr} {ta : TE} (ha : PE X a ta) (he : ∀ whole, isTrue a X.env whole = (do let v ← whole; standAt a.pos; holding [v] (truthy v)) := by intro _; rfl) : PT X a (trV X.K ta) := by
  intro pins s σ H Q I h
  refine isTrue_plain (thn (ha pins s σ H _ I h) fun v s1 ⟨x, H1, I1, r1, q1⟩ => tru_ok pins s1 σ H1 x v Q I1 r1 ?_) (he _)
  cases x with
  | bl b => exact ⟨b, rfl, q1⟩
  | int i => exact ⟨_, rfl, q1⟩
  | non => exact ⟨false, rfl, q1⟩
  | str z => exact ⟨_, ⟨by rw [← L_len]; exact q1.1, rfl⟩, by rw [← L_len]; exact q1.2⟩
  | ref p => exact q1
  | _ => exact False.elim q1
noncomputable def tB2 (r : R2) (ta tb : TE) : TT := fun σ H Q => ta σ H fun x H1 => tb σ H1 fun y H2 => r x y H2 fun z H3 => match z with
  | .bl b => Q b H3
  | _ => False
theorem pt_c2 {op : CmpOp} {r : R2} {a b : Expr} {ta tb : TE} (ho : OpR X (compareOp op) r) (ha : PE X a ta) (hb : PE X b tb) (hm : behindInMarks op b = false := by first | exact nomark _ | with_unfolding_all rfl) : PT X (.Compare a [op] [b] pos) (tB2 r ta tb) := by
  intro pins s σ H Q I h
  refine wpAny_isTrue_Compare1 (thn (ha pins s σ H _ I h) fun v s1 ⟨x, H1, I1, r1, q1⟩ => thn (hb pins s1 σ H1 _ I1 q1) fun u s2 ⟨y, H2, I2, r2, q2⟩ =>
    thn (ho pins s2 σ H2 x y v u _ I2 r1 r2 q2) fun c s3 ⟨z, H3, I3, r3, q3⟩ => ?_) hm
  cases z with
  | bl k => cases r3; exact wpAny_truthy_bool ⟨H3, I3, q3⟩
  | _ => exact False.elim q3
theorem pe_c2 {op : CmpOp} {r : R2} {a b : Expr} {ta tb : TE} (ho : OpR X (compareOp op) r) (ha : PE X a ta) (hb : PE X b tb) (hm : behindInMarks op b = false := by first | exact nomark _ | with_unfolding_all rfl) : PE X (.Compare a [op] [b] pos) (tOp r ta tb) := pe_cmpR ho ha hb hm
noncomputable def vAnd (ta tb : TE) : TE := fun σ H Q => ta σ H fun x H1 => match x with
  | .bl c => if c = true then tb σ H1 Q else Q (.bl false) H1
  | _ => False
noncomputable def vOr (ta tb : TE) : TE := fun σ H Q => ta σ H fun x H1 => match x with
  | .bl c => if c = true then Q (.bl true) H1 else tb σ H1 Q
  | _ => False
noncomputable def vNot (ta : TE) : TE := fun σ H Q => ta σ H fun x H1 => match x with
  | .bl c => Q (.bl (!c)) H1
  | _ => False
theorem mono_val {a : Expr} {ta : TE} (h : PE X a ta) (pins : List (Addr × Obj)) (s : Shared) (σ : St) (H : Hp) (Q Q' : VK) (I : Inv X pins σ H s) (q : ta σ H Q) (hq : ∀ v H', Q v H' → Q' v H') : wpAny (model X.prog X.w) X.A (eval a X.env) (EP X pins σ Q') X.xe s :=
  thn (h pins s σ H Q I q) fun u s1 ⟨v, H1, I1, r, q⟩ => ⟨v, H1, I1, r, hq v H1 q⟩
theorem PE.imp {e : Expr} {t : TE} (h : PE X e t) {t' : TE} (hi : ∀ σ H Q, t' σ H Q → ∃ Q0, t σ H Q0 ∧ ∀ v H', Q0 v H' → Q v H') : PE X e t' := fun pins s σ H Q I q => by
  obtain ⟨Q0, h0, h1⟩ := hi σ H Q q
  exact mono_val h pins s σ H Q0 Q I h0 h1
theorem pe_and2 {a b : Expr} {rest : List Expr} {ta tb : TE} (ha : PE X a ta) (hb : PE X (.BoolOp .And (b :: rest) pos) tb) : PE X (.BoolOp .And (a :: b :: rest) pos) (vAnd ta tb) := by
  have ha' : PE X a (fun σ H Q => ∃ Q0 : VK, ta σ H Q0 ∧ ∀ v H', Q0 v H' → Q v H') := ha.imp fun σ H Q h => h
  intro pins s σ H Q I h
  refine pe_and (ta := fun σ H Q => ∃ Q0 : VK, ta σ H Q0 ∧ ∀ v H', Q0 v H' → Q v H') ha' hb pins s σ H Q I ?_
  refine ⟨_, h, fun v H' q => ?_⟩
  cases v with
  | bl c => exact ⟨c, rfl, q⟩
  | _ => exact False.elim q
theorem pe_not2 {a : Expr} {ta : TE} (ha : PE X a ta) : PE X (.UnaryOp .Not a pos) (vNot ta) := by
  have ha' : PE X a (fun σ H Q => ∃ Q0 : VK, ta σ H Q0 ∧ ∀ v H', Q0 v H' → Q v H') := ha.imp fun σ H Q h => h
  intro pins s σ H Q I h
  refine pe_not (ta := fun σ H Q => ∃ Q0 : VK, ta σ H Q0 ∧ ∀ v H', Q0 v H' → Q v H') ha' pins s σ H Q I ?_
  refine ⟨_, h, fun v H' q => ?_⟩
  cases v with
  | bl c => exact ⟨c, rfl, q⟩
  | _ => exact False.elim q
noncomputable def negV : V → Hp → VK → Prop := fun x H Q => match x with
  | .int i => Q (.int (-i)) H
  | _ => False
noncomputable def pT (t : TE) : TO := fun σ H Q => t σ H fun x H1 => match x with
  | .int i => Q (some i) H1
  | _ => False
theorem po_t {e : Expr} {te : TE} (h : PE X e te) : PO X (some e) (pT te) := by
  have h' : PE X e (fun σ H Q => ∃ Q0 : VK, te σ H Q0 ∧ ∀ v H', Q0 v H' → Q v H') := h.imp fun σ H Q h => h
  intro pins s σ H Q I hw
  refine po_some h' pins s σ H Q I ?_
  refine ⟨_, hw, fun v H' q => ?_⟩
  cases v with
  | int i => exact ⟨i, rfl, q⟩
  | _ => exact False.elim q
noncomputable def rAug (i : Nat) (te : TE) (ti : TIp) : TS := fun D σ H => match gS σ i with
  | some x => te σ H fun y H1 => ti x y H1 fun z H2 => D.nx (σ.set i (some z)) H2
  | none => False
theorem ps_aug2 {i : Nat} {x : Str} {e : Expr} {te : TE} {op : Operator} {ti : TIp} {pos' : Pos} (ho : OpR X (inplaceOp op) ti) (hN : X.N.Nodup) (hi : X.N[i]? = some x) (hx : Loc X.env.scope x) (he : PE X e te) (hf : X.fn x = true ∨ X.env.scope.names.lookup x = some .local := by first | exact .inl rfl | exact .inr rfl | assumption) :
    PS X (.AugAssign (.Name x pos') op e pos) (rAug i te ti) := by
  intro pins s σ H D I h
  refine ps_aug hN hi hx he ho hf pins s σ H D I ?_
  unfold rAug at h
  cases e : gS σ i with
  | none => rw [e] at h; exact h.elim
  | some v => rw [e] at h; exact ⟨v, gS_get e, h⟩
noncomputable def tWh (c : TT) (tb : TS) : TS := fun D σ H => ∃ W : Nat → St → Hp → Prop, (∃ m, W m σ H) ∧ ∀ m σ H, W m σ H →
  c σ H fun b H1 => if b = true then tb { nx := fun σ' H' => ∃ m', m' < m ∧ W m' σ' H', rt := D.rt, bk := D.nx, ct := fun σ' H' => ∃ m', m' < m ∧ W m' σ' H' } σ H1 else D.nx σ H1
theorem ps_wh {c : Expr} {body : List Stmt} {tc : TT} {tb : TS} (hp : PassesOwn (model X.prog X.w) X.A X.env X.xe) (hc : PT X c tc) (hb : PSs X body tb) : PS X (.While c body [] pos) (tWh tc tb) := by
  have hc' : PT X c (fun σ H Q => ∃ Q0 : Bool → Hp → Prop, tc σ H Q0 ∧ ∀ v H', Q0 v H' → Q v H') := fun pins s σ H Q I ⟨Q0, h0, h1⟩ => thn (hc pins s σ H Q0 I h0) fun b s1 ⟨H1, I1, q⟩ => ⟨H1, I1, h1 b H1 q⟩
  intro pins s σ H D I h
  obtain ⟨W, w0, turn⟩ := h
  refine ps_while hp hc' hb pins s σ H D I ⟨W, w0, fun m σ1 H1 w => ⟨_, turn m σ1 H1 w, fun b H2 q => ?_⟩⟩
  cases b with
  | true => exact ⟨_, fun _ _ z => z, q⟩
  | false => exact q
noncomputable def forR (lo : Int) (n : Nat) (i : Nat) (tb : TS) : TS := fun D σ H => ∃ Pv : Nat → St → Hp → Prop, Pv 0 σ H ∧ (∀ k σ H, k < n → Pv k σ H → tb { nx := Pv (k + 1), rt := D.rt, bk := D.nx, ct := Pv (k + 1) } (σ.set i (some (.int (lo + k)))) H) ∧ ∀ σ H, Pv n σ H → D.nx σ H
noncomputable def tRng (ta : TA) (i : Nat) (tb : TS) : TS := fun D σ H => ta σ H fun vs H1 => match vs with
  | [.int j] => (-(2 ^ 62) ≤ j ∧ j < 2 ^ 62) ∧ forR 0 j.toNat i tb D σ H1
  | _ => False
theorem PA.imp {es : List Expr} {t : TA} (h : PA X es t) {t' : TA} (hi : ∀ σ H Q, t' σ H Q → ∃ Q0 : List V → Hp → Prop, t σ H Q0 ∧ ∀ v H', Q0 v H' → Q v H') : PA X es t' := fun p pins s σ H Q I q => by
  obtain ⟨Q0, h0, h1⟩ := hi σ H Q q
  exact thn (h p pins s σ H Q0 I h0) fun us s1 ⟨vs, H1, I1, r, q⟩ => ⟨vs, H1, I1, r, h1 vs H1 q⟩
theorem ps_rng1 {a : Expr} {x : Str} {i : Nat} {p p' pos' : Pos} {body : List Stmt} {ta : TA} {tb : TS} (hp : PassesOwn (model X.prog X.w) X.A X.env X.xe) (hc : X.calm = true) (hm : X.mg "range" = none) (ha : PA X [a] ta)
    (hg : PG X (.Name x pos') (gName i)) (hb : PSs X body tb) (hgl : Gl X "range" := by rfl) (hs : starEach [a] X.env = [(false, eval a X.env)] := by rfl) (hf : ∀ x, foldedSetIterable (.Call (.Name "range" p) [a] [] p') X.env x = pure x := by intro _; rfl) :
    PS X (.For (.Name x pos') (.Call (.Name "range" p) [a] [] p') body [] pos) (tRng ta i tb) := by
  have ha' : PA X [a] (fun σ H Q => ∃ Q0 : List V → Hp → Prop, ta σ H Q0 ∧ ∀ v H', Q0 v H' → Q v H') := ha.imp fun σ H Q h => h
  intro pins s σ H D I h
  refine ps_for hp hc (pi_range1 hgl hm ha' hs) hg hb hf pins s σ H D I ⟨_, h, fun vs H1 q => ?_⟩
  split at q
  · obtain ⟨⟨h1, h2⟩, Pv, h0, hs', hd⟩ := q
    exact ⟨_, rfl, h1, h2, for_range Pv h0 (fun k σ H hk pv => hs' k σ H hk pv) hd⟩
  · exact q.elim
noncomputable def tMapL (K : PySem.W.Frag) (n : Nat) (cp : List (Str × Nat)) (tl : TE) (te : TE) : TE := fun σ H Q => tl σ H fun v H1 => match v with
  | .ref a => ∃ (xs : List V) (f : V → V), SqL K H1 a xs ∧ xs.length < sizeLine ∧ (∀ x ∈ xs, te ((capS n cp σ).set 0 (some x)) H1 fun y H6 => H6 = H1 ∧ y = f x) ∧ ∀ l, H1 l = none → Q (.ref l) (upd H1 l (.lst (xs.map f)))
  | _ => False
theorem pe_mapL {elt iter : Expr} {x : Str} {px : Pos} {scope : Scope} {pos : Pos} {cl : List (Str × Addr)} {own : List Str} {cp : List (Str × Nat)} {tl te : TE}
    (hc : X.calm = true) (hcl : closL scope.names X.env.cells [] = some cl) (hk : scope.kind = .function) (hnc : ∀ y ∈ scope.names, y.2 ≠ .cell)
    (hnm : ∀ x ∈ scope.names, x.2 = .local → scope.names.lookup x.1 = some .local) (hcp : CapOk X scope cp) (hi : PE X iter tl) (hn : 0 < own.length)
    (hg : ∀ fp C s H, PG (cxC X scope cl (own ++ cp.map (·.1)) fp C s H) (.Name x px) (gName 0)) (he : ∀ fp C s H, PE (cxC X scope cl (own ++ cp.map (·.1)) fp C s H) elt te)
    (hs : ∀ x, foldedSetIterable iter X.env x = pure x := by intro _; rfl) : PE X (.ListComp elt [⟨.Name x px, iter, [], 0⟩] scope pos) (tMapL X.K own.length cp tl te) := by
  have hi' : PE X iter (fun σ H Q => ∃ Q0 : VK, tl σ H Q0 ∧ ∀ v H', Q0 v H' → Q v H') := hi.imp fun σ H Q h => h
  have he' : ∀ fp C s H, PE (cxC X scope cl (own ++ cp.map (·.1)) fp C s H) elt (fun σ H Q => ∃ Q0 : VK, te σ H Q0 ∧ ∀ v H', Q0 v H' → Q v H') := fun fp C s H => (he fp C s H).imp fun σ H Q h => h
  intro pins s σ H Q I h
  refine pe_comp hc hcl hk hnc hnm hcp (pi_list hi') (gk_name hn) hg (fun _ _ _ _ => pf_nil) he' hs pins s σ H Q I ?_
  refine ⟨_, h, fun v H1 q => ?_⟩
  cases v with
  | ref a =>
    obtain ⟨xs, f, hx, hz, hst, q⟩ := q
    refine ⟨a, rfl, ⟨xs, hx⟩, fun i m H2 acc => H2 = H1 ∧ m = xs.length - i ∧ i ≤ xs.length ∧ acc = (xs.take i).map f, ⟨xs.length, rfl, rfl, Nat.zero_le _, rfl⟩, ?_⟩
    rintro i m H2 acc ⟨rfl, rfl, hi2, rfl⟩
    refine ⟨by rw [List.length_map, List.length_take]; omega, ?_⟩
    by_cases hlt : i < xs.length
    · refine .inr ⟨⟨xs, xs[i], hx, by simp [hlt]⟩, fun y H3 ⟨e3, y3⟩ => ?_⟩
      subst e3
      have ey := y3 xs hx
      have key : ∃ Q0 : VK, te ((capS own.length cp σ).set 0 (some y)) H3 Q0 ∧ ∀ z H6, Q0 z H6 → ∃ m', m' < xs.length - i ∧ H6 = H3 ∧ m' = xs.length - (i + 1) ∧ i + 1 ≤ xs.length ∧ (xs.take i).map f ++ [z] = (xs.take (i + 1)).map f := by
        refine ⟨_, hst y (List.mem_of_getElem? ey), fun z H6 ⟨e6, ez⟩ => ⟨xs.length - (i + 1), by omega, e6, rfl, hlt, ?_⟩⟩
        subst ez
        rw [List.take_succ, ey, List.map_append]
        rfl
      exact key
    · have e : i = xs.length := by omega
      subst e
      refine .inl ⟨⟨xs, hx, Nat.le_refl _⟩, fun l hl => ?_⟩
      rw [List.take_length]
      exact q l hl
  | _ => exact False.elim q
end
end L2
set_option maxRecDepth 100000
namespace LW
open PySem L2
noncomputable def byL : List Int := [48271, 69621, 16807, 39373, 21401, 60493, 87721, 31337]
noncomputable def primeL : List Int := [99991, 99989, 99971, 99961, 99929, 99923, 99907, 99901]
noncomputable def signs : List Nat := (List.range 5).map (fun k => 32 + k) ++ (List.range 89).map fun k => 38 + k
theorem signs_len : signs.length = 94 := by decide +kernel
noncomputable def cellAt (ns : List Int) (k : Int) : Int := if k < ns.length then ns.getD k.toNat 0 else 0
theorem cut_hi {α : Type} (xs : List α) (m : Int) (h : 0 ≤ m) : (cut xs none (some m)).length ≤ m.toNat := by
  unfold cut
  rw [List.length_take, List.length_drop]
  have : HT.sIx xs.length xs.length (some m) ≤ m.toNat := by
    show (if m < 0 then (m + (xs.length : Int)).toNat else min m.toNat xs.length) ≤ m.toNat
    rw [if_neg (by omega)]
    omega
  omega
theorem rep_len (n : Nat) (l : List Nat) : (rep n l).length = n * l.length := by
  unfold rep
  simp
theorem atI_getD {α : Type} {xs : List α} {i : Int} (d : α) (h0 : 0 ≤ i) (h1 : i < xs.length) : atI xs i = some (xs.getD i.toNat d) := by
  unfold atI ixN
  rw [if_pos h0, if_pos h1]
  show xs[i.toNat]? = _
  rw [List.getD_eq_getElem?_getD]
  have : i.toNat < xs.length := by omega
  rw [List.getElem?_eq_getElem this]
  rfl
theorem getD_int (l : List Int) (i : Nat) : (l.map V.int).getD i (V.int 0) = V.int (l.getD i 0) := by
  rw [List.getD_eq_getElem?_getD, List.getD_eq_getElem?_getD, List.getElem?_map]
  cases l[i]? <;> rfl
theorem atI_int {l : List Int} {i : Int} (h0 : 0 ≤ i) (h1 : i < l.length) : atI (l.map V.int) i = some (V.int (l.getD i.toNat 0)) := by
  rw [atI_getD (V.int 0) h0 (by simpa using h1), getD_int]
theorem prime_pos {i : Int} (h0 : 0 ≤ i) (h1 : i < 8) : 0 < primeL.getD i.toNat 0 := by
  have : i.toNat < 8 := by omega
  generalize i.toNat = n at this
  have h : ∀ n : Nat, n < 8 → 0 < primeL.getD n 0 := by decide
  exact h n this
theorem mem_cut {α : Type} {xs : List α} {lo hi : Option Int} {c : α} (h : c ∈ cut xs lo hi) : c ∈ xs := List.mem_of_mem_drop (List.mem_of_mem_take h)
theorem mem_rep {n : Nat} {l : List Nat} {c : Nat} (h : c ∈ rep n l) : c ∈ l := by
  unfold rep at h
  obtain ⟨x, hx, hc⟩ := List.mem_flatten.mp h
  rw [(List.mem_replicate.mp hx).2] at hc
  exact hc
theorem flat1 {α β : Type} (g : α → β) : ∀ l : List α, (l.map fun c => [g c]).flatten = l.map g
  | [] => rfl
  | x :: r => by
    rw [List.map_cons, List.map_cons, List.flatten_cons, flat1 g r]
    rfl
theorem signs_at {i : Nat} (h : i < 94) : signs.getD i 0 ∈ signs := by
  have : i < signs.length := by rw [signs_len]; exact h
  rw [List.getD_eq_getElem?_getD, List.getElem?_eq_getElem this]
  exact List.getElem_mem this
theorem sum1 {α β : Type} (g : α → β) : ∀ l : List α, ((l.map fun c => [g c]).map List.length).sum = l.length
  | [] => rfl
  | x :: r => by
    rw [List.map_cons, List.map_cons, List.sum_cons, sum1 g r, List.length_cons]
    show 1 + r.length = r.length + 1
    omega
theorem empty_L : L (Str.ofString "") = [] := by decide +kernel
theorem cut_map {α β : Type} (f : α → β) (l : List α) (lo hi : Option Int) : cut (l.map f) lo hi = (cut l lo hi).map f := by
  unfold cut
  rw [List.map_take, List.map_drop, List.length_map]
theorem upd_old {H : Hp} {p p' : Addr} {o o' : HO} (h : upd H p o p' = none) : upd (upd H p o) p' o' p = some o := by
  have : p ≠ p' := by
    rintro rfl
    rw [upd_same] at h
    cases h
  rw [upd_ne this, upd_same]
end LW
set_option maxRecDepth 100000
namespace L2
open PySem PySem.Spec PyProof.Rows
section
variable {X : Cx} {pos : Pos}
noncomputable def isS (x : V) (n : String) : Option Bool := match x with
  | .int _ => if n = "int" then some true else if n = "bool" then some false else if n = "str" then some false else if n = "list" then some false else if n = "tuple" then some false else if n = "dict" then some false else none
  | .bl _ => if n = "int" then some true else if n = "bool" then some true else if n = "str" then some false else if n = "list" then some false else if n = "tuple" then some false else if n = "dict" then some false else none
  | .str _ => if n = "int" then some false else if n = "bool" then some false else if n = "str" then some true else if n = "list" then some false else if n = "tuple" then some false else if n = "dict" then some false else none
  | .non => if n = "int" then some false else if n = "bool" then some false else if n = "str" then some false else if n = "list" then some false else if n = "tuple" then some false else if n = "dict" then some false else none
  | _ => none
theorem isS_ok {K : PySem.W.Frag} {H : Hp} {x : V} {n : String} {b : Bool} (h : isS x n = some b) : ∃ t, TyOf K H x t ∧ PySem.W.kitOne K t (.type n) = some b := by
  cases x with
  | int i =>
    refine ⟨_, .int i, ?_⟩
    unfold isS at h
    dsimp only at h
    split at h
    · rename_i e; subst e; cases h; rfl
    split at h
    · rename_i e; subst e; cases h; rfl
    split at h
    · rename_i e; subst e; cases h; rfl
    split at h
    · rename_i e; subst e; cases h; rfl
    split at h
    · rename_i e; subst e; cases h; rfl
    split at h
    · rename_i e; subst e; cases h; rfl
    · cases h
  | bl i =>
    refine ⟨_, .bl i, ?_⟩
    unfold isS at h
    dsimp only at h
    split at h
    · rename_i e; subst e; cases h; rfl
    split at h
    · rename_i e; subst e; cases h; rfl
    split at h
    · rename_i e; subst e; cases h; rfl
    split at h
    · rename_i e; subst e; cases h; rfl
    split at h
    · rename_i e; subst e; cases h; rfl
    split at h
    · rename_i e; subst e; cases h; rfl
    · cases h
  | str i =>
    refine ⟨_, .str i, ?_⟩
    unfold isS at h
    dsimp only at h
    split at h
    · rename_i e; subst e; cases h; rfl
    split at h
    · rename_i e; subst e; cases h; rfl
    split at h
    · rename_i e; subst e; cases h; rfl
    split at h
    · rename_i e; subst e; cases h; rfl
    split at h
    · rename_i e; subst e; cases h; rfl
    split at h
    · rename_i e; subst e; cases h; rfl
    · cases h
  | non =>
    refine ⟨_, .non, ?_⟩
    unfold isS at h
    dsimp only at h
    split at h
    · rename_i e; subst e; cases h; rfl
    split at h
    · rename_i e; subst e; cases h; rfl
    split at h
    · rename_i e; subst e; cases h; rfl
    split at h
    · rename_i e; subst e; cases h; rfl
    split at h
    · rename_i e; subst e; cases h; rfl
    split at h
    · rename_i e; subst e; cases h; rfl
    · cases h
  | _ => cases h
noncomputable def isiV (K : PySem.W.Frag) : List V → Hp → VK → Prop := fun xs H Q => match xs with
  | [.ref p, .ty n] => ∃ b t, TyOf K H (.ref p) t ∧ PySem.W.kitOne K t (.type n) = some b ∧ Q (.bl b) H
  | [x, .ty n] => match isS x n with
    | some b => Q (.bl b) H
    | none => False
  | _ => False
theorem c_isi : CallR X (.builtin "isinstance") (isiV X.K) := by
  intro pins s σ H xs us Q I r h
  unfold isiV at h
  split at h
  · rename_i p n
    obtain ⟨b, t, ty, e, q⟩ := h
    obtain ⟨u, w', rfl, ru, rw'⟩ := vals2 r
    cases rw'
    exact isinst_ok I ru ty e fun tk => fin_bl (I.tok tk) q rfl
  · rename_i x n _
    split at h
    · rename_i b e
      obtain ⟨t, ty, e2⟩ := isS_ok (K := X.K) (H := H) e
      obtain ⟨u, w', rfl, ru, rw'⟩ := vals2 r
      cases rw'
      exact isinst_ok I ru ty e2 fun tk => fin_bl (I.tok tk) h rfl
    · exact h.elim
  · exact h.elim
noncomputable def maxV : List V → Hp → VK → Prop := fun xs H Q => match xs with
  | [.int i, .int j] => Q (.int (max i j)) H
  | _ => False
theorem c_max (hc : X.calm = true) : CallR X (.builtin "max") maxV := by
  intro pins s σ H xs us Q I r h
  unfold maxV at h
  split at h
  · rename_i i j
    refine call_max2 hc pins s σ H _ us Q I r ⟨i, j, rfl, ?_⟩
    have : (if j > i then j else i) = max i j := by split <;> omega
    rw [this]; exact h
  · exact h.elim
end
end L2
namespace L2
open PySem PySem.Spec PyProof.Rows
section
variable {X : Cx} {K : PySem.W.Frag} {pos : Pos}
theorem i_ixK (h : X.K = K) : IxR X (ixV K) := h ▸ i_ix
theorem s_slK (h : X.K = K) : SlR X (slV K) := h ▸ s_sl
theorem c_lenK (h : X.K = K) : CallR X (.builtin "len") (lenV K) := h ▸ c_len
theorem c_isiK (h : X.K = K) : CallR X (.builtin "isinstance") (isiV K) := h ▸ c_isi
theorem m_joinK (h : X.K = K) : MtR X "str.join" (joinV K) := h ▸ m_join
theorem pt_trK {a : Expr} {ta : TE} (hK : X.K = K) (ha : PE X a ta) (he : ∀ whole, isTrue a X.env whole = (do let v ← whole; standAt a.pos; holding [v] (truthy v)) := by intro _; rfl) : PT X a (trV K ta) := by
  subst hK
  exact pt_tr ha he
variable {o e : Expr} {es : List Expr} {to : TE} {t : TA} {name : Str} {apos cpos : Pos} {T id : String} {r : V → List V → Hp → VK → Prop}
theorem pe_bm0K (hK : X.K = K) (pa : PlainAttrs T) (slot : Slot T name id) (hty : typeOf (.builtin id) = pure (.type "method_descriptor")) (hm : MtR X id r) (ho : PE X o to)
    (hbase : attributeBase o name X.env (eval o X.env) = eval o X.env := by rfl) (hline : (apos.endLine == cpos.line) = true := by rfl) : PE X (.Call (.Attribute o name apos) [] [] cpos) (tBM0 K T r to) := by
  subst hK
  exact pe_bm0 pa slot hty hm ho hbase hline
theorem pe_bmK (hK : X.K = K) (pa : PlainAttrs T) (slot : Slot T name id) (hty : typeOf (.builtin id) = pure (.type "method_descriptor")) (hm : MtR X id r) (ho : PE X o to) (ha : PA X (e :: es) t)
    (hbase : attributeBase o name X.env (eval o X.env) = eval o X.env := by rfl)
    (hfew : ((backTo cpos (starEach (e :: es) X.env)).all (fun x => !x.1) && (backToKw cpos (keywordEach [] X.env)).all (fun x => x.1.isSome)
      && decide ((e :: es).length + ([] : List Keyword).length + (if ([] : List Keyword).isEmpty then 0 else 1) < 30)) = true := by rfl)
    (hline : (apos.endLine == cpos.line) = true := by rfl) (hs : starEach (e :: es) X.env = (false, eval e X.env) :: starEach es X.env := by rfl) (hplain : (backTo cpos (starEach es X.env)).any (·.1) = false := by rfl) :
    PE X (.Call (.Attribute o name apos) (e :: es) [] cpos) (tBM K T r to t) := by
  subst hK
  exact pe_bm pa slot hty hm ho ha hbase hfew hline hs hplain
theorem pe_mapLK {elt iter : Expr} {x : Str} {px : Pos} {scope : Scope} {pos : Pos} {cl : List (Str × Addr)} {own : List Str} {cp : List (Str × Nat)} {tl te : TE} (hK : X.K = K)
    (hc : X.calm = true) (hcl : closL scope.names X.env.cells [] = some cl) (hk : scope.kind = .function) (hnc : ∀ y ∈ scope.names, y.2 ≠ .cell)
    (hnm : ∀ x ∈ scope.names, x.2 = .local → scope.names.lookup x.1 = some .local) (hcp : CapOk X scope cp) (hi : PE X iter tl) (hn : 0 < own.length)
    (hg : ∀ fp C s H, PG (cxC X scope cl (own ++ cp.map (·.1)) fp C s H) (.Name x px) (gName 0)) (he : ∀ fp C s H, PE (cxC X scope cl (own ++ cp.map (·.1)) fp C s H) elt te)
    (hs : ∀ x, foldedSetIterable iter X.env x = pure x := by intro _; rfl) : PE X (.ListComp elt [⟨.Name x px, iter, [], 0⟩] scope pos) (tMapL K own.length cp tl te) := by
  subst hK
  exact pe_mapL hc hcl hk hnc hnm hcp hi hn hg he hs
end
end L2
namespace L2
open PySem
theorem bt_len : bootBuiltins "len" = some (.builtin "len") := by decide +kernel
theorem bt_ord : bootBuiltins "ord" = some (.builtin "ord") := by decide +kernel
theorem bt_isinstance : bootBuiltins "isinstance" = some (.builtin "isinstance") := by decide +kernel
theorem bt_max : bootBuiltins "max" = some (.builtin "max") := by decide +kernel
theorem bt_sorted : bootBuiltins "sorted" = some (.builtin "sorted") := by decide +kernel
theorem bt_list : bootBuiltins "list" = some (.type "list") := by decide +kernel
theorem bt_int : bootBuiltins "int" = some (.type "int") := by decide +kernel
theorem bt_bool : bootBuiltins "bool" = some (.type "bool") := by decide +kernel
theorem bt_range : bootBuiltins "range" = some (.type "range") := by decide +kernel
end L2
set_option maxRecDepth 100000
namespace L2
open PySem PySem.Spec PyProof.Rows
section
variable {X : Cx} {tg : Expr}
end
end L2
set_option maxRecDepth 100000
namespace LW
open PySem L2
noncomputable def com : List Nat → List Nat → Nat
  | a :: x, b :: y => if a = b then com x y + 1 else 0
  | _, _ => 0
theorem com_le : ∀ l p : List Nat, com l p ≤ l.length ∧ com l p ≤ p.length
  | [], p => by cases p <;> exact ⟨Nat.zero_le _, Nat.zero_le _⟩
  | a :: x, [] => ⟨Nat.zero_le _, Nat.zero_le _⟩
  | a :: x, b :: y => by
    unfold com
    split
    · have := com_le x y
      exact ⟨Nat.succ_le_succ this.1, Nat.succ_le_succ this.2⟩
    · exact ⟨Nat.zero_le _, Nat.zero_le _⟩
theorem com_is : ∀ (l p : List Nat) (k : Nat), k ≤ l.length → k ≤ p.length → (∀ j : Nat, j < k → l[j]? = p[j]?) → (k = l.length ∨ k = p.length ∨ l[k]? ≠ p[k]?) → com l p = k
  | [], p, k, h1, h2, h3, h4 => by
    have : k = 0 := by simpa using h1
    cases p <;> exact this.symm
  | a :: x, [], k, h1, h2, h3, h4 => by
    have : k = 0 := by simpa using h2
    exact this.symm
  | a :: x, b :: y, 0, h1, h2, h3, h4 => by
    unfold com
    rw [if_neg]
    rintro rfl
    rcases h4 with z | z | z
    · simp at z
    · simp at z
    · simp at z
  | a :: x, b :: y, k + 1, h1, h2, h3, h4 => by
    have e : a = b := by simpa using h3 0 (Nat.succ_pos _)
    unfold com
    rw [if_pos e]
    rw [com_is x y k (Nat.le_of_succ_le_succ h1) (Nat.le_of_succ_le_succ h2) (fun j hj => by simpa using h3 (j + 1) (Nat.succ_lt_succ hj)) (by simpa using h4)]
theorem lt_com : ∀ l p : List Nat, decide (l < p) = if com l p < l.length ∧ com l p < p.length then decide (l.getD (com l p) 0 < p.getD (com l p) 0) else decide (l.length < p.length)
  | [], [] => by simp [com]
  | [], b :: y => by simp [com]
  | a :: x, [] => by simp [com]
  | a :: x, b :: y => by
    have ih := lt_com x y
    unfold com
    by_cases e : a = b
    · subst e
      rw [if_pos rfl]
      have e1 : decide (a :: x < a :: y) = decide (x < y) := by
        rw [Bool.eq_iff_iff]
        simp [List.cons_lt_cons_iff]
      rw [e1, ih]
      simp only [List.length_cons, Nat.add_lt_add_iff_right, List.getD_cons_succ]
    · rw [if_neg e]
      rw [if_pos ⟨by simp, by simp⟩]
      rw [Bool.eq_iff_iff]
      simp [List.cons_lt_cons_iff, e]
end LW
set_option maxRecDepth 100000
namespace LS
open PySem PySem.W PyProof.Rows
abbrev gt (p : Array Nat) (k : Nat) : Nat := p.getD k 0
theorem gt_of {p r : Array Nat} {k l : Nat} (h : p[k]? = r[l]?) : gt p k = gt r l := by
  unfold gt
  rw [Array.getD_eq_getD_getElem?, Array.getD_eq_getD_getElem?, h]
theorem gt_rev {p : Array Nat} {i j : Nat} (hj : j ≤ p.size) (k : Nat) : gt (kas_rev p i j) k = if i ≤ k ∧ k < j then gt p (i + j - 1 - k) else gt p k := by
  have e := getElem?_mirror_all (i := i) hj k
  by_cases h : i ≤ k ∧ k < j
  · rw [if_pos h] at e ⊢; exact gt_of e
  · rw [if_neg h] at e ⊢; exact gt_of e
theorem gt_bub {p : Array Nat} {a d : Nat} (hs : a < p.size) (hd : d ≤ a) (k : Nat) : gt (bubble p a d) k = if k = a - d then gt p a else if a - d < k ∧ k ≤ a then gt p (k - 1) else gt p k := by
  have e := getElem?_bubble hs d hd k
  by_cases h1 : k = a - d
  · rw [if_pos h1] at e ⊢; exact gt_of e
  · rw [if_neg h1] at e ⊢
    by_cases h2 : a - d < k ∧ k ≤ a
    · rw [if_pos h2] at e ⊢; exact gt_of e
    · rw [if_neg h2] at e ⊢; exact gt_of e
noncomputable def Pm (n : Nat) (p : Array Nat) : Prop := p.toList.Perm (List.range n)
theorem Pm.size {n : Nat} {p : Array Nat} (h : Pm n p) : p.size = n := by
  have := h.length_eq
  simpa using this
theorem Pm.lt {n : Nat} {p : Array Nat} (h : Pm n p) {k : Nat} (hk : k < n) : gt p k < n := by
  have hs := h.size
  have : gt p k ∈ p.toList := by
    have hk' : k < p.size := by omega
    unfold gt
    rw [Array.getD_eq_getD_getElem?, Array.getElem?_eq_getElem hk']
    simp
  have := h.mem_iff.mp this
  simpa using this
theorem Pm.rev {n : Nat} {p : Array Nat} (h : Pm n p) (i j : Nat) : Pm n (kas_rev p i j) := (Array.perm_iff_toList_perm.mp (mirror_perm p i j _)).trans h
theorem Pm.bub {n : Nat} {p : Array Nat} (h : Pm n p) (a d : Nat) : Pm n (bubble p a d) := (Array.perm_iff_toList_perm.mp (bubble_perm p a d)).trans h
section
variable {O : KeyOrd} {key : Nat → O.α} {n : Nat}
noncomputable def Up (key : Nat → O.α) (p : Array Nat) (k : Nat) : Prop := ∀ i j, i ≤ j → j < k → O.kle (key (gt p i)) (key (gt p j))
noncomputable def Dn (key : Nat → O.α) (p : Array Nat) (k : Nat) : Prop := ∀ i j, i ≤ j → j < k → O.kle (key (gt p j)) (key (gt p i))
theorem up_one {p : Array Nat} : Up key p 1 := fun i j hij hj => by
  have : i = j := by omega
  subst this
  exact KeyOrd.kle_refl _
theorem rev_same {p : Array Nat} {i j : Nat} (hj : j ≤ p.size) (h : ∀ k, i ≤ k → k < j → key (gt p k) = key (gt p (j - 1))) (k : Nat) : key (gt (kas_rev p i j) k) = key (gt p k) := by
  rw [gt_rev hj]
  split
  · rw [h _ (by omega) (by omega), h k (by omega) (by omega)]
  · rfl
structure Asks (key : Nat → O.α) (n : Nat) (J : Shared → Prop) (cmp : Nat → Nat → (Bool → Shared → Prop) → Shared → Prop) : Prop where
  ask : ∀ i j C s, i < n → j < n → J s → (∀ s', J s' → C (O.blt (key i) (key j)) s') → cmp i j C s
variable {J : Shared → Prop} {cmp : Nat → Nat → (Bool → Shared → Prop) → Shared → Prop}
theorem asc_ok (hc : Asks key n J cmp) {p : Array Nat} (hp : Pm n p) {Q : Nat → Shared → Prop} : ∀ (f a : Nat) (s : Shared), 1 ≤ a → a + f ≤ n → Up key p a → J s →
    (∀ m s', J s' → a ≤ m → m ≤ a + f → Up key p m → (m = a + f ∨ O.klt (key (gt p m)) (key (gt p (m - 1)))) → Q m s') → (kas_asc p f a).kasWp cmp Q s
  | 0, a, s, h1, h2, hu, hj, h => h a s hj (Nat.le_refl _) (Nat.le_refl _) hu (.inl rfl)
  | f + 1, a, s, h1, h2, hu, hj, h => by
    refine hc.ask _ _ _ _ (hp.lt (by omega)) (hp.lt (by omega)) hj fun s' hj' => ?_
    cases e : O.blt (key (gt p a)) (key (gt p (a - 1))) with
    | true =>
      show (if true = true then KasT.ret a else kas_asc p f (a + 1)).kasWp cmp Q s'
      rw [if_pos rfl]
      exact h a s' hj' (Nat.le_refl _) (by omega) hu (.inr e)
    | false =>
      show (if false = true then KasT.ret a else kas_asc p f (a + 1)).kasWp cmp Q s'
      rw [if_neg Bool.false_ne_true]
      refine asc_ok hc hp f (a + 1) s' (by omega) (by omega) (fun i j hij hj2 => ?_) hj' fun m s2 q1 q2 q3 q4 q5 => h m s2 q1 (by omega) (by omega) q4 (q5.imp (fun z => by omega) id)
      by_cases hja : j < a
      · exact hu i j hij hja
      · have : j = a := by omega
        subst this
        by_cases hi : i = j
        · subst hi; exact KeyOrd.kle_refl _
        · exact KeyOrd.kle_trans (hu i (j - 1) (by omega) (by omega)) e
theorem desc_ok (hc : Asks key n J cmp) {Q : Array Nat × Nat × Nat → Shared → Prop} : ∀ (f : Nat) (p : Array Nat) (a q : Nat) (s : Shared), Pm n p → 1 ≤ a → a + f ≤ n → Dn key p a → q + 1 ≤ a → (∀ i, a - (q + 1) ≤ i → i < a → key (gt p i) = key (gt p (a - 1))) → J s →
    (∀ p' m q' s', J s' → Pm n p' → a ≤ m → m ≤ a + f → Dn key p' m → q' + 1 ≤ m → (∀ i, m - (q' + 1) ≤ i → i < m → key (gt p' i) = key (gt p' (m - 1))) → Q (p', m, q') s') → (kas_desc f p a q).kasWp cmp Q s
  | 0, p, a, q, s, hp, h1, h2, hd, hq, he, hj, h => h p a q s hj hp (Nat.le_refl _) (Nat.le_refl _) hd hq he
  | f + 1, p, a, q, s, hp, h1, h2, hd, hq, he, hj, h => by
    refine hc.ask _ _ _ _ (hp.lt (by omega)) (hp.lt (by omega)) hj fun s' hj' => ?_
    have hsz := hp.size
    cases e : O.blt (key (gt p a)) (key (gt p (a - 1))) with
    | true =>
      show (if true = true then (if q > 0 then kas_desc f (kas_rev p (a - (q + 1)) a) (a + 1) 0 else kas_desc f p (a + 1) 0) else _).kasWp cmp Q s'
      rw [if_pos rfl]
      have step : ∀ r : Array Nat, (∀ k, key (gt r k) = key (gt p k)) → Dn key r (a + 1) := by
        intro r hr i j hij hj2
        rw [hr, hr]
        by_cases hja : j < a
        · exact hd i j hij hja
        · have : j = a := by omega
          subst this
          by_cases hi : i = j
          · subst hi; exact KeyOrd.kle_refl _
          · exact KeyOrd.kle_trans (KeyOrd.kle_of_klt e) (hd i (j - 1) (by omega) (by omega))
      have go : ∀ r : Array Nat, Pm n r → (∀ k, key (gt r k) = key (gt p k)) → (kas_desc f r (a + 1) 0).kasWp cmp Q s' := fun r hr hk =>
        desc_ok hc f r (a + 1) 0 s' hr (by omega) (by omega) (step r hk) (by omega) (fun i z1 z2 => by congr 2; omega) hj' fun p' m q' s2 y1 y2 y3 y4 y5 y6 y7 => h p' m q' s2 y1 y2 (by omega) (by omega) y5 y6 y7
      by_cases h0 : q > 0
      · rw [if_pos h0]
        exact go _ (hp.rev _ _) (rev_same (by omega) he)
      · rw [if_neg h0]
        exact go _ hp fun _ => rfl
    | false =>
      show (if false = true then _ else KasT.ask (gt p (a - 1)) (gt p a) fun d => if d = true then .ret (p, a, q) else kas_desc f p (a + 1) (q + 1)).kasWp cmp Q s'
      rw [if_neg Bool.false_ne_true]
      refine hc.ask _ _ _ _ (hp.lt (by omega)) (hp.lt (by omega)) hj' fun s2 hj2 => ?_
      cases e2 : O.blt (key (gt p (a - 1))) (key (gt p a)) with
      | true =>
        show (if true = true then KasT.ret (p, a, q) else kas_desc f p (a + 1) (q + 1)).kasWp cmp Q s2
        rw [if_pos rfl]
        exact h p a q s2 hj2 hp (Nat.le_refl _) (by omega) hd hq he
      | false =>
        show (if false = true then KasT.ret (p, a, q) else kas_desc f p (a + 1) (q + 1)).kasWp cmp Q s2
        rw [if_neg Bool.false_ne_true]
        have ex : key (gt p a) = key (gt p (a - 1)) := KeyOrd.kle_antisymm e2 e
        refine desc_ok hc f p (a + 1) (q + 1) s2 hp (by omega) (by omega) (fun i j hij hj3 => ?_) (by omega) (fun i z1 z2 => ?_) hj2 fun p' m q' s3 y1 y2 y3 y4 y5 y6 y7 => h p' m q' s3 y1 y2 (by omega) (by omega) y5 y6 y7
        · by_cases hja : j < a
          · exact hd i j hij hja
          · have : j = a := by omega
            subst this
            by_cases hi : i = j
            · subst hi; exact KeyOrd.kle_refl _
            · rw [ex]; exact hd i (j - 1) (by omega) (by omega)
        · rw [show a + 1 - 1 = a by omega]
          by_cases hi : i = a
          · subst hi; rfl
          · rw [ex]; exact he i (by omega) (by omega)
theorem tail_ok (hc : Asks key n J cmp) {p : Array Nat} {a nrem : Nat} {s : Shared} {Q : Nat × Array Nat → Shared → Prop} (hp : Pm n p) (h1 : 1 ≤ a) (h2 : a ≤ nrem) (h3 : nrem ≤ n) (hd : Dn key p a) (hj : J s)
    (h : ∀ m p' s', J s' → Pm n p' → 1 ≤ m → m ≤ nrem → Up key p' m → Q (m, p') s') : (kas_tail3 a nrem p).kasWp cmp Q s := by
  unfold kas_tail3
  rw [KasT.kasWp_bind]
  have hsz := hp.size
  refine asc_ok hc (hp.rev 0 a) (nrem - a) a s h1 (by omega) (fun i j hij hj2 => ?_) hj fun m s' y1 y2 y3 y4 _ => h m _ s' y1 (hp.rev 0 a) (by omega) (by omega) y4
  rw [gt_rev (by omega), gt_rev (by omega), if_pos (by omega), if_pos (by omega)]
  exact hd _ _ (by omega) (by omega)
theorem descPart_ok (hc : Asks key n J cmp) {p : Array Nat} {a nrem : Nat} {s : Shared} {Q : Nat × Array Nat → Shared → Prop} (hp : Pm n p) (h2 : a + 1 ≤ nrem) (h3 : nrem ≤ n) (hd : Dn key p (a + 1)) (hj : J s)
    (h : ∀ m p' s', J s' → Pm n p' → 1 ≤ m → m ≤ nrem → Up key p' m → Q (m, p') s') : (kas_descPart a nrem p).kasWp cmp Q s := by
  unfold kas_descPart
  rw [KasT.kasWp_bind]
  refine desc_ok hc (nrem - (a + 1)) p (a + 1) 0 s hp (by omega) (by omega) hd (by omega) (fun i z1 z2 => by congr 2; omega) hj fun p' m q' s' y1 y2 y3 y4 y5 y6 y7 => ?_
  dsimp only
  have hsz := y2.size
  by_cases h0 : q' > 0
  · rw [if_pos h0]
    refine tail_ok hc (y2.rev _ _) (by omega) (by omega) h3 (fun i j hij hj2 => ?_) y1 h
    rw [rev_same (by omega) y7, rev_same (by omega) y7]
    exact y5 i j hij hj2
  · rw [if_neg h0]
    exact tail_ok hc y2 (by omega) (by omega) h3 y5 y1 h
theorem count_ok (hc : Asks key n J cmp) {p : Array Nat} {s : Shared} {Q : Nat × Array Nat → Shared → Prop} (hp : Pm n p) (h1 : 1 ≤ n) (hj : J s)
    (h : ∀ m p' s', J s' → Pm n p' → 1 ≤ m → m ≤ n → Up key p' m → Q (m, p') s') : (kas_count n p).kasWp cmp Q s := by
  unfold kas_count
  rw [KasT.kasWp_bind]
  have hsz := hp.size
  refine asc_ok hc hp (n - 1) 1 s (Nat.le_refl _) (by omega) up_one hj fun m s' y1 y2 y3 y4 y5 => ?_
  by_cases hm : m = n
  · rw [if_pos (by simpa using hm)]
    exact h m p s' y1 hp y2 (by omega) y4
  · rw [if_neg (by simpa using hm)]
    have hlt : O.klt (key (gt p m)) (key (gt p (m - 1))) := y5.resolve_left (by omega)
    by_cases hg : m > 1
    · rw [if_pos hg]
      refine hc.ask _ _ _ _ (hp.lt (by omega)) (hp.lt (by omega)) y1 fun s2 hj2 => ?_
      cases e : O.blt (key (gt p 0)) (key (gt p (m - 1))) with
      | true =>
        dsimp only
        rw [if_pos rfl]
        exact h m p s2 hj2 hp y2 (by omega) y4
      | false =>
        dsimp only
        rw [if_neg Bool.false_ne_true]
        have hall : ∀ k, 0 ≤ k → k < m → key (gt p k) = key (gt p (m - 1)) := fun k _ hk =>
          KeyOrd.kle_antisymm (y4 k (m - 1) (by omega) (by omega)) (KeyOrd.kle_trans e (y4 0 k (by omega) hk))
        refine descPart_ok hc (hp.rev 0 m) (by omega) (Nat.le_refl _) (fun i j hij hj3 => ?_) hj2 h
        rw [rev_same (by omega) hall, rev_same (by omega) hall]
        by_cases hjm : j < m
        · rw [hall i (by omega) (by omega), hall j (by omega) hjm]; exact KeyOrd.kle_refl _
        · have : j = m := by omega
          subst this
          by_cases hi : i = j
          · subst hi; exact KeyOrd.kle_refl _
          · rw [hall i (by omega) (by omega)]; exact KeyOrd.kle_of_klt hlt
    · rw [if_neg hg]
      have : m = 1 := by omega
      subst this
      refine descPart_ok hc hp (by omega) (Nat.le_refl _) (fun i j hij hj3 => ?_) y1 h
      by_cases hi : i = j
      · subst hi; exact KeyOrd.kle_refl _
      · have hi0 : i = 0 := by omega
        have hj1 : j = 1 := by omega
        subst hi0 hj1
        exact KeyOrd.kle_of_klt hlt
theorem place_ok (hc : Asks key n J cmp) {p : Array Nat} {k : Nat} (hp : Pm n p) (hk : k < n) (hu : Up key p k) {Q : Nat → Shared → Prop} : ∀ (f l r : Nat) (s : Shared), l ≤ r → r ≤ k → r - l ≤ f → (∀ i, i < l → O.kle (key (gt p i)) (key (gt p k))) → (∀ i, r ≤ i → i < k → O.klt (key (gt p k)) (key (gt p i))) → J s →
    (∀ l s', J s' → l ≤ k → (∀ i, i < l → O.kle (key (gt p i)) (key (gt p k))) → (∀ i, l ≤ i → i < k → O.klt (key (gt p k)) (key (gt p i))) → Q l s') → (kas_place p k f l r).kasWp cmp Q s
  | 0, l, r, s, h1, h2, h3, hlo, hhi, hj, h => by
    have : l = r := by omega
    subst this
    exact h l s hj h2 hlo hhi
  | f + 1, l, r, s, h1, h2, h3, hlo, hhi, hj, h => by
    unfold kas_place
    by_cases hge : l ≥ r
    · rw [if_pos hge]
      have : l = r := by omega
      subst this
      exact h l s hj h2 hlo hhi
    · rw [if_neg hge]
      refine hc.ask _ _ _ _ (hp.lt (by omega)) (hp.lt (by omega)) hj fun s' hj' => ?_
      cases e : O.blt (key (gt p k)) (key (gt p ((l + r) / 2))) with
      | true =>
        dsimp only
        rw [if_pos rfl]
        exact place_ok hc hp hk hu f l ((l + r) / 2) s' (by omega) (by omega) (by omega) hlo (fun i z1 z2 => KeyOrd.klt_of_klt_of_kle e (hu _ _ z1 z2)) hj' h
      | false =>
        dsimp only
        rw [if_neg Bool.false_ne_true]
        exact place_ok hc hp hk hu f ((l + r) / 2 + 1) r s' (by omega) (by omega) (by omega) (fun i z => KeyOrd.kle_trans (hu i ((l + r) / 2) (by omega) (by omega)) e) hhi hj' h
theorem bin_ok (hc : Asks key n J cmp) {Q : Array Nat → Shared → Prop} : ∀ (f : Nat) (p : Array Nat) (k : Nat) (s : Shared), Pm n p → k + f = n → Up key p k → J s → (∀ p' s', J s' → Pm n p' → Up key p' n → Q p' s') → (kas_bin f p k).kasWp cmp Q s
  | 0, p, k, s, hp, hk, hu, hj, h => by
    have : k = n := by omega
    subst this
    exact h p s hj hp hu
  | f + 1, p, k, s, hp, hk, hu, hj, h => by
    unfold kas_bin
    rw [KasT.kasWp_bind]
    have hsz := hp.size
    refine place_ok hc hp (by omega) hu k 0 k s (by omega) (Nat.le_refl _) (by omega) (fun i z => by omega) (fun i z1 z2 => by omega) hj fun l s' hj' hl hlo hhi => ?_
    refine bin_ok hc f (bubble p k (k - l)) (k + 1) s' (hp.bub _ _) (by omega) (fun i j hij hj2 => ?_) hj' h
    rw [gt_bub (by omega) (by omega), gt_bub (by omega) (by omega), show k - (k - l) = l by omega]
    repeat' split
    all_goals first
      | (exfalso; omega)
      | exact KeyOrd.kle_refl _
      | exact hlo _ (by omega)
      | exact KeyOrd.kle_of_klt (hhi _ (by omega) (by omega))
      | exact hu _ _ (by omega) (by omega)
end
end LS
set_option maxRecDepth 100000
namespace LS
open PySem PySem.W PyProof.Rows
theorem Pm.inj {n : Nat} {p : Array Nat} (h : Pm n p) {i j : Nat} (hi : i < n) (hj : j < n) (e : gt p i = gt p j) : i = j := by
  have hs := h.size
  have nd : p.toList.Nodup := h.nodup_iff.mpr List.nodup_range
  have gi : gt p i = p.toList[i]'(by simp; omega) := by
    unfold gt
    rw [Array.getD_eq_getD_getElem?, Array.getElem?_eq_getElem (by omega)]
    simp
  have gj : gt p j = p.toList[j]'(by simp; omega) := by
    unfold gt
    rw [Array.getD_eq_getD_getElem?, Array.getElem?_eq_getElem (by omega)]
    simp
  rw [gi, gj] at e
  rcases Nat.lt_trichotomy i j with h1 | h1 | h1
  · exact absurd e (List.pairwise_iff_getElem.mp nd i j (by simp; omega) (by simp; omega) h1)
  · exact h1
  · exact absurd e.symm (List.pairwise_iff_getElem.mp nd j i (by simp; omega) (by simp; omega) h1)
noncomputable def Fx (n : Nat) (p : Array Nat) (a : Nat) : Prop := ∀ k, a ≤ k → k < n → gt p k = k
theorem Fx.mono {n a b : Nat} {p : Array Nat} (h : Fx n p a) (hab : a ≤ b) : Fx n p b := fun k h1 h2 => h k (Nat.le_trans hab h1) h2
theorem Fx.low {n a i : Nat} {p : Array Nat} (h : Fx n p a) (hp : Pm n p) (ha : a ≤ n) (hi : i < a) : gt p i < a := by
  have hl := hp.lt (k := i) (by omega)
  refine Nat.lt_of_not_le fun hge => ?_
  have e := h (gt p i) hge hl
  have := hp.inj hl (by omega) e
  omega
theorem Fx.rev {n a i j : Nat} {p : Array Nat} (h : Fx n p a) (hp : Pm n p) (hj : j ≤ a) (ha : a ≤ n) : Fx n (kas_rev p i j) a := fun k h1 h2 => by
  have hs := hp.size
  rw [gt_rev (by omega), if_neg (by omega)]
  exact h k h1 h2
section
variable {O : KeyOrd} {key : Nat → O.α} {n : Nat}
noncomputable def St (key : Nat → O.α) (p : Array Nat) (k : Nat) : Prop := ∀ i j, i < j → j < k → key (gt p i) = key (gt p j) → gt p i < gt p j
noncomputable def Sd (key : Nat → O.α) (p : Array Nat) (k : Nat) : Prop := ∀ i j, i < j → j < k → key (gt p i) = key (gt p j) → gt p j < gt p i
noncomputable def Ust (key : Nat → O.α) (p : Array Nat) (k : Nat) : Prop := Up key p k ∧ St key p k
variable {J : Shared → Prop} {cmp : Nat → Nat → (Bool → Shared → Prop) → Shared → Prop}
structure Ds (key : Nat → O.α) (n : Nat) (p : Array Nat) (a q : Nat) : Prop where
  dn : Dn key p a
  sd : Sd key p (a - (q + 1))
  lt : ∀ i j, i < a - (q + 1) → a - (q + 1) ≤ j → j < a → O.klt (key (gt p j)) (key (gt p i))
  up : ∀ i j, a - (q + 1) ≤ i → i < j → j < a → gt p i < gt p j
  fx : Fx n p a
  eq : ∀ i, a - (q + 1) ≤ i → i < a → key (gt p i) = key (gt p (a - 1))
theorem klt_ne {x y : O.α} (h : O.klt x y) : x ≠ y := fun e => by
  subst e
  have : O.blt x x = true := h
  rw [O.irrefl] at this
  cases this
theorem Ds.one {p : Array Nat} {a : Nat} (ha : 1 ≤ a) (d : Ds key n p a 0) : Sd key p a := fun i j hij hj e => by
  by_cases h2 : j < a - 1
  · exact d.sd i j hij (by omega) e
  · exact absurd e.symm (klt_ne (d.lt i j (by omega) (by omega) hj))
end
end LS
set_option maxRecDepth 100000
namespace LO
noncomputable def eLe (l : List Nat) (i j : Nat) : Bool := decide (l.drop i ≤ l.drop j)
noncomputable def ord (l : List Nat) : List Nat := (List.range (l.length + 1)).mergeSort (eLe l)
theorem ord_perm (l : List Nat) : (ord l).Perm (List.range (l.length + 1)) := List.mergeSort_perm _ _
theorem ord_length (l : List Nat) : (ord l).length = l.length + 1 := by
  rw [(ord_perm l).length_eq, List.length_range]
theorem mem_ord {l : List Nat} {i : Nat} : i ∈ ord l ↔ i ≤ l.length := by
  rw [(ord_perm l).mem_iff, List.mem_range]
  omega
theorem ord_nodup (l : List Nat) : (ord l).Nodup := (ord_perm l).symm.nodup List.nodup_range
theorem ord_le (l : List Nat) : (ord l).Pairwise (fun i j => l.drop i ≤ l.drop j) := by
  have h := List.pairwise_mergeSort (le := eLe l) (fun a b c h1 h2 => by
    unfold eLe at *
    simp only [decide_eq_true_eq] at *
    exact List.le_trans h1 h2) (fun a b => by
    unfold eLe
    simp only [Bool.or_eq_true, decide_eq_true_eq]
    exact List.le_total _ _) (List.range (l.length + 1))
  refine h.imp fun h => ?_
  simpa [eLe] using h
theorem drop_inj {l : List Nat} {i j : Nat} (hi : i ≤ l.length) (hj : j ≤ l.length) (h : l.drop i = l.drop j) : i = j := by
  have := congrArg List.length h
  rw [List.length_drop, List.length_drop] at this
  omega
theorem drop_lt_of {l : List Nat} {i j : Nat} (hi : i ≤ l.length) (hj : j ≤ l.length) (hn : i ≠ j) (h : l.drop i ≤ l.drop j) : l.drop i < l.drop j := by
  rcases List.le_iff_lt_or_eq.mp h with h | h
  · exact h
  · exact absurd (drop_inj hi hj h) hn
theorem ord_lt (l : List Nat) : (ord l).Pairwise (fun i j => l.drop i < l.drop j) := by
  have h1 := ord_le l
  have h2 : (ord l).Pairwise (· ≠ ·) := ord_nodup l
  have h3 := h1.and h2
  refine List.Pairwise.imp_of_mem ?_ h3
  intro a b ha hb h
  exact drop_lt_of (mem_ord.mp ha) (mem_ord.mp hb) h.2 h.1
theorem ord_only {l p : List Nat} (hp : p.Perm (List.range (l.length + 1))) (hs : p.Pairwise (fun i j => l.drop i ≤ l.drop j)) : p = ord l := by
  refine List.Perm.eq_of_pairwise (le := fun i j => l.drop i ≤ l.drop j) (fun a b ha hb h1 h2 => ?_) hs (ord_le l) (hp.trans (ord_perm l).symm)
  have ha := hp.mem_iff.mp ha
  have hb := mem_ord.mp hb
  rw [List.mem_range] at ha
  exact drop_inj (by omega) hb (List.le_antisymm h1 h2)
theorem count_before {α : Type} {lt : α → α → Bool} (irr : ∀ a, lt a a = false) (asym : ∀ a b, lt a b = true → lt b a = false) : ∀ {xs : List α}, xs.Pairwise (fun a b => lt a b = true) → ∀ {k : Nat} {x : α}, xs[k]? = some x → xs.countP (fun a => lt a x) = k
  | [], _, k, x, h => by simp at h
  | a :: r, hp, 0, x, h => by
    simp at h
    subst h
    rw [List.countP_cons, irr]
    have : r.countP (fun b => lt b a) = 0 := by
      rw [List.countP_eq_zero]
      intro b hb
      have := (List.pairwise_cons.mp hp).1 b hb
      rw [asym _ _ this]
      simp
    rw [this]
    simp
  | a :: r, hp, k + 1, x, h => by
    have hx : r[k]? = some x := by simpa using h
    have ih := count_before irr asym (List.pairwise_cons.mp hp).2 hx
    have : lt a x = true := (List.pairwise_cons.mp hp).1 x (List.mem_of_getElem? hx)
    rw [List.countP_cons, ih, this]
    simp
noncomputable def rank (l : List Nat) (j : Nat) : Nat := (List.range (l.length + 1)).countP (fun i => decide (l.drop i < l.drop j))
theorem rank_of {l : List Nat} {k j : Nat} (h : (ord l)[k]? = some j) : rank l j = k := by
  have hp : (ord l).Pairwise (fun a b => decide (l.drop a < l.drop b) = true) := (ord_lt l).imp fun h => decide_eq_true h
  have := count_before (lt := fun a b => decide (l.drop a < l.drop b)) (fun a => decide_eq_false (List.lt_irrefl _)) (fun a b h => by
    have h := of_decide_eq_true h
    exact decide_eq_false fun z => List.lt_irrefl _ (List.lt_trans h z)) hp h
  rw [← this]
  exact ((ord_perm l).countP_eq _).symm
theorem ord_rank {l : List Nat} {j : Nat} (hj : j ≤ l.length) : (ord l)[rank l j]? = some j := by
  obtain ⟨k, hk⟩ := List.getElem?_of_mem (mem_ord.mpr hj)
  rw [rank_of hk]
  exact hk
theorem rank_lt {l : List Nat} {j : Nat} (hj : j ≤ l.length) : rank l j < l.length + 1 := by
  have := (List.getElem?_eq_some_iff.mp (ord_rank hj)).1
  rw [ord_length] at this
  exact this
noncomputable def ahead (l : List Nat) (p : Nat) : Option Nat := if p = 0 then none else l[p - 1]?
noncomputable def letters (l : List Nat) : List Nat := (ord l).filterMap (ahead l)
noncomputable def home (l : List Nat) : Nat := rank l 0
noncomputable def lessP (c : Nat) : Option Nat → Bool
  | some d => decide (d < c)
  | none => false
noncomputable def less (rs : List (Option Nat)) (c : Nat) : Nat := rs.countP (lessP c)
noncomputable def before (rs : List (Option Nat)) (c k : Nat) : Nat := (rs.take k).countP (fun o => o == some c)
theorem countP_add {α : Type} (f g h : α → Bool) (xs : List α) (hh : ∀ x ∈ xs, (if h x then 1 else 0) = (if f x then 1 else 0) + (if g x then 1 else 0)) : xs.countP h = xs.countP f + xs.countP g := by
  induction xs with
  | nil => rfl
  | cons x r ih =>
    have h1 := hh x (List.mem_cons_self)
    have h2 := ih fun y hy => hh y (List.mem_cons_of_mem _ hy)
    rw [List.countP_cons, List.countP_cons, List.countP_cons, h2, h1]
    omega
end LO
set_option maxRecDepth 100000
namespace LO
abbrev Rs := List (Option Nat)
noncomputable def bk (rs : Rs) (k : Nat) : Option Nat := match rs[k]? with
  | some (some c) => some (1 + less rs c + before rs c k)
  | _ => none
noncomputable def lets (rs : Rs) : List Nat := rs.filterMap id
noncomputable def rd (rs : Rs) : Nat → Option Nat
  | 0 => some 0
  | k + 1 => (rd rs k).bind (bk rs)
noncomputable def Whole (rs : Rs) : Prop := ∃ r, rd rs ((lets rs).length) = some r
end LO
set_option maxRecDepth 100000
namespace LO
noncomputable def low (l t : List Nat) : Nat := (List.range (l.length + 1)).countP (fun i => decide (l.drop i < t))
noncomputable def hasAt (l t : List Nat) (i : Nat) : Bool := t.isPrefixOf (l.drop i)
noncomputable def many (l t : List Nat) : Nat := (List.range (l.length + 1)).countP (fun i => hasAt l t i)
noncomputable def upto (l t : List Nat) (i : Nat) : Bool := decide (l.drop i < t) || hasAt l t i
noncomputable def high (l t : List Nat) : Nat := low l t + many l t
theorem pre_not_lt : ∀ {t x : List Nat}, t.isPrefixOf x = true → ¬ x < t
  | [], x, _ => List.not_lt_nil _
  | c :: t, [], h => by simp at h
  | c :: t, d :: x, h => by
    simp only [List.isPrefixOf_cons₂, Bool.and_eq_true, beq_iff_eq] at h
    rw [List.cons_lt_cons_iff]
    rintro (z | ⟨_, z⟩)
    · omega
    · exact pre_not_lt h.2 z
theorem high_eq (l t : List Nat) : high l t = (List.range (l.length + 1)).countP (upto l t) := by
  unfold high low many
  refine (countP_add _ _ _ _ fun i _ => ?_).symm
  unfold upto
  cases e : hasAt l t i with
  | false => cases decide (l.drop i < t) <;> rfl
  | true =>
    have : ¬ l.drop i < t := pre_not_lt e
    simp [this]
theorem squeeze : ∀ {t x u : List Nat}, t ≤ x → x ≤ t ++ u → t.isPrefixOf x = true
  | [], x, u, _, _ => by simp
  | c :: t, [], u, h, _ => absurd (List.nil_lt_cons c t) (List.not_lt.mpr h)
  | c :: t, d :: x, u, h1, h2 => by
    rw [List.cons_append] at h2
    have a : ¬ (d :: x < c :: t) := List.not_lt.mpr h1
    have b : ¬ (c :: (t ++ u) < d :: x) := List.not_lt.mpr h2
    rw [List.cons_lt_cons_iff] at a b
    have e : c = d := by omega
    subst e
    simp only [List.isPrefixOf_cons₂, Bool.and_eq_true, beq_self_eq_true, true_and]
    exact squeeze (List.not_lt.mp fun z => a (.inr ⟨rfl, z⟩)) (List.not_lt.mp fun z => b (.inr ⟨rfl, z⟩))
theorem upto_down {l t : List Nat} {i j : Nat} (h : l.drop i ≤ l.drop j) (hj : upto l t j = true) : upto l t i = true := by
  unfold upto hasAt at *
  rw [Bool.or_eq_true, decide_eq_true_eq] at *
  by_cases hx : l.drop i < t
  · exact .inl hx
  · right
    rcases hj with hj | hj
    · exact absurd (List.lt_of_le_of_lt h hj) hx
    · obtain ⟨u, hu⟩ := List.isPrefixOf_iff_prefix.mp hj
      refine squeeze (u := u) (List.not_lt.mp hx) ?_
      rw [hu]
      exact h
theorem low_down {l t : List Nat} {i j : Nat} (h : l.drop i ≤ l.drop j) (hj : decide (l.drop j < t) = true) : decide (l.drop i < t) = true := decide_eq_true (List.lt_of_le_of_lt h (of_decide_eq_true hj))
theorem rank_in {l t : List Nat} {i : Nat} (hi : i ≤ l.length) : hasAt l t i = true ↔ low l t ≤ rank l i ∧ rank l i < high l t := by
  have key : ∀ {D : Nat → Bool}, (∀ i j, l.drop i ≤ l.drop j → D j = true → D i = true) → (D i = true ↔ rank l i < (List.range (l.length + 1)).countP D) := by
    intro D hd
    have hs : (ord l).Pairwise (fun a b => D b = true → D a = true) := (ord_le l).imp fun {i j} h => hd i j h
    have go : ∀ {xs : List Nat} {k x : Nat}, xs.Pairwise (fun a b => D b = true → D a = true) → xs[k]? = some x → (D x = true ↔ k < xs.countP D) := by
      intro xs
      induction xs with
      | nil => intro k x _ h; simp at h
      | cons a r ih =>
        intro k x hp h
        cases ea : D a with
        | true =>
          rw [List.countP_cons_of_pos ea]
          cases k with
          | zero => simp at h; subst h; simp [ea]
          | succ k =>
            have := ih (k := k) (x := x) (List.pairwise_cons.mp hp).2 (by simpa using h)
            rw [this, Nat.add_lt_add_iff_right]
        | false =>
          have z : r.countP D = 0 := by
            rw [List.countP_eq_zero]
            intro b hb hd
            have := (List.pairwise_cons.mp hp).1 b hb hd
            rw [ea] at this
            cases this
          rw [List.countP_cons_of_neg (by rw [ea]; simp), z]
          constructor
          · intro hx
            rcases List.mem_cons.mp (List.mem_of_getElem? h) with e | e
            · rw [e, ea] at hx; cases hx
            · have := (List.pairwise_cons.mp hp).1 x e hx
              rw [ea] at this; cases this
          · intro hx; omega
    have := go hs (ord_rank hi)
    rwa [(ord_perm l).countP_eq] at this
  have k1 := key (D := fun i => decide (l.drop i < t)) fun i j => low_down
  have k2 := key (D := upto l t) fun i j => upto_down
  rw [high_eq]
  have e1 : low l t = (List.range (l.length + 1)).countP (fun i => decide (l.drop i < t)) := rfl
  rw [e1]
  constructor
  · intro h
    have n : ¬ l.drop i < t := pre_not_lt h
    refine ⟨?_, k2.mp (by unfold upto; rw [h, Bool.or_true])⟩
    have : ¬ (decide (l.drop i < t) = true) := by simpa using n
    rw [k1] at this
    omega
  · rintro ⟨h1, h2⟩
    have a := k2.mpr h2
    have b : ¬ (decide (l.drop i < t) = true) := by rw [k1]; omega
    unfold upto at a
    rw [Bool.or_eq_true] at a
    exact a.resolve_left b
end LO
set_option maxRecDepth 100000
namespace L2
open PySem PySem.Spec PyProof.Rows
noncomputable def cxL (X : Cx) (A : Around) (env : Env) (N : List Str) (s : Shared) (H : Hp) : Cx :=
  { X with A := A.deeper env, N := N, s₀ := s, H₀ := H, env := env, outer := X.stack, stack := env :: X.stack, ex := [], fn := fun _ => false, pn := [], xe := fun _ _ => False }
noncomputable def lamS (v : V) (cp : List (Str × Nat)) (σ : St) : St := some v :: cp.map fun p => gS σ p.2
section
variable {X : Cx} {pins : List (Addr × Obj)} {σ : St} {H : Hp} {s : Shared} {scope : Scope} {cl : List (Str × Addr)} {cp : List (Str × Nat)} {A : Around} {env : Env} {x : Str} {v : V} {u : Value} {h1 : Heap}
theorem lam_start {tk : Nat} (I : Inv X pins σ H s) (hA : A.frames = some X.stack) (hh : A.handled = none) (hcl : closL scope.names X.env.cells [] = some cl) (hk : scope.kind = .function) (hnc : ∀ y ∈ scope.names, y.2 ≠ .cell) (hcp : CapOk X scope cp)
    (hx : scope.names.lookup x = some .local) (hnx : x ∉ cp.map (·.1)) (r : RelV v u) (e1 : env.scope = scope) (e2 : env.locals = s.heap.objs.size) (e3 : env.globals = mainGlobals) (e4 : env.cells = cl) (e5 : env.frame = some s.heap.objs.size) (e6 : env.builtins = builtinsNs)
    (hns : h1.Ns s.heap.objs.size (fun y => [(x, u)].reverse.lookup y)) (old : ∀ b o, s.heap.get? b = some o → h1.get? b = some o) :
    Inv (cxL X A env (x :: cp.map (·.1)) s H) [] (lamS v cp σ) H { s with heap := h1, toks := tk } := by
  have c1 := (closL_in scope.names [] hcl (fun x c h => by simp at h)).1
  have c2 := (closL_in scope.names [] hcl (fun x c h => by simp at h)).2
  obtain ⟨m, hm, hl⟩ := id I.loc
  have kOf : ∀ y, env.kindOf y = scope.names.lookup y := fun y => by unfold Env.kindOf; rw [e1]
  refine ⟨⟨I.ok.mod, ?_, e3, e6, ?_, ?_, ?_, fun y c z => absurd z (by simp [cxL]), fun _ => hh, ?_, .inr ⟨rfl, ?_⟩, fun b z => absurd (show b ∈ ([] : List Addr) from z) (by simp), I.bs, Nat.le_trans I.ok.bsz I.sz, fun b o _ z => absurd (show b ∈ ([] : List Addr) from z) (by simp), fun b z => absurd (show b ∈ ([] : List Addr) from z) (by simp), I.stack, I.stkFree⟩,
    rfl, I.bare, Un.kept old, ⟨fun y => [(x, u)].reverse.lookup y, ?_, fun i y w' q1 q2 q3 => ?_⟩, fun y c q => ?_, ?_, fun y c q => ?_, fun p hp => absurd (show p ∈ ([] : List (Addr × Obj)) from hp) (by simp), I.hok.kept old, ?_⟩
  · show env.scope.kind = .function
    rw [e1]; exact hk
  · show s.heap.objs.size ≤ env.locals
    rw [e2]; exact Nat.le_refl _
  · intro y z c h1 h2
    have h1 : env.cells.lookup y = some c := h1
    have h2 : env.cells.lookup z = some c := h2
    rw [e4] at h1 h2
    exact I.ok.inj y z c (c1 y c h1) (c1 z c h2)
  · intro y hy
    show ∃ c, env.cells.lookup y = some c
    rw [e4]
    have hy : env.kindOf y = some .cell ∨ env.kindOf y = some .free := hy
    rw [kOf] at hy
    rcases hy with z | z
    · exact absurd rfl (hnc _ (PySem.mem_of_lookup z))
    · exact c2 y (.inr z)
  · exact Around.frames_deeper hA
  · show env.frame = some env.locals
    rw [e5, e2]
  · show h1.Ns env.locals _
    rw [e2]; exact hns
  · have q1 : (x :: cp.map (·.1))[i]? = some y := q1
    unfold lamS at q2
    cases i with
    | zero =>
      cases q1
      cases (show some v = some w' from by simpa using q2)
      exact ⟨u, r, .inl ⟨by show env.kindOf x = _; rw [kOf]; exact hx, by simp⟩⟩
    | succ i =>
      have q1 : (cp.map (·.1))[i]? = some y := by simpa using q1
      have q2 : (cp.map fun p => gS σ p.2)[i]? = some (some w') := by simpa using q2
      rw [List.getElem?_map] at q1 q2
      cases q : cp[i]? with
      | none => rw [q] at q1; cases q1
      | some p =>
        rw [q] at q1 q2
        obtain ⟨y', j⟩ := p
        cases Option.some.inj q1
        obtain ⟨g1, g2, g3⟩ := hcp.get q
        have e4' : gS σ j = some w' := Option.some.inj q2
        obtain ⟨u', r', lk⟩ := hl j y' w' g1 (gS_get e4') (.inr (.inl g2))
        refine ⟨u', r', .inr ⟨.inr (by show env.kindOf y' = _; rw [kOf]; exact g3), ?_⟩⟩
        rcases lk with ⟨z, _⟩ | ⟨_, c, z, zc⟩
        · have z' : X.env.scope.names.lookup y' = some .local := z
          rw [g2] at z'
          cases z'
        · obtain ⟨d, hd⟩ := c2 y' (.inr g3)
          have hd' := c1 y' d hd
          rw [z] at hd'
          cases Option.some.inj hd'
          obtain ⟨o, ho, hdt⟩ := zc
          exact ⟨c, by show env.cells.lookup y' = _; rw [e4]; exact hd, o, old _ _ ho, hdt⟩
  · have q : env.cells.lookup y = some c := q
    rw [e4] at q
    obtain ⟨w', o, ho, hd⟩ := I.cell y c (c1 y c q)
    exact ⟨w', o, old _ _ ho, hd⟩
  · show H env.locals = none
    rw [e2]; exact I.hok.fresh (Nat.le_refl _)
  · have q : env.cells.lookup y = some c := q
    rw [e4] at q
    exact I.freeC y c (c1 y c q)
  · show (lamS v cp σ).length = (x :: cp.map (·.1)).length
    unfold lamS
    simp
theorem lam_call {name qual : Str} {params : Arguments} {body : Expr} {pm ctv : Value} {c' f : Addr} {te : TE} {Q : VK} (I : Inv X pins σ H s) (hA : A.frames = some X.stack) (hh : A.handled = none) (hd : A.depth < recursionLimit)
    (hcl : closL scope.names X.env.cells [] = some cl) (hk : scope.kind = .function) (hnc : ∀ y ∈ scope.names, y.2 ≠ .cell) (hcp : CapOk X scope cp) (hx : scope.names.lookup x = some .local) (hnx : x ∉ cp.map (·.1)) (hco : scope.isCoroutine = false) (hgen : scope.isGenerator = false)
    (ho : s.heap.get? f = some (PySem.W.kla_obj name qual params body scope cl pm c' ctv)) (hcd : s.heap.CodeRec (.ref c') qual)
    (hb : ∀ u : Value, bindArgs (PySem.W.kla_fn name qual params body scope cl pm (.ref c') ctv) ⟨[u], []⟩ = pure [(x, u)]) (r : RelV v u)
    (he : ∀ A L f c' s H, PE (cxL X A (newEnv scope L mainGlobals cl (qual ++ ".<locals>.") (some f) (.ref c') none builtinsNs) (x :: cp.map (·.1)) s H) body te) (h : te (lamS v cp σ) H Q) :
    wpAny (model X.prog X.w) A (call (.ref f) [u]) (EP X pins σ Q) (fun _ _ => False) s := by
  refine wpAny_call (PySem.W.kla_callFunE hd ho rfl hco hgen rfl hcd ?_)
  rw [hb u]
  refine wpAny_pure (wpAny_newFunctionEnv hnc (fun y hy => ?_) (fun h1 hns hsb => ?_) hk)
  · cases List.mem_singleton.mp hy
    exact hx
  · have old : ∀ b o, s.heap.get? b = some o → h1.get? b = some o := fun b o e => (hsb.2 b (Nat.ne_of_lt (Heap.lt_size e))).trans (Heap.get?_push_of_some _ e)
    refine ⟨I.nolimit.keeps old, PySem.W.kla_codeExpr ?_⟩
    generalize hE : newEnv scope s.heap.objs.size mainGlobals cl (qual ++ ".<locals>.") (some f) (.ref c') none builtinsNs = env
    have e1 : env.scope = scope := by rw [← hE]; rfl
    have e4 : env.cells = cl := by rw [← hE]; rfl
    have J : Inv (cxL X A env (x :: cp.map (·.1)) s H) [] (lamS v cp σ) H { s with heap := h1, toks := s.toks + [(x, u)].length } :=
      lam_start I hA hh hcl hk hnc hcp hx hnx r e1 (by rw [← hE]; rfl) (by rw [← hE]; rfl) e4 (by rw [← hE]; rfl) (by rw [← hE]; rfl) hns old
    refine wpAny_mono ((hE ▸ he A s.heap.objs.size f c' s H : PE (cxL X A env (x :: cp.map (·.1)) s H) body te) [] _ _ H Q J h) (fun w' s' ⟨y, H', J', ry, q⟩ => ?_) fun _ _ z => False.elim z
    exact I.after ⟨y, H', J'.os, J'.bare, J'.base, J'.hok, ry, q⟩
end
end L2
namespace L2
open PySem PySem.Spec PyProof.Rows
noncomputable def CodeO (c : Addr) (q : Str) : HO := .ext fun h => h.CodeRec (.ref c) q
theorem codeO_ok {P : Program} {w : World} {H : Hp} {h : Heap} {c : Addr} {q : Str} (x : h.CodeRec (.ref c) q) : ObjOk P w H h c (CodeO c q) := by
  obtain ⟨c2, o, vs, t, e, ho, hd, hv⟩ := id x
  cases e
  refine ⟨x, ⟨o, ho⟩, fun h1 h2 z k => ?_⟩
  obtain ⟨c3, o', vs', t', e, a, b, d⟩ := z
  cases e
  exact ⟨_, o', vs', t', rfl, k o' a, b, d⟩
noncomputable def Bk (P : Addr) (pos : Pos) (q : Str) (H : Hp) : Prop := H P = some (.tbl #[]) ∨ ∃ c', H P = some (.tbl #[rawInt pos.line, rawInt pos.col, .ref c']) ∧ H c' = some (CodeO c' q)
noncomputable def SameN (H H' : Hp) : Prop := ∀ b o, H b = some o → H' b ≠ none ∧ ((∀ ps, o ≠ .tbl ps) → H' b = some o)
theorem SameN.at {H H' : Hp} (a : SameN H H') {b : Addr} {o : HO} (h : H b = some o) (n : ∀ ps, o ≠ .tbl ps) : H' b = some o := (a b o h).2 n
theorem SameN.free {H H' : Hp} (a : SameN H H') {b : Addr} (h : H' b = none) : H b = none := by
  cases q : H b with
  | none => rfl
  | some o => exact absurd h (a b o q).1
theorem SameN.refl (H : Hp) : SameN H H := fun _ _ h => ⟨by rw [h]; simp, fun _ => h⟩
theorem SameN.trans {H H1 H2 : Hp} (a : SameN H H1) (b : SameN H1 H2) : SameN H H2 := fun c o h => ⟨fun z => (a c o h).1 (b.free z), fun n => b.at ((a c o h).2 n) n⟩
theorem Same.toN {H H' : Hp} (a : Same H H') : SameN H H' := fun c o h => ⟨by rw [a c o h]; simp, fun _ => a c o h⟩
theorem SameN.upd {H H' : Hp} {a : Addr} {o : HO} (e : SameN H H') (n : H' a = none) : SameN H (L2.upd H' a o) := fun b u q => by
  have hb : b ≠ a := by
    rintro rfl
    exact (e b u q).1 n
  rw [upd_ne hb]
  exact e b u q
theorem SameN.seq {K : PySem.W.Frag} {H H' : Hp} {a : Addr} {xs : List V} (e : SameN H H') (h : SqL K H a xs) : SqL K H' a xs := by
  rcases h with (h | ⟨o, h⟩) | h
  · exact .inl (.inl (e.at h (by intro ps z; cases z)))
  · exact .inl (.inr ⟨o, e.at h (by intro ps z; cases z)⟩)
  · exact .inr h
theorem Bk.put {P : Addr} {pos : Pos} {q : Str} {H : Hp} {a : Addr} {o : HO} (h : Bk P pos q H) (n : H a = none) : Bk P pos q (L2.upd H a o) := by
  rcases h with h | ⟨c', h, g⟩
  · exact .inl (by rw [upd_ne (ne_of_none h n)]; exact h)
  · exact .inr ⟨c', by rw [upd_ne (ne_of_none h n)]; exact h, by rw [upd_ne (ne_of_none g n)]; exact g⟩
noncomputable def SameE (P : Addr) (H H' : Hp) : Prop := ∀ b o, b ≠ P → H b = some o → H' b = some o
theorem SameE.refl (P : Addr) (H : Hp) : SameE P H H := fun _ _ _ h => h
theorem SameE.trans {P : Addr} {H H1 H2 : Hp} (a : SameE P H H1) (b : SameE P H1 H2) : SameE P H H2 := fun c o n h => b c o n (a c o n h)
theorem Same.toE {P : Addr} {H H' : Hp} (a : Same H H') : SameE P H H' := fun c o _ h => a c o h
theorem SameE.upd {P : Addr} {H H' : Hp} {a : Addr} {o : HO} (e : SameE P H H') (n : H' a = none) : SameE P H (L2.upd H' a o) := fun b u nb q => by
  have q' := e b u nb q
  rw [upd_ne (ne_of_none q' n)]
  exact q'
theorem Bk.isTbl {P : Addr} {pos : Pos} {q : Str} {H : Hp} (h : Bk P pos q H) : ∃ ps, H P = some (.tbl ps) := by
  rcases h with h | ⟨c', h, _⟩
  · exact ⟨_, h⟩
  · exact ⟨_, h⟩
theorem Bk.keep {P P2 : Addr} {pos pos2 : Pos} {q q2 : Str} {H H' : Hp} (b2 : Bk P2 pos2 q2 H) (b1 : Bk P pos q H) (ne : P2 ≠ P) (se : SameE P H H') : Bk P2 pos2 q2 H' := by
  obtain ⟨ps, hP⟩ := b1.isTbl
  rcases b2 with h | ⟨c', h, g⟩
  · exact .inl (se _ _ ne h)
  · exact .inr ⟨c', se _ _ ne h, se _ _ (ne_of g hP (by intro z; cases z)) g⟩
structure LamAt (X : Cx) (c P : Addr) : Prop where
  code : X.env.code = .ref c
  hd : PySem.W.CodeHd X.base c P
  bm : ∃ bm ob, X.mg "__builtins__" = some (.ref bm) ∧ bm ≠ builtinsNs ∧ X.base.get? bm = some ob ∧ ob.cls = .type "module" ∧ ob.dict = some builtinsNs ∧ ob.data = .plain
section
variable {X : Cx} {pins : List (Addr × Obj)} {σ : St} {H : Hp} {s : Shared} {scope : Scope} {cl : List (Str × Addr)} {A : Around} {c P : Addr} {params : Arguments} {body : Expr} {pos : Pos} {q : Str} {M : Model} {E : Value → Shared → Prop} {Q : Value → Shared → Prop}
theorem lam_bt (I : Inv X pins σ H s) (L : LamAt X c P) {o : HO} (hP : H P = some o) : s.heap.BuiltinsAt X.mg P ∧ mainGlobals ≠ P := by
  obtain ⟨bm, ob, b1, b2, b3, b4, b5, b6⟩ := L.bm
  have hb := I.bs bm ob b3
  obtain ⟨og, es, ep, g1, g2, _⟩ := id I.mod.glob
  have hg := I.bs mainGlobals og g1
  refine ⟨⟨bm, ob, b1, b2, ?_, ?_, hb.1, b4, b5, b6⟩, ?_⟩
  · rintro rfl
    rw [g1] at b3
    cases b3
    rw [g2] at b6
    cases b6
  · rintro rfl
    rw [hb.2] at hP
    cases hP
  · intro z
    rw [← z, hg.2] at hP
    cases hP
theorem lam_make (I : Inv X pins σ H s) (L : LamAt X c P) (hcl : closL scope.names X.env.cells [] = some cl) (hdef : defaultsOf params X.env = ([], [])) (bk : Bk P pos q H) (hq : X.env.qual ++ "<lambda>" = q)
    (hQ : ∀ f c' pm ctv H' s', Inv X (pins ++ [(f, PySem.W.kla_obj "<lambda>" q params body scope cl pm c' ctv)]) σ H' s' → H' c' = some (CodeO c' q) → Bk P pos q H' → SameN H H' → SameE P H H' → Q (.ref f) s') :
    wpAny M A (eval (.Lambda params body scope pos) X.env) Q E s := by
  refine PySem.W.kla_eval hdef ?_
  rw [hq]
  have hg : s.heap.Ns mainGlobals X.mg := I.mod.glob.keeps I.bk
  have C : PySem.W.CodeHd s.heap c P := L.hd.keeps I.bk
  rcases bk with hP | ⟨c', hP, hc'⟩
  · have hPo : s.heap.get? P = some (PySem.W.tabObj #[]) := I.hok P _ hP
    obtain ⟨hb, hgP⟩ := lam_bt I L hP
    refine PySem.W.kla_makeFunction (mg := X.mg) (closureFor_L hcl) I.ok.glob hg L.code C hPo trivial rfl hgP hb fun c' ctv h' tk hx hge hlt hrec htb => ?_
    have hnc : H c' = none := I.hok.fresh hge
    have hPc : P ≠ c' := ne_of_none hP hnc
    have nP : ∀ b, H b = none → b ≠ P := fun b n z => by rw [z, hP] at n; cases n
    have old : ∀ b o, b ≠ P → s.heap.get? b = some o → (h'.push (PySem.W.kla_obj "<lambda>" q params body scope cl ((X.mg "__name__").getD .none) c' ctv)).get? b = some o := fun b o hb e => Heap.get?_push_of_some _ (hx b o hb e)
    have htb' : (h'.push (PySem.W.kla_obj "<lambda>" q params body scope cl ((X.mg "__name__").getD .none) c' ctv)).get? P = some (PySem.W.tabObj #[rawInt pos.line, rawInt pos.col, .ref c']) := Heap.get?_push_of_some _ (by simpa using htb)
    have I1 : Inv X pins σ (upd (upd H P (.tbl #[rawInt pos.line, rawInt pos.col, .ref c'])) c' (CodeO c' q)) { s with heap := h'.push (PySem.W.kla_obj "<lambda>" q params body scope cl ((X.mg "__name__").getD .none) c' ctv), toks := tk } := by
      have other : ∀ b, b ≠ P → b ≠ c' → upd (upd H P (.tbl #[rawInt pos.line, rawInt pos.col, .ref c'])) c' (CodeO c' q) b = H b := fun b h1 h2 => by rw [upd_ne h2, upd_ne h1]
      refine I.un ⟨fun b o e n _ _ => old b o (nP b n) e, fun b o e n _ _ => ⟨o.slots, old b o (nP b n) e⟩, fun b o e n _ => ?_, fun b o e _ => ?_, fun b xs e => ?_, fun b o u e => ?_, fun b ps e => ?_⟩ fun b o e => ?_
      · rw [other b (nP b n) (Nat.ne_of_lt (Nat.lt_of_lt_of_le (Heap.lt_size e) hge))]
        exact n
      · by_cases hb : b = P
        · subst hb; exact ⟨_, htb'⟩
        · exact ⟨o, old b o hb e⟩
      · rw [other b (ne_of e hP (by intro z; cases z)) (ne_of_none e hnc)]
        exact e
      · rw [other b (ne_of e hP (by intro z; cases z)) (ne_of_none e hnc)]
        exact e
      · by_cases hb : b = P
        · subst hb
          rw [hP] at e
          cases e
          exact ⟨#[rawInt pos.line, rawInt pos.col, .ref c'], by rw [upd_ne hPc, upd_same]; simp⟩
        · exact ⟨#[], by rw [other b hb (ne_of_none e hnc), e]; simp⟩
      · by_cases hb : b = c'
        · subst hb
          rw [upd_same] at e
          cases e
          exact codeO_ok (hrec.push _)
        · rw [upd_ne hb] at e
          by_cases hb2 : b = P
          · subst hb2
            rw [upd_same] at e
            cases e
            exact htb'
          · rw [upd_ne hb2] at e
            refine (I.hok b o e).stay (fun d u hd z => old d u ?_ z) (fun d z => ?_) fun d xs z => ?_
            · rcases hd with rfl | hd
              · exact hb2
              · exact ne_of hd hP (by intro z; cases z)
            · rw [other d (ne_of z hP (by intro z; cases z)) (ne_of_none z hnc)]
              exact z
            · rw [other d (ne_of z hP (by intro z; cases z)) (ne_of_none z hnc)]
              exact z
    have hsz : s.heap.objs.size ≤ h'.objs.size := Nat.le_of_lt (Nat.lt_of_le_of_lt hge hlt)
    refine hQ h'.objs.size c' ((X.mg "__name__").getD .none) ctv _ _ (I1.pins_of fun p hp => ?_) upd_same (.inr ⟨c', by rw [upd_ne hPc, upd_same], upd_same⟩) (fun b o e => ?_) fun b o hb e => by rw [upd_ne (ne_of_none e hnc), upd_ne hb]; exact e
    · rcases List.mem_append.mp hp with hp | hp
      · exact I1.pin p (List.mem_append_right _ hp)
      · cases List.mem_singleton.mp hp
        refine ⟨Heap.get?_push_size _ rfl, ?_, Nat.ne_of_gt (Nat.lt_of_lt_of_le I.lt hsz), I.nofs hsz, fun v z => by cases z⟩
        show upd (upd H P _) c' _ h'.objs.size = none
        rw [upd_ne (Nat.ne_of_gt hlt), upd_ne fun z => ?_]
        · exact I.hok.fresh hsz
        · have := Heap.lt_size hPo
          rw [← z] at this
          exact absurd (Nat.lt_of_lt_of_le this hsz) (Nat.lt_irrefl _)
    · rw [upd_ne (ne_of_none e hnc)]
      by_cases hb : b = P
      · subst hb
        rw [hP] at e
        cases e
        rw [upd_same]
        exact ⟨by simp, fun nt => absurd rfl (nt _)⟩
      · rw [upd_ne hb, e]
        exact ⟨by simp, fun _ => rfl⟩
  · have hPo : s.heap.get? P = some (PySem.W.tabObj #[rawInt pos.line, rawInt pos.col, .ref c']) := I.hok P _ hP
    obtain ⟨hb, hgP⟩ := lam_bt I L hP
    refine PySem.W.kla_makeFunctionHit (cv := .ref c') (mg := X.mg) (closureFor_L hcl) I.ok.glob hg L.code C hPo trivial ?_ hb fun ctv h' tk hk hsz => ?_
    · show (if _ then _ else _) = _
      rw [if_pos (by simp)]
    · have I1 : Inv X pins σ H { s with heap := h'.push (PySem.W.kla_obj "<lambda>" q params body scope cl ((X.mg "__name__").getD .none) c' ctv), toks := tk } := I.kept fun b o e => Heap.get?_push_of_some _ (hk b o e)
      refine hQ h'.objs.size c' ((X.mg "__name__").getD .none) ctv H _ (I1.pins_of fun p hp => ?_) hc' (.inr ⟨c', hP, hc'⟩) (SameN.refl _) (SameE.refl _ _)
      rcases List.mem_append.mp hp with hp | hp
      · exact I1.pin p (List.mem_append_right _ hp)
      · cases List.mem_singleton.mp hp
        exact ⟨Heap.get?_push_size _ rfl, I.hok.fresh hsz, Nat.ne_of_gt (Nat.lt_of_lt_of_le I.lt hsz), I.nofs hsz, fun v z => by cases z⟩
end
end L2
set_option maxRecDepth 100000
namespace L2
open PySem PySem.Spec PyProof.Rows
section
variable {X : Cx} {pins : List (Addr × Obj)} {σ : St} {H : Hp} {s : Shared}
structure Own (X : Cx) (pins : List (Addr × Obj)) (H : Hp) (D : Addr) : Prop where
  old : X.s₀.heap.objs.size ≤ D
  free : H D = none
  nl : D ≠ X.env.locals
  np : ∀ p ∈ X.pn ++ pins, p.1 ≠ D
theorem Own.fresh (I : Inv X pins σ H s) {D : Addr} (h : s.heap.objs.size ≤ D) : Own X pins H D :=
  ⟨Nat.le_trans I.sz h, I.hok.fresh h, Nat.ne_of_gt (Nat.lt_of_lt_of_le I.lt h), fun p hp z => absurd (Nat.lt_of_lt_of_le (Heap.lt_size (I.pin p hp).1) h) (by rw [z]; exact Nat.lt_irrefl _)⟩
theorem Own.more {D a : Addr} {o : Obj} (W : Own X pins H D) (h : a ≠ D) : Own X (pins ++ [(a, o)]) H D :=
  ⟨W.old, W.free, W.nl, fun p hp => by
    rcases List.mem_append.mp hp with q | q
    · exact W.np p (List.mem_append_left _ q)
    · rcases List.mem_append.mp q with q | q
      · exact W.np p (List.mem_append_right _ q)
      · cases List.mem_singleton.mp q
        exact h⟩
theorem Own.less {D : Addr} {ps : List (Addr × Obj)} (W : Own X (pins ++ ps) H D) : Own X pins H D :=
  ⟨W.old, W.free, W.nl, fun p hp => W.np p (by
    rcases List.mem_append.mp hp with q | q
    · exact List.mem_append_left _ q
    · exact List.mem_append_right _ (List.mem_append_left _ q))⟩
theorem Inv.cellne (I : Inv X pins σ H s) {D : Addr} {o : Obj} (ho : s.heap.get? D = some o) (hd : ∀ v, o.data ≠ .cell v) : ∀ x c, X.env.cells.lookup x = some c → c ≠ D := fun x c e z => by
  obtain ⟨v, o', ho', hd'⟩ := I.cell x c e
  rw [z, ho] at ho'
  cases ho'
  exact hd v hd'
theorem Inv.alter (I : Inv X pins σ H s) {D : Addr} {o : Obj} {h' : Heap} (W : Own X pins H D) (ho : s.heap.get? D = some o) (hd : ∀ v, o.data ≠ .cell v) (k : ∀ b u, b ≠ D → s.heap.get? b = some u → h'.get? b = some u) : Inv X pins σ H { s with heap := h' } :=
  I.turned (t' := s.toks) k W.free W.nl (.inr W.old) (I.cellne ho hd) W.np
theorem Inv.ownfs (I : Inv X pins σ H s) {D : Addr} (W : Own X pins H D) : D ∉ X.fs := fun hb => by
  obtain ⟨_, o, ho, _⟩ := I.ok.funs.mem hb
  exact absurd (Nat.lt_of_lt_of_le (Heap.lt_size ho) W.old) (Nat.lt_irrefl _)
theorem Inv.pin1 (I : Inv X pins σ H s) {D : Addr} {o : Obj} (W : Own X pins H D) (ho : s.heap.get? D = some o) (hd : ∀ v, o.data ≠ .cell v) : Inv X (pins ++ [(D, o)]) σ H s := I.pins_of fun p hp => by
  rcases List.mem_append.mp hp with q | q
  · exact I.pin p (List.mem_append_right _ q)
  · cases List.mem_singleton.mp q
    exact ⟨ho, W.free, W.nl, I.ownfs W, hd⟩
theorem Inv.unpin {ps : List (Addr × Obj)} (I : Inv X (pins ++ ps) σ H s) : Inv X pins σ H s := I.pins_of fun p hp => I.pin p (List.mem_append_right _ (List.mem_append_left _ hp))
theorem Inv.track (I : Inv X pins σ H s) {D : Addr} {o : HO} (W : Own X pins H D) (hc : ∀ x c, X.env.cells.lookup x = some c → c ≠ D) (new : ObjOk X.prog X.w (upd H D o) s.heap D o) : Inv X pins σ (upd H D o) s := by
  have ne : ∀ b u, H b = some u → b ≠ D := fun b u e => ne_of_none e W.free
  refine ⟨I.ok, I.os, I.bare, ⟨I.base.keep, I.base.slot, fun b u e n hx => ?_, I.base.there, fun b xs e => ?_, fun b u v e => ?_, fun b ps e => ?_⟩, I.loc, I.cell, ?_, fun x c e => ?_, fun p hp => ?_, fun b u e => ?_, I.len⟩
  · rw [upd_ne (Nat.ne_of_lt (Nat.lt_of_lt_of_le (Heap.lt_size e) W.old))]
    exact I.base.free b u e n hx
  · have := I.base.tups b xs e
    rw [upd_ne (ne b _ this)]
    exact this
  · have := I.base.frzs b u v e
    rw [upd_ne (ne b _ this)]
    exact this
  · obtain ⟨m, z⟩ := I.base.tbls b ps e
    exact ⟨m, by rw [upd_ne (ne b _ z)]; exact z⟩
  · rw [upd_ne (Ne.symm W.nl)]
    exact I.free
  · rw [upd_ne (hc x c e)]
    exact I.freeC x c e
  · obtain ⟨a1, a2, a3⟩ := I.pin p hp
    exact ⟨a1, by rw [upd_ne (W.np p hp)]; exact a2, a3⟩
  · by_cases hb : b = D
    · subst hb
      rw [upd_same] at e
      cases e
      exact new
    · rw [upd_ne hb] at e
      refine (I.hok b u e).stay (fun _ _ _ z => z) (fun d z => ?_) fun d xs z => ?_
      · rw [upd_ne (ne d _ z)]; exact z
      · rw [upd_ne (ne d _ z)]; exact z
theorem rest_ok {A : Around} {E : Value → Shared → Prop} {P : PySem.Fin → Shared → Prop} {f : Value} {a kS : Addr} {e1 : Nat} {vs : List Value} {xs kV : List V} (rv : Vals xs vs) (hl : kV.length = vs.length) (hz : vs.length ≤ 100000) (I : Inv X pins σ H s) (Wa : Own X pins H a)
    (ha : s.heap.get? a = some (seqObj "list" #[] e1)) (Wk : Own X (pins ++ [(a, seqObj "list" #[] e1)]) H kS) (hk : s.heap.get? kS = some (seqObj "list" #[] 0))
    (hcall : ∀ ps s' (i : Nat) (x : V) (k : V) (u : Value), Inv X (pins ++ ps) σ H s' → xs[i]? = some x → kV[i]? = some k → RelV x u → wpAny (model X.prog X.w) A (call f [u]) (EP X (pins ++ ps) σ fun y H' => H' = H ∧ y = k) (fun _ _ => False) s')
    (h : ∀ s' ks e, Inv X (pins ++ [(a, seqObj "list" #[] e1)]) σ H s' → s'.heap.get? kS = some (seqObj "list" (List.toArray ks) e) → Vals kV ks → wpAny (model X.prog X.w) A (ksk_end a false vs.toArray e1 (.ref kS) (List.toArray ks)) P E s') :
    wpAny (model X.prog X.w) A (ksk_rest a f false vs.toArray e1 (.ref kS)) P E s := by
  unfold ksk_rest
  refine wpAny_bind (wpAny_rule ?_)
  first
    | rw [List.forIn_toArray]
    | rw [← Array.forIn_toList]
  have hsl : sizeLine = 16777216 := sizeLine_eq
  refine wpAny_bind (ksk_fold (fun i s' => ∃ ks e, Inv X (pins ++ [(a, seqObj "list" #[] e1)]) σ H s' ∧ s'.heap.get? kS = some (seqObj "list" (List.toArray ks) e) ∧ Vals (kV.take i) ks) vs 0 s ⟨[], 0, I.pin1 Wa ha (fun v z => by cases z), hk, .nil⟩ (fun j u s' hu hI => ?_) fun s' hI => ?_)
  · obtain ⟨ks, e, I1, hk1, rk⟩ := hI
    rw [Nat.zero_add] at rk ⊢
    have hj : j < vs.length := (List.getElem?_eq_some_iff.mp hu).1
    obtain ⟨x, hx, rx⟩ : ∃ x, xs[j]? = some x ∧ RelV x u := by
      have hxl : j < xs.length := by rw [rv.length]; exact hj
      have e1 : xs[j]? = some xs[j] := List.getElem?_eq_getElem hxl
      obtain ⟨u', hu', r'⟩ := rv.get e1
      rw [hu] at hu'
      cases hu'
      exact ⟨_, e1, r'⟩
    have hkj : kV[j]? = some (kV[j]'(by omega)) := List.getElem?_eq_getElem (by omega)
    have I2 : Inv X (pins ++ ([(a, seqObj "list" #[] e1)] ++ [(kS, seqObj "list" (List.toArray ks) e)])) σ H s' := by
      rw [← List.append_assoc]
      exact I1.pin1 Wk hk1 (fun v z => by cases z)
    refine wpAny_bind (wpAny_attempt (wpAny_mono (hcall _ s' j x _ u I2 hx hkj rx) (fun y s2 ⟨yv, H2, I3, ry, eH, ey⟩ => ?_) fun _ _ z => z.elim))
    subst eH ey
    have hk3 := (I3.pin (kS, seqObj "list" (List.toArray ks) e) (List.mem_append_right _ (List.mem_append_right _ (List.mem_append_right _ (List.mem_singleton.mpr rfl))))).1
    have I4 : Inv X (pins ++ [(a, seqObj "list" #[] e1)]) σ H2 s2 := by
      rw [← List.append_assoc] at I3
      exact I3.unpin
    have lk := rk.length
    rw [List.length_take] at lk
    have hsb := Heap.SameBut.update s2.heap kS (Obj.mapSeq (·.push y))
    obtain ⟨c2, hg⟩ : ∃ c2, (s2.heap.update kS (Obj.mapSeq (·.push y))).get? kS = some (seqObj "list" (List.toArray (ks ++ [y])) c2) := by
      have : (List.toArray ks).push y = List.toArray (ks ++ [y]) := by simp
      rw [← this]
      exact ⟨_, get?_update_seq hk3 (·.push y)⟩
    dsimp only
    refine wpAny_bind (listUpdate_at hk3 rfl ?_ (by rw [List.size_toArray]; omega) (by rw [Array.size_push, List.size_toArray]; omega))
    refine wpAny_pure ⟨rfl, ks ++ [y], c2, I4.alter Wk hk3 (fun v z => by cases z) (fun b u hb z => (hsb.2 b hb).trans z), hg, ?_⟩
    rw [List.take_succ, hkj]
    exact rk.append (.cons ry .nil)
  · obtain ⟨ks, e, I1, hk1, rk⟩ := hI
    rw [Nat.zero_add, ← hl, List.take_length] at rk
    refine wpAny_bind (listItems_at hk1 rfl ?_)
    exact h s' ks e I1 hk1 rk
noncomputable def Sorts (prog : Program) (w : World) {O : KeyOrd} (key : Nat → O.α) (n : Nat) : Prop := ∀ (A : Around) (E : Value → Shared → Prop) (κ : SortKind) (s : Shared) (ks vs : List Value), ks.length = vs.length → vs.length = n → 2 ≤ n → LS.Asks key n (fun s' => s' = s) (PySem.W.kas_ask prog w A κ ks) →
  wpAny (model prog w) A ((sortRuns').run (SortSt.mk' κ (ks.toArray.zip vs.toArray) #[] 7 none)) (fun r s' => s' = s ∧ ∃ p : Array Nat, LS.Pm n p ∧ LS.Ust key p n ∧ arrOf r.2 = p.map (PySem.W.kas_item (ks.toArray.zip vs.toArray)) ∧ failedOf r.2 = none) E s
theorem end_ok {A : Around} {E : Value → Shared → Prop} {P : PySem.Fin → Shared → Prop} {a kS : Addr} {e e1 : Nat} {vs ks : List Value} {xs : List V} {κ : SortKind} {O : KeyOrd} {key : Nat → O.α} (rv : Vals xs vs) (hl : ks.length = vs.length) (h64 : vs.length ≤ 100000) (hS : Sorts X.prog X.w key vs.length)
    (I : Inv X (pins ++ [(a, seqObj "list" #[] e1)]) σ H s) (Wa : Own X pins H a) (Wk : Own X (pins ++ [(a, seqObj "list" #[] e1)]) H kS) (hk : s.heap.get? kS = some (seqObj "list" (List.toArray ks) e))
    (hkind : 2 ≤ vs.length → ∀ Q : SortKind → Shared → Prop, Q κ s → wpAny (model X.prog X.w) A (keyKind' (List.toArray ks)) Q E s)
    (hask : LS.Asks key vs.length (fun s' => s' = s) (PySem.W.kas_ask X.prog X.w A κ ks))
    (h : ∀ (p : Array Nat) s', LS.Pm vs.length p → LS.Ust key p vs.length → Inv X pins σ (upd H a (.lst (p.toList.map fun i => xs.getD i .non))) s' → P (.done (.ret .none)) s') :
    wpAny (model X.prog X.w) A (ksk_end a false vs.toArray e1 (.ref kS) (List.toArray ks)) P E s := by
  have hsl : sizeLine = 16777216 := sizeLine_eq
  have ha := (I.pin (a, seqObj "list" #[] e1) (List.mem_append_right _ (List.mem_append_right _ (List.mem_singleton.mpr rfl)))).1
  have hka : kS ≠ a := fun z => Wk.np (a, seqObj "list" #[] e1) (List.mem_append_right _ (List.mem_append_right _ (List.mem_singleton.mpr rfl))) z.symm
  have lv := rv.length
  -- the last steps
  have tail : ∀ (st : SortSt) (p : Array Nat), LS.Pm vs.length p → LS.Ust key p vs.length → arrOf st = p.map (PySem.W.kas_item (ks.toArray.zip vs.toArray)) → failedOf st = none → wpAny (model X.prog X.w) A (ksk_tail a false e1 (.ref kS) st) P E s := by
    intro st p hp hu har hf
    have hout := PySem.W.kat_snds hl har
    have hps := hp.size
    unfold ksk_tail
    dsimp only
    rw [hout]
    have hs1 := Heap.SameBut.update s.heap kS (Obj.mapSeq fun _ => (#[] : Array Value))
    have ha1 := (hs1.2 a hka.symm).trans ha
    have hs2 := Heap.SameBut.update (s.heap.update kS (Obj.mapSeq fun _ => (#[] : Array Value))) a (Obj.mapSeq fun _ => List.toArray (p.toList.map fun i => vs.getD i Value.none))
    obtain ⟨c2, hg⟩ : ∃ c2, ((s.heap.update kS (Obj.mapSeq fun _ => (#[] : Array Value))).update a (Obj.mapSeq fun _ => List.toArray (p.toList.map fun i => vs.getD i Value.none))).get? a = some (seqObj "list" (List.toArray (p.toList.map fun i => vs.getD i Value.none)) c2) := ⟨_, get?_update_seq ha1 (fun _ => List.toArray (p.toList.map fun i => vs.getD i Value.none))⟩
    refine wpAny_bind (listUpdate_at hk rfl ?_ (by rw [List.size_toArray]; omega) (Nat.zero_le _))
    refine wpAny_bind (wpAny_letGo ?_)
    refine wpAny_bind (seqEpoch_at ha1 rfl ?_)
    refine wpAny_bind (listUpdate_at ha1 rfl ?_ (Nat.zero_le _) (by show (List.toArray _).size ≤ _; rw [List.size_toArray, List.length_map, Array.length_toList]; omega))
    rw [hf]
    simp only [bne_self_eq_false, Bool.false_eq_true, if_false]
    have I1 : Inv X (pins ++ [(a, seqObj "list" #[] e1)]) σ H { s with heap := s.heap.update kS (Obj.mapSeq fun _ => (#[] : Array Value)) } := I.alter Wk hk (fun v z => by cases z) fun b u hb z => (hs1.2 b hb).trans z
    have I2 : Inv X pins σ H { s with heap := (s.heap.update kS (Obj.mapSeq fun _ => (#[] : Array Value))).update a (Obj.mapSeq fun _ => List.toArray (p.toList.map fun i => vs.getD i Value.none)) } := I1.unpin.alter (s := { s with heap := s.heap.update kS (Obj.mapSeq fun _ => (#[] : Array Value)) }) Wa ha1 (fun v z => by cases z) fun b u hb z => (hs2.2 b hb).trans z
    refine wpAny_pure (h p _ hp hu (I2.track Wa (I2.cellne hg fun v z => by cases z) ?_))
    refine ⟨by rw [List.length_map, Array.length_toList]; omega, p.toList.map fun i => vs.getD i Value.none, c2, ?_, hg⟩
    have all : ∀ l : List Nat, (∀ i ∈ l, i < vs.length) → Vals (l.map fun i => xs.getD i .non) (l.map fun i => vs.getD i Value.none) := by
      intro l
      induction l with
      | nil => intro _; exact .nil
      | cons i r ih =>
        intro hi
        have hi0 := hi i List.mem_cons_self
        refine .cons ?_ (ih fun j hj => hi j (List.mem_cons_of_mem _ hj))
        have hx : xs[i]? = some (xs.getD i .non) := by
          rw [List.getD_eq_getElem?_getD, List.getElem?_eq_getElem (by omega)]
          rfl
        obtain ⟨u, hu, r'⟩ := rv.get hx
        show RelV (xs.getD i .non) (vs.getD i Value.none)
        have e : vs.getD i Value.none = u := by rw [List.getD_eq_getElem?_getD, hu]; rfl
        rw [e]
        exact r'
    exact all p.toList fun i hi => by
      have := hp.mem_iff.mp hi
      exact List.mem_range.mp this
  unfold ksk_end
  dsimp only
  rw [if_neg Bool.false_ne_true]
  by_cases h2 : vs.toArray.size < 2
  · rw [if_pos h2, if_pos h2]
    refine wpAny_bind (wpAny_pure ?_)
    rw [StateT.run_pure]
    refine wpAny_bind (wpAny_pure ?_)
    dsimp only
    rw [if_neg Bool.false_ne_true]
    rw [List.size_toArray] at h2
    refine tail _ (List.toArray (List.range vs.length)) (by unfold LS.Pm; simp) ⟨fun i j hij hj => ?_, fun i j hij hj => by omega⟩ ?_ rfl
    · have : i = j := by omega
      subst this
      exact KeyOrd.kle_refl _
    · have e := PySem.W.kas_range (ks.toArray.zip vs.toArray)
      rw [show (ks.toArray.zip vs.toArray).size = vs.length by simp [hl]] at e
      exact e.symm
  · rw [if_neg h2, if_neg h2]
    rw [List.size_toArray] at h2
    refine wpAny_bind (hkind (by omega) _ ?_)
    rw [if_neg Bool.false_ne_true]
    refine wpAny_bind (wpAny_mono (hS A E κ s ks vs hl rfl (by omega) hask) ?_ fun _ _ z => z)
    rintro ⟨⟨⟩, st'⟩ s' ⟨rfl, p, q1, q2, q3, q4⟩
    exact tail st' p q1 q2 q3 q4
end
end L2
set_option maxRecDepth 100000
namespace L2
open PySem PySem.Spec PyProof.Rows
noncomputable def rngL (lo hi : Int) : List V := (List.range (hi - lo).toNat).map fun i : Nat => V.int (lo + (i : Int))
noncomputable def Src (K : PySem.W.Frag) (H : Hp) (a : Addr) (xs : List V) : Prop := SqL K H a xs ∨ SqT K H a xs ∨ ∃ lo hi : Int, H a = some (.rng lo hi) ∧ xs = rngL lo hi ∧ -(2 ^ 62) ≤ lo ∧ lo < 2 ^ 62 ∧ -(2 ^ 62) ≤ hi ∧ hi < 2 ^ 62
section
variable {X : Cx} {pins : List (Addr × Obj)} {σ : St} {H : Hp} {s : Shared}
noncomputable def rngV : List V → Hp → VK → Prop := fun xs H Q => match xs with
  | [.int j] => ∀ r, H r = none → Q (.ref r) (upd H r (.rng 0 j))
  | [.int l, .int j] => ∀ r, H r = none → Q (.ref r) (upd H r (.rng l j))
  | _ => False
theorem c_range : CallR X (.type "range") rngV := by
  intro pins s σ H xs us Q I r h
  unfold rngV at h
  split at h
  · rename_i j
    obtain ⟨u, rfl, ru⟩ := vals1 r
    obtain ⟨t, rfl⟩ := ru
    have hn := I.hok.fresh (Nat.le_refl s.heap.objs.size)
    exact call_range_1 ⟨.ref s.heap.objs.size, _, I.laid (o := .rng 0 j) (t' := s.toks + 1 + 1) (fun b u e => Heap.get?_push_of_some _ e) (Nat.le_refl _) ⟨_, _, _, Heap.get?_push_size _ rfl⟩, rfl, h _ hn⟩
  · rename_i l j
    obtain ⟨u, w', rfl, ru, rw'⟩ := vals2 r
    obtain ⟨t, rfl⟩ := ru
    obtain ⟨t', rfl⟩ := rw'
    have hn := I.hok.fresh (Nat.le_refl s.heap.objs.size)
    exact call_range_2 ⟨.ref s.heap.objs.size, _, I.laid (o := .rng l j) (t' := s.toks + 1) (fun b u e => Heap.get?_push_of_some _ e) (Nat.le_refl _) ⟨_, _, _, Heap.get?_push_size _ rfl⟩, rfl, h _ hn⟩
  · exact h.elim
theorem rng_vals {lo hi : Int} {acc : Array Value} {n : Nat} (hn : n = (hi - lo).toNat) (h : ItemsOf (fun i v => ∃ t, v = .int (lo + i * 1) t) acc n) : Vals (rngL lo hi) acc.toList := by
  obtain ⟨h1, h2⟩ := h
  have key : ∀ (l : List Value) (k : Nat), (∀ j v, l[j]? = some v → ∃ t, v = Value.int (lo + ((k + j : Nat) : Int)) t) → Vals ((List.range l.length).map fun i => V.int (lo + ((k + i : Nat) : Int))) l := by
    intro l
    induction l with
    | nil => intro k _; exact .nil
    | cons x r ih =>
      intro k hx
      rw [List.length_cons, List.range_succ_eq_map, List.map_cons, List.map_map]
      obtain ⟨t, e⟩ := hx 0 x rfl
      refine .cons ⟨t, by simpa using e⟩ ?_
      have := ih (k + 1) fun j v hv => by
        obtain ⟨t, e⟩ := hx (j + 1) v (by simpa using hv)
        exact ⟨t, by rw [e]; congr 2; omega⟩
      have e2 : ((fun i => V.int (lo + ((k + i : Nat) : Int))) ∘ Nat.succ) = fun i => V.int (lo + ((k + 1 + i : Nat) : Int)) := by
        funext i
        show V.int (lo + ((k + (i + 1) : Nat) : Int)) = _
        congr 2
        omega
      rw [e2]
      exact this
  have := key acc.toList 0 fun j v hv => by
    obtain ⟨t, e⟩ := h2 j v (by simpa using hv)
    exact ⟨t, by rw [e]; simp⟩
  rw [Array.length_toList, h1, hn] at this
  unfold rngL
  simpa using this
theorem collect_ok {A : Around} {E : Value → Shared → Prop} {Q : List Value → Shared → Prop} {a : Addr} {xs : List V} (I : Inv X pins σ H s) (hh : A.handled = none) (hx : Src X.K H a xs) (hz : xs.length ≤ 16777216)
    (h : ∀ vs h' tk, Vals xs vs → (∀ b o, s.heap.get? b = some o → h'.get? b = some o) → Q vs { s with heap := h', toks := tk }) : wpAny (model X.prog X.w) A (collect (.ref a)) Q E s := by
  have hsl : sizeLine = 16777216 := sizeLine_eq
  rcases hx with hx | hx | ⟨lo, hi, hx, rfl, b1, b2, b3, b4⟩
  · obtain ⟨its, rv, p, hz'⟩ := I.list hx
    obtain ⟨o, ho, hc, n, hd⟩ := p.isList
    have := rv.length
    exact wpAny_collect_seq a (.inl rfl) ho hc hd (fun h' k => h its h' s.toks rv k) (by rw [List.size_toArray]; omega)
  · obtain ⟨its, rv, p, hz'⟩ := I.tuple hx
    obtain ⟨o, ho, hc, n, hd⟩ := id p
    have := rv.length
    exact wpAny_collect_seq a (.inr rfl) ho hc hd (fun h' k => h its h' s.toks rv k) (by rw [List.size_toArray]; omega)
  · obtain ⟨t, u, v, hr⟩ := I.hok a _ hx
    have hl : (rngL lo hi).length = (hi - lo).toNat := by unfold rngL; simp
    have hr1 : IsRange (s.heap.push { cls := .type "list", data := .seq ([] : List Value).toArray }) a lo hi 1 t u v := Heap.get?_push_of_some _ hr
    unfold collect
    refine wpAny_bind (wpAny_runValue (codeAny_builtin F.entry_proto_collect ?_))
    rw [Around.under_plainId F.plain_proto_collect _]
    show wpAny _ A.in1 (newList [] >>= fun l => again (.builtin "list.__iadd__" ⟨[l, .ref a], []⟩)) _ _ s
    refine wpAny_bind (wpAny_newObj_type ?_)
    refine wpAny_pure ⟨plainId_quiet F.plain_list_iadd _, codeAny_builtin F.entry_list_iadd ?_⟩
    rw [Around.under_plainId F.plain_list_iadd _]
    show wpAny _ A.in1 (Builtin.List.listExtendWith (.ref s.heap.objs.size) (.ref a) (.ref s.heap.objs.size)) _ _ _
    have fin : ∀ s' : Shared, (∃ h' tk acc c', (∀ b o, b ≠ s.heap.objs.size → (s.heap.push { cls := .type "list", data := .seq ([] : List Value).toArray }).get? b = some o → h'.get? b = some o) ∧ h'.get? s.heap.objs.size = some { cls := .type "list", dict := none, data := .seq acc c', slots := #[] } ∧
        ItemsOf (fun i v => ∃ t, v = .int (lo + i * 1) t) acc (hi - lo).toNat ∧ s' = { s with heap := h', toks := tk }) → wpAny (model X.prog X.w) A (match Value.ref s.heap.objs.size with
      | Value.ref a => do
        match (← load a).data with
          | Data.seq xs _ => pure xs.toList
          | _ => unsupported "internal:collect"
      | _ => unsupported "internal:collect") Q E s' := by
      rintro s' ⟨h', tk, acc, c', k, hS, hi', rfl⟩
      show wpAny _ A (load s.heap.objs.size >>= _) _ _ _
      refine wpAny_bind (wpAny_load hS ?_)
      exact wpAny_pure (h _ h' tk (rng_vals rfl hi') fun b o e => k b o (Nat.ne_of_lt (Heap.lt_size e)) (Heap.get?_push_of_some _ e))
    refine wpAny_mono (wpAny_extend_range (s := { s with heap := s.heap.push { cls := .type "list", data := .seq ([] : List Value).toArray } }) (R := fun r s' => r = .ok (.ret (.ref s.heap.objs.size)) ∧ ∃ h' tk acc c', (∀ b o, b ≠ s.heap.objs.size → (s.heap.push { cls := .type "list", data := .seq ([] : List Value).toArray }).get? b = some o → h'.get? b = some o) ∧ h'.get? s.heap.objs.size = some { cls := .type "list", dict := none, data := .seq acc c', slots := #[] } ∧
        ItemsOf (fun i v => ∃ t, v = .int (lo + i * 1) t) acc (hi - lo).toNat ∧ s' = { s with heap := h', toks := tk }) (n := (hi - lo).toNat) hh hr1 (small_one b1 b2 b3 b4) (by rw [rangeSize_one]; split <;> omega) (by omega) s.heap.objs.size (.ref s.heap.objs.size) 0 (Heap.get?_push_size _ rfl) fun h' tk acc c' k hS hi' => ⟨rfl, h', tk, acc, c', k, hS, hi', rfl⟩) (fun fn s' hf => ?_) fun e s' he => ?_
    · cases fn with
      | done fl =>
        obtain ⟨e, hf⟩ := hf
        cases e
        exact fin s' hf
      | again c' =>
        refine ⟨hf.1, codeAny_mono hf.2 fun r s2 hr => ?_⟩
        obtain ⟨e, hr⟩ := hr
        subst e
        exact fin s2 hr
    · exact absurd he.1 (by intro z; cases z)
noncomputable def listV (K : PySem.W.Frag) : List V → Hp → VK → Prop := fun xs H Q => match xs with
  | [.ref a] => ∃ ys, Src K H a ys ∧ ys.length ≤ 16777216 ∧ ∀ l, H l = none → Q (.ref l) (upd H l (.lst ys))
  | _ => False
theorem c_listV (hc : X.calm = true) : CallR X (.type "list") (listV X.K) := by
  intro pins s σ H xs us Q I r h
  unfold listV at h
  split at h
  · rename_i a
    obtain ⟨ys, hx, hz, q⟩ := h
    obtain ⟨u, rfl, ru⟩ := vals1 r
    cases ru
    rcases hx with hx | hx | ⟨lo, hi, hx, rfl, b1, b2, b3, b4⟩
    · exact call_list_of pins s σ H _ _ Q I (.cons (show RelV (.ref a) (.ref a) from rfl) .nil) ⟨a, ys, rfl, .inl hx, q⟩
    · exact call_list_of pins s σ H _ _ Q I (.cons (show RelV (.ref a) (.ref a) from rfl) .nil) ⟨a, ys, rfl, .inr hx, q⟩
    · obtain ⟨t, u, v, hr⟩ := I.hok a _ hx
      have hl : (rngL lo hi).length = (hi - lo).toNat := by unfold rngL; simp
      have hsl : sizeLine = 16777216 := sizeLine_eq
      refine call_list_range (n := (hi - lo).toNat) (I.ok.hd hc) hr (small_one b1 b2 b3 b4) (by rw [rangeSize_one]; split <;> omega) (by omega) fun h' tk acc c' k hS hi' => ?_
      have hn := I.hok.fresh (Nat.le_refl s.heap.objs.size)
      refine ⟨.ref s.heap.objs.size, _, I.laid (o := .lst (rngL lo hi)) (t' := tk) k (Nat.le_refl _) ⟨by omega, acc.toList, c', rng_vals rfl hi', ?_⟩, rfl, q _ hn⟩
      simpa using hS
  · exact h.elim
theorem str_at {kL : List (List Nat)} {ks : List Value} (r : Vals (kL.map fun k => V.str (T k)) ks) {i : Nat} (hi : i < kL.length) : ∃ t, ks.getD i Value.none = .str (T (kL.getD i [])) t := by
  have e : (kL.map fun k => V.str (T k))[i]? = some (V.str (T (kL.getD i []))) := by
    rw [List.getElem?_map, List.getD_eq_getElem?_getD, List.getElem?_eq_getElem hi]
    rfl
  obtain ⟨u, hu, t, rfl⟩ := r.get e
  exact ⟨t, by rw [List.getD_eq_getElem?_getD, hu]; rfl⟩
theorem ask_str {prog : Program} {w : World} {A : Around} {kL : List (List Nat)} {ks : List Value} (r : Vals (kL.map fun k => V.str (T k)) ks) : LS.Asks (O := strKind.toKeyOrd) (fun i => kL.getD i []) kL.length (fun s' => s' = s) (PySem.W.kas_ask prog w A oneType' ks) := by
  refine ⟨fun i j C s1 hi hj e h => ?_⟩
  subst e
  unfold PySem.W.kas_ask
  obtain ⟨t, e1⟩ := str_at r hi
  obtain ⟨t', e2⟩ := str_at r hj
  rw [e1, e2]
  refine PySem.W.kas_lt_str ?_
  have h := h s1 rfl
  have e3 : (T (kL.getD i [])).cps.toList = kL.getD i [] := L_T _
  have e4 : (T (kL.getD j [])).cps.toList = kL.getD j [] := L_T _
  rw [e3, e4]
  exact h
theorem kind_str {M : Model} {A : Around} {E : Value → Shared → Prop} {kL : List (List Nat)} {ks : List Value} (r : Vals (kL.map fun k => V.str (T k)) ks) (h2 : 2 ≤ kL.length) {Q : SortKind → Shared → Prop} (h : Q oneType' s) : wpAny M A (keyKind' (List.toArray ks)) Q E s := by
  have hl := r.length
  rw [List.length_map] at hl
  refine PySem.W.kas_kind (T := .type "str") (by omega) (fun v hv => ?_) (by decide) (by decide) h
  obtain ⟨i, hi⟩ := List.getElem?_of_mem hv
  have hlt : i < kL.length := by
    have := (List.getElem?_eq_some_iff.mp hi).1
    omega
  obtain ⟨t, e⟩ := str_at r hlt
  rw [List.getD_eq_getElem?_getD, hi] at e
  have e : v = .str (T (kL.getD i [])) t := e
  rw [e]
  exact PySem.W.Looks.of_pure rfl
theorem sorted_by {Q : VK} {E : Value → Shared → Prop} {f a : Addr} {xs : List V} {kL : List (List Nat)} (hc : X.calm = true) (hr : Room 1 X.A) (I : Inv X pins σ H s) (hx : Src X.K H a xs) (h64 : xs.length ≤ 100000) (hS : Sorts X.prog X.w (O := strKind.toKeyOrd) (fun i => kL.getD i []) xs.length) (hl : kL.length = xs.length)
    (hcall : ∀ ps s' (i : Nat) (x : V) (k : V) (u : Value), Inv X (pins ++ ps) σ H s' → xs[i]? = some x → (kL.map fun k => V.str (T k))[i]? = some k → RelV x u → wpAny (model X.prog X.w) X.A.in1.in1 (call (.ref f) [u]) (EP X (pins ++ ps) σ fun y H' => H' = H ∧ y = k) (fun _ _ => False) s')
    (h : ∀ l (p : List Nat), H l = none → p.Perm (List.range xs.length) → p.Pairwise (fun i j => kL.getD i [] ≤ kL.getD j [] ∧ (kL.getD i [] = kL.getD j [] → i < j)) → Q (.ref l) (upd H l (.lst (p.map fun i => xs.getD i .non)))) :
    wpAny (model X.prog X.w) X.A (call (.builtin "sorted") [.ref a] [(Str.ofString "key", .ref f)]) (EP X pins σ Q) E s := by
  have hsl : sizeLine = 16777216 := sizeLine_eq
  have hh : X.A.handled = none := I.ok.hd hc
  refine call_function_entry_kw kind_sorted plain_sorted entry_sorted (ksk_s1 _ _) ?_
  unfold Builtin.«sorted»
  refine wpAny_bind (m := checkCount "sorted" 1 1 _) (wpAny_pure ?_)
  refine wpAny_bind (collect_ok I hh hx (by omega) fun vs h1 tk rv k => ?_)
  have lv := rv.length
  refine wpAny_bind (wpAny_newList ?_ (by omega))
  have k2 : ∀ b o, s.heap.get? b = some o → (h1.push { cls := .type "list", data := .seq vs.toArray }).get? b = some o := fun b o e => Heap.get?_push_of_some _ (k b o e)
  have I2 : Inv X pins σ H { s with heap := h1.push { cls := .type "list", data := .seq vs.toArray }, toks := tk } := I.kept k2
  have I1 : Inv X pins σ H { s with heap := h1, toks := tk } := I.kept k
  have Wa : Own X pins H h1.objs.size := Own.fresh I1 (Nat.le_refl _)
  have ho : (h1.push { cls := .type "list", data := .seq vs.toArray }).get? h1.objs.size = some (seqObj "list" vs.toArray 0) := Heap.get?_push_size _ rfl
  refine wpAny_bind (wpAny_holding (wpAny_call_entry_kw slot_list_sort ⟨_, ho, rfl⟩ entry_list_sort ?_ (ksk_l1 _ _)))
  rw [ksk_t1]
  unfold ksk_tree
  refine wpAny_bind (listItems_at ho rfl ?_)
  refine wpAny_bind (listUpdate_at ho rfl ?_ (by rw [List.size_toArray]; omega) (Nat.zero_le _))
  have hs1 := Heap.SameBut.update (h1.push { cls := .type "list", data := .seq vs.toArray }) h1.objs.size (Obj.mapSeq fun _ => (#[] : Array Value))
  obtain ⟨e1, ho1⟩ : ∃ e1, ((h1.push { cls := .type "list", data := .seq vs.toArray }).update h1.objs.size (Obj.mapSeq fun _ => (#[] : Array Value))).get? h1.objs.size = some (seqObj "list" #[] e1) := ⟨_, get?_update_seq ho fun _ => #[]⟩
  refine wpAny_bind (seqEpoch_at ho1 rfl ?_)
  refine wpAny_bind (wpAny_newTuple ?_ (by show vs.length ≤ _; omega))
  refine wpAny_bind (wpAny_newList ?_ (Nat.zero_le _))
  refine wpAny_holding ?_
  have I3 : Inv X pins σ H { s with heap := (h1.push { cls := .type "list", data := .seq vs.toArray }).update h1.objs.size (Obj.mapSeq fun _ => (#[] : Array Value)), toks := tk } :=
    I2.alter (s := { s with heap := h1.push { cls := .type "list", data := .seq vs.toArray }, toks := tk }) Wa ho (fun v z => by cases z) fun b u hb z => (hs1.2 b hb).trans z
  generalize hg4 : (h1.push { cls := .type "list", data := .seq vs.toArray }).update h1.objs.size (Obj.mapSeq fun _ => (#[] : Array Value)) = h4 at *
  have I5 : Inv X pins σ H { s with heap := (h4.push { cls := .type "tuple", data := .seq vs.toArray }).push { cls := .type "list", data := .seq ([] : List Value).toArray }, toks := tk } :=
    I3.kept (s := { s with heap := h4, toks := tk }) (t' := tk) fun b o e => Heap.get?_push_of_some _ (Heap.get?_push_of_some _ e)
  have ha5 : ((h4.push { cls := .type "tuple", data := .seq vs.toArray }).push { cls := .type "list", data := .seq ([] : List Value).toArray }).get? h1.objs.size = some (seqObj "list" #[] e1) := Heap.get?_push_of_some _ (Heap.get?_push_of_some _ ho1)
  have I4 : Inv X pins σ H { s with heap := h4.push { cls := .type "tuple", data := .seq vs.toArray }, toks := tk } := I3.kept (s := { s with heap := h4, toks := tk }) (t' := tk) fun b o e => Heap.get?_push_of_some _ e
  have ha4 : (h4.push { cls := .type "tuple", data := .seq vs.toArray }).get? h1.objs.size = some (seqObj "list" #[] e1) := Heap.get?_push_of_some _ ho1
  have Wk : Own X (pins ++ [(h1.objs.size, seqObj "list" #[] e1)]) H (h4.push { cls := .type "tuple", data := .seq vs.toArray }).objs.size :=
    Own.fresh (I4.pin1 (s := { s with heap := h4.push { cls := .type "tuple", data := .seq vs.toArray }, toks := tk }) Wa ha4 fun v z => by cases z) (Nat.le_refl _)
  refine rest_ok (s := { s with heap := (h4.push { cls := .type "tuple", data := .seq vs.toArray }).push { cls := .type "list", data := .seq ([] : List Value).toArray }, toks := tk }) (kV := kL.map fun k => V.str (T k)) rv (by rw [List.length_map]; omega) (by omega) I5 Wa ha5 Wk (Heap.get?_push_size _ rfl) hcall fun s6 ks e I6 hk6 rk => ?_
  have lk := rk.length
  rw [List.length_map] at lk
  refine end_ok (O := strKind.toKeyOrd) (key := fun i => kL.getD i []) (κ := oneType') rv (by omega) (by omega) (by rw [← lv]; exact hS) I6 Wa Wk hk6 (fun h2 Q' q' => kind_str rk (by omega) q') ?_ fun p s7 hp hu I7 => ⟨_, rfl, wpAny_pure ⟨_, rfl, .ref h1.objs.size, _, I7, rfl, ?_⟩⟩
  · have := ask_str (s := s6) (prog := X.prog) (w := X.w) (A := X.A.in1.in1) rk
    rw [show kL.length = vs.length by omega] at this
    exact this
  · refine h _ p.toList Wa.free (by unfold LS.Pm at hp; rw [lv]; exact hp) ?_
    have hps := hp.size
    refine List.pairwise_iff_getElem.mpr fun i j hi hj hij => ?_
    have := hu.1 i j (Nat.le_of_lt hij) (by rw [Array.length_toList] at hj; omega)
    have st := hu.2 i j hij (by rw [Array.length_toList] at hj; omega)
    have gi : LS.gt p i = p.toList[i] := by
      unfold LS.gt
      rw [Array.getD_eq_getD_getElem?]
      rw [Array.length_toList] at hi
      simp [hi]
    have gj : LS.gt p j = p.toList[j] := by
      unfold LS.gt
      rw [Array.getD_eq_getD_getElem?]
      rw [Array.length_toList] at hj
      simp [hj]
    rw [gi, gj] at this st
    have this : decide (kL.getD p.toList[j] [] < kL.getD p.toList[i] []) = false := this
    exact ⟨List.not_lt.mp (of_decide_eq_false this), st⟩
end
end L2
set_option maxRecDepth 100000
namespace L2
open PySem PySem.Spec PyProof.Rows
noncomputable def Ctx0 (e : Addr) (h : Heap) : Prop := ∃ o vs, h.get? e = some o ∧ o.data = .fields vs ∧ vs[2]? = some .none
theorem Ctx0.push {e : Addr} {h : Heap} (x : Ctx0 e h) (o' : Obj) : Ctx0 e (h.push o') := by
  obtain ⟨o, vs, h1, h2, h3⟩ := x
  exact ⟨o, vs, Heap.get?_push_of_some _ h1, h2, h3⟩
theorem Ctx0.upd {e a : Addr} {h : Heap} (x : Ctx0 e h) (f : Obj → Obj) (hf : ∀ o vs, o.data = .fields vs → vs[2]? = some .none → ∃ vs', (f o).data = .fields vs' ∧ vs'[2]? = some .none) : Ctx0 e (h.update a f) := by
  obtain ⟨o, vs, h1, h2, h3⟩ := x
  by_cases q : a = e
  · subst q
    obtain ⟨vs', g1, g2⟩ := hf o vs h2 h3
    exact ⟨f o, vs', Heap.get?_update_self f h1 (Obj.isFreed_of_fields g1), g1, g2⟩
  · exact ⟨o, vs, (Heap.get?_update_other _ _ q).trans h1, h2, h3⟩
noncomputable def Kp {α : Type} (t : Sem α) : Prop := ∀ (M : Model) (Γ : PySem.Ctx) (Q : α → Pos → Shared → Prop) (E : Value → Pos → Shared → Prop) (p : Pos) (s : Shared) (e : Addr), Ctx0 e s.heap → Sem.wp M Γ t Q E p s → Sem.wp M Γ t (fun a p' s' => Q a p' s' ∧ Ctx0 e s'.heap) E p s
section
variable {α β : Type}
theorem Kp.pure (a : α) : Kp (Pure.pure a : Sem α) := fun M Γ Q E p s e x h => by
  rw [Sem.wp_pure'] at h ⊢
  exact ⟨h, x⟩
theorem Kp.bind {m : Sem α} {f : α → Sem β} (hm : Kp m) (hf : ∀ a, Kp (f a)) : Kp (m >>= f) := fun M Γ Q E p s e x h => by
  rw [Sem.wp_bind'] at h ⊢
  exact Sem.wp_mono M Γ m (fun a p' s' z => hf a M Γ Q E p' s' e z.2 z.1) (fun _ _ _ z => z) p s (hm M Γ _ E p s e x h)
theorem Kp.update (a : Addr) (f : Obj → Obj) (hf : ∀ o vs, o.data = .fields vs → vs[2]? = some .none → ∃ vs', (f o).data = .fields vs' ∧ vs'[2]? = some .none) : Kp (PySem.update a f) := fun M Γ Q E p s e x h => by
  have h : Sem.wp M Γ (Sem.update a none f Sem.pure) Q E p s := h
  show Sem.wp M Γ (Sem.update a none f Sem.pure) _ E p s
  rw [Sem.wp_update] at h ⊢
  refine ⟨h.1, ?_⟩
  have h2 := h.2
  rw [Sem.wp_pure] at h2 ⊢
  exact ⟨h2, x.upd f hf⟩
theorem Kp.stack : Kp PySem.stack := fun M Γ Q E p s e x h => ⟨h, x⟩
theorem Kp.any {t : Sem α} (k : Kp t) {M : Model} {A : Around} {Q : α → Shared → Prop} {E : Value → Shared → Prop} {s : Shared} {e : Addr} (x : Ctx0 e s.heap) (h : wpAny M A t Q E s) : wpAny M A t (fun a s' => Q a s' ∧ Ctx0 e s'.heap) E s := fun Γ p hΓ => k M Γ _ _ p s e x (h Γ p hΓ)
end
noncomputable def FlyX (base : Heap) (l : List Env) (e : Addr) (cls a0 : Value) (h : Heap) : Prop := Heap.FlyingW base l e cls a0 h ∧ Ctx0 e h
section
variable {M : Model} {A : Around} {E : Value → Shared → Prop} {s : Shared} {base : Heap} {env : Env} {outer l : List Env} {L e : Addr} {cls a0 : Value} {Q : Unit → Shared → Prop}
end
end L2
set_option maxRecDepth 100000
namespace L2
open PySem PySem.Spec PyProof.Rows
noncomputable def CX1 (P : Program) (w : World) : CXT := fun outer H s E e s' => ∃ (a C : Addr) (a0 : Value) (B : Heap) (H' : Hp), e = .ref a ∧ s'.os = s.os ∧ AllBare s'.gens ∧ Un (frs outer) [] H H' s.heap s'.heap ∧ HOk P w H' B ∧
  (∀ b o, s.heap.get? b = some o → H b = none → b ∉ frs outer → B.get? b = some o) ∧ (∀ b o, s.heap.get? b = some o → b ∉ frs outer → ∃ o', B.get? b = some o') ∧ FlyX B outer a (.ref C) a0 s'.heap ∧ E (.ref C) none H'
theorem cx1_none {P : Program} {w : World} {outer : List Env} {H : Hp} {s : Shared} {e : Value} {s' : Shared} (h : CX1 P w outer H s (fun _ _ _ => False) e s') : False := by
  obtain ⟨_, _, _, _, _, _, _, _, _, _, _, _, _, q⟩ := h
  exact q
structure Tk (X : Cx) (F : St → XK) : Prop where
  pass : ∀ (pins : List (Addr × Obj)) (σ : St) (H : Hp) (s : Shared) (e : Value) (s' : Shared), Inv X pins σ H s → CX1 X.prog X.w X.stack H s (F σ) e s' → X.xe e s'
  own : PassesOwn (model X.prog X.w) X.A X.env X.xe
structure TkN (X : Cx) (F : St → XK) : Prop extends Tk X F where
  new : ∀ (pins : List (Addr × Obj)) (σ : St) (H : Hp) (s : Shared) (h' : Heap) (a C : Addr) (args : List Value), Inv X pins σ H s → Heap.MadeExcOf s.heap h' a (.ref C) args → F σ (.ref C) none H → X.xe (.ref a) { s with heap := h' }
section
variable {P : Program} {w : World} {K : PySem.W.Frag} {mg : Str → Option Value} {base : Heap} {N : List Str} {qual : Str} {scope : Scope} {f : Addr} {cdv : Value} {A : Around} {outer : List Env} {s : Shared} {H : Hp} {E : XK}
end
end L2
namespace L2
open PySem PySem.Spec PyProof.Rows
section
variable {X : Cx} {F : St → XK} {x : Str} {C : Addr} {e : Expr} {es : List Expr} {t : TA} {np cpos pos : Pos}
noncomputable def tRaise (F : St → XK) (C : Addr) (t : TA) : TS := fun _ σ H => t σ H fun vs H1 => vs.length ≤ 1000 ∧ F σ (.ref C) none H1
end
section
variable {X : Cx} {pos : Pos}
end
end L2
set_option maxRecDepth 100000
namespace L2
open PySem PySem.Spec PyProof.Rows
structure FnX (P : Program) (w : World) (K : PySem.W.Frag) (mg : Str → Option Value) (base : Heap) (k : Nat) (x : Str) (ps : List Str) (sp : Sp) : Prop where
  ex : ∃ f fd, FnOk P w K mg base (CX1 P w) k f fd ps sp ∧ mg x = some (.ref f) ∧ PySem.W.keepIn K (.ref f) = true ∧ Binds K fd ps []
section
variable {P : Program} {w : World} {K : PySem.W.Frag} {mg : Str → Option Value} {base : Heap}
theorem FnX.mono {j k : Nat} {x : Str} {ps : List Str} {sp : Sp} (F : FnX P w K mg base j x ps sp) (h : j ≤ k) : FnX P w K mg base k x ps sp := by
  obtain ⟨f, fd, F, r⟩ := F.ex
  exact ⟨f, fd, F.mono h, r⟩
theorem FnX.quiet {k : Nat} {x : Str} {ps : List Str} {sp : Sp} (F : FnX P w K mg base k x ps sp) : Fn P w K mg base k x ps (fun vs H Q _ => sp vs H Q E0) := by
  obtain ⟨f, fd, F, r⟩ := F.ex
  refine ⟨f, fd, ⟨fun vs H Q E h => F.len vs H Q E0 h, fun A outer s H args us vs Q E hr e0 hb rv h => ?_⟩, r⟩
  refine codeAny_mono (F.run A outer s H args us vs Q E0 hr e0 hb rv h) fun r s' q => ?_
  cases r with
  | error e => exact (cx1_none q).elim
  | ok fl => cases fl <;> exact q
end
section
variable {X : Cx} {F : St → XK} {k : Nat} {x : Str} {ps : List Str} {sp : Sp} {p pos : Pos} {e : Expr} {es : List Expr} {t : TA}
end
structure Caught (X : Cx) (pins : List (Addr × Obj)) (σ : St) (H1 : Hp) (s1 : Shared) (a C : Addr) (a0 : Value) (B : Heap) (H : Hp) (s2 : Shared) : Prop where
  inv1 : Inv X pins σ H1 s1
  os : s2.os = s1.os
  bare : AllBare s2.gens
  un : Un (frs X.stack) [] H1 H s1.heap s2.heap
  hokB : HOk X.prog X.w H B
  keepB : ∀ b o, s1.heap.get? b = some o → H1 b = none → b ∉ frs X.stack → B.get? b = some o
  thB : ∀ b o, s1.heap.get? b = some o → b ∉ frs X.stack → ∃ o', B.get? b = some o'
section
variable {X : Cx} {pins : List (Addr × Obj)} {σ : St} {H1 H : Hp} {s1 s2 : Shared} {a C : Addr} {a0 : Value} {B h : Heap}
end
section
variable {X : Cx} {pins : List (Addr × Obj)} {σ : St} {H : Hp} {s : Shared} {a : Addr} {E : Value → Shared → Prop}
end
end L2
set_option maxRecDepth 100000
namespace L2
open PySem PySem.Spec PyProof.Rows
section
variable {X : Cx} {x n : Str} {C0 : Addr} {i : Nat} {np pos : Pos} {b₀ : Stmt} {suite : List Stmt} {rest : List ExceptHandler} {ts : TS} {th : Ends → St → XK}
end
end L2
set_option maxRecDepth 100000
namespace L2
open PySem PySem.Spec PySem.Calls PyProof.Rows PySem.Builtin PySem.Builtin.ObjectAttr PySem.Builtin.Getset_descriptor
structure ExcG (K : PySem.W.Frag) (C : Addr) : Prop where
  ga : PySem.W.findIn K (.ref C) "__getattribute__" = some (some (.builtin "BaseException.__getattribute__"))
  gh : PySem.W.findIn K (.ref C) "__getattr__" = some none
  cl : PySem.W.findIn K (.ref C) "__class__" = some (some (.builtin "object.__class__"))
  gt : PySem.W.specialIn K (.builtin "object.__class__") "__get__" = some (some (.builtin "getset_descriptor.__get__"))
  tk : PySem.W.takesIn K (.builtin "object.__class__") = some true
  mo : PySem.W.mroIn K C (.type "object") = some true
  mb : PySem.W.mroIn K C (.type "BaseException") = some true
theorem ExcG.is {K : PySem.W.Frag} {C : Addr} (G : ExcG K C) : (PySem.W.clsIn K C).isSome = true := by
  have h := G.mo
  unfold PySem.W.mroIn at h
  cases q : PySem.W.clsIn K C with
  | some _ => rfl
  | none => rw [q] at h; cases h
section
variable {prog : Program} {w : World} {A : Around} {E : Value → Shared → Prop} {s : Shared} {K : PySem.W.Frag} {a C : Addr} {oe : Obj}
end
section
variable {X : Cx} {pins : List (Addr × Obj)} {σ : St} {H : Hp} {s : Shared} {a C : Addr} {c : Value} {b : Bool}
end
end L2
set_option maxRecDepth 100000
namespace L2
open PySem PySem.Spec PyProof.Rows
section
variable {X : Cx} {es : List Expr} {k : Nat} {tp : Pos}
end
end L2
set_option maxRecDepth 100000
namespace L2
open PySem PySem.Spec PyProof.Rows
section
variable {X : Cx}
noncomputable def putAt {α : Type} (xs : List α) (k : Nat) (y : α) : List α := xs.take k ++ y :: xs.drop k
theorem Vals.put {xs : List V} {us : List Value} {x : V} {u : Value} (h : Vals xs us) (r : RelV x u) (k : Nat) : Vals (putAt xs k x) (putAt us k u) := (h.take k).append (.cons r (h.drop k))
noncomputable def eqVs : List V → List V → Bool
  | [], [] => true
  | x :: r, y :: q => eqV x y && eqVs r q
  | _, _ => false
noncomputable def eqAtJ (xs ys : List V) (j : Nat) : Bool := match xs[j]?, ys[j]? with
  | some x, some y => eqV x y
  | _, _ => false
theorem eqVs_all : ∀ {xs ys : List V}, xs.length = ys.length → eqVs xs ys = (List.range xs.length).all (eqAtJ xs ys)
  | [], [], _ => rfl
  | x :: r, y :: q, h => by
    have h' : r.length = q.length := by simpa using h
    rw [List.length_cons, List.range_succ_eq_map, List.all_cons, List.all_map]
    show (eqV x y && eqVs r q) = (eqV x y && _)
    rw [eqVs_all h']
    rfl
theorem eqVs_len : ∀ {xs ys : List V}, xs.length ≠ ys.length → eqVs xs ys = false
  | [], [], h => absurd rfl h
  | [], _ :: _, _ => rfl
  | _ :: _, [], _ => rfl
  | x :: r, y :: q, h => by
    show (eqV x y && eqVs r q) = false
    rw [eqVs_len (fun z => h (by simp [z])), Bool.and_false]
theorem eqVs_ints : ∀ (ns ms : List Int), eqVs (ns.map V.int) (ms.map V.int) = decide (ns = ms)
  | [], [] => rfl
  | [], _ :: _ => rfl
  | _ :: _, [] => rfl
  | n :: ns, m :: ms => by
    show (eqV (.int n) (.int m) && eqVs (ns.map V.int) (ms.map V.int)) = _
    rw [eqVs_ints ns ms]
    by_cases h1 : n = m <;> by_cases h2 : ns = ms <;> simp [eqV, h1, h2]
theorem ints_flat (ns : List Int) : (ns.map V.int).all flatV = true := by
  rw [List.all_eq_true]
  intro x hx
  obtain ⟨n, _, rfl⟩ := List.mem_map.mp hx
  rfl
noncomputable def eqL (K : PySem.W.Frag) (neg : Bool) : R2 := fun x y H Q => match x, y with
  | .ref a, .ref b => ∃ xs ys, SqL K H a xs ∧ SqL K H b ys ∧ xs.all flatV = true ∧ ys.all flatV = true ∧ Q (.bl (neg != eqVs xs ys)) H
  | x, y => if neg = true then neR x y H Q else eqR x y H Q
theorem pair_at {A : Around} {s : Shared} {xs ys : List V} {its ist : List Value} (r1 : Vals xs its) (r2 : Vals ys ist) (f1 : xs.all flatV = true) (f2 : ys.all flatV = true) (j : Nat) (h1 : j < its.length) (h2 : j < ist.length) : SeqAt.EqAt A s its[j] ist[j] (eqAtJ xs ys j) := by
  have l1 := r1.length
  have l2 := r2.length
  have e1 : xs[j]? = some xs[j] := by simp [l1, h1]
  have e2 : ys[j]? = some ys[j] := by simp [l2, h2]
  obtain ⟨u, hu, ru⟩ := r1.get e1
  obtain ⟨v, hv, rv⟩ := r2.get e2
  rw [List.getElem?_eq_getElem h1] at hu
  rw [List.getElem?_eq_getElem h2] at hv
  have hu := Option.some.inj hu
  have hv := Option.some.inj hv
  subst hu hv
  unfold eqAtJ
  rw [e1, e2]
  exact eqAt_V ru rv (List.all_eq_true.mp f1 _ (List.getElem_mem _)) (List.all_eq_true.mp f2 _ (List.getElem_mem _))
theorem o_eqL {K : PySem.W.Frag} {k : Nat} (hK : X.K = K) (hr : Room k X.A) : OpR X (compareOp .Eq) (eqL K false) := by
  subst hK
  intro pins s σ H x y v u Q I rx ry h
  unfold eqL at h
  split at h
  · rename_i a b
    obtain ⟨xs, ys, q1, q2, f1, f2, q⟩ := h
    cases rx
    cases ry
    obtain ⟨its, r1, p1, z1⟩ := I.list q1
    obtain ⟨ist, r2, p2, z2⟩ := I.list q2
    have l1 := r1.length
    have l2 := r2.length
    have hu : X.A.units < cLine := by have := hr.un; omega
    rw [Bool.false_bne] at q
    by_cases hs : xs.length = ys.length
    · refine SeqAt.eq_listAt (e := eqAtJ xs ys) p1.isList p2.isList (by simp; omega) hu (fun j h1 h2 => pair_at r1 r2 f1 f2 j (by simpa using h1) (by simpa using h2)) ?_
      rw [List.size_toArray, ← l1, ← eqVs_all hs]
      exact fin_bl I q rfl
    · refine SeqAt.eq_list_lengthsAt p1.isList p2.isList (by simp; omega) hu ?_
      rw [eqVs_len hs] at q
      exact fin_bl I q rfl
  · rw [if_neg Bool.false_ne_true] at h
    exact o_eq pins s σ H _ _ v u Q I rx ry h
theorem o_neL {K : PySem.W.Frag} {k : Nat} (hK : X.K = K) (hr : Room k X.A) : OpR X (compareOp .NotEq) (eqL K true) := by
  subst hK
  intro pins s σ H x y v u Q I rx ry h
  unfold eqL at h
  split at h
  · rename_i a b
    obtain ⟨xs, ys, q1, q2, f1, f2, q⟩ := h
    cases rx
    cases ry
    obtain ⟨its, r1, p1, z1⟩ := I.list q1
    obtain ⟨ist, r2, p2, z2⟩ := I.list q2
    have l1 := r1.length
    have l2 := r2.length
    have hu : X.A.units < cLine := by have := hr.un; omega
    rw [Bool.true_bne] at q
    by_cases hs : xs.length = ys.length
    · refine SeqAt.RcNeAt.lists (e := eqAtJ xs ys) p1.isList p2.isList (by simp; omega) hu (fun j h1 h2 => pair_at r1 r2 f1 f2 j (by simpa using h1) (by simpa using h2)) _ _ _ _ ?_
      rw [List.size_toArray, ← l1, ← eqVs_all hs]
      exact fin_bl I q rfl
    · refine SeqAt.RcNeAt.lists_lengths p1.isList p2.isList (by simp; omega) hu _ _ _ _ ?_
      rw [eqVs_len hs] at q
      exact fin_bl I q rfl
  · rw [if_pos rfl] at h
    exact o_ne pins s σ H _ _ v u Q I rx ry h
theorem c_listVK {K : PySem.W.Frag} (hK : X.K = K) (hc : X.calm = true) : CallR X (.type "list") (listV K) := hK ▸ c_listV hc
end
end L2
set_option maxRecDepth 100000
namespace LP
open PySem L2
noncomputable def Whole (ns : List Int) : Prop := ∀ k : Nat, k < ns.length → ns.count (k : Int) = 1
instance (ns : List Int) : Decidable (Whole ns) := inferInstanceAs (Decidable (∀ k : Nat, k < ns.length → ns.count (k : Int) = 1))
theorem same_put {H H' : Hp} {p : Addr} {o : HO} (sm : Same H H') (hn : H p = none) : Same H (upd H' p o) := fun b u q => by
  have : b ≠ p := by rintro rfl; rw [hn] at q; cases q
  rw [upd_ne this]
  exact sm b u q
end LP
set_option maxRecDepth 100000
namespace L2
open PySem PySem.Spec PyProof.Rows
theorem SameN.src {K : PySem.W.Frag} {H H' : Hp} {a : Addr} {xs : List V} (e : SameN H H') (h : Src K H a xs) : Src K H' a xs := by
  rcases h with h | h | ⟨lo, hi, h, r⟩
  · exact .inl (e.seq h)
  · rcases h with (h | ⟨o, h⟩) | h
    · exact .inr (.inl (.inl (.inl (e.at h (by intro ps z; cases z)))))
    · exact .inr (.inl (.inl (.inr ⟨o, e.at h (by intro ps z; cases z)⟩)))
    · exact .inr (.inl (.inr h))
  · exact .inr (.inr ⟨lo, hi, e.at h (by intro ps z; cases z), r⟩)
section
variable {X : Cx} {c P : Addr} {params : Arguments} {body : Expr} {scope : Scope} {cl : List (Str × Addr)} {cp : List (Str × Nat)} {x : Str} {q : Str} {e : Expr} {ta : TA} {te : TE} {np lp kp pos : Pos}
noncomputable def tSortL (K : PySem.W.Frag) (P : Addr) (lp : Pos) (q : Str) (cp : List (Str × Nat)) (ta : TA) (te : TE) : TE := fun σ H Q => ta σ H fun vs H1 => match vs with
  | [.ref a] => ∃ (xs : List V) (kL : List (List Nat)), Src K H1 a xs ∧ xs.length < 64 ∧ kL.length = xs.length ∧ Bk P lp q H1 ∧ (∀ H2 i y, SameN H1 H2 → xs[i]? = some y → te (lamS y cp σ) H2 fun k H' => H' = H2 ∧ k = .str (T (kL.getD i []))) ∧
      ∀ H2 l (p : List Nat), SameN H1 H2 → SameE P H1 H2 → Bk P lp q H2 → H2 l = none → p.Perm (List.range xs.length) → p.Pairwise (fun i j => kL.getD i [] ≤ kL.getD j [] ∧ (kL.getD i [] = kL.getD j [] → i < j)) → Q (.ref l) (upd H2 l (.lst (p.map fun i => xs.getD i .non)))
  | _ => False
end
end L2
namespace L2
open PySem PySem.Spec PyProof.Rows
structure Lm (mg : Str → Option Value) (base : Heap) (c P : Addr) : Prop where
  hd : PySem.W.CodeHd base c P
  bm : ∃ bm ob, mg "__builtins__" = some (.ref bm) ∧ bm ≠ builtinsNs ∧ base.get? bm = some ob ∧ ob.cls = .type "module" ∧ ob.dict = some builtinsNs ∧ ob.data = .plain
theorem Lm.at {X : Cx} {c P : Addr} (L : Lm X.mg X.base c P) (h : X.env.code = .ref c) : LamAt X c P := ⟨h, L.hd, L.bm⟩
section
variable {P : Program} {w : World} {K : PySem.W.Frag} {mg : Str → Option Value} {base : Heap}
theorem Fun.okL {x qual : Str} {st : Stmt} {f c : Addr} {fd : FuncData} {N ps : List Str} {k : Nat} {sp : Sp} (F : Fun K x qual st f fd) (hc : fd.code = .ref c) (S : FnScope N ps (defScope st)) (len : ∀ vs H Q E, sp vs H Q E → vs.length = ps.length)
    (hbody : ∀ (A : Around) (outer : List Env) (s : Shared) (H : Hp) (vs : List V) (Q : VK) (E : XK), Room k (A.deeper (envOfC qual (defScope st) s.heap.objs.size f (.ref c))) → sp vs H Q E →
      ∃ t, PSs (cxOf CX0 P w K mg base N qual (defScope st) f (.ref c) A outer s H E).nox (defBody st) t ∧ t { nx := fun _ H' => Q .non H', rt := Q } (start N vs) H) : FnOk P w K mg base CX0 (k + 1) f fd ps sp := by
  obtain ⟨oc, od, kV, doc, pm, an, cdv, ct, osl, rfl, lk, hcd⟩ := F.ex
  have hc : cdv = .ref c := hc
  subst hc
  refine fn_of lk hcd S len fun A outer s H vs Q E hr hsp => ?_
  obtain ⟨t, h, q⟩ := hbody A outer s H vs Q E hr hsp
  exact ⟨t, h.nox, q⟩
end
abbrev BmAt (mg : Str → Option Value) (base : Heap) : Prop := ∃ bm ob, mg "__builtins__" = some (.ref bm) ∧ bm ≠ builtinsNs ∧ base.get? bm = some ob ∧ ob.cls = .type "module" ∧ ob.dict = some builtinsNs ∧ ob.data = .plain
theorem law_callT {P : Program} {w : World} {K : PySem.W.Frag} {mg mb : Str → Option Value} {CX : CXT} {k : Nat} {fa a : Addr} {fd : FuncData} {x : Str} {sp : Sp} {s₁ : Shared} {vs : List Value} {ns : List Int} {ts : List Addr}
    (KX : K.In s₁.heap) (hns : s₁.heap.Ns mainGlobals mg) (hb : s₁.heap.Ns builtinsNs mb) (hbb : ∀ x : Str, x ≠ "__name__" → mb x = bootBuiltins x) (hlim : s₁.heap.NoLimit) (hg : s₁.gens = #[])
    (hbm : ∃ bm ob, mg "__builtins__" = some (.ref bm) ∧ bm ≠ builtinsNs ∧ s₁.heap.get? bm = some ob ∧ ob.cls = .type "module" ∧ ob.dict = some builtinsNs ∧ ob.data = .plain)
    (ha : s₁.heap.get? a = some { cls := .type "list", data := .seq vs.toArray }) (hi : IntsAre vs ns) (hl : ns.length ≤ sizeLine) (hr : Room k callerA)
    (hts : ∀ p ∈ ts, s₁.heap.get? p = some (PySem.W.tabObj #[]) ∧ K.lookup p = none ∧ ∃ c, PySem.W.CodeHd s₁.heap c p)
    (F : ∀ base : Heap, K.In base → base.Ns mainGlobals mg → (∃ bm ob, mg "__builtins__" = some (.ref bm) ∧ bm ≠ builtinsNs ∧ base.get? bm = some ob ∧ ob.cls = .type "module" ∧ ob.dict = some builtinsNs ∧ ob.data = .plain) → FnOk P w K mg base CX k fa fd [x] sp)
    (hbind : ∀ (s : Shared) (u : Value), BindsTo s fd ⟨[u], []⟩ [(x, u)])
    (hsp : ∀ H : Hp, SqL K H a (ns.map V.int) → (∀ p ∈ ts, H p = some (.tbl #[])) → sp [.ref a] H (fun v _ => v = .bl true) fun _ _ _ => False)
    (hCX : ∀ H e s', CX [] H s₁ (fun _ _ _ => False) e s' → False) :
    codeAny (model P w) callerA (.call (.ref fa) ⟨[.ref a], []⟩) (fun r s' => r = .ok (.ret (.bool true)) ∧ OldK s₁.heap s'.heap ∧ s'.os = s₁.os ∧ AllBare s'.gens) s₁ := by
  have rv := vals_ints hi
  have lenV := hi.length
  have core : ∀ H : Hp, (∀ b, H b = none ∨ (b = a ∧ ∃ o xs, H b = some (.frz o (.lst xs))) ∨ (b ∈ ts ∧ H b = some (.tbl #[]))) → (∀ p ∈ ts, H p = some (.tbl #[])) → SqL K H a (ns.map V.int) → HOk P w H s₁.heap → (∀ b, H b ≠ none → K.lookup b = none) →
      codeAny (model P w) callerA (.call (.ref fa) ⟨[.ref a], []⟩) (fun r s' => r = .ok (.ret (.bool true)) ∧ OldK s₁.heap s'.heap ∧ s'.os = s₁.os ∧ AllBare s'.gens) s₁ := by
    intro H hO hT hS hok hK
    have dat : ∀ b u, s₁.heap.get? b = some u → H b = none ∨ (∃ its n, u.data = .seq its n) ∨ ∃ fs, u.data = .fields fs := fun b u e => by
      rcases hO b with z | ⟨rfl, _⟩ | ⟨z, _⟩
      · exact .inl z
      · rw [ha] at e; cases e; exact .inr (.inl ⟨_, _, rfl⟩)
      · rw [(hts b z).1] at e; cases e; exact .inr (.inr ⟨_, rfl⟩)
    have inB : ∀ {b : Addr} {o : Obj}, s₁.heap.get? b = some o → H b = none → (hidT s₁.heap H).get? b = some o := fun e n => hidT_get e n
    have nsB : ∀ {b : Addr} {m : Str → Option Value}, s₁.heap.Ns b m → (hidT s₁.heap H).Ns b m := fun {b m} ⟨o, es, ep, e, d, r⟩ => ⟨o, es, ep, inB e (by
      rcases dat b o e with z | ⟨_, _, z⟩ | ⟨_, z⟩
      · exact z
      · rw [d] at z; cases z
      · rw [d] at z; cases z), d, r⟩
    have hKb : K.In (hidT s₁.heap H) := fun b o e => inB (KX b o e) (by
      cases q : H b with
      | none => rfl
      | some u => rw [hK b (by rw [q]; simp)] at e; cases e)
    have hM : Mod K mg (hidT s₁.heap H) := ⟨hKb, nsB hns, ⟨mb, nsB hb, hbb⟩, let ⟨mc, h1, h2⟩ := hlim; ⟨mc, nsB h1, h2⟩⟩
    have e0 : Env0 P w K mg (hidT s₁.heap H) callerA [] s₁ H := ⟨rfl, hM, fun b o e => of_hidT e, Nat.le_of_eq (hidT_size _ _), trivial, fun b hb => absurd (show b ∈ ([] : List Addr) from hb) (by simp), hok, .of_eq hg⟩
    have hbmB : ∃ bm ob, mg "__builtins__" = some (.ref bm) ∧ bm ≠ builtinsNs ∧ (hidT s₁.heap H).get? bm = some ob ∧ ob.cls = .type "module" ∧ ob.dict = some builtinsNs ∧ ob.data = .plain := by
      obtain ⟨bm, ob, b1, b2, b3, b4, b5, b6⟩ := hbm
      refine ⟨bm, ob, b1, b2, inB b3 ?_, b4, b5, b6⟩
      rcases dat bm ob b3 with z | ⟨_, _, z⟩ | ⟨_, z⟩
      · exact z
      · rw [b6] at z; cases z
      · rw [b6] at z; cases z
    refine codeAny_mono ((F _ hKb (nsB hns) hbmB).run callerA [] s₁ H ⟨[.ref a], []⟩ [.ref a] [.ref a] _ _ hr e0 (hbind s₁ (.ref a)) (.cons rfl .nil) (hsp H hS hT)) fun r s' h => ?_
    cases r with
    | error e => exact (hCX H e s' h).elim
    | ok fl =>
      cases fl with
      | next => exact False.elim h
      | brk => exact False.elim h
      | cont => exact False.elim h
      | ret u =>
        obtain ⟨v, H', os, bare, un, hok', r', q⟩ := h
        have q' : v = .bl true := q
        subst q'
        obtain rfl : u = Value.bool true := r'
        have old : ∀ b o, s₁.heap.get? b = some o → s'.heap.get? b = some o ∨ ∃ more, b ∈ ts ∧ s'.heap.get? b = some (PySem.W.tabObj more) := fun b o e => by
          rcases hO b with z | ⟨_, ob, xs, z⟩ | ⟨zt, z⟩
          · exact .inl (un.keep b o e z (by intro y; exact absurd (show b ∈ ([] : List Addr) from y) (by simp)) (by simp))
          · have z2 := un.frzs b ob _ z
            obtain ⟨e1, _⟩ := hok b _ z
            obtain ⟨e2, _⟩ := hok' b _ z2
            rw [e] at e1; cases e1
            exact .inl e2
          · obtain ⟨more, z2⟩ := un.tbls b _ z
            exact .inr ⟨_, zt, hok' b _ z2⟩
        refine ⟨rfl, ⟨fun b o e => ?_, fun b o e => ?_⟩, os, bare⟩
        · rcases old b o e with z | ⟨more, zt, z⟩
          · exact .inl z
          · obtain ⟨t1, _, c, t2⟩ := hts b zt
            rw [t1] at e
            cases e
            refine .inr (.inl ⟨(t2.tab t1).isCodeTable, rfl, #[], more, rfl, ?_⟩)
            rw [z]
            simp
        · rcases old b o e with z | ⟨more, _, z⟩
          · exact ⟨_, z⟩
          · exact ⟨_, z⟩
  have aT : a ∉ ts := fun z => by
    have := (hts a z).1
    rw [ha] at this
    cases this
  cases hk : K.lookup a with
  | some o =>
    have e := KX a o hk
    rw [ha] at e
    cases e
    refine core (fun b => if b ∈ ts then some (.tbl #[]) else none) (fun b => ?_) (fun p hp => if_pos hp) (.inr ⟨_, vs.toArray, _, hk, rfl, rfl, rfl, by rw [List.size_toArray, lenV]; exact hl, by simpa using rv⟩) (fun b u z => ?_) fun b z => ?_
    · by_cases hb : b ∈ ts
      · exact .inr (.inr ⟨hb, if_pos hb⟩)
      · exact .inl (if_neg hb)
    · by_cases hb : b ∈ ts
      · have z' := (if_pos hb).symm.trans z
        cases z'
        exact (hts b hb).1
      · have z' := (if_neg hb).symm.trans z
        cases z'
    · by_cases hb : b ∈ ts
      · exact (hts b hb).2.1
      · exact absurd (if_neg hb) z
  | none =>
    refine core (fun b => if b = a then some (.frz { cls := .type "list", data := .seq vs.toArray } (.lst (ns.map V.int))) else if b ∈ ts then some (.tbl #[]) else none) (fun b => ?_) (fun p hp => ?_) (.inl (.inr ⟨{ cls := .type "list", data := .seq vs.toArray }, if_pos rfl⟩)) (fun b u z => ?_) fun b z => ?_
    · by_cases hb : b = a
      · exact .inr (.inl ⟨hb, _, _, if_pos hb⟩)
      · by_cases hb2 : b ∈ ts
        · exact .inr (.inr ⟨hb2, (if_neg hb).trans (if_pos hb2)⟩)
        · exact .inl ((if_neg hb).trans (if_neg hb2))
    · have : p ≠ a := fun z => aT (z ▸ hp)
      exact (if_neg this).trans (if_pos hp)
    · by_cases hb : b = a
      · have z' := (if_pos hb).symm.trans z
        cases z'
        subst hb
        exact ⟨ha, by rw [List.length_map]; exact hl, vs, _, rv, ha⟩
      · by_cases hb2 : b ∈ ts
        · have z' := ((if_neg hb).trans (if_pos hb2)).symm.trans z
          cases z'
          exact (hts b hb2).1
        · have z' := ((if_neg hb).trans (if_neg hb2)).symm.trans z
          cases z'
    · by_cases hb : b = a
      · rw [hb]; exact hk
      · by_cases hb2 : b ∈ ts
        · exact (hts b hb2).2.1
        · exact absurd ((if_neg hb).trans (if_neg hb2)) z
theorem walk_ofT {l : PySem.W.OpenLaw} {n k : Nat} {q : Program} {loose : List Str} {XP : (Str → Option Value) → Heap → Prop} {YP : World → Heap → Prop} {d : DefRec} {K : Params → PySem.W.Frag} {CX : World → CXT} {sp : World → Sp} {x : Str} {ts : List Addr}
    (hn : l.most = some n) (hn2 : n ≤ sizeLine) (hdf : d.params.defaults = []) (hr : Room k callerA)
    (hY : ∀ (w : World) (h : Heap), YP w h → (K w.params).In h ∧ ∀ p ∈ ts, h.get? p = some (PySem.W.tabObj #[]))
    (F : ∀ (w : World) (mg : Str → Option Value) (fa : Addr) (h : Heap), (K w.params).In h → h.Ns mainGlobals mg → mg d.name = some (.ref fa) →
      (∀ p ∈ ts, (K w.params).lookup p = none ∧ ∃ c, PySem.W.codeHdIn (K w.params) c p = true) ∧ ∃ fd : FuncData, (∀ (s : Shared) (u : Value), BindsTo s fd ⟨[u], []⟩ [(x, u)]) ∧
        ∀ base : Heap, (K w.params).In base → base.Ns mainGlobals mg → (∃ bm ob, mg "__builtins__" = some (.ref bm) ∧ bm ≠ builtinsNs ∧ base.get? bm = some ob ∧ ob.cls = .type "module" ∧ ob.dict = some builtinsNs ∧ ob.data = .plain) → FnOk l.prog w (K w.params) mg base (CX w) k fa fd [x] (sp w))
    (hsp : ∀ (w : World) (H : Hp) (a : Addr) (ns : List Int), ns.length ≤ n → SqL (K w.params) H a (ns.map V.int) → (∀ p ∈ ts, H p = some (.tbl #[])) → sp w [.ref a] H (fun v _ => v = .bl true) fun _ _ _ => False)
    (hCX : ∀ (w : World) (H : Hp) (s : Shared) (e : Value) (s' : Shared), CX w [] H s (fun _ _ _ => False) e s' → False) :
    PySem.W.WalkO q loose XP YP l.row.toRowW d [] (fun f vs => PySem.call f vs) := by
  refine Att.attach_call hn hdf fun w s₀ s₁ mg mb fa o pm cd doc a vs ns G Y ho hd hcd hmg hobj hints hlen hg => ?_
  obtain ⟨KX, TX⟩ := hY w _ Y
  obtain ⟨hT, fd, hb, hF⟩ := F w mg fa _ KX G.T.g hmg
  refine law_callT (ts := ts) KX G.T.g G.T.b G.T.builtins G.T.nolimit hg G.T.bmain hobj hints (Nat.le_trans hlen hn2) hr (fun p hp => ⟨TX p hp, (hT p hp).1, ?_⟩) hF hb (fun H hS hTb => hsp w H a ns hlen hS hTb) fun H e s' => hCX w H s₁ e s'
  obtain ⟨c, e⟩ := (hT p hp).2
  exact ⟨c, PySem.W.codeHd_of_K KX e⟩
end L2
set_option maxRecDepth 100000
namespace L2
open PySem PySem.Spec PyProof.Rows
section
variable {X : Cx} {pins : List (Addr × Obj)} {σ : St} {H : Hp} {s : Shared}
theorem vals_by {xs : List V} {vs : List Value} (rv : Vals xs vs) : ∀ l : List Nat, (∀ i ∈ l, i < vs.length) → Vals (l.map fun i => xs.getD i .non) (l.map fun i => vs.getD i Value.none) := by
  intro l
  have lv := rv.length
  induction l with
  | nil => intro _; exact .nil
  | cons i r ih =>
    intro hi
    have hi0 := hi i List.mem_cons_self
    refine .cons ?_ (ih fun j hj => hi j (List.mem_cons_of_mem _ hj))
    have hx : xs[i]? = some (xs.getD i .non) := by
      rw [List.getD_eq_getElem?_getD, List.getElem?_eq_getElem (by omega)]
      rfl
    obtain ⟨u, hu, r'⟩ := rv.get hx
    have e : vs.getD i Value.none = u := by rw [List.getD_eq_getElem?_getD, hu]; rfl
    show RelV (xs.getD i .non) (vs.getD i Value.none)
    rw [e]
    exact r'
theorem sorted_gen {Q : VK} {E : Value → Shared → Prop} {a : Addr} {κ : SortKind} {O : KeyOrd} (hc : X.calm = true) (hh : X.A.handled = none)
    (hcoll : ∀ (A : Around) (E : Value → Shared → Prop), A.handled = none → wpAny (model X.prog X.w) A (collect (.ref a)) (fun vs s1 => ∃ (xs : List V) (key : Nat → O.α), Inv X pins σ H s1 ∧ Vals xs vs ∧ xs.length ≤ 100000 ∧ Sorts X.prog X.w key xs.length ∧
      (∀ s' vs (E : Value → Shared → Prop) (Q' : SortKind → Shared → Prop), Inv X pins σ H s' → Vals xs vs → 2 ≤ xs.length → Q' κ s' → wpAny (model X.prog X.w) X.A.in1.in1 (keyKind' vs.toArray) Q' E s') ∧
      (∀ s' vs, Inv X pins σ H s' → Vals xs vs → LS.Asks key xs.length (fun t => t = s') (PySem.W.kas_ask X.prog X.w X.A.in1.in1 κ vs)) ∧
      ∀ l (p : Array Nat), H l = none → LS.Pm xs.length p → LS.Up key p xs.length → Q (.ref l) (upd H l (.lst (p.toList.map fun i => xs.getD i .non)))) E s) :
    wpAny (model X.prog X.w) X.A (call (.builtin "sorted") [.ref a]) (EP X pins σ Q) E s := by
  have hsl : sizeLine = 16777216 := sizeLine_eq
  refine Calls.call_function_entry kind_sorted plain_sorted entry_sorted (args_sorted1 _) ?_
  unfold Builtin.«sorted»
  refine wpAny_bind (m := checkCount "sorted" 1 1 _) (wpAny_pure ?_)
  refine wpAny_bind (wpAny_mono (hcoll _ _ hh) (fun vs s1 ⟨xs, key, I, rv, h64, hS, hkind, hask, h⟩ => ?_) fun _ _ z => z)
  have lv := rv.length
  refine wpAny_bind (wpAny_newList ?_ (by omega))
  have k2 : ∀ b o, s1.heap.get? b = some o → (s1.heap.push { cls := .type "list", data := .seq vs.toArray }).get? b = some o := fun b o e => Heap.get?_push_of_some _ e
  have I2 : Inv X pins σ H { s1 with heap := s1.heap.push { cls := .type "list", data := .seq vs.toArray }, toks := s1.toks } := I.kept k2
  have I1 : Inv X pins σ H { s1 with heap := s1.heap, toks := s1.toks } := I
  have Wa : Own X pins H s1.heap.objs.size := Own.fresh I1 (Nat.le_refl _)
  have ho : (s1.heap.push { cls := .type "list", data := .seq vs.toArray }).get? s1.heap.objs.size = some (seqObj "list" vs.toArray 0) := Heap.get?_push_size _ rfl
  refine wpAny_bind (wpAny_holding (wpAny_call_entry slot_list_sort ⟨_, ho, rfl⟩ entry_list_sort ?_ (args_list_sort _)))
  rw [list_sort_plain]
  refine wpAny_bind (listItems_at ho rfl ?_)
  refine wpAny_bind (listUpdate_at ho rfl ?_ (by rw [List.size_toArray]; omega) (Nat.zero_le _))
  have hs1 := Heap.SameBut.update (s1.heap.push { cls := .type "list", data := .seq vs.toArray }) s1.heap.objs.size (Obj.mapSeq fun _ => (#[] : Array Value))
  obtain ⟨e1, ho1⟩ : ∃ e1, ((s1.heap.push { cls := .type "list", data := .seq vs.toArray }).update s1.heap.objs.size (Obj.mapSeq fun _ => (#[] : Array Value))).get? s1.heap.objs.size = some (seqObj "list" #[] e1) := ⟨_, get?_update_seq ho fun _ => #[]⟩
  refine wpAny_bind (seqEpoch_at ho1 rfl ?_)
  refine wpAny_bind (wpAny_newTuple ?_ (by show vs.length ≤ _; omega))
  refine wpAny_bind (wpAny_newList ?_ (Nat.zero_le _))
  refine wpAny_holding ?_
  have I3 : Inv X pins σ H { s1 with heap := (s1.heap.push { cls := .type "list", data := .seq vs.toArray }).update s1.heap.objs.size (Obj.mapSeq fun _ => (#[] : Array Value)), toks := s1.toks } :=
    I2.alter (s := { s1 with heap := s1.heap.push { cls := .type "list", data := .seq vs.toArray }, toks := s1.toks }) Wa ho (fun v z => by cases z) fun b u hb z => (hs1.2 b hb).trans z
  generalize hg4 : (s1.heap.push { cls := .type "list", data := .seq vs.toArray }).update s1.heap.objs.size (Obj.mapSeq fun _ => (#[] : Array Value)) = h4 at *
  have I5 : Inv X pins σ H { s1 with heap := (h4.push { cls := .type "tuple", data := .seq vs.toArray }).push { cls := .type "list", data := .seq ([] : List Value).toArray }, toks := s1.toks } :=
    I3.kept (s := { s1 with heap := h4, toks := s1.toks }) (t' := s1.toks) fun b o e => Heap.get?_push_of_some _ (Heap.get?_push_of_some _ e)
  have ha5 : ((h4.push { cls := .type "tuple", data := .seq vs.toArray }).push { cls := .type "list", data := .seq ([] : List Value).toArray }).get? s1.heap.objs.size = some (seqObj "list" #[] e1) := Heap.get?_push_of_some _ (Heap.get?_push_of_some _ ho1)
  have tail : ∀ (P : PySem.Fin → Shared → Prop), (∀ (p : Array Nat) s', LS.Pm vs.length p → LS.Up key p vs.length → Inv X pins σ (upd H s1.heap.objs.size (.lst (p.toList.map fun i => xs.getD i .non))) s' → P (.done (.ret .none)) s') → ∀ (st : SortSt) (p : Array Nat), LS.Pm vs.length p → LS.Up key p vs.length → arrOf st = p.map (PySem.W.kas_item (vs.toArray.zip vs.toArray)) → failedOf st = none →
      wpAny (model X.prog X.w) X.A.in1.in1 (do
        let sorted := (arrOf st).map (·.2)
        let touched := (← seqEpoch s1.heap.objs.size) != e1
        Builtin.List.listUpdate (.ref s1.heap.objs.size) fun _ => sorted
        if let some e := failedOf st then rule "list.sort.comparison-raised"; throw e
        if touched then rule "list.sort.modified"; raiseError "ValueError" "list modified during sort"
        ret .none) P E
        { s1 with heap := (h4.push { cls := .type "tuple", data := .seq vs.toArray }).push { cls := .type "list", data := .seq ([] : List Value).toArray }, toks := s1.toks } := by
    intro P hP st p hp hu har hf
    have hout := PySem.W.kat_snds rfl har
    have hps := hp.size
    dsimp only
    rw [hout]
    generalize hg5 : (h4.push { cls := .type "tuple", data := .seq vs.toArray }).push { cls := .type "list", data := .seq ([] : List Value).toArray } = h5 at *
    have hs2 := Heap.SameBut.update h5 s1.heap.objs.size (Obj.mapSeq fun _ => List.toArray (p.toList.map fun i => vs.getD i Value.none))
    obtain ⟨c2, hg⟩ : ∃ c2, (h5.update s1.heap.objs.size (Obj.mapSeq fun _ => List.toArray (p.toList.map fun i => vs.getD i Value.none))).get? s1.heap.objs.size = some (seqObj "list" (List.toArray (p.toList.map fun i => vs.getD i Value.none)) c2) := ⟨_, get?_update_seq ha5 (fun _ => List.toArray (p.toList.map fun i => vs.getD i Value.none))⟩
    refine wpAny_bind (seqEpoch_at ha5 rfl ?_)
    refine wpAny_bind (listUpdate_at ha5 rfl ?_ (Nat.zero_le _) (by show (List.toArray _).size ≤ _; rw [List.size_toArray, List.length_map, Array.length_toList]; omega))
    rw [hf]
    simp only [bne_self_eq_false, Bool.false_eq_true, if_false]
    have I6 : Inv X pins σ H { s1 with heap := h5.update s1.heap.objs.size (Obj.mapSeq fun _ => List.toArray (p.toList.map fun i => vs.getD i Value.none)), toks := s1.toks } := I5.alter (s := { s1 with heap := h5, toks := s1.toks }) Wa ha5 (fun v z => by cases z) fun b u hb z => (hs2.2 b hb).trans z
    refine wpAny_pure (hP p _ hp hu (I6.track Wa (I6.cellne hg fun v z => by cases z) ?_))
    refine ⟨by rw [List.length_map, Array.length_toList]; omega, p.toList.map fun i => vs.getD i Value.none, c2, ?_, hg⟩
    exact vals_by rv p.toList fun i hi => List.mem_range.mp (hp.mem_iff.mp hi)
  dsimp only
  have fin : ∀ (p : Array Nat) s', LS.Pm vs.length p → LS.Up key p vs.length → Inv X pins σ (upd H s1.heap.objs.size (.lst (p.toList.map fun i => xs.getD i .non))) s' → EP X pins σ Q (.ref s1.heap.objs.size) s' := fun p s' hp hu J => ⟨.ref s1.heap.objs.size, _, J, rfl, h _ p Wa.free (by rw [lv]; exact hp) (by rw [lv]; exact hu)⟩
  by_cases h2 : vs.toArray.size < 2
  · rw [if_pos h2, if_pos h2]
    refine wpAny_bind (wpAny_pure ?_)
    rw [StateT.run_pure]
    refine wpAny_bind (wpAny_pure ?_)
    rw [List.size_toArray] at h2
    refine tail _ (fun p s' hp hu J => ⟨_, rfl, wpAny_pure ⟨_, rfl, fin p s' hp hu J⟩⟩) _ (List.toArray (List.range vs.length)) (by unfold LS.Pm; simp) (fun i j hij hj => ?_) ?_ rfl
    · have : i = j := by omega
      subst this
      exact KeyOrd.kle_refl _
    · have e := PySem.W.kas_range (vs.toArray.zip vs.toArray)
      rw [show (vs.toArray.zip vs.toArray).size = vs.length by simp] at e
      exact e.symm
  · rw [if_neg h2, if_neg h2]
    rw [List.size_toArray] at h2
    have hask' := hask _ vs I5 rv
    rw [lv] at hask'
    refine wpAny_bind (hkind _ vs _ _ I5 rv (by omega) ?_)
    rw [lv] at hS
    refine wpAny_bind (wpAny_mono (hS _ E κ _ vs vs rfl rfl (by omega) hask') ?_ fun _ _ z => z)
    rintro ⟨⟨⟩, st'⟩ s' ⟨rfl, p, q1, q2, q3, q4⟩
    exact tail _ (fun p s' hp hu J => ⟨_, rfl, wpAny_pure ⟨_, rfl, fin p s' hp hu J⟩⟩) st' p q1 q2.1 q3 q4
theorem sorted_pl {Q : VK} {E : Value → Shared → Prop} {a : Addr} {xs : List V} {κ : SortKind} {O : KeyOrd} {key : Nat → O.α} (hc : X.calm = true) (I : Inv X pins σ H s) (hx : Src X.K H a xs) (h64 : xs.length ≤ 100000) (hS : Sorts X.prog X.w key xs.length)
    (hkind : ∀ s' vs (E : Value → Shared → Prop) (Q' : SortKind → Shared → Prop), Inv X pins σ H s' → Vals xs vs → 2 ≤ xs.length → Q' κ s' → wpAny (model X.prog X.w) X.A.in1.in1 (keyKind' vs.toArray) Q' E s')
    (hask : ∀ s' vs, Inv X pins σ H s' → Vals xs vs → LS.Asks key xs.length (fun t => t = s') (PySem.W.kas_ask X.prog X.w X.A.in1.in1 κ vs))
    (h : ∀ l (p : Array Nat), H l = none → LS.Pm xs.length p → LS.Up key p xs.length → Q (.ref l) (upd H l (.lst (p.toList.map fun i => xs.getD i .non)))) :
    wpAny (model X.prog X.w) X.A (call (.builtin "sorted") [.ref a]) (EP X pins σ Q) E s := by
  exact sorted_gen (κ := κ) (O := O) hc (I.ok.hd hc) fun A E hA => collect_ok I hA hx (by omega) fun vs h1 tk rv k => ⟨xs, key, I.kept k, rv, h64, hS, hkind, hask, h⟩
end
end L2
set_option maxRecDepth 100000
namespace L2
open PySem PySem.Spec PyProof.Rows
section
variable {X : Cx}
theorem PFs.imp {ifs : List Expr} {t t' : TT} (h : PFs X ifs t) (hi : ∀ σ H Q, t' σ H Q → ∃ Q0 : Bool → Hp → Prop, t σ H Q0 ∧ ∀ b H', Q0 b H' → Q b H') : PFs X ifs t' := fun pins s σ H Q I q => by
  obtain ⟨Q0, h0, h1⟩ := hi σ H Q q
  exact thn (h pins s σ H Q0 I h0) fun b s1 ⟨H1, I1, q⟩ => ⟨H1, I1, h1 b H1 q⟩
noncomputable def oneC (tc : TT) (te : TE) (σ : St) (acc : List V) (N : Hp → List V → Prop) (H : Hp) : Prop := tc σ H fun b H3 => if b = true then te σ H3 fun y H4 => N H4 (acc ++ [y]) else N H3 acc
end
end L2
set_option maxRecDepth 100000
namespace L2
open PySem PySem.Spec PyProof.Rows
section
variable {P : Program} {w : World} {K : PySem.W.Frag} {tg : Expr}
end
section
variable {X : Cx} {tg : Expr}
end
end L2
set_option maxRecDepth 100000
namespace L2
open PySem PySem.Spec PyProof.Rows
section
variable {κ : Type} [DecidableEq κ]
noncomputable def valV (kvs : List (κ × V)) (k : κ) : Option V := (kvs.find? fun kv => decide (kv.1 = k)).map (·.2)
noncomputable def putK (kvs : List (κ × V)) (k : κ) (v : V) : List (κ × V) :=
  if (kvs.any fun kv => decide (kv.1 = k)) = true then kvs.map (fun kv => if kv.1 = k then (kv.1, v) else kv) else kvs ++ [(k, v)]
noncomputable def dropK (kvs : List (κ × V)) (k : κ) : List (κ × V) := kvs.filter fun kv => decide (kv.1 ≠ k)
theorem valV_pos {p : κ × V} {r : List (κ × V)} {k : κ} (e : p.1 = k) : valV (p :: r) k = some p.2 := by simp [valV, List.find?_cons, e]
theorem valV_neg {p : κ × V} {r : List (κ × V)} {k : κ} (e : ¬ p.1 = k) : valV (p :: r) k = valV r k := by simp [valV, List.find?_cons, e]
theorem valV_any (k : κ) : ∀ kvs : List (κ × V), (kvs.any fun kv => decide (kv.1 = k)) = (valV kvs k).isSome
  | [] => rfl
  | p :: r => by
    rw [List.any_cons]
    by_cases e : p.1 = k
    · simp only [valV_pos e, decide_eq_true e, Bool.true_or, Option.isSome_some]
    · rw [valV_neg e, decide_eq_false e, Bool.false_or]; exact valV_any k r
theorem length_putK (kvs : List (κ × V)) (k : κ) (v : V) : (putK kvs k v).length ≤ kvs.length + 1 := by
  unfold putK
  split
  · rw [List.length_map]; omega
  · rw [List.length_append, List.length_cons, List.length_nil]; omega
theorem putK_new {kvs : List (κ × V)} {k : κ} (v : V) (h : valV kvs k = none) : putK kvs k v = kvs ++ [(k, v)] := by
  unfold putK
  rw [valV_any, h]
  exact if_neg (by decide)
theorem RelO.isSome_eq {o : Option V} {u : Option Value} (r : RelO o u) : o.isSome = u.isSome := by
  cases o with
  | none => cases u with
    | none => rfl
    | some _ => exact (show False from r).elim
  | some _ => cases u with
    | none => exact (show False from r).elim
    | some _ => rfl
theorem RelO.getD {o : Option V} {u : Option Value} {d : V} {d' : Value} (r : RelO o u) (rd : RelV d d') : RelV (o.getD d) (u.getD d') := by
  cases o with
  | none => cases u with
    | none => exact rd
    | some _ => exact (show False from r).elim
  | some _ => cases u with
    | none => exact (show False from r).elim
    | some _ => exact r
theorem KV.val {kvs : List (κ × V)} {vs : List (κ × Value)} (r : KV kvs vs) (k : κ) : RelO (valV kvs k) (valueAt vs k) := by
  unfold KV at r
  induction r with
  | nil => exact True.intro
  | @cons p q ps qs h t ih =>
    obtain ⟨h1, h2⟩ := h
    by_cases e : p.1 = k
    · have e' : q.1 = k := h1.symm.trans e
      have b : valueAt (q :: qs) k = some q.2 := by simp [valueAt, List.find?_cons, e']
      rw [valV_pos e, b]; exact h2
    · have e' : ¬ q.1 = k := fun z => e (h1.trans z)
      have b : valueAt (q :: qs) k = valueAt qs k := by simp [valueAt, List.find?_cons, e']
      rw [valV_neg e, b]; exact ih
theorem KV.any {kvs : List (κ × V)} {vs : List (κ × Value)} (r : KV kvs vs) (k : κ) : (kvs.any fun kv => decide (kv.1 = k)) = vs.any fun kv => decide (kv.1 = k) := by
  unfold KV at r
  induction r with
  | nil => rfl
  | cons h t ih => rw [List.any_cons, List.any_cons, ih, h.1]
theorem KV.repl {kvs : List (κ × V)} {vs : List (κ × Value)} (r : KV kvs vs) (k : κ) {y : V} {u : Value} (ry : RelV y u) :
    KV (kvs.map fun kv => if kv.1 = k then (kv.1, y) else kv) (vs.map fun kv => if kv.1 = k then (kv.1, u) else kv) := by
  unfold KV at r ⊢
  induction r with
  | nil => exact .nil
  | @cons p q ps qs h t ih =>
    rw [List.map_cons, List.map_cons]
    refine .cons ?_ ih
    obtain ⟨h1, h2⟩ := h
    by_cases e : p.1 = k
    · rw [if_pos e, if_pos (h1.symm.trans e)]; exact ⟨h1, ry⟩
    · rw [if_neg e, if_neg (fun z => e (h1.trans z))]; exact ⟨h1, h2⟩
theorem KV.put {kvs : List (κ × V)} {vs : List (κ × Value)} (r : KV kvs vs) (k : κ) {y : V} {u : Value} (ry : RelV y u) : KV (putK kvs k y) (stored vs k u) := by
  unfold putK stored
  rw [r.any k]
  by_cases e : (vs.any fun kv => decide (kv.1 = k)) = true
  · rw [if_pos e, if_pos e]; exact r.repl k ry
  · rw [if_neg e, if_neg e]; exact Paired.snoc r ⟨rfl, ry⟩
theorem KV.drop {kvs : List (κ × V)} {vs : List (κ × Value)} (r : KV kvs vs) (k : κ) : KV (dropK kvs k) (without vs k) := by
  unfold KV at r ⊢
  unfold dropK without
  induction r with
  | nil => exact .nil
  | @cons p q ps qs h t ih =>
    obtain ⟨h1, h2⟩ := h
    rw [List.filter_cons, List.filter_cons]
    by_cases e : p.1 = k
    · have a : ¬ decide (p.1 ≠ k) = true := by simp [e]
      have b : ¬ decide (q.1 ≠ k) = true := by simp [h1.symm.trans e]
      rw [if_neg a, if_neg b]; exact ih
    · have e' : ¬ q.1 = k := fun z => e (h1.trans z)
      have a : decide (p.1 ≠ k) = true := by simp [e]
      have b : decide (q.1 ≠ k) = true := by simp [e']
      rw [if_pos a, if_pos b]; exact .cons ⟨h1, h2⟩ ih
theorem KV.length {kvs : List (κ × V)} {vs : List (κ × Value)} (r : KV kvs vs) : kvs.length = vs.length := Paired.length r
end
theorem kV_is {P : Program} {w : World} {k : Key} {u : Value} (r : RelV (kV k) u) : (mixKind P w).is k u = true := by
  cases k with
  | inl i => obtain ⟨t, e⟩ := (show ∃ t, u = Value.int i t from r); subst e; exact mixKind_int P w i t
  | inr x => obtain ⟨t, e⟩ := (show ∃ t, u = Value.str x t from r); subst e; exact mixKind_str P w x t
theorem items_are {P : Program} {w : World} : ∀ {ks : List Key} {us : List Value}, Vals (ks.map kV) us → ItemsAre (mixKind P w) ks us
  | [], _, r => by rw [List.map_nil] at r; cases r; exact .nil
  | k :: ks, _, r => by
    rw [List.map_cons] at r
    cases r with
    | cons h t => exact .cons (kV_is h) (items_are t)
abbrev KT (H : Hp) : List (List Key × V) → List (List Key × Addr × Value) → Prop := Paired fun p q => p.1 = q.1 ∧ H q.2.1 = some (.tup (p.1.map kV)) ∧ RelV p.2 q.2.2
theorem KT.val {H : Hp} {kvs : List (List Key × V)} {xs : List (List Key × Addr × Value)} (r : KT H kvs xs) (k : List Key) : RelO (valV kvs k) ((atKey xs k).map (·.2)) := by
  induction r with
  | nil => exact True.intro
  | @cons p q ps qs h t ih =>
    obtain ⟨h1, _, h2⟩ := h
    by_cases e : p.1 = k
    · have e' : q.1 = k := h1.symm.trans e
      have b : atKey (q :: qs) k = some q.2 := by simp [atKey, List.find?_cons, e']
      rw [valV_pos e, b]; exact h2
    · have e' : ¬ q.1 = k := fun z => e (h1.trans z)
      have b : atKey (q :: qs) k = atKey qs k := by simp [atKey, List.find?_cons, e']
      rw [valV_neg e, b]; exact ih
theorem KT.keeps {H H' : Hp} {kvs : List (List Key × V)} {xs : List (List Key × Addr × Value)} (r : KT H kvs xs) (ht : ∀ b ys, H b = some (.tup ys) → H' b = some (.tup ys)) : KT H' kvs xs :=
  Paired.mapP r fun _ _ z => ⟨z.1, ht _ _ z.2.1, z.2.2⟩
section
variable {P : Program} {w : World} {H : Hp} {h : Heap} {a : Addr}
theorem rd_of {u : HO} (ok : HOk P w H h) (e : Rd H a u) : ObjOk P w H h a u := e.ok ok
theorem dk_rd {kvs : List (Key × V)} (ok : HOk P w H h) (e : Rd H a (.dK kvs)) : kvs.length ≤ sizeLine ∧ (a == sysModules) = false ∧ ∃ vs, KV kvs vs ∧ h.DictOf (mixKind P w) a vs :=
  show ObjOk P w H h a (.dK kvs) from rd_of ok e
theorem dk_of {kvs : List (Key × V)} (ok : HOk P w H h) (e : H a = some (.dK kvs)) : kvs.length ≤ sizeLine ∧ (a == sysModules) = false ∧ ∃ vs, KV kvs vs ∧ h.DictOf (mixKind P w) a vs := dk_rd ok (.inl e)
theorem key_of {ks : List Key} (ok : HOk P w H h) (e : H a = some (.tup (ks.map kV))) : (tupleKind (mixKind P w)).is h ks a := by
  obtain ⟨_, its, r, o, h1, h2, n, h3⟩ := (show ObjOk P w H h a (.tup (ks.map kV)) from ok a _ e)
  exact ⟨o, its.toArray, n, h1, h2, h3, by simpa using items_are r⟩
theorem dt_rd {kvs : List (List Key × V)} (ok : HOk P w H h) (e : Rd H a (.dT kvs)) : kvs.length ≤ sizeLine ∧ (a == sysModules) = false ∧
    ∃ xs, KT H kvs xs ∧ h.DictOfH (tupleKind (mixKind P w)) a xs := by
  exact False.elim (show ObjOk P w H h a (.dT kvs) from rd_of ok e)
end
noncomputable def DGet (H : Hp) (a : Addr) (y : V) (r : Option V) : Prop :=
  (∃ kvs k, Rd H a (.dK kvs) ∧ y = kV k ∧ r = valV kvs k) ∨ ∃ kvs k b, Rd H a (.dT kvs) ∧ y = .ref b ∧ H b = some (.tup (k.map kV)) ∧ r = valV kvs k
noncomputable def DPut (H : Hp) (a : Addr) (y v : V) (H' : Hp) : Prop :=
  (∃ kvs k, H a = some (.dK kvs) ∧ y = kV k ∧ kvs.length < sizeLine ∧ H' = upd H a (.dK (putK kvs k v))) ∨
  ∃ kvs k b, H a = some (.dT kvs) ∧ y = .ref b ∧ H b = some (.tup (k.map kV)) ∧ kvs.length < sizeLine ∧ H' = upd H a (.dT (putK kvs k v))
theorem DGet.k {H : Hp} {a : Addr} {kvs : List (Key × V)} {k : Key} (e : H a = some (.dK kvs)) : DGet H a (kV k) (valV kvs k) := .inl ⟨kvs, k, .inl e, rfl, rfl⟩
theorem DGet.t {H : Hp} {a b : Addr} {kvs : List (List Key × V)} {k : List Key} (e : H a = some (.dT kvs)) (eb : H b = some (.tup (k.map kV))) : DGet H a (.ref b) (valV kvs k) := .inr ⟨kvs, k, b, .inl e, rfl, eb, rfl⟩
theorem DPut.k {H : Hp} {a : Addr} {kvs : List (Key × V)} {k : Key} {v : V} (e : H a = some (.dK kvs)) (hl : kvs.length < sizeLine) : DPut H a (kV k) v (upd H a (.dK (putK kvs k v))) := .inl ⟨kvs, k, e, rfl, hl, rfl⟩
theorem DPut.t {H : Hp} {a b : Addr} {kvs : List (List Key × V)} {k : List Key} {v : V} (e : H a = some (.dT kvs)) (eb : H b = some (.tup (k.map kV))) (hl : kvs.length < sizeLine) :
    DPut H a (.ref b) v (upd H a (.dT (putK kvs k v))) := .inr ⟨kvs, k, b, e, rfl, eb, hl, rfl⟩
section
variable {X : Cx} {pins : List (Addr × Obj)} {σ : St} {H : Hp} {s : Shared} {a : Addr} {y v : V} {u r : Value} {o : Option V} {A : Around} {E : Value → Shared → Prop}
theorem Inv.big (I : Inv X pins σ H s) : sysModules < s.heap.objs.size := by
  have h : mainGlobals < s.heap.objs.size := (I.mod.glob.keeps I.bk).lt
  exact Nat.lt_trans (by decide) h
theorem d_in {Q : Value → Shared → Prop} (hu : A.units + 1 < cLine) (I : Inv X pins σ H s) (g : DGet H a y o) (ry : RelV y u) (h : ∀ s', Inv X pins σ H s' → Q (.bool o.isSome) s') :
    wpAny (model X.prog X.w) A (compareOp .In u (.ref a)) Q E s := by
  rcases g with ⟨kvs, k, e, ey, l⟩ | ⟨kvs, k, b, e, ey, eb, l⟩
  · subst ey
    obtain ⟨z, hd, vs, rel, dd⟩ := dk_rd I.hok e
    refine wpAny_in_of (kV_is ry) hd dd.mapOf ?_
    rw [← (rel.val k).isSome_eq, ← l]
    exact h _ (I.tok _)
  · subst ey
    cases (show u = Value.ref b from ry)
    obtain ⟨z, hd, xs, rel, dd⟩ := dt_rd I.hok e
    refine wpAny_in_heap (tupleKind_room_in1 hu) (key_of I.hok eb) hd dd ?_
    have q := (rel.val k).isSome_eq
    rw [Option.isSome_map] at q
    rw [← q, ← l]
    exact h _ (I.tok _)
theorem d_write {h' : Heap} {t' : Nat} {ob : HO} (I : Inv X pins σ H s) (mu : Mut (H a)) (hs : Heap.SameBut a s.heap h') (he : ∃ q, h'.get? a = some q) (new : ObjOk X.prog X.w (upd H a ob) h' a ob) :
    Inv X pins σ (upd H a ob) { s with heap := h', toks := t' } :=
  I.write (x := a) (e := a) mu (.inl rfl) (fun b q hb z => (hs.2 b hb).trans z) he new
theorem dk_new {P : Program} {w : World} {H' : Hp} {h' : Heap} {kvs : List (Key × V)} {vs : List (Key × Value)} (z : kvs.length ≤ sizeLine) (hd : (a == sysModules) = false) (rel : KV kvs vs) (dd : h'.DictOf (mixKind P w) a vs) :
    ObjOk P w H' h' a (.dK kvs) := ⟨z, hd, vs, rel, dd⟩
theorem d_setItem {H' : Hp} {Q : Unit → Shared → Prop} (hu : A.units + 1 < cLine) (I : Inv X pins σ H s) (g : DPut H a y v H') (ry : RelV y u) (rv : RelV v r) (h : ∀ s', Inv X pins σ H' s' → Q () s') :
    wpAny (model X.prog X.w) A (setItem (.ref a) u r) Q E s := by
  rcases g with ⟨kvs, k, e, ey, l, eH⟩ | ⟨kvs, k, b, e, ey, eb, l, eH⟩
  · subst ey eH
    obtain ⟨z, hd, vs, rel, dd⟩ := dk_of I.hok e
    have hz : vs.length ≤ sizeLine := by rw [← rel.length]; exact z
    have hl : (putK kvs k v).length ≤ sizeLine := by have := length_putK kvs k v; omega
    refine wpAny_setItem_pairs (hsz := hz) (kV_is ry) dd fun h' dd' hs => h _ ?_
    have he : ∃ q, h'.get? a = some q := let ⟨q, _, _, hq, _⟩ := dd'; ⟨q, hq⟩
    exact d_write I (by rw [e]; exact True.intro) hs he (dk_new hl hd (rel.put k rv) dd')
  · exact False.elim (show ObjOk X.prog X.w H s.heap a (.dT kvs) from I.hok a _ e)
end
section
variable {X : Cx} {pins : List (Addr × Obj)} {σ : St} {H : Hp} {s : Shared} {a : Addr} {kvs : List (Key × V)} {k : Key} {u : Value} {A : Around} {E : Value → Shared → Prop}
end
noncomputable def tDIn (ty td : TE) : TE := fun σ H Q => ty σ H fun y H1 => td σ H1 fun x H2 => ∃ a o, x = .ref a ∧ DGet H2 a y o ∧ Q (.bl o.isSome) H2
noncomputable def sDPut (td ty tv : TE) : TS := fun D σ H => tv σ H fun v H1 => td σ H1 fun x H2 => ty σ H2 fun y H3 => ∃ a H4, x = .ref a ∧ DPut H3 a y v H4 ∧ D.nx σ H4
section
variable {X : Cx} {o i e value : Expr} {pos pos' tpos : Pos} {td ty tv : TE}
theorem pc_din (hu : X.A.units + 1 < cLine) (hi : PE X i ty) (ho : PE X o td) : PC X .In i o (tDIn ty td) := by
  intro pins s σ H Q I h
  refine thn (hi pins s σ H _ I h) fun iv s1 ⟨y, H1, I1, ry, q1⟩ => thn (ho pins s1 σ H1 _ I1 q1) fun u s2 ⟨x, H2, I2, rx, a, ov, ex, g, q2⟩ => ?_
  subst ex
  obtain rfl : u = Value.ref a := rx
  exact d_in hu I2 g ry fun s3 I3 => ⟨.bl ov.isSome, H2, I3, rfl, q2⟩
theorem ps_dput (hu : X.A.units + 1 < cLine) (ho : PE X o td) (hi : PE X i ty) (hv : PE X value tv) (hs : swapsWith value (some (.Subscript o i pos')) pos.line X.env = pure false) :
    PS X (.Assign [.Subscript o i pos'] value pos) (sDPut td ty tv) := by
  intro pins s σ H D I h
  refine wpAny_Assign_Subscript (thn (hv pins s σ H _ I h) fun r s1 ⟨v, H1, I1, rv, q1⟩ => thn (ho pins s1 σ H1 _ I1 q1) fun u s2 ⟨x, H2, I2, rx, q2⟩ => thn (hi pins s2 σ H2 _ I2 q2) fun iv s3 ⟨y, H3, I3, ry, a, H4, ex, g, q3⟩ => ?_) hs
  subst ex
  obtain rfl : u = Value.ref a := rx
  exact d_setItem hu I3 g ry rv fun s4 I4 => ⟨σ, H4, I4, q3⟩
end
theorem dk_empty {P : Program} {w : World} {H : Hp} (h : Heap) (hb : sysModules < h.objs.size) : ObjOk P w H (h.push { cls := .type "dict", data := .dict #[] }) h.objs.size (.dK []) :=
  ⟨Nat.zero_le _, beq_eq_false_iff_ne.mpr (Ne.symm (Nat.ne_of_lt hb)), [], .nil, Heap.DictOf.new h⟩
noncomputable def tDNewK : TE := fun _ H Q => ∀ p, H p = none → Q (.ref p) (upd H p (.dK []))
section
variable {X : Cx} {pos : Pos}
theorem pe_dnewK : PE X (.Dict [] [] pos) tDNewK := fun pins s σ H Q I h =>
  wpAny_Dict_empty ⟨.ref s.heap.objs.size, _, I.laid (a := s.heap.objs.size) (o := .dK []) (t' := s.toks) (fun _ _ q => Heap.get?_push_of_some _ q) (Nat.le_refl _) (dk_empty s.heap I.big), rfl, h _ (I.hok.fresh (Nat.le_refl _))⟩
end
structure M1 (X : Cx) (o : Expr) (m : Str) (apos : Pos) (e : Expr) (cpos : Pos) : Prop where
  base : attributeBase o m X.env (eval o X.env) = eval o X.env
  few : ((backTo cpos (starEach [e] X.env)).all (fun x => !x.1) && (backToKw cpos (keywordEach [] X.env)).all (fun x => x.1.isSome)
    && decide (([e] : List Expr).length + ([] : List Keyword).length + (if ([] : List Keyword).isEmpty then 0 else 1) < 30)) = true
  line : (apos.endLine == cpos.line) = true
  trees : backTo cpos (starEach [e] X.env) = [(false, eval e X.env)]
structure M2 (X : Cx) (o : Expr) (m : Str) (apos : Pos) (e f : Expr) (cpos : Pos) : Prop where
  base : attributeBase o m X.env (eval o X.env) = eval o X.env
  few : ((backTo cpos (starEach [e, f] X.env)).all (fun x => !x.1) && (backToKw cpos (keywordEach [] X.env)).all (fun x => x.1.isSome)
    && decide (([e, f] : List Expr).length + ([] : List Keyword).length + (if ([] : List Keyword).isEmpty then 0 else 1) < 30)) = true
  line : (apos.endLine == cpos.line) = true
  trees : backTo cpos (starEach [e, f] X.env) = [(false, eval e X.env), (false, eval f X.env)]
section
variable {X : Cx} {pins : List (Addr × Obj)} {σ : St} {H : Hp} {s : Shared} {a : Addr} {y d : V} {u r : Value} {o : Option V} {A : Around} {E : Value → Shared → Prop}
end
section
variable {X : Cx} {o e f : Expr} {apos cpos : Pos} {td ty tx : TE}
end
section
variable {X : Cx} {pins : List (Addr × Obj)} {σ : St} {H : Hp} {s : Shared} {a : Addr} {kvs : List (Key × V)} {A : Around} {E : Value → Shared → Prop}
end
section
variable {X : Cx} {pins : List (Addr × Obj)} {σ : St} {H : Hp} {s : Shared} {a : Addr} {y : V} {u : Value} {A : Around} {E : Value → Shared → Prop}
end
end L2
namespace L2
open PySem PySem.Spec PyProof.Rows
section
variable {κ : Type} [DecidableEq κ]
end
end L2
set_option maxRecDepth 100000
namespace LP
open PySem L2
theorem cut_from {α : Type} (l : List α) (i : Nat) : cut l (some (i : Int)) none = l.drop i := by
  unfold cut
  show (l.drop (if (i : Int) < 0 then ((i : Int) + (l.length : Int)).toNat else min (i : Int).toNat l.length)).take (l.length - (if (i : Int) < 0 then ((i : Int) + (l.length : Int)).toNat else min (i : Int).toNat l.length)) = l.drop i
  rw [if_neg (by omega), Int.toNat_natCast]
  by_cases h : i ≤ l.length
  · rw [Nat.min_eq_left h, List.take_of_length_le (by rw [List.length_drop]; omega)]
  · rw [Nat.min_eq_right (by omega), List.drop_eq_nil_of_le (Nat.le_refl _), List.drop_eq_nil_of_le (by omega)]
    simp
theorem getD_range {α : Type} (f : Nat → α) {m i : Nat} (d : α) (h : i < m) : ((List.range m).map f).getD i d = f i := by
  rw [List.getD_eq_getElem?_getD, List.getElem?_map, List.getElem?_range h]
  rfl
theorem drop_inj {α : Type} {l : List α} {i j : Nat} (hi : i ≤ l.length) (hj : j ≤ l.length) (h : l.drop i = l.drop j) : i = j := by
  have := congrArg List.length h
  rw [List.length_drop, List.length_drop] at this
  omega
theorem rng_nat (n : Nat) : rngL 0 ((n : Int) + 1) = (List.range (n + 1)).map fun j : Nat => V.int j := by
  unfold rngL
  rw [show (((n : Int) + 1) - 0).toNat = n + 1 by omega]
  refine List.map_congr_left fun j _ => ?_
  rw [Int.zero_add]
end LP
set_option maxRecDepth 100000
namespace L2
open PySem PySem.Spec PyProof.Rows
structure Md (P : Program) (w : World) (K : PySem.W.Frag) (mg : Str → Option Value) (base : Heap) (CX : CXT) (k : Nat) (C : Addr) (m : Str) (ps : List Str) (dvs : List V) (sp : Sp) : Prop where
  ex : ∃ f fd ds, FnOk P w K mg base CX k f fd ps sp ∧ Meth K C m f ∧ Binds K fd ps ds ∧ Vals dvs ds
  cls : Cls K C
structure Mkr (P : Program) (w : World) (K : PySem.W.Frag) (mg : Str → Option Value) (base : Heap) (CX : CXT) (k : Nat) (x : Str) (C : Addr) (ps : List Str) (dvs : List V) (sp : Sp) : Prop where
  ex : ∃ f fd ds, FnOk P w K mg base CX k f fd ps sp ∧ Mk K C f ∧ Binds K fd ps ds ∧ Vals dvs ds
  at_ : mg x = some (.ref C)
section
variable {P : Program} {w : World} {K : PySem.W.Frag} {mg : Str → Option Value} {base : Heap} {CX : CXT} {j k : Nat} {C : Addr} {x m : Str} {ps : List Str} {dvs : List V} {sp : Sp}
theorem Md.mono (M : Md P w K mg base CX j C m ps dvs sp) (h : j ≤ k) : Md P w K mg base CX k C m ps dvs sp := by
  obtain ⟨f, fd, ds, F, r⟩ := M.ex
  exact ⟨⟨f, fd, ds, F.mono h, r⟩, M.cls⟩
theorem Mkr.mono (M : Mkr P w K mg base CX j x C ps dvs sp) (h : j ≤ k) : Mkr P w K mg base CX k x C ps dvs sp := by
  obtain ⟨f, fd, ds, F, r⟩ := M.ex
  exact ⟨⟨f, fd, ds, F.mono h, r⟩, M.at_⟩
theorem quietX {f : Addr} {fd : FuncData} (F : FnOk P w K mg base (CX1 P w) k f fd ps sp) : FnOk P w K mg base CX0 k f fd ps (fun vs H Q _ => sp vs H Q E0) := by
  refine ⟨fun vs H Q E h => F.len vs H Q E0 h, fun A outer s H args us vs Q E hr e0 hb rv h => ?_⟩
  refine codeAny_mono (F.run A outer s H args us vs Q E0 hr e0 hb rv h) fun r s' q => ?_
  cases r with
  | error e => exact (cx1_none q).elim
  | ok fl => cases fl <;> exact q
theorem Md.quiet (M : Md P w K mg base (CX1 P w) k C m ps dvs sp) : Md P w K mg base CX0 k C m ps dvs (fun vs H Q _ => sp vs H Q E0) := by
  obtain ⟨f, fd, ds, F, r⟩ := M.ex
  exact ⟨⟨f, fd, ds, quietX F, r⟩, M.cls⟩
theorem Mkr.quiet (M : Mkr P w K mg base (CX1 P w) k x C ps dvs sp) : Mkr P w K mg base CX0 k x C ps dvs (fun vs H Q _ => sp vs H Q E0) := by
  obtain ⟨f, fd, ds, F, r⟩ := M.ex
  exact ⟨⟨f, fd, ds, quietX F, r⟩, M.at_⟩
end
section
variable {X : Cx} {k : Nat} {C : Addr} {x m : Str} {ps : List Str} {dvs : List V} {sp : Sp} {o e : Expr} {es : List Expr} {ta : TE} {t : TA} {p pos apos : Pos}
variable {F : St → XK}
theorem Tk.at {σ : St} (T : Tk X F) : ∀ (pins : List (Addr × Obj)) (H : Hp) (s : Shared) (e : Value) (s' : Shared), Inv X pins σ H s → CX1 X.prog X.w X.stack H s (F σ) e s' → X.xe e s' := fun pins H s e s' I h => T.pass pins σ H s e s' I h
end
end L2
set_option maxRecDepth 100000
namespace L2
open PySem PySem.Spec PyProof.Rows
structure RoomW (k : Nat) (A : Around) : Prop where
  dp : A.depth + 3 * k + 5 < recursionLimit
  un : A.units + 16 * k + 200 < cLine
theorem RoomW.mono {j k : Nat} {A : Around} (r : RoomW k A) (h : j ≤ k) : RoomW j A := ⟨by have := r.dp; omega, by have := r.un; omega⟩
theorem RoomW.deeper {k : Nat} {A : Around} (r : RoomW (k + 1) A) (env : Env) : RoomW k (A.deeper env) :=
  ⟨by have := r.dp; show A.depth + 1 + 3 * k + 5 < _; omega, by have := r.un; show A.units + 3 + 16 * k + 200 < _; omega⟩
structure FnW (P : Program) (w : World) (K : PySem.W.Frag) (mg : Str → Option Value) (base : Heap) (k : Nat) (f : Addr) (fd : FuncData) (ps : List Str) (sp : Sp) : Prop where
  len : ∀ vs H Q E, sp vs H Q E → vs.length = ps.length
  run : ∀ (A : Around) (outer : List Env) (s : Shared) (H : Hp) (args : Args) (us : List Value) (vs : List V) (Q : VK), RoomW k A → Env0 P w K mg base A outer s H → BindsTo s fd args (ps.zip us) → Vals vs us → sp vs H Q E0 →
    codeAny (model P w) A (.call (.ref f) args) (CR CX0 outer P w H s Q E0) s
section
variable {P : Program} {w : World} {K : PySem.W.Frag} {mg : Str → Option Value} {base : Heap}
end
structure FnV (P : Program) (w : World) (K : PySem.W.Frag) (mg : Str → Option Value) (base : Heap) (k : Nat) (x : Str) (ps : List Str) (sp : Sp) : Prop where
  ex : ∃ f fd, FnW P w K mg base k f fd ps sp ∧ mg x = some (.ref f) ∧ PySem.W.keepIn K (.ref f) = true ∧ Binds K fd ps []
section
variable {X : Cx} {k : Nat} {x : Str} {ps : List Str} {sp : Sp} {p pos : Pos} {e : Expr} {es : List Expr} {t : TA}
end
end L2
set_option maxRecDepth 100000
namespace L2
open PySem PySem.Spec PyProof.Rows
noncomputable def tCutS (t : TS) : TS := fun D σ H => ∃ N : St → Hp → Prop, t { nx := N, rt := D.rt, bk := D.bk, ct := D.ct } σ H ∧ ∀ σ' H', N σ' H' → D.nx σ' H'
theorem cutS {t : TS} {D : Ends} {σ : St} {H : Hp} (N : St → Hp → Prop) (h1 : t { nx := N, rt := D.rt, bk := D.bk, ct := D.ct } σ H) (h2 : ∀ σ' H', N σ' H' → D.nx σ' H') : tCutS t D σ H := ⟨N, h1, h2⟩
theorem ps_cut {X : Cx} {st : Stmt} {t : TS} (h : PS X st t) : PS X st (tCutS t) := by
  rintro pins s σ H D I ⟨N, q, hn⟩
  refine thn (h pins s σ H _ I q) fun f s1 z => ?_
  cases f with
  | next => obtain ⟨σ1, H1, I1, q⟩ := z; exact ⟨σ1, H1, I1, hn _ _ q⟩
  | brk => exact z
  | cont => exact z
  | ret u => exact z
end L2
namespace LP
end LP
namespace LP
open PySem L2
end LP
set_option maxRecDepth 100000
namespace L2
open PySem PySem.Spec PyProof.Rows
section
variable {X : Cx}
end
end L2
set_option maxRecDepth 100000
namespace LO
theorem ordI (t : List Nat) : ((ord t).map fun i : Nat => L2.V.int i) = ((ord t).map fun i : Nat => (i : Int)).map L2.V.int := by
  rw [List.map_map]
  rfl
end LO
set_option maxRecDepth 100000
namespace L2
open PySem PySem.Spec PyProof.Rows
inductive EqT (K : PySem.W.Frag) (H : Hp) : Nat → V → V → Prop
  | flat {n : Nat} {x y : V} (hx : flatV x = true) (hy : flatV y = true) (h : eqV x y = true) : EqT K H n x y
  | same {n : Nat} (a : Addr) : EqT K H n (.ref a) (.ref a)
  | tup {n : Nat} {a b : Addr} {xs ys : List V} (ha : SqT K H a xs) (hb : SqT K H b ys) (hl : xs.length = ys.length) (h : ∀ (j : Nat) (x y : V), xs[j]? = some x → ys[j]? = some y → EqT K H n x y) : EqT K H (n + 1) (.ref a) (.ref b)
  | lst {n : Nat} {a b : Addr} {xs ys : List V} (ha : SqL K H a xs) (hb : SqL K H b ys) (hl : xs.length = ys.length) (h : ∀ (j : Nat) (x y : V), xs[j]? = some x → ys[j]? = some y → EqT K H n x y) : EqT K H (n + 1) (.ref a) (.ref b)
section
variable {X : Cx} {pins : List (Addr × Obj)} {σ : St} {H : Hp} {s : Shared}
theorem vals_pair {xs ys : List V} {us vs : List Value} (r1 : Vals xs us) (r2 : Vals ys vs) (j : Nat) (h1 : j < us.length) (h2 : j < vs.length) : ∃ x y, xs[j]? = some x ∧ ys[j]? = some y ∧ RelV x us[j] ∧ RelV y vs[j] := by
  have l1 := r1.length
  have l2 := r2.length
  have e1 : xs[j]? = some xs[j] := by simp [l1, h1]
  have e2 : ys[j]? = some ys[j] := by simp [l2, h2]
  obtain ⟨u, hu, ru⟩ := r1.get e1
  obtain ⟨v, hv, rv⟩ := r2.get e2
  rw [List.getElem?_eq_getElem h1] at hu
  rw [List.getElem?_eq_getElem h2] at hv
  have hu := Option.some.inj hu
  have hv := Option.some.inj hv
  subst hu hv
  exact ⟨_, _, e1, e2, ru, rv⟩
theorem all_true (n : Nat) : (List.range n).all (fun _ => true) = true := by
  rw [List.all_eq_true]
  intro _ _
  rfl
theorem EqT.at (I : Inv X pins σ H s) {n : Nat} {x y : V} (h : EqT X.K H n x y) : ∀ {A : Around} {u v : Value}, RelV x u → RelV y v → A.units + n < cLine → SeqAt.EqAt A s u v true := by
  induction h with
  | flat hx hy h =>
    intro A u v ru rv _
    have := eqAt_V (A := A) (s := s) ru rv hx hy
    rwa [h] at this
  | same a =>
    intro A u v ru rv _
    obtain rfl : u = Value.ref a := ru
    obtain rfl : v = Value.ref a := rv
    exact SeqAt.EqAt.same _
  | @tup n a b xs ys ha hb hl h ih =>
    intro A u v ru rv hu
    obtain rfl : u = Value.ref a := ru
    obtain rfl : v = Value.ref b := rv
    by_cases hab : a = b
    · subst hab
      exact SeqAt.EqAt.same _
    obtain ⟨its, r1, p1, z1⟩ := I.tuple ha
    obtain ⟨ist, r2, p2, z2⟩ := I.tuple hb
    have l1 := r1.length
    have l2 := r2.length
    have := SeqAt.RcAt.tuples (A := A) (e := fun _ => true) p1 p2 (by omega) fun j h1 h2 => by
      obtain ⟨x, y, e1, e2, rx, ry⟩ := vals_pair r1 r2 j (by simpa using h1) (by simpa using h2)
      exact ih j x y e1 e2 rx ry (by rw [Around.in1_units]; omega)
    rw [all_true, show (its.toArray.size == ist.toArray.size) = true by simp; omega] at this
    exact SeqAt.EqAt.of_refs hab this
  | @lst n a b xs ys ha hb hl h ih =>
    intro A u v ru rv hu
    obtain rfl : u = Value.ref a := ru
    obtain rfl : v = Value.ref b := rv
    by_cases hab : a = b
    · subst hab
      exact SeqAt.EqAt.same _
    obtain ⟨its, r1, p1, z1⟩ := I.list ha
    obtain ⟨ist, r2, p2, z2⟩ := I.list hb
    have l1 := r1.length
    have l2 := r2.length
    have := SeqAt.RcAt.lists (A := A) (e := fun _ => true) p1.isList p2.isList (by simp; omega) (by omega) fun j h1 h2 => by
      obtain ⟨x, y, e1, e2, rx, ry⟩ := vals_pair r1 r2 j (by simpa using h1) (by simpa using h2)
      exact ih j x y e1 e2 rx ry (by rw [Around.in1_units]; omega)
    rw [all_true] at this
    exact SeqAt.EqAt.of_refs hab this
end
section
variable {X : Cx}
end
end L2
set_option maxRecDepth 100000
namespace LP
open PySem L2
noncomputable def flat (rs : List (Nat × Nat)) : List Nat := (rs.map fun r => List.replicate r.2 r.1).flatten
structure GoodR (rs : List (Nat × Nat)) : Prop where
  pos : ∀ r ∈ rs, 1 ≤ r.2
  ne : ∀ (j : Nat) (a b : Nat × Nat), rs[j]? = some a → rs[j + 1]? = some b → a.1 ≠ b.1
noncomputable def SameT (H H' : Hp) : Prop := ∀ t xs, H t = some (.tup xs) → H' t = some (.tup xs)
theorem SameT.trans {H1 H2 H3 : Hp} (a : SameT H1 H2) (b : SameT H2 H3) : SameT H1 H3 := fun t xs h => b t xs (a t xs h)
end LP
set_option maxRecDepth 100000
namespace L2
open PySem PySem.Spec PyProof.Rows
section
variable {X : Cx} {es : List Expr} {k : Nat} {tp : Pos}
abbrev g2 (K : PySem.W.Frag) (i j : Nat) : TG := gTup K 2 (gCons (gName i) (gCons (gName j) gNil))
section
variable {elt iter : Expr} {ifs : List Expr} {u v : Str} {pu pv : Pos} {scope : Scope} {pos : Pos} {cl : List (Str × Addr)} {own : List Str} {cp : List (Str × Nat)} {ta : TA} {tl : TE} {tc : TT} {te : TE}
end
end
end L2
set_option maxRecDepth 100000
namespace L2
open PySem PySem.Spec PyProof.Rows
section
variable {X : Cx}
end
end L2
namespace L2
end L2
namespace L2
open PySem
theorem bk_same {P : Addr} {pos : Pos} {q : Str} {H H' : Hp} (h : Bk P pos q H) (sm : Same H H') : Bk P pos q H' := by
  rcases h with h | ⟨c', h1, h2⟩
  · exact .inl (sm _ _ h)
  · exact .inr ⟨c', sm _ _ h1, sm _ _ h2⟩
theorem bk_lst {P : Addr} {pos : Pos} {q : Str} {H : Hp} {a : Addr} {xs : List V} {o : HO} (h : Bk P pos q H) (hl : H a = some (.lst xs)) : Bk P pos q (upd H a o) := by
  rcases h with h | ⟨c', h1, h2⟩
  · have : P ≠ a := by rintro rfl; rw [h] at hl; cases hl
    exact .inl ((upd_ne this).trans h)
  · have n1 : P ≠ a := by rintro rfl; rw [h1] at hl; cases hl
    have n2 : c' ≠ a := by rintro rfl; rw [h2] at hl; cases hl
    exact .inr ⟨c', (upd_ne n1).trans h1, (upd_ne n2).trans h2⟩
end L2
namespace LO
end LO
set_option maxRecDepth 100000
namespace LO
theorem com_le (a b : List Nat) : LW.com a b ≤ a.length := by
  induction a generalizing b with
  | nil => exact Nat.zero_le _
  | cons x r ih =>
    cases b with
    | nil => exact Nat.zero_le _
    | cons y q =>
      unfold LW.com
      split
      · have := ih q
        simp only [List.length_cons]
        omega
      · exact Nat.zero_le _
end LO
namespace LO
open LW L2
theorem take_com : ∀ (x y : List Nat) (m : Nat), m ≤ com x y → x.take m = y.take m
  | _, _, 0, _ => by simp
  | [], y, m + 1, h => by have : com [] y = 0 := by cases y <;> rfl
                          omega
  | a :: x, [], m + 1, h => by have : com (a :: x) [] = 0 := rfl
                               omega
  | a :: x, b :: y, m + 1, h => by
    unfold com at h
    by_cases hab : a = b
    · rw [if_pos hab] at h
      rw [List.take_succ_cons, List.take_succ_cons, hab, take_com x y m (by omega)]
    · rw [if_neg hab] at h
      omega
noncomputable def en (t : List Nat) (k : Nat) : List Nat := t.drop ((ord t).getD k 0)
end LO
namespace L2
end L2
set_option maxRecDepth 100000
namespace LO
open LW L2
end LO
set_option maxRecDepth 100000
namespace L2
open PySem
section
variable {X : Cx}
end
end L2
set_option maxRecDepth 100000
namespace L2
open PySem PySem.Spec PyProof.Rows
noncomputable def TabOk (w : World) (t : SetTable) (n : Nat) : Prop := (w.params.followText "set-order" = false → t.led = true) ∧ (0 < n → t.plain = false)
abbrev sObj (es : Array (Int × Value)) (ep : Nat) (t : SetTable) : Obj := { cls := .type "set", dict := none, data := .set es ep t }
noncomputable def SetStr (prog : Program) (w : World) (h : Heap) (a : Addr) (S : Str → Bool) (n : Nat) : Prop :=
  ∃ es ep t, h.get? a = some (sObj es ep t) ∧ ElemsOf (PySem.strKind prog w) es.toList ∧ (∀ k, S k = true ↔ ∃ e ∈ es.toList, (PySem.strKind prog w).is k e.2 = true) ∧ es.size < scanBound ∧ t.fits es.size = true ∧ es.size = n ∧ TabOk w t es.size
theorem orStand_led (t : SetTable) (n : Nat) : (t.orStandIn n).led = t.led ∧ (t.plain = false → (t.orStandIn n).plain = false) := by
  unfold SetTable.orStandIn
  split
  · exact ⟨rfl, id⟩
  · exact ⟨rfl, fun _ => rfl⟩
theorem lay_led (t : SetTable) (es : Array (Int × Value)) (h : Int) (x : Value) : (layNew t es h x).2.1.led = t.led ∧ (t.plain = false → (layNew t es h x).2.1.plain = false) := by
  unfold layNew
  split
  · rename_i slot wd _
    have := orStand_led (t.put slot).1 (SetTable.insertAt es (t.put slot).2 (h, x)).size
    exact ⟨this.1.trans rfl, fun z => this.2 z⟩
  · exact ⟨rfl, fun _ => rfl⟩
theorem relaid_led {t t' : SetTable} {hs : Array Int} {n : Nat} {order : Array Nat} (h : t.relaid hs n = some (t', order)) : t'.led = t.led ∧ t'.plain = t.plain := by
  unfold SetTable.relaid SetTable.laid at h
  simp only [Option.bind_eq_bind, Option.bind_eq_some_iff, Option.pure_def, Option.some.injEq, Prod.mk.injEq] at h
  obtain ⟨_, _, e, _⟩ := h
  rw [← e]
  exact ⟨rfl, rfl⟩
theorem relay_led (t : SetTable) (es : Array (Int × Value)) (n : Nat) : (relayAll t es n).2.1.led = t.led ∧ (t.plain = false → (relayAll t es n).2.1.plain = false) := by
  unfold relayAll
  split
  · rename_i t' order e
    have := relaid_led e
    dsimp only
    split
    · exact ⟨this.1, fun z => this.2.trans z⟩
    · exact ⟨rfl, fun _ => rfl⟩
  · exact ⟨rfl, fun _ => rfl⟩
section
variable {prog : Program} {w : World} {A : Around} {E : Value → Shared → Prop} {s : Shared}
theorem store_at {h : Heap} {a : Addr} {es es' : Array (Int × Value)} {ep : Nat} {t t' : SetTable} (ho : h.get? a = some (sObj es ep t)) : (h.update a (Obj.putSet es' t')).get? a = some (sObj es' (ep + 1) t') := by
  have e := putSet_of (o := sObj es ep t) es' t' rfl
  have g := Heap.get?_update_self (Obj.putSet es' t') ho (by rw [e]; rfl)
  rw [e] at g
  exact g
theorem tail_str {g : Bool → Sem Unit} (gok : ∀ (b : Bool) (z : Shared) (R : Unit → Shared → Prop), R () z → wpAny (model prog w) A (g b) R E z) {a : Addr} {es : Array (Int × Value)} {ep : Nat} {t : SetTable} (ho : s.heap.get? a = some (sObj es ep t))
    {fs : Array (Int × Value)} {u : SetTable} {S' : Str → Bool} (el : ElemsOf (PySem.strKind prog w) fs.toList) (mem : ∀ k, S' k = true ↔ ∃ e ∈ fs.toList, (PySem.strKind prog w).is k e.2 = true) (small : fs.size < scanBound) (fit : u.fits fs.size = true) (tab : TabOk w u fs.size)
    {wd : Bool} {R : Option Bool → Shared → Prop} (fin : ∀ h', Heap.SameBut a s.heap h' → SetStr prog w h' a S' fs.size → R (some true) { s with heap := h' }) :
    wpAny (model prog w) A (do
        storeSet a fs u
        if (!wd && u.tooFull) = true then do
            g (relayAll u fs (SetTable.grown fs.size)).2.2
            storeSet a (relayAll u fs (SetTable.grown fs.size)).1 (relayAll u fs (SetTable.grown fs.size)).2.1
            pure (some true)
          else pure (some true)) R E s := by
  refine wpAny_bind (wpAny_storeSet_of ho rfl ?_ (fits_of_scanBound small))
  have o1 := store_at (es' := fs) (t' := u) ho
  have b1 := Heap.SameBut.update s.heap a (Obj.putSet fs u)
  split
  · have pm := relayAll_perm u fs (SetTable.grown fs.size)
    have ft := relayAll_fits u fs (SetTable.grown fs.size)
    have ld := relay_led u fs (SetTable.grown fs.size)
    generalize relayAll u fs (SetTable.grown fs.size) = rl at pm ft ld ⊢
    obtain ⟨gs, v, gv⟩ := rl
    dsimp only at pm ft ld ⊢
    have sz : gs.size = fs.size := by rw [← Array.length_toList, pm.length_eq, Array.length_toList]
    refine wpAny_bind (gok _ _ _ (wpAny_bind (wpAny_storeSet_of o1 rfl ?_ (fits_of_scanBound (by rw [sz]; exact small)))))
    have o2 := store_at (es' := gs) (t' := v) o1
    refine wpAny_pure (fin _ (b1.trans (Heap.SameBut.update _ a _)) ⟨gs, _, v, o2, el.perm pm, fun k => (mem k).trans ⟨fun ⟨e, he, q⟩ => ⟨e, pm.mem_iff.mpr he, q⟩, fun ⟨e, he, q⟩ => ⟨e, pm.mem_iff.mp he, q⟩⟩, by rw [sz]; exact small, ft, sz, ?_⟩)
    rw [sz]
    exact ⟨fun z => ld.1.trans (tab.1 z), fun z => ld.2 (tab.2 z)⟩
  · exact wpAny_pure (fin _ b1 ⟨fs, _, u, o1, el, mem, small, fit, rfl, tab⟩)
theorem add_str {a : Addr} {S : Str → Bool} {n : Nat} {x : Str} {tk : Tok} {Q : Bool → Shared → Prop} (st : SetStr prog w s.heap a S n) (room : n + 1 < scanBound)
    (fin : ∀ h', Heap.SameBut a s.heap h' → SetStr prog w h' a (fun k => S k || decide (k = x)) (if S x then n else n + 1) → Q (!S x) { s with heap := h' }) :
    wpAny (model prog w) A (setAddHashed a (.str x tk) ((PySem.strKind prog w).hash x)) Q E s := by
  obtain ⟨es, ep, t, ho, el, mem, small, fit, rfl, tab⟩ := st
  have key : (PySem.strKind prog w).is x (.str x tk) = true := by
    show Value.isStrOf x (.str x tk) = true
    simp [Value.isStrOf, Value.isStr]
  unfold setAddHashed setAddHashedIn
  refine wpAny_holding (wpAny_bind (wpAny_setState_of ho rfl fit ?_))
  dsimp only
  rw [byScan_of (knd := PySem.strKind prog w) (x := .str x tk) rfl small el]
  simp only [↓reduceIte]
  unfold setAddByScan
  refine wpAny_bind (wpAny_bind (wpAny_rule (wpAny_bind (wpAny_setScan_of (knd := PySem.strKind prog w) key ho rfl fit el ?_))))
  cases found : List.findIdx? (fun e => (PySem.strKind prog w).is x e.2) es.toList with
  | some j =>
    dsimp only
    obtain ⟨hj, at_, _⟩ := List.findIdx?_eq_some_iff_getElem.mp found
    have yes : S x = true := (mem x).mpr ⟨es.toList[j], List.getElem_mem hj, at_⟩
    refine wpAny_pure (wpAny_pure ?_)
    have f := fin s.heap (Heap.SameBut.refl a s.heap) ⟨es, ep, t, ho, el, fun k => ?_, small, fit, by rw [yes]; rfl, tab⟩
    · rw [yes] at f
      exact f
    · rw [Bool.or_eq_true, decide_eq_true_eq, ← mem k]
      exact ⟨fun z => z.elim id fun e => e ▸ yes, .inl⟩
  | none =>
    dsimp only
    have no : S x = false := by
      cases hx : S x with
      | false => rfl
      | true =>
        obtain ⟨e, he, q⟩ := (mem x).mp hx
        have := List.findIdx?_eq_none_iff.mp found e he
        rw [q] at this
        cases this
    have pm := layNew_perm t es ((PySem.strKind prog w).hash x) (.str x tk)
    have ft := layNew_fits t es ((PySem.strKind prog w).hash x) (.str x tk)
    have ld := lay_led t es ((PySem.strKind prog w).hash x) (.str x tk)
    generalize layNew t es ((PySem.strKind prog w).hash x) (.str x tk) = ly at pm ft ld ⊢
    obtain ⟨fs, u, wd, gave⟩ := ly
    dsimp only at pm ft ld ⊢
    rw [Array.toList_push] at pm
    have el' : ElemsOf (PySem.strKind prog w) fs.toList := (el.push key rfl).perm pm
    have mem' := mem_push_iff (knd := PySem.strKind prog w) key mem pm
    have sz : fs.size = es.size + 1 := by rw [← Array.length_toList, pm.length_eq, List.length_append, Array.length_toList]; rfl
    have gok : ∀ (b : Bool) (z : Shared) (R : Unit → Shared → Prop), R () z → wpAny (model prog w) A (match b with | true => rule "set.scan.the-table-gave-way" | false => pure ()) R E z := fun b z R q => by
      cases b
      · exact wpAny_pure q
      · exact wpAny_rule q
    refine wpAny_bind (gok _ _ _ ?_)
    have last : ∀ h', Heap.SameBut a s.heap h' → SetStr prog w h' a (fun k => S k || decide (k = x)) fs.size → Q true { s with heap := h' } := fun h' sb q => by
      have f := fin h' sb
      rw [no, if_neg Bool.false_ne_true] at f
      rw [sz] at q
      exact f q
    split
    · rename_i pl
      refine wpAny_bind ?_
      rw [hashByValue_scannable 8 (x := .str x tk) rfl]
      refine wpAny_pure ?_
      show wpAny _ _ _ _ _ _
      refine tail_str (w := w) (fun b z R q => gok b z R q) ho el' mem' (by omega) (u := { u with plain := false }) (SetTable.fits_plain_off ft) ⟨fun z => ld.1.trans (tab.1 z), fun _ => rfl⟩ fun h' sb q => ?_
      exact wpAny_pure (last h' sb q)
    · rename_i pl
      refine wpAny_bind (wpAny_pure ?_)
      simp only [↓reduceIte]
      refine tail_str (w := w) (fun b z R q => gok b z R q) ho el' mem' (by omega) ft ⟨fun z => ld.1.trans (tab.1 z), fun _ => by simpa using pl⟩ fun h' sb q => ?_
      exact wpAny_pure (last h' sb q)
end
section
variable {prog : Program} {w : World} {A : Around} {E : Value → Shared → Prop} {s : Shared}
end
end L2
set_option maxRecDepth 100000
namespace L2
open PySem PySem.Spec PyProof.Rows
section
variable {prog : Program} {w : World} {A : Around} {E : Value → Shared → Prop} {s : Shared}
end
end L2
set_option maxRecDepth 100000
namespace L2
open PySem PySem.Spec PyProof.Rows
section
variable {X : Cx}
end
end L2
set_option maxRecDepth 100000
namespace L2
open PySem PySem.Spec PyProof.Rows
section
variable {prog : Program} {w : World} {A : Around} {E : Value → Shared → Prop} {s : Shared} {I Fr a : Addr} {i n ep : Nat} {es : Array (Int × Value)} {t : SetTable}
end
end L2
set_option maxRecDepth 100000
namespace L2
open PySem PySem.Spec PyProof.Rows
section
variable {prog : Program} {w : World} {A : Around} {E : Value → Shared → Prop}
end
section
variable {prog : Program} {w : World} {A : Around} {E : Value → Shared → Prop} {s : Shared} {I a : Addr} {i n ep sl : Nat} {es : Array (Int × Value)} {t : SetTable}
end
end L2
set_option maxRecDepth 100000
namespace L2
open PySem PySem.Spec PyProof.Rows
abbrev vals (es : Array (Int × Value)) : List Value := es.toList.map (·.2)
section
variable {prog : Program} {w : World} {A : Around} {I Fr a : Addr} {es : Array (Int × Value)} {t : SetTable} {ep : Nat}
end
section
variable {prog : Program} {w : World} {A : Around} {E : Value → Shared → Prop} {s : Shared} {a : Addr} {es : Array (Int × Value)} {t : SetTable} {ep : Nat}
end
section
variable {prog : Program} {w : World} {A : Around} {E : Value → Shared → Prop} {s : Shared} {a : Addr}
end
section
variable {X : Cx}
end
end L2
set_option maxRecDepth 100000
namespace L2
open PySem PySem.Spec PyProof.Rows
section
variable {X : Cx}
end
end L2
set_option maxRecDepth 100000
namespace L2
open PySem PySem.Spec PyProof.Rows
section
variable {P : Program} {w : World} {K : PySem.W.Frag} {mg : Str → Option Value} {base : Heap}
end
section
variable {X : Cx} {K : PySem.W.Frag} {o e value : Expr} {f : Str} {pos pos' : Pos} {ta tv : TE}
end
section
variable {X : Cx} {x : Str} {pos : Pos}
end
end L2
set_option maxRecDepth 100000
namespace L2
open PySem
noncomputable def colL (cs : List Nat) (h : Nat) : List Nat := cs.take h ++ 10 :: cs.drop h
noncomputable def fsL (cs : List Nat) (h : Nat) (tot fo : Addr) : List (Str × V) := [("column", .str (T (colL cs h))), ("home", .int h), ("last", .int cs.length), ("totals", .ref tot), ("forths", .ref fo)]
noncomputable def Tot (H : Hp) (tot : Addr) (cs : List Nat) : Prop := ∃ (ts : List Addr) (ds : List Nat), H tot = some (.lst (ts.map V.ref)) ∧ ts.length = ds.length ∧ (∀ (j d : Nat), ds[j]? = some d → ∃ t, ts[j]? = some t ∧ H t = some (.tup [.str (T [d]), .int (cs.count d : Nat)])) ∧ ds.Nodup ∧ (∀ c, c ∈ ds ↔ c ∈ cs)
noncomputable def Fo (H : Hp) (fo : Addr) (cs : List Nat) (h : Nat) : Prop := ∃ p : List Nat, H fo = some (.lst (p.map fun i : Nat => V.int i)) ∧ p.Perm (List.range (cs.length + 1)) ∧ p.Pairwise (fun i j => [(colL cs h).getD i 0] ≤ [(colL cs h).getD j 0] ∧ ([(colL cs h).getD i 0] = [(colL cs h).getD j 0] → i < j))
noncomputable def IsLet (C : Addr) (H : Hp) (a : Addr) (cs : List Nat) (h : Nat) : Prop := ∃ dx tot fo, H a = some (.ins C dx (fsL cs h tot fo)) ∧ (Tot H tot cs ∧ Fo H fo cs h) ∧ h ≤ cs.length
theorem Tot.same {H H' : Hp} {tot : Addr} {cs : List Nat} (x : Tot H tot cs) (sm : ∀ b o, H b = some o → (∀ ps, o ≠ .tbl ps) → H' b = some o) : Tot H' tot cs := by
  obtain ⟨ts, ds, h1, h2, h3, h4⟩ := x
  refine ⟨ts, ds, sm _ _ h1 (by intro ps z; cases z), h2, fun j d e => ?_, h4⟩
  obtain ⟨t, e1, e2⟩ := h3 j d e
  exact ⟨t, e1, sm _ _ e2 (by intro ps z; cases z)⟩
theorem IsLet.same {C : Addr} {H H' : Hp} {a : Addr} {cs : List Nat} {h : Nat} (x : IsLet C H a cs h) (sm : ∀ b o, H b = some o → (∀ ps, o ≠ .tbl ps) → H' b = some o) : IsLet C H' a cs h := by
  obtain ⟨dx, tot, fo, h1, h2, h3⟩ := x
  obtain ⟨p, p1, p2⟩ := h2.2
  exact ⟨dx, tot, fo, sm _ _ h1 (by intro ps z; cases z), ⟨h2.1.same sm, p, sm _ _ p1 (by intro ps z; cases z), p2⟩, h3⟩
noncomputable def Prs (H : Hp) (ts : List Addr) (ds cs : List Nat) : Prop := ts.length = ds.length ∧ ∀ (j d : Nat), ds[j]? = some d → ∃ t, ts[j]? = some t ∧ H t = some (.tup [.str (T [d]), .int (cs.count d : Nat)])
theorem Prs.same {H H' : Hp} {ts : List Addr} {ds cs : List Nat} (x : Prs H ts ds cs) (sm : LP.SameT H H') : Prs H' ts ds cs := ⟨x.1, fun j d e => by
  obtain ⟨t, e1, e2⟩ := x.2 j d e
  exact ⟨t, e1, sm _ _ e2⟩⟩
theorem Prs.snoc {H : Hp} {ts : List Addr} {ds cs : List Nat} {t : Addr} {d : Nat} (x : Prs H ts ds cs) (ht : H t = some (.tup [.str (T [d]), .int (cs.count d : Nat)])) : Prs H (ts ++ [t]) (ds ++ [d]) cs := by
  refine ⟨by simp [x.1], fun j e hj => ?_⟩
  by_cases h : j < ds.length
  · rw [List.getElem?_append_left h] at hj
    obtain ⟨u, e1, e2⟩ := x.2 j e hj
    exact ⟨u, by rw [List.getElem?_append_left (by rw [x.1]; exact h)]; exact e1, e2⟩
  · have hl := (List.getElem?_eq_some_iff.mp hj).1
    rw [List.length_append, List.length_singleton] at hl
    have ej : j = ds.length := by omega
    subst ej
    rw [List.getElem?_append_right (Nat.le_refl _), Nat.sub_self] at hj
    have hj : d = e := by simpa using hj
    subst hj
    exact ⟨t, by rw [← x.1, List.getElem?_append_right (Nat.le_refl _), Nat.sub_self]; rfl, ht⟩
theorem rng_nat0 (n : Nat) : rngL 0 (n : Int) = (List.range n).map fun j : Nat => V.int j := by
  unfold rngL
  rw [show ((n : Int) - 0).toNat = n by omega]
  refine List.map_congr_left fun j _ => ?_
  rw [Int.zero_add]
end L2
set_option maxRecDepth 100000
namespace L2
open PySem PySem.Spec PyProof.Rows Builtin Builtin.Str
section
variable {prog : Program} {w : World} {A : Around} {E : Value → Shared → Prop} {s : Shared} {I l : Addr}
end
section
variable {X : Cx} {K : PySem.W.Frag}
end
end L2
set_option maxRecDepth 100000
namespace LO
open L2
end LO
namespace L2
open PySem
theorem Same.nn {H H' : Hp} (s : Same H H') {b : Addr} (h : H b ≠ none) : H' b ≠ none := by
  cases e : H b with
  | none => exact absurd e h
  | some o => rw [s b o e]; simp
theorem SameN.nn {H H' : Hp} (s : SameN H H') {b : Addr} (h : H b ≠ none) : H' b ≠ none := by
  cases e : H b with
  | none => exact absurd e h
  | some o => exact (s b o e).1
end L2
set_option maxRecDepth 100000
namespace L2
open PySem
noncomputable def encV (ps : List (Int × V)) : List (Key × V) := ps.map fun p => (.inl p.1, p.2)
theorem val_encV (k : Int) : ∀ ps : List (Int × V), valV (encV ps) (.inl k) = ps.lookup k
  | [] => rfl
  | x :: r => by
    by_cases e : k = x.1
    · have e1 : (x :: r).lookup k = some x.2 := by
        rw [List.lookup_cons, show (k == x.1) = true by simpa using e]
      rw [e1]
      exact valV_pos (p := ((.inl x.1 : Key), x.2)) (r := encV r) (by rw [e])
    · have e1 : valV (encV (x :: r)) (.inl k) = valV (encV r) (.inl k) := valV_neg (p := ((.inl x.1 : Key), x.2)) (r := encV r) fun z => e (Sum.inl.inj z).symm
      rw [e1, val_encV k r, List.lookup_cons, show (k == x.1) = false by simpa using e]
theorem put_encV {k : Int} {ps : List (Int × V)} (v : V) (h : ps.lookup k = none) : putK (encV ps) (.inl k) v = encV (ps ++ [(k, v)]) := by
  rw [putK_new _ (by rw [val_encV, h])]
  unfold encV
  rw [List.map_append]
  rfl
theorem lookup_snoc (k j : Int) (v : V) : ∀ ps : List (Int × V), (ps ++ [(k, v)]).lookup j = (ps.lookup j).or (if j = k then some v else none)
  | [] => by
    rw [List.nil_append, List.lookup_cons]
    by_cases e : j = k
    · rw [if_pos e, show (j == k) = true by simpa using e]
      rfl
    · rw [if_neg e, show (j == k) = false by simpa using e]
      rfl
  | x :: r => by
    rw [List.cons_append, List.lookup_cons, List.lookup_cons]
    cases (j == x.1) with
    | true => rfl
    | false => exact lookup_snoc k j v r
end L2
namespace LO
end LO
namespace LO
end LO
namespace L2
open PySem
end L2
set_option maxRecDepth 100000
namespace L2
open PySem PySem.Spec PyProof.Rows
section
variable {X : Cx} {pos : Pos} {K : PySem.W.Frag}
end
end L2
namespace LO
end LO
namespace L2
open PySem
theorem getD_mem {l : List Nat} {i : Nat} (h : i < l.length) : l.getD i 0 ∈ l := by
  rw [List.getD_eq_getElem?_getD, List.getElem?_eq_getElem h]
  exact List.getElem_mem h
theorem EqT.int {K : PySem.W.Frag} {H : Hp} {n : Nat} (i : Int) : EqT K H n (.int i) (.int i) := .flat rfl rfl (by simp [eqV])
theorem EqT.str {K : PySem.W.Frag} {H : Hp} {n : Nat} (z : Str) : EqT K H n (.str z) (.str z) := .flat rfl rfl (by simp [eqV])
end L2
namespace LO
end LO
set_option maxRecDepth 100000
namespace L2
open PySem PySem.Spec PyProof.Rows
section
variable {X : Cx} {K : PySem.W.Frag}
end
noncomputable def Bd (i : Int) (m : Nat) : Prop := 0 ≤ i ∧ i ≤ m
theorem Bd.mul {i j : Int} {m n : Nat} (h : Bd i m) (g : Bd j n) : Bd (i * j) (m * n) := by
  refine ⟨Int.mul_nonneg h.1 g.1, ?_⟩
  rw [Int.natCast_mul]
  exact Int.mul_le_mul h.2 g.2 g.1 (Int.natCast_nonneg _)
theorem Bd.mod (i : Int) {m : Nat} (h : 0 < m) : Bd (i % (m : Int)) m := ⟨Int.emod_nonneg _ (by omega), Int.le_of_lt (Int.emod_lt_of_pos _ (by omega))⟩
end L2
set_option maxRecDepth 100000
namespace L2
open PySem PySem.Spec PyProof.Rows
noncomputable def IsRvS (h : Heap) (a : Addr) (z : Str) (t : Tok) (i : Int) : Prop := ∃ o, h.get? a = some o ∧ o.cls = .type "reversed" ∧ o.data = .fields #[.str z t, rawInt i]
section
variable {prog : Program} {w : World} {A : Around} {E : Value → Shared → Prop} {s : Shared}
theorem IsRvS.typeIs {a : Addr} {z : Str} {t : Tok} {i : Int} (x : IsRvS s.heap a z t i) : s.TypeIs (.ref a) "reversed" := let ⟨o, ho, hc, _⟩ := x; ⟨o, ho, hc⟩
end
section
variable {P : Program} {w : World} {K : PySem.W.Frag} {tg : Expr}
end
section
variable {X : Cx} {tg : Expr}
end
end L2
set_option maxRecDepth 100000
namespace L2
open PySem PySem.Spec PyProof.Rows
structure FunD (K : PySem.W.Frag) (x qual : Str) (st : Stmt) (f T : Addr) (fd : FuncData) : Prop where
  ex : ∃ (oc : Value) (od : Option Addr) (kV doc pm : Value) (an : Option Addr) (cdv ct : Value) (osl : Array (Option Value)),
    fd = PySem.W.fnOf x qual (defArgs st) (defBody st) (defScope st) (.ref T) kV doc pm an cdv ct ∧ K.lookup f = some ⟨oc, od, .func fd, osl⟩ ∧ PySem.W.codeIn K cdv qual = true
  kp : PySem.W.keepIn K (.ref f) = true
section
variable {P : Program} {w : World} {K : PySem.W.Frag} {mg : Str → Option Value} {base : Heap} {x qual : Str} {st : Stmt} {f T : Addr} {fd : FuncData} {N ps : List Str} {k : Nat} {sp : Sp}
theorem FunD.ok (F : FunD K x qual st f T fd) (S : FnScope N ps (defScope st)) (len : ∀ vs H Q E, sp vs H Q E → vs.length = ps.length)
    (hbody : ∀ (cdv : Value) (A : Around) (outer : List Env) (s : Shared) (H : Hp) (vs : List V) (Q : VK) (E : XK), Room k (A.deeper (envOfC qual (defScope st) s.heap.objs.size f cdv)) → sp vs H Q E →
      ∃ t, PSs (cxOf CX0 P w K mg base N qual (defScope st) f cdv A outer s H E).nox (defBody st) t ∧ t { nx := fun _ H' => Q .non H', rt := Q } (start N vs) H) : FnOk P w K mg base CX0 (k + 1) f fd ps sp := by
  obtain ⟨oc, od, kV, doc, pm, an, cdv, ct, osl, rfl, lk, hcd⟩ := F.ex
  refine fn_of lk hcd S len fun A outer s H vs Q E hr hsp => ?_
  obtain ⟨t, h, q⟩ := hbody cdv A outer s H vs Q E hr hsp
  exact ⟨t, h.nox, q⟩
theorem FunD.binds {ds : List Value} {items : Array Value} {n : Nat} {qc : Value} {qo : Option Addr} {qs : Array (Option Value)} (F : FunD K x qual st f T fd) (hT : K.lookup T = some ⟨qc, qo, .seq items n, qs⟩)
    (h : ∀ (kV doc pm : Value) (an : Option Addr) (cdv ct : Value) (us : List Value), us.length + ds.length = ps.length →
      ∃ g : Option (Array Value) → Sem (List (Str × Value)), bindArgs (PySem.W.fnOf x qual (defArgs st) (defBody st) (defScope st) (.ref T) kV doc pm an cdv ct) ⟨us, []⟩ = seqItems? (.ref T) >>= g ∧ g (some items) = pure (ps.zip (us ++ ds))) : Binds K fd ps ds := by
  obtain ⟨oc, od, kV, doc, pm, an, cdv, ct, osl, rfl, lk, hcd⟩ := F.ex
  intro s us hin hl
  obtain ⟨g, h1, h2⟩ := h kV doc pm an cdv ct us (by rw [← List.length_append]; exact hl)
  exact PySem.W.binds_K hin rfl hT rfl h1 h2
end
end L2
namespace L2
open PySem PySem.Spec PyProof.Rows
section
variable {X : Cx}
end
end L2
set_option maxRecDepth 100000
namespace L2
open PySem PySem.Spec PyProof.Rows
noncomputable def KeepX (x d : Addr) (H H' : Hp) : Prop := (∀ b o, b ≠ x → b ≠ d → H b = some o → (∀ ps, o ≠ .tbl ps) → H' b = some o) ∧ ∀ b, H b ≠ none → H' b ≠ none
theorem KeepX.ofN {x d : Addr} {H H' : Hp} (s : SameN H H') : KeepX x d H H' := ⟨fun _ _ _ _ e n => s.at e n, fun _ e => s.nn e⟩
theorem KeepX.trans {x d : Addr} {H H1 H2 : Hp} (a : KeepX x d H H1) (b : KeepX x d H1 H2) : KeepX x d H H2 := ⟨fun c o h1 h2 e n => b.1 c o h1 h2 (a.1 c o h1 h2 e n) n, fun c e => b.2 c (a.2 c e)⟩
theorem KeepX.refl (x d : Addr) (H : Hp) : KeepX x d H H := ⟨fun _ _ _ _ e _ => e, fun _ e => e⟩
noncomputable def ordAt (l : List Nat) (r : Nat) : Nat := (LO.ord l).getD r 0
noncomputable def KnownTo (ps : List (Int × V)) (l : List Nat) (g : Int) (k : Nat) : Prop := ∀ r : Int, ps.lookup r = if 0 ≤ r ∧ r < k ∧ (ordAt l r.toNat : Int) % g = 0 then some (.int (ordAt l r.toNat : Nat)) else none
noncomputable def fsF (h d : Addr) (g : Int) : List (Str × V) := [("held", .ref h), ("gap", .int g), ("known", .ref d)]
noncomputable def IsFin (C CL : Addr) (H : Hp) (x : Addr) (l : List Nat) (g : Int) : Prop := ∃ dx h d ps, H x = some (.ins C dx (fsF h d g)) ∧ IsLet CL H h (LO.letters l) (LO.home l) ∧ H d = some (.dK (encV ps)) ∧ KnownTo ps l g (l.length + 1) ∧ 1 ≤ g
theorem IsFin.same {C CL : Addr} {H H' : Hp} {x : Addr} {l : List Nat} {g : Int} (f : IsFin C CL H x l g) (sm : ∀ b o, H b = some o → (∀ ps, o ≠ .tbl ps) → H' b = some o) : IsFin C CL H' x l g := by
  obtain ⟨dx, h, d, ps, h1, h2, h3, h4⟩ := f
  exact ⟨dx, h, d, ps, sm _ _ h1 (by intro ps z; cases z), h2.same sm, sm _ _ h3 (by intro ps z; cases z), h4⟩
theorem KnownTo.step {ps : List (Int × V)} {l : List Nat} {g : Int} {k j : Nat} (h : KnownTo ps l g k) (e : (LO.ord l)[k]? = some j) : ((j : Int) % g = 0 → ps.lookup (k : Int) = none ∧ KnownTo (ps ++ [((k : Int), .int (j : Int))]) l g (k + 1)) ∧ (¬ (j : Int) % g = 0 → KnownTo ps l g (k + 1)) := by
  have ej : ordAt l k = j := by
    unfold ordAt
    rw [List.getD_eq_getElem?_getD, e]
    rfl
  refine ⟨fun hz => ⟨by rw [h, if_neg fun z => by omega], fun r => ?_⟩, fun hz r => ?_⟩
  · rw [lookup_snoc, h r]
    by_cases er : r = (k : Int)
    · subst er
      rw [if_neg fun z => by omega, if_pos rfl, Int.toNat_natCast, ej, if_pos ⟨by omega, by omega, hz⟩]
      rfl
    · rw [if_neg er, Option.or_none]
      by_cases hr : 0 ≤ r ∧ r < k ∧ (ordAt l r.toNat : Int) % g = 0
      · rw [if_pos hr, if_pos ⟨hr.1, by omega, hr.2.2⟩]
      · rw [if_neg hr, if_neg fun z => hr ⟨z.1, by omega, z.2.2⟩]
  · rw [h r]
    by_cases er : r = (k : Int)
    · subst er
      rw [if_neg fun z => by omega, if_neg fun z => hz (by rw [Int.toNat_natCast, ej] at z; exact z.2.2)]
    · by_cases hr : 0 ≤ r ∧ r < k ∧ (ordAt l r.toNat : Int) % g = 0
      · rw [if_pos hr, if_pos ⟨hr.1, by omega, hr.2.2⟩]
      · rw [if_neg hr, if_neg fun z => hr ⟨z.1, by omega, z.2.2⟩]
end L2
namespace LO
end LO
namespace L2
open PySem
end L2
namespace L2
open PySem
end L2
namespace L2
open PySem
theorem ordAt_rank {l : List Nat} {j : Nat} (h : j ≤ l.length) : ordAt l (LO.rank l j) = j := by
  unfold ordAt
  rw [List.getD_eq_getElem?_getD, LO.ord_rank h]
  rfl
theorem ordAt_le {l : List Nat} {r : Nat} (h : r ≤ l.length) : ordAt l r ≤ l.length ∧ LO.rank l (ordAt l r) = r := by
  have hl := LO.ord_length l
  have e : (LO.ord l)[r]? = some (LO.ord l)[r] := List.getElem?_eq_getElem (by omega)
  have e2 : ordAt l r = (LO.ord l)[r] := by
    unfold ordAt
    rw [List.getD_eq_getElem?_getD, e]
    rfl
  rw [e2]
  exact ⟨LO.mem_ord.mp (List.getElem_mem _), LO.rank_of e⟩
theorem KnownTo.at {ps : List (Int × V)} {l : List Nat} {g : Int} {j : Nat} (h : KnownTo ps l g (l.length + 1)) (hj : j ≤ l.length) : ps.lookup ((LO.rank l j : Nat) : Int) = if (j : Int) % g = 0 then some (.int (j : Int)) else none := by
  have hr := LO.rank_lt (l := l) (j := j) hj
  rw [h, Int.toNat_natCast, ordAt_rank hj]
  by_cases z : (j : Int) % g = 0
  · rw [if_pos ⟨by omega, by omega, z⟩, if_pos z]
  · rw [if_neg fun w => z w.2.2, if_neg z]
end L2
set_option maxRecDepth 100000
namespace L2
open PySem PySem.Spec PyProof.Rows
structure MkrK (P : Program) (w : World) (K : PySem.W.Frag) (mg : Str → Option Value) (base : Heap) (CX : CXT) (k : Nat) (x : Str) (C : Addr) (ps : List Str) (kw : Str) (sp : Sp) : Prop where
  ex : ∃ f fd, FnOk P w K mg base CX k f fd ps sp ∧ Mk K C f ∧ ∀ (s : Shared) (a b c : Value), K.In s.heap → BindsTo s fd ⟨[a, b], [(kw, c)]⟩ (ps.zip [a, b, c])
  at_ : mg x = some (.ref C)
theorem MkrK.mono {P : Program} {w : World} {K : PySem.W.Frag} {mg : Str → Option Value} {base : Heap} {CX : CXT} {j k : Nat} {C : Addr} {x kw : Str} {ps : List Str} {sp : Sp} (M : MkrK P w K mg base CX j x C ps kw sp) (h : j ≤ k) : MkrK P w K mg base CX k x C ps kw sp := by
  obtain ⟨f, fd, F, r⟩ := M.ex
  exact ⟨⟨f, fd, F.mono h, r⟩, M.at_⟩
theorem MkrK.quiet {P : Program} {w : World} {K : PySem.W.Frag} {mg : Str → Option Value} {base : Heap} {k : Nat} {C : Addr} {x kw : Str} {ps : List Str} {sp : Sp} (M : MkrK P w K mg base (CX1 P w) k x C ps kw sp) : MkrK P w K mg base CX0 k x C ps kw (fun vs H Q _ => sp vs H Q E0) := by
  obtain ⟨f, fd, F, r⟩ := M.ex
  exact ⟨⟨f, fd, quietX F, r⟩, M.at_⟩
section
variable {X : Cx} {k : Nat} {C : Addr} {x kw : Str} {ps : List Str} {sp : Sp} {e e2 : Expr} {ta tb : TE} {p pos kpos : Pos}
end
section
variable {K : PySem.W.Frag} {x qual : Str} {st : Stmt} {f T : Addr} {fd : FuncData} {ps : List Str}
end
end L2
namespace L2
open PySem
end L2
set_option maxRecDepth 100000
namespace L2
open PySem PySem.Spec PyProof.Rows
noncomputable def KeepY (x d t1 t2 : Addr) (H H' : Hp) : Prop := KeepX x d H H' ∧ ∀ b o, b ≠ x → b ≠ d → b ≠ t1 → b ≠ t2 → H b = some o → H' b = some o
theorem KeepY.of {x d t1 t2 : Addr} {H H' : Hp} (s : SameN H H') (e : ∀ b o, b ≠ t1 → b ≠ t2 → H b = some o → H' b = some o) : KeepY x d t1 t2 H H' := ⟨KeepX.ofN s, fun b o _ _ n1 n2 h => e b o n1 n2 h⟩
theorem KeepY.trans {x d t1 t2 : Addr} {H H1 H2 : Hp} (a : KeepY x d t1 t2 H H1) (b : KeepY x d t1 t2 H1 H2) : KeepY x d t1 t2 H H2 := ⟨a.1.trans b.1, fun c o h1 h2 h3 h4 e => b.2 c o h1 h2 h3 h4 (a.2 c o h1 h2 h3 h4 e)⟩
end L2
set_option maxRecDepth 100000
namespace L2
open PySem PySem.Spec PyProof.Rows
section
variable {X : Cx}
noncomputable def intOrd : KeyOrd where
  α := Int
  blt := fun a b => decide (a < b)
  irrefl := fun a => decide_eq_false (Int.lt_irrefl a)
  trans := fun a b c h1 h2 => by
    have := of_decide_eq_true h1
    have := of_decide_eq_true h2
    exact decide_eq_true (by omega)
  negTrans := fun a b c h => by
    have := of_decide_eq_true h
    by_cases h2 : a < b
    · exact .inl (decide_eq_true h2)
    · exact .inr (decide_eq_true (by omega))
  total := fun a b h1 h2 => by
    have := of_decide_eq_false h1
    have := of_decide_eq_false h2
    omega
theorem int_at {ns : List Int} {ks : List Value} (r : Vals (ns.map V.int) ks) {i : Nat} (hi : i < ns.length) : ∃ t, ks.getD i Value.none = .int (ns.getD i 0) t := by
  have e : (ns.map V.int)[i]? = some (V.int (ns.getD i 0)) := by
    rw [List.getElem?_map, List.getD_eq_getElem?_getD, List.getElem?_eq_getElem hi]
    rfl
  obtain ⟨u, hu, t, rfl⟩ := r.get e
  exact ⟨t, by rw [List.getD_eq_getElem?_getD, hu]; rfl⟩
theorem ask_int {prog : Program} {w : World} {A : Around} {s : Shared} {ns : List Int} {ks : List Value} (r : Vals (ns.map V.int) ks) : LS.Asks (O := intOrd) (fun i => ns.getD i (0 : Int)) ns.length (fun s' => s' = s) (PySem.W.kas_ask prog w A oneType' ks) := by
  refine ⟨fun i j C s1 hi hj e h => ?_⟩
  subst e
  unfold PySem.W.kas_ask
  obtain ⟨t, e1⟩ := int_at r hi
  obtain ⟨t', e2⟩ := int_at r hj
  rw [e1, e2, keyLt'_oneType]
  exact oneLt_int (h s1 rfl)
theorem kind_int {M : Model} {A : Around} {E : Value → Shared → Prop} {s : Shared} {ns : List Int} {ks : List Value} (r : Vals (ns.map V.int) ks) (h2 : 2 ≤ ns.length) {Q : SortKind → Shared → Prop} (h : Q oneType' s) : wpAny M A (keyKind' (List.toArray ks)) Q E s := by
  have hl := r.length
  rw [List.length_map] at hl
  refine PySem.W.kas_kind (T := .type "int") (by omega) (fun v hv => ?_) (by decide) (by decide) h
  obtain ⟨i, hi⟩ := List.getElem?_of_mem hv
  have hlt : i < ns.length := by
    have := (List.getElem?_eq_some_iff.mp hi).1
    omega
  obtain ⟨t, e⟩ := int_at r hlt
  rw [List.getD_eq_getElem?_getD, hi] at e
  have e : v = .int (ns.getD i 0) t := e
  rw [e]
  exact PySem.W.Looks.of_pure rfl
theorem up_ints {ns : List Int} {n : Nat} {p : Array Nat} (hp : LS.Pm n p) (hu : LS.Up (O := intOrd) (fun i => ns.getD i (0 : Int)) p n) : p.toList.Pairwise (fun i j => ns.getD i 0 ≤ ns.getD j 0) := by
  have hps := hp.size
  refine List.pairwise_iff_getElem.mpr fun i j hi hj hij => ?_
  rw [Array.length_toList] at hi hj
  have := hu i j (Nat.le_of_lt hij) (by omega)
  have gi : LS.gt p i = p.toList[i] := by
    unfold LS.gt
    rw [Array.getD_eq_getD_getElem?]
    simp [hi]
  have gj : LS.gt p j = p.toList[j] := by
    unfold LS.gt
    rw [Array.getD_eq_getD_getElem?]
    simp [hj]
  rw [gi, gj] at this
  have this : decide (ns.getD p.toList[j] 0 < ns.getD p.toList[i] 0) = false := this
  have := of_decide_eq_false this
  omega
noncomputable def sortI (K : PySem.W.Frag) : List V → Hp → VK → Prop := fun vs H Q => match vs with
  | [.ref a] => ∃ ns : List Int, Src K H a (ns.map V.int) ∧ ns.length < 64 ∧ ∀ l (ms : List Int), H l = none → ms.Perm ns → ms.Pairwise (· ≤ ·) → Q (.ref l) (upd H l (.lst (ms.map V.int)))
  | _ => False
theorem map_getD_range (ns : List Int) : (List.range ns.length).map (fun i => ns.getD i 0) = ns := by
  refine List.ext_getElem? fun i => ?_
  rw [List.getElem?_map]
  by_cases h : i < ns.length
  · rw [List.getElem?_range h, List.getElem?_eq_getElem h, Option.map_some, List.getD_eq_getElem?_getD, List.getElem?_eq_getElem h]
    rfl
  · rw [List.getElem?_eq_none (by simpa using h), List.getElem?_eq_none (by omega)]
    rfl
end
end L2
namespace LO
open L2
theorem has_take {l t : List Nat} {i : Nat} : hasAt l t i = true ↔ (l.drop i).take t.length = t := by
  unfold hasAt
  rw [List.isPrefixOf_iff_prefix, List.prefix_iff_eq_take]
  exact ⟨fun h => h.symm, fun h => h.symm⟩
end LO
set_option maxRecDepth 100000
namespace L2
open PySem PySem.Spec PyProof.Rows
structure FnD (P : Program) (w : World) (K : PySem.W.Frag) (mg : Str → Option Value) (base : Heap) (k : Nat) (x : Str) (ps : List Str) (dvs : List V) (sp : Sp) : Prop where
  ex : ∃ f fd ds, FnOk P w K mg base CX0 k f fd ps sp ∧ mg x = some (.ref f) ∧ PySem.W.keepIn K (.ref f) = true ∧ Binds K fd ps ds ∧ Vals dvs ds
structure FnK (P : Program) (w : World) (K : PySem.W.Frag) (mg : Str → Option Value) (base : Heap) (k : Nat) (x : Str) (ps : List Str) (kw : Str) (sp : Sp) : Prop where
  ex : ∃ f fd, FnOk P w K mg base CX0 k f fd ps sp ∧ mg x = some (.ref f) ∧ PySem.W.keepIn K (.ref f) = true ∧ ∀ (s : Shared) (a c : Value), K.In s.heap → BindsTo s fd ⟨[a], [(kw, c)]⟩ (ps.zip [a, c])
section
variable {X : Cx} {k : Nat} {x kw : Str} {ps : List Str} {sp : Sp} {p pos kpos : Pos} {e e2 : Expr} {es : List Expr} {t : TA} {ta tb : TE} {dvs : List V}
end
section
variable {K : PySem.W.Frag} {x qual : Str} {st : Stmt} {f T : Addr} {fd : FuncData} {ps : List Str}
end
end L2
set_option maxRecDepth 100000
namespace LO
open LW L2
theorem take_up : ∀ {x y : List Nat} (k : Nat), x ≤ y → x.take k ≤ y.take k
  | _, _, 0, _ => by simp
  | [], y, k + 1, _ => by simp
  | c :: x, [], k + 1, h => absurd (List.nil_lt_cons c x) (List.not_lt.mpr h)
  | c :: x, d :: y, k + 1, h => by
    rw [List.take_succ_cons, List.take_succ_cons]
    have h : ¬ (d :: y < c :: x) := List.not_lt.mpr h
    refine List.not_lt.mp fun z => h ?_
    rw [List.cons_lt_cons_iff] at z ⊢
    rcases z with z | ⟨z1, z2⟩
    · exact .inl z
    · refine .inr ⟨z1, ?_⟩
      rcases Decidable.em (y < x) with w | w
      · exact w
      · exact absurd z2 (List.not_lt.mpr (take_up k (List.not_lt.mp w)))
theorem row_up {l : List Nat} {i j : Nat} (h : i ≤ j) (hj : j ≤ l.length) : l.drop (ordAt l i) ≤ l.drop (ordAt l j) := by
  have ol := ord_length l
  rcases Nat.lt_or_ge i j with w | w
  · have := List.pairwise_iff_getElem.mp (ord_le l) i j (by omega) (by omega) w
    unfold ordAt
    rw [List.getD_eq_getElem?_getD, List.getD_eq_getElem?_getD, List.getElem?_eq_getElem (by omega), List.getElem?_eq_getElem (by omega)]
    exact this
  · have : i = j := by omega
    subst this
    exact List.le_refl _
noncomputable def sz (l : List Nat) (m r : Nat) : Nat := com (l.drop (ordAt l r)) (l.drop (ordAt l (r + (m - 1))))
noncomputable def pc (l : List Nat) (m r : Nat) : List Nat := (l.drop (ordAt l r)).take (sz l m r)
theorem pc_len (l : List Nat) (m r : Nat) : (pc l m r).length = sz l m r := by
  unfold pc
  rw [List.length_take]
  have := (LW.com_le (l.drop (ordAt l r)) (l.drop (ordAt l (r + (m - 1))))).1
  unfold sz
  omega
theorem pc_many {l : List Nat} {m r : Nat} (h1 : 1 ≤ m) (hr : r + (m - 1) ≤ l.length) : m ≤ many l (pc l m r) := by
  have hp : pc l m r = (l.drop (ordAt l (r + (m - 1)))).take (sz l m r) := take_com _ _ _ (Nat.le_refl _)
  obtain ⟨a1, a2⟩ := ordAt_le (l := l) (r := r) (by omega)
  obtain ⟨b1, b2⟩ := ordAt_le (l := l) (r := r + (m - 1)) (by omega)
  have c1 := (rank_in (t := pc l m r) a1).mp (has_take.mpr (by rw [pc_len]; rfl))
  have c2 := (rank_in (t := pc l m r) b1).mp (has_take.mpr (by rw [pc_len]; exact hp.symm))
  unfold high at c1 c2
  omega
structure Lng (l : List Nat) (m i : Nat) (c : List Nat) : Prop where
  one : m ≤ many l c
  most : ∀ r, r < i → sz l m r ≤ c.length
  first : ∀ r, r < i → sz l m r = c.length → ¬ pc l m r < c
  src : ∀ j, i ≤ j → j ≤ l.length → ¬ (l.drop (ordAt l j)).take c.length < c
theorem Lng.keep {l c : List Nat} {m i : Nat} (h : Lng l m i c) (hi : i ≤ l.length) (hs : sz l m i ≤ c.length) : Lng l m (i + 1) c := by
  refine ⟨h.one, fun r hr => ?_, fun r hr e => ?_, fun j hj hj2 => h.src j (by omega) hj2⟩
  · rcases Nat.lt_or_ge r i with w | w
    · exact h.most r w
    · have : r = i := by omega
      subst this
      exact hs
  · rcases Nat.lt_or_ge r i with w | w
    · exact h.first r w e
    · have : r = i := by omega
      subst this
      unfold pc
      rw [e]
      exact h.src r (Nat.le_refl _) hi
theorem Lng.take {l c : List Nat} {m i : Nat} (h : Lng l m i c) (h1 : 1 ≤ m) (hi : i + (m - 1) ≤ l.length) (hs : c.length < sz l m i) : Lng l m (i + 1) (pc l m i) := by
  refine ⟨pc_many h1 hi, fun r hr => ?_, fun r hr e => ?_, fun j hj hj2 => ?_⟩
  · rw [pc_len]
    rcases Nat.lt_or_ge r i with w | w
    · have := h.most r w
      omega
    · have : r = i := by omega
      subst this
      exact Nat.le_refl _
  · rw [pc_len] at e
    rcases Nat.lt_or_ge r i with w | w
    · have := h.most r w
      omega
    · have : r = i := by omega
      subst this
      exact List.lt_irrefl _
  · rw [pc_len]
    exact List.not_lt.mpr (take_up _ (row_up (by omega) hj2))
end LO
set_option maxRecDepth 100000
namespace L2
open PySem PySem.Spec PyProof.Rows
section
variable {prog : Program} {w : World} {A : Around} {E : Value → Shared → Prop} {s : Shared}
structure Zap (z TI TO i1 i2 : Addr) : Prop where
  TIz : TI ≠ z
  TOz : TO ≠ z
  i1z : i1 ≠ z
  i2z : i2 ≠ z
  TITO : TI ≠ TO
  TIi1 : TI ≠ i1
  TIi2 : TI ≠ i2
  TOi1 : TO ≠ i1
  TOi2 : TO ≠ i2
  i12 : i1 ≠ i2
variable {z TI TO i1 i2 : Addr} {n1 n2 k : Nat} {P1 P2 : Nat → Value → Prop} {S1 S2 : Nat → Heap → Prop} {a b : Value}
end
section
variable {prog : Program} {w : World} {A : Around} {E : Value → Shared → Prop} {s : Shared}
end
section
variable {X : Cx} {es : List Expr} {k : Nat} {tp : Pos}
end
end L2
set_option maxRecDepth 100000
namespace L2
open PySem PySem.Spec PyProof.Rows
section
variable {X : Cx} {elt : Expr} {ifs : List Expr} {u v : Str} {pu pv : Pos} {scope : Scope} {pos tp : Pos} {k : Nat} {cl : List (Str × Addr)} {own : List Str} {cp : List (Str × Nat)} {ta : TA} {tc : TT} {te : TE}
end
end L2
set_option maxRecDepth 100000
namespace L2
open PySem PySem.Spec PyProof.Rows Builtin Builtin.Str
section
variable {prog : Program} {w : World} {A : Around} {E : Value → Shared → Prop} {s : Shared} {I l : Addr}
end
section
variable {X : Cx} {K : PySem.W.Frag}
end
end L2
namespace LG
open LO
theorem has_iff {l t : List Nat} {i : Nat} : hasAt l t i = true ↔ ∃ u, l.drop i = t ++ u := by
  unfold hasAt
  rw [List.isPrefixOf_iff_prefix]
  exact ⟨fun ⟨u, h⟩ => ⟨u, h.symm⟩, fun ⟨u, h⟩ => ⟨u, h.symm⟩⟩
theorem many_pos {l t : List Nat} : many l t ≠ 0 ↔ ∃ a b, l = a ++ t ++ b := by
  unfold many
  constructor
  · intro h
    obtain ⟨i, hi, h1⟩ := List.countP_pos_iff.mp (Nat.pos_of_ne_zero h)
    obtain ⟨u, hu⟩ := has_iff.mp h1
    exact ⟨l.take i, u, by rw [List.append_assoc, ← hu, List.take_append_drop]⟩
  · rintro ⟨a, b, rfl⟩
    refine Nat.pos_iff_ne_zero.mp (List.countP_pos_iff.mpr ⟨a.length, List.mem_range.mpr (by simp; omega), has_iff.mpr ⟨b, ?_⟩⟩)
    rw [List.append_assoc, List.drop_left]
theorem many_in {l x y z : List Nat} (h : many l (x ++ y ++ z) ≠ 0) : many l y ≠ 0 := by
  obtain ⟨a, b, e⟩ := many_pos.mp h
  exact many_pos.mpr ⟨a ++ x, z ++ b, by rw [e]; simp⟩
theorem many_end {l x y : List Nat} (h : many l (x ++ y) ≠ 0) : many l y ≠ 0 := many_in (z := []) (by simpa using h)
theorem many_nil (l : List Nat) : many l [] ≠ 0 := many_pos.mpr ⟨[], l, rfl⟩
noncomputable def suf (u : List Nat) (k : Nat) : List Nat := u.drop (u.length - k)
theorem suf_app {u : List Nat} {j k : Nat} (h : j ≤ k) : ∃ x, suf u k = x ++ suf u j := by
  unfold suf
  refine ⟨(u.drop (u.length - k)).take (k - j - (k - u.length)), ?_⟩
  conv => lhs; rw [← List.take_append_drop (k - j - (k - u.length)) (u.drop (u.length - k)), List.drop_drop]
  by_cases hk : k ≤ u.length
  · rw [show u.length - k + (k - j - (k - u.length)) = u.length - j by omega]
  · rw [show u.length - k + (k - j - (k - u.length)) = u.length - j by omega]
noncomputable def lg (l u : List Nat) : Nat := ((List.range u.length).takeWhile fun k => decide (many l (suf u (k + 1)) ≠ 0)).length
theorem tw_len {n m : Nat} {p : Nat → Bool} (hm : m ≤ n) (h1 : ∀ k, k < m → p k = true) (h2 : m = n ∨ p m = false) : ((List.range n).takeWhile p).length = m := by
  have e : List.range n = List.range m ++ (List.range (n - m)).map (m + ·) := by
    conv => lhs; rw [show n = m + (n - m) by omega, List.range_add]
  rw [e, List.takeWhile_append_of_pos fun a ha => h1 a (List.mem_range.mp ha), List.length_append, List.length_range]
  have z : ((List.range (n - m)).map (m + ·)).takeWhile p = [] := by
    cases hk : n - m with
    | zero => rfl
    | succ k =>
      rw [List.range_succ_eq_map, List.map_cons, List.takeWhile_cons, if_neg]
      rcases h2 with h2 | h2
      · omega
      · rw [Nat.add_zero, h2]
        exact Bool.false_ne_true
  rw [z]
  rfl
theorem lg_is {l u : List Nat} {n : Nat} (hn : n ≤ u.length) (h1 : many l (suf u n) ≠ 0) (h2 : n = u.length ∨ many l (suf u (n + 1)) = 0) : lg l u = n := by
  refine tw_len hn (fun k hk => decide_eq_true ?_) (h2.imp id fun z => decide_eq_false fun y => y z)
  obtain ⟨x, e⟩ := suf_app (u := u) (j := k + 1) (k := n) hk
  rw [e] at h1
  exact many_end h1
theorem lg_ex (l u : List Nat) : ∃ n, n ≤ u.length ∧ many l (suf u n) ≠ 0 ∧ (n = u.length ∨ many l (suf u (n + 1)) = 0) := by
  have key : ∀ k n, u.length - n = k → n ≤ u.length → many l (suf u n) ≠ 0 → ∃ n, n ≤ u.length ∧ many l (suf u n) ≠ 0 ∧ (n = u.length ∨ many l (suf u (n + 1)) = 0) := by
    intro k
    induction k with
    | zero => intro n h0 h1 h2; exact ⟨n, h1, h2, .inl (by omega)⟩
    | succ k ih =>
      intro n h0 h1 h2
      by_cases h3 : many l (suf u (n + 1)) = 0
      · exact ⟨n, h1, h2, .inr h3⟩
      · exact ih (n + 1) (by omega) (by omega) h3
  refine key u.length 0 (by omega) (Nat.zero_le _) ?_
  unfold suf
  rw [Nat.sub_zero, List.drop_length]
  exact many_nil l
theorem lg_st (l u : List Nat) : many l (suf u (lg l u)) ≠ 0 := by
  obtain ⟨n, h1, h2, h3⟩ := lg_ex l u
  rw [lg_is h1 h2 h3]
  exact h2
theorem take_suf {u : List Nat} {k : Nat} : u.take (u.length - k) ++ suf u k = u := List.take_append_drop ..
structure Row (l u : List Nat) (ps : List (List Nat)) : Prop where
  flat : ps.flatten = u
  each : ∀ a x b, ps = a ++ x :: b → x ≠ [] ∧ (many l x = 0 → x.length = 1) ∧ (many l x ≠ 0 → a.flatten ≠ [] → many l (suf (a.flatten ++ x) (x.length + 1)) = 0)
end LG
namespace LG
open LO
end LG
namespace LG
open LO
structure Best (z y c : List Nat) : Prop where
  one : many z c ≠ 0
  two : many y c ≠ 0
  most : ∀ w, many z w ≠ 0 → many y w ≠ 0 → w.length < c.length ∨ w.length = c.length ∧ ¬ w < c
theorem Best.symm {z y c : List Nat} (h : Best z y c) : Best y z c := ⟨h.two, h.one, fun w h1 h2 => h.most w h2 h1⟩
noncomputable def cand (z y : List Nat) (i : Nat) : List Nat := suf (y.take i) (lg z (y.take i))
theorem cand_one (z y : List Nat) (i : Nat) : many z (cand z y i) ≠ 0 := lg_st _ _
theorem many_suf {y u : List Nat} {k : Nat} (h : many y u ≠ 0) : many y (suf u k) ≠ 0 := by
  have : u = u.take (u.length - k) ++ suf u k := take_suf.symm
  rw [this] at h
  exact many_end h
theorem many_take (y : List Nat) (i : Nat) : many y (y.take i) ≠ 0 := many_pos.mpr ⟨[], y.drop i, by simp⟩
theorem cand_two (z y : List Nat) (i : Nat) : many y (cand z y i) ≠ 0 := many_suf (many_take y i)
structure Upto (z y : List Nat) (i : Nat) (c : List Nat) : Prop where
  one : many z c ≠ 0
  two : many y c ≠ 0
  most : ∀ j, j < i → (cand z y j).length < c.length ∨ (cand z y j).length = c.length ∧ ¬ cand z y j < c
theorem Upto.keep {z y c : List Nat} {i : Nat} (h : Upto z y i c) (hk : ¬ (c.length < (cand z y i).length ∨ (cand z y i).length = c.length ∧ cand z y i < c)) : Upto z y (i + 1) c :=
  ⟨h.one, h.two, fun j hj => by
    rcases Nat.lt_or_ge j i with h1 | h1
    · exact h.most j h1
    · have : j = i := by omega
      subst this
      rcases Nat.lt_or_ge (cand z y j).length c.length with h2 | h2
      · exact .inl h2
      · refine .inr ⟨?_, fun w => hk (.inr ⟨?_, w⟩)⟩
        · rcases Nat.lt_or_ge c.length (cand z y j).length with h3 | h3
          · exact absurd (.inl h3) hk
          · omega
        · rcases Nat.lt_or_ge c.length (cand z y j).length with h3 | h3
          · exact absurd (.inl h3) hk
          · omega⟩
theorem Upto.take {z y c : List Nat} {i : Nat} (h : Upto z y i c) (hk : c.length < (cand z y i).length ∨ (cand z y i).length = c.length ∧ cand z y i < c) : Upto z y (i + 1) (cand z y i) :=
  ⟨cand_one z y i, cand_two z y i, fun j hj => by
    rcases Nat.lt_or_ge j i with h1 | h1
    · rcases h.most j h1 with h2 | ⟨h2, h3⟩
      · rcases hk with hk | ⟨hk, _⟩
        · exact .inl (by omega)
        · exact .inl (by omega)
      · rcases hk with hk | ⟨hk, hk2⟩
        · exact .inl (by omega)
        · exact .inr ⟨by omega, fun w => h3 (List.lt_trans w hk2)⟩
    · have : j = i := by omega
      subst this
      exact .inr ⟨rfl, List.lt_irrefl _⟩⟩
end LG
namespace LG
open LO L2
end LG
namespace LG
theorem len_flat : ∀ {ps : List (List Nat)}, (∀ x ∈ ps, x ≠ []) → ps.length ≤ ps.flatten.length
  | [], _ => Nat.le_refl _
  | x :: r, h => by
    have h1 := len_flat (ps := r) fun y hy => h y (List.mem_cons_of_mem _ hy)
    have h2 := List.length_pos_iff.mpr (h x (List.mem_cons_self ..))
    rw [List.flatten_cons, List.length_append, List.length_cons]
    omega
theorem Row.len {l u : List Nat} {ps : List (List Nat)} (h : Row l u ps) : ps.length ≤ u.length := by
  rw [← h.flat]
  refine len_flat fun x hx => ?_
  obtain ⟨a, b, e⟩ := List.append_of_mem hx
  exact (h.each a x b e).1
end LG
namespace L2
open PySem
end L2
set_option maxRecDepth 100000
namespace L2
open PySem PySem.Spec PyProof.Rows
section
variable {X : Cx}
end
section
variable {X : Cx}
variable {elt iter : Expr} {ifs : List Expr} {u v : Str} {pu pv : Pos} {scope : Scope} {pos : Pos} {cl : List (Str × Addr)} {own : List Str} {cp : List (Str × Nat)} {ta : TA} {tl : TE} {tc : TT} {te : TE}
end
end L2
set_option maxRecDepth 100000
namespace LP
open PySem L2
end LP
set_option maxRecDepth 100000
namespace L2
open PySem PySem.Spec PyProof.Rows
section
variable {X : Cx}
end
end L2
namespace LP
open PySem L2 NumText
noncomputable def RAt (H : Hp) (a : Addr) : Prop := ∃ ts : List Addr, H a = some (.lst (ts.map V.ref)) ∧ ts.length ≤ 25 ∧ ∀ t ∈ ts, ∃ c n : Nat, H t = some (.tup [.str (T [c]), .int (n : Int)]) ∧ 1 ≤ n ∧ n ≤ 300
theorem RAt.same {H H' : Hp} {a : Addr} (h : RAt H a) (sm : Same H H') : RAt H' a := by
  obtain ⟨ts, h1, h2, h3⟩ := h
  refine ⟨ts, sm _ _ h1, h2, fun t ht => ?_⟩
  obtain ⟨c, n, e, r⟩ := h3 t ht
  exact ⟨c, n, sm _ _ e, r⟩
noncomputable def TAt (m : Nat) (H : Hp) (a : Addr) : Prop := ∃ ts : List Addr, H a = some (.lst (ts.map V.ref)) ∧ ts.length ≤ m ∧ ∀ t ∈ ts, ∃ x y : List Nat, H t = some (.tup [.str (T x), .str (T y)]) ∧ x.length ≤ 1 ∧ y.length ≤ 2500
theorem TAt.same {m : Nat} {H H' : Hp} {a : Addr} (h : TAt m H a) (sm : Same H H') : TAt m H' a := by
  obtain ⟨ts, h1, h2, h3⟩ := h
  refine ⟨ts, sm _ _ h1, h2, fun t ht => ?_⟩
  obtain ⟨x, y, e, r⟩ := h3 t ht
  exact ⟨x, y, sm _ _ e, r⟩
noncomputable def Tu (H : Hp) (us : List Addr) : Prop := ∀ t ∈ us, ∃ x y : List Nat, H t = some (.tup [.str (T x), .str (T y)]) ∧ x.length ≤ 1 ∧ y.length ≤ 2000
theorem Tu.same {H H' : Hp} {us : List Addr} (h : Tu H us) (sm : Same H H') : Tu H' us := fun t ht => by
  obtain ⟨x, y, e, r⟩ := h t ht
  exact ⟨x, y, sm _ _ e, r⟩
theorem mem_cut {α : Type} {l : List α} {lo hi : Option Int} {x : α} (h : x ∈ cut l lo hi) : x ∈ l := List.mem_of_mem_drop (List.mem_of_mem_take h)
end LP
set_option maxRecDepth 100000
namespace L2
open PySem PySem.Spec PyProof.Rows
section
variable {X : Cx} {pins : List (Addr × Obj)} {σ : St} {H : Hp} {s : Shared}
end
end L2
set_option maxRecDepth 100000
namespace L2
open PySem PySem.Spec PyProof.Rows
section
variable {X : Cx} {pins : List (Addr × Obj)} {σ : St} {H : Hp} {s : Shared} {d : Addr} {kvs : List (Key × V)} {ob : Obj}
end
end L2
set_option maxRecDepth 100000
set_option maxHeartbeats 1000000
namespace L2
open PySem PySem.Spec PyProof.Rows
end L2
set_option maxRecDepth 100000
set_option maxHeartbeats 1000000
namespace L2
open PySem PySem.Spec PyProof.Rows
section
variable {prog : Program} {w : World} {A : Around} {R : Result → Shared → Prop} {I o D : Addr} {its : List Value} {ps : List (Key × Value)}
end
section
variable {X : Cx}
end
end L2
set_option maxRecDepth 100000
set_option maxHeartbeats 1000000
namespace L2
open PySem PySem.Spec PyProof.Rows
section
variable {X : Cx} {tg : Expr}
end
end L2
namespace L2
open PySem PySem.Spec PyProof.Rows
noncomputable def MkAt (H : Hp) (m : Addr) (ds : List Nat) (f : Nat → Nat) : Prop := ∃ ts : List Addr, H m = some (.lst (ts.map V.ref)) ∧ ts.length = ds.length ∧ ∀ (j : Nat) t d, ts[j]? = some t → ds[j]? = some d → H t = some (.tup [.str (T [d]), .int (f d : Nat)])
theorem MkAt.keep {H H' : Hp} {m : Addr} {ds : List Nat} {f : Nat → Nat} (h : MkAt H m ds f) (s1 : ∀ b xs, H b = some (.tup xs) → H' b = some (.tup xs)) (s2 : ∀ xs, H m = some (.lst xs) → H' m = some (.lst xs)) : MkAt H' m ds f := by
  obtain ⟨ts, h1, h2, h3⟩ := h
  exact ⟨ts, s2 _ h1, h2, fun j t d e1 e2 => s1 _ _ (h3 j t d e1 e2)⟩
noncomputable def fsM (a m : Addr) (g : Int) : List (Str × V) := [("held", .ref a), ("gap", .int g), ("marks", .ref m)]
noncomputable def MksAt (H : Hp) (ms : List Addr) (ds cs : List Nat) (h : Nat) (g : Int) : Prop := ∀ (k : Nat) mk, ms[k]? = some mk → MkAt H mk ds fun d => ((colL cs h).take ((k : Int) * g).toNat).count d
noncomputable def IsMks (C CL : Addr) (H : Hp) (x : Addr) (cs : List Nat) (h : Nat) (g : Int) : Prop := ∃ dx a m ms ds, H x = some (.ins C dx (fsM a m g)) ∧ IsLet CL H a cs h ∧ 1 ≤ g ∧ (ds.Nodup ∧ (∀ c, c ∈ ds ↔ c ∈ cs) ∧ ds.Pairwise (· ≤ ·)) ∧ H m = some (.lst (ms.map V.ref)) ∧ (ms.length : Int) = ((cs.length : Int) + 1) / g + 1 ∧ MksAt H ms ds cs h g
theorem IsMks.same {C CL : Addr} {H H' : Hp} {x : Addr} {cs : List Nat} {h : Nat} {g : Int} (f : IsMks C CL H x cs h g) (sm : ∀ b o, H b = some o → (∀ ps, o ≠ .tbl ps) → H' b = some o) : IsMks C CL H' x cs h g := by
  obtain ⟨dx, a, m, ms, ds, h1, h2, h3, h4, h5, h6, h7⟩ := f
  refine ⟨dx, a, m, ms, ds, sm _ _ h1 (by intro ps z; cases z), h2.same sm, h3, h4, sm _ _ h5 (by intro ps z; cases z), h6, fun k mk e => (h7 k mk e).keep (fun b xs e => sm _ _ e (by intro ps z; cases z)) fun xs e => sm _ _ e (by intro ps z; cases z)⟩
end L2
namespace L2
open PySem PySem.Spec PyProof.Rows
section
variable {X : Cx}
end
end L2
namespace L2
open PySem PySem.Spec PyProof.Rows
section
variable {X : Cx}
end
end L2
namespace L2
open PySem PySem.Spec PyProof.Rows
section
variable {X : Cx}
end
end L2
namespace L2
open PySem PySem.Spec PyProof.Rows
end L2
set_option maxRecDepth 100000
set_option maxHeartbeats 1000000
namespace L2
open PySem PySem.Spec PyProof.Rows
section
variable {prog : Program} {w : World} {A : Around} {E : Value → Shared → Prop} {s : Shared}
end
structure TurnH (xa : Addr) (P : Program) (w : World) (K : PySem.W.Frag) (tg : Expr) (J : It) (fp : List Addr) (it : Addr) (tn : Nat → Heap → Prop) : Prop where
  mem : it ∈ fp
  obj : ∀ i h, tn i h → ∀ b ∈ fp, ∃ o, h.get? b = some o ∧ ∀ v, o.data ≠ .cell v
  keep : ∀ i h h', tn i h → (∀ b ∈ fp, ∀ o, h.get? b = some o → h'.get? b = some o) → tn i h'
  item : ∀ (X : Cx), X.prog = P → X.w = w → X.K = K → X.A.handled = some (.ref xa) → ∀ (i : Nat) (pins : List (Addr × Obj)) (s : Shared) (σ : St) (H : Hp) (E : Value → Shared → Prop), Inv X pins σ H s → (∀ b ∈ fp, FpOk X pins H b) → tn i s.heap → J.go i H →
    wpAny (model P w) X.A (pyNext (.ref it)) (fun r s1 => ∃ u, r = some u ∧ wpAny (model P w) X.A (letOwnedTupleGo tg (.ref it) u) (fun _ s2 => ∃ x H', Inv X pins σ H' s2 ∧ RelV x u ∧ J.yld i H x H' ∧ tn (i + 1) s2.heap ∧ ∀ b ∈ fp, H' b = none) E s1) E s
  done : ∀ (X : Cx), X.prog = P → X.w = w → X.K = K → X.A.handled = some (.ref xa) → ∀ (i : Nat) (pins : List (Addr × Obj)) (s : Shared) (σ : St) (H : Hp) (E : Value → Shared → Prop), Inv X pins σ H s → (∀ b ∈ fp, FpOk X pins H b) → tn i s.heap → J.stop i H → wpAny (model P w) X.A (pyNext (.ref it)) (fun r s1 => r = none ∧ Inv X pins σ H s1) E s
  self : ∀ (A : Around) (i : Nat) (s : Shared) (Q : Value → Shared → Prop) (E : Value → Shared → Prop), tn i s.heap → Q (.ref it) s → wpAny (model P w) A (pyIter (.ref it)) Q E s
section
variable {X : Cx}
end
end L2
set_option maxRecDepth 100000
set_option maxHeartbeats 1000000
namespace LP
end LP
namespace L2
open PySem PySem.Spec PyProof.Rows Builtin.Str LP
section
variable {X : Cx}
end
end L2
set_option maxRecDepth 100000
set_option maxHeartbeats 1000000
namespace L2
open PySem PySem.Spec PyProof.Rows
section
variable {X : Cx}
noncomputable def Ents : List DictEntry → List (Str × V) → Prop
  | [], [] => True
  | e :: es, p :: ps => (∃ t, e.key = .str p.1 t) ∧ RelV p.2 e.val ∧ Ents es ps
  | _, _ => False
noncomputable def topV : List (Str × V) → Str → Option V
  | [], _ => none
  | p :: r, z => if p.1 = z then some p.2 else topV r z
structure TopD (K : PySem.W.Frag) (P : Params) (a : Addr) (kvs : List (Str × V)) : Prop where
  ex : ∃ es n, K.lookup a = some ⟨.type "dict", none, .dict es n, #[]⟩ ∧ PySem.W.KeysLit P es.toList ∧ Ents es.toList kvs
  ns : (a == sysModules) = false
theorem ents_find {z : Str} : ∀ {es : List DictEntry} {kvs : List (Str × V)}, Ents es kvs → (∃ u v, (es.find? fun d => Value.isStrOf z d.key).map (·.val) = some u ∧ topV kvs z = some v ∧ RelV v u) ∨ ((es.find? fun d => Value.isStrOf z d.key).map (·.val) = none ∧ topV kvs z = none)
  | [], [], _ => .inr ⟨rfl, rfl⟩
  | e :: es, p :: ps, ⟨⟨t, hk⟩, hv, r⟩ => by
    unfold topV
    rw [List.find?_cons, hk]
    by_cases q : p.1 = z
    · have : Value.isStrOf z (.str p.1 t) = true := by
        subst q
        simp [Value.isStrOf]
      rw [this, if_pos q]
      exact .inl ⟨_, _, rfl, rfl, hv⟩
    · have : Value.isStrOf z (.str p.1 t) = false := by
        simp [Value.isStrOf, q]
      rw [this, if_neg q]
      exact ents_find r
  | [], _ :: _, h => h.elim
  | _ :: _, [], h => h.elim
theorem TopD.map {P : Program} {w : World} {K : PySem.W.Frag} {a : Addr} {kvs : List (Str × V)} {h : Heap} (D : TopD K w.params a kvs) (KX : K.In h) : ∃ f, h.MapOf (strKind P w) a f ∧ ∀ z, (∃ u v, f z = some u ∧ topV kvs z = some v ∧ RelV v u) ∨ (f z = none ∧ topV kvs z = none) := by
  obtain ⟨es, n, hl, hk, he⟩ := D.ex
  refine ⟨_, PySem.W.mapOf_K (prog := P) KX hl hk, fun z => ?_⟩
  have := ents_find (z := z) he
  obtain ⟨l⟩ := es
  unfold findBy
  rw [List.find?_toArray]
  exact this
structure TopT (K : PySem.W.Frag) (a : Addr) (xs : List V) : Prop where
  ex : ∃ (o : Obj) (its : Array Value) (n : Nat), K.lookup a = some o ∧ o.cls = .type "tuple" ∧ o.data = .seq its n ∧ its.size ≤ sizeLine ∧ Vals xs its.toList
structure TopF (K : PySem.W.Frag) (P : Params) (mg : Str → Option Value) (a : Addr) (kns : List (Str × Str)) : Prop where
  ex : ∃ kvs, TopD K P a kvs ∧ ∀ z nm, (kns.find? fun p => p.1 = z).map (·.2) = some nm → ∃ f, mg nm = some (.ref f) ∧ topV kvs z = some (.ref f)
end
structure FnZ0 (P : Program) (w : World) (K : PySem.W.Frag) (mg : Str → Option Value) (base : Heap) (k : Nat) (f : Addr) (fd : FuncData) (ps : List Str) (sp : Addr → Sp) : Prop where
  len : ∀ xa vs H Q E, sp xa vs H Q E → vs.length = ps.length
  run : ∀ (A : Around) (outer : List Env) (s : Shared) (H : Hp) (args : Args) (us : List Value) (vs : List V) (Q : VK) (xa : Addr), A.handled = some (.ref xa) → RoomW k A → Env0 P w K mg base A outer s H → BindsTo s fd args (ps.zip us) → Vals vs us → sp xa vs H Q E0 →
    codeAny (model P w) A (.call (.ref f) args) (CR CX0 outer P w H s Q E0) s
structure FnZ (P : Program) (w : World) (K : PySem.W.Frag) (mg : Str → Option Value) (base : Heap) (k : Nat) (x : Str) (ps : List Str) (sp : Addr → Sp) : Prop where
  ex : ∃ f fd, FnZ0 P w K mg base k f fd ps sp ∧ mg x = some (.ref f) ∧ PySem.W.keepIn K (.ref f) = true ∧ Binds K fd ps []
section
variable {P : Program} {w : World} {K : PySem.W.Frag} {mg : Str → Option Value} {base : Heap}
end
section
variable {X : Cx} {k : Nat} {x : Str} {ps : List Str} {sp : Addr → Sp} {p pos : Pos} {e : Expr} {es : List Expr} {t : TA}
end
end L2
set_option maxRecDepth 100000
set_option maxHeartbeats 1000000
namespace L2
open PySem PySem.Spec PyProof.Rows
section
variable {prog : Program} {w : World} {A : Around} {E : Value → Shared → Prop} {s : Shared} {z TI TO i1 i2 l1 l2 : Addr} {k1 k2 : Nat} {xs ys : Array Value}
end
end L2
set_option maxRecDepth 100000
set_option maxHeartbeats 1000000
namespace L2
open PySem PySem.Spec PyProof.Rows
section
variable {prog : Program} {w : World} {A : Around} {E : Value → Shared → Prop} {s : Shared} {z TI TO i1 i2 l1 l2 : Addr} {its ist : List Value} {ps : List (Key × Value)} {Q : Value → Shared → Prop}
end
section
variable {X : Cx}
end
end L2
set_option maxRecDepth 100000
set_option maxHeartbeats 1000000
namespace LD
open PySem L2 LP NumText
noncomputable def cd (s : String) : List Nat := L (Str.ofString s)
abbrev KeptT := List (List Nat × List Nat)
noncomputable def txK (kept : KeptT) : List (Key × V) := kept.map fun p => ((.inr (T p.1) : Key), V.str (T p.2))
noncomputable def IsName (n : List Nat) : Prop := 1 ≤ n.length ∧ n.length ≤ 8 ∧ ∀ c ∈ n, 97 ≤ c ∧ c ≤ 122
noncomputable def fsD (t : Addr) : List (Str × V) := [("texts", .ref t)]
noncomputable def IsDesk (C : Addr) (H : Hp) (o : Addr) (t : Addr) (kept : KeptT) : Prop := (∃ dx, H o = some (.ins C dx (fsD t))) ∧ H t = some (.dK (txK kept))
theorem IsDesk.same {C : Addr} {H H' : Hp} {o t : Addr} {kept : KeptT} (d : IsDesk C H o t kept) (s : SameN H H') : IsDesk C H' o t kept := by
  obtain ⟨⟨dx, h1⟩, h2⟩ := d
  exact ⟨⟨dx, s.at h1 (by intro ps z; cases z)⟩, s.at h2 (by intro ps z; cases z)⟩
end LD
set_option maxRecDepth 100000
set_option maxHeartbeats 1000000
namespace LD
open PySem L2 LP NumText
theorem IsDesk.put {C : Addr} {H H' : Hp} {o t : Addr} {kept kept' : KeptT} (d : IsDesk C H o t kept) (s : SameN (upd H t (.dK (txK kept'))) H') : IsDesk C H' o t kept' := by
  obtain ⟨⟨dx, h1⟩, h2⟩ := d
  have ne : o ≠ t := fun z => by
    rw [z, h2] at h1
    cases h1
  exact ⟨⟨dx, s.at ((upd_ne ne).trans h1) (by intro ps z; cases z)⟩, s.at upd_same (by intro ps z; cases z)⟩
theorem IsDesk.ne {C : Addr} {H : Hp} {o t b : Addr} {kept : KeptT} {u : HO} (d : IsDesk C H o t kept) (h : H b = some u) (hu : ∀ kvs, u ≠ .dK kvs) : b ≠ t := fun z => by
  rw [z, d.2] at h
  exact hu _ (Option.some.inj h).symm
noncomputable def NameF (n : List Nat) : Prop := ∃ p q b s, n = List.replicate p b ++ s :: List.replicate q b ∧ p + q < 8 ∧ 97 ≤ b ∧ b ≤ 122 ∧ 97 ≤ s ∧ s ≤ 122
theorem NameF.is {n : List Nat} (h : NameF n) : IsName n := by
  obtain ⟨p, q, b, s, rfl, h1, h2, h3, h4, h5⟩ := h
  refine ⟨by simp; omega, by simp; omega, fun c hc => ?_⟩
  simp only [List.mem_append, List.mem_cons, List.mem_replicate] at hc
  rcases hc with ⟨_, rfl⟩ | rfl | ⟨_, rfl⟩ <;> omega
noncomputable def nameB (n : List Nat) : Bool := decide (n.length ≤ 1) || n.any fun b => decide ((n.filter fun c => decide (c ≠ b)).length ≤ 1)
theorem NameF.b {n : List Nat} (h : NameF n) : nameB n = true := by
  obtain ⟨p, q, b, s, rfl, h1, h2⟩ := h
  unfold nameB
  by_cases e : p + q = 0
  · have hp : p = 0 := by omega
    have hq : q = 0 := by omega
    subst hp hq
    rfl
  · rw [Bool.or_eq_true, List.any_eq_true]
    refine .inr ⟨b, ?_, ?_⟩
    · simp only [List.mem_append, List.mem_cons, List.mem_replicate]
      by_cases hp : p = 0
      · exact .inr (.inr ⟨by omega, trivial⟩)
      · exact .inl ⟨hp, trivial⟩
    · rw [decide_eq_true_eq, List.filter_append, List.filter_cons]
      have f : ∀ m, (List.replicate m b).filter (fun c => decide (c ≠ b)) = [] := fun m => by
        rw [List.filter_eq_nil_iff]
        intro c hc
        simp [List.eq_of_mem_replicate hc]
      rw [f, f]
      split <;> simp
end LD
namespace L2
open PySem
end L2
set_option maxRecDepth 100000
namespace LB
open PySem PySem.W PyProof.Rows
noncomputable def gal : Bool → Keyed → Array Keyed → Nat → Nat → Nat → StateT SortSt Sem (Option Nat) := sortPriv% PySem.Builtin.gallop
noncomputable def mlo : Array Keyed → Array Keyed → StateT SortSt Sem (Array Keyed) := sortPriv% PySem.Builtin.mergeLo
noncomputable def mhi : Array Keyed → Array Keyed → StateT SortSt Sem (Array Keyed) := sortPriv% PySem.Builtin.mergeHi
structure Ks (st st' : SortSt) : Prop where
  kind : kindOf st' = kindOf st
  arr : arrOf st' = arrOf st
  pend : pendingOf st' = pendingOf st
  fail : failedOf st' = failedOf st
theorem Ks.refl (st : SortSt) : Ks st st := ⟨rfl, rfl, rfl, rfl⟩
theorem Ks.trans {a b c : SortSt} (x : Ks a b) (y : Ks b c) : Ks a c := ⟨y.kind.trans x.kind, y.arr.trans x.arr, y.pend.trans x.pend, y.fail.trans x.fail⟩
section
variable {prog : Program} {w : World} {A : Around} {E : Value → Shared → Prop} {s : Shared} {κ : SortKind} {it : Array Keyed} {O : KeyOrd} {key : Nat → O.α} {n : Nat}
noncomputable def Cmp (prog : Program) (w : World) (A : Around) (s : Shared) (κ : SortKind) (it : Array Keyed) (key : Nat → O.α) (n : Nat) : Prop :=
  ∀ i j, i < n → j < n → ∀ Q : Bool → Shared → Prop, Q (O.blt (key i) (key j)) s → wpAny (model prog w) A (keyLt' κ (kas_item it i).1 (kas_item it j).1) Q (fun _ _ => False) s
theorem lt_ok (hC : Cmp prog w A s κ it key n) {st : SortSt} (hk : kindOf st = κ) {i j : Nat} (hi : i < n) (hj : j < n) {Q : Option Bool → SortSt → Prop} (h : Q (some (O.blt (key i) (key j))) st) : wpS (model prog w) A E s (lt' (kas_item it i) (kas_item it j)) Q st := by
  rw [lt'_eq]
  refine wpS_bind (wpS_get ?_)
  rw [hk]
  refine wpS_bind (wpS_lift (wpAny_attempt (wpAny_mono (hC i j hi hj (fun a s' => s' = s ∧ a = O.blt (key i) (key j)) ⟨rfl, rfl⟩) ?_ fun _ _ z => z.elim)))
  rintro a s' ⟨rfl, rfl⟩
  exact ⟨rfl, wpS_pure h⟩
noncomputable def CmpR (prog : Program) (w : World) (A : Around) (s : Shared) (κ : SortKind) (it : Array Keyed) (key : Nat → O.α) (n : Nat) : Prop :=
  ∀ i j, j < i → i < n → ∀ Q : Bool → Shared → Prop, Q (O.blt (key i) (key j)) s → wpAny (model prog w) A (keyLt' κ (kas_item it i).1 (kas_item it j).1) Q (fun _ _ => False) s
theorem lt_okR (hC : CmpR prog w A s κ it key n) {st : SortSt} (hk : kindOf st = κ) {i j : Nat} (hj : j < i) (hi : i < n) {Q : Option Bool → SortSt → Prop} (h : Q (some (O.blt (key i) (key j))) st) : wpS (model prog w) A E s (lt' (kas_item it i) (kas_item it j)) Q st := by
  rw [lt'_eq]
  refine wpS_bind (wpS_get ?_)
  rw [hk]
  refine wpS_bind (wpS_lift (wpAny_attempt (wpAny_mono (hC i j hj hi (fun a s' => s' = s ∧ a = O.blt (key i) (key j)) ⟨rfl, rfl⟩) ?_ fun _ _ z => z.elim)))
  rintro a s' ⟨rfl, rfl⟩
  exact ⟨rfl, wpS_pure h⟩
noncomputable def AL (it : Array Keyed) (l : List Nat) : Array Keyed := (l.map (kas_item it)).toArray
theorem AL_size (l : List Nat) : (AL it l).size = l.length := by simp [AL]
theorem AL_get {l : List Nat} {i : Nat} (hi : i < l.length) : (AL it l)[i]? = some (kas_item it (l.getD i 0)) := by
  simp [AL, hi, List.getD_eq_getElem?_getD]
theorem AL_push (l : List Nat) (x : Nat) : (AL it l).push (kas_item it x) = AL it (l ++ [x]) := by simp [AL]
theorem AL_app (l m : List Nat) : AL it l ++ AL it m = AL it (l ++ m) := by simp [AL]
theorem AL_ext (l : List Nat) (i j : Nat) : (AL it l).extract i j = AL it ((l.drop i).take (j - i)) := by
  simp [AL, List.extract_eq_take_drop, List.map_drop, List.map_take]
theorem AL_rev (l : List Nat) : (AL it l).reverse = AL it l.reverse := by simp [AL]
theorem elem_ok {l : List Nat} {i : Nat} (hi : i < l.length) {st : SortSt} {Q : Keyed → SortSt → Prop} (h : Q (kas_item it (l.getD i 0)) st) : wpS (model prog w) A E s (elem' (AL it l) i) Q st := by
  rw [elem'_eq, AL_get hi]
  exact wpS_pure h
noncomputable def bey (key : Nat → O.α) (left : Bool) (x y : Nat) : Bool := if left then O.blt (key y) (key x) else !O.blt (key x) (key y)
noncomputable def Bhd : Bool → Nat → Nat → Prop
  | true, x, y => x < y
  | false, x, y => y < x
theorem bey_ok (hC : CmpR prog w A s κ it key n) {left : Bool} {x : Nat} {l : List Nat} {b i : Nat} (hl : ∀ y ∈ l, y < n) (hx : x < n) (hi : b + i < l.length) (hd : Bhd left x (l.getD (b + i) 0)) {st : SortSt} (hk : kindOf st = κ) {Q : Option Bool → SortSt → Prop} (h : Q (some (bey key left x (l.getD (b + i) 0))) st) :
    wpS (model prog w) A E s (elem' (AL it l) (b + i) >>= fun z => if left = true then lt' z (kas_item it x) else lt' (kas_item it x) z >>= fun r => pure (Option.map (fun x => !x) r)) Q st := by
  have hy : l.getD (b + i) 0 < n := by
    refine hl _ ?_
    rw [List.getD_eq_getElem?_getD, List.getElem?_eq_getElem hi]
    simp
  refine wpS_bind (elem_ok hi ?_)
  unfold bey at h
  cases left with
  | true => exact lt_okR hC hk hd hy h
  | false => exact wpS_bind (lt_okR hC hk hd hx (wpS_pure h))
theorem bs_ok {M : Model} (P : Nat → Bool) {m : Nat} {st : SortSt} {f : Nat → Option (Option Nat) × Nat × Nat → StateT SortSt Sem (ForInStep (Option (Option Nat) × Nat × Nat))}
    (f1 : ∀ i lo hi, lo ≥ hi → wpS M A E s (f i (none, lo, hi)) (fun r st' => st' = st ∧ r = .done (none, lo, hi)) st)
    (f2 : ∀ i lo hi, lo < hi → hi ≤ m → wpS M A E s (f i (none, lo, hi)) (fun r st' => st' = st ∧ r = .yield (if P (lo + (hi - lo) / 2) = true then (none, lo + (hi - lo) / 2 + 1, hi) else (none, lo, lo + (hi - lo) / 2))) st)
    (mono : ∀ i j, i ≤ j → j < m → P j = true → P i = true) {lo hi : Nat} (h1 : lo ≤ hi) (h2 : hi ≤ m) (h3 : ∀ i, i < lo → P i = true) (h4 : ∀ i, hi ≤ i → i < m → P i = false) :
    wpS M A E s (forIn [0:m] ((none, lo, hi) : Option (Option Nat) × Nat × Nat) f) (fun c st' => st' = st ∧ ∃ k lo', c = (none, lo', k) ∧ k ≤ m ∧ (∀ i, i < k → P i = true) ∧ ∀ i, k ≤ i → i < m → P i = false) st := by
  refine wpS_forRange (I := fun x c st' => st' = st ∧ ∃ lo hi, c = (none, lo, hi) ∧ lo ≤ hi ∧ hi ≤ m ∧ hi - lo ≤ m - x ∧ (∀ i, i < lo → P i = true) ∧ ∀ i, hi ≤ i → i < m → P i = false) ?_ ?_ ⟨rfl, lo, hi, rfl, h1, h2, by omega, h3, h4⟩
  · rintro x c st' _ hx ⟨rfl, lo, hi, rfl, h1, h2, h5, h3, h4⟩
    rcases Nat.lt_or_ge lo hi with h | h
    · refine wpS_mono (f2 x lo hi h h2) ?_
      rintro r st' ⟨rfl, rfl⟩
      refine ⟨rfl, ?_⟩
      by_cases e : P (lo + (hi - lo) / 2) = true
      · rw [if_pos e]
        exact ⟨_, _, rfl, by omega, h2, by omega, fun i hi' => mono i _ (by omega) (by omega) e, h4⟩
      · rw [if_neg e]
        refine ⟨_, _, rfl, by omega, by omega, by omega, h3, fun i hi' hm => ?_⟩
        cases e2 : P i with
        | false => rfl
        | true => exact absurd (mono _ i hi' hm e2) e
    · refine wpS_mono (f1 x lo hi h) ?_
      rintro r st' ⟨rfl, rfl⟩
      have : lo = hi := by omega
      subst this
      exact ⟨rfl, lo, lo, rfl, h2, h3, h4⟩
  · rintro c st' ⟨rfl, lo, hi, rfl, h1, h2, h5, h3, h4⟩
    have : lo = hi := by omega
    subst this
    exact ⟨rfl, lo, lo, rfl, h2, h3, h4⟩
theorem gal_ok (hC : CmpR prog w A s κ it key n) {left : Bool} {x : Nat} {l : List Nat} {b m h : Nat} (hl : ∀ y ∈ l, y < n) (hx : x < n) (hb : b + m ≤ l.length) (hh : h < m) (hd : ∀ i, i < m → Bhd left x (l.getD (b + i) 0)) {st : SortSt} (hk : kindOf st = κ) {Q : Option Nat → SortSt → Prop}
    (mono : ∀ i j, i ≤ j → j < m → bey key left x (l.getD (b + j) 0) = true → bey key left x (l.getD (b + i) 0) = true)
    (q : ∀ k, k ≤ m → (∀ i, i < k → bey key left x (l.getD (b + i) 0) = true) → (∀ i, k ≤ i → i < m → bey key left x (l.getD (b + i) 0) = false) → Q (some k) st) :
    wpS (model prog w) A E s (gal left (kas_item it x) (AL it l) b m h) Q st := by
  unfold gal
  refine wpS_bind (bey_ok hC hl hx (by omega) (hd _ (by omega)) hk ?_)
  dsimp only
  have neg : ∀ {i j}, i ≤ j → j < m → bey key left x (l.getD (b + i) 0) = false → bey key left x (l.getD (b + j) 0) = false := fun {i j} h1 h2 h3 => by
    cases e : bey key left x (l.getD (b + j) 0) with
    | false => rfl
    | true => rw [mono i j h1 h2 e] at h3; cases h3
  cases e0 : bey key left x (l.getD (b + h) 0) with
  | true =>
    rw [if_pos rfl]
    refine wpS_bind (wpS_mono (wpS_forRange (I := fun i c st' => st' = st ∧ ∃ lo o, c = (none, lo, o) ∧ lo < o ∧ i + 1 ≤ o ∧ h + lo < m ∧ bey key left x (l.getD (b + (h + lo)) 0) = true)
      (Q := fun c st' => st' = st ∧ ∃ lo o, c = (none, lo, o) ∧ lo < o ∧ h + lo < m ∧ bey key left x (l.getD (b + (h + lo)) 0) = true ∧ (m - h ≤ o ∨ h + o < m ∧ bey key left x (l.getD (b + (h + o)) 0) = false)) ?_ ?_ ⟨rfl, 0, 1, rfl, by omega, by omega, by omega, e0⟩) ?_)
    · rintro i c st' _ hi ⟨rfl, lo, o, rfl, h1, h2, h3, h4⟩
      dsimp only
      by_cases ho : o ≥ m - h
      · rw [if_pos ho]
        exact wpS_pure ⟨rfl, lo, o, rfl, h1, h3, h4, .inl ho⟩
      · rw [if_neg ho]
        refine wpS_bind (bey_ok hC hl hx (by omega) (hd _ (by omega)) hk ?_)
        dsimp only
        cases e1 : bey key left x (l.getD (b + (h + o)) 0) with
        | true =>
          exact wpS_pure ⟨rfl, o, 2 * o + 1, rfl, by omega, by omega, by omega, e1⟩
        | false =>
          exact wpS_pure ⟨rfl, lo, o, rfl, h1, h3, h4, .inr ⟨by omega, e1⟩⟩
    · rintro c st' ⟨rfl, lo, o, rfl, h1, h2, h3, h4⟩
      exact ⟨rfl, lo, o, rfl, h1, h3, h4, .inl (by omega)⟩
    · rintro c st' ⟨rfl, lo, o, rfl, h1, h3, h4, h5⟩
      dsimp only
      refine wpS_bind (wpS_mono (bs_ok (fun i => bey key left x (l.getD (b + i) 0)) (m := m) (fun i lo hi hge => ?_) (fun i lo hi hlt hm => ?_) mono (by omega) (by omega) (fun i hi => mono i _ (by omega) h3 h4) fun i hi hm => ?_) ?_)
      · dsimp only
        rw [if_pos hge]
        exact wpS_pure ⟨rfl, rfl⟩
      · dsimp only
        rw [if_neg (by omega)]
        refine wpS_bind (bey_ok hC hl hx (by omega) (hd _ (by omega)) hk ?_)
        dsimp only
        cases bey key left x (l.getD (b + (lo + (hi - lo) / 2)) 0) <;> exact wpS_pure ⟨rfl, rfl⟩
      · rcases h5 with h5 | ⟨h5, h6⟩
        · omega
        · exact neg (by omega) hm h6
      · rintro c st' ⟨rfl, k, lo', rfl, k1, k2, k3⟩
        exact wpS_pure (q k k1 k2 k3)
  | false =>
    rw [if_neg Bool.false_ne_true]
    refine wpS_bind (wpS_mono (wpS_forRange (I := fun i c st' => st' = st ∧ ∃ lo o, c = (none, lo, o) ∧ lo < o ∧ i + 1 ≤ o ∧ lo ≤ h ∧ bey key left x (l.getD (b + (h - lo)) 0) = false)
      (Q := fun c st' => st' = st ∧ ∃ lo o, c = (none, lo, o) ∧ lo < o ∧ lo ≤ h ∧ bey key left x (l.getD (b + (h - lo)) 0) = false ∧ (h + 1 ≤ o ∨ o ≤ h ∧ bey key left x (l.getD (b + (h - o)) 0) = true)) ?_ ?_ ⟨rfl, 0, 1, rfl, by omega, by omega, by omega, e0⟩) ?_)
    · rintro i c st' _ hi ⟨rfl, lo, o, rfl, h1, h2, h3, h4⟩
      dsimp only
      by_cases ho : o ≥ h + 1
      · rw [if_pos ho]
        exact wpS_pure ⟨rfl, lo, o, rfl, h1, h3, h4, .inl ho⟩
      · rw [if_neg ho]
        refine wpS_bind (bey_ok hC hl hx (by omega) (hd _ (by omega)) hk ?_)
        dsimp only
        cases e1 : bey key left x (l.getD (b + (h - o)) 0) with
        | false =>
          exact wpS_pure ⟨rfl, o, 2 * o + 1, rfl, by omega, by omega, by omega, e1⟩
        | true =>
          exact wpS_pure ⟨rfl, lo, o, rfl, h1, h3, h4, .inr ⟨by omega, e1⟩⟩
    · rintro c st' ⟨rfl, lo, o, rfl, h1, h2, h3, h4⟩
      exact ⟨rfl, lo, o, rfl, h1, h3, h4, .inl (by omega)⟩
    · rintro c st' ⟨rfl, lo, o, rfl, h1, h3, h4, h5⟩
      dsimp only
      refine wpS_bind (wpS_mono (bs_ok (fun i => bey key left x (l.getD (b + i) 0)) (m := m) (fun i lo hi hge => ?_) (fun i lo hi hlt hm => ?_) mono (by omega) (by omega) (fun i hi => ?_) fun i hi hm => neg hi hm h4) ?_)
      · dsimp only
        rw [if_pos hge]
        exact wpS_pure ⟨rfl, rfl⟩
      · dsimp only
        rw [if_neg (by omega)]
        refine wpS_bind (bey_ok hC hl hx (by omega) (hd _ (by omega)) hk ?_)
        dsimp only
        cases bey key left x (l.getD (b + (lo + (hi - lo) / 2)) 0) <;> exact wpS_pure ⟨rfl, rfl⟩
      · rcases h5 with h5 | ⟨h5, h6⟩
        · omega
        · exact mono i _ (by omega) (by omega) h6
      · rintro c st' ⟨rfl, k, lo', rfl, k1, k2, k3⟩
        exact wpS_pure (q k k1 k2 k3)
end
end LB
set_option maxRecDepth 100000
namespace LB
open PySem PySem.W PyProof.Rows
section
variable {prog : Program} {w : World} {A : Around} {E : Value → Shared → Prop} {s : Shared} {κ : SortKind} {it : Array Keyed} {O : KeyOrd} {key : Nat → O.α} {n : Nat}
noncomputable def Srt (key : Nat → O.α) (l : List Nat) : Prop := l.Pairwise fun i j => O.kle (key i) (key j)
theorem Srt.get {l : List Nat} (h : Srt key l) {i j : Nat} (hij : i ≤ j) (hj : j < l.length) : O.kle (key (l.getD i 0)) (key (l.getD j 0)) := by
  rcases Nat.lt_or_ge i j with w | w
  · have := List.pairwise_iff_getElem.mp h i j (by omega) hj w
    rw [List.getD_eq_getElem?_getD, List.getD_eq_getElem?_getD, List.getElem?_eq_getElem hj, List.getElem?_eq_getElem (show i < l.length by omega)]
    exact this
  · have : i = j := by omega
    subst this
    exact KeyOrd.kle_refl _
theorem Srt.app {l m : List Nat} (h : Srt key l) (h' : Srt key m) (hh : ∀ x ∈ l, ∀ y ∈ m, O.kle (key x) (key y)) : Srt key (l ++ m) := List.pairwise_append.mpr ⟨h, h', hh⟩
theorem Srt.sub {l m : List Nat} (h : Srt key l) (s : List.Sublist m l) : Srt key m := List.Pairwise.sublist s h
structure Mg (key : Nat → O.α) (la lb : List Nat) (lo : List Nat) (ia ib : Nat) : Prop where
  srt : Srt key lo
  lea : ∀ x ∈ lo, ∀ y ∈ la.drop ia, O.kle (key x) (key y)
  leb : ∀ x ∈ lo, ∀ y ∈ lb.drop ib, O.kle (key x) (key y)
  perm : (lo ++ (la.drop ia ++ lb.drop ib)).Perm (la ++ lb)
section
variable {la lb lo : List Nat} {ia ib : Nat}
theorem Mg.outA (h : Mg key la lb lo ia ib) (sa : Srt key la) (k : Nat) (hh : ∀ x ∈ (la.drop ia).take k, ∀ y ∈ lb.drop ib, O.kle (key x) (key y)) : Mg key la lb (lo ++ (la.drop ia).take k) (ia + k) ib := by
  have e : (la.drop ia).take k ++ la.drop (ia + k) = la.drop ia := by rw [← List.drop_drop, List.take_append_drop]
  have sd : Srt key ((la.drop ia).take k ++ la.drop (ia + k)) := by rw [e]; exact sa.sub (List.drop_sublist _ _)
  obtain ⟨s1, s2, s3⟩ := List.pairwise_append.mp sd
  refine ⟨h.srt.app s1 fun x hx y hy => h.lea x hx y (List.mem_of_mem_take hy), fun x hx y hy => ?_, fun x hx y hy => ?_, ?_⟩
  · rcases List.mem_append.mp hx with hx | hx
    · exact h.lea x hx y (by rw [← e]; exact List.mem_append_right _ hy)
    · exact s3 x hx y hy
  · rcases List.mem_append.mp hx with hx | hx
    · exact h.leb x hx y hy
    · exact hh x hx y hy
  · refine List.Perm.trans (List.Perm.of_eq ?_) h.perm
    rw [← e, List.append_assoc, List.append_assoc]
    simp only [e]
theorem Mg.outB (h : Mg key la lb lo ia ib) (sb : Srt key lb) (k : Nat) (hh : ∀ x ∈ (lb.drop ib).take k, ∀ y ∈ la.drop ia, O.kle (key x) (key y)) : Mg key la lb (lo ++ (lb.drop ib).take k) ia (ib + k) := by
  have e : (lb.drop ib).take k ++ lb.drop (ib + k) = lb.drop ib := by rw [← List.drop_drop, List.take_append_drop]
  have sd : Srt key ((lb.drop ib).take k ++ lb.drop (ib + k)) := by rw [e]; exact sb.sub (List.drop_sublist _ _)
  obtain ⟨s1, s2, s3⟩ := List.pairwise_append.mp sd
  refine ⟨h.srt.app s1 fun x hx y hy => h.leb x hx y (List.mem_of_mem_take hy), fun x hx y hy => ?_, fun x hx y hy => ?_, ?_⟩
  · rcases List.mem_append.mp hx with hx | hx
    · exact h.lea x hx y hy
    · exact hh x hx y hy
  · rcases List.mem_append.mp hx with hx | hx
    · exact h.leb x hx y (by rw [← e]; exact List.mem_append_right _ hy)
    · exact s3 x hx y hy
  · refine List.Perm.trans ?_ h.perm
    rw [List.append_assoc]
    refine List.Perm.append_left lo ?_
    rw [← List.append_assoc]
    refine List.Perm.trans (List.Perm.append_right _ List.perm_append_comm) ?_
    rw [List.append_assoc, e]
theorem take1 {l : List Nat} {i : Nat} (h : i < l.length) : (l.drop i).take 1 = [l.getD i 0] := by
  rw [List.drop_eq_getElem_cons h, List.take_succ_cons, List.take_zero, List.getD_eq_getElem?_getD, List.getElem?_eq_getElem h]
  rfl
theorem mem_drop {l : List Nat} {i : Nat} {y : Nat} (h : y ∈ l.drop i) : ∃ j, i ≤ j ∧ j < l.length ∧ y = l.getD j 0 := by
  obtain ⟨k, hk, e⟩ := List.mem_iff_getElem.mp h
  rw [List.length_drop] at hk
  refine ⟨i + k, by omega, by omega, ?_⟩
  rw [List.getElem_drop] at e
  rw [List.getD_eq_getElem?_getD, List.getElem?_eq_getElem (by omega), ← e]
  rfl
theorem mem_dt {l : List Nat} {i k : Nat} {y : Nat} (h : y ∈ (l.drop i).take k) : ∃ j, i ≤ j ∧ j < l.length ∧ j < i + k ∧ y = l.getD j 0 := by
  obtain ⟨j, hj, e⟩ := List.mem_iff_getElem.mp h
  rw [List.length_take, List.length_drop] at hj
  refine ⟨i + j, by omega, by omega, by omega, ?_⟩
  rw [List.getElem_take, List.getElem_drop] at e
  rw [List.getD_eq_getElem?_getD, List.getElem?_eq_getElem (by omega), ← e]
  rfl
end
theorem AL_tail (l : List Nat) (i : Nat) : (AL it l).extract i l.length = AL it (l.drop i) := by
  rw [AL_ext, List.take_of_length_le (by rw [List.length_drop]; exact Nat.le_refl _)]
theorem AL_part (l : List Nat) (i k : Nat) : (AL it l).extract i (i + k) = AL it ((l.drop i).take k) := by
  rw [AL_ext, Nat.add_sub_cancel_left]
theorem AL_one (x : Nat) : #[kas_item it x] = AL it [x] := rfl
noncomputable def Res (it : Array Keyed) (key : Nat → O.α) (la lb : List Nat) (r : Array Keyed) : Prop := ∃ m, r = AL it m ∧ m.Perm (la ++ lb) ∧ Srt key m
section
variable {la lb lo : List Nat} {ia ib : Nat}
theorem Mg.stepA (h : Mg key la lb lo ia ib) (sa : Srt key la) (hi : ia < la.length) (hh : ∀ y ∈ lb.drop ib, O.kle (key (la.getD ia 0)) (key y)) : Mg key la lb (lo ++ [la.getD ia 0]) (ia + 1) ib := by
  rw [← take1 hi]
  refine h.outA sa 1 fun x hx => ?_
  rw [take1 hi] at hx
  rw [List.mem_singleton.mp hx]
  exact hh
theorem Mg.stepB (h : Mg key la lb lo ia ib) (sb : Srt key lb) (hi : ib < lb.length) (hh : ∀ y ∈ la.drop ia, O.kle (key (lb.getD ib 0)) (key y)) : Mg key la lb (lo ++ [lb.getD ib 0]) ia (ib + 1) := by
  rw [← take1 hi]
  refine h.outB sb 1 fun x hx => ?_
  rw [take1 hi] at hx
  rw [List.mem_singleton.mp hx]
  exact hh
theorem Mg.fin1 (h : Mg key la lb lo ia ib) (sa : Srt key la) (sb : Srt key lb) (hi : ia = la.length ∨ ib = lb.length) : Res it key la lb (AL it lo ++ (AL it la).extract ia la.length ++ (AL it lb).extract ib lb.length) := by
  rw [AL_tail, AL_tail, AL_app, AL_app, List.append_assoc]
  refine ⟨_, rfl, h.perm, ?_⟩
  rcases hi with rfl | rfl
  · rw [List.drop_length, List.nil_append]
    exact h.srt.app (sb.sub (List.drop_sublist _ _)) h.leb
  · rw [List.drop_length, List.append_nil]
    exact h.srt.app (sa.sub (List.drop_sublist _ _)) h.lea
theorem Mg.fin2 (h : Mg key la lb lo ia ib) (sb : Srt key lb) (h1 : ∀ y ∈ lb, O.kle (key y) (key (la.getD (la.length - 1) 0))) (hi : ia + 1 = la.length) : Res it key la lb (AL it lo ++ (AL it lb).extract ib lb.length ++ (AL it la).extract ia la.length) := by
  rw [AL_tail, AL_tail, AL_app, AL_app]
  refine ⟨_, rfl, ?_, ?_⟩
  · rw [List.append_assoc]
    exact List.Perm.trans (List.Perm.append_left lo List.perm_append_comm) h.perm
  · have e : la.drop ia = [la.getD (la.length - 1) 0] := by
      rw [← List.take_of_length_le (l := la.drop ia) (i := 1) (by rw [List.length_drop]; omega), take1 (by omega), show la.length - 1 = ia by omega]
    rw [e]
    refine (h.srt.app (sb.sub (List.drop_sublist _ _)) h.leb).app (List.pairwise_singleton _ _) fun x hx y hy => ?_
    rw [List.mem_singleton.mp hy]
    rcases List.mem_append.mp hx with hx | hx
    · exact h.lea x hx _ (by rw [e]; exact List.mem_singleton.mpr rfl)
    · exact h1 x (List.mem_of_mem_drop hx)
end
noncomputable def In (it : Array Keyed) (key : Nat → O.α) (la lb : List Nat) (out : Array Keyed) (ia ib : Nat) : Prop := ∃ lo, out = AL it lo ∧ Mg key la lb lo ia ib ∧ ia + 1 < la.length ∧ ib < lb.length
theorem getD_mem {l : List Nat} {i : Nat} (h : i < l.length) : l.getD i 0 ∈ l := by
  rw [List.getD_eq_getElem?_getD, List.getElem?_eq_getElem h]
  exact List.getElem_mem h
noncomputable def setG : Nat → StateT SortSt Sem Unit := sortPriv% PySem.Builtin.setMinGallop
theorem setG_ok {M : Model} {g : Nat} {st : SortSt} {Q : Unit → SortSt → Prop} (h : ∀ st', Ks st st' → Q () st') : wpS M A E s (setG g) Q st := wpS_modify (h _ ⟨rfl, rfl, rfl, rfl⟩)
theorem wpS_ifeq {M : Model} {α : Type} {a b : Nat} {x y : StateT SortSt Sem α} {Q : α → SortSt → Prop} {st : SortSt} (h1 : a = b → wpS M A E s x Q st) (h2 : a ≠ b → wpS M A E s y Q st) : wpS M A E s (if (a == b) = true then x else y) Q st := by
  by_cases e : a = b
  · rw [if_pos (by simpa using e)]
    exact h1 e
  · rw [if_neg (by simpa using e)]
    exact h2 e
theorem wpS_if {M : Model} {α : Type} {c : Prop} [Decidable c] {x y : StateT SortSt Sem α} {Q : α → SortSt → Prop} {st : SortSt} (h1 : c → wpS M A E s x Q st) (h2 : ¬ c → wpS M A E s y Q st) : wpS M A E s (if c then x else y) Q st := by
  by_cases e : c
  · rw [if_pos e]
    exact h1 e
  · rw [if_neg e]
    exact h2 e
theorem monoF {l : List Nat} (sl : Srt key l) {x b m : Nat} (hb : b + m ≤ l.length) (i j : Nat) (hij : i ≤ j) (hj : j < m) (h : bey key false x (l.getD (b + j) 0) = true) : bey key false x (l.getD (b + i) 0) = true := by
  have h : (!O.blt (key x) (key (l.getD (b + j) 0))) = true := h
  show (!O.blt (key x) (key (l.getD (b + i) 0))) = true
  rw [Bool.not_eq_true'] at h ⊢
  exact KeyOrd.kle_trans (sl.get (by omega) (by omega)) h
theorem monoT {l : List Nat} (sl : Srt key l) {x b m : Nat} (hb : b + m ≤ l.length) (i j : Nat) (hij : i ≤ j) (hj : j < m) (h : bey key true x (l.getD (b + j) 0) = true) : bey key true x (l.getD (b + i) 0) = true := by
  have h : O.klt (key (l.getD (b + j) 0)) (key x) := h
  have g : O.kle (key (l.getD (b + i) 0)) (key (l.getD (b + j) 0)) := sl.get (by omega) (by omega)
  show O.blt (key (l.getD (b + i) 0)) (key x) = true
  rcases O.negTrans _ (key (l.getD (b + i) 0)) _ h with w | w
  · rw [show O.blt (key (l.getD (b + j) 0)) (key (l.getD (b + i) 0)) = false from g] at w
    cases w
  · exact w
theorem bey_le {left : Bool} {x y : Nat} (h : bey key left x y = true) : O.kle (key y) (key x) := by
  cases left with
  | true => exact KeyOrd.kle_of_klt h
  | false =>
    have h : (!O.blt (key x) (key y)) = true := h
    rw [Bool.not_eq_true'] at h
    exact h
theorem bey_ge {left : Bool} {x y : Nat} (h : bey key left x y = false) : O.kle (key x) (key y) := by
  cases left with
  | true => exact h
  | false =>
    have h : (!O.blt (key x) (key y)) = false := h
    rw [Bool.not_eq_false'] at h
    exact KeyOrd.kle_of_klt h
theorem take_b {left : Bool} {l : List Nat} {x b k : Nat} (h : ∀ i, i < k → bey key left x (l.getD (b + i) 0) = true) (y : Nat) (hy : y ∈ (l.drop b).take k) : O.kle (key y) (key x) := by
  obtain ⟨i, i1, i2, i3, rfl⟩ := mem_dt hy
  have := bey_le (h (i - b) (by omega))
  rwa [show b + (i - b) = i by omega] at this
theorem drop_b {left : Bool} {l : List Nat} {x b k m : Nat} (hm : l.length ≤ b + m) (h : ∀ i, k ≤ i → i < m → bey key left x (l.getD (b + i) 0) = false) (y : Nat) (hy : y ∈ l.drop (b + k)) : O.kle (key x) (key y) := by
  obtain ⟨i, i1, i2, rfl⟩ := mem_drop hy
  have := bey_ge (h (i - b) (by omega) (by omega))
  rwa [show b + (i - b) = i by omega] at this
theorem Srt.head {l : List Nat} (h : Srt key l) {i y : Nat} (hy : y ∈ l.drop i) : O.kle (key (l.getD i 0)) (key y) := by
  obtain ⟨j, j1, j2, rfl⟩ := mem_drop hy
  exact h.get j1 j2
theorem mlo_ok (hC : CmpR prog w A s κ it key n) {la lb : List Nat} (ha : ∀ y ∈ la, y < n) (hb : ∀ y ∈ lb, y < n) (sa : Srt key la) (sb : Srt key lb) (na : la ≠ []) (nb : lb ≠ []) (hd : ∀ x ∈ la, ∀ y ∈ lb, x < y)
    (h0 : ∀ y ∈ la, O.kle (key (lb.getD 0 0)) (key y)) (h1 : ∀ y ∈ lb, O.kle (key y) (key (la.getD (la.length - 1) 0))) {st : SortSt} (hk : kindOf st = κ) {Q : Array Keyed → SortSt → Prop}
    (q : ∀ m st', Ks st st' → m.Perm (la ++ lb) → Srt key m → Q (AL it m) st') : wpS (model prog w) A E s (mlo (AL it la) (AL it lb)) Q st := by
  unfold mlo
  have la0 : 0 < la.length := List.length_pos_iff.mpr na
  have lb0 : 0 < lb.length := List.length_pos_iff.mpr nb
  have qr : ∀ r st', Ks st st' → Res it key la lb r → Q r st' := fun r st' ks ⟨m, e, p, sm⟩ => e ▸ q m st' ks p sm
  have m0 : Mg key la lb [lb.getD 0 0] 0 1 := by
    have := Mg.stepB (key := key) (la := la) (lb := lb) (lo := []) (ia := 0) (ib := 0) ⟨List.Pairwise.nil, (fun x hx => by cases hx), (fun x hx => by cases hx), List.Perm.refl _⟩ sb lb0 (by rw [List.drop_zero]; exact h0)
    exact this
  refine wpS_bind (wpS_lift (wpAny_rule ⟨rfl, ?_⟩))
  refine wpS_bind (elem_ok lb0 ?_)
  dsimp only
  simp only [AL_size, AL_one]
  by_cases c1 : 1 = lb.length
  · rw [if_pos (by simpa using c1)]
    exact wpS_pure (qr _ _ (Ks.refl _) (m0.fin1 sa sb (.inr c1)))
  rw [if_neg (by simpa using c1)]
  by_cases c2 : 0 + 1 = la.length
  · rw [if_pos (by simpa using c2)]
    exact wpS_pure (qr _ _ (Ks.refl _) (m0.fin2 sb h1 c2))
  rw [if_neg (by simpa using c2)]
  refine wpS_bind (wpS_get ?_)
  refine wpS_bind (wpS_mono (wpS_forRange (I := fun i c st' => Ks st st' ∧ c.1 = none ∧ In it key la lb c.2.1 c.2.2.1 c.2.2.2.1 ∧ i + 1 ≤ c.2.2.1 + c.2.2.2.1)
    (Q := fun c st' => Ks st st' ∧ ∃ r, c.1 = some r ∧ Res it key la lb r) ?_ ?_ ⟨Ks.refl _, rfl, ⟨_, rfl, m0, by dsimp only; omega, by dsimp only; omega⟩, by dsimp only; omega⟩) ?_)
  · rintro i ⟨ret, out, ia, ib, mg⟩ st1 _ hi ⟨ks1, r1, hin, cnt⟩
    dsimp only at r1 hin cnt ⊢
    subst r1
    refine wpS_bind (wpS_mono (wpS_forRange (I := fun i c st' => Ks st st' ∧ c.1 = none ∧ In it key la lb c.2.1 c.2.2.1 c.2.2.2.1 ∧ ia + ib + i ≤ c.2.2.1 + c.2.2.2.1)
      (Q := fun c st' => Ks st st' ∧ ((∃ r, c.1 = some r ∧ Res it key la lb r) ∨ c.1 = none ∧ In it key la lb c.2.1 c.2.2.1 c.2.2.2.1 ∧ ia + ib + 1 ≤ c.2.2.1 + c.2.2.2.1)) ?_ ?_ ⟨ks1, rfl, hin, by show ia + ib + 0 ≤ ia + ib; omega⟩) ?_)
    · rintro j ⟨ret, out, ja, jb, ac, bc⟩ st2 _ hj ⟨ks2, r2, ⟨lo, rfl, mg2, d1, d2⟩, cnt2⟩
      dsimp only at r2 d1 d2 cnt2 mg2 ⊢
      subst r2
      refine wpS_bind (elem_ok d2 (wpS_bind (elem_ok (by omega) (wpS_bind (lt_okR hC (ks2.kind.trans hk) (hd _ (getD_mem (by omega)) _ (getD_mem d2)) (hb _ (getD_mem d2)) ?_)))))
      dsimp only
      cases e : O.blt (key (lb.getD jb 0)) (key (la.getD ja 0)) with
      | true =>
        rw [if_pos rfl]
        refine wpS_bind (elem_ok d2 ?_)
        have mg3 := mg2.stepB sb d2 fun y hy => KeyOrd.kle_trans (KeyOrd.kle_of_klt e) (sa.head hy)
        simp only [AL_push]
        by_cases c3 : jb + 1 = lb.length
        · rw [if_pos (by simpa using c3)]
          exact wpS_pure ⟨ks2, .inl ⟨_, rfl, mg3.fin1 sa sb (.inr c3)⟩⟩
        rw [if_neg (by simpa using c3)]
        split
        · exact wpS_pure ⟨ks2, .inr ⟨rfl, ⟨_, rfl, mg3, d1, by dsimp only; omega⟩, by show ia + ib + 1 ≤ ja + (jb + 1); omega⟩⟩
        · exact wpS_pure ⟨ks2, rfl, ⟨_, rfl, mg3, d1, by dsimp only; omega⟩, by show ia + ib + (j + 1) ≤ ja + (jb + 1); omega⟩
      | false =>
        rw [if_neg Bool.false_ne_true]
        refine wpS_bind (elem_ok (show ja < la.length by omega) ?_)
        have mg3 := mg2.stepA sa (by omega) fun y hy => KeyOrd.kle_trans e (sb.head hy)
        simp only [AL_push]
        by_cases c3 : ja + 1 + 1 = la.length
        · rw [if_pos (by simpa using c3)]
          exact wpS_pure ⟨ks2, .inl ⟨_, rfl, mg3.fin2 sb h1 c3⟩⟩
        rw [if_neg (by simpa using c3)]
        split
        · exact wpS_pure ⟨ks2, .inr ⟨rfl, ⟨_, rfl, mg3, by dsimp only; omega, d2⟩, by show ia + ib + 1 ≤ ja + 1 + jb; omega⟩⟩
        · exact wpS_pure ⟨ks2, rfl, ⟨_, rfl, mg3, by dsimp only; omega, d2⟩, by show ia + ib + (j + 1) ≤ ja + 1 + jb; omega⟩
    · rintro c st2 ⟨ks2, r2, hin2, cnt2⟩
      exact ⟨ks2, .inr ⟨r2, hin2, by omega⟩⟩
    · rintro ⟨ret, out, ja, jb, ac, bc⟩ st2 ⟨ks2, ⟨r, r2, res⟩ | ⟨r2, hin2, cnt2⟩⟩
      · dsimp only at r2
        subst r2
        exact wpS_pure ⟨ks2, r, rfl, res⟩
      dsimp only at r2 hin2 cnt2
      subst r2
      dsimp only
      refine wpS_bind (wpS_lift (wpAny_rule ⟨rfl, ?_⟩))
      refine wpS_bind (wpS_mono (wpS_forRange (I := fun i c st' => Ks st st' ∧ c.1 = none ∧ In it key la lb c.2.1 c.2.2.1 c.2.2.2.1 ∧ ja + jb ≤ c.2.2.1 + c.2.2.2.1)
        (Q := fun c st' => Ks st st' ∧ ((∃ r, c.1 = some r ∧ Res it key la lb r) ∨ c.1 = none ∧ In it key la lb c.2.1 c.2.2.1 c.2.2.2.1 ∧ ja + jb ≤ c.2.2.1 + c.2.2.2.1)) ?_ ?_ ⟨ks2, rfl, hin2, Nat.le_refl _⟩) ?_)
      · rintro j ⟨ret, out, ka, kb, mg3, ac3, bc3⟩ st3 _ hj ⟨ks3, r3, ⟨lo, rfl, m3, d1, d2⟩, cnt3⟩
        dsimp only at r3 d1 d2 cnt3 m3 ⊢
        subst r3
        refine wpS_if (fun _ => ?_) fun _ => ?_
        all_goals
          refine wpS_bind (setG_ok fun st4 ks4 => wpS_bind (elem_ok d2 (wpS_bind (gal_ok hC ha (hb _ (getD_mem d2)) (by omega) (by omega) (by intro i hi; exact hd _ (getD_mem (by omega)) _ (getD_mem d2)) ((ks3.trans ks4).kind.trans hk) (monoF sa (by omega)) fun k k1 k2 k3 => ?_))))
          replace ks4 := ks3.trans ks4
          have m4 := m3.outA sa k fun x hx y hy => KeyOrd.kle_trans (take_b k2 x hx) (sb.head hy)
          have g4 := drop_b (by omega) k3
          dsimp only
          refine wpS_if (fun kz => ?_) fun kz => ?_
        all_goals first
          | (simp only [AL_part, AL_app]
             refine wpS_ifeq (fun c4 => wpS_pure ⟨ks4, .inl ⟨_, rfl, m4.fin2 sb h1 c4⟩⟩) fun c4 => wpS_ifeq (fun c5 => wpS_pure ⟨ks4, .inl ⟨_, rfl, m4.fin1 sa sb (.inl c5)⟩⟩) fun c5 => ?_
             have d4 : ka + k + 1 < la.length := by omega)
          | (obtain rfl : k = 0 := by omega
             rw [List.take_zero, List.append_nil, Nat.add_zero] at m4
             rw [Nat.add_zero] at g4
             have d4 := d1)
        all_goals
          have m5 := m4.stepB sb d2 g4
          refine wpS_bind (elem_ok d2 ?_)
          simp only [AL_push]
          refine wpS_ifeq (fun c6 => wpS_pure ⟨ks4, .inl ⟨_, rfl, m5.fin1 sa sb (.inr c6)⟩⟩) fun c6 => wpS_bind (elem_ok (by omega) (wpS_bind (gal_ok hC hb (ha _ (getD_mem (by omega))) (by omega) (by omega) (by intro i hi; exact hd _ (getD_mem (by omega)) _ (getD_mem (by omega))) (ks4.kind.trans hk) (monoT sb (by omega)) fun v v1 v2 v3 => ?_)))
          have m6 := m5.outB sb v fun x hx y hy => KeyOrd.kle_trans (take_b v2 x hx) (sa.head hy)
          have g6 := drop_b (by omega) v3
          dsimp only
          refine wpS_if (fun vz => ?_) fun vz => ?_
        all_goals first
          | (simp only [AL_part, AL_app]
             refine wpS_ifeq (fun c7 => wpS_pure ⟨ks4, .inl ⟨_, rfl, m6.fin1 sa sb (.inr c7)⟩⟩) fun c7 => ?_
             have d6 : kb + 1 + v < lb.length := by omega)
          | (obtain rfl : v = 0 := by omega
             rw [List.take_zero, List.append_nil, Nat.add_zero] at m6
             rw [Nat.add_zero] at g6
             have d6 : kb + 1 < lb.length := by omega)
        all_goals
          have m7 := m6.stepA sa (by omega) g6
          refine wpS_bind (elem_ok (by omega) ?_)
          simp only [AL_push]
          refine wpS_ifeq (fun c8 => wpS_pure ⟨ks4, .inl ⟨_, rfl, m7.fin2 sb h1 c8⟩⟩) fun c8 => wpS_if (fun _ => wpS_pure ⟨ks4, .inr ⟨rfl, ⟨_, rfl, m7, by dsimp only; omega, d6⟩, by dsimp only; omega⟩⟩) fun _ => wpS_pure ⟨ks4, rfl, ⟨_, rfl, m7, by dsimp only; omega, d6⟩, by dsimp only; omega⟩
      · rintro c st3 ⟨ks3, r3, hin3, cnt3⟩
        exact ⟨ks3, .inr ⟨r3, hin3, cnt3⟩⟩
      · rintro ⟨ret, out, ka, kb, mg, ac, bc⟩ st3 ⟨ks3, ⟨r, r3, res⟩ | ⟨r3, hin3, cnt3⟩⟩
        · dsimp only at r3
          subst r3
          exact wpS_pure ⟨ks3, r, rfl, res⟩
        dsimp only at r3 hin3 cnt3
        subst r3
        dsimp only
        refine wpS_bind (wpS_modify (wpS_pure ⟨ks3.trans ⟨rfl, rfl, rfl, rfl⟩, rfl, hin3, ?_⟩))
        show i + 1 + 1 ≤ ka + kb
        omega
  · rintro ⟨ret, out, ia, ib, mg⟩ st' ⟨_, _, ⟨lo, _, _, d1, d2⟩, cnt⟩
    dsimp only at d1 d2 cnt
    omega
  · rintro ⟨ret, out, ia, ib, mg⟩ st' ⟨ks, r, r1, res⟩
    dsimp only at r1
    subst r1
    exact wpS_pure (qr r st' ks res)
end
end LB
set_option maxRecDepth 100000
namespace LB
open PySem PySem.W PyProof.Rows
section
variable {prog : Program} {w : World} {A : Around} {E : Value → Shared → Prop} {s : Shared} {κ : SortKind} {it : Array Keyed} {O : KeyOrd} {key : Nat → O.α} {n : Nat}
structure Mh (key : Nat → O.α) (la lb : List Nat) (hi : List Nat) (na nb : Nat) : Prop where
  srt : Srt key hi
  lea : ∀ x ∈ hi, ∀ y ∈ la.take na, O.kle (key y) (key x)
  leb : ∀ x ∈ hi, ∀ y ∈ lb.take nb, O.kle (key y) (key x)
  perm : (la.take na ++ (lb.take nb ++ hi)).Perm (la ++ lb)
section
variable {la lb hi : List Nat} {na nb : Nat}
theorem take_cut {l : List Nat} {j m : Nat} (h : j ≤ m) : l.take j ++ (l.drop j).take (m - j) = l.take m := by
  have e := List.take_append_drop j (l.take m)
  rw [List.take_take, show min j m = j by omega] at e
  rw [List.take_drop, show j + (m - j) = m by omega]
  exact e
theorem Mh.outA (h : Mh key la lb hi na nb) (sa : Srt key la) {j : Nat} (hj : j ≤ na) (hh : ∀ x ∈ (la.drop j).take (na - j), ∀ y ∈ lb.take nb, O.kle (key y) (key x)) : Mh key la lb ((la.drop j).take (na - j) ++ hi) j nb := by
  have e := take_cut (l := la) hj
  have sd : Srt key (la.take j ++ (la.drop j).take (na - j)) := by rw [e]; exact sa.sub (List.take_sublist _ _)
  obtain ⟨s1, s2, s3⟩ := List.pairwise_append.mp sd
  refine ⟨Srt.app s2 h.srt fun x hx y hy => h.lea y hy x (by rw [← e]; exact List.mem_append_right _ hx), fun x hx y hy => ?_, fun x hx y hy => ?_, ?_⟩
  · rcases List.mem_append.mp hx with hx | hx
    · exact s3 y hy x hx
    · exact h.lea x hx y (by rw [← e]; exact List.mem_append_left _ hy)
  · rcases List.mem_append.mp hx with hx | hx
    · exact hh x hx y hy
    · exact h.leb x hx y hy
  · refine List.Perm.trans ?_ h.perm
    rw [← e, List.append_assoc]
    refine List.Perm.append_left _ ?_
    rw [← List.append_assoc, ← List.append_assoc]
    exact List.Perm.append_right _ List.perm_append_comm
theorem Mh.outB (h : Mh key la lb hi na nb) (sb : Srt key lb) {j : Nat} (hj : j ≤ nb) (hh : ∀ x ∈ (lb.drop j).take (nb - j), ∀ y ∈ la.take na, O.kle (key y) (key x)) : Mh key la lb ((lb.drop j).take (nb - j) ++ hi) na j := by
  have e := take_cut (l := lb) hj
  have sd : Srt key (lb.take j ++ (lb.drop j).take (nb - j)) := by rw [e]; exact sb.sub (List.take_sublist _ _)
  obtain ⟨s1, s2, s3⟩ := List.pairwise_append.mp sd
  refine ⟨Srt.app s2 h.srt fun x hx y hy => h.leb y hy x (by rw [← e]; exact List.mem_append_right _ hx), fun x hx y hy => ?_, fun x hx y hy => ?_, ?_⟩
  · rcases List.mem_append.mp hx with hx | hx
    · exact hh x hx y hy
    · exact h.lea x hx y hy
  · rcases List.mem_append.mp hx with hx | hx
    · exact s3 y hy x hx
    · exact h.leb x hx y (by rw [← e]; exact List.mem_append_left _ hy)
  · refine List.Perm.trans (List.Perm.of_eq ?_) h.perm
    rw [← e, List.append_assoc]
theorem last1 {l : List Nat} {m : Nat} (h : m ≤ l.length) (h0 : 0 < m) : (l.drop (m - 1)).take (m - (m - 1)) = [l.getD (m - 1) 0] := by
  rw [show m - (m - 1) = 1 by omega, take1 (by omega)]
theorem Mh.stepA (h : Mh key la lb hi na nb) (sa : Srt key la) (h1 : na ≤ la.length) (h0 : 0 < na) (hh : ∀ y ∈ lb.take nb, O.kle (key y) (key (la.getD (na - 1) 0))) : Mh key la lb (la.getD (na - 1) 0 :: hi) (na - 1) nb := by
  have := h.outA sa (j := na - 1) (by omega) fun x hx => by
    rw [last1 h1 h0] at hx
    rw [List.mem_singleton.mp hx]
    exact hh
  rwa [last1 h1 h0] at this
theorem Mh.stepB (h : Mh key la lb hi na nb) (sb : Srt key lb) (h1 : nb ≤ lb.length) (h0 : 0 < nb) (hh : ∀ y ∈ la.take na, O.kle (key y) (key (lb.getD (nb - 1) 0))) : Mh key la lb (lb.getD (nb - 1) 0 :: hi) na (nb - 1) := by
  have := h.outB sb (j := nb - 1) (by omega) fun x hx => by
    rw [last1 h1 h0] at hx
    rw [List.mem_singleton.mp hx]
    exact hh
  rwa [last1 h1 h0] at this
theorem AL_front (l : List Nat) (m : Nat) : (AL it l).extract 0 m = AL it (l.take m) := by
  rw [AL_ext, List.drop_zero, Nat.sub_zero]
theorem Mh.fin1 (h : Mh key la lb hi na nb) (sa : Srt key la) (sb : Srt key lb) (hn : na = 0 ∨ nb = 0) : Res it key la lb ((AL it la).extract 0 na ++ (AL it lb).extract 0 nb ++ (AL it hi.reverse).reverse) := by
  rw [AL_front, AL_front, AL_rev, List.reverse_reverse, AL_app, AL_app, List.append_assoc]
  refine ⟨_, rfl, h.perm, ?_⟩
  rcases hn with rfl | rfl
  · rw [List.take_zero, List.nil_append]
    exact (sb.sub (List.take_sublist _ _)).app h.srt fun x hx y hy => h.leb y hy x hx
  · rw [List.take_zero, List.nil_append]
    exact (sa.sub (List.take_sublist _ _)).app h.srt fun x hx y hy => h.lea y hy x hx
theorem Mh.fin2 (h : Mh key la lb hi na nb) (sa : Srt key la) (h0 : ∀ y ∈ la, O.kle (key (lb.getD 0 0)) (key y)) (lb0 : 0 < lb.length) (hn : nb = 1) : Res it key la lb ((AL it lb).extract 0 nb ++ (AL it la).extract 0 na ++ (AL it hi.reverse).reverse) := by
  rw [AL_front, AL_front, AL_rev, List.reverse_reverse, AL_app, AL_app]
  subst hn
  refine ⟨_, rfl, ?_, ?_⟩
  · refine List.Perm.trans ?_ h.perm
    rw [← List.append_assoc]
    exact List.Perm.append_right _ List.perm_append_comm
  · have e : lb.take 1 = [lb.getD 0 0] := by
      have := take1 lb0
      rwa [List.drop_zero] at this
    rw [List.append_assoc]
    rw [e]
    refine Srt.app (List.pairwise_singleton _ _) ((sa.sub (List.take_sublist _ _)).app h.srt fun x hx y hy => h.lea y hy x hx) fun x hx y hy => ?_
    rw [List.mem_singleton.mp hx]
    rcases List.mem_append.mp hy with hy | hy
    · exact h0 y (List.mem_of_mem_take hy)
    · exact h.leb y hy _ (by rw [e]; exact List.mem_singleton.mpr rfl)
theorem mem_take {l : List Nat} {m y : Nat} (h : y ∈ l.take m) : ∃ j, j < l.length ∧ j < m ∧ y = l.getD j 0 := by
  have : y ∈ (l.drop 0).take m := by rwa [List.drop_zero]
  obtain ⟨j, _, j2, j3, e⟩ := mem_dt this
  exact ⟨j, j2, by omega, e⟩
theorem Srt.last {l : List Nat} (h : Srt key l) {m y : Nat} (hm : m ≤ l.length) (hy : y ∈ l.take m) : O.kle (key y) (key (l.getD (m - 1) 0)) := by
  obtain ⟨j, j1, j2, rfl⟩ := mem_take hy
  exact h.get (by omega) (by omega)
theorem take_b0 {left : Bool} {l : List Nat} {x k : Nat} (h : ∀ i, i < k → bey key left x (l.getD (0 + i) 0) = true) (y : Nat) (hy : y ∈ l.take k) : O.kle (key y) (key x) := take_b h y (by rwa [List.drop_zero])
theorem mid_b {left : Bool} {l : List Nat} {x k m : Nat} (h : ∀ i, k ≤ i → i < m → bey key left x (l.getD (0 + i) 0) = false) (y : Nat) (hy : y ∈ (l.drop k).take (m - k)) : O.kle (key x) (key y) := by
  obtain ⟨i, i1, i2, i3, rfl⟩ := mem_dt hy
  have := bey_ge (h i i1 (by omega))
  rwa [Nat.zero_add] at this
theorem AL_pushR (h : List Nat) (x : Nat) : (AL it h.reverse).push (kas_item it x) = AL it (x :: h).reverse := by
  rw [AL_push, List.reverse_cons]
theorem AL_appR (h l : List Nat) (i j : Nat) : AL it h.reverse ++ ((AL it l).extract i j).reverse = AL it ((l.drop i).take (j - i) ++ h).reverse := by
  rw [AL_ext, AL_rev, AL_app, List.reverse_append]
end
noncomputable def Ih (it : Array Keyed) (key : Nat → O.α) (la lb : List Nat) (out : Array Keyed) (na nb : Nat) : Prop := ∃ hi, out = AL it hi.reverse ∧ Mh key la lb hi na nb ∧ 1 ≤ na ∧ na ≤ la.length ∧ 2 ≤ nb ∧ nb ≤ lb.length
theorem mhi_ok (hC : CmpR prog w A s κ it key n) {la lb : List Nat} (ha : ∀ y ∈ la, y < n) (hb : ∀ y ∈ lb, y < n) (sa : Srt key la) (sb : Srt key lb) (na : la ≠ []) (nb : lb ≠ []) (hd : ∀ x ∈ la, ∀ y ∈ lb, x < y)
    (h0 : ∀ y ∈ la, O.kle (key (lb.getD 0 0)) (key y)) (h1 : ∀ y ∈ lb, O.kle (key y) (key (la.getD (la.length - 1) 0))) {st : SortSt} (hk : kindOf st = κ) {Q : Array Keyed → SortSt → Prop}
    (q : ∀ m st', Ks st st' → m.Perm (la ++ lb) → Srt key m → Q (AL it m) st') : wpS (model prog w) A E s (mhi (AL it la) (AL it lb)) Q st := by
  unfold mhi
  have la0 : 0 < la.length := List.length_pos_iff.mpr na
  have lb0 : 0 < lb.length := List.length_pos_iff.mpr nb
  have qr : ∀ r st', Ks st st' → Res it key la lb r → Q r st' := fun r st' ks ⟨m, e, p, sm⟩ => e ▸ q m st' ks p sm
  have m0 : Mh key la lb [la.getD (la.length - 1) 0] (la.length - 1) lb.length := by
    refine Mh.stepA (key := key) (la := la) (lb := lb) (hi := []) (na := la.length) (nb := lb.length) ⟨List.Pairwise.nil, (fun x hx => by cases hx), (fun x hx => by cases hx), ?_⟩ sa (Nat.le_refl _) la0 (by rw [List.take_length]; exact h1)
    rw [List.take_length, List.take_length, List.append_nil]
  refine wpS_bind (wpS_lift (wpAny_rule ⟨rfl, ?_⟩))
  simp only [AL_size]
  refine wpS_bind (elem_ok (by omega) ?_)
  simp only [AL_one]
  rw [show [la.getD (la.length - 1) 0] = [la.getD (la.length - 1) 0].reverse from rfl]
  refine wpS_ifeq (fun c1 => wpS_pure (qr _ _ (Ks.refl _) (m0.fin1 sa sb (.inl c1)))) fun c1 => wpS_ifeq (fun c2 => wpS_pure (qr _ _ (Ks.refl _) (m0.fin2 sa h0 lb0 c2))) fun c2 => ?_
  refine wpS_bind (wpS_get ?_)
  refine wpS_bind (wpS_mono (wpS_forRange (I := fun i c st' => Ks st st' ∧ c.1 = none ∧ Ih it key la lb c.2.2.2.1 c.2.1 c.2.2.1 ∧ c.2.1 + c.2.2.1 + i + 1 ≤ la.length + lb.length)
    (Q := fun c st' => Ks st st' ∧ ∃ r, c.1 = some r ∧ Res it key la lb r) ?_ ?_ ⟨Ks.refl _, rfl, ⟨_, rfl, m0, by dsimp only; omega, by dsimp only; omega, by dsimp only; omega, by dsimp only; omega⟩, by dsimp only; omega⟩) ?_)
  · rintro i ⟨ret, ia, ib, out, mg⟩ st1 _ hi ⟨ks1, r1, hin, cnt⟩
    dsimp only at r1 hin cnt ⊢
    subst r1
    refine wpS_bind (wpS_mono (wpS_forRange (I := fun i c st' => Ks st st' ∧ c.1 = none ∧ Ih it key la lb c.2.2.2.1 c.2.1 c.2.2.1 ∧ c.2.1 + c.2.2.1 + i ≤ ia + ib)
      (Q := fun c st' => Ks st st' ∧ ((∃ r, c.1 = some r ∧ Res it key la lb r) ∨ c.1 = none ∧ Ih it key la lb c.2.2.2.1 c.2.1 c.2.2.1 ∧ c.2.1 + c.2.2.1 + 1 ≤ ia + ib)) ?_ ?_ ⟨ks1, rfl, hin, by dsimp only; omega⟩) ?_)
    · rintro j ⟨ret, ja, jb, out, ac, bc⟩ st2 _ hj ⟨ks2, r2, ⟨hi, rfl, mg2, d1, d2, d3, d4⟩, cnt2⟩
      dsimp only at r2 d1 d2 d3 d4 cnt2 mg2 ⊢
      subst r2
      refine wpS_bind (elem_ok (by omega) (wpS_bind (elem_ok (by omega) (wpS_bind (lt_okR hC (ks2.kind.trans hk) (hd _ (getD_mem (by omega)) _ (getD_mem (by omega))) (hb _ (getD_mem (by omega))) ?_)))))
      dsimp only
      cases e : O.blt (key (lb.getD (jb - 1) 0)) (key (la.getD (ja - 1) 0)) with
      | true =>
        rw [if_pos rfl]
        refine wpS_bind (elem_ok (show ja - 1 < la.length by omega) ?_)
        have mg3 := mg2.stepA sa d2 d1 fun y hy => KeyOrd.kle_trans (sb.last d4 hy) (KeyOrd.kle_of_klt e)
        simp only [AL_pushR]
        refine wpS_ifeq (fun c3 => wpS_pure ⟨ks2, .inl ⟨_, rfl, mg3.fin1 sa sb (.inl c3)⟩⟩) fun c3 => wpS_if (fun _ => wpS_pure ⟨ks2, .inr ⟨rfl, ⟨_, rfl, mg3, by dsimp only; omega, by dsimp only; omega, d3, d4⟩, by dsimp only; omega⟩⟩) fun _ => wpS_pure ⟨ks2, rfl, ⟨_, rfl, mg3, by dsimp only; omega, by dsimp only; omega, d3, d4⟩, by dsimp only; omega⟩
      | false =>
        rw [if_neg Bool.false_ne_true]
        refine wpS_bind (elem_ok (show jb - 1 < lb.length by omega) ?_)
        have mg3 := mg2.stepB sb d4 (by omega) fun y hy => KeyOrd.kle_trans (sa.last d2 hy) e
        simp only [AL_pushR]
        refine wpS_ifeq (fun c3 => wpS_pure ⟨ks2, .inl ⟨_, rfl, mg3.fin2 sa h0 lb0 c3⟩⟩) fun c3 => wpS_if (fun _ => wpS_pure ⟨ks2, .inr ⟨rfl, ⟨_, rfl, mg3, d1, d2, by dsimp only; omega, by dsimp only; omega⟩, by dsimp only; omega⟩⟩) fun _ => wpS_pure ⟨ks2, rfl, ⟨_, rfl, mg3, d1, d2, by dsimp only; omega, by dsimp only; omega⟩, by dsimp only; omega⟩
    · rintro c st2 ⟨ks2, r2, hin2, cnt2⟩
      exact ⟨ks2, .inr ⟨r2, hin2, by omega⟩⟩
    · rintro ⟨ret, ja, jb, out, ac, bc⟩ st2 ⟨ks2, ⟨r, r2, res⟩ | ⟨r2, hin2, cnt2⟩⟩
      · dsimp only at r2
        subst r2
        exact wpS_pure ⟨ks2, r, rfl, res⟩
      dsimp only at r2 hin2 cnt2
      subst r2
      dsimp only
      refine wpS_bind (wpS_lift (wpAny_rule ⟨rfl, ?_⟩))
      refine wpS_bind (wpS_mono (wpS_forRange (I := fun i c st' => Ks st st' ∧ c.1 = none ∧ Ih it key la lb c.2.2.2.1 c.2.1 c.2.2.1 ∧ c.2.1 + c.2.2.1 ≤ ja + jb)
        (Q := fun c st' => Ks st st' ∧ ((∃ r, c.1 = some r ∧ Res it key la lb r) ∨ c.1 = none ∧ Ih it key la lb c.2.2.2.1 c.2.1 c.2.2.1 ∧ c.2.1 + c.2.2.1 ≤ ja + jb)) ?_ ?_ ⟨ks2, rfl, hin2, Nat.le_refl _⟩) ?_)
      · rintro j ⟨ret, ka, kb, out, mg3, ac3, bc3⟩ st3 _ hj ⟨ks3, r3, ⟨hi, rfl, m3, d1, d2, d3, d4⟩, cnt3⟩
        dsimp only at r3 d1 d2 d3 d4 cnt3 m3 ⊢
        subst r3
        refine wpS_if (fun _ => ?_) fun _ => ?_
        all_goals
          refine wpS_bind (setG_ok fun st4 ks4 => wpS_bind (elem_ok (by omega) (wpS_bind (gal_ok hC ha (hb _ (getD_mem (by omega))) (by omega) (by omega) (by intro i hi; exact hd _ (getD_mem (by omega)) _ (getD_mem (by omega))) ((ks3.trans ks4).kind.trans hk) (monoF sa (by omega)) fun k k1 k2 k3 => ?_))))
          replace ks4 := ks3.trans ks4
          have m4 := m3.outA sa k1 fun x hx y hy => KeyOrd.kle_trans (sb.last d4 hy) (mid_b k3 x hx)
          have g4 := take_b0 k2
          dsimp only
          refine wpS_if (fun kz => ?_) fun kz => ?_
        all_goals first
          | (simp only [AL_appR]
             refine wpS_ifeq (fun c4 => wpS_pure ⟨ks4, .inl ⟨_, rfl, m4.fin1 sa sb (.inl c4)⟩⟩) fun c4 => ?_
             have d5 : 1 ≤ k ∧ k ≤ la.length := by omega)
          | (obtain rfl : k = ka := by omega
             rw [Nat.sub_self, List.take_zero, List.nil_append] at m4
             have d5 : 1 ≤ k ∧ k ≤ la.length := by omega)
        all_goals
          have m5 := m4.stepB sb d4 (by omega) g4
          refine wpS_bind (elem_ok (by omega) ?_)
          simp only [AL_pushR]
          refine wpS_ifeq (fun c6 => wpS_pure ⟨ks4, .inl ⟨_, rfl, m5.fin2 sa h0 lb0 c6⟩⟩) fun c6 => wpS_bind (elem_ok (by omega) (wpS_bind (gal_ok hC hb (ha _ (getD_mem (by omega))) (by omega) (by omega) (by intro i hi; exact hd _ (getD_mem (by omega)) _ (getD_mem (by omega))) (ks4.kind.trans hk) (monoT sb (by omega)) fun v v1 v2 v3 => ?_)))
          have m6 := m5.outB sb v1 fun x hx y hy => KeyOrd.kle_trans (sa.last d5.2 hy) (mid_b v3 x hx)
          have g6 := take_b0 v2
          dsimp only
          refine wpS_if (fun vz => ?_) fun vz => ?_
        all_goals first
          | (simp only [AL_appR]
             refine wpS_ifeq (fun c7 => wpS_pure ⟨ks4, .inl ⟨_, rfl, m6.fin2 sa h0 lb0 c7⟩⟩) fun c7 => wpS_ifeq (fun c8 => wpS_pure ⟨ks4, .inl ⟨_, rfl, m6.fin1 sa sb (.inr c8)⟩⟩) fun c8 => ?_
             have d6 : 2 ≤ v ∧ v ≤ lb.length := by omega)
          | (obtain rfl : v = kb - 1 := by omega
             rw [Nat.sub_self, List.take_zero, List.nil_append] at m6
             have d6 : 2 ≤ kb - 1 ∧ kb - 1 ≤ lb.length := by omega)
        all_goals
          have m7 := m6.stepA sa d5.2 d5.1 g6
          refine wpS_bind (elem_ok (by omega) ?_)
          simp only [AL_pushR]
          refine wpS_ifeq (fun c8 => wpS_pure ⟨ks4, .inl ⟨_, rfl, m7.fin1 sa sb (.inl c8)⟩⟩) fun c8 => wpS_if (fun _ => wpS_pure ⟨ks4, .inr ⟨rfl, ⟨_, rfl, m7, by dsimp only; omega, by dsimp only; omega, d6.1, d6.2⟩, by dsimp only; omega⟩⟩) fun _ => wpS_pure ⟨ks4, rfl, ⟨_, rfl, m7, by dsimp only; omega, by dsimp only; omega, d6.1, d6.2⟩, by dsimp only; omega⟩
      · rintro c st3 ⟨ks3, r3, hin3, cnt3⟩
        exact ⟨ks3, .inr ⟨r3, hin3, cnt3⟩⟩
      · rintro ⟨ret, ka, kb, out, mg, ac, bc⟩ st3 ⟨ks3, ⟨r, r3, res⟩ | ⟨r3, hin3, cnt3⟩⟩
        · dsimp only at r3
          subst r3
          exact wpS_pure ⟨ks3, r, rfl, res⟩
        dsimp only at r3 hin3 cnt3
        subst r3
        dsimp only
        refine wpS_bind (wpS_modify (wpS_pure ⟨ks3.trans ⟨rfl, rfl, rfl, rfl⟩, rfl, hin3, ?_⟩))
        dsimp only
        omega
  · rintro ⟨ret, ia, ib, out, mg⟩ st' ⟨_, _, ⟨lo, _, _, d1, d2, d3, d4⟩, cnt⟩
    dsimp only at d1 d2 d3 d4 cnt
    omega
  · rintro ⟨ret, ia, ib, out, mg⟩ st' ⟨ks, r, r1, res⟩
    dsimp only at r1
    subst r1
    exact wpS_pure (qr r st' ks res)
end
end LB
set_option maxRecDepth 100000
namespace LB
open PySem PySem.W PyProof.Rows
section
variable {prog : Program} {w : World} {A : Around} {E : Value → Shared → Prop} {s : Shared} {κ : SortKind} {it : Array Keyed} {O : KeyOrd} {key : Nat → O.α} {n : Nat}
noncomputable def Sg (key : Nat → O.α) (l : List Nat) (a b : Nat) : Prop := ∀ i j, a ≤ i → i ≤ j → j < b → O.kle (key (l.getD i 0)) (key (l.getD j 0))
theorem getD_dt {l : List Nat} {a m i : Nat} (hi : i < m) : ((l.drop a).take m).getD i 0 = l.getD (a + i) 0 := by
  rw [List.getD_eq_getElem?_getD, List.getD_eq_getElem?_getD, List.getElem?_take, if_pos hi, List.getElem?_drop]
theorem Sg.srt {l : List Nat} {a m : Nat} (h : Sg key l a (a + m)) : Srt key ((l.drop a).take m) := by
  refine List.pairwise_iff_getElem.mpr fun i j hi hj hij => ?_
  rw [List.length_take, List.length_drop] at hi hj
  have := h (a + i) (a + j) (by omega) (by omega) (by omega)
  rw [List.getElem_take, List.getElem_take, List.getElem_drop, List.getElem_drop]
  rw [List.getD_eq_getElem?_getD, List.getD_eq_getElem?_getD, List.getElem?_eq_getElem (show a + i < l.length by omega), List.getElem?_eq_getElem (show a + j < l.length by omega)] at this
  exact this
structure Gd (κ : SortKind) (it : Array Keyed) (n : Nat) (st : SortSt) (l : List Nat) (ps : List (Nat × Nat × Nat)) : Prop where
  kind : kindOf st = κ
  fail : failedOf st = none
  arr : arrOf st = AL it l
  pend : pendingOf st = ps.toArray
  perm : l.Perm (List.range n)
theorem Gd.len {st : SortSt} {l : List Nat} {ps : List (Nat × Nat × Nat)} (h : Gd κ it n st l ps) : l.length = n := by
  rw [h.perm.length_eq, List.length_range]
theorem Gd.lt {st : SortSt} {l : List Nat} {ps : List (Nat × Nat × Nat)} (h : Gd κ it n st l ps) : ∀ y ∈ l, y < n := fun y hy => List.mem_range.mp (h.perm.mem_iff.mp hy)
noncomputable def Own (l : List Nat) (a b : Nat) : Prop := ∀ i, a ≤ i → i < b → a ≤ l.getD i 0 ∧ l.getD i 0 < b
noncomputable def Runs (key : Nat → O.α) (l : List Nat) : List (Nat × Nat × Nat) → Nat → Nat → Prop
  | [], a, b => a = b
  | p :: r, a, b => p.1 = a ∧ 1 ≤ p.2.1 ∧ (Sg key l a (a + p.2.1) ∧ Own l a (a + p.2.1)) ∧ Runs key l r (a + p.2.1) b
theorem Runs.app {l : List Nat} : ∀ {x y : List (Nat × Nat × Nat)} {a b : Nat}, Runs key l (x ++ y) a b ↔ ∃ m, Runs key l x a m ∧ Runs key l y m b
  | [], y, a, b => ⟨fun h => ⟨a, rfl, h⟩, fun ⟨m, e, h⟩ => by rw [show a = m from e]; exact h⟩
  | p :: x, y, a, b => by
    refine ⟨fun ⟨h1, h2, h3, h4⟩ => ?_, fun ⟨m, ⟨h1, h2, h3, h4⟩, h5⟩ => ⟨h1, h2, h3, Runs.app.mpr ⟨m, h4, h5⟩⟩⟩
    obtain ⟨m, h5, h6⟩ := Runs.app.mp h4
    exact ⟨m, ⟨h1, h2, h3, h5⟩, h6⟩
theorem Runs.le {l : List Nat} : ∀ {x : List (Nat × Nat × Nat)} {a b : Nat}, Runs key l x a b → a ≤ b
  | [], a, b, h => Nat.le_of_eq h
  | p :: x, a, b, ⟨_, _, _, h⟩ => by
    have := h.le
    omega
theorem Runs.congr {l l' : List Nat} : ∀ {x : List (Nat × Nat × Nat)} {a b : Nat}, (∀ i, a ≤ i → i < b → l'.getD i 0 = l.getD i 0) → Runs key l x a b → Runs key l' x a b
  | [], a, b, _, h => h
  | p :: x, a, b, e, ⟨h1, h2, h3, h4⟩ => by
    have := h4.le
    refine ⟨h1, h2, ⟨fun i j hi hij hj => ?_, fun i hi hj => ?_⟩, Runs.congr (fun i hi => e i (by omega)) h4⟩
    · rw [e i hi (by omega), e j (by omega) (by omega)]
      exact h3.1 i j hi hij hj
    · rw [e i hi (by omega)]
      exact h3.2 i hi hj
theorem back_get (c : Nat) : ∀ (xs : List Keyed) (k : Nat) (arr : Array Keyed), c + k + xs.length ≤ arr.size → ∀ j : Nat, ((xs.zipIdx k).foldl (fun a (p : Keyed × Nat) => a.setIfInBounds (c + p.2) p.1) arr)[j]? = if c + k ≤ j ∧ j < c + k + xs.length then xs[j - (c + k)]? else arr[j]?
  | [], k, arr, h, j => by
    rw [if_neg (by rw [List.length_nil]; omega)]
    rfl
  | x :: xs, k, arr, h, j => by
    rw [List.length_cons] at h
    have := back_get c xs (k + 1) (arr.setIfInBounds (c + k) x) (by rw [Array.size_setIfInBounds]; omega) j
    rw [List.zipIdx_cons, List.foldl_cons]
    refine this.trans ?_
    rw [List.length_cons]
    by_cases h1 : j = c + k
    · subst h1
      rw [if_neg (by omega), if_pos (by omega), Array.getElem?_setIfInBounds, if_pos rfl, Nat.sub_self]
      simp
      omega
    · by_cases h2 : c + (k + 1) ≤ j ∧ j < c + (k + 1) + xs.length
      · rw [if_pos h2, if_pos (by omega), show j - (c + k) = (j - (c + (k + 1))) + 1 by omega, List.getElem?_cons_succ]
      · rw [if_neg h2, if_neg (by omega), Array.getElem?_setIfInBounds, if_neg (by omega)]
noncomputable def exch (l m : List Nat) (c : Nat) : List Nat := l.take c ++ (m ++ l.drop (c + m.length))
theorem back_ok {l m : List Nat} {c : Nat} (h : c + m.length ≤ l.length) : (((m.map (kas_item it)).zipIdx 0).foldl (fun a (p : Keyed × Nat) => a.setIfInBounds (c + p.2) p.1) (AL it l)) = AL it (exch l m c) := by
  apply Array.ext_getElem?
  intro j
  rw [back_get c _ 0 _ (by rw [List.length_map, AL_size]; omega) j, List.length_map, Nat.add_zero]
  unfold AL exch
  rw [List.getElem?_toArray, List.getElem?_toArray, List.getElem?_map, List.getElem?_map, List.getElem?_map]
  by_cases h1 : c ≤ j ∧ j < c + m.length
  · rw [if_pos h1, List.getElem?_append_right (by rw [List.length_take]; omega), List.length_take, show min c l.length = c by omega, List.getElem?_append_left (by omega)]
  · rw [if_neg h1]
    by_cases h2 : j < c
    · rw [List.getElem?_append_left (by rw [List.length_take]; omega), List.getElem?_take, if_pos h2]
    · rw [List.getElem?_append_right (by rw [List.length_take]; omega), List.length_take, show min c l.length = c by omega, List.getElem?_append_right (by omega), List.getElem?_drop, show c + m.length + (j - c - m.length) = j by omega]
theorem exch_get {l m : List Nat} {c i : Nat} (h : c + m.length ≤ l.length) : (exch l m c).getD i 0 = if c ≤ i ∧ i < c + m.length then m.getD (i - c) 0 else l.getD i 0 := by
  unfold exch
  rw [List.getD_eq_getElem?_getD]
  by_cases h1 : c ≤ i ∧ i < c + m.length
  · rw [if_pos h1, List.getElem?_append_right (by rw [List.length_take]; omega), List.length_take, show min c l.length = c by omega, List.getElem?_append_left (by omega), List.getD_eq_getElem?_getD]
  · rw [if_neg h1, List.getD_eq_getElem?_getD]
    by_cases h2 : i < c
    · rw [List.getElem?_append_left (by rw [List.length_take]; omega), List.getElem?_take, if_pos h2]
    · rw [List.getElem?_append_right (by rw [List.length_take]; omega), List.length_take, show min c l.length = c by omega, List.getElem?_append_right (by omega), List.getElem?_drop, show c + m.length + (i - c - m.length) = i by omega]
theorem exch_perm {l m : List Nat} {c : Nat} (h : m.Perm ((l.drop c).take m.length)) : (exch l m c).Perm l := by
  unfold exch
  have e : l = l.take c ++ ((l.drop c).take m.length ++ l.drop (c + m.length)) := by
    rw [← List.drop_drop, List.take_append_drop, List.take_append_drop]
  exact List.Perm.trans (List.Perm.append_left _ (List.Perm.append_right _ h)) (List.Perm.of_eq e.symm)
theorem wpS_set {M : Model} {x st : SortSt} {Q : PUnit → SortSt → Prop} (h : Q ⟨⟩ x) : wpS M A E s (set x : StateT SortSt Sem PUnit) Q st := by
  unfold wpS
  rw [StateT.run_set]
  exact wpAny_pure ⟨rfl, h⟩
theorem set_gd {M : Model} {x st : SortSt} {l : List Nat} {ps : List (Nat × Nat × Nat)} {Q : PUnit → SortSt → Prop} (hx : Gd κ it n x l ps) (h : ∀ st1, Gd κ it n st1 l ps → Q ⟨⟩ st1) : wpS M A E s (set x : StateT SortSt Sem PUnit) Q st := wpS_set (h x hx)
theorem mod_gd {M : Model} {f : SortSt → SortSt} {st : SortSt} {l : List Nat} {ps : List (Nat × Nat × Nat)} {Q : PUnit → SortSt → Prop} (hx : Gd κ it n (f st) l ps) (h : ∀ st1, Gd κ it n st1 l ps → Q ⟨⟩ st1) : wpS M A E s (modify f : StateT SortSt Sem PUnit) Q st := wpS_modify (h _ hx)
theorem Gd.ks {st st' : SortSt} {l : List Nat} {ps : List (Nat × Nat × Nat)} (h : Gd κ it n st l ps) (k : Ks st st') : Gd κ it n st' l ps := ⟨k.kind.trans h.kind, k.fail.trans h.fail, k.arr.trans h.arr, k.pend.trans h.pend, h.perm⟩
theorem mergeAt_ok (hC : CmpR prog w A s κ it key n) {st : SortSt} {l : List Nat} {pre post : List (Nat × Nat × Nat)} {sa na p sb nb r e : Nat} (hG : Gd κ it n st l (pre ++ (sa, na, p) :: (sb, nb, r) :: post)) (he : e ≤ n) (hR : Runs key l (pre ++ (sa, na, p) :: (sb, nb, r) :: post) 0 e)
    {Q : Bool → SortSt → Prop} (q : ∀ st' l', Gd κ it n st' l' (pre ++ (sa, na + nb, p) :: post) → (∀ i, e ≤ i → l'.getD i 0 = l.getD i 0) → Runs key l' (pre ++ (sa, na + nb, p) :: post) 0 e → Q true st') : wpS (model prog w) A E s (mergeAt' pre.length) Q st := by
  unfold mergeAt'
  have hln := hG.len
  have hlt := hG.lt
  obtain ⟨x, R1, rfl, a1, ⟨S1, W1⟩, rfl, b1, ⟨S2, W2⟩, R2⟩ := Runs.app.mp hR
  dsimp only at a1 S1 W1 b1 S2 W2 R2 hG R1
  have he2 := R2.le
  have fin : ∀ l', (∀ i, ¬ (sa ≤ i ∧ i < sa + na + nb) → l'.getD i 0 = l.getD i 0) → Sg key l' sa (sa + na + nb) → Own l' sa (sa + na + nb) → Runs key l' (pre ++ (sa, na + nb, p) :: post) 0 e := fun l' h1 h2 h2' => by
    refine Runs.app.mpr ⟨sa, R1.congr fun i _ hi => h1 i (by omega), rfl, by show 1 ≤ na + nb; omega, ?_, ?_⟩
    · show Sg key l' sa (sa + (na + nb)) ∧ Own l' sa (sa + (na + nb))
      rw [← Nat.add_assoc]
      exact ⟨h2, h2'⟩
    · show Runs key l' post (sa + (na + nb)) e
      rw [← Nat.add_assoc]
      exact R2.congr fun i hi _ => h1 i (by omega)
  refine wpS_bind (wpS_get ?_)
  have e1 : (pendingOf st)[pre.length]? = some (sa, na, p) := by rw [hG.pend]; simp
  have e2 : (pendingOf st)[pre.length + 1]? = some (sa + na, nb, r) := by rw [hG.pend]; simp
  rw [e1, e2]
  dsimp only
  have ea := hG.arr
  unfold arrOf at ea
  refine wpS_bind (set_gd (κ := κ) (it := it) (n := n) (l := l) (ps := pre ++ (sa, na + nb, p) :: post) ⟨hG.kind, hG.fail, hG.arr, ?_, hG.perm⟩ fun st1 G1 => ?_)
  · show ((pendingOf st).setIfInBounds pre.length (sa, na + nb, p)).eraseIdxIfInBounds (pre.length + 1) = _
    rw [hG.pend]
    simp [List.eraseIdx_append_of_length_le]
  rw [ea]
  have mono : ∀ {left : Bool} {b m x : Nat}, Sg key l b (b + m) → ∀ i j, i ≤ j → j < m → bey key left x (l.getD (b + j) 0) = true → bey key left x (l.getD (b + i) 0) = true := fun {left b m x} S i j hij hj h => by
    have g := S (b + i) (b + j) (by omega) (by omega) (by omega)
    cases left with
    | true =>
      rcases O.negTrans _ (key (l.getD (b + i) 0)) _ (show O.blt (key (l.getD (b + j) 0)) (key x) = true from h) with w | w
      · rw [show O.blt (key (l.getD (b + j) 0)) (key (l.getD (b + i) 0)) = false from g] at w
        cases w
      · exact w
    | false =>
      have h : (!O.blt (key x) (key (l.getD (b + j) 0))) = true := h
      show (!O.blt (key x) (key (l.getD (b + i) 0))) = true
      rw [Bool.not_eq_true'] at h ⊢
      exact KeyOrd.kle_trans g h
  have W0 : Own l sa (sa + na + nb) := fun i h1 h2 => by
    by_cases c : i < sa + na
    · have := W1 i h1 c
      omega
    · have := W2 i (by omega) h2
      omega
  have gm : ∀ i, i < n → l.getD i 0 < n := fun i hi => hlt _ (getD_mem (by omega))
  refine wpS_bind (elem_ok (by omega) (wpS_bind (gal_ok hC hlt (gm _ (by omega)) (by omega) (by omega) (by intro i hi; exact Nat.lt_of_lt_of_le (W1 (sa + i) (by omega) (by omega)).2 (W2 (sa + na) (by omega) (by omega)).1) G1.kind (mono S1) fun k k1 k2 k3 => ?_)))
  dsimp only
  have k2' : ∀ i, sa ≤ i → i < sa + k → O.kle (key (l.getD i 0)) (key (l.getD (sa + na) 0)) := fun i h1 h2 => by
    have := bey_le (k2 (i - sa) (by omega))
    rwa [show sa + (i - sa) = i by omega] at this
  have k3' : ∀ i, sa + k ≤ i → i < sa + na → O.kle (key (l.getD (sa + na) 0)) (key (l.getD i 0)) := fun i h1 h2 => by
    have := bey_ge (k3 (i - sa) (by omega) (by omega))
    rwa [show sa + (i - sa) = i by omega] at this
  refine wpS_ifeq (fun c1 => wpS_pure (q st1 l G1 (fun _ _ => rfl) (fin l (fun _ _ => rfl) (fun i j h1 h2 h3 => ?_) W0))) fun c1 => ?_
  · by_cases c : j < sa + na
    · exact S1 i j h1 h2 c
    · by_cases c' : i < sa + na
      · exact KeyOrd.kle_trans (k2' i h1 (by omega)) (S2 _ j (Nat.le_refl _) (by omega) h3)
      · exact S2 i j (by omega) h2 h3
  rw [show sa + k + (na - k) - 1 = sa + na - 1 by omega]
  refine wpS_bind (elem_ok (by omega) (wpS_bind (gal_ok hC hlt (gm _ (by omega)) (by omega) (by omega) (by intro i hi; exact Nat.lt_of_lt_of_le (W1 (sa + na - 1) (by omega) (by omega)).2 (W2 (sa + na + i) (by omega) (by omega)).1) G1.kind (mono S2) fun v v1 v2 v3 => ?_)))
  dsimp only
  have v2' : ∀ i, sa + na ≤ i → i < sa + na + v → O.kle (key (l.getD i 0)) (key (l.getD (sa + na - 1) 0)) := fun i h1 h2 => by
    have := bey_le (v2 (i - (sa + na)) (by omega))
    rwa [show sa + na + (i - (sa + na)) = i by omega] at this
  have v3' : ∀ i, sa + na + v ≤ i → i < sa + na + nb → O.kle (key (l.getD (sa + na - 1) 0)) (key (l.getD i 0)) := fun i h1 h2 => by
    have := bey_ge (v3 (i - (sa + na)) (by omega) (by omega))
    rwa [show sa + na + (i - (sa + na)) = i by omega] at this
  refine wpS_ifeq (fun c2 => wpS_pure (q st1 l G1 (fun _ _ => rfl) (fin l (fun _ _ => rfl) (fun i j h1 h2 h3 => ?_) W0))) fun c2 => ?_
  · by_cases c : j < sa + na
    · exact S1 i j h1 h2 c
    · by_cases c' : i < sa + na
      · exact KeyOrd.kle_trans (S1 i (sa + na - 1) h1 (by omega) (by omega)) (v3' j (by omega) h3)
      · exact S2 i j (by omega) h2 h3
  have ex : (AL it l).extract (sa + k) (sa + na) = AL it ((l.drop (sa + k)).take (na - k)) := by rw [AL_ext, show sa + na - (sa + k) = na - k by omega]
  rw [ex, AL_part]
  have lx : ((l.drop (sa + k)).take (na - k)).length = na - k := by rw [List.length_take, List.length_drop]; omega
  have ly : ((l.drop (sa + na)).take v).length = v := by rw [List.length_take, List.length_drop]; omega
  have hx : ∀ y ∈ (l.drop (sa + k)).take (na - k), y < n := fun y hy => hlt y (List.mem_of_mem_drop (List.mem_of_mem_take hy))
  have hy : ∀ y ∈ (l.drop (sa + na)).take v, y < n := fun y hy => hlt y (List.mem_of_mem_drop (List.mem_of_mem_take hy))
  have sx : Srt key ((l.drop (sa + k)).take (na - k)) := Sg.srt fun i j h1 h2 h3 => S1 i j (by omega) h2 (by omega)
  have sy : Srt key ((l.drop (sa + na)).take v) := Sg.srt fun i j h1 h2 h3 => S2 i j h1 h2 (by omega)
  have p0 : ∀ y ∈ (l.drop (sa + k)).take (na - k), O.kle (key (((l.drop (sa + na)).take v).getD 0 0)) (key y) := fun y hy => by
    obtain ⟨j, j1, j2, j3, rfl⟩ := mem_dt hy
    rw [getD_dt (by omega)]
    exact k3' j j1 (by omega)
  have p1 : ∀ y ∈ (l.drop (sa + na)).take v, O.kle (key y) (key (((l.drop (sa + k)).take (na - k)).getD (((l.drop (sa + k)).take (na - k)).length - 1) 0)) := fun y hy => by
    obtain ⟨j, j1, j2, j3, rfl⟩ := mem_dt hy
    rw [lx, getD_dt (by omega), show sa + k + (na - k - 1) = sa + na - 1 by omega]
    exact v2' j j1 j3
  have cat : (l.drop (sa + k)).take (na - k) ++ (l.drop (sa + na)).take v = (l.drop (sa + k)).take (na - k + v) := by
    rw [List.take_add, List.drop_drop, show sa + k + (na - k) = sa + na by omega]
  have last : ∀ m st2, Ks st1 st2 → m.Perm ((l.drop (sa + k)).take (na - k) ++ (l.drop (sa + na)).take v) → Srt key m → Gd κ it n (setArr st2 ((((AL it m).toList).zipIdx 0).foldl (fun a (p : Keyed × Nat) => a.setIfInBounds (sa + k + p.2) p.1) (arrOf st2))) (exch l m (sa + k)) (pre ++ (sa, na + nb, p) :: post) ∧ (∀ i, e ≤ i → (exch l m (sa + k)).getD i 0 = l.getD i 0) ∧ Runs key (exch l m (sa + k)) (pre ++ (sa, na + nb, p) :: post) 0 e := fun m st2 ks pm sm => by
    have G2 := G1.ks ks
    have lm : m.length = na - k + v := by rw [pm.length_eq, List.length_append, lx, ly]
    have hm : sa + k + m.length ≤ l.length := by omega
    have mem : ∀ i, sa + k ≤ i → i < sa + k + m.length → (∃ j, sa + k ≤ j ∧ j < sa + na ∧ m.getD (i - (sa + k)) 0 = l.getD j 0) ∨ ∃ j, sa + na ≤ j ∧ j < sa + na + v ∧ m.getD (i - (sa + k)) 0 = l.getD j 0 := fun i h1 h2 => by
      have := pm.mem_iff.mp (getD_mem (l := m) (i := i - (sa + k)) (by omega))
      rcases List.mem_append.mp this with z | z
      · obtain ⟨j, j1, j2, j3, e⟩ := mem_dt z
        exact .inl ⟨j, j1, by omega, e⟩
      · obtain ⟨j, j1, j2, j3, e⟩ := mem_dt z
        exact .inr ⟨j, j1, j3, e⟩
    refine ⟨⟨G2.kind, G2.fail, ?_, G2.pend, (exch_perm (by rw [lm, ← cat]; exact pm)).trans G1.perm⟩, fun i hi => by rw [exch_get hm, if_neg (by omega)], fin _ (fun i hi => by rw [exch_get hm, if_neg (by omega)]) (fun i j h1 h2 h3 => ?_) fun i h1 h2 => ?_⟩
    · show (((AL it m).toList).zipIdx 0).foldl (fun a (p : Keyed × Nat) => a.setIfInBounds (sa + k + p.2) p.1) (arrOf st2) = _
      rw [G2.arr]
      exact back_ok hm
    · rw [exch_get hm, exch_get hm]
      by_cases ci : sa + k ≤ i ∧ i < sa + k + m.length
      · rw [if_pos ci]
        by_cases cj : sa + k ≤ j ∧ j < sa + k + m.length
        · rw [if_pos cj]
          exact sm.get (by omega) (by omega)
        · rw [if_neg cj]
          rcases mem i ci.1 ci.2 with ⟨y, y1, y2, e⟩ | ⟨y, y1, y2, e⟩
          · rw [e]
            exact KeyOrd.kle_trans (S1 y (sa + na - 1) (by omega) (by omega) (by omega)) (v3' j (by omega) h3)
          · rw [e]
            exact S2 y j y1 (by omega) h3
      · rw [if_neg ci]
        by_cases cj : sa + k ≤ j ∧ j < sa + k + m.length
        · rw [if_pos cj]
          rcases mem j cj.1 cj.2 with ⟨y, y1, y2, e⟩ | ⟨y, y1, y2, e⟩
          · rw [e]
            exact S1 i y h1 (by omega) y2
          · rw [e]
            exact KeyOrd.kle_trans (k2' i h1 (by omega)) (S2 _ y (Nat.le_refl _) y1 (by omega))
        · rw [if_neg cj]
          by_cases c' : j < sa + k
          · exact S1 i j h1 h2 (by omega)
          · by_cases c'' : i < sa + k
            · exact KeyOrd.kle_trans (k2' i h1 c'') (S2 _ j (Nat.le_refl _) (by omega) h3)
            · exact S2 i j (by omega) h2 h3
    · rw [exch_get hm]
      by_cases ci : sa + k ≤ i ∧ i < sa + k + m.length
      · rw [if_pos ci]
        rcases mem i ci.1 ci.2 with ⟨y, y1, y2, e⟩ | ⟨y, y1, y2, e⟩
        · rw [e]
          exact W0 y (by omega) (by omega)
        · rw [e]
          exact W0 y (by omega) (by omega)
      · rw [if_neg ci]
        exact W0 i h1 h2
  have hd : ∀ x ∈ (l.drop (sa + k)).take (na - k), ∀ y ∈ (l.drop (sa + na)).take v, x < y := fun x hx y hy => by
    obtain ⟨i, i1, i2, i3, rfl⟩ := mem_dt hx
    obtain ⟨j, j1, j2, j3, rfl⟩ := mem_dt hy
    exact Nat.lt_of_lt_of_le (W1 i (by omega) (by omega)).2 (W2 j j1 (by omega)).1
  refine wpS_if (fun _ => ?_) fun _ => ?_
  all_goals
    first
      | refine wpS_bind (mlo_ok hC hx hy sx sy (fun z => by rw [z] at lx; simp at lx; omega) (fun z => by rw [z] at ly; simp at ly; omega) hd p0 p1 G1.kind fun m st2 ks pm sm => ?_)
      | refine wpS_bind (mhi_ok hC hx hy sx sy (fun z => by rw [z] at lx; simp at lx; omega) (fun z => by rw [z] at ly; simp at ly; omega) hd p0 p1 G1.kind fun m st2 ks pm sm => ?_)
    obtain ⟨g1, g3, g2⟩ := last m st2 ks pm sm
    refine wpS_bind (mod_gd (κ := κ) (it := it) (n := n) g1 fun st3 G3 => wpS_bind (wpS_get ?_))
    have ef := G3.fail
    unfold failedOf at ef
    rw [ef]
    exact wpS_pure (q st3 _ G3 g3 g2)
end
end LB
set_option maxRecDepth 100000
namespace LB
open PySem PySem.W PyProof.Rows
section
variable {prog : Program} {w : World} {A : Around} {E : Value → Shared → Prop} {s : Shared} {κ : SortKind} {it : Array Keyed} {O : KeyOrd} {key : Nat → O.α} {n : Nat}
theorem lta_ok (hC : Cmp prog w A s κ it key n) {st : SortSt} {l : List Nat} {ps : List (Nat × Nat × Nat)} (hG : Gd κ it n st l ps) {i j : Nat} (hi : i < n) (hj : j < n) {Q : Option Bool → SortSt → Prop} (h : Q (some (O.blt (key (l.getD i 0)) (key (l.getD j 0)))) st) : wpS (model prog w) A E s (ltAt' i j) Q st := by
  rw [ltAt'_eq]
  have ln := hG.len
  refine wpS_bind (wpS_get ?_)
  dsimp only
  rw [hG.arr]
  exact wpS_bind (elem_ok (by omega) (wpS_bind (elem_ok (by omega) (lt_ok hC hG.kind (hG.lt _ (getD_mem (by omega))) (hG.lt _ (getD_mem (by omega))) h))))
noncomputable def revS (l : List Nat) (i j : Nat) : List Nat := exch l ((l.drop i).take (j - i)).reverse i
theorem revS_len {l : List Nat} {i j : Nat} (h1 : i ≤ j) (h2 : j ≤ l.length) : ((l.drop i).take (j - i)).reverse.length = j - i := by
  rw [List.length_reverse, List.length_take, List.length_drop]
  omega
theorem revS_get {l : List Nat} {i j k : Nat} (h1 : i ≤ j) (h2 : j ≤ l.length) : (revS l i j).getD k 0 = if i ≤ k ∧ k < j then l.getD (i + j - 1 - k) 0 else l.getD k 0 := by
  unfold revS
  have rl := revS_len h1 h2
  rw [exch_get (by omega), rl]
  by_cases h : i ≤ k ∧ k < j
  · rw [if_pos (by omega), if_pos h, List.getD_eq_getElem?_getD, List.getElem?_reverse (by rw [List.length_take, List.length_drop]; omega), List.length_take, List.length_drop, List.getElem?_take, if_pos (by omega), List.getElem?_drop, List.getD_eq_getElem?_getD, show i + (min (j - i) (l.length - i) - 1 - (k - i)) = i + j - 1 - k by omega]
  · rw [if_neg (by omega), if_neg h]
theorem revS_perm {l : List Nat} {i j : Nat} (h1 : i ≤ j) (h2 : j ≤ l.length) : (revS l i j).Perm l := by
  refine exch_perm ?_
  rw [revS_len h1 h2]
  exact List.reverse_perm _
theorem AL_by {l : List Nat} {a : Array Keyed} (f : Nat → Nat) (hl : a.size = l.length) (h : ∀ k, k < l.length → a[k]? = some (kas_item it (f k)) ∧ l.getD k 0 = f k) : a = AL it l := by
  apply Array.ext_getElem?
  intro k
  by_cases hk : k < l.length
  · rw [(h k hk).1, AL_get hk, (h k hk).2]
  · rw [Array.getElem?_eq_none (by omega), Array.getElem?_eq_none (by rw [AL_size]; omega)]
theorem revS_arr {l : List Nat} {i j : Nat} (h1 : i ≤ j) (h2 : j ≤ l.length) : mirror (AL it l) i j ((j - i) / 2) = AL it (revS l i j) := by
  have el : (revS l i j).length = l.length := (revS_perm h1 h2).length_eq
  refine AL_by (fun k => (revS l i j).getD k 0) (by rw [mirror_size, AL_size, el]) fun k hk => ⟨?_, rfl⟩
  rw [getElem?_mirror_all (by rw [AL_size]; exact h2), revS_get h1 h2]
  split
  · rw [AL_get (by omega)]
  · rw [AL_get (by omega)]
theorem rev_ok {M : Model} {st : SortSt} {l : List Nat} {ps : List (Nat × Nat × Nat)} (hG : Gd κ it n st l ps) {i j : Nat} (h1 : i ≤ j) (h2 : j ≤ n) {Q : Unit → SortSt → Prop} (h : ∀ st', Gd κ it n st' (revS l i j) ps → Q () st') : wpS M A E s (reverseSlice' i j) Q st := by
  rw [reverseSlice'_eq]
  have ln := hG.len
  refine wpS_modify (h _ ⟨hG.kind, hG.fail, ?_, hG.pend, (revS_perm h1 (by omega)).trans hG.perm⟩)
  show mirror (arrOf st) i j ((j - i) / 2) = _
  rw [hG.arr]
  exact revS_arr h1 (by omega)
noncomputable def lexO (O : KeyOrd) : KeyOrd where
  α := O.α × Nat
  blt a b := O.blt a.1 b.1 || (!O.blt b.1 a.1 && decide (a.2 < b.2))
  irrefl a := by simp [O.irrefl]
  trans a b c h1 h2 := by
    simp only [Bool.or_eq_true, Bool.and_eq_true, Bool.not_eq_true', decide_eq_true_eq] at h1 h2 ⊢
    rcases h1 with h1 | ⟨h1, k1⟩
    · rcases h2 with h2 | ⟨h2, k2⟩
      · exact .inl (O.trans _ _ _ h1 h2)
      · refine .inl ((O.negTrans _ c.1 _ h1).resolve_right fun z => ?_)
        rw [h2] at z
        cases z
    · rcases h2 with h2 | ⟨h2, k2⟩
      · refine .inl ((O.negTrans _ a.1 _ h2).resolve_left fun z => ?_)
        rw [h1] at z
        cases z
      · exact .inr ⟨KeyOrd.kle_trans h1 h2, by omega⟩
  negTrans a b c h := by
    simp only [Bool.or_eq_true, Bool.and_eq_true, Bool.not_eq_true', decide_eq_true_eq] at h ⊢
    rcases h with h | ⟨h, k⟩
    · rcases O.negTrans _ b.1 _ h with z | z
      · exact .inl (.inl z)
      · exact .inr (.inl z)
    · cases e1 : O.blt a.1 b.1 with
      | true => exact .inl (.inl rfl)
      | false =>
        cases e2 : O.blt b.1 c.1 with
        | true => exact .inr (.inl rfl)
        | false =>
          have e3 : O.blt b.1 a.1 = false := by
            cases z : O.blt b.1 a.1 with
            | false => rfl
            | true =>
              rcases O.negTrans _ c.1 _ z with y | y
              · rw [e2] at y; cases y
              · rw [h] at y; cases y
          have e4 : O.blt c.1 b.1 = false := by
            cases z : O.blt c.1 b.1 with
            | false => rfl
            | true =>
              rcases O.negTrans _ a.1 _ z with y | y
              · rw [h] at y; cases y
              · rw [e1] at y; cases y
          rcases Nat.lt_or_ge a.2 b.2 with z | z
          · exact .inl (.inr ⟨e3, z⟩)
          · exact .inr (.inr ⟨e4, by omega⟩)
  total a b h1 h2 := by
    rw [Bool.or_eq_false_iff] at h1 h2
    have e := O.total _ _ h1.1 h2.1
    have g1 := h1.2
    have g2 := h2.2
    rw [h2.1] at g1
    rw [h1.1] at g2
    simp only [Bool.not_false, Bool.true_and, decide_eq_false_iff_not] at g1 g2
    exact Prod.ext e (by omega)
noncomputable def lx (key : Nat → O.α) (i : Nat) : (lexO O).α := (key i, i)
theorem lx_lt {i j : Nat} (h : O.klt (key i) (key j)) : (lexO O).kle (lx key i) (lx key j) := by
  have g : O.blt (key i) (key j) = true := h
  have g2 : O.blt (key j) (key i) = false := KeyOrd.kle_of_klt h
  show (O.blt (key j) (key i) || (!O.blt (key i) (key j) && decide (j < i))) = false
  rw [g, g2]
  rfl
theorem lx_le {i j : Nat} (h : O.kle (key i) (key j)) (hij : i ≤ j) : (lexO O).kle (lx key i) (lx key j) := by
  have g : O.blt (key j) (key i) = false := h
  show (O.blt (key j) (key i) || (!O.blt (key i) (key j) && decide (j < i))) = false
  rw [g, decide_eq_false (by omega), Bool.and_false]
  rfl
theorem lx_of {i j : Nat} (h : (lexO O).kle (lx key i) (lx key j)) : O.kle (key i) (key j) := by
  have h : (O.blt (key j) (key i) || (!O.blt (key i) (key j) && decide (j < i))) = false := h
  exact (Bool.or_eq_false_iff.mp h).1
theorem lx_ask {i j : Nat} (h : j < i) : (lexO O).blt (lx key i) (lx key j) = O.blt (key i) (key j) := by
  show (O.blt (key i) (key j) || (!O.blt (key j) (key i) && decide (i < j))) = _
  rw [decide_eq_false (by omega), Bool.and_false, Bool.or_false]
theorem Cmp.lx (hC : Cmp prog w A s κ it key n) : CmpR prog w A s κ it (lx key) n := fun i j hj hi Q q => by
  rw [lx_ask hj] at q
  exact hC i j hi (by omega) Q q
theorem asc_ok {M : Model} {st : SortSt} {l : List Nat} {lo a nrem : Nat} {f : Nat → Option (Option Nat) × Nat → StateT SortSt Sem (ForInStep (Option (Option Nat) × Nat))} (h1 : 1 ≤ a) (h2 : a ≤ nrem) (hS : Sg (lx key) l lo (lo + a)) (hW : Own l lo (lo + a)) (hU : ∀ i, lo + a ≤ i → i < lo + nrem → l.getD i 0 = i)
    (hf : ∀ i x, 1 ≤ x → x < nrem → wpS M A E s (f i (none, x)) (fun r st' => st' = st ∧ r = if O.blt (key (l.getD (lo + x) 0)) (key (l.getD (lo + x - 1) 0)) = true then .done (none, x) else .yield (none, x + 1)) st) :
    wpS M A E s (forIn [a:nrem] ((none, a) : Option (Option Nat) × Nat) f) (fun c st' => st' = st ∧ ∃ m, c = (none, m) ∧ a ≤ m ∧ m ≤ nrem ∧ (Sg (lx key) l lo (lo + m) ∧ Own l lo (lo + m)) ∧ (m = nrem ∨ m < nrem ∧ O.klt (key (l.getD (lo + m) 0)) (key (l.getD (lo + m - 1) 0)))) st := by
  refine wpS_forRange (I := fun x c st' => st' = st ∧ c = (none, x) ∧ Sg (lx key) l lo (lo + x) ∧ Own l lo (lo + x)) ?_ ?_ ⟨rfl, rfl, hS, hW⟩
  · rintro x c st' hx1 hx2 ⟨rfl, rfl, S, W⟩
    refine wpS_mono (hf x x (by omega) hx2) ?_
    rintro r st' ⟨rfl, rfl⟩
    cases e : O.blt (key (l.getD (lo + x) 0)) (key (l.getD (lo + x - 1) 0)) with
    | true => exact ⟨rfl, x, rfl, hx1, by omega, ⟨S, W⟩, .inr ⟨hx2, e⟩⟩
    | false =>
      have u := hU (lo + x) (by omega) (by omega)
      refine ⟨rfl, rfl, fun i j hi hij hj => ?_, fun i hi hj => ?_⟩
      · by_cases c : j < lo + x
        · exact S i j hi hij c
        · have : j = lo + x := by omega
          subst this
          by_cases c' : i = lo + x
          · subst c'
            exact KeyOrd.kle_refl _
          · exact KeyOrd.kle_trans (S i (lo + x - 1) hi (by omega) (by omega)) (lx_le e (by have := W (lo + x - 1) (by omega) (by omega); omega))
      · by_cases c : i = lo + x
        · rw [c, u]
          omega
        · have := W i hi (by omega)
          omega
  · rintro c st' ⟨rfl, rfl, S, W⟩
    rw [show max a nrem = nrem by omega] at S W ⊢
    exact ⟨rfl, nrem, rfl, h2, Nat.le_refl _, ⟨S, W⟩, .inl rfl⟩
noncomputable def Fl (key : Nat → O.α) (l : List Nat) (a b : Nat) : Prop := ∀ i j, a ≤ i → i < j → j < b → (lexO O).kle (lx key (l.getD j 0)) (lx key (l.getD i 0))
structure Dn (key : Nat → O.α) (n : Nat) (l : List Nat) (lo c x : Nat) : Prop where
  own : Own l lo c
  un : ∀ i, c ≤ i → i < n → l.getD i 0 = i
  fall : Fl key l lo c
  less : ∀ i j, lo ≤ i → i < c → c ≤ j → j < x → O.klt (key (l.getD j 0)) (key (l.getD i 0))
  eq : ∀ i, c ≤ i → i < x → key (l.getD i 0) = key (l.getD (x - 1) 0)
structure Dn1 (key : Nat → O.α) (n : Nat) (l : List Nat) (lo x : Nat) : Prop where
  own : Own l lo x
  un : ∀ i, x ≤ i → i < n → l.getD i 0 = i
  fall : Fl key l lo x
theorem Dn.close {l : List Nat} {lo c x : Nat} (h : Dn key n l lo c x) (ln : l.length = n) (h1 : lo ≤ c) (h2 : c < x) (h3 : x ≤ n) : Dn1 key n (revS l c x) lo x := by
  have g : ∀ k, (revS l c x).getD k 0 = if c ≤ k ∧ k < x then c + x - 1 - k else l.getD k 0 := fun k => by
    rw [revS_get (by omega) (by omega)]
    split
    · exact h.un _ (by omega) (by omega)
    · rfl
  have e : ∀ i, c ≤ i → i < x → key i = key (x - 1) := fun i a b => by
    have := h.eq i a b
    rwa [h.un i a (by omega), h.un (x - 1) (by omega) (by omega)] at this
  refine ⟨fun i hi hx => ?_, fun i hi hn => ?_, fun i j hi hij hj => ?_⟩
  · rw [g]
    split
    · omega
    · have := h.own i hi (by omega)
      omega
  · rw [g, if_neg (by omega)]
    exact h.un i (by omega) hn
  · rw [g, g]
    by_cases cj : c ≤ j
    · rw [if_pos ⟨cj, hj⟩]
      by_cases ci : c ≤ i
      · rw [if_pos ⟨ci, by omega⟩]
        refine lx_le ?_ (by omega)
        rw [e _ (by omega) (by omega), e (c + x - 1 - i) (by omega) (by omega)]
        exact KeyOrd.kle_refl _
      · rw [if_neg (by omega)]
        have := h.less i (c + x - 1 - j) hi (by omega) (by omega) (by omega)
        rw [h.un (c + x - 1 - j) (by omega) (by omega)] at this
        exact lx_lt this
    · rw [if_neg (by omega), if_neg (by omega)]
      exact h.fall i j hi hij (by omega)
theorem Dn.one {l : List Nat} {lo c x : Nat} (h : Dn key n l lo c x) (h1 : lo ≤ c) (h2 : c + 1 = x) (h3 : x ≤ n) : Dn1 key n l lo x := by
  refine ⟨fun i hi hx => ?_, fun i hi hn => h.un i (by omega) hn, fun i j hi hij hj => ?_⟩
  · by_cases e : i = c
    · rw [h.un i (by omega) (by omega)]
      omega
    · have := h.own i hi (by omega)
      omega
  · by_cases e : j = c
    · exact lx_lt (h.less i j hi (by omega) (by omega) hj)
    · exact h.fall i j hi hij (by omega)
theorem Dn1.open {l : List Nat} {lo x : Nat} (h : Dn1 key n l lo x) (hl : ∀ i, lo ≤ i → i < x → O.klt (key (l.getD x 0)) (key (l.getD i 0))) : Dn key n l lo x (x + 1) := by
  refine ⟨h.own, h.un, h.fall, fun i j hi hi2 hj hj2 => ?_, fun i h1 h2 => ?_⟩
  · have : j = x := by omega
    subst this
    exact hl i hi hi2
  · rw [show i = x + 1 - 1 by omega]
theorem Dn.more {l : List Nat} {lo c x : Nat} (h : Dn key n l lo c x) (h2 : c < x) (e : key (l.getD x 0) = key (l.getD (x - 1) 0)) : Dn key n l lo c (x + 1) := by
  refine ⟨h.own, h.un, h.fall, fun i j hi hi2 hj hj2 => ?_, fun i h3 h4 => ?_⟩
  · by_cases z : j = x
    · rw [z, e]
      exact h.less i (x - 1) hi hi2 (by omega) (by omega)
    · exact h.less i j hi hi2 hj (by omega)
  · rw [Nat.add_sub_cancel, e]
    by_cases z : i = x
    · rw [z, e]
    · exact h.eq i h3 (by omega)
theorem klt_le {a b c : O.α} (h1 : O.klt a b) (h2 : O.kle b c) : O.klt a c := (O.negTrans _ c _ h1).resolve_right fun z => by
  have h2 : O.blt c b = false := h2
  rw [h2] at z
  cases z
theorem Dn.low {l : List Nat} {lo c x : Nat} (h : Dn key n l lo c x) (h2 : c < x) (i : Nat) (h3 : lo ≤ i) (h4 : i < x) : O.kle (key (l.getD (x - 1) 0)) (key (l.getD i 0)) := by
  by_cases z : c ≤ i
  · rw [h.eq i z h4]
    exact KeyOrd.kle_refl _
  · exact KeyOrd.kle_of_klt (h.less i (x - 1) h3 (by omega) (by omega) (by omega))
theorem both {M : Model} {α : Type} {c : Prop} [Decidable c] {x y : StateT SortSt Sem α} {Q : α → SortSt → Prop} {st : SortSt} (R : SortSt → Prop) (h1 : c → (∀ st', R st' → wpS M A E s y Q st') → wpS M A E s x Q st) (h2 : ¬ c → R st) (h3 : ∀ st', R st' → wpS M A E s y Q st') : wpS M A E s (if c then x else y) Q st := wpS_if (fun z => h1 z h3) fun z => h3 st (h2 z)
theorem count_ok (hC : Cmp prog w A s κ it key n) {st : SortSt} {l : List Nat} {ps : List (Nat × Nat × Nat)} (hG : Gd κ it n st l ps) {lo nrem : Nat} (h1 : 1 ≤ nrem) (h2 : lo + nrem ≤ n) (hU : ∀ i, lo ≤ i → i < n → l.getD i 0 = i) {Q : Option Nat → SortSt → Prop}
    (q : ∀ m st' l', Gd κ it n st' l' ps → (∀ i, i < lo → l'.getD i 0 = l.getD i 0) → 1 ≤ m → m ≤ nrem → Sg (lx key) l' lo (lo + m) ∧ Own l' lo (lo + m) → (∀ i, lo + m ≤ i → i < n → l'.getD i 0 = i) → Q (some m) st') : wpS (model prog w) A E s (countRun' lo nrem) Q st := by
  have ln := hG.len
  have s1 : Sg (lx key) l lo (lo + 1) := fun i j h1 h2 h3 => by
    have : i = j := by omega
    subst this
    exact KeyOrd.kle_refl _
  have w1 : Own l lo (lo + 1) := fun i a b => by
    rw [hU i a (by omega)]
    omega
  unfold countRun'
  refine wpS_bind (wpS_mono (asc_ok (key := key) (Nat.le_refl 1) h1 s1 w1 (fun i a b => hU i (by omega) (by omega)) fun i x hx1 hx2 => ?_) ?_)
  · dsimp only
    refine wpS_bind (lta_ok hC hG (by omega) (by omega) ?_)
    dsimp only
    split <;> exact wpS_pure ⟨rfl, rfl⟩
  rintro _ _ ⟨rfl, m, rfl, m1, m2, ⟨S, W⟩, hm⟩
  rename_i st
  dsimp only
  refine wpS_ifeq (fun c => wpS_pure (q m st l hG (fun _ _ => rfl) m1 m2 ⟨S, W⟩ fun i a b => hU i (by omega) b)) fun c => ?_
  have hm := hm.resolve_left c
  have fin1 : (∀ k, lo ≤ k → k < lo + m → key (l.getD k 0) = key (l.getD (lo + m - 1) 0)) → Dn key n l lo lo (lo + m) := fun same => ⟨fun i a b => by omega, fun i a b => hU i a b, fun i j a b c => by omega, fun i j a b => by omega, same⟩
  refine both (fun st' => ∃ l', Gd κ it n st' l' ps ∧ (∀ i, i < lo → l'.getD i 0 = l.getD i 0) ∧ Dn key n l' lo (lo + m) (lo + (m + 1))) (fun c desc => ?_) (fun c => ⟨l, hG, fun _ _ => rfl, ?_⟩) ?_
  · refine wpS_bind (lta_ok hC hG (by omega) (by omega) ?_)
    dsimp only
    cases rose : O.blt (key (l.getD lo 0)) (key (l.getD (lo + m - 1) 0)) with
    | true =>
      rw [if_pos rfl]
      exact wpS_pure (q m st l hG (fun _ _ => rfl) m1 m2 ⟨S, W⟩ fun i a b => hU i (by omega) b)
    | false =>
      rw [if_neg Bool.false_ne_true]
      have same : ∀ k, lo ≤ k → k < lo + m → key (l.getD k 0) = key (l.getD (lo + m - 1) 0) := fun k h1 h2 => O.total _ _ (KeyOrd.kle_trans rose (lx_of (S lo k (Nat.le_refl _) h1 h2))) (lx_of (S k (lo + m - 1) h1 (by omega) (by omega)))
      have D := (fin1 same).close ln (Nat.le_refl _) (by omega) (by omega)
      refine wpS_bind (rev_ok hG (by omega) (by omega) fun st' G' => desc st' ⟨_, G', fun i hi => ?_, D.open fun i hi hj => ?_⟩)
      · rw [revS_get (by omega) (by omega), if_neg (by omega)]
      · rw [revS_get (by omega) (by omega), revS_get (by omega) (by omega), if_neg (by omega), if_pos ⟨hi, hj⟩, same (lo + (lo + m) - 1 - i) (by omega) (by omega)]
        exact hm.2
  · have : m = 1 := by omega
    subst this
    refine Dn1.open ⟨w1, fun i a b => hU i (by omega) b, fun i j a b c => by omega⟩ fun i hi hj => ?_
    have : i = lo := by omega
    subst this
    exact hm.2
  · rintro st' ⟨l', G', fr, D⟩
    have ln' := G'.len
    refine wpS_bind (wpS_lift (wpAny_rule ⟨rfl, ?_⟩))
    refine wpS_bind (wpS_mono (wpS_forRange (I := fun x c st2 => ∃ l2 z, c = (none, x, z) ∧ Gd κ it n st2 l2 ps ∧ (∀ i, i < lo → l2.getD i 0 = l.getD i 0) ∧ Dn key n l2 lo (lo + x - (z + 1)) (lo + x) ∧ z + 1 ≤ x)
      (Q := fun c st2 => ∃ x l2 z, c = (none, x, z) ∧ m + 1 ≤ x ∧ x ≤ nrem ∧ Gd κ it n st2 l2 ps ∧ (∀ i, i < lo → l2.getD i 0 = l.getD i 0) ∧ Dn key n l2 lo (lo + x - (z + 1)) (lo + x) ∧ z + 1 ≤ x) ?_ ?_ ⟨l', 0, rfl, G', fr, by rw [show lo + (m + 1) - (0 + 1) = lo + m by omega]; exact D, by omega⟩) ?_)
    · rintro x c st2 hx1 hx2 ⟨l2, z, rfl, G2, fr2, D2, hz⟩
      have ln2 := G2.len
      dsimp only
      refine wpS_bind (lta_ok hC G2 (by omega) (by omega) ?_)
      dsimp only
      cases e : O.blt (key (l2.getD (lo + x) 0)) (key (l2.getD (lo + x - 1) 0)) with
      | true =>
        rw [if_pos rfl]
        have low : ∀ i, lo ≤ i → i < lo + x → O.klt (key (l2.getD (lo + x) 0)) (key (l2.getD i 0)) := fun i a b => klt_le e (D2.low (by omega) i a b)
        refine wpS_if (fun cz => wpS_bind (rev_ok G2 (by omega) (by omega) fun st3 G3 => wpS_pure ⟨_, 0, rfl, G3, fun i hi => ?_, ?_, by omega⟩)) fun cz => wpS_pure ⟨l2, 0, rfl, G2, fr2, ?_, by omega⟩
        · rw [revS_get (by omega) (by omega), if_neg (by omega)]
          exact fr2 i hi
        · have := (D2.close ln2 (by omega) (by omega) (by omega)).open fun i hi hj => by
            rw [revS_get (by omega) (by omega), if_neg (by omega)]
            rw [revS_get (by omega) (by omega)]
            split
            · exact low _ (by omega) (by omega)
            · exact low i hi hj
          rw [show lo + (x + 1) - (0 + 1) = lo + x by omega]
          exact this
        · have := (D2.one (by omega) (by omega) (by omega)).open low
          rw [show lo + (x + 1) - (0 + 1) = lo + x by omega]
          exact this
      | false =>
        rw [if_neg Bool.false_ne_true]
        refine wpS_bind (lta_ok hC G2 (by omega) (by omega) ?_)
        dsimp only
        cases e' : O.blt (key (l2.getD (lo + x - 1) 0)) (key (l2.getD (lo + x) 0)) with
        | true =>
          rw [if_pos rfl]
          exact wpS_pure ⟨x, l2, z, rfl, hx1, by omega, G2, fr2, D2, hz⟩
        | false =>
          rw [if_neg Bool.false_ne_true]
          have ee : key (l2.getD (lo + x) 0) = key (l2.getD (lo + x - 1) 0) := O.total _ _ e e'
          refine wpS_pure ⟨l2, z + 1, rfl, G2, fr2, ?_, by omega⟩
          rw [show lo + (x + 1) - (z + 1 + 1) = lo + x - (z + 1) by omega]
          exact D2.more (by omega) ee
    · rintro c st2 ⟨l2, z, rfl, G2, fr2, D2, hz⟩
      rw [show max (m + 1) nrem = nrem by omega] at D2 hz ⊢
      exact ⟨nrem, l2, z, rfl, by omega, Nat.le_refl _, G2, fr2, D2, hz⟩
    · rintro c st2 ⟨x, l2, z, rfl, hx1, hx2, G2, fr2, D2, hz⟩
      have ln2 := G2.len
      dsimp only
      refine both (fun st3 => ∃ l3, Gd κ it n st3 l3 ps ∧ (∀ i, i < lo → l3.getD i 0 = l.getD i 0) ∧ Dn1 key n l3 lo (lo + x)) (fun cz up => wpS_bind (rev_ok G2 (by omega) (by omega) fun st3 G3 => up st3 ⟨_, G3, fun i hi => ?_, D2.close ln2 (by omega) (by omega) (by omega)⟩)) (fun cz => ⟨l2, G2, fr2, D2.one (by omega) (by omega) (by omega)⟩) ?_
      · rw [revS_get (by omega) (by omega), if_neg (by omega)]
        exact fr2 i hi
      · rintro st3 ⟨l3, G3, fr3, D3⟩
        have ln3 := G3.len
        refine wpS_bind (rev_ok G3 (by omega) (by omega) fun st4 G4 => ?_)
        have g4 : ∀ i, (revS l3 lo (lo + x)).getD i 0 = if lo ≤ i ∧ i < lo + x then l3.getD (lo + (lo + x) - 1 - i) 0 else l3.getD i 0 := fun i => revS_get (by omega) (by omega)
        have fr4 : ∀ i, i < lo → (revS l3 lo (lo + x)).getD i 0 = l.getD i 0 := fun i hi => by
          rw [g4, if_neg (by omega)]
          exact fr3 i hi
        have u4 : ∀ i, lo + x ≤ i → i < n → (revS l3 lo (lo + x)).getD i 0 = i := fun i hi hn => by
          rw [g4, if_neg (by omega)]
          exact D3.un i hi hn
        refine wpS_bind (wpS_mono (asc_ok (l := revS l3 lo (lo + x)) (key := key) (lo := lo) (by omega) hx2 (fun i j hi hij hj => ?_) (fun i hi hj => ?_) (fun i hi hj => u4 i hi (by omega)) fun i y hy1 hy2 => ?_) ?_)
        · rw [g4, g4, if_pos (by omega), if_pos (by omega)]
          by_cases cij : i = j
          · rw [cij]
            exact KeyOrd.kle_refl _
          · exact D3.fall _ _ (by omega) (by omega) (by omega)
        · rw [g4, if_pos ⟨hi, hj⟩]
          exact D3.own _ (by omega) (by omega)
        · dsimp only
          refine wpS_bind (lta_ok hC G4 (by omega) (by omega) ?_)
          dsimp only
          split <;> exact wpS_pure ⟨rfl, rfl⟩
        · rintro _ _ ⟨rfl, y, rfl, y1, y2, S4, _⟩
          exact wpS_pure (q y _ _ G4 fr4 (by omega) y2 S4 fun i hi hn => u4 i (by omega) hn)
end
end LB
set_option maxRecDepth 100000
namespace LB
open PySem PySem.W PyProof.Rows
section
variable {prog : Program} {w : World} {A : Around} {E : Value → Shared → Prop} {s : Shared} {κ : SortKind} {it : Array Keyed} {O : KeyOrd} {key : Nat → O.α} {n : Nat}
noncomputable def bubS (l : List Nat) (a d : Nat) : List Nat := exch l (l.getD a 0 :: (l.drop (a - d)).take d) (a - d)
theorem bubS_len {l : List Nat} {a d : Nat} (h1 : a < l.length) (h2 : d ≤ a) : (l.getD a 0 :: (l.drop (a - d)).take d).length = d + 1 := by
  rw [List.length_cons, List.length_take, List.length_drop]
  omega
theorem bubS_get {l : List Nat} {a d k : Nat} (h1 : a < l.length) (h2 : d ≤ a) : (bubS l a d).getD k 0 = if k = a - d then l.getD a 0 else if a - d < k ∧ k ≤ a then l.getD (k - 1) 0 else l.getD k 0 := by
  unfold bubS
  have bl := bubS_len h1 h2
  rw [exch_get (by omega), bl]
  by_cases c1 : k = a - d
  · rw [if_pos (by omega), if_pos c1, show k - (a - d) = 0 by omega]
    rfl
  · rw [if_neg c1]
    by_cases c2 : a - d < k ∧ k ≤ a
    · rw [if_pos (by omega), if_pos c2, show k - (a - d) = (k - 1 - (a - d)) + 1 by omega, List.getD_cons_succ, getD_dt (by omega), show a - d + (k - 1 - (a - d)) = k - 1 by omega]
    · rw [if_neg (by omega), if_neg c2]
theorem bubS_perm {l : List Nat} {a d : Nat} (h1 : a < l.length) (h2 : d ≤ a) : (bubS l a d).Perm l := by
  refine exch_perm ?_
  have e : (l.drop (a - d)).take (d + 1) = (l.drop (a - d)).take d ++ [l.getD a 0] := by
    rw [List.take_add, List.drop_drop, show a - d + d = a by omega, take1 h1]
  rw [bubS_len h1 h2, e]
  exact (List.perm_append_singleton _ _).symm
theorem bubS_arr {l : List Nat} {a d : Nat} (h1 : a < l.length) (h2 : d ≤ a) : bubble (AL it l) a d = AL it (bubS l a d) := by
  have el : (bubS l a d).length = l.length := (bubS_perm h1 h2).length_eq
  refine AL_by (fun k => (bubS l a d).getD k 0) (by rw [bubble_size, AL_size, el]) fun k hk => ⟨?_, rfl⟩
  rw [getElem?_bubble (by rw [AL_size]; exact h1) d h2, bubS_get h1 h2]
  split
  · rw [AL_get h1]
  · split
    · rw [AL_get (by omega)]
    · rw [AL_get (by omega)]
theorem move_ok {M : Model} {st : SortSt} {l : List Nat} {ps : List (Nat × Nat × Nat)} (hG : Gd κ it n st l ps) {a b : Nat} (h1 : a < n) (h2 : b ≤ a) {Q : Unit → SortSt → Prop} (h : ∀ st', Gd κ it n st' (bubS l a (a - b)) ps → Q () st') : wpS M A E s (moveDown' a b) Q st := by
  rw [moveDown'_eq]
  have ln := hG.len
  refine wpS_modify (h _ ⟨hG.kind, hG.fail, ?_, hG.pend, (bubS_perm (by omega) (by omega)).trans hG.perm⟩)
  show bubble (arrOf st) a (a - b) = _
  rw [hG.arr]
  exact bubS_arr (by omega) (by omega)
theorem bin_ok (hC : Cmp prog w A s κ it key n) {st : SortSt} {l : List Nat} {ps : List (Nat × Nat × Nat)} (hG : Gd κ it n st l ps) {lo f ok : Nat} (h1 : 1 ≤ ok) (h2 : ok ≤ f) (h3 : lo + f ≤ n) (hS : Sg (lx key) l lo (lo + ok) ∧ Own l lo (lo + ok)) (hU : ∀ i, lo + ok ≤ i → i < n → l.getD i 0 = i) {Q : Bool → SortSt → Prop}
    (q : ∀ st' l', Gd κ it n st' l' ps → (∀ i, i < lo → l'.getD i 0 = l.getD i 0) → Sg (lx key) l' lo (lo + f) ∧ Own l' lo (lo + f) → (∀ i, lo + f ≤ i → i < n → l'.getD i 0 = i) → Q true st') : wpS (model prog w) A E s (binarySort' lo f ok) Q st := by
  unfold binarySort'
  refine wpS_bind (wpS_mono (wpS_forRange (I := fun k c st' => c = (none, ()) ∧ ∃ l', Gd κ it n st' l' ps ∧ (∀ i, i < lo → l'.getD i 0 = l.getD i 0) ∧ (Sg (lx key) l' lo (lo + k) ∧ Own l' lo (lo + k)) ∧ ∀ i, lo + k ≤ i → i < n → l'.getD i 0 = i)
    (Q := fun c st' => c = (none, ()) ∧ ∃ l', Gd κ it n st' l' ps ∧ (∀ i, i < lo → l'.getD i 0 = l.getD i 0) ∧ (Sg (lx key) l' lo (lo + f) ∧ Own l' lo (lo + f)) ∧ ∀ i, lo + f ≤ i → i < n → l'.getD i 0 = i) ?_ ?_ ⟨rfl, l, hG, fun _ _ => rfl, by rw [show max ok 1 = ok by omega]; exact ⟨hS, hU⟩⟩) ?_)
  · rintro k c st' hk1 hk2 ⟨rfl, l', G', fr, ⟨S, W⟩, U⟩
    have ln' := G'.len
    dsimp only
    refine wpS_bind (wpS_mono (wpS_forRange (I := fun x c st'' => st'' = st' ∧ ∃ a b, c = (none, a, b) ∧ a ≤ b ∧ b ≤ k ∧ b - a ≤ k - x ∧ (∀ i, lo ≤ i → i < lo + a → (lexO O).kle (lx key (l'.getD i 0)) (lx key (l'.getD (lo + k) 0))) ∧ ∀ i, lo + b ≤ i → i < lo + k → (lexO O).kle (lx key (l'.getD (lo + k) 0)) (lx key (l'.getD i 0)))
      (Q := fun c st'' => st'' = st' ∧ ∃ a b, c = (none, a, b) ∧ a ≤ k ∧ (∀ i, lo ≤ i → i < lo + a → (lexO O).kle (lx key (l'.getD i 0)) (lx key (l'.getD (lo + k) 0))) ∧ ∀ i, lo + a ≤ i → i < lo + k → (lexO O).kle (lx key (l'.getD (lo + k) 0)) (lx key (l'.getD i 0))) ?_ ?_ ⟨rfl, 0, k, rfl, by omega, by omega, by omega, fun i h1 h2 => by omega, fun i h1 h2 => by omega⟩) ?_)
    · rintro x c st'' _ hx ⟨rfl, a, b, rfl, ab, bk, bx, ha, hb⟩
      dsimp only
      refine wpS_if (fun c => ?_) fun c => wpS_bind (lta_ok hC G' (by omega) (by omega) ?_)
      · have : a = b := by omega
        subst this
        exact wpS_pure ⟨rfl, a, a, rfl, by omega, ha, hb⟩
      · dsimp only
        rw [← lx_ask (key := key) (i := l'.getD (lo + k) 0) (j := l'.getD (lo + (a + b) / 2) 0) (by rw [U (lo + k) (by omega) (by omega)]; exact (W _ (by omega) (by omega)).2)]
        cases e : (lexO O).blt (lx key (l'.getD (lo + k) 0)) (lx key (l'.getD (lo + (a + b) / 2) 0)) with
        | true =>
          rw [if_pos rfl]
          exact wpS_pure ⟨rfl, a, (a + b) / 2, rfl, by omega, by omega, by omega, ha, fun i h1 h2 => KeyOrd.kle_trans (KeyOrd.kle_of_klt e) (S _ i (by omega) h1 h2)⟩
        | false =>
          rw [if_neg Bool.false_ne_true]
          exact wpS_pure ⟨rfl, (a + b) / 2 + 1, b, rfl, by omega, by omega, by omega, fun i h1 h2 => KeyOrd.kle_trans (S i _ h1 (by omega) (by omega)) e, hb⟩
    · rintro c st'' ⟨rfl, a, b, rfl, ab, bk, bx, ha, hb⟩
      have : a = b := by omega
      subst this
      exact ⟨rfl, a, a, rfl, by omega, ha, hb⟩
    · rintro c st'' ⟨rfl, a, b, rfl, ak, ha, hb⟩
      dsimp only
      refine wpS_bind (move_ok G' (by omega) (by omega) fun st3 G3 => wpS_pure ⟨rfl, _, G3, fun i hi => ?_, ⟨fun i j hi hij hj => ?_, fun i hi hj => ?_⟩, fun i hi hj => ?_⟩)
      · rw [bubS_get (by omega) (by omega), if_neg (by omega), if_neg (by omega)]
        exact fr i hi
      · rw [bubS_get (by omega) (by omega), bubS_get (by omega) (by omega), show lo + k - (lo + k - (lo + a)) = lo + a by omega]
        repeat' split
        all_goals first
          | (exfalso; omega)
          | exact KeyOrd.kle_refl _
          | exact ha _ (by omega) (by omega)
          | exact hb _ (by omega) (by omega)
          | exact S _ _ (by omega) (by omega) (by omega)
      · rw [bubS_get (by omega) (by omega), U (lo + k) (by omega) (by omega)]
        have u := W (i - 1)
        have v := W i
        repeat' split
        all_goals omega
      · rw [bubS_get (by omega) (by omega), if_neg (by omega), if_neg (by omega)]
        exact U i (by omega) hj
  · rintro c st' ⟨rfl, l', G', fr, S, U⟩
    rw [show max (max ok 1) f = f by omega] at S U
    exact ⟨rfl, l', G', fr, S, U⟩
  · rintro c st' ⟨rfl, l', G', fr, S, U⟩
    exact wpS_pure (q st' l' G' fr S U)
theorem Runs.pos {l : List Nat} : ∀ {x : List (Nat × Nat × Nat)} {a b : Nat}, Runs key l x a b → x.length + a ≤ b
  | [], a, b, h => by
    have : a = b := h
    simp only [List.length_nil]
    omega
  | p :: x, a, b, ⟨_, h1, _, h⟩ => by
    have := h.pos
    rw [List.length_cons]
    omega
theorem last2 {ps : List (Nat × Nat × Nat)} {i : Nat} (h : i + 2 ≤ ps.length) : ∃ pre a b post, ps = pre ++ a :: b :: post ∧ pre.length = i ∧ post.length + i + 2 = ps.length := by
  refine ⟨ps.take i, ps[i], ps[i + 1], ps.drop (i + 2), ?_, by rw [List.length_take]; omega, by rw [List.length_drop]; omega⟩
  rw [← List.drop_eq_getElem_cons, ← List.drop_eq_getElem_cons, List.take_append_drop]
theorem Runs.pow {l : List Nat} {pre : List (Nat × Nat × Nat)} {x y z z' a b : Nat} (h : Runs key l (pre ++ [(x, y, z)]) a b) : Runs key l (pre ++ [(x, y, z')]) a b := by
  obtain ⟨m, h1, h2, h3, h4, h5⟩ := Runs.app.mp h
  exact Runs.app.mpr ⟨m, h1, h2, h3, h4, h5⟩
theorem ite_le {c : Prop} [Decidable c] {a b k : Nat} (h1 : a ≤ k) (h2 : b ≤ k) : (if c then a else b) ≤ k := by
  split <;> assumption
theorem merge_any (hC : CmpR prog w A s κ it key n) {st : SortSt} {l : List Nat} {ps : List (Nat × Nat × Nat)} {e i : Nat} (hG : Gd κ it n st l ps) (he : e ≤ n) (hR : Runs key l ps 0 e) (hi : i + 2 ≤ ps.length) {Q : Bool → SortSt → Prop}
    (q : ∀ st' l' ps', Gd κ it n st' l' ps' → (∀ i, e ≤ i → l'.getD i 0 = l.getD i 0) → Runs key l' ps' 0 e → ps'.length + 1 = ps.length → Q true st') : wpS (model prog w) A E s (mergeAt' i) Q st := by
  obtain ⟨pre, ⟨sa, na, pa⟩, ⟨sb, nb, pb⟩, post, rfl, rfl, hp⟩ := last2 hi
  refine mergeAt_ok hC hG he hR fun st2 l2 G2 f2 R2 => q st2 l2 _ G2 f2 R2 ?_
  simp only [List.length_append, List.length_cons]
  omega
theorem mod_last {α : Type} (f : α → α) (x : α) : ∀ pre : List α, (pre ++ [x]).modify pre.length f = pre ++ [f x]
  | [] => rfl
  | a :: r => by
    rw [List.cons_append, List.length_cons, List.modify_succ_cons, mod_last f x r]
    rfl
theorem push_ok {M : Model} {st : SortSt} {l : List Nat} {ps : List (Nat × Nat × Nat)} {z : Nat × Nat × Nat} (hG : Gd κ it n st l ps) {Q : PUnit → SortSt → Prop} (h : ∀ st', Gd κ it n st' l (ps ++ [z]) → Q ⟨⟩ st') : wpS M A E s (modify fun s => setPending s ((pendingOf s).push z) : StateT SortSt Sem PUnit) Q st := by
  refine wpS_modify (h _ ⟨hG.kind, hG.fail, hG.arr, ?_, hG.perm⟩)
  show (pendingOf st).push z = _
  rw [hG.pend]
  simp
theorem pow_ok {M : Model} {st : SortSt} {l : List Nat} {pre : List (Nat × Nat × Nat)} {a b c g : Nat} (hG : Gd κ it n st l (pre ++ [(a, b, c)])) {Q : PUnit → SortSt → Prop} (h : ∀ st', Gd κ it n st' l (pre ++ [(a, b, g)]) → Q ⟨⟩ st') : wpS M A E s (modify fun s => setPending s ((pendingOf s).modify ((pendingOf s).size - 1) fun x => (x.1, x.2.1, g)) : StateT SortSt Sem PUnit) Q st := by
  refine wpS_modify (h _ ⟨hG.kind, hG.fail, hG.arr, ?_, hG.perm⟩)
  show (pendingOf st).modify ((pendingOf st).size - 1) (fun x => (x.1, x.2.1, g)) = _
  rw [hG.pend]
  simp
  exact mod_last _ _ pre
theorem big_ok (hC : Cmp prog w A s κ it key n) {st : SortSt} (hG : Gd κ it n st (List.range n) []) {Q : Unit → SortSt → Prop} (q : ∀ st' l' ps, Gd κ it n st' l' ps → Sg (lx key) l' 0 n → Q () st') : wpS (model prog w) A E s sortRuns' Q st := by
  unfold sortRuns'
  refine wpS_bind (wpS_get ?_)
  have ea := hG.arr
  unfold arrOf at ea
  rw [ea]
  dsimp only
  simp only [AL_size, List.length_range]
  refine wpS_bind (wpS_mono (wpS_forRange (I := fun x c st' => ∃ l ps lo, c = (none, lo) ∧ Gd κ it n st' l ps ∧ Runs (lx key) l ps 0 lo ∧ lo ≤ n ∧ x ≤ lo ∧ ∀ i, lo ≤ i → i < n → l.getD i 0 = i)
    (Q := fun c st' => ∃ l ps, c = (none, n) ∧ Gd κ it n st' l ps ∧ Runs (lx key) l ps 0 n) ?_ ?_ ⟨_, [], 0, rfl, hG, rfl, by omega, by omega, fun i _ hi => by rw [List.getD_eq_getElem?_getD, List.getElem?_range hi]; rfl⟩) ?_)
  · rintro x c st1 _ hx ⟨l1, ps, lo, rfl, G1, R1, lon, xlo, U1⟩
    dsimp only
    refine wpS_if (fun c => ?_) fun c => wpS_bind (count_ok hC G1 (by omega) (by omega) U1 fun m st2 l2 G2 fr2 m1 m2 S2 U2 => ?_)
    · have : lo = n := by omega
      subst this
      exact wpS_pure ⟨l1, ps, rfl, G1, R1⟩
    have R2 := R1.congr (l' := l2) fun i _ hi => fr2 i hi
    dsimp only
    refine wpS_if (fun c2 => wpS_bind (wpS_lift (wpAny_rule ⟨rfl, wpS_bind (bin_ok hC G2 m1 (by omega) (by omega) S2 U2 fun st3 l3 G3 fr3 S3 U3 => ?_)⟩))) fun c2 => ?_
    case' refine_1 =>
      rw [if_neg (by decide)]
      have R3 := R2.congr (l' := l3) fun i _ hi => fr3 i hi
    case' refine_2 =>
      have G3 := G2
      have R3 := R2
      have S3 := S2
      have U3 := U2
      generalize l2 = l3 at G3 R3 S3 U3
      generalize st2 = st3 at G3 ⊢
    all_goals
      refine wpS_bind (wpS_get ?_)
      have ep := G3.pend
      unfold pendingOf at ep
      rw [ep, List.back?_toArray]
      rcases List.eq_nil_or_concat ps with rfl | ⟨pre, ⟨z1, z2, z3⟩, rfl⟩
    case refine_1.inl =>
      refine wpS_bind (push_ok G3 fun st4 G4 => wpS_pure ⟨_, _, _, rfl, G4, Runs.app.mpr ⟨lo, R3, rfl, by dsimp only; omega, S3, rfl⟩, by omega, by omega, U3⟩)
    case refine_2.inl =>
      refine wpS_bind (push_ok G3 fun st4 G4 => wpS_pure ⟨_, _, _, rfl, G4, Runs.app.mpr ⟨lo, R3, rfl, by dsimp only; omega, S3, rfl⟩, by omega, by omega, U3⟩)
    all_goals
      rw [List.concat_eq_append] at G3 R3 ⊢
      rw [List.getLast?_concat]
      dsimp only
      refine wpS_bind (wpS_mono (wpS_forRange (I := fun x c st' => c = (none, ()) ∧ ∃ l' ps', Gd κ it n st' l' ps' ∧ (∀ i, lo ≤ i → l'.getD i 0 = l3.getD i 0) ∧ Runs (lx key) l' ps' 0 lo ∧ ps' ≠ []) (Q := fun c st' => c = (none, ()) ∧ ∃ l' ps', Gd κ it n st' l' ps' ∧ (∀ i, lo ≤ i → l'.getD i 0 = l3.getD i 0) ∧ Runs (lx key) l' ps' 0 lo ∧ ps' ≠ []) ?_ (fun _ _ z => z) ⟨rfl, _, _, G3, fun _ _ => rfl, R3, by simp⟩) ?_)
      · rintro x c st4 _ _ ⟨rfl, l4, ps4, G4, f4, R4, ne4⟩
        refine wpS_bind (wpS_get ?_)
        have ep := G4.pend
        unfold pendingOf at ep
        rw [ep, List.size_toArray]
        by_cases c3 : ps4.length > 1
        · rw [if_pos c3, List.getElem?_toArray, List.getElem?_eq_getElem (by omega)]
          dsimp only
          refine wpS_if (fun _ => wpS_pure ⟨rfl, l4, ps4, G4, f4, R4, ne4⟩) fun _ => wpS_bind (merge_any hC.lx G4 (by omega) R4 (by omega) fun st5 l5 ps5 G5 f5 R5 h5 => ?_)
          rw [if_neg (by decide)]
          exact wpS_pure ⟨rfl, l5, ps5, G5, fun i hi => (f5 i hi).trans (f4 i hi), R5, fun z => by rw [z] at h5; simp at h5; omega⟩
        · rw [if_neg c3]
          exact wpS_pure ⟨rfl, l4, ps4, G4, f4, R4, ne4⟩
      · rintro c st4 ⟨rfl, l4, ps4, G4, f4, R4, ne4⟩
        dsimp only
        rcases List.eq_nil_or_concat ps4 with rfl | ⟨pre4, ⟨y1, y2, y3⟩, rfl⟩
        · exact absurd rfl ne4
        rw [List.concat_eq_append] at G4 R4
        refine wpS_bind (pow_ok G4 fun st5 G5 => wpS_bind (push_ok G5 fun st6 G6 => wpS_pure ⟨_, _, _, rfl, G6, Runs.app.mpr ⟨lo, R4.pow, rfl, ?_, ⟨fun i j hi hij hj => ?_, fun i hi hj => ?_⟩, rfl⟩, ?_, ?_, fun i hi hn => ?_⟩))
        · dsimp only
          omega
        · rw [f4 i hi, f4 j (by omega)]
          exact S3.1 i j hi hij hj
        · rw [f4 i hi]
          exact S3.2 i hi hj
        · omega
        · omega
        · rw [f4 i (by omega)]
          exact U3 i hi hn
  · rintro c st' ⟨l, ps, lo, rfl, G, R, lon, xlo, _⟩
    have : lo = n := by omega
    subst this
    exact ⟨l, ps, rfl, G, R⟩
  · rintro c st' ⟨l, ps, rfl, G, R⟩
    dsimp only
    have lp := R.pos
    refine wpS_bind (wpS_mono (wpS_forRange (I := fun x c st' => c = (none, ()) ∧ ∃ l ps, Gd κ it n st' l ps ∧ Runs (lx key) l ps 0 n ∧ ps.length + x ≤ n)
      (Q := fun c st' => c = (none, ()) ∧ ∃ l ps, Gd κ it n st' l ps ∧ Runs (lx key) l ps 0 n ∧ ps.length ≤ 1) ?_ ?_ ⟨rfl, l, ps, G, R, by omega⟩) ?_)
    · rintro x c st1 _ hx ⟨rfl, l1, ps1, G1, R1, h1⟩
      refine wpS_bind (wpS_get ?_)
      have ep := G1.pend
      unfold pendingOf at ep
      rw [ep, List.size_toArray]
      refine wpS_if (fun c => wpS_pure ⟨rfl, l1, ps1, G1, R1, c⟩) fun c => ?_
      refine wpS_bind (merge_any hC.lx G1 (Nat.le_refl n) R1 (Nat.add_le_of_le_sub (by omega) (ite_le (by omega) (by omega))) fun st2 l2 ps2 G2 _ R2 h2 => ?_)
      rw [if_neg (by decide)]
      exact wpS_pure ⟨rfl, l2, ps2, G2, R2, by omega⟩
    · rintro c st1 ⟨rfl, l1, ps1, G1, R1, h1⟩
      exact ⟨rfl, l1, ps1, G1, R1, by omega⟩
    · rintro c st1 ⟨rfl, l1, ps1, G1, R1, h1⟩
      refine wpS_pure (q st1 l1 ps1 G1 ?_)
      match ps1, h1, R1 with
      | [], _, R => exact fun i j _ _ hj => by have : 0 = n := R; omega
      | [p], _, ⟨_, _, ⟨S, _⟩, e⟩ =>
        have e : 0 + p.2.1 = n := e
        rwa [e] at S
end
end LB
set_option maxRecDepth 100000
namespace LB
open PySem PySem.W PyProof.Rows
theorem getD_arr (l : List Nat) (i : Nat) : LS.gt l.toArray i = l.getD i 0 := by
  unfold LS.gt
  rw [Array.getD_eq_getD_getElem?, List.getElem?_toArray, List.getD_eq_getElem?_getD]
theorem sortsS {prog : Program} {w : World} {O : KeyOrd} {key : Nat → O.α} {n : Nat} : L2.Sorts prog w key n := by
  intro A E κ s ks vs hl hn h2 hask
  subst hn
  have hC : Cmp prog w A s κ (ks.toArray.zip vs.toArray) key vs.length := fun i j hi hj Q q => by
    have := hask.ask i j Q s hi hj rfl fun s' e => e ▸ q
    rw [kat_ask_eq hl] at this
    exact this
  have sz : (ks.toArray.zip vs.toArray).size = vs.length := by simp [hl]
  have hG : Gd κ (ks.toArray.zip vs.toArray) vs.length (SortSt.mk' κ (ks.toArray.zip vs.toArray) #[] 7 none) (List.range vs.length) [] := by
    refine ⟨rfl, rfl, ?_, rfl, List.Perm.refl _⟩
    show ks.toArray.zip vs.toArray = AL (ks.toArray.zip vs.toArray) (List.range vs.length)
    have e := kas_range (ks.toArray.zip vs.toArray)
    rw [sz] at e
    rw [List.map_toArray] at e
    unfold AL
    exact e.symm
  have := big_ok (E := E) hC hG (Q := fun _ st' => ∃ p : Array Nat, LS.Pm vs.length p ∧ LS.Ust key p vs.length ∧ arrOf st' = p.map (kas_item (ks.toArray.zip vs.toArray)) ∧ failedOf st' = none) fun st' l' ps G S => by
    have ln := G.len
    have S' : ∀ i j, i < j → j < vs.length → (lexO O).kle (lx key (l'.getD i 0)) (lx key (l'.getD j 0)) := fun i j h1 h2 => S i j (Nat.zero_le _) (Nat.le_of_lt h1) h2
    refine ⟨l'.toArray, G.perm, ⟨fun i j hij hj => ?_, fun i j hij hj e => ?_⟩, ?_, G.fail⟩
    · rw [getD_arr, getD_arr]
      exact lx_of (S i j (Nat.zero_le _) hij hj)
    · rw [getD_arr, getD_arr] at e ⊢
      have h := S' i j hij hj
      have h : (O.blt (key (l'.getD j 0)) (key (l'.getD i 0)) || (!O.blt (key (l'.getD i 0)) (key (l'.getD j 0)) && decide (l'.getD j 0 < l'.getD i 0))) = false := h
      rw [e, O.irrefl] at h
      have h : ¬ l'.getD j 0 < l'.getD i 0 := by simpa using h
      have nd : l'.Nodup := G.perm.nodup_iff.mpr List.nodup_range
      have ne : l'.getD i 0 ≠ l'.getD j 0 := fun z => by
        rw [List.getD_eq_getElem?_getD, List.getD_eq_getElem?_getD, List.getElem?_eq_getElem (show i < l'.length by omega), List.getElem?_eq_getElem (show j < l'.length by omega)] at z
        have := (List.getElem_inj nd).mp (Option.some.inj (by simpa using z))
        omega
      omega
    · rw [G.arr]
      simp [AL]
  exact this
theorem sortsB {prog : Program} {w : World} {O : KeyOrd} {key : Nat → O.α} {n : Nat} (inj : ∀ i j, i < n → j < n → key i = key j → i = j) : L2.Sorts prog w key n := sortsS
end LB
set_option maxRecDepth 100000
set_option maxHeartbeats 1000000
namespace L2
open PySem PySem.Spec PyProof.Rows
section
variable {X : Cx} {c P : Addr} {params : Arguments} {body : Expr} {scope : Scope} {cl : List (Str × Addr)} {cp : List (Str × Nat)} {x : Str} {q : Str} {e : Expr} {ta : TA} {te : TE} {np lp kp pos : Pos}
noncomputable def tSortLB (K : PySem.W.Frag) (P : Addr) (lp : Pos) (q : Str) (cp : List (Str × Nat)) (ta : TA) (te : TE) : TE := fun σ H Q => ta σ H fun vs H1 => match vs with
  | [.ref a] => ∃ (xs : List V) (kL : List (List Nat)), Src K H1 a xs ∧ (xs.length ≤ 100000 ∧ ∀ i j, i < xs.length → j < xs.length → kL.getD i [] = kL.getD j [] → i = j) ∧ kL.length = xs.length ∧ Bk P lp q H1 ∧ (∀ H2 i y, SameN H1 H2 → xs[i]? = some y → te (lamS y cp σ) H2 fun k H' => H' = H2 ∧ k = .str (T (kL.getD i []))) ∧
      ∀ H2 l (p : List Nat), SameN H1 H2 → SameE P H1 H2 → Bk P lp q H2 → H2 l = none → p.Perm (List.range xs.length) → p.Pairwise (fun i j => kL.getD i [] ≤ kL.getD j [] ∧ (kL.getD i [] = kL.getD j [] → i < j)) → Q (.ref l) (upd H2 l (.lst (p.map fun i => xs.getD i .non)))
  | _ => False
theorem pe_sortLB {K : PySem.W.Frag} (hK : X.K = K) (hc : X.calm = true) (hr : Room 2 X.A) (L : LamAt X c P) (hgl : Gl X "sorted") (hm : X.mg "sorted" = none) (hcl : closL scope.names X.env.cells [] = some cl) (hdef : defaultsOf params X.env = ([], [])) (hq : X.env.qual ++ "<lambda>" = q)
    (hk : scope.kind = .function) (hnc : ∀ y ∈ scope.names, y.2 ≠ .cell) (hcp : CapOk X scope cp) (hx : scope.names.lookup x = some .local) (hnx : x ∉ cp.map (·.1)) (hco : scope.isCoroutine = false) (hgen : scope.isGenerator = false)
    (hb : ∀ (pm : Value) (c' : Value) (ctv u : Value), bindArgs (PySem.W.kla_fn "<lambda>" q params body scope cl pm c' ctv) ⟨[u], []⟩ = pure [(x, u)]) (ha : PA X [e] ta)
    (he : ∀ A L f c' s H, PE (cxL X A (newEnv scope L mainGlobals cl (q ++ ".<locals>.") (some f) (.ref c') none builtinsNs) (x :: cp.map (·.1)) s H) body te)
    (hs : starEach [e] X.env = [(false, eval e X.env)] := by rfl) : PE X (.Call (.Name "sorted" np) [e] [⟨some "key", .Lambda params body scope lp, kp⟩] pos) (tSortLB K P lp q cp ta te) := by
  subst hK
  intro pins s σ H Q I h
  refine wpAny_Call_Name_kw (ld_blt I hgl hm bt_sorted (callWith_kw ?_ (by rw [hs]; rfl) (by rw [hs]; rfl)))
  have hp := ha pos pins s σ H _ I h
  refine thn hp fun us s1 ⟨vs, H1, I1, rv, h1⟩ => ?_
  dsimp only at h1
  split at h1
  · rename_i a
    obtain ⟨xs, kL, hsrc, h64, hlen, bk, hkey, hfin⟩ := h1
    obtain ⟨u, rfl, ru⟩ := rv.one
    cases ru
    refine kws_cons (lam_make (body := body) I1 L hcl hdef bk hq fun f c' pm ctv H2 s2 I2 hc' bk2 sm se => kws_nil ?_)
    show wpAny _ X.A (call (.builtin "sorted") [.ref a] [(Str.ofString "key", .ref f)]) _ _ s2
    refine thn (sorted_by (Q := fun v H' => Q v H') hc (hr.mono (by decide)) I2 (sm.src hsrc) h64.1 (LB.sortsB (O := PyProof.Rows.strKind.toKeyOrd) h64.2) hlen (fun ps s3 i y k w' I3 hy hk3 rw' => ?_) fun l p hl pm' pw => hfin H2 l p sm se bk2 hl pm' pw) fun v s3 z => ?_
    · have hd : X.A.in1.in1.depth < recursionLimit := by have := hr.dp; show X.A.depth < _; omega
      have ho : s3.heap.get? f = some (PySem.W.kla_obj "<lambda>" q params body scope cl pm c' ctv) := (I3.pin (f, _) (List.mem_append_right _ (List.mem_append_left _ (List.mem_append_right _ (List.mem_singleton.mpr rfl))))).1
      have hrec : s3.heap.CodeRec (.ref c') q := (I3.hok c' _ hc').1
      refine lam_call (X := X) (x := x) (cp := cp) I3 (show X.A.frames = some X.stack from I3.ok.frames) (show X.A.handled = none from I3.ok.hd hc) hd hcl hk hnc hcp hx hnx hco hgen ho hrec (fun u => hb pm (.ref c') ctv u) rw' he ?_
      have hi : i < kL.length := by
        have := (List.getElem?_eq_some_iff.mp hy).1
        omega
      have ek : k = .str (T (kL.getD i [])) := by
        rw [List.getElem?_map, List.getElem?_eq_getElem hi] at hk3
        rw [List.getD_eq_getElem?_getD, List.getElem?_eq_getElem hi]
        exact (Option.some.inj hk3).symm
      rw [ek]
      exact hkey H2 i y sm hy
    · obtain ⟨v', H3, I3, r3, q3⟩ := z
      exact ⟨v', H3, I3.unpinned, r3, q3⟩
  · exact h1.elim
end
section
variable {X : Cx}
noncomputable def sortIB (K : PySem.W.Frag) : List V → Hp → VK → Prop := fun vs H Q => match vs with
  | [.ref a] => ∃ ns : List Int, Src K H a (ns.map V.int) ∧ (ns.length ≤ 100000 ∧ ns.Nodup) ∧ ∀ l (ms : List Int), H l = none → ms.Perm ns → ms.Pairwise (· ≤ ·) → Q (.ref l) (upd H l (.lst (ms.map V.int)))
  | _ => False
theorem c_sortIB {K : PySem.W.Frag} (hK : X.K = K) (hc : X.calm = true) : CallR X (.builtin "sorted") (sortIB K) := by
  subst hK
  intro pins s σ H vs us Q I r h
  unfold sortIB at h
  split at h
  · rename_i a
    obtain ⟨ns, hx, ⟨h64, nd⟩, q⟩ := h
    obtain ⟨u, rfl, ru⟩ := vals1 r
    cases ru
    have hl : (ns.map V.int).length = ns.length := List.length_map ..
    refine sorted_pl (κ := oneType') (O := intOrd) (key := fun i => ns.getD i (0 : Int)) hc I hx (by omega) ?_ (fun s' vs E Q' I' rv h2 q' => kind_int rv (by omega) q') (fun s' vs I' rv => ?_) fun l p hl' pm pu => ?_
    · rw [hl]
      refine LB.sortsB (O := intOrd) fun i j hi hj e => ?_
      have e : ns.getD i 0 = ns.getD j 0 := e
      rw [List.getD_eq_getElem?_getD, List.getD_eq_getElem?_getD, List.getElem?_eq_getElem hi, List.getElem?_eq_getElem hj] at e
      exact (List.getElem_inj nd).mp (by simpa using e)
    · have := ask_int (prog := X.prog) (w := X.w) (A := X.A.in1.in1) (s := s') rv
      rw [hl]
      exact this
    · rw [hl] at pm pu
      have pm' : p.toList.Perm (List.range ns.length) := pm
      have pn : (p.toList.map fun i => ns.getD i 0).Perm ns := by
        have := pm'.map fun i => ns.getD i 0
        rw [map_getD_range] at this
        exact this
      have := q l (p.toList.map fun i => ns.getD i 0) hl' pn (List.pairwise_map.mpr (up_ints pm pu))
      have e : (p.toList.map fun i => ns.getD i 0).map V.int = p.toList.map fun i => (ns.map V.int).getD i .non := by
        rw [List.map_map]
        refine List.map_congr_left fun i hi => ?_
        have hi : i < ns.length := List.mem_range.mp (pm'.mem_iff.mp hi)
        rw [List.getD_eq_getElem?_getD, List.getElem?_map, List.getElem?_eq_getElem hi]
        show V.int (ns.getD i 0) = _
        rw [List.getD_eq_getElem?_getD, List.getElem?_eq_getElem hi]
        rfl
      rw [e] at this
      exact this
  · exact h.elim
end
end L2
-- GEN big: order_of law
-- GEN ints: law
-- GEN cuts: _law_mixed:0 _law_mixed:1 _law_text_by:1 _law_text_by:4 _law_rises:0 _law_rises:2 _law_rises:2.1 _law_rises:2.2 law:2 law:3 law:5 law:6 law:7
-- GEN dicts: _law_met
-- GEN lists: sorted order_of _law_told
set_option maxRecDepth 100000
set_option maxHeartbeats 4000000
namespace My
open PySem L2 LW LP
noncomputable def top (i : Nat) : Stmt := PySem.Challenge.pw_backindex_k03_order_rises.main.body.getD i (.Pass ⟨0, 0, 0, 0⟩)
abbrev s_p_order_of : Stmt := top 1
abbrev P_p_order_of : List Str := ["text"]
theorem sc_p_order_of : FnScope ["text"] P_p_order_of (defScope s_p_order_of) := ⟨rfl, rfl, rfl, by decide +kernel, rfl, by decide +kernel, by decide +kernel⟩
abbrev s_w_cell_at : Stmt := top 3
abbrev P_w_cell_at : List Str := ["_law_script", "_law_k"]
theorem sc_w_cell_at : FnScope ["_law_script", "_law_k"] P_w_cell_at (defScope s_w_cell_at) := ⟨rfl, rfl, rfl, by decide +kernel, rfl, by decide +kernel, by decide +kernel⟩
abbrev s_w_mixed : Stmt := top 4
abbrev P_w_mixed : List Str := ["_law_cell", "_law_turn", "_law_many"]
theorem sc_w_mixed : FnScope ["_law_cell", "_law_turn", "_law_many", "_law_by", "_law_prime"] P_w_mixed (defScope s_w_mixed) := ⟨rfl, rfl, rfl, by decide +kernel, rfl, by decide +kernel, by decide +kernel⟩
abbrev s_w_signs : Stmt := top 5
abbrev P_w_signs : List Str := []
theorem sc_w_signs : FnScope ["_law_some"] P_w_signs (defScope s_w_signs) := ⟨rfl, rfl, rfl, by decide +kernel, rfl, by decide +kernel, by decide +kernel⟩
abbrev s_w_text_by : Stmt := top 6
abbrev P_w_text_by : List Str := ["_law_cells", "_law_head", "_law_most"]
theorem sc_w_text_by : FnScope ["_law_cells", "_law_head", "_law_most", "_law_some", "_law_wide", "_law_base", "_law_step", "_law_text"] P_w_text_by (defScope s_w_text_by) := ⟨rfl, rfl, rfl, by decide +kernel, rfl, by decide +kernel, by decide +kernel⟩
abbrev s_w_whole : Stmt := top 7
abbrev P_w_whole : List Str := ["_law_found"]
theorem sc_w_whole : FnScope ["_law_found"] P_w_whole (defScope s_w_whole) := ⟨rfl, rfl, rfl, by decide +kernel, rfl, by decide +kernel, by decide +kernel⟩
abbrev s_w_ahead : Stmt := top 8
abbrev P_w_ahead : List Str := ["_law_text", "_law_one", "_law_other"]
theorem sc_w_ahead : FnScope ["_law_text", "_law_one", "_law_other", "_law_size"] P_w_ahead (defScope s_w_ahead) := ⟨rfl, rfl, rfl, by decide +kernel, rfl, by decide +kernel, by decide +kernel⟩
abbrev s_w_rises : Stmt := top 9
abbrev P_w_rises : List Str := ["_law_text", "_law_order"]
theorem sc_w_rises : FnScope ["_law_text", "_law_order", "_law_met", "_law_k", "_law_spot"] P_w_rises (defScope s_w_rises) := ⟨rfl, rfl, rfl, by decide +kernel, rfl, by decide +kernel, by decide +kernel⟩
abbrev s_law : Stmt := top 10
abbrev P_law : List Str := ["_law_script"]
theorem sc_law : FnScope ["_law_script", "_law_head", "_law_text", "_law_told", "_law_kept"] P_law (defScope s_law) := ⟨rfl, rfl, rfl, by decide +kernel, rfl, by decide +kernel, by decide +kernel⟩
abbrev lp_p_order_of : Pos := ⟨3, 44, 3, 70⟩
abbrev qn_p_order_of : Str := "order_of.<locals>.<lambda>"
abbrev Bk_p_order_of (tb : Addr) (H : Hp) : Prop := Bk tb lp_p_order_of qn_p_order_of H
structure Bn (mg : Str → Option Value) : Prop where
  bool : mg "bool" = none
  int : mg "int" = none
  isinstance : mg "isinstance" = none
  len : mg "len" = none
  list : mg "list" = none
  max : mg "max" = none
  ord : mg "ord" = none
  range : mg "range" = none
  sorted : mg "sorted" = none
section
variable {P : Program} {w : World} {K : PySem.W.Frag} {mg : Str → Option Value} {base : Heap}
noncomputable def sp_p_order_of (K : PySem.W.Frag) (tb : Addr) : Sp := fun vs H Q _ => match vs with
  | [.str z] => (L z).length ≤ 300 ∧ Bk_p_order_of tb H ∧ ∀ p H', SameN H H' → SameE tb H H' → Bk_p_order_of tb H' → H p = none → H' p = some (.lst ((LO.ord (L z)).map fun i : Nat => V.int i)) → Q (.ref p) H'
  | _ => False
theorem ok_p_order_of {f : Addr} {fd : FuncData} (F : Fun K "order_of" "order_of" s_p_order_of f fd) (B : Bn mg) {tb_p_order_of : Addr} {cd : Addr} (LM_p_order_of : Lm mg base cd tb_p_order_of) (hcd : fd.code = .ref cd)  : FnOk P w K mg base CX0 3 f fd P_p_order_of (sp_p_order_of K tb_p_order_of) := by
  refine F.okL hcd sc_p_order_of (fun vs H Q E h => ?_) (fun A outer s H vs Q E hr h => ?_) <;> unfold sp_p_order_of at h <;> split at h <;> first | exact h.elim | skip
  · rfl
  · rename_i z
    obtain ⟨hl, bk, q⟩ := h
    refine ⟨_, (pss_one (ps_ret (pe_sortLB (K := K) (x := "place") (cp := [(("text" : Str), 0)]) (q := qn_p_order_of) rfl rfl (hr.mono (by decide)) (LM_p_order_of.at rfl) rfl B.sorted rfl rfl rfl rfl (by decide +kernel) ⟨⟨rfl, rfl, rfl⟩, trivial⟩ rfl (by decide +kernel) rfl rfl (fun _ _ _ _ => rfl) (pa_cons (pe_callTy c_range (by rfl) B.range bt_range (pa_cons (pe_op o_add (pe_callB (c_lenK (K := K) rfl) (by rfl) B.len bt_len (pa_cons (qv 0) pa_nil)) pe_int) pa_nil)) pa_nil) (fun _ _ _ _ _ _ => (pe_slice (s_slK (K := K) rfl) (qv 1) (po_t (qv 0)) po_none))))), ?_⟩
    simp only [L2.start, List.map_cons, List.map_nil, List.length_cons, List.length_nil, List.replicate_succ, List.replicate_zero, List.cons_append, List.nil_append, Nat.reduceAdd, Nat.reduceSub, Int.reduceLT, Int.reduceLE, true_and, and_true, decide_eq_true_eq, if_true, if_false, String.reduceEq, Bool.not_true, Bool.not_false, Bool.false_eq_true, decide_true, decide_false, List.set_cons_zero, List.set_cons_succ, gS, rVar, tC, tSeq, tNext, tAsg, gName, tRet, tRetN, tDrop, tIfS, tOp, tUn, tCB, tCons, tNil, tTup, tLst, tFn, tB2, tAnd, tOr, tNot, trV, tSl, tNoPart, pT, vAnd, vOr, vNot, addV, mulV, int2, int2', ltV, eqR, neR, sc, isV, isntV, negV, ixV, slV, lenV, ordV, isiV, isS, maxV, joinV, tBM, tBM0, tyV, tFE, L_T, tRaise, eqL, listV, rCat, rRep, rAppend, rReverse, oneC, capS, tSortL, lamS, tDIn, sDPut, tDNewK, List.set_nil, rngV, tB, sortI, List.append_nil, tSortLB]
    have hsz : sizeLine = 16777216 := sizeLine_eq
    have er : rngL 0 (((L z).length : Int) + 1) = (List.range ((L z).length + 1)).map fun j : Nat => V.int j := rng_nat _
    have el : (rngL 0 (((L z).length : Int) + 1)).length = (L z).length + 1 := by rw [er]; simp
    refine ⟨by omega, fun r hr0 => ⟨_, (List.range ((L z).length + 1)).map (fun j => (L z).drop j), .inr (.inr ⟨0, _, upd_same, rfl, by omega, by omega, by omega, by omega⟩), ⟨by omega, fun i j hi hj e => ?_⟩, by rw [el]; simp, bk.put hr0, fun H2 i y sm hy => ?_, fun H2 l1 p sm se bk2 hl2 pm pw => ?_⟩⟩
    · rw [el] at hi hj
      have g : ∀ k, k < (L z).length + 1 → ((List.range ((L z).length + 1)).map fun j => (L z).drop j).getD k [] = (L z).drop k := fun k hk => by
        rw [List.getD_eq_getElem?_getD, List.getElem?_map, List.getElem?_range hk]
        rfl
      rw [g i hi, g j hj] at e
      have := congrArg List.length e
      rw [List.length_drop, List.length_drop] at this
      omega
    · have hi := (List.getElem?_eq_some_iff.mp hy).1
      rw [el] at hi
      rw [er, List.getElem?_map, List.getElem?_range hi] at hy
      cases Option.some.inj hy
      refine ⟨by omega, ?_⟩
      rw [getD_range _ _ hi, cut_from]
    · rw [el] at pm
      have plt : ∀ j ∈ p, j < (L z).length + 1 := fun j hj => List.mem_range.mp (pm.mem_iff.mp hj)
      have ep : p = LO.ord (L z) := by
        refine LO.ord_only pm (pw.imp_of_mem fun {i j} hi hj h => ?_)
        have h := h.1
        rw [getD_range _ _ (plt i hi), getD_range _ _ (plt j hj)] at h
        exact h
      have sm0 : Same H (upd H r (HO.rng 0 (((L z).length : Int) + 1))) := Same.updN hr0
      have sm1 := (Same.toN sm0).trans sm
      refine q l1 _ (sm1.upd hl2) (((Same.toE sm0).trans se).upd hl2) (bk2.put hl2) (sm1.free hl2) ?_
      rw [upd_same]
      congr 2
      rw [← ep]
      refine List.map_congr_left fun j hj => ?_
      rw [er, getD_range _ _ (plt j hj)]
noncomputable def sp_w_cell_at (K : PySem.W.Frag) : Sp := fun vs H Q _ => match vs with
  | [.ref a, .int k] => ∃ ns : List Int, SqL K H a (ns.map V.int) ∧ 0 ≤ k ∧ Q (.int (cellAt ns k)) H
  | _ => False
theorem ok_w_cell_at {f : Addr} {fd : FuncData} (F : Fun K "_law_cell_at" "_law_cell_at" s_w_cell_at f fd) (B : Bn mg)  : FnOk P w K mg base CX0 1 f fd P_w_cell_at (sp_w_cell_at K) := by
  refine F.pure sc_w_cell_at (fun vs H Q E h => ?_) (fun cdv A outer s H vs Q E hr h => ?_) <;> unfold sp_w_cell_at at h <;> split at h <;> first | exact h.elim | skip
  · rfl
  · rename_i a k
    obtain ⟨ns, hS, hk, q⟩ := h
    refine ⟨_, (pss_cons (ps_if (pt_c2 o_lt (qv 1) (pe_callB (c_lenK (K := K) rfl) (by rfl) B.len bt_len (pa_cons (qv 0) pa_nil))) (pss_one (ps_ret (pe_ix (i_ixK (K := K) rfl) (qv 0) (qv 1) (fun _ _ => rfl)))) pss_nil)
        (pss_one (ps_ret pe_int))), ?_⟩
    simp only [L2.start, List.map_cons, List.map_nil, List.length_cons, List.length_nil, List.replicate_succ, List.replicate_zero, List.cons_append, List.nil_append, Nat.reduceAdd, Nat.reduceSub, Int.reduceLT, Int.reduceLE, true_and, and_true, decide_eq_true_eq, if_true, if_false, String.reduceEq, Bool.not_true, Bool.not_false, Bool.false_eq_true, decide_true, decide_false, List.set_cons_zero, List.set_cons_succ, gS, rVar, tC, tSeq, tNext, tAsg, gName, tRet, tRetN, tDrop, tIfS, tOp, tUn, tCB, tCons, tNil, tTup, tLst, tFn, tB2, tAnd, tOr, tNot, trV, tSl, tNoPart, pT, vAnd, vOr, vNot, addV, mulV, int2, int2', ltV, eqR, neR, sc, isV, isntV, negV, ixV, slV, lenV, ordV, isiV, isS, maxV, joinV, tBM, tBM0, tyV, tFE, L_T]
    refine ⟨_, .inl hS, ?_⟩
    unfold cellAt at q
    rw [List.length_map]
    refine ite2 (fun h1 => ?_) (fun h1 => ?_)
    · rw [if_pos h1] at q
      exact ⟨_, _, .inl hS, atI_getD (.int 0) hk (by simpa using h1), Same.refl _, by rw [getD_int]; exact q⟩
    · rw [if_neg h1] at q
      exact ⟨Same.refl _, q⟩
noncomputable def sp_w_mixed (K : PySem.W.Frag) : Sp := fun vs H Q _ => match vs with
  | [.int _, .int _, .int m] => 0 < m ∧ ∀ r : Int, 0 ≤ r → r < m → Q (.int r) H
  | _ => False
theorem ok_w_mixed {f : Addr} {fd : FuncData} (F : Fun K "_law_mixed" "_law_mixed" s_w_mixed f fd) (B : Bn mg)  : FnOk P w K mg base CX0 1 f fd P_w_mixed (sp_w_mixed K) := by
  refine F.pure sc_w_mixed (fun vs H Q E h => ?_) (fun cdv A outer s H vs Q E hr h => ?_) <;> unfold sp_w_mixed at h <;> split at h <;> first | exact h.elim | skip
  · rfl
  · rename_i c t m
    obtain ⟨hm, q⟩ := h
    refine ⟨_, (pss_cons (ps_cut (ps_set (i := 3) sc_w_mixed.nd rfl (by first | exact Or.inl rfl | exact Or.inr rfl) (pe_tup (pa_cons pe_int (pa_cons pe_int (pa_cons pe_int (pa_cons pe_int (pa_cons pe_int (pa_cons pe_int (pa_cons pe_int (pa_cons pe_int pa_nil)))))))))))
        (pss_cons (ps_cut (ps_set (i := 4) sc_w_mixed.nd rfl (by first | exact Or.inl rfl | exact Or.inr rfl) (pe_tup (pa_cons pe_int (pa_cons pe_int (pa_cons pe_int (pa_cons pe_int (pa_cons pe_int (pa_cons pe_int (pa_cons pe_int (pa_cons pe_int pa_nil)))))))))))
        (pss_one (ps_ret (pe_op o_mod (pe_op o_mod (pe_op o_mul (pe_op o_add (pe_op o_mod (qv 0) (pe_op o_pow pe_int pe_int)) pe_int) (pe_ix (i_ixK (K := K) rfl) (qv 3) (pe_op o_mod (qv 1) pe_int) (fun _ _ => rfl))) (pe_ix (i_ixK (K := K) rfl) (qv 4) (pe_op o_mod (qv 1) pe_int) (fun _ _ => rfl))) (qv 2)))))), ?_⟩
    refine cutS (fun σ' H' => ∃ p, Same H H' ∧ H' p = some (.tup (byL.map V.int)) ∧ σ' = [some (V.int c), some (V.int t), some (V.int m), some (V.ref p), none]) ?_ ?_
    · simp only [L2.start, List.map_cons, List.map_nil, List.length_cons, List.length_nil, List.replicate_succ, List.replicate_zero, List.cons_append, List.nil_append, Nat.reduceAdd, Nat.reduceSub, Int.reduceLT, Int.reduceLE, true_and, and_true, decide_eq_true_eq, if_true, if_false, String.reduceEq, Bool.not_true, Bool.not_false, Bool.false_eq_true, decide_true, decide_false, List.set_cons_zero, List.set_cons_succ, gS, rVar, tC, tSeq, tNext, tAsg, gName, tRet, tRetN, tDrop, tIfS, tOp, tUn, tCB, tCons, tNil, tTup, tLst, tFn, tB2, tAnd, tOr, tNot, trV, tSl, tNoPart, pT, vAnd, vOr, vNot, addV, mulV, int2, int2', ltV, eqR, neR, sc, isV, isntV, negV, ixV, slV, lenV, ordV, isiV, isS, maxV, joinV, tBM, tBM0, tyV, tFE, L_T]
      exact ⟨by decide, fun p hp => ⟨p, Same.updN hp, upd_same, rfl⟩⟩
    rintro _ H1 ⟨p, sm1, h1, rfl⟩
    refine cutS (fun σ' H' => ∃ p', Same H H' ∧ H' p = some (.tup (byL.map V.int)) ∧ H' p' = some (.tup (primeL.map V.int)) ∧ σ' = [some (V.int c), some (V.int t), some (V.int m), some (V.ref p), some (V.ref p')]) ?_ ?_
    · simp only [L2.start, List.map_cons, List.map_nil, List.length_cons, List.length_nil, List.replicate_succ, List.replicate_zero, List.cons_append, List.nil_append, Nat.reduceAdd, Nat.reduceSub, Int.reduceLT, Int.reduceLE, true_and, and_true, decide_eq_true_eq, if_true, if_false, String.reduceEq, Bool.not_true, Bool.not_false, Bool.false_eq_true, decide_true, decide_false, List.set_cons_zero, List.set_cons_succ, gS, rVar, tC, tSeq, tNext, tAsg, gName, tRet, tRetN, tDrop, tIfS, tOp, tUn, tCB, tCons, tNil, tTup, tLst, tFn, tB2, tAnd, tOr, tNot, trV, tSl, tNoPart, pT, vAnd, vOr, vNot, addV, mulV, int2, int2', ltV, eqR, neR, sc, isV, isntV, negV, ixV, slV, lenV, ordV, isiV, isS, maxV, joinV, tBM, tBM0, tyV, tFE, L_T]
      exact ⟨by decide, fun p' hp' => ⟨p', sm1.upd hp', (upd_ne (ne_of_none h1 hp')).trans h1, upd_same, rfl⟩⟩
    rintro _ H2 ⟨p', sm2, h1, h2, rfl⟩
    simp only [L2.start, List.map_cons, List.map_nil, List.length_cons, List.length_nil, List.replicate_succ, List.replicate_zero, List.cons_append, List.nil_append, Nat.reduceAdd, Nat.reduceSub, Int.reduceLT, Int.reduceLE, true_and, and_true, decide_eq_true_eq, if_true, if_false, String.reduceEq, Bool.not_true, Bool.not_false, Bool.false_eq_true, decide_true, decide_false, List.set_cons_zero, List.set_cons_succ, gS, rVar, tC, tSeq, tNext, tAsg, gName, tRet, tRetN, tDrop, tIfS, tOp, tUn, tCB, tCons, tNil, tTup, tLst, tFn, tB2, tAnd, tOr, tNot, trV, tSl, tNoPart, pT, vAnd, vOr, vNot, addV, mulV, int2, int2', ltV, eqR, neR, sc, isV, isntV, negV, ixV, slV, lenV, ordV, isiV, isS, maxV, joinV, tBM, tBM0, tyV, tFE, L_T]
    have t0 : 0 ≤ t % 8 := Int.emod_nonneg _ (by decide)
    have t1 : t % 8 < 8 := Int.emod_lt_of_pos _ (by decide)
    have c0 : 0 ≤ c % 1000000000000000000 := Int.emod_nonneg _ (by decide)
    have c1 : c % 1000000000000000000 < 1000000000000000000 := Int.emod_lt_of_pos _ (by decide)
    have e18 : (10 : Int) ^ (18 : Int).toNat = 1000000000000000000 := by decide
    rw [e18]
    exact ⟨⟨by decide, by decide, by decide⟩, by decide, _, _, .inr (SqT.of h1), atI_int (l := byL) t0 t1, .inl ⟨by omega, by omega⟩, _, _, .inr (SqT.of h2), atI_int (l := primeL) t0 t1, prime_pos t0 t1, hm, sm2, q _ (Int.emod_nonneg _ (by omega)) (Int.emod_lt_of_pos _ hm)⟩
noncomputable def sp_w_signs (K : PySem.W.Frag) : Sp := fun vs H Q _ => match vs with
  | [] => Q (.str (T signs)) H
  | _ => False
theorem ok_w_signs {f : Addr} {fd : FuncData} (F : Fun K "_law_signs" "_law_signs" s_w_signs f fd) (B : Bn mg)  : FnOk P w K mg base CX0 1 f fd P_w_signs (sp_w_signs K) := by
  refine F.pure sc_w_signs (fun vs H Q E h => ?_) (fun cdv A outer s H vs Q E hr h => ?_) <;> unfold sp_w_signs at h <;> split at h <;> first | exact h.elim | skip
  · rfl
  · refine ⟨_, (pss_cons (ps_set (i := 0) sc_w_signs.nd rfl (by first | exact Or.inl rfl | exact Or.inr rfl) pe_str)
        (pss_one (ps_ret (pe_op o_add (qv 0) pe_str)))), ?_⟩
    simp only [L2.start, List.map_cons, List.map_nil, List.length_cons, List.length_nil, List.replicate_succ, List.replicate_zero, List.cons_append, List.nil_append, Nat.reduceAdd, Nat.reduceSub, Int.reduceLT, Int.reduceLE, true_and, and_true, decide_eq_true_eq, if_true, if_false, String.reduceEq, Bool.not_true, Bool.not_false, Bool.false_eq_true, decide_true, decide_false, List.set_cons_zero, List.set_cons_succ, gS, rVar, tC, tSeq, tNext, tAsg, gName, tRet, tRetN, tDrop, tIfS, tOp, tUn, tCB, tCons, tNil, tTup, tLst, tFn, tB2, tAnd, tOr, tNot, trV, tSl, tNoPart, pT, vAnd, vOr, vNot, addV, mulV, int2, int2', ltV, eqR, neR, sc, isV, isntV, negV, ixV, slV, lenV, ordV, isiV, isS, maxV, joinV, tBM, tBM0, tyV, tFE, L_T]
    refine ⟨by decide +kernel, Same.refl _, ?_⟩
    have e : L (Str.ofString " !\"#$&'()*+,-./0123456789:;<=>?@ABCDEFGHIJKLMNOPQRSTUVWXYZ[\\]^_`") ++ L (Str.ofString "abcdefghijklmnopqrstuvwxyz{|}~") = signs := by decide +kernel
    rw [e]
    exact h
noncomputable def sp_w_text_by (K : PySem.W.Frag) : Sp := fun vs H Q _ => match vs with
  | [.ref a, .int _, .int most] => ∃ cells : List Int, SqL K H a (cells.map V.int) ∧ cells.length ≤ 300 ∧ 0 ≤ most ∧ ∀ l : List Nat, (l.length : Int) ≤ most → (∀ c ∈ l, c ∈ signs) → Q (.str (T l)) H
  | _ => False
theorem ok_w_text_by {f : Addr} {fd : FuncData} (F : Fun K "_law_text_by" "_law_text_by" s_w_text_by f fd) (B : Bn mg) (G_w_mixed : Fn P w K mg base 1 "_law_mixed" P_w_mixed (sp_w_mixed K)) (G_w_signs : Fn P w K mg base 1 "_law_signs" P_w_signs (sp_w_signs K)) : FnOk P w K mg base CX0 2 f fd P_w_text_by (sp_w_text_by K) := by
  refine F.pure sc_w_text_by (fun vs H Q E h => ?_) (fun cdv A outer s H vs Q E hr h => ?_) <;> unfold sp_w_text_by at h <;> split at h <;> first | exact h.elim | skip
  · rfl
  · rename_i a head most
    obtain ⟨cells, hS, hl, hm, q⟩ := h
    refine ⟨_, (pss_cons (ps_set (i := 3) sc_w_text_by.nd rfl (by first | exact Or.inl rfl | exact Or.inr rfl) (pe_fn0 G_w_signs (hr.mono (by decide))))
        (pss_cons (ps_cut (ps_set (i := 4) sc_w_text_by.nd rfl (by first | exact Or.inl rfl | exact Or.inr rfl) (pe_ix (i_ixK (K := K) rfl) (pe_tup (pa_cons pe_int (pa_cons pe_int (pa_cons pe_int (pa_cons pe_int (pa_cons pe_int (pa_cons pe_int pa_nil))))))) (pe_fn G_w_mixed (hr.mono (by decide)) (pa_cons (qv 1) (pa_cons pe_int (pa_cons pe_int pa_nil)))) (fun _ _ => rfl))))
        (pss_cons (ps_set (i := 5) sc_w_text_by.nd rfl (by first | exact Or.inl rfl | exact Or.inr rfl) (pe_fn G_w_mixed (hr.mono (by decide)) (pa_cons (qv 1) (pa_cons pe_int (pa_cons pe_int pa_nil)))))
        (pss_cons (ps_set (i := 6) sc_w_text_by.nd rfl (by first | exact Or.inl rfl | exact Or.inr rfl) (pe_op o_add pe_int (pe_fn G_w_mixed (hr.mono (by decide)) (pa_cons (qv 1) (pa_cons pe_int (pa_cons pe_int pa_nil))))))
        (pss_cons (ps_cut (ps_set (i := 7) sc_w_text_by.nd rfl (by first | exact Or.inl rfl | exact Or.inr rfl) (pe_bmK (K := K) rfl PySem.F.plainAttrs_str PySem.F.slot_str_join PySem.F.type_str_join (m_joinK (K := K) rfl) pe_str (pa_cons (pe_mapLK (K := K) rfl (own := ["_law_cell"]) (cp := [(("_law_some" : Str), 3), (("_law_wide" : Str), 4), (("_law_base" : Str), 5), (("_law_step" : Str), 6)]) rfl rfl rfl (by decide +kernel) (by decide +kernel) ⟨⟨rfl, rfl, rfl⟩, ⟨rfl, rfl, rfl⟩, ⟨rfl, rfl, rfl⟩, ⟨rfl, rfl, rfl⟩, trivial⟩ (qv 0) (by decide) (fun _ _ _ _ => pg_name (i := 0) (show List.Nodup (["_law_cell", "_law_some", "_law_wide", "_law_base", "_law_step"] : List Str) by decide +kernel) rfl (Or.inl rfl) (Or.inr rfl)) (fun _ _ _ _ => (pe_ix (i_ixK (K := K) rfl) (qv 1) (pe_op o_mod (pe_op o_add (qv 3) (pe_op o_mul (pe_op o_mod (qv 0) (qv 2)) (qv 4))) pe_int) (fun _ _ => rfl)))) pa_nil))))
        (pss_cons (ps_if (pt_c2 o_eq (pe_fn G_w_mixed (hr.mono (by decide)) (pa_cons (qv 1) (pa_cons pe_int (pa_cons pe_int pa_nil)))) pe_int) (pss_one (ps_set (i := 7) sc_w_text_by.nd rfl (by first | exact Or.inl rfl | exact Or.inr rfl) (pe_op o_mul (qv 7) (pe_op o_add pe_int (pe_fn G_w_mixed (hr.mono (by decide)) (pa_cons (qv 1) (pa_cons pe_int (pa_cons pe_int pa_nil)))))))) pss_nil)
        (pss_one (ps_ret (pe_slice (s_slK (K := K) rfl) (qv 7) po_none (po_t (qv 2))))))))))), ?_⟩
    have hsz : sizeLine = 16777216 := sizeLine_eq
    simp only [L2.start, List.map_cons, List.map_nil, List.length_cons, List.length_nil, List.replicate_succ, List.replicate_zero, List.cons_append, List.nil_append, Nat.reduceAdd, Nat.reduceSub, Int.reduceLT, Int.reduceLE, true_and, and_true, decide_eq_true_eq, if_true, if_false, String.reduceEq, Bool.not_true, Bool.not_false, Bool.false_eq_true, decide_true, decide_false, List.set_cons_zero, List.set_cons_succ, gS, rVar, tC, tSeq, tNext, tAsg, gName, tRet, tRetN, tDrop, tIfS, tOp, tUn, tCB, tCons, tNil, tTup, tLst, tFn, tB2, tAnd, tOr, tNot, trV, tSl, tNoPart, pT, vAnd, vOr, vNot, addV, mulV, int2, int2', ltV, eqR, neR, sc, isV, isntV, negV, ixV, slV, lenV, ordV, isiV, isS, maxV, joinV, tBM, tBM0, tyV, tFE, L_T, sp_w_signs]
    refine cutS (fun σ' H' => Same H H' ∧ ∃ wv : Int, 0 < wv ∧ wv ≤ 94 ∧ σ' = [some (V.ref a), some (V.int head), some (V.int most), some (V.str (T signs)), some (V.int wv), none, none, none]) ?_ ?_
    · simp only [L2.start, List.map_cons, List.map_nil, List.length_cons, List.length_nil, List.replicate_succ, List.replicate_zero, List.cons_append, List.nil_append, Nat.reduceAdd, Nat.reduceSub, Int.reduceLT, Int.reduceLE, true_and, and_true, decide_eq_true_eq, if_true, if_false, String.reduceEq, Bool.not_true, Bool.not_false, Bool.false_eq_true, decide_true, decide_false, List.set_cons_zero, List.set_cons_succ, gS, rVar, tC, tSeq, tNext, tAsg, gName, tRet, tRetN, tDrop, tIfS, tOp, tUn, tCB, tCons, tNil, tTup, tLst, tFn, tB2, tAnd, tOr, tNot, trV, tSl, tNoPart, pT, vAnd, vOr, vNot, addV, mulV, int2, int2', ltV, eqR, neR, sc, isV, isntV, negV, ixV, slV, lenV, ordV, isiV, isS, maxV, joinV, tBM, tBM0, tyV, tFE, L_T, sp_w_mixed]
      refine ⟨by decide, fun p hp r0 h0 h1 => ?_⟩
      have hw : ∃ wv : Int, atI [V.int 2, V.int 3, V.int 94, V.int 2, V.int 94, V.int 1] r0 = some (.int wv) ∧ 0 < wv ∧ wv ≤ 94 := by
        have : r0 = 0 ∨ r0 = 1 ∨ r0 = 2 ∨ r0 = 3 ∨ r0 = 4 ∨ r0 = 5 := by omega
        rcases this with rfl | rfl | rfl | rfl | rfl | rfl <;> exact ⟨_, rfl, by decide, by decide⟩
      obtain ⟨wv, ew, w0, w1⟩ := hw
      exact ⟨_, _, .inr (SqT.of upd_same), ew, Same.updN hp, wv, w0, w1, rfl⟩
    rintro _ H1 ⟨sm1, wv, w0, w1, rfl⟩
    simp only [L2.start, List.map_cons, List.map_nil, List.length_cons, List.length_nil, List.replicate_succ, List.replicate_zero, List.cons_append, List.nil_append, Nat.reduceAdd, Nat.reduceSub, Int.reduceLT, Int.reduceLE, true_and, and_true, decide_eq_true_eq, if_true, if_false, String.reduceEq, Bool.not_true, Bool.not_false, Bool.false_eq_true, decide_true, decide_false, List.set_cons_zero, List.set_cons_succ, gS, rVar, tC, tSeq, tNext, tAsg, gName, tRet, tRetN, tDrop, tIfS, tOp, tUn, tCB, tCons, tNil, tTup, tLst, tFn, tB2, tAnd, tOr, tNot, trV, tSl, tNoPart, pT, vAnd, vOr, vNot, addV, mulV, int2, int2', ltV, eqR, neR, sc, isV, isntV, negV, ixV, slV, lenV, ordV, isiV, isS, maxV, joinV, tBM, tBM0, tyV, tFE, L_T, sp_w_mixed]
    intro r1 h2 h3 r2 h4 h5
    refine cutS (fun σ' H' => Same H H' ∧ ∃ t : List Nat, t.length ≤ 300 ∧ (∀ c ∈ t, c ∈ signs) ∧ σ' = [some (V.ref a), some (V.int head), some (V.int most), some (V.str (T signs)), some (V.int wv), some (V.int r1), some (V.int (1 + r2)), some (V.str (T t))]) ?_ ?_
    · simp only [L2.start, List.map_cons, List.map_nil, List.length_cons, List.length_nil, List.replicate_succ, List.replicate_zero, List.cons_append, List.nil_append, Nat.reduceAdd, Nat.reduceSub, Int.reduceLT, Int.reduceLE, true_and, and_true, decide_eq_true_eq, if_true, if_false, String.reduceEq, Bool.not_true, Bool.not_false, Bool.false_eq_true, decide_true, decide_false, List.set_cons_zero, List.set_cons_succ, gS, rVar, tC, tSeq, tNext, tAsg, gName, tRet, tRetN, tDrop, tIfS, tOp, tUn, tCB, tCons, tNil, tTup, tLst, tFn, tB2, tAnd, tOr, tNot, trV, tSl, tNoPart, pT, vAnd, vOr, vNot, addV, mulV, int2, int2', ltV, eqR, neR, sc, isV, isntV, negV, ixV, slV, lenV, ordV, isiV, isS, maxV, joinV, tBM, tBM0, tyV, tFE, L_T, tMapL, capS]
      refine ⟨cells.map V.int, fun x => match x with
        | .int c => .str (T [signs.getD ((r1 + c % wv * (1 + r2)) % 94).toNat 0])
        | x => x, sm1.seq hS, by rw [List.length_map]; omega, ?_, fun l hl2 => ?_⟩
      · intro x hx
        obtain ⟨c, _, rfl⟩ := List.mem_map.mp hx
        have m0 : 0 ≤ c % wv := Int.emod_nonneg _ (by omega)
        have m1 : c % wv < wv := Int.emod_lt_of_pos _ w0
        have n0 : 0 ≤ (r1 + c % wv * (1 + r2)) % 94 := Int.emod_nonneg _ (by decide)
        have n1 : (r1 + c % wv * (1 + r2)) % 94 < 94 := Int.emod_lt_of_pos _ (by decide)
        exact ⟨w0, .inl ⟨by omega, by omega⟩, by decide +kernel, _, atI_getD 0 n0 (by rw [signs_len]; exact n1), rfl, rfl⟩
      · have n0 : ∀ c : Int, 0 ≤ (r1 + c % wv * (1 + r2)) % 94 := fun c => Int.emod_nonneg _ (by decide)
        have n1 : ∀ c : Int, (r1 + c % wv * (1 + r2)) % 94 < 94 := fun c => Int.emod_lt_of_pos _ (by decide)
        rw [empty_L]
        refine ⟨cells.map fun c => [signs.getD ((r1 + c % wv * (1 + r2)) % 94).toNat 0], SqL.of (by rw [upd_same, List.map_map, List.map_map]; rfl), ?_, sm1.upd hl2, cells.map (fun c => signs.getD ((r1 + c % wv * (1 + r2)) % 94).toNat 0), ?_, ?_, ?_⟩
        · rw [sum1, List.length_map, List.length_nil]
          omega
        · rw [List.length_map]
          exact hl
        · intro c hc
          obtain ⟨k, _, rfl⟩ := List.mem_map.mp hc
          exact signs_at (by have := n0 k; have := n1 k; omega)
        · rw [joinL_nil, flat1]
    rintro _ H2 ⟨sm2, t, tl, tm, rfl⟩
    simp only [L2.start, List.map_cons, List.map_nil, List.length_cons, List.length_nil, List.replicate_succ, List.replicate_zero, List.cons_append, List.nil_append, Nat.reduceAdd, Nat.reduceSub, Int.reduceLT, Int.reduceLE, true_and, and_true, decide_eq_true_eq, if_true, if_false, String.reduceEq, Bool.not_true, Bool.not_false, Bool.false_eq_true, decide_true, decide_false, List.set_cons_zero, List.set_cons_succ, gS, rVar, tC, tSeq, tNext, tAsg, gName, tRet, tRetN, tDrop, tIfS, tOp, tUn, tCB, tCons, tNil, tTup, tLst, tFn, tB2, tAnd, tOr, tNot, trV, tSl, tNoPart, pT, vAnd, vOr, vNot, addV, mulV, int2, int2', ltV, eqR, neR, sc, isV, isntV, negV, ixV, slV, lenV, ordV, isiV, isS, maxV, joinV, tBM, tBM0, tyV, tFE, L_T, sp_w_mixed]
    intro r3 h6 h7
    have fin : ∀ u : List Nat, (∀ c ∈ u, c ∈ signs) → Q (V.str (T (cut u none (some most)))) H := fun u hu => q _ (by have := cut_hi u most hm; omega) fun c hc => hu c (LW.mem_cut hc)
    refine ite2 (fun _ r4 h8 h9 => ?_) (fun _ => ⟨by omega, sm2, fin t tm⟩)
    have hm2 : t.length * (2 + r4).toNat ≤ 300 * 6 := Nat.mul_le_mul tl (by omega)
    have hm3 : (rep (2 + r4).toNat t).length ≤ 300 * 6 := by rw [rep_len, Nat.mul_comm]; exact hm2
    exact ⟨⟨by omega, by omega, by omega⟩, by omega, sm2, fin _ fun c hc => tm c (mem_rep hc)⟩
noncomputable def sp_w_whole (K : PySem.W.Frag) : Sp := fun vs H Q _ => match vs with
  | [.int _] => Q (.bl true) H
  | _ => False
theorem ok_w_whole {f : Addr} {fd : FuncData} (F : Fun K "_law_whole" "_law_whole" s_w_whole f fd) (B : Bn mg)  : FnOk P w K mg base CX0 1 f fd P_w_whole (sp_w_whole K) := by
  refine F.pure sc_w_whole (fun vs H Q E h => ?_) (fun cdv A outer s H vs Q E hr h => ?_) <;> unfold sp_w_whole at h <;> split at h <;> first | exact h.elim | skip
  · rfl
  · refine ⟨_, (pss_one (ps_ret (pe_and2 (pe_callB (c_isiK (K := K) rfl) (by rfl) B.isinstance bt_isinstance (pa_cons (qv 0) (pa_cons (pe_bltn (v := .ty "int") rfl B.int bt_int rfl) pa_nil))) (pe_one (pe_not2 (pe_callB (c_isiK (K := K) rfl) (by rfl) B.isinstance bt_isinstance (pa_cons (qv 0) (pa_cons (pe_bltn (v := .ty "bool") rfl B.bool bt_bool rfl) pa_nil)))))))), ?_⟩
    simp only [L2.start, List.map_cons, List.map_nil, List.length_cons, List.length_nil, List.replicate_succ, List.replicate_zero, List.cons_append, List.nil_append, Nat.reduceAdd, Nat.reduceSub, Int.reduceLT, Int.reduceLE, true_and, and_true, decide_eq_true_eq, if_true, if_false, String.reduceEq, Bool.not_true, Bool.not_false, Bool.false_eq_true, decide_true, decide_false, List.set_cons_zero, List.set_cons_succ, gS, rVar, tC, tSeq, tNext, tAsg, gName, tRet, tRetN, tDrop, tIfS, tOp, tUn, tCB, tCons, tNil, tTup, tLst, tFn, tB2, tAnd, tOr, tNot, trV, tSl, tNoPart, pT, vAnd, vOr, vNot, addV, mulV, int2, int2', ltV, eqR, neR, sc, isV, isntV, negV, ixV, slV, lenV, ordV, isiV, isS, maxV, joinV, tBM, tBM0, tyV, tFE, L_T]
    exact ⟨Same.refl _, h⟩
noncomputable def sp_w_ahead (K : PySem.W.Frag) : Sp := fun vs H Q _ => match vs with
  | [.str z, .int i, .int j] => (L z).length ≤ 100000 ∧ (0 ≤ i ∧ i ≤ (L z).length) ∧ (0 ≤ j ∧ j ≤ (L z).length) ∧ Q (.bl (decide ((L z).drop i.toNat < (L z).drop j.toNat))) H
  | _ => False
theorem ok_w_ahead {f : Addr} {fd : FuncData} (F : Fun K "_law_ahead" "_law_ahead" s_w_ahead f fd) (B : Bn mg)  : FnOk P w K mg base CX0 1 f fd P_w_ahead (sp_w_ahead K) := by
  refine F.pure sc_w_ahead (fun vs H Q E h => ?_) (fun cdv A outer s H vs Q E hr h => ?_) <;> unfold sp_w_ahead at h <;> split at h <;> first | exact h.elim | skip
  · rfl
  · rename_i z i j
    obtain ⟨hl, hi, hj, q⟩ := h
    obtain ⟨i, rfl⟩ : ∃ k : Nat, i = (k : Int) := ⟨i.toNat, by omega⟩
    obtain ⟨j, rfl⟩ : ∃ k : Nat, j = (k : Int) := ⟨j.toNat, by omega⟩
    rw [Int.toNat_natCast, Int.toNat_natCast] at q
    refine ⟨_, (pss_cons (ps_set (i := 3) sc_w_ahead.nd rfl (by first | exact Or.inl rfl | exact Or.inr rfl) pe_int)
        (pss_cons (ps_wh PassesOwn.never (PW.pt (pw_and (pt_c2 o_lt (pe_op o_add (qv 1) (qv 3)) (pe_callB (c_lenK (K := K) rfl) (by rfl) B.len bt_len (pa_cons (qv 0) pa_nil))) (pw_and1 (pt_c2 o_lt (pe_op o_add (qv 2) (qv 3)) (pe_callB (c_lenK (K := K) rfl) (by rfl) B.len bt_len (pa_cons (qv 0) pa_nil)))))) (pss_cons (ps_if (pt_c2 o_ne (pe_ix (i_ixK (K := K) rfl) (qv 0) (pe_op o_add (qv 1) (qv 3)) (fun _ _ => rfl)) (pe_ix (i_ixK (K := K) rfl) (qv 0) (pe_op o_add (qv 2) (qv 3)) (fun _ _ => rfl))) (pss_one (ps_ret (pe_c2 o_lt (pe_callB c_ord (by rfl) B.ord bt_ord (pa_cons (pe_ix (i_ixK (K := K) rfl) (qv 0) (pe_op o_add (qv 1) (qv 3)) (fun _ _ => rfl)) pa_nil)) (pe_callB c_ord (by rfl) B.ord bt_ord (pa_cons (pe_ix (i_ixK (K := K) rfl) (qv 0) (pe_op o_add (qv 2) (qv 3)) (fun _ _ => rfl)) pa_nil))))) pss_nil)
        (pss_one (ps_aug2 (i := 3) o_iadd sc_w_ahead.nd rfl (by first | exact Or.inl rfl | exact Or.inr rfl) pe_int))))
        (pss_one (ps_ret (pe_c2 o_gt (qv 1) (qv 2)))))), ?_⟩
    simp only [L2.start, List.map_cons, List.map_nil, List.length_cons, List.length_nil, List.replicate_succ, List.replicate_zero, List.cons_append, List.nil_append, Nat.reduceAdd, Nat.reduceSub, Int.reduceLT, Int.reduceLE, true_and, and_true, decide_eq_true_eq, if_true, if_false, String.reduceEq, Bool.not_true, Bool.not_false, Bool.false_eq_true, decide_true, decide_false, List.set_cons_zero, List.set_cons_succ, gS, rVar, tC, tSeq, tNext, tAsg, gName, tRet, tRetN, tDrop, tIfS, tOp, tUn, tCB, tCons, tNil, tTup, tLst, tFn, tB2, tAnd, tOr, tNot, trV, tSl, tNoPart, pT, vAnd, vOr, vNot, addV, mulV, int2, int2', ltV, eqR, neR, sc, isV, isntV, negV, ixV, slV, lenV, ordV, isiV, isS, maxV, joinV, tBM, tBM0, tyV, tFE, L_T, tRaise, eqL, listV, rCat, rRep, rAppend, rReverse, oneC, capS, tSortL, lamS, tDIn, sDPut, tDNewK, List.set_nil, rngV, tB, sortI, List.append_nil, tWh]
    have hsz : sizeLine = 16777216 := sizeLine_eq
    have la : ((L z).drop i).length = (L z).length - i := List.length_drop ..
    have lb : ((L z).drop j).length = (L z).length - j := List.length_drop ..
    refine ⟨fun m σ H' => H' = H ∧ ∃ n : Nat, σ = [some (V.str z), some (V.int (i : Int)), some (V.int (j : Int)), some (V.int n)] ∧ i + n ≤ (L z).length ∧ j + n ≤ (L z).length ∧ m = (L z).length - n ∧ ∀ k, k < n → ((L z).drop i)[k]? = ((L z).drop j)[k]?,
      ⟨_, rfl, 0, rfl, by omega, by omega, rfl, fun j hj => absurd hj (Nat.not_lt_zero _)⟩, ?_⟩
    rintro m σ H' ⟨rfl, n, rfl, h1, h2, rfl, inv⟩
    simp only [L2.start, List.map_cons, List.map_nil, List.length_cons, List.length_nil, List.replicate_succ, List.replicate_zero, List.cons_append, List.nil_append, Nat.reduceAdd, Nat.reduceSub, Int.reduceLT, Int.reduceLE, true_and, and_true, decide_eq_true_eq, if_true, if_false, String.reduceEq, Bool.not_true, Bool.not_false, Bool.false_eq_true, decide_true, decide_false, List.set_cons_zero, List.set_cons_succ, gS, rVar, tC, tSeq, tNext, tAsg, gName, tRet, tRetN, tDrop, tIfS, tOp, tUn, tCB, tCons, tNil, tTup, tLst, tFn, tB2, tAnd, tOr, tNot, trV, tSl, tNoPart, pT, vAnd, vOr, vNot, addV, mulV, int2, int2', ltV, eqR, neR, sc, isV, isntV, negV, ixV, slV, lenV, ordV, isiV, isS, maxV, joinV, tBM, tBM0, tyV, tFE, L_T, tRaise, eqL, listV, rCat, rRep, rAppend, rReverse, oneC, capS, tSortL, lamS, tDIn, sDPut, tDNewK, List.set_nil, rngV, tB, sortI, List.append_nil, rAug, gtV]
    have ga : ∀ k, i + k < (L z).length → atI (L z) ((i : Int) + (k : Int)) = some (((L z).drop i).getD k 0) := fun k hk => by
      have := atI_getD (xs := L z) (i := (i : Int) + (k : Int)) 0 (by omega) (by omega)
      rw [this, show ((i : Int) + (k : Int)).toNat = i + k by omega, List.getD_eq_getElem?_getD, List.getD_eq_getElem?_getD, List.getElem?_drop]
    have gb : ∀ k, j + k < (L z).length → atI (L z) ((j : Int) + (k : Int)) = some (((L z).drop j).getD k 0) := fun k hk => by
      have := atI_getD (xs := L z) (i := (j : Int) + (k : Int)) 0 (by omega) (by omega)
      rw [this, show ((j : Int) + (k : Int)).toNat = j + k by omega, List.getD_eq_getElem?_getD, List.getD_eq_getElem?_getD, List.getElem?_drop]
    rw [lt_com] at q
    refine ⟨by omega, ite2 (fun hna => ⟨by omega, ite2 (fun hnb => ?_) fun hn => ?_⟩) fun hn => ?_⟩
    · have hna : i + n < (L z).length := by omega
      have hnb : j + n < (L z).length := by omega
      refine ⟨by omega, _, ga n hna, by omega, _, gb n hnb, ite2 (fun e => ?_) fun e => ?_⟩
      · have e : ((L z).drop i).getD n 0 ≠ ((L z).drop j).getD n 0 := fun w => by rw [w] at e; simp at e
        have cm : com ((L z).drop i) ((L z).drop j) = n := com_is _ _ n (by omega) (by omega) inv (.inr (.inr fun w => e (by rw [List.getD_eq_getElem?_getD, List.getD_eq_getElem?_getD, w])))
        rw [cm, if_pos ⟨by omega, by omega⟩] at q
        refine ⟨by omega, _, ga n hna, _, rfl, by omega, _, gb n hnb, _, rfl, Same.refl _, ?_⟩
        have e2 : decide ((((L z).drop i).getD n 0 : Int) < (((L z).drop j).getD n 0 : Int)) = decide (((L z).drop i).getD n 0 < ((L z).drop j).getD n 0) := by
          rw [Bool.eq_iff_iff]
          simp
        rw [e2]
        exact q
      · have e : ((L z).drop i).getD n 0 = ((L z).drop j).getD n 0 := Classical.byContradiction fun w => e (by simpa using w)
        refine ⟨(L z).length - (n + 1), by omega, n + 1, rfl, by omega, by omega, rfl, fun k hk => ?_⟩
        by_cases hk2 : k < n
        · exact inv k hk2
        · have : k = n := by omega
          subst this
          rw [List.getD_eq_getElem?_getD, List.getD_eq_getElem?_getD, List.getElem?_eq_getElem (by omega), List.getElem?_eq_getElem (by omega)] at e
          rw [List.getElem?_eq_getElem (by omega), List.getElem?_eq_getElem (by omega)]
          simpa using e
    all_goals
      have cm : com ((L z).drop i) ((L z).drop j) = n := com_is _ _ n (by omega) (by omega) inv (by omega)
      rw [cm, if_neg (by omega)] at q
      refine ⟨Same.refl _, ?_⟩
      have e2 : decide ((j : Int) < (i : Int)) = decide (((L z).drop i).length < ((L z).drop j).length) := by
        rw [Bool.eq_iff_iff]
        simp
        omega
      rw [e2]
      exact q
noncomputable def sp_w_rises (K : PySem.W.Frag) : Sp := fun vs H Q _ => match vs with
  | [.str z, .ref p] => (L z).length ≤ 300 ∧ H p = some (.lst ((LO.ord (L z)).map fun i : Nat => V.int i)) ∧ ∀ H', Same H H' → Q (.bl true) H'
  | _ => False
theorem ok_w_rises {f : Addr} {fd : FuncData} (F : Fun K "_law_rises" "_law_rises" s_w_rises f fd) (B : Bn mg) (G_w_whole : Fn P w K mg base 1 "_law_whole" P_w_whole (sp_w_whole K)) (G_w_ahead : Fn P w K mg base 1 "_law_ahead" P_w_ahead (sp_w_ahead K)) : FnOk P w K mg base CX0 2 f fd P_w_rises (sp_w_rises K) := by
  refine F.ok sc_w_rises (fun vs H Q E h => ?_) (fun cdv A outer s H vs Q E hr h => ?_) <;> unfold sp_w_rises at h <;> split at h <;> first | exact h.elim | skip
  · rfl
  · rename_i z p
    obtain ⟨hl, h1, q⟩ := h
    refine ⟨_, (pss_cons (ps_cut (ps_if (PW.pt (pw_or (pt_not (pt_trK (K := K) rfl (pe_callB (c_isiK (K := K) rfl) (by rfl) B.isinstance bt_isinstance (pa_cons (qv 1) (pa_cons (pe_bltn (v := .ty "list") rfl B.list bt_list rfl) pa_nil))))) (pw_or1 (pt_c2 o_ne (pe_callB (c_lenK (K := K) rfl) (by rfl) B.len bt_len (pa_cons (qv 1) pa_nil)) (pe_op o_add (pe_callB (c_lenK (K := K) rfl) (by rfl) B.len bt_len (pa_cons (qv 0) pa_nil)) pe_int))))) (pss_one (ps_ret pe_bl)) pss_nil))
        (pss_cons (ps_set (i := 2) sc_w_rises.nd rfl (by first | exact Or.inl rfl | exact Or.inr rfl) pe_dnewK)
        (pss_cons (ps_cut (ps_rng1 PassesOwn.never rfl B.range (pa_cons (pe_callB (c_lenK (K := K) rfl) (by rfl) B.len bt_len (pa_cons (qv 1) pa_nil)) pa_nil) (pg_name (i := 3) sc_w_rises.nd rfl (by first | exact Or.inl rfl | exact Or.inr rfl)) (pss_cons (ps_set (i := 4) sc_w_rises.nd rfl (by first | exact Or.inl rfl | exact Or.inr rfl) (pe_ix (i_ixK (K := K) rfl) (qv 1) (qv 3) (fun _ _ => rfl)))
        (pss_cons (ps_cut (ps_if (PW.pt (pw_or (pt_not (pt_trK (K := K) rfl (pe_fn G_w_whole (hr.mono (by decide)) (pa_cons (qv 4) pa_nil)))) (pw_or (pt_c2 o_lt (qv 4) pe_int) (pw_or (pt_c2 o_gt (qv 4) (pe_callB (c_lenK (K := K) rfl) (by rfl) B.len bt_len (pa_cons (qv 0) pa_nil))) (pw_or1 (pt_cmp (pc_din (hu_of hr) (qv 4) (qv 2)))))))) (pss_one (ps_ret pe_bl)) pss_nil))
        (pss_cons (ps_cut (ps_dput (hu_of hr) (qv 2) (qv 4) pe_bl rfl))
        (pss_one (ps_if (PW.pt (pw_and (pt_c2 o_gt (qv 3) pe_int) (pw_and1 (pt_not (pt_trK (K := K) rfl (pe_fn G_w_ahead (hr.mono (by decide)) (pa_cons (qv 0) (pa_cons (pe_ix (i_ixK (K := K) rfl) (qv 1) (pe_op o_sub (qv 3) pe_int) (fun _ _ => rfl)) (pa_cons (qv 4) pa_nil))))))))) (pss_one (ps_ret pe_bl)) pss_nil)))))))
        (pss_one (ps_ret pe_bl))))), ?_⟩
    have hsz : sizeLine = 16777216 := sizeLine_eq
    have ol := LO.ord_length (L z)
    have rl : ((LO.ord (L z)).map fun i : Nat => V.int i).length = (L z).length + 1 := by rw [List.length_map, ol]
    have ox : ∀ i : Nat, i ≤ (L z).length → (LO.ord (L z))[i]? = some ((LO.ord (L z)).getD i 0) := fun i hi => by
      rw [List.getD_eq_getElem?_getD, List.getElem?_eq_getElem (by omega)]
      rfl
    have ax : ∀ i : Nat, i ≤ (L z).length → atI ((LO.ord (L z)).map fun i : Nat => V.int i) (i : Int) = some (V.int ((LO.ord (L z)).getD i 0 : Nat)) := fun i hi => by
      unfold atI ixN
      rw [if_pos (by omega), if_pos (by rw [rl]; omega), Int.toNat_natCast, Option.bind_some, List.getElem?_map, ox i hi]
      rfl
    have fl : ∀ i : Nat, i ≤ (L z).length → (LO.ord (L z)).getD i 0 ≤ (L z).length := fun i hi => LO.mem_ord.mp (List.mem_of_getElem? (ox i hi))
    have fj : ∀ i j : Nat, i ≤ (L z).length → j ≤ (L z).length → (LO.ord (L z)).getD i 0 = (LO.ord (L z)).getD j 0 → i = j := fun i j hi hj e => by
      have := ox i hi
      rw [e, ← ox j hj] at this
      exact ((List.getElem?_inj (by omega) (LO.ord_nodup _)).mp this)
    have fs : ∀ i : Nat, i < (L z).length → (L z).drop ((LO.ord (L z)).getD i 0) < (L z).drop ((LO.ord (L z)).getD (i + 1) 0) := fun i hi => by
      have h := List.pairwise_iff_getElem.mp (LO.ord_lt (L z)) i (i + 1) (by omega) (by omega) (by omega)
      have a := ox i (by omega)
      have b := ox (i + 1) (by omega)
      rw [List.getElem?_eq_getElem (by omega)] at a b
      rw [Option.some.inj a, Option.some.inj b] at h
      exact h
    obtain ⟨f, ff⟩ : ∃ f : Nat → Nat, ∀ i, (LO.ord (L z)).getD i 0 = f i := ⟨_, fun _ => rfl⟩
    simp only [ff] at ax fl fj fs
    clear ox ol
    generalize ((LO.ord (L z)).map fun i : Nat => V.int i) = vs at h1 rl ax
    refine cutS (fun σ' H' => H' = H ∧ σ' = [some (V.str z), some (V.ref p), none, none, none]) ?_ ?_
    · simp only [L2.start, List.map_cons, List.map_nil, List.length_cons, List.length_nil, List.replicate_succ, List.replicate_zero, List.cons_append, List.nil_append, Nat.reduceAdd, Nat.reduceSub, Int.reduceLT, Int.reduceLE, true_and, and_true, decide_eq_true_eq, if_true, if_false, String.reduceEq, Bool.not_true, Bool.not_false, Bool.false_eq_true, decide_true, decide_false, List.set_cons_zero, List.set_cons_succ, gS, rVar, tC, tSeq, tNext, tAsg, gName, tRet, tRetN, tDrop, tIfS, tOp, tUn, tCB, tCons, tNil, tTup, tLst, tFn, tB2, tAnd, tOr, tNot, trV, tSl, tNoPart, pT, vAnd, vOr, vNot, addV, mulV, int2, int2', ltV, eqR, neR, sc, isV, isntV, negV, ixV, slV, lenV, ordV, isiV, isS, maxV, joinV, tBM, tBM0, tyV, tFE, L_T, tRaise, eqL, listV, rCat, rRep, rAppend, rReverse, oneC, capS, tSortL, lamS, tDIn, sDPut, tDNewK, List.set_nil, rngV, tB, sortI, List.append_nil]
      refine ⟨true, _, .lst h1, rfl, iteF ⟨_, .inl (SqL.of h1), by omega, ?_⟩⟩
      rw [rl]
      exact iteNS rfl trivial
    rintro _ H ⟨rfl, rfl⟩
    simp only [L2.start, List.map_cons, List.map_nil, List.length_cons, List.length_nil, List.replicate_succ, List.replicate_zero, List.cons_append, List.nil_append, Nat.reduceAdd, Nat.reduceSub, Int.reduceLT, Int.reduceLE, true_and, and_true, decide_eq_true_eq, if_true, if_false, String.reduceEq, Bool.not_true, Bool.not_false, Bool.false_eq_true, decide_true, decide_false, List.set_cons_zero, List.set_cons_succ, gS, rVar, tC, tSeq, tNext, tAsg, gName, tRet, tRetN, tDrop, tIfS, tOp, tUn, tCB, tCons, tNil, tTup, tLst, tFn, tB2, tAnd, tOr, tNot, trV, tSl, tNoPart, pT, vAnd, vOr, vNot, addV, mulV, int2, int2', ltV, eqR, neR, sc, isV, isntV, negV, ixV, slV, lenV, ordV, isiV, isS, maxV, joinV, tBM, tBM0, tyV, tFE, L_T, tRaise, eqL, listV, rCat, rRep, rAppend, rReverse, oneC, capS, tSortL, lamS, tDIn, sDPut, tDNewK, List.set_nil, rngV, tB, sortI, List.append_nil]
    intro d hd
    refine cutS (fun σ' H' => Same H H' ∧ ∃ v w, σ' = [some (V.str z), some (V.ref p), some (V.ref d), v, w]) ?_ ?_
    · simp only [L2.start, List.map_cons, List.map_nil, List.length_cons, List.length_nil, List.replicate_succ, List.replicate_zero, List.cons_append, List.nil_append, Nat.reduceAdd, Nat.reduceSub, Int.reduceLT, Int.reduceLE, true_and, and_true, decide_eq_true_eq, if_true, if_false, String.reduceEq, Bool.not_true, Bool.not_false, Bool.false_eq_true, decide_true, decide_false, List.set_cons_zero, List.set_cons_succ, gS, rVar, tC, tSeq, tNext, tAsg, gName, tRet, tRetN, tDrop, tIfS, tOp, tUn, tCB, tCons, tNil, tTup, tLst, tFn, tB2, tAnd, tOr, tNot, trV, tSl, tNoPart, pT, vAnd, vOr, vNot, addV, mulV, int2, int2', ltV, eqR, neR, sc, isV, isntV, negV, ixV, slV, lenV, ordV, isiV, isS, maxV, joinV, tBM, tBM0, tyV, tFE, L_T, tRaise, eqL, listV, rCat, rRep, rAppend, rReverse, oneC, capS, tSortL, lamS, tDIn, sDPut, tDNewK, List.set_nil, rngV, tB, sortI, List.append_nil, tRng]
      refine ⟨_, .inl (SqL.of ((upd_ne (ne_of_none h1 hd)).trans h1)), ⟨by rw [rl]; omega, by rw [rl]; omega⟩, fun i σ H' => Same H H' ∧ H' d = some (.dK (encV ((List.range i).map fun j => (((f j : Nat) : Int), V.bl true)))) ∧ ∃ v w, σ = [some (V.str z), some (V.ref p), some (V.ref d), v, w], ⟨Same.updN hd, upd_same, _, _, rfl⟩, ?_, ?_⟩
      · rintro i σ H' hi ⟨sm, hd', v, w, rfl⟩
        rw [rl] at hi
        have hi2 : i ≤ (L z).length := by omega
        have h2 := SqL.of (K := K) (sm _ _ h1)
        have axi := ax i hi2
        rw [← Int.zero_add (i : Int)] at axi
        have lk : ((List.range i).map fun j => (((f j : Nat) : Int), V.bl true)).lookup ((f i : Nat) : Int) = none := by
          rw [List.lookup_eq_none_iff]
          intro q hq
          obtain ⟨j, hj, rfl⟩ := List.mem_map.mp hq
          have hj := List.mem_range.mp hj
          have : f i ≠ f j := fun w => by
            have := fj i j hi2 (by omega) w
            omega
          simp
          omega
        have le : (encV ((List.range i).map fun j => (((f j : Nat) : Int), V.bl true))).length = i := by unfold encV; simp
        have fli := fl i hi2
        simp only [L2.start, List.map_cons, List.map_nil, List.length_cons, List.length_nil, List.replicate_succ, List.replicate_zero, List.cons_append, List.nil_append, Nat.reduceAdd, Nat.reduceSub, Int.reduceLT, Int.reduceLE, true_and, and_true, decide_eq_true_eq, if_true, if_false, String.reduceEq, Bool.not_true, Bool.not_false, Bool.false_eq_true, decide_true, decide_false, List.set_cons_zero, List.set_cons_succ, gS, rVar, tC, tSeq, tNext, tAsg, gName, tRet, tRetN, tDrop, tIfS, tOp, tUn, tCB, tCons, tNil, tTup, tLst, tFn, tB2, tAnd, tOr, tNot, trV, tSl, tNoPart, pT, vAnd, vOr, vNot, addV, mulV, int2, int2', ltV, eqR, neR, sc, isV, isntV, negV, ixV, slV, lenV, ordV, isiV, isS, maxV, joinV, tBM, tBM0, tyV, tFE, L_T, tRaise, eqL, listV, rCat, rRep, rAppend, rReverse, oneC, capS, tSortL, lamS, tDIn, sDPut, tDNewK, List.set_nil, rngV, tB, sortI, List.append_nil]
        refine ⟨_, _, .inl h2, axi, ?_⟩
        refine cutS (fun σ' H'' => H'' = H' ∧ σ' = [some (V.str z), some (V.ref p), some (V.ref d), some (V.int (0 + (i : Int))), some (V.int (f i : Nat))]) ?_ ?_
        · simp only [L2.start, List.map_cons, List.map_nil, List.length_cons, List.length_nil, List.replicate_succ, List.replicate_zero, List.cons_append, List.nil_append, Nat.reduceAdd, Nat.reduceSub, Int.reduceLT, Int.reduceLE, true_and, and_true, decide_eq_true_eq, if_true, if_false, String.reduceEq, Bool.not_true, Bool.not_false, Bool.false_eq_true, decide_true, decide_false, List.set_cons_zero, List.set_cons_succ, gS, rVar, tC, tSeq, tNext, tAsg, gName, tRet, tRetN, tDrop, tIfS, tOp, tUn, tCB, tCons, tNil, tTup, tLst, tFn, tB2, tAnd, tOr, tNot, trV, tSl, tNoPart, pT, vAnd, vOr, vNot, addV, mulV, int2, int2', ltV, eqR, neR, sc, isV, isntV, negV, ixV, slV, lenV, ordV, isiV, isS, maxV, joinV, tBM, tBM0, tyV, tFE, L_T, tRaise, eqL, listV, rCat, rRep, rAppend, rReverse, oneC, capS, tSortL, lamS, tDIn, sDPut, tDNewK, List.set_nil, rngV, tB, sortI, List.append_nil, sp_w_whole, gtV]
          have dg := DGet.k (k := .inl ((f i : Nat) : Int)) hd'
          rw [val_encV, lk] at dg
          exact ite2 (fun w => absurd w (by omega)) fun _ => ⟨by omega, ite2 (fun w => absurd w (by omega)) fun _ => ⟨d, _, rfl, dg, false, rfl, iteF trivial⟩⟩
        rintro _ H' ⟨rfl, rfl⟩
        refine cutS (fun σ' H'' => Same H H'' ∧ H'' d = some (.dK (encV ((List.range (i + 1)).map fun j => (((f j : Nat) : Int), V.bl true)))) ∧ σ' = [some (V.str z), some (V.ref p), some (V.ref d), some (V.int (0 + (i : Int))), some (V.int (f i : Nat))]) ?_ ?_
        · simp only [L2.start, List.map_cons, List.map_nil, List.length_cons, List.length_nil, List.replicate_succ, List.replicate_zero, List.cons_append, List.nil_append, Nat.reduceAdd, Nat.reduceSub, Int.reduceLT, Int.reduceLE, true_and, and_true, decide_eq_true_eq, if_true, if_false, String.reduceEq, Bool.not_true, Bool.not_false, Bool.false_eq_true, decide_true, decide_false, List.set_cons_zero, List.set_cons_succ, gS, rVar, tC, tSeq, tNext, tAsg, gName, tRet, tRetN, tDrop, tIfS, tOp, tUn, tCB, tCons, tNil, tTup, tLst, tFn, tB2, tAnd, tOr, tNot, trV, tSl, tNoPart, pT, vAnd, vOr, vNot, addV, mulV, int2, int2', ltV, eqR, neR, sc, isV, isntV, negV, ixV, slV, lenV, ordV, isiV, isS, maxV, joinV, tBM, tBM0, tyV, tFE, L_T, tRaise, eqL, listV, rCat, rRep, rAppend, rReverse, oneC, capS, tSortL, lamS, tDIn, sDPut, tDNewK, List.set_nil, rngV, tB, sortI, List.append_nil]
          refine ⟨d, _, rfl, DPut.k (k := .inl ((f i : Nat) : Int)) hd' (by omega), ?_⟩
          rw [put_encV _ lk]
          refine ⟨same_put sm hd, ?_⟩
          rw [upd_same, List.range_succ, List.map_append]
          rfl
        rintro _ H2 ⟨sm2, hd2, rfl⟩
        simp only [L2.start, List.map_cons, List.map_nil, List.length_cons, List.length_nil, List.replicate_succ, List.replicate_zero, List.cons_append, List.nil_append, Nat.reduceAdd, Nat.reduceSub, Int.reduceLT, Int.reduceLE, true_and, and_true, decide_eq_true_eq, if_true, if_false, String.reduceEq, Bool.not_true, Bool.not_false, Bool.false_eq_true, decide_true, decide_false, List.set_cons_zero, List.set_cons_succ, gS, rVar, tC, tSeq, tNext, tAsg, gName, tRet, tRetN, tDrop, tIfS, tOp, tUn, tCB, tCons, tNil, tTup, tLst, tFn, tB2, tAnd, tOr, tNot, trV, tSl, tNoPart, pT, vAnd, vOr, vNot, addV, mulV, int2, int2', ltV, eqR, neR, sc, isV, isntV, negV, ixV, slV, lenV, ordV, isiV, isS, maxV, joinV, tBM, tBM0, tyV, tFE, L_T, tRaise, eqL, listV, rCat, rRep, rAppend, rReverse, oneC, capS, tSortL, lamS, tDIn, sDPut, tDNewK, List.set_nil, rngV, tB, sortI, List.append_nil, sp_w_ahead, gtV, subV]
        refine ite2 (fun w => ?_) fun _ => ⟨sm2, hd2, _, _, rfl⟩
        have ax1 := ax (i - 1) (by omega)
        rw [show ((i - 1 : Nat) : Int) = 0 + (i : Int) - 1 by omega] at ax1
        have fli1 := fl (i - 1) (by omega)
        refine ⟨_, _, .inl (SqL.of (sm2 _ _ h1)), ax1, ?_⟩
        simp only [L2.start, List.map_cons, List.map_nil, List.length_cons, List.length_nil, List.replicate_succ, List.replicate_zero, List.cons_append, List.nil_append, Nat.reduceAdd, Nat.reduceSub, Int.reduceLT, Int.reduceLE, true_and, and_true, decide_eq_true_eq, if_true, if_false, String.reduceEq, Bool.not_true, Bool.not_false, Bool.false_eq_true, decide_true, decide_false, List.set_cons_zero, List.set_cons_succ, gS, rVar, tC, tSeq, tNext, tAsg, gName, tRet, tRetN, tDrop, tIfS, tOp, tUn, tCB, tCons, tNil, tTup, tLst, tFn, tB2, tAnd, tOr, tNot, trV, tSl, tNoPart, pT, vAnd, vOr, vNot, addV, mulV, int2, int2', ltV, eqR, neR, sc, isV, isntV, negV, ixV, slV, lenV, ordV, isiV, isS, maxV, joinV, tBM, tBM0, tyV, tFE, L_T, tRaise, eqL, listV, rCat, rRep, rAppend, rReverse, oneC, capS, tSortL, lamS, tDIn, sDPut, tDNewK, List.set_nil, rngV, tB, sortI, List.append_nil, sp_w_ahead]
        refine ⟨by omega, ⟨by omega, by omega⟩, ⟨by omega, by omega⟩, ?_⟩
        have fsi := fs (i - 1) (by omega)
        rw [show i - 1 + 1 = i by omega] at fsi
        rw [Int.toNat_natCast, Int.toNat_natCast, decide_eq_true fsi]
        exact iteF ⟨sm2, hd2, _, _, rfl⟩
      · rintro σ H' ⟨sm, hd', v, w, rfl⟩
        exact ⟨sm, _, _, rfl⟩
    rintro _ H2 ⟨sm2, v, w, rfl⟩
    simp only [L2.start, List.map_cons, List.map_nil, List.length_cons, List.length_nil, List.replicate_succ, List.replicate_zero, List.cons_append, List.nil_append, Nat.reduceAdd, Nat.reduceSub, Int.reduceLT, Int.reduceLE, true_and, and_true, decide_eq_true_eq, if_true, if_false, String.reduceEq, Bool.not_true, Bool.not_false, Bool.false_eq_true, decide_true, decide_false, List.set_cons_zero, List.set_cons_succ, gS, rVar, tC, tSeq, tNext, tAsg, gName, tRet, tRetN, tDrop, tIfS, tOp, tUn, tCB, tCons, tNil, tTup, tLst, tFn, tB2, tAnd, tOr, tNot, trV, tSl, tNoPart, pT, vAnd, vOr, vNot, addV, mulV, int2, int2', ltV, eqR, neR, sc, isV, isntV, negV, ixV, slV, lenV, ordV, isiV, isS, maxV, joinV, tBM, tBM0, tyV, tFE, L_T, tRaise, eqL, listV, rCat, rRep, rAppend, rReverse, oneC, capS, tSortL, lamS, tDIn, sDPut, tDNewK, List.set_nil, rngV, tB, sortI, List.append_nil]
    exact q _ sm2
noncomputable def sp_law (K : PySem.W.Frag) (tb : Addr) : Sp := fun vs H Q _ => ∃ (a : Addr) (ns : List Int), vs = [.ref a] ∧ SqL K H a (ns.map V.int) ∧ ns.length ≤ 63 ∧ Bk_p_order_of tb H ∧ ∀ H', Q (.bl true) H'
theorem ok_law {f : Addr} {fd : FuncData} (F : Fun K "law" "law" s_law f fd) (B : Bn mg) {tb_p_order_of : Addr} (G_p_order_of : Fn P w K mg base 3 "order_of" P_p_order_of (sp_p_order_of K tb_p_order_of)) (G_w_cell_at : Fn P w K mg base 1 "_law_cell_at" P_w_cell_at (sp_w_cell_at K)) (G_w_mixed : Fn P w K mg base 1 "_law_mixed" P_w_mixed (sp_w_mixed K)) (G_w_text_by : Fn P w K mg base 2 "_law_text_by" P_w_text_by (sp_w_text_by K)) (G_w_rises : Fn P w K mg base 2 "_law_rises" P_w_rises (sp_w_rises K)) : FnOk P w K mg base CX0 4 f fd P_law (sp_law K tb_p_order_of) := by
  refine F.ok sc_law (fun vs H Q E h => ?_) (fun cdv A outer s H vs Q E hr h => ?_)
  · obtain ⟨a, ns, rfl, _⟩ := h
    rfl
  · obtain ⟨a, ns, rfl, hS, hlen, bk, q⟩ := h
    refine ⟨_, (pss_cons (ps_set (i := 1) sc_law.nd rfl (by first | exact Or.inl rfl | exact Or.inr rfl) (pe_fn G_w_cell_at (hr.mono (by decide)) (pa_cons (qv 0) (pa_cons pe_int pa_nil))))
        (pss_cons (ps_set (i := 2) sc_law.nd rfl (by first | exact Or.inl rfl | exact Or.inr rfl) (pe_fn G_w_text_by (hr.mono (by decide)) (pa_cons (pe_slice (s_slK (K := K) rfl) (qv 0) (po_t pe_int) (po_t pe_int)) (pa_cons (qv 1) (pa_cons pe_int pa_nil)))))
        (pss_cons (ps_cut (ps_if (pt_c2 o_eq (pe_fn G_w_mixed (hr.mono (by decide)) (pa_cons (qv 1) (pa_cons pe_int (pa_cons pe_int pa_nil)))) pe_int) (pss_one (ps_set (i := 2) sc_law.nd rfl (by first | exact Or.inl rfl | exact Or.inr rfl) (pe_op o_add (qv 2) (pe_fn G_w_text_by (hr.mono (by decide)) (pa_cons (pe_slice (s_slK (K := K) rfl) (qv 0) (po_t pe_int) (po_t pe_int)) (pa_cons (pe_op o_add (qv 1) pe_int) (pa_cons pe_int pa_nil))))))) pss_nil))
        (pss_cons (ps_cut (ps_if (pt_c2 o_eq (pe_fn G_w_mixed (hr.mono (by decide)) (pa_cons (qv 1) (pa_cons pe_int (pa_cons pe_int pa_nil)))) pe_int) (pss_one (ps_set (i := 2) sc_law.nd rfl (by first | exact Or.inl rfl | exact Or.inr rfl) (pe_slice (s_slK (K := K) rfl) (pe_op o_mul (qv 2) pe_int) po_none (po_t (pe_fn G_w_mixed (hr.mono (by decide)) (pa_cons (qv 1) (pa_cons pe_int (pa_cons pe_int pa_nil)))))))) pss_nil))
        (pss_cons (ps_set (i := 3) sc_law.nd rfl (by first | exact Or.inl rfl | exact Or.inr rfl) (pe_fn G_p_order_of (hr.mono (by decide)) (pa_cons (qv 2) pa_nil)))
        (pss_cons (ps_cut (ps_if (pt_not (pt_trK (K := K) rfl (pe_fn G_w_rises (hr.mono (by decide)) (pa_cons (qv 2) (pa_cons (qv 3) pa_nil))))) (pss_one (ps_ret pe_bl)) pss_nil))
        (pss_cons (ps_cut (ps_set (i := 4) sc_law.nd rfl (by first | exact Or.inl rfl | exact Or.inr rfl) (pe_callTy (c_listVK (K := K) rfl rfl) (by rfl) B.list bt_list (pa_cons (qv 3) pa_nil))))
        (pss_cons (ps_cut (ps_if (PW.pt (pw_or (pt_c2 (o_neL (K := K) rfl hr) (pe_callB (c_sortIB (K := K) rfl rfl) (by rfl) B.sorted bt_sorted (pa_cons (pe_fn G_p_order_of (hr.mono (by decide)) (pa_cons (pe_slice (s_slK (K := K) rfl) (qv 2) (po_t pe_int) po_none) pa_nil)) pa_nil)) (pe_callTy (c_listVK (K := K) rfl rfl) (by rfl) B.list bt_list (pa_cons (pe_callTy c_range (by rfl) B.range bt_range (pa_cons (pe_callB (c_max rfl) (by rfl) B.max bt_max (pa_cons pe_int (pa_cons (pe_callB (c_lenK (K := K) rfl) (by rfl) B.len bt_len (pa_cons (qv 2) pa_nil)) pa_nil))) pa_nil)) pa_nil))) (pw_or1 (pt_c2 (o_neL (K := K) rfl hr) (qv 3) (qv 4))))) (pss_one (ps_ret pe_bl)) pss_nil))
        (pss_cons (ps_expr (pe_bm0K (K := K) rfl PySem.F.plainAttrs_list PySem.F.slot_list_reverse PySem.F.type_list_reverse mt_reverse (qv 3)))
        (pss_cons (ps_expr (pe_bmK (K := K) rfl PySem.F.plainAttrs_list PySem.F.slot_list_append PySem.F.type_list_append mt_append (qv 3) (pa_cons pe_int pa_nil)))
        (pss_one (ps_ret (pe_c2 (o_eqL (K := K) rfl hr) (pe_fn G_p_order_of (hr.mono (by decide)) (pa_cons (qv 2) pa_nil)) (qv 4)))))))))))))), ?_⟩
    have hsz : sizeLine = 16777216 := sizeLine_eq
    simp only [L2.start, List.map_cons, List.map_nil, List.length_cons, List.length_nil, List.replicate_succ, List.replicate_zero, List.cons_append, List.nil_append, Nat.reduceAdd, Nat.reduceSub, Int.reduceLT, Int.reduceLE, true_and, and_true, decide_eq_true_eq, if_true, if_false, String.reduceEq, Bool.not_true, Bool.not_false, Bool.false_eq_true, decide_true, decide_false, List.set_cons_zero, List.set_cons_succ, gS, rVar, tC, tSeq, tNext, tAsg, gName, tRet, tRetN, tDrop, tIfS, tOp, tUn, tCB, tCons, tNil, tTup, tLst, tFn, tB2, tAnd, tOr, tNot, trV, tSl, tNoPart, pT, vAnd, vOr, vNot, addV, mulV, int2, int2', ltV, eqR, neR, sc, isV, isntV, negV, ixV, slV, lenV, ordV, isiV, isS, maxV, joinV, tBM, tBM0, tyV, tFE, L_T, tRaise, eqL, listV, rCat, rRep, rAppend, rReverse, oneC, capS, tSortL, lamS, tDIn, sDPut, tDNewK, List.set_nil, rngV, tB, sortI, List.append_nil, sp_w_cell_at, sp_w_text_by]
    have cn := cut_len ns (some 1) (some 61)
    refine ⟨ns, hS, _, hS, fun p hp => ⟨cut ns (some 1) (some 61), SqL.of (by rw [upd_same, cut_map]), by omega, fun l hl hs => ?_⟩⟩
    have bk1 : Bk_p_order_of tb_p_order_of (upd H p (HO.lst (cut (ns.map V.int) (some 1) (some 61)))) := bk.put hp
    have hS1 : SqL K (upd H p (HO.lst (cut (ns.map V.int) (some 1) (some 61)))) a (ns.map V.int) := (Same.updN hp).seq hS
    generalize upd H p (HO.lst (cut (ns.map V.int) (some 1) (some 61))) = H1 at bk1 hS1 ⊢
    refine cutS (fun σ' H' => ∃ t : List Nat, t.length ≤ 120 ∧ SqL K H' a (ns.map V.int) ∧ Bk_p_order_of tb_p_order_of H' ∧ σ' = [some (V.ref a), some (V.int (cellAt ns 0)), some (V.str (T t)), none, none]) ?_ ?_
    · simp only [L2.start, List.map_cons, List.map_nil, List.length_cons, List.length_nil, List.replicate_succ, List.replicate_zero, List.cons_append, List.nil_append, Nat.reduceAdd, Nat.reduceSub, Int.reduceLT, Int.reduceLE, true_and, and_true, decide_eq_true_eq, if_true, if_false, String.reduceEq, Bool.not_true, Bool.not_false, Bool.false_eq_true, decide_true, decide_false, List.set_cons_zero, List.set_cons_succ, gS, rVar, tC, tSeq, tNext, tAsg, gName, tRet, tRetN, tDrop, tIfS, tOp, tUn, tCB, tCons, tNil, tTup, tLst, tFn, tB2, tAnd, tOr, tNot, trV, tSl, tNoPart, pT, vAnd, vOr, vNot, addV, mulV, int2, int2', ltV, eqR, neR, sc, isV, isntV, negV, ixV, slV, lenV, ordV, isiV, isS, maxV, joinV, tBM, tBM0, tyV, tFE, L_T, tRaise, eqL, listV, rCat, rRep, rAppend, rReverse, oneC, capS, tSortL, lamS, tDIn, sDPut, tDNewK, List.set_nil, rngV, tB, sortI, List.append_nil, sp_w_mixed, sp_w_text_by]
      refine fun r _ _ => ite2 (fun _ => ⟨_, hS1, fun p2 hp2 => ⟨cut ns (some 2) (some 62), SqL.of (by rw [upd_same, cut_map]), by have := cut_len ns (some 2) (some 62); omega, fun l1 hl1 _ => ⟨by omega, l ++ l1, by rw [List.length_append]; omega, (Same.updN hp2).seq hS1, bk1.put hp2, rfl⟩⟩⟩) fun _ => ⟨l, by omega, hS1, bk1, rfl⟩
    rintro _ H2 ⟨t, ht, hS2, bk2, rfl⟩
    refine cutS (fun σ' H' => ∃ t : List Nat, t.length ≤ 300 ∧ Bk_p_order_of tb_p_order_of H' ∧ σ' = [some (V.ref a), some (V.int (cellAt ns 0)), some (V.str (T t)), none, none]) ?_ ?_
    · simp only [L2.start, List.map_cons, List.map_nil, List.length_cons, List.length_nil, List.replicate_succ, List.replicate_zero, List.cons_append, List.nil_append, Nat.reduceAdd, Nat.reduceSub, Int.reduceLT, Int.reduceLE, true_and, and_true, decide_eq_true_eq, if_true, if_false, String.reduceEq, Bool.not_true, Bool.not_false, Bool.false_eq_true, decide_true, decide_false, List.set_cons_zero, List.set_cons_succ, gS, rVar, tC, tSeq, tNext, tAsg, gName, tRet, tRetN, tDrop, tIfS, tOp, tUn, tCB, tCons, tNil, tTup, tLst, tFn, tB2, tAnd, tOr, tNot, trV, tSl, tNoPart, pT, vAnd, vOr, vNot, addV, mulV, int2, int2', ltV, eqR, neR, sc, isV, isntV, negV, ixV, slV, lenV, ordV, isiV, isS, maxV, joinV, tBM, tBM0, tyV, tFE, L_T, tRaise, eqL, listV, rCat, rRep, rAppend, rReverse, oneC, capS, tSortL, lamS, tDIn, sDPut, tDNewK, List.set_nil, rngV, tB, sortI, List.append_nil, sp_w_mixed]
      refine fun r _ _ => ite2 (fun _ => ⟨⟨by decide, by decide, by show t.length * 300 ≤ _; omega⟩, fun r h0 h1 => ?_⟩) fun _ => ⟨t, by omega, bk2, rfl⟩
      have c1 : (rep (Int.toNat 300) t).length ≤ 300 * 120 := by
        rw [rep_len]
        exact Nat.mul_le_mul (by decide) ht
      have c2 := cut_hi (rep (Int.toNat 300) t) r h0
      exact ⟨by omega, _, by omega, bk2, rfl⟩
    rintro _ H3 ⟨t, ht, bk3, rfl⟩
    simp only [L2.start, List.map_cons, List.map_nil, List.length_cons, List.length_nil, List.replicate_succ, List.replicate_zero, List.cons_append, List.nil_append, Nat.reduceAdd, Nat.reduceSub, Int.reduceLT, Int.reduceLE, true_and, and_true, decide_eq_true_eq, if_true, if_false, String.reduceEq, Bool.not_true, Bool.not_false, Bool.false_eq_true, decide_true, decide_false, List.set_cons_zero, List.set_cons_succ, gS, rVar, tC, tSeq, tNext, tAsg, gName, tRet, tRetN, tDrop, tIfS, tOp, tUn, tCB, tCons, tNil, tTup, tLst, tFn, tB2, tAnd, tOr, tNot, trV, tSl, tNoPart, pT, vAnd, vOr, vNot, addV, mulV, int2, int2', ltV, eqR, neR, sc, isV, isntV, negV, ixV, slV, lenV, ordV, isiV, isS, maxV, joinV, tBM, tBM0, tyV, tFE, L_T, tRaise, eqL, listV, rCat, rRep, rAppend, rReverse, oneC, capS, tSortL, lamS, tDIn, sDPut, tDNewK, List.set_nil, rngV, tB, sortI, List.append_nil, sp_p_order_of]
    refine ⟨by omega, bk3, fun p1 H4 sm4 se4 bk4 hp1 h4 => ?_⟩
    refine cutS (fun σ' H' => H' p1 = some (.lst ((LO.ord t).map fun i : Nat => V.int i)) ∧ Bk_p_order_of tb_p_order_of H' ∧ σ' = [some (V.ref a), some (V.int (cellAt ns 0)), some (V.str (T t)), some (V.ref p1), none]) ?_ ?_
    · simp only [L2.start, List.map_cons, List.map_nil, List.length_cons, List.length_nil, List.replicate_succ, List.replicate_zero, List.cons_append, List.nil_append, Nat.reduceAdd, Nat.reduceSub, Int.reduceLT, Int.reduceLE, true_and, and_true, decide_eq_true_eq, if_true, if_false, String.reduceEq, Bool.not_true, Bool.not_false, Bool.false_eq_true, decide_true, decide_false, List.set_cons_zero, List.set_cons_succ, gS, rVar, tC, tSeq, tNext, tAsg, gName, tRet, tRetN, tDrop, tIfS, tOp, tUn, tCB, tCons, tNil, tTup, tLst, tFn, tB2, tAnd, tOr, tNot, trV, tSl, tNoPart, pT, vAnd, vOr, vNot, addV, mulV, int2, int2', ltV, eqR, neR, sc, isV, isntV, negV, ixV, slV, lenV, ordV, isiV, isS, maxV, joinV, tBM, tBM0, tyV, tFE, L_T, tRaise, eqL, listV, rCat, rRep, rAppend, rReverse, oneC, capS, tSortL, lamS, tDIn, sDPut, tDNewK, List.set_nil, rngV, tB, sortI, List.append_nil, sp_w_rises]
      exact ⟨ht, h4, fun H' sm => ⟨sm _ _ h4, bk_same bk4 sm⟩⟩
    rintro _ H5 ⟨h5, bk5, rfl⟩
    refine cutS (fun σ' H' => ∃ p2, p1 ≠ p2 ∧ H' p1 = some (.lst ((LO.ord t).map fun i : Nat => V.int i)) ∧ H' p2 = some (.lst ((LO.ord t).map fun i : Nat => V.int i)) ∧ Bk_p_order_of tb_p_order_of H' ∧ σ' = [some (V.ref a), some (V.int (cellAt ns 0)), some (V.str (T t)), some (V.ref p1), some (V.ref p2)]) ?_ ?_
    · simp only [L2.start, List.map_cons, List.map_nil, List.length_cons, List.length_nil, List.replicate_succ, List.replicate_zero, List.cons_append, List.nil_append, Nat.reduceAdd, Nat.reduceSub, Int.reduceLT, Int.reduceLE, true_and, and_true, decide_eq_true_eq, if_true, if_false, String.reduceEq, Bool.not_true, Bool.not_false, Bool.false_eq_true, decide_true, decide_false, List.set_cons_zero, List.set_cons_succ, gS, rVar, tC, tSeq, tNext, tAsg, gName, tRet, tRetN, tDrop, tIfS, tOp, tUn, tCB, tCons, tNil, tTup, tLst, tFn, tB2, tAnd, tOr, tNot, trV, tSl, tNoPart, pT, vAnd, vOr, vNot, addV, mulV, int2, int2', ltV, eqR, neR, sc, isV, isntV, negV, ixV, slV, lenV, ordV, isiV, isS, maxV, joinV, tBM, tBM0, tyV, tFE, L_T, tRaise, eqL, listV, rCat, rRep, rAppend, rReverse, oneC, capS, tSortL, lamS, tDIn, sDPut, tDNewK, List.set_nil, rngV, tB, sortI, List.append_nil]
      refine ⟨_, .inl (SqL.of h5), by rw [List.length_map, LO.ord_length]; omega, fun l hl => ⟨l, ?_, ?_, upd_same, bk5.put hl, rfl⟩⟩
      · exact ne_of_none h5 hl
      · exact (upd_ne (ne_of_none h5 hl)).trans h5
    rintro _ H6 ⟨p2, n12, h6, h6', bk6, rfl⟩
    refine cutS (fun σ' H' => H' p1 = some (.lst ((LO.ord t).map fun i : Nat => V.int i)) ∧ H' p2 = some (.lst ((LO.ord t).map fun i : Nat => V.int i)) ∧ Bk_p_order_of tb_p_order_of H' ∧ σ' = [some (V.ref a), some (V.int (cellAt ns 0)), some (V.str (T t)), some (V.ref p1), some (V.ref p2)]) ?_ ?_
    · simp only [L2.start, List.map_cons, List.map_nil, List.length_cons, List.length_nil, List.replicate_succ, List.replicate_zero, List.cons_append, List.nil_append, Nat.reduceAdd, Nat.reduceSub, Int.reduceLT, Int.reduceLE, true_and, and_true, decide_eq_true_eq, if_true, if_false, String.reduceEq, Bool.not_true, Bool.not_false, Bool.false_eq_true, decide_true, decide_false, List.set_cons_zero, List.set_cons_succ, gS, rVar, tC, tSeq, tNext, tAsg, gName, tRet, tRetN, tDrop, tIfS, tOp, tUn, tCB, tCons, tNil, tTup, tLst, tFn, tB2, tAnd, tOr, tNot, trV, tSl, tNoPart, pT, vAnd, vOr, vNot, addV, mulV, int2, int2', ltV, eqR, neR, sc, isV, isntV, negV, ixV, slV, lenV, ordV, isiV, isS, maxV, joinV, tBM, tBM0, tyV, tFE, L_T, tRaise, eqL, listV, rCat, rRep, rAppend, rReverse, oneC, capS, tSortL, lamS, tDIn, sDPut, tDNewK, List.set_nil, rngV, tB, sortI, List.append_nil, sp_p_order_of, sortIB, maxV]
      have e1 : cut t (some 1) none = t.drop 1 := cut_from t 1
      have l1 : (cut t (some 1) none).length + 1 = max 1 t.length := by rw [e1, List.length_drop]; omega
      have ol := LO.ord_length (cut t (some 1) none)
      have pr := LO.ord_perm (cut t (some 1) none)
      have nd := LO.ord_nodup (cut t (some 1) none)
      rw [l1] at pr
      refine ⟨by omega, by omega, bk6, fun p3 H7 sm7 se7 bk7 hp3 h7 => ?_⟩
      rw [LO.ordI] at h7
      generalize LO.ord (cut t (some 1) none) = od at h7 pr nd ol
      refine ⟨_, .inl (SqL.of h7), ⟨by rw [List.length_map]; omega, ?_⟩, fun l ms hl pm pw => ⟨by omega, fun r hr => ?_⟩⟩
      · refine List.Pairwise.map _ (fun a b h => ?_) nd
        omega
      have em : ms = (List.range (max 1 t.length)).map fun j : Nat => (j : Int) := by
        refine List.Perm.eq_of_pairwise (le := (· ≤ ·)) (fun a b _ _ h1 h2 => Int.le_antisymm h1 h2) pw (List.pairwise_map.mpr (List.pairwise_lt_range.imp fun h => by omega)) (pm.trans (pr.map _))
      have er : rngL 0 (max 1 (t.length : Int)) = ms.map V.int := by
        rw [em, show max 1 (t.length : Int) = ((max 1 t.length : Nat) : Int) by omega, rng_nat0, List.map_map]
        rfl
      have lm : (ms.map V.int).length = max 1 t.length := by rw [em]; simp
      have sm8 : SameN H6 (upd (upd H7 l (HO.lst (ms.map V.int))) r (HO.rng 0 (max 1 (t.length : Int)))) := (sm7.upd hl).upd hr
      have k8 : upd (upd H7 l (HO.lst (ms.map V.int))) r (HO.rng 0 (max 1 (t.length : Int))) l = some (HO.lst (ms.map V.int)) := upd_old hr
      have bk8 : Bk_p_order_of tb_p_order_of (upd (upd H7 l (HO.lst (ms.map V.int))) r (HO.rng 0 (max 1 (t.length : Int)))) := (bk7.put hl).put hr
      have r8 : upd (upd H7 l (HO.lst (ms.map V.int))) r (HO.rng 0 (max 1 (t.length : Int))) r = some (HO.rng 0 (max 1 (t.length : Int))) := upd_same
      generalize upd (upd H7 l (HO.lst (ms.map V.int))) r (HO.rng 0 (max 1 (t.length : Int))) = H8 at sm8 k8 bk8 r8 ⊢
      refine ⟨ms.map V.int, .inr (.inr ⟨0, _, r8, er.symm, by omega, by omega, by omega, by omega⟩), by omega, fun l2 hl2 => ?_⟩
      have m1 : upd H8 l2 (HO.lst (ms.map V.int)) l = some (HO.lst (ms.map V.int)) := (upd_ne (ne_of_none k8 hl2)).trans k8
      have m2 := (sm8.upd (o := HO.lst (ms.map V.int)) hl2).at h6 (by intro ps z; cases z)
      have m3 := (sm8.upd (o := HO.lst (ms.map V.int)) hl2).at h6' (by intro ps z; cases z)
      have bk9 : Bk_p_order_of tb_p_order_of (upd H8 l2 (HO.lst (ms.map V.int))) := bk8.put hl2
      have m4 : upd H8 l2 (HO.lst (ms.map V.int)) l2 = some (HO.lst (ms.map V.int)) := upd_same
      generalize upd H8 l2 (HO.lst (ms.map V.int)) = H9 at m1 m2 m3 m4 bk9 ⊢
      refine ⟨_, _, SqL.of m1, SqL.of m4, ints_flat _, ints_flat _, ?_⟩
      rw [eqVs_ints, decide_eq_true rfl]
      refine iteF ⟨_, _, SqL.of m2, SqL.of m3, by rw [LO.ordI]; exact ints_flat _, by rw [LO.ordI]; exact ints_flat _, ?_⟩
      rw [LO.ordI, eqVs_ints, decide_eq_true rfl, ← LO.ordI]
      exact iteF ⟨m2, m3, bk9⟩
    rintro _ H7 ⟨h7, h7', bk7, rfl⟩
    simp only [L2.start, List.map_cons, List.map_nil, List.length_cons, List.length_nil, List.replicate_succ, List.replicate_zero, List.cons_append, List.nil_append, Nat.reduceAdd, Nat.reduceSub, Int.reduceLT, Int.reduceLE, true_and, and_true, decide_eq_true_eq, if_true, if_false, String.reduceEq, Bool.not_true, Bool.not_false, Bool.false_eq_true, decide_true, decide_false, List.set_cons_zero, List.set_cons_succ, gS, rVar, tC, tSeq, tNext, tAsg, gName, tRet, tRetN, tDrop, tIfS, tOp, tUn, tCB, tCons, tNil, tTup, tLst, tFn, tB2, tAnd, tOr, tNot, trV, tSl, tNoPart, pT, vAnd, vOr, vNot, addV, mulV, int2, int2', ltV, eqR, neR, sc, isV, isntV, negV, ixV, slV, lenV, ordV, isiV, isS, maxV, joinV, tBM, tBM0, tyV, tFE, L_T, tRaise, eqL, listV, rCat, rRep, rAppend, rReverse, oneC, capS, tSortL, lamS, tDIn, sDPut, tDNewK, List.set_nil, rngV, tB, sortI, List.append_nil, sp_p_order_of]
    refine ⟨.inl ⟨_, SqL.of h7⟩, p1, _, rfl, h7, .inl ⟨_, SqL.of upd_same⟩, p1, _, _, rfl, rfl, upd_same, by rw [List.length_reverse, List.length_map, LO.ord_length]; omega, ht, ?_, fun p3 H8 sm8 se8 bk8 hp3 h8 => ?_⟩
    · rw [upd_upd]
      exact bk_lst bk7 h7
    rw [upd_upd] at sm8
    have m2 := sm8.at ((upd_ne (Ne.symm n12)).trans h7') (by intro ps z; cases z)
    refine ⟨_, _, SqL.of h8, SqL.of m2, by rw [LO.ordI]; exact ints_flat _, by rw [LO.ordI]; exact ints_flat _, ?_⟩
    rw [LO.ordI, eqVs_ints, decide_eq_true rfl]
    exact q _
end
theorem us0 {us : List Value} (h : us.length = 0) : us = [] := match us, h with | [], _ => rfl
theorem us1 {us : List Value} (h : us.length = 1) : ∃ x0, us = [x0] := match us, h with | [x0], _ => ⟨x0, rfl⟩
theorem us2 {us : List Value} (h : us.length = 2) : ∃ x0 x1, us = [x0, x1] := match us, h with | [x0, x1], _ => ⟨x0, x1, rfl⟩
theorem us3 {us : List Value} (h : us.length = 3) : ∃ x0 x1 x2, us = [x0, x1, x2] := match us, h with | [x0, x1, x2], _ => ⟨x0, x1, x2, rfl⟩
theorem all_mk {l : PySem.W.OpenLaw} {w : World} {K : PySem.W.Frag} {h : Heap} {mg : Str → Option Value} {fa f_p_order_of f_w_cell_at f_w_mixed f_w_signs f_w_text_by f_w_whole f_w_ahead f_w_rises f_law : Addr} (X : K.In h) (G : h.Ns mainGlobals mg) (hfa : mg "law" = some (.ref fa))
    {od_d0 an_d0 od_d1 an_d1 od_d2 an_d2 od_d3 an_d3 od_d4 an_d4 od_d5 an_d5 od_d6 an_d6 od_d7 an_d7 od_d8 an_d8 : Option Addr} {sl_d0 sl_d1 sl_d2 sl_d3 sl_d4 sl_d5 sl_d6 sl_d7 sl_d8 : Array (Option Value)} {oc_d0 kV_d0 dc_d0 pm_d0 ct_d0 oc_d1 kV_d1 dc_d1 pm_d1 ct_d1 cd_d1 oc_d2 kV_d2 dc_d2 pm_d2 ct_d2 cd_d2 oc_d3 kV_d3 dc_d3 pm_d3 ct_d3 cd_d3 oc_d4 kV_d4 dc_d4 pm_d4 ct_d4 cd_d4 oc_d5 kV_d5 dc_d5 pm_d5 ct_d5 cd_d5 oc_d6 kV_d6 dc_d6 pm_d6 ct_d6 cd_d6 oc_d7 kV_d7 dc_d7 pm_d7 ct_d7 cd_d7 oc_d8 kV_d8 dc_d8 pm_d8 ct_d8 cd_d8 : Value}
    {cA_d0 tb_p_order_of : Addr} {cv_d0 : List Value}
    (a_d0 : PySem.W.nsIn K mainGlobals "order_of" = some (some (.ref f_p_order_of))) (l_d0 : K.lookup f_p_order_of = some ⟨oc_d0, od_d0, .func (PySem.W.fnOf "order_of" "order_of" (defArgs s_p_order_of) (defBody s_p_order_of) (defScope s_p_order_of) .none kV_d0 dc_d0 pm_d0 an_d0 (.ref cA_d0) ct_d0), sl_d0⟩) (c_d0 : PySem.W.codeIn K (.ref cA_d0) "order_of" = true) (k_d0 : PySem.W.keepIn K (.ref f_p_order_of) = true)
    (t_p_order_of : PySem.W.recIn K cA_d0 "code" = some cv_d0) (u_d0 : cv_d0[11]? = some (.ref tb_p_order_of)) (h_d0 : PySem.W.codeHdIn K cA_d0 tb_p_order_of = true) (n_d0 : K.lookup tb_p_order_of = none)
    (a_d1 : PySem.W.nsIn K mainGlobals "_law_cell_at" = some (some (.ref f_w_cell_at))) (l_d1 : K.lookup f_w_cell_at = some ⟨oc_d1, od_d1, .func (PySem.W.fnOf "_law_cell_at" "_law_cell_at" (defArgs s_w_cell_at) (defBody s_w_cell_at) (defScope s_w_cell_at) .none kV_d1 dc_d1 pm_d1 an_d1 cd_d1 ct_d1), sl_d1⟩) (c_d1 : PySem.W.codeIn K cd_d1 "_law_cell_at" = true) (k_d1 : PySem.W.keepIn K (.ref f_w_cell_at) = true)
    (a_d2 : PySem.W.nsIn K mainGlobals "_law_mixed" = some (some (.ref f_w_mixed))) (l_d2 : K.lookup f_w_mixed = some ⟨oc_d2, od_d2, .func (PySem.W.fnOf "_law_mixed" "_law_mixed" (defArgs s_w_mixed) (defBody s_w_mixed) (defScope s_w_mixed) .none kV_d2 dc_d2 pm_d2 an_d2 cd_d2 ct_d2), sl_d2⟩) (c_d2 : PySem.W.codeIn K cd_d2 "_law_mixed" = true) (k_d2 : PySem.W.keepIn K (.ref f_w_mixed) = true)
    (a_d3 : PySem.W.nsIn K mainGlobals "_law_signs" = some (some (.ref f_w_signs))) (l_d3 : K.lookup f_w_signs = some ⟨oc_d3, od_d3, .func (PySem.W.fnOf "_law_signs" "_law_signs" (defArgs s_w_signs) (defBody s_w_signs) (defScope s_w_signs) .none kV_d3 dc_d3 pm_d3 an_d3 cd_d3 ct_d3), sl_d3⟩) (c_d3 : PySem.W.codeIn K cd_d3 "_law_signs" = true) (k_d3 : PySem.W.keepIn K (.ref f_w_signs) = true)
    (a_d4 : PySem.W.nsIn K mainGlobals "_law_text_by" = some (some (.ref f_w_text_by))) (l_d4 : K.lookup f_w_text_by = some ⟨oc_d4, od_d4, .func (PySem.W.fnOf "_law_text_by" "_law_text_by" (defArgs s_w_text_by) (defBody s_w_text_by) (defScope s_w_text_by) .none kV_d4 dc_d4 pm_d4 an_d4 cd_d4 ct_d4), sl_d4⟩) (c_d4 : PySem.W.codeIn K cd_d4 "_law_text_by" = true) (k_d4 : PySem.W.keepIn K (.ref f_w_text_by) = true)
    (a_d5 : PySem.W.nsIn K mainGlobals "_law_whole" = some (some (.ref f_w_whole))) (l_d5 : K.lookup f_w_whole = some ⟨oc_d5, od_d5, .func (PySem.W.fnOf "_law_whole" "_law_whole" (defArgs s_w_whole) (defBody s_w_whole) (defScope s_w_whole) .none kV_d5 dc_d5 pm_d5 an_d5 cd_d5 ct_d5), sl_d5⟩) (c_d5 : PySem.W.codeIn K cd_d5 "_law_whole" = true) (k_d5 : PySem.W.keepIn K (.ref f_w_whole) = true)
    (a_d6 : PySem.W.nsIn K mainGlobals "_law_ahead" = some (some (.ref f_w_ahead))) (l_d6 : K.lookup f_w_ahead = some ⟨oc_d6, od_d6, .func (PySem.W.fnOf "_law_ahead" "_law_ahead" (defArgs s_w_ahead) (defBody s_w_ahead) (defScope s_w_ahead) .none kV_d6 dc_d6 pm_d6 an_d6 cd_d6 ct_d6), sl_d6⟩) (c_d6 : PySem.W.codeIn K cd_d6 "_law_ahead" = true) (k_d6 : PySem.W.keepIn K (.ref f_w_ahead) = true)
    (a_d7 : PySem.W.nsIn K mainGlobals "_law_rises" = some (some (.ref f_w_rises))) (l_d7 : K.lookup f_w_rises = some ⟨oc_d7, od_d7, .func (PySem.W.fnOf "_law_rises" "_law_rises" (defArgs s_w_rises) (defBody s_w_rises) (defScope s_w_rises) .none kV_d7 dc_d7 pm_d7 an_d7 cd_d7 ct_d7), sl_d7⟩) (c_d7 : PySem.W.codeIn K cd_d7 "_law_rises" = true) (k_d7 : PySem.W.keepIn K (.ref f_w_rises) = true)
    (a_d8 : PySem.W.nsIn K mainGlobals "law" = some (some (.ref f_law))) (l_d8 : K.lookup f_law = some ⟨oc_d8, od_d8, .func (PySem.W.fnOf "law" "law" (defArgs s_law) (defBody s_law) (defScope s_law) .none kV_d8 dc_d8 pm_d8 an_d8 cd_d8 ct_d8), sl_d8⟩) (c_d8 : PySem.W.codeIn K cd_d8 "law" = true) (k_d8 : PySem.W.keepIn K (.ref f_law) = true)
    (z_bool : PySem.W.nsIn K mainGlobals "bool" = some none)
    (z_int : PySem.W.nsIn K mainGlobals "int" = some none)
    (z_isinstance : PySem.W.nsIn K mainGlobals "isinstance" = some none)
    (z_len : PySem.W.nsIn K mainGlobals "len" = some none)
    (z_list : PySem.W.nsIn K mainGlobals "list" = some none)
    (z_max : PySem.W.nsIn K mainGlobals "max" = some none)
    (z_ord : PySem.W.nsIn K mainGlobals "ord" = some none)
    (z_range : PySem.W.nsIn K mainGlobals "range" = some none)
    (z_sorted : PySem.W.nsIn K mainGlobals "sorted" = some none)
    {ts : List Addr} (hts : ∀ p ∈ ts, p = tb_p_order_of)
    : (∀ p ∈ ts, K.lookup p = none ∧ ∃ c, PySem.W.codeHdIn K c p = true) ∧ ∃ fd : FuncData, (∀ (s : Shared) (v : Value), BindsTo s fd ⟨[v], []⟩ [("_law_script", v)]) ∧ ∀ base : Heap, K.In base → base.Ns mainGlobals mg → BmAt mg base → FnOk l.prog w K mg base CX0 4 fa fd P_law (sp_law K tb_p_order_of) := by
  have e := hfa.symm.trans (PySem.W.mg_of X G a_d8)
  cases e
  have B : Bn mg := ⟨PySem.W.mg_none_of X G z_bool, PySem.W.mg_none_of X G z_int, PySem.W.mg_none_of X G z_isinstance, PySem.W.mg_none_of X G z_len, PySem.W.mg_none_of X G z_list, PySem.W.mg_none_of X G z_max, PySem.W.mg_none_of X G z_ord, PySem.W.mg_none_of X G z_range, PySem.W.mg_none_of X G z_sorted⟩
  have F_d0 := fun_mk (st := s_p_order_of) l_d0 c_d0 k_d0
  have F_d1 := fun_mk (st := s_w_cell_at) l_d1 c_d1 k_d1
  have F_d2 := fun_mk (st := s_w_mixed) l_d2 c_d2 k_d2
  have F_d3 := fun_mk (st := s_w_signs) l_d3 c_d3 k_d3
  have F_d4 := fun_mk (st := s_w_text_by) l_d4 c_d4 k_d4
  have F_d5 := fun_mk (st := s_w_whole) l_d5 c_d5 k_d5
  have F_d6 := fun_mk (st := s_w_ahead) l_d6 c_d6 k_d6
  have F_d7 := fun_mk (st := s_w_rises) l_d7 c_d7 k_d7
  have F_d8 := fun_mk (st := s_law) l_d8 c_d8 k_d8
  refine ⟨fun p hp => ?_, ?_⟩
  · rcases hts p hp with rfl
    · exact ⟨n_d0, _, h_d0⟩
  refine ⟨PySem.W.fnOf "law" "law" (defArgs s_law) (defBody s_law) (defScope s_law) .none kV_d8 dc_d8 pm_d8 an_d8 cd_d8 ct_d8, fun s v => .of_eq rfl, fun base kb nb bm => ?_⟩
  have LM_p_order_of : Lm mg base cA_d0 tb_p_order_of := ⟨PySem.W.codeHd_of_K kb h_d0, bm⟩
  have b_d0 := F_d0.binds (ps := P_p_order_of) fun _ _ _ _ _ _ us hl => by obtain ⟨_, rfl⟩ := us1 hl; exact rfl
  have G_p_order_of : Fn l.prog w K mg base 3 "order_of" P_p_order_of (sp_p_order_of K tb_p_order_of) := ⟨⟨f_p_order_of, _, ok_p_order_of F_d0 B LM_p_order_of rfl , PySem.W.mg_of X G a_d0, k_d0, b_d0⟩⟩
  have b_d1 := F_d1.binds (ps := P_w_cell_at) fun _ _ _ _ _ _ us hl => by obtain ⟨_, _, rfl⟩ := us2 hl; exact rfl
  have G_w_cell_at : Fn l.prog w K mg base 1 "_law_cell_at" P_w_cell_at (sp_w_cell_at K) := ⟨⟨f_w_cell_at, _, ok_w_cell_at F_d1 B , PySem.W.mg_of X G a_d1, k_d1, b_d1⟩⟩
  have b_d2 := F_d2.binds (ps := P_w_mixed) fun _ _ _ _ _ _ us hl => by obtain ⟨_, _, _, rfl⟩ := us3 hl; exact rfl
  have G_w_mixed : Fn l.prog w K mg base 1 "_law_mixed" P_w_mixed (sp_w_mixed K) := ⟨⟨f_w_mixed, _, ok_w_mixed F_d2 B , PySem.W.mg_of X G a_d2, k_d2, b_d2⟩⟩
  have b_d3 := F_d3.binds (ps := P_w_signs) fun _ _ _ _ _ _ us hl => by obtain rfl := us0 hl; exact rfl
  have G_w_signs : Fn l.prog w K mg base 1 "_law_signs" P_w_signs (sp_w_signs K) := ⟨⟨f_w_signs, _, ok_w_signs F_d3 B , PySem.W.mg_of X G a_d3, k_d3, b_d3⟩⟩
  have b_d4 := F_d4.binds (ps := P_w_text_by) fun _ _ _ _ _ _ us hl => by obtain ⟨_, _, _, rfl⟩ := us3 hl; exact rfl
  have G_w_text_by : Fn l.prog w K mg base 2 "_law_text_by" P_w_text_by (sp_w_text_by K) := ⟨⟨f_w_text_by, _, ok_w_text_by F_d4 B G_w_mixed G_w_signs, PySem.W.mg_of X G a_d4, k_d4, b_d4⟩⟩
  have b_d5 := F_d5.binds (ps := P_w_whole) fun _ _ _ _ _ _ us hl => by obtain ⟨_, rfl⟩ := us1 hl; exact rfl
  have G_w_whole : Fn l.prog w K mg base 1 "_law_whole" P_w_whole (sp_w_whole K) := ⟨⟨f_w_whole, _, ok_w_whole F_d5 B , PySem.W.mg_of X G a_d5, k_d5, b_d5⟩⟩
  have b_d6 := F_d6.binds (ps := P_w_ahead) fun _ _ _ _ _ _ us hl => by obtain ⟨_, _, _, rfl⟩ := us3 hl; exact rfl
  have G_w_ahead : Fn l.prog w K mg base 1 "_law_ahead" P_w_ahead (sp_w_ahead K) := ⟨⟨f_w_ahead, _, ok_w_ahead F_d6 B , PySem.W.mg_of X G a_d6, k_d6, b_d6⟩⟩
  have b_d7 := F_d7.binds (ps := P_w_rises) fun _ _ _ _ _ _ us hl => by obtain ⟨_, _, rfl⟩ := us2 hl; exact rfl
  have G_w_rises : Fn l.prog w K mg base 2 "_law_rises" P_w_rises (sp_w_rises K) := ⟨⟨f_w_rises, _, ok_w_rises F_d7 B G_w_whole G_w_ahead, PySem.W.mg_of X G a_d7, k_d7, b_d7⟩⟩
  exact ok_law F_d8 B G_p_order_of G_w_cell_at G_w_mixed G_w_text_by G_w_rises
theorem walk {l : PySem.W.OpenLaw} {q : Program} {loose : List Str} {XP : (Str → Option Value) → Heap → Prop} {YP : World → Heap → Prop} {d : DefRec} {K : Params → PySem.W.Frag} {ts : List Addr} (tb_p_order_of : Addr) (hn : l.most = some 63) (hdf : d.params.defaults = [])
    (hY : ∀ (w : World) (h : Heap), YP w h → (K w.params).In h ∧ ∀ p ∈ ts, h.get? p = some (PySem.W.tabObj #[]))
    (F : ∀ (w : World) (mg : Str → Option Value) (fa : Addr) (h : Heap), (K w.params).In h → h.Ns mainGlobals mg → mg d.name = some (.ref fa) →
      (∀ p ∈ ts, (K w.params).lookup p = none ∧ ∃ c, PySem.W.codeHdIn (K w.params) c p = true) ∧ ∃ fd : FuncData, (∀ (s : Shared) (u : Value), BindsTo s fd ⟨[u], []⟩ [("_law_script", u)]) ∧ ∀ base : Heap, (K w.params).In base → base.Ns mainGlobals mg → BmAt mg base → FnOk l.prog w (K w.params) mg base CX0 4 fa fd P_law (sp_law (K w.params) tb_p_order_of))
    (m_p_order_of : tb_p_order_of ∈ ts) :
    PySem.W.WalkO q loose XP YP l.row.toRowW d [] (fun f vs => PySem.call f vs) :=
  L2.walk_ofT (n := 63) (k := 4) (x := "_law_script") (ts := ts) (CX := fun _ => CX0) (sp := fun w => sp_law (K w.params) tb_p_order_of) hn (by decide) hdf ⟨rfl, by decide, by decide⟩ hY F (fun _ H a ns hl hS hT => ⟨a, ns, rfl, hS, hl, .inl (hT _ m_p_order_of), fun _ => rfl⟩) fun _ _ _ _ _ z => z
end My
open PySem PySem.W PyProof.Rows
set_option maxRecDepth 100000 in
set_option maxHeartbeats 0 in
theorem PySem.Challenge.cw_backindex_k03_order_rises_holds : PySem.Challenge.rw_backindex_k03_order_rises.Holds := by
  w_on; o_law; k_head; (case hw => w_witness2)
  k_fill
  refine' My.walk (l := PySem.Challenge.rw_backindex_k03_order_rises) ?tb_p_order_of rfl rfl (fun w h Y => ⟨PySem.W.km_in_of Y, PySem.W.km_tabs_of Y⟩) ?F ?m_p_order_of
  case F =>
    intro w mg fa h KX G hmg
    refine' My.all_mk KX G hmg ?a_d0 ?l_d0 ?c_d0 ?k_d0 ?t_p_order_of ?u_d0 ?h_d0 ?n_d0 ?a_d1 ?l_d1 ?c_d1 ?k_d1 ?a_d2 ?l_d2 ?c_d2 ?k_d2 ?a_d3 ?l_d3 ?c_d3 ?k_d3 ?a_d4 ?l_d4 ?c_d4 ?k_d4 ?a_d5 ?l_d5 ?c_d5 ?k_d5 ?a_d6 ?l_d6 ?c_d6 ?k_d6 ?a_d7 ?l_d7 ?c_d7 ?k_d7 ?a_d8 ?l_d8 ?c_d8 ?k_d8 ?z_bool ?z_int ?z_isinstance ?z_len ?z_list ?z_max ?z_ord ?z_range ?z_sorted ?hts
    (case a_d0 => k_is)
    (case l_d0 => k_is)
    (case c_d0 => k_is)
    (case k_d0 => k_is)
    (case t_p_order_of => k_is)
    (case u_d0 => rfl)
    (case h_d0 => kernel_rfl)
    (case n_d0 => rfl)
    (case a_d1 => k_is)
    (case l_d1 => k_is)
    (case c_d1 => k_is)
    (case k_d1 => k_is)
    (case a_d2 => k_is)
    (case l_d2 => k_is)
    (case c_d2 => k_is)
    (case k_d2 => k_is)
    (case a_d3 => k_is)
    (case l_d3 => k_is)
    (case c_d3 => k_is)
    (case k_d3 => k_is)
    (case a_d4 => k_is)
    (case l_d4 => k_is)
    (case c_d4 => k_is)
    (case k_d4 => k_is)
    (case a_d5 => k_is)
    (case l_d5 => k_is)
    (case c_d5 => k_is)
    (case k_d5 => k_is)
    (case a_d6 => k_is)
    (case l_d6 => k_is)
    (case c_d6 => k_is)
    (case k_d6 => k_is)
    (case a_d7 => k_is)
    (case l_d7 => k_is)
    (case c_d7 => k_is)
    (case k_d7 => k_is)
    (case a_d8 => k_is)
    (case l_d8 => k_is)
    (case c_d8 => k_is)
    (case k_d8 => k_is)
    (case z_bool => k_is)
    (case z_int => k_is)
    (case z_isinstance => k_is)
    (case z_len => k_is)
    (case z_list => k_is)
    (case z_max => k_is)
    (case z_ord => k_is)
    (case z_range => k_is)
    (case z_sorted => k_is)
    (case hts => decide)
  (case m_p_order_of => decide)