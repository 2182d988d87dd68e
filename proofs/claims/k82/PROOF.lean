import PyProof.Rows.All
import Wide.All
import OpenK.AllK
import Wide.FinOn
import Lean
import PyProof.EqAt
import PyProof.EqKinds
import PyProof.TupleCall
import PySem.Challenge.RW_backindex_k82_texts_unpacked
import KE.KRevIter
import KE.KSortAsk
import KE.KSortTup
import PyProof.Rows.SortKeyStr
import KE.KLam
import KE.KSortKey
import OpenK.KOwn
import KE.RegKIsAll
import PyProof.EnumMake
import PyProof.EnumFor
import PyProof.EnumStmt
import KE.KNestM
import PyProof.Rows.CallKwBuiltin
import PyProof.StrWalks
import KE.KDictOf
import PyProof.CompUse
import PyProof.NeKinds
import PyProof.ZipIter
import PyProof.Rows.SumAny
import PyProof.Rows.SetFrom
import PyProof.ListRange
import PyProof.StrLawsIn
import PyProof.CollectIter
import PyProof.JoinWalk
import PyProof.Conv_int_bool
import KE.IntBitsLaws
import PyProof.FactsAll.str
import PyProof.ListStr
import PyProof.Draws
import PyProof.CallStr
import PyProof.StrLawsFrom
import PyProof.Rows.StrNews2
import PyProof.StrCalls
import KE.KIntText
import PyProof.Rows.RegStrFacts
set_option Elab.async false
set_option linter.all false
set_option maxRecDepth 100000
namespace L2
open PySem PySem.Spec PyProof.Rows
abbrev Key := Sum Int Str
def keyIs : Key → Value → Bool
  | .inl k, v => Value.isInt k v
  | .inr x, v => Value.isStrOf x v
def keyH (w : World) : Key → Int
  | .inl k => hashInt k
  | .inr x => hashStr w x
theorem keyIs_shape : ∀ {k : Key} {v : Value}, keyIs k v = true → (∃ i t, k = Sum.inl i ∧ v = Value.int i t) ∨ (∃ x t, k = Sum.inr x ∧ v = Value.str x t)
  | .inl i, v, h => by
    obtain ⟨t, e⟩ := Value.isInt_shape (k := i) (v := v) h
    exact .inl ⟨i, t, rfl, e⟩
  | .inr x, v, h => by
    obtain ⟨t, e⟩ := Value.isStrOf_shape (x := x) (v := v) h
    exact .inr ⟨x, t, rfl, e⟩
theorem key_ll (a b : Int) : decide ((Sum.inl a : Key) = Sum.inl b) = (a == b) := by
  by_cases e : a = b
  · subst e; simp
  · have h : ¬ (Sum.inl a : Key) = Sum.inl b := fun q => e (Sum.inl.inj q)
    rw [decide_eq_false h]
    exact (beq_eq_false_iff_ne.mpr e).symm
theorem key_rr (a b : Str) : decide ((Sum.inr a : Key) = Sum.inr b) = decide (a = b) := by
  by_cases e : a = b
  · subst e; simp
  · have h : ¬ (Sum.inr a : Key) = Sum.inr b := fun q => e (Sum.inr.inj q)
    rw [decide_eq_false h, decide_eq_false e]
theorem key_lr (a : Int) (b : Str) : decide ((Sum.inl a : Key) = Sum.inr b) = false := decide_eq_false (fun q => nomatch q)
theorem key_rl (a : Str) (b : Int) : decide ((Sum.inr a : Key) = Sum.inl b) = false := decide_eq_false (fun q => nomatch q)
def mixKind (prog : Program) (w : World) : PySem.KeyKind prog w Key where
  is := keyIs
  hash := keyH w
  inj := fun v a b ha hb => by
    rcases keyIs_shape ha with ⟨i, t, rfl, rfl⟩ | ⟨x, t, rfl, rfl⟩
    · rcases keyIs_shape hb with ⟨j, u, rfl, e⟩ | ⟨y, u, rfl, e⟩
      · injection e with e1 _; rw [e1]
      · exact nomatch e
    · rcases keyIs_shape hb with ⟨j, u, rfl, e⟩ | ⟨y, u, rfl, e⟩
      · exact nomatch e
      · injection e with e1 _; rw [e1]
  byValue := fun k v h => by
    rcases keyIs_shape h with ⟨i, t, rfl, rfl⟩ | ⟨x, t, rfl, rfl⟩ <;> rfl
  pyHash := fun hv h => by
    rcases keyIs_shape hv with ⟨i, t, rfl, rfl⟩ | ⟨x, t, rfl, rfl⟩
    · exact wpAny_pyHash_int h
    · exact wpAny_pyHash_str h
  eqBool := fun hu hv h => by
    rcases keyIs_shape hu with ⟨i, t, rfl, rfl⟩ | ⟨x, t, rfl, rfl⟩
    · rcases keyIs_shape hv with ⟨j, u, rfl, rfl⟩ | ⟨y, u, rfl, rfl⟩
      · rw [key_ll] at h; exact wpAny_eqBool_int h
      · rw [key_lr] at h; exact SeqAt.EqAt.int_str i t y u _ _ _ _ h
    · rcases keyIs_shape hv with ⟨j, u, rfl, rfl⟩ | ⟨y, u, rfl, rfl⟩
      · rw [key_rl] at h; exact SeqAt.EqAt.str_int x t j u _ _ _ _ h
      · rw [key_rr] at h; exact wpAny_eqBool_str h
  «strs» := fun k x t v h => by
    rcases keyIs_shape h with ⟨i, u, rfl, e⟩ | ⟨y, u, rfl, e⟩
    · exact nomatch e
    · injection e with e1 _
      subst e1
      cases v <;> rfl
end L2
namespace L2
open PySem PySem.Spec PyProof.Rows
inductive V where
  | non | bl (b : Bool) | int (i : Int) | str (x : Str) | byt (b : Array UInt8) | flt (b : UInt64) | ref (a : Addr) | ty (n : String)
  deriving DecidableEq
def RelV : V → Value → Prop
  | .non, u => u = Value.none
  | .bl b, u => u = Value.bool b
  | .int i, u => ∃ t, u = Value.int i t
  | .str x, u => ∃ t, u = Value.str x t
  | .byt b, u => ∃ t, u = Value.bytes b t
  | .flt b, u => ∃ t, u = Value.float b t
  | .ref a, u => u = Value.ref a
  | .ty n, u => u = Value.type n
abbrev Vals : List V → List Value → Prop := Paired RelV
theorem Vals.length {xs : List V} {us : List Value} (r : Vals xs us) : xs.length = us.length := Paired.length r
theorem Vals.get : ∀ {xs : List V} {us : List Value} {i : Nat} {x : V}, Vals xs us → xs[i]? = some x → ∃ u, us[i]? = some u ∧ RelV x u
  | _, _, _, _, .nil, e => by simp at e
  | _, _, 0, _, .cons r _, e => by simp at e; subst e; exact ⟨_, rfl, r⟩
  | _, _, i + 1, x, .cons _ t, e => by
    obtain ⟨u, h1, h2⟩ := Vals.get (i := i) (x := x) t (by simpa using e)
    exact ⟨u, by simpa using h1, h2⟩
theorem Vals.set {x : V} {u : Value} (r : RelV x u) : ∀ {xs : List V} {us : List Value} (i : Nat), Vals xs us → Vals (xs.set i x) (us.set i u)
  | _, _, _, .nil => .nil
  | _, _, 0, .cons _ t => .cons r t
  | _, _, i + 1, .cons q t => .cons q (Vals.set r i t)
theorem Vals.append : ∀ {xs ys : List V} {us ws : List Value}, Vals xs us → Vals ys ws → Vals (xs ++ ys) (us ++ ws)
  | _, _, _, _, .nil, s => s
  | _, _, _, _, .cons r t, s => .cons r (Vals.append t s)
theorem Vals.take : ∀ {xs : List V} {us : List Value} (n : Nat), Vals xs us → Vals (xs.take n) (us.take n)
  | _, _, 0, _ => .nil
  | _, _, _ + 1, .nil => .nil
  | _, _, n + 1, .cons r t => .cons r (Vals.take n t)
theorem Vals.drop : ∀ {xs : List V} {us : List Value} (n : Nat), Vals xs us → Vals (xs.drop n) (us.drop n)
  | _, _, 0, r => r
  | _, _, _ + 1, .nil => .nil
  | _, _, n + 1, .cons _ t => Vals.drop n t
def RelO : Option V → Option Value → Prop
  | some v, some u => RelV v u
  | none, none => True
  | _, _ => False
def KV {κ : Type} : List (κ × V) → List (κ × Value) → Prop := Paired fun (p : κ × V) (q : κ × Value) => p.1 = q.1 ∧ RelV p.2 q.2
def kV : Key → V
  | .inl i => .int i
  | .inr x => .str x
inductive HO where
  | lst (xs : List V)
  | tup (xs : List V)
  | dK (kvs : List (Key × V)) | dT (kvs : List (List Key × V))
  | set (S : Int → Bool) (n : Nat)
  | ins (C dx : Addr) (fs : List (Str × V))
  | own (x : Addr)
  | xd (fs : List (Str × V))
  | met (f x : Addr)
  | rng (lo hi : Int)
  | frz (o : Obj) (u : HO)
  | tbl (ps : Array Value)
  | ext (φ : Heap → Prop)
abbrev Hp := Addr → Option HO
def upd (H : Hp) (a : Addr) (o : HO) : Hp := fun b => if b = a then some o else H b
theorem upd_same {H : Hp} {a : Addr} {o : HO} : upd H a o a = some o := by unfold upd; rw [if_pos rfl]
theorem upd_ne {H : Hp} {a b : Addr} {o : HO} (h : b ≠ a) : upd H a o b = H b := by unfold upd; rw [if_neg h]
theorem upd_upd {H : Hp} {a : Addr} {o u : HO} : upd (upd H a o) a u = upd H a u := by
  funext b; unfold upd; split <;> rfl
theorem ne_of {H : Hp} {a b : Addr} {o u : HO} (h : H a = some o) (h' : H b = some u) (d : o ≠ u) : a ≠ b := by
  intro e; subst e; rw [h] at h'; exact d (Option.some.inj h')
theorem ne_of_none {H : Hp} {a b : Addr} {o : HO} (h : H a = some o) (h' : H b = none) : a ≠ b := by
  intro e; subst e; rw [h] at h'; cases h'
section
variable (P : Program) (w : World)
def ObjOk (H : Hp) (h : Heap) (a : Addr) : HO → Prop
  | .lst xs => xs.length ≤ sizeLine ∧ ∃ (its : List Value) (n : Nat), Vals xs its ∧ h.get? a = some { cls := .type "list", data := .seq its.toArray n }
  | .tup xs => xs.length ≤ sizeLine ∧ ∃ its : List Value, Vals xs its ∧ IsTup h a its.toArray
  | .dK kvs => kvs.length ≤ sizeLine ∧ (a == sysModules) = false ∧ ∃ vs, KV kvs vs ∧ h.DictOf (mixKind P w) a vs
  | .dT _ => False
  | .set S n => h.SetOf (intKind P w) a S n
  | .ins C dx fs => H dx = some (.own a) ∧ fs.length ≤ 1000 ∧ dx ≠ a ∧ h.get? a = some (PySem.W.instObj C dx) ∧
      ∃ mA, h.Ns1 dx mA ∧ (∀ f, RelO (fs.lookup f) (mA f)) ∧ PySem.Within mA (fs.map (·.1))
  | .own _ => ∃ o, h.get? a = some o
  | .xd fs => ∃ mA, h.Ns1 a mA ∧ ∀ f, RelO (fs.lookup f) (mA f)
  | .rng lo hi => ∃ t u v, h.get? a = some { cls := .type "range", data := .fields #[.int lo t, .int hi u, .int 1 v] }
  | .frz o u => h.get? a = some o ∧ ObjOk H h a u
  | .tbl ps => h.get? a = some { cls := .none, data := .fields ps }
  | .met f x => h.get? a = some (PySem.W.methodObj (.ref f) (.ref x))
  | .ext φ => φ h ∧ (∃ o, h.get? a = some o) ∧ ∀ h1 h2 : Heap, φ h1 → (∀ o, h1.get? a = some o → h2.get? a = some o) → φ h2
def HOk (H : Hp) (h : Heap) : Prop := ∀ a o, H a = some o → ObjOk P w H h a o
end
section
variable {P : Program} {w : World} {H H' : Hp} {h h' : Heap} {a : Addr} {o : HO}
theorem ObjOk.lt (x : ObjOk P w H h a o) : a < h.objs.size := by
  cases o with
  | lst xs => obtain ⟨_, _, _, _, e⟩ := x; exact Heap.lt_size e
  | tup xs => obtain ⟨_, _, _, p⟩ := x; exact p.lt
  | dK kvs => obtain ⟨_, _, _, _, o, _, _, e, _⟩ := x; exact Heap.lt_size e
  | dT kvs => exact False.elim x
  | set S n => obtain ⟨o, _, _, _, e, _⟩ := x; exact Heap.lt_size e
  | ins C dx fs => obtain ⟨_, _, _, e, _⟩ := x; exact Heap.lt_size e
  | own y => obtain ⟨_, e⟩ := x; exact Heap.lt_size e
  | xd fs => obtain ⟨_, ⟨_, _, _, e, _⟩, _⟩ := x; exact Heap.lt_size e
  | rng lo hi => obtain ⟨_, _, _, e⟩ := x; exact Heap.lt_size e
  | frz ob u => obtain ⟨e, _⟩ := x; exact Heap.lt_size e
  | tbl ps => exact Heap.lt_size (show h.get? a = some _ from x)
  | met f y => exact Heap.lt_size (show h.get? a = some _ from x)
  | ext φ => obtain ⟨_, ⟨_, e⟩, _⟩ := x; exact Heap.lt_size e
theorem Paired.mapP {α β : Type} {F G : α → β → Prop} : ∀ {l₁ : List α} {l₂ : List β}, Paired F l₁ l₂ → (∀ a b, F a b → G a b) → Paired G l₁ l₂
  | _, _, .nil, _ => .nil
  | _, _, .cons r t, f => .cons (f _ _ r) (Paired.mapP t f)
theorem ObjOk.stay (x : ObjOk P w H h a o) (k : ∀ b u, (b = a ∨ H b = some (.own a)) → h.get? b = some u → h'.get? b = some u)
    (ho : ∀ b, H b = some (.own a) → H' b = some (.own a)) (ht : ∀ b xs, H b = some (.tup xs) → H' b = some (.tup xs)) : ObjOk P w H' h' a o := by
  induction o with
  | lst xs => obtain ⟨z, its, n, r, e⟩ := x; exact ⟨z, its, n, r, k _ _ (.inl rfl) e⟩
  | tup xs => obtain ⟨z, its, r, ob, e, c⟩ := x; exact ⟨z, its, r, ob, k _ _ (.inl rfl) e, c⟩
  | dK kvs => obtain ⟨z, y, vs, r, ob, es, ep, e, c⟩ := x; exact ⟨z, y, vs, r, ob, es, ep, k _ _ (.inl rfl) e, c⟩
  | dT kvs => exact False.elim x
  | set S n => obtain ⟨ob, es, ep, t, e, c⟩ := x; exact ⟨ob, es, ep, t, k _ _ (.inl rfl) e, c⟩
  | ins C dx fs =>
    obtain ⟨d, z, ne, e, mA, ⟨od, es, ep, e2, c⟩, r⟩ := x
    exact ⟨ho _ d, z, ne, k _ _ (.inl rfl) e, mA, ⟨od, es, ep, k _ _ (.inr d) e2, c⟩, r⟩
  | own y => obtain ⟨ob, e⟩ := x; exact ⟨ob, k _ _ (.inl rfl) e⟩
  | xd fs => obtain ⟨mA, ⟨od, es, ep, e, c⟩, r⟩ := x; exact ⟨mA, ⟨od, es, ep, k _ _ (.inl rfl) e, c⟩, r⟩
  | rng lo hi => obtain ⟨t, u, v, e⟩ := x; exact ⟨t, u, v, k _ _ (.inl rfl) e⟩
  | frz ob u ih => obtain ⟨e, q⟩ := x; exact ⟨k _ _ (.inl rfl) e, ih q⟩
  | tbl ps =>
    have e : h.get? a = some { cls := .none, data := .fields ps } := x
    show h'.get? a = some { cls := .none, data := .fields ps }
    exact k a _ (.inl rfl) e
  | met f y =>
    have e : h.get? a = some (PySem.W.methodObj (.ref f) (.ref y)) := x
    show h'.get? a = some (PySem.W.methodObj (.ref f) (.ref y))
    exact k a _ (.inl rfl) e
  | ext φ => obtain ⟨p, ⟨o, e⟩, st⟩ := x; exact ⟨st _ _ p fun o q => k _ _ (.inl rfl) q, ⟨o, k _ _ (.inl rfl) e⟩, st⟩
theorem HOk.lt (x : HOk P w H h) (e : H a = some o) : a < h.objs.size := (x a o e).lt
theorem HOk.fresh (x : HOk P w H h) (e : h.objs.size ≤ a) : H a = none := by
  cases q : H a with
  | none => rfl
  | some u => exact absurd (Nat.lt_of_lt_of_le (x.lt q) e) (Nat.lt_irrefl _)
theorem HOk.kept (x : HOk P w H h) (k : ∀ b u, h.get? b = some u → h'.get? b = some u) : HOk P w H h' := fun a o e =>
  (x a o e).stay (fun b u _ q => k b u q) (fun _ q => q) fun _ _ q => q
theorem HOk.laid (x : HOk P w H h) (k : ∀ b u, h.get? b = some u → h'.get? b = some u) (hp : h.objs.size ≤ a) (new : ObjOk P w (upd H a o) h' a o) : HOk P w (upd H a o) h' := fun b u e => by
  have hn := x.fresh hp
  by_cases hb : b = a
  · subst hb; rw [upd_same] at e; cases e; exact new
  · rw [upd_ne hb] at e
    exact (x b u e).stay (fun c v _ q => k c v q) (fun c q => by rw [upd_ne (ne_of_none q hn)]; exact q) fun c xs q => by rw [upd_ne (ne_of_none q hn)]; exact q
end
def Rd (H : Hp) (a : Addr) (u : HO) : Prop := H a = some u ∨ ∃ o, H a = some (.frz o u)
theorem Rd.of {H : Hp} {a : Addr} {u : HO} (h : H a = some u) : Rd H a u := .inl h
theorem Rd.ok {P : Program} {w : World} {H : Hp} {h : Heap} {a : Addr} {u : HO} (r : Rd H a u) (x : HOk P w H h) : ObjOk P w H h a u := by
  rcases r with r | ⟨o, r⟩
  · exact x a u r
  · obtain ⟨_, q⟩ := x a _ r
    exact q
def Mut : Option HO → Prop
  | some (.lst _) => True
  | some (.dK _) => True
  | some (.dT _) => True
  | some (.set _ _) => True
  | some (.ins _ _ _) => True
  | some (.ext _) => True
  | _ => False
section
variable {P : Program} {w : World} {H : Hp} {h h' : Heap} {x e : Addr} {o' : HO}
theorem HOk.write (ok : HOk P w H h) (mu : Mut (H x)) (he : e = x ∨ H e = some (.own x)) (k : ∀ b u, b ≠ e → h.get? b = some u → h'.get? b = some u) (heo : ∃ u, h'.get? e = some u)
    (new : ObjOk P w (upd H x o') h' x o') : HOk P w (upd H x o') h' := fun b u q => by
  have nown : ∀ c y, H c = some (.own y) → c ≠ x := fun c y r z => by subst z; rw [r] at mu; exact mu
  have ntup : ∀ c xs, H c = some (.tup xs) → c ≠ x := fun c xs r z => by subst z; rw [r] at mu; exact mu
  by_cases hb : b = x
  · subst hb; rw [upd_same] at q; cases q; exact new
  · rw [upd_ne hb] at q
    by_cases hbe : b = e
    · have q' : H b = some (.own x) := by
        rcases he with z | z
        · exact absurd (hbe.trans z) hb
        · rw [hbe]; exact z
      rw [q] at q'; cases q'
      obtain ⟨v, hv⟩ := heo
      exact ⟨v, by rw [hbe]; exact hv⟩
    · refine (ok b u q).stay (fun c v hc r => k c v ?_ r) (fun c r => by rw [upd_ne (nown c b r)]; exact r) fun c xs r => by rw [upd_ne (ntup c xs r)]; exact r
      rcases hc with rfl | hc
      · exact hbe
      · rintro rfl
        rcases he with z | z
        · exact nown c b hc z
        · rw [hc] at z; cases z; exact hb rfl
end
structure Un (fs ex : List Addr) (H H' : Hp) (h h' : Heap) : Prop where
  keep : ∀ b o, h.get? b = some o → H b = none → b ∉ fs → b ∉ ex → h'.get? b = some o
  slot : ∀ b o, h.get? b = some o → H b = none → b ∈ fs → b ∉ ex → ∃ sl, h'.get? b = some { o with slots := sl }
  free : ∀ b o, h.get? b = some o → H b = none → b ∉ ex → H' b = none
  there : ∀ b o, h.get? b = some o → b ∉ ex → ∃ o', h'.get? b = some o'
  tups : ∀ b xs, H b = some (.tup xs) → H' b = some (.tup xs)
  frzs : ∀ b o u, H b = some (.frz o u) → H' b = some (.frz o u)
  tbls : ∀ b ps, H b = some (.tbl ps) → ∃ more, H' b = some (.tbl (ps ++ more))
section
variable {fs fs' ex ex' : List Addr} {H H1 H2 : Hp} {h h1 h2 h' : Heap} {a x e : Addr} {o : HO}
theorem Un.any (u : Un fs ex H H1 h h1) {b : Addr} {ob : Obj} (q : h.get? b = some ob) (n : H b = none) (hx : b ∉ ex) : ∃ sl, h1.get? b = some { ob with slots := sl } := by
  by_cases hb : b ∈ fs
  · exact u.slot b ob q n hb hx
  · exact ⟨ob.slots, u.keep b ob q n hb hx⟩
theorem Un.trans (a : Un fs ex H H1 h h1) (b : Un fs ex H1 H2 h1 h2) : Un fs ex H H2 h h2 where
  keep := fun c ob q n hc hx => b.keep c ob (a.keep c ob q n hc hx) (a.free c ob q n hx) hc hx
  slot := fun c ob q n hc hx => by
    obtain ⟨sl, e1⟩ := a.slot c ob q n hc hx
    obtain ⟨sl', e2⟩ := b.slot c _ e1 (a.free c ob q n hx) hc hx
    exact ⟨sl', e2⟩
  free := fun c ob q n hx => by
    obtain ⟨o', e1⟩ := a.there c ob q hx
    exact b.free c o' e1 (a.free c ob q n hx) hx
  there := fun c ob q hx => by
    obtain ⟨o', e1⟩ := a.there c ob q hx
    exact b.there c o' e1 hx
  tups := fun c xs q => b.tups c xs (a.tups c xs q)
  frzs := fun c ob xs q => b.frzs c ob xs (a.frzs c ob xs q)
  tbls := fun c ps q => by
    obtain ⟨m1, e1⟩ := a.tbls c ps q
    obtain ⟨m2, e2⟩ := b.tbls c _ e1
    exact ⟨m1 ++ m2, by rw [e2, Array.append_assoc]⟩
theorem Un.kept (k : ∀ b u, h.get? b = some u → h'.get? b = some u) : Un fs ex H H h h' :=
  ⟨fun b ob q _ _ _ => k b ob q, fun b ob q _ _ _ => ⟨ob.slots, k b ob q⟩, fun _ _ _ n _ => n, fun b ob q _ => ⟨ob, k b ob q⟩, fun _ _ q => q, fun _ _ _ q => q, fun _ ps q => ⟨#[], by rw [q]; simp⟩⟩
theorem Un.refl : Un fs ex H H h h := Un.kept fun _ _ q => q
theorem Un.laid (k : ∀ b u, h.get? b = some u → h'.get? b = some u) (hp : h.objs.size ≤ a) (hn : H a = none) : Un fs ex H (upd H a o) h h' where
  keep := fun b u q _ _ _ => k b u q
  slot := fun b u q _ _ _ => ⟨u.slots, k b u q⟩
  free := fun b u q n _ => by rw [upd_ne (Nat.ne_of_lt (Nat.lt_of_lt_of_le (Heap.lt_size q) hp))]; exact n
  there := fun b u q _ => ⟨u, k b u q⟩
  tups := fun b xs q => by rw [upd_ne (ne_of_none q hn)]; exact q
  frzs := fun b u xs q => by rw [upd_ne (ne_of_none q hn)]; exact q
  tbls := fun b ps q => ⟨#[], by rw [upd_ne (ne_of_none q hn), q]; simp⟩
theorem Un.write (mu : Mut (H x)) (he : e = x ∨ H e = some (.own x)) (k : ∀ b u, b ≠ e → h.get? b = some u → h'.get? b = some u) (heo : ∃ u, h'.get? e = some u) : Un fs ex H (upd H x o) h h' := by
  have hx : ∀ b, H b = none → b ≠ x := fun b n z => by subst z; rw [n] at mu; exact mu
  have hb : ∀ b, H b = none → b ≠ e := fun b n z => by
    subst z
    rcases he with r | r
    · exact hx b n r
    · rw [n] at r; cases r
  have hm : ∀ b u, H b = some u → ¬ Mut (some u) → b ≠ x := fun b u q nm z => by subst z; rw [q] at mu; exact nm mu
  refine ⟨fun b u q n _ _ => k b u (hb b n) q, fun b u q n _ _ => ⟨u.slots, k b u (hb b n) q⟩, fun b u q n _ => by rw [upd_ne (hx b n)]; exact n, fun b u q _ => ?_,
    fun b xs q => by rw [upd_ne (hm b _ q fun z => z)]; exact q, fun b u xs q => by rw [upd_ne (hm b _ q fun z => z)]; exact q, fun b ps q => ⟨#[], by rw [upd_ne (hm b _ q fun z => z), q]; simp⟩⟩
  by_cases hbe : b = e
  · subst hbe; exact heo
  · exact ⟨u, k b u hbe q⟩
theorem Un.mono (u : Un fs ex H H1 h h1) (hs : ∀ b ∈ fs, b ∈ fs') (hx : ∀ b ∈ ex, b ∈ ex') : Un fs' ex' H H1 h h1 :=
  ⟨fun b ob q n hb he => u.keep b ob q n (fun z => hb (hs b z)) fun z => he (hx b z), fun _ _ q n _ he => u.any q n fun z => he (hx _ z), fun b ob q n he => u.free b ob q n fun z => he (hx b z), fun b ob q he => u.there b ob q fun z => he (hx b z), u.tups, u.frzs, u.tbls⟩
end
def trk (h : Heap) (H : Hp) : List Addr := (List.range h.objs.size).filter fun a => (H a).isSome
def hidT (h : Heap) (H : Hp) : Heap := PySem.W.hideAll h (trk h H)
theorem hidT_size (h : Heap) (H : Hp) : (hidT h H).objs.size = h.objs.size := PySem.W.hideAll_size _ _
theorem hidT_get {h : Heap} {H : Hp} {b : Addr} {o : Obj} (e : h.get? b = some o) (n : H b = none) : (hidT h H).get? b = some o :=
  PySem.W.hideAll_get _ e fun hm => by
    have q : (H b).isSome = true := (List.mem_filter.mp hm).2
    rw [n] at q; simp at q
theorem of_hidT {h : Heap} {H : Hp} {b : Addr} {o : Obj} (e : (hidT h H).get? b = some o) : h.get? b = some o ∧ H b = none := by
  have e' : h.get? b = some o := PySem.W.of_hideAll (trk h H) e
  refine ⟨e', ?_⟩
  cases q : H b with
  | none => rfl
  | some x =>
    have hm : b ∈ trk h H := List.mem_filter.mpr ⟨List.mem_range.mpr (Heap.lt_size e'), by simp [q]⟩
    have z : (hidT h H).get? b = none := PySem.W.hideAll_none (trk h H) hm
    rw [z] at e; cases e
def allNews (g h : Heap) (L : Addr) : List (Addr × Obj) := (List.range h.objs.size).filterMap fun a => if a = L ∨ (g.get? a).isSome = true then none else (h.get? a).map fun o => (a, o)
def rest (g h : Heap) (L d : Addr) : List (Addr × Obj) := (allNews g h L).filter fun p => decide (p.1 ≠ d)
end L2
namespace L2
open PySem PySem.Spec PyProof.Rows
structure Mod (K : PySem.W.Frag) (mg : Str → Option Value) (base : Heap) : Prop where
  kin : K.In base
  glob : base.Ns mainGlobals mg
  blt : ∃ mb, base.Ns builtinsNs mb ∧ ∀ x : Str, x ≠ "__name__" → mb x = bootBuiltins x
  nolimit : base.NoLimit
/-- the context: a def's body (or a comprehension's block) running. base: fixed through the whole law; s₀, H₀: the entry; outer: the frames whose slots others may change (a def's callers); stack: all frames that run;
   ex: iterators that were made ahead of the entry and are walked here (a comprehension's); fn: the names whose cells were made at the entry (a def: all; a comprehension's block: its own); calm: not within an except suite; pn: pins that every state bears; xe: what is wanted of an exception that leaves the code -/
structure Cx where
  prog : Program
  w : World
  K : PySem.W.Frag
  mg : Str → Option Value
  base : Heap
  A : Around
  N : List Str
  s₀ : Shared
  H₀ : Hp
  env : Env
  outer : List Env
  stack : List Env
  ex : List Addr
  fn : Str → Bool
  calm : Bool
  pn : List (Addr × Obj)
  xe : Value → Shared → Prop
def frs (l : List Env) : List Addr := l.filterMap (·.frame)
abbrev Cx.fs (X : Cx) : List Addr := frs X.outer
def Vis (sc : Scope) (x : Str) : Prop := sc.names.lookup x = some .local ∨ sc.names.lookup x = some .cell ∨ sc.names.lookup x = some .free
def Loc (sc : Scope) (x : Str) : Prop := sc.names.lookup x = some .local ∨ sc.names.lookup x = some .cell
def Look (env : Env) (h : Heap) (m : Str → Option Value) (x : Str) (u : Value) : Prop :=
  (env.kindOf x = some .local ∧ m x = some u) ∨ ((env.kindOf x = some .cell ∨ env.kindOf x = some .free) ∧ ∃ c, env.cells.lookup x = some c ∧ h.IsCell c (some u))
structure Cx.Ok (X : Cx) : Prop where
  mod : Mod X.K X.mg X.base
  kind : X.env.scope.kind = .function
  glob : X.env.globals = mainGlobals
  blt : X.env.builtins = builtinsNs
  above : X.s₀.heap.objs.size ≤ X.env.locals
  inj : ∀ x y c, X.env.cells.lookup x = some c → X.env.cells.lookup y = some c → x = y
  has : ∀ x, (X.env.kindOf x = some .cell ∨ X.env.kindOf x = some .free) → ∃ c, X.env.cells.lookup x = some c
  cab : ∀ x c, X.fn x = true → X.env.cells.lookup x = some c → X.s₀.heap.objs.size ≤ c
  hd : X.calm = true → X.A.handled = none
  frames : X.A.frames = some X.stack
  stk : X.stack = X.outer ∨ (X.stack = X.env :: X.outer ∧ X.env.frame = some X.env.locals)
  exf : ∀ b ∈ X.ex, b ≠ X.env.locals ∧ ∀ x c, X.env.cells.lookup x = some c → c ≠ b
  bs : ∀ b o, X.base.get? b = some o → X.s₀.heap.get? b = some o ∧ X.H₀ b = none
  bsz : X.base.objs.size ≤ X.s₀.heap.objs.size
  noex : ∀ b o, X.base.get? b = some o → b ∉ X.ex
  exfs : ∀ b ∈ X.ex, b ∉ X.fs
  funs : X.s₀.heap.FunFrames X.base X.outer
  frf : ∀ b ∈ X.fs, X.H₀ b = none
structure Inv (X : Cx) (pins : List (Addr × Obj)) (σ : List (Option V)) (H : Hp) (s : Shared) : Prop where
  ok : X.Ok
  os : s.os = X.s₀.os
  bare : AllBare s.gens
  base : Un X.fs X.ex X.H₀ H X.s₀.heap s.heap
  loc : ∃ m, s.heap.Ns X.env.locals m ∧ ∀ (i : Nat) (x : Str) (v : V), X.N[i]? = some x → σ[i]? = some (some v) → Vis X.env.scope x → ∃ u, RelV v u ∧ Look X.env s.heap m x u
  cell : ∀ x c, X.env.cells.lookup x = some c → ∃ v, s.heap.IsCell c v
  free : H X.env.locals = none
  freeC : ∀ x c, X.env.cells.lookup x = some c → H c = none
  pin : ∀ p ∈ X.pn ++ pins, s.heap.get? p.1 = some p.2 ∧ H p.1 = none ∧ p.1 ≠ X.env.locals ∧ p.1 ∉ X.fs ∧ ∀ v, p.2.data ≠ .cell v
  hok : HOk X.prog X.w H s.heap
  len : σ.length = X.N.length
section
variable {X : Cx} {pins : List (Addr × Obj)} {σ : List (Option V)} {H H' : Hp} {s : Shared} {h' : Heap}
theorem Cx.Ok.nofr (ok : X.Ok) {b : Addr} {o : Obj} (e : X.base.get? b = some o) : b ∉ X.fs := fun hb => by
  have := (ok.funs.mem hb).1
  rw [e] at this; cases this
theorem Inv.bs (I : Inv X pins σ H s) : ∀ b o, X.base.get? b = some o → s.heap.get? b = some o ∧ H b = none := fun b o e =>
  ⟨I.base.keep b o (I.ok.bs b o e).1 (I.ok.bs b o e).2 (I.ok.nofr e) (I.ok.noex b o e), I.base.free b o (I.ok.bs b o e).1 (I.ok.bs b o e).2 (I.ok.noex b o e)⟩
theorem Inv.bk (I : Inv X pins σ H s) : ∀ b o, X.base.get? b = some o → s.heap.get? b = some o := fun b o e => (I.bs b o e).1
theorem Inv.mod (I : Inv X pins σ H s) : Mod X.K X.mg X.base := I.ok.mod
theorem Inv.kIn (I : Inv X pins σ H s) : X.K.In s.heap := I.ok.mod.kin.keeps I.bk
theorem Inv.nolimit (I : Inv X pins σ H s) : s.heap.NoLimit := I.ok.mod.nolimit.keeps I.bk
theorem Inv.lt (I : Inv X pins σ H s) : X.env.locals < s.heap.objs.size := let ⟨_, hn, _⟩ := I.loc; hn.lt
theorem Inv.sz (I : Inv X pins σ H s) : X.s₀.heap.objs.size ≤ s.heap.objs.size := Nat.le_trans I.ok.above (Nat.le_of_lt I.lt)
theorem Inv.nofs (I : Inv X pins σ H s) {a : Addr} (h : s.heap.objs.size ≤ a) : a ∉ X.fs := fun hb => by
  obtain ⟨_, o, ho, _⟩ := I.ok.funs.mem hb
  exact absurd (Nat.lt_of_lt_of_le (Heap.lt_size ho) (Nat.le_trans I.sz h)) (Nat.lt_irrefl _)
theorem Inv.cne (I : Inv X pins σ H s) : ∀ x c, X.env.cells.lookup x = some c → c ≠ X.env.locals := fun x c e z => by
  obtain ⟨v, o, ho, hd⟩ := I.cell x c e
  obtain ⟨m, ⟨o', es, ep, ho', hd', _⟩, _⟩ := I.loc
  rw [z, ho'] at ho; cases ho; rw [hd'] at hd; cases hd
theorem Inv.funs (I : Inv X pins σ H s) : s.heap.FunFrames X.base X.outer := by
  have all : ∀ (l : List Env), (∀ b ∈ frs l, b ∈ X.fs) → X.s₀.heap.FunFrames X.base l → s.heap.FunFrames X.base l := by
    intro l
    induction l with
    | nil => intro _ _; trivial
    | cons env r ih =>
      intro hs hl
      obtain ⟨hk, ⟨L, o, hf, hn, ho, hd⟩, hr⟩ := hl
      have hL : L ∈ X.fs := hs L (by unfold frs; rw [List.filterMap_cons, hf]; exact List.mem_cons_self)
      obtain ⟨sl, e⟩ := I.base.slot L o ho (I.ok.frf L hL) hL fun z => I.ok.exfs L z hL
      exact ⟨hk, ⟨L, _, hf, hn, e, hd⟩, ih (fun b hb => hs b (by unfold frs; rw [List.filterMap_cons, hf]; exact List.mem_cons_of_mem _ hb)) hr⟩
  exact all X.outer (fun _ hb => hb) I.ok.funs
theorem Inv.stack (I : Inv X pins σ H s) : s.heap.FunFrames X.base X.stack := by
  rcases I.ok.stk with e | ⟨e, hf⟩
  · rw [e]; exact I.funs
  · rw [e]
    obtain ⟨m, hn, _⟩ := I.loc
    refine .cons (by rw [I.ok.kind]; decide) hf hn ?_ I.funs
    exact Heap.get?_none_of_le (Nat.le_trans I.ok.bsz I.ok.above)
theorem Inv.stkSub (I : Inv X pins σ H s) : ∀ b ∈ frs X.stack, b ∈ X.env.locals :: X.fs := fun b hb => by
  rcases I.ok.stk with e | ⟨e, hf⟩
  · rw [e] at hb; exact List.mem_cons_of_mem _ hb
  · rw [e] at hb
    unfold frs at hb
    rw [List.filterMap_cons, hf] at hb
    exact hb
theorem Inv.stkFree (I : Inv X pins σ H s) : ∀ b ∈ frs X.stack, H b = none := fun b hb => by
  rcases List.mem_cons.mp (I.stkSub b hb) with e | hb
  · rw [e]; exact I.free
  · obtain ⟨_, o, ho, _⟩ := I.ok.funs.mem hb
    exact I.base.free b o ho (I.ok.frf b hb) fun z => I.ok.exfs b z hb
theorem Inv.step {g' : Array GenState} {t' : Nat} {d' : Drawn} {ch : List Addr} (I : Inv X pins σ H s)
    (hch : ∀ b ∈ ch, (b ∈ X.ex ∨ X.s₀.heap.objs.size ≤ b) ∧ b ≠ X.env.locals ∧ (∀ x c, X.env.cells.lookup x = some c → c ≠ b) ∧ ∀ p ∈ X.pn ++ pins, p.1 ≠ b)
    (keep : ∀ b o, b ≠ X.env.locals → b ∉ X.fs → b ∉ ch → s.heap.get? b = some o → H b = none → h'.get? b = some o)
    (slot : ∀ b o, b ≠ X.env.locals → b ∈ X.fs → b ∉ ch → s.heap.get? b = some o → H b = none → ∃ sl, h'.get? b = some { o with slots := sl }) (free : ∀ b o, b ∉ ch → s.heap.get? b = some o → H b = none → H' b = none)
    (there : ∀ b o, b ∉ ch → s.heap.get? b = some o → ∃ o', h'.get? b = some o')
    (tups : ∀ b xs, H b = some (.tup xs) → H' b = some (.tup xs)) (frzs : ∀ b o u, H b = some (.frz o u) → H' b = some (.frz o u)) (tbls : ∀ b ps, H b = some (.tbl ps) → ∃ more, H' b = some (.tbl (ps ++ more)))
    (ns : ∀ m, s.heap.Ns X.env.locals m → h'.Ns X.env.locals m) (hok : HOk X.prog X.w H' h') (hg : AllBare g') :
    Inv X pins σ H' { s with heap := h', gens := g', drawn := d', toks := t' } := by
  have neL : ∀ b o, X.s₀.heap.get? b = some o → b ≠ X.env.locals := fun b o e => Nat.ne_of_lt (Nat.lt_of_lt_of_le (Heap.lt_size e) I.ok.above)
  have neC : ∀ b o, X.s₀.heap.get? b = some o → b ∉ X.ex → b ∉ ch := fun b o e hx hb => by
    rcases (hch b hb).1 with z | z
    · exact hx z
    · exact absurd (Nat.lt_of_lt_of_le (Heap.lt_size e) z) (Nat.lt_irrefl _)
  have cellK : ∀ x c, X.env.cells.lookup x = some c → ∀ v, s.heap.IsCell c v → h'.IsCell c v := fun x c e v ⟨o, ho, hd⟩ => by
    have nch : c ∉ ch := fun z => (hch c z).2.2.1 x c e rfl
    by_cases hc : c ∈ X.fs
    · obtain ⟨sl, q⟩ := slot c o (I.cne x c e) hc nch ho (I.freeC x c e)
      exact ⟨_, q, hd⟩
    · exact ⟨o, keep c o (I.cne x c e) hc nch ho (I.freeC x c e), hd⟩
  refine ⟨I.ok, I.os, hg, ⟨fun b o e n hb hx => ?_, fun b o e n hb hx => ?_, fun b o e n hx => ?_, fun b o e hx => ?_, fun b xs e => tups b xs (I.base.tups b xs e), fun b o xs e => frzs b o xs (I.base.frzs b o xs e), fun b ps e => ?_⟩, ?_, fun x c e => ?_, ?_, fun x c e => ?_, fun p hp => ?_, hok, I.len⟩
  · exact keep b o (neL b o e) hb (neC b o e hx) (I.base.keep b o e n hb hx) (I.base.free b o e n hx)
  · obtain ⟨sl, e1⟩ := I.base.slot b o e n hb hx
    obtain ⟨sl', e2⟩ := slot b _ (neL b o e) hb (neC b o e hx) e1 (I.base.free b o e n hx)
    exact ⟨sl', e2⟩
  · obtain ⟨o', e1⟩ := I.base.there b o e hx
    exact free b o' (neC b o e hx) e1 (I.base.free b o e n hx)
  · obtain ⟨o', e1⟩ := I.base.there b o e hx
    exact there b o' (neC b o e hx) e1
  · obtain ⟨m1, e1⟩ := I.base.tbls b ps e
    obtain ⟨m2, e2⟩ := tbls b _ e1
    exact ⟨m1 ++ m2, by rw [e2, Array.append_assoc]⟩
  · obtain ⟨m, hn, hl⟩ := I.loc
    refine ⟨m, ns m hn, fun i x v e1 e2 e3 => ?_⟩
    obtain ⟨u, r, l⟩ := hl i x v e1 e2 e3
    refine ⟨u, r, ?_⟩
    rcases l with l | ⟨k, c, e, z⟩
    · exact .inl l
    · exact .inr ⟨k, c, e, cellK x c e _ z⟩
  · obtain ⟨v, z⟩ := I.cell x c e
    exact ⟨v, cellK x c e v z⟩
  · obtain ⟨m, ⟨o, _, _, ho, _⟩, _⟩ := I.loc
    exact free _ o (fun z => (hch _ z).2.1 rfl) ho I.free
  · obtain ⟨v, o, ho, hd⟩ := I.cell x c e
    exact free c o (fun z => (hch c z).2.2.1 x c e rfl) ho (I.freeC x c e)
  · obtain ⟨e, n, ne, nf, d⟩ := I.pin p hp
    have nch : p.1 ∉ ch := fun z => (hch p.1 z).2.2.2 p hp rfl
    exact ⟨keep p.1 p.2 ne nf nch e n, free p.1 p.2 nch e n, ne, nf, d⟩
theorem Inv.un {t' : Nat} (I : Inv X pins σ H s) (u : Un X.fs [] H H' s.heap h') (hok : HOk X.prog X.w H' h') : Inv X pins σ H' { s with heap := h', toks := t' } := by
  obtain ⟨m, ⟨o, es, ep, ho, r⟩, _⟩ := id I.loc
  obtain ⟨sl, hL⟩ := u.any ho I.free (by simp)
  exact I.step (g' := s.gens) (d' := s.drawn) (ch := []) (fun _ z => nomatch z) (fun b o _ hb _ e n => u.keep b o e n hb (by simp)) (fun b o _ hb _ e n => u.slot b o e n hb (by simp)) (fun b o _ e n => u.free b o e n (by simp)) (fun b o _ e => u.there b o e (by simp)) u.tups u.frzs u.tbls (fun m' hm => by
    obtain ⟨o', es', ep', ho', r'⟩ := hm
    rw [ho] at ho'; cases ho'
    exact ⟨_, es', ep', hL, r'⟩) hok I.bare
theorem Inv.call {g' : Array GenState} {t' : Nat} {d' : Drawn} {ch : List Addr} (I : Inv X pins σ H s) (u : Un (frs X.stack) ch H H' s.heap h') (hok : HOk X.prog X.w H' h') (hg : AllBare g')
    (hch : ∀ b ∈ ch, (b ∈ X.ex ∨ X.s₀.heap.objs.size ≤ b) ∧ b ≠ X.env.locals ∧ (∀ x c, X.env.cells.lookup x = some c → c ≠ b) ∧ ∀ p ∈ X.pn ++ pins, p.1 ≠ b) :
    Inv X pins σ H' { s with heap := h', gens := g', drawn := d', toks := t' } := by
  obtain ⟨m, ⟨o, es, ep, ho, r⟩, _⟩ := id I.loc
  obtain ⟨sl, hL⟩ := u.any ho I.free fun z => (hch _ z).2.1 rfl
  exact I.step (ch := ch) hch (fun b o hL hb hc e n => u.keep b o e n (fun z => (List.mem_cons.mp (I.stkSub b z)).elim hL hb) hc) (fun b o _ _ hc e n => u.any e n hc) (fun b o hc e n => u.free b o e n hc) (fun b o hc e => u.there b o e hc) u.tups u.frzs u.tbls (fun m' hm => by
    obtain ⟨o', es', ep', ho', r'⟩ := hm
    rw [ho] at ho'; cases ho'
    exact ⟨_, es', ep', hL, r'⟩) hok hg
theorem Inv.turned {t' : Nat} {it : Addr} (I : Inv X pins σ H s) (k : ∀ b o, b ≠ it → s.heap.get? b = some o → h'.get? b = some o) (hn : H it = none) (hL : it ≠ X.env.locals)
    (h1 : it ∈ X.ex ∨ X.s₀.heap.objs.size ≤ it) (h2 : ∀ x c, X.env.cells.lookup x = some c → c ≠ it) (h3 : ∀ p ∈ X.pn ++ pins, p.1 ≠ it) : Inv X pins σ H { s with heap := h', toks := t' } := by
  have nit : ∀ b u, H b = some u → b ≠ it := fun b u e z => by rw [z, hn] at e; cases e
  refine I.step (g' := s.gens) (d' := s.drawn) (ch := [it]) (fun b hb => ?_) (fun b o _ _ hc e _ => k b o (fun z => hc (by simp [z])) e) (fun b o _ _ hc e _ => ⟨o.slots, k b o (fun z => hc (by simp [z])) e⟩) (fun _ _ _ _ n => n)
    (fun b o hc e => ⟨o, k b o (fun z => hc (by simp [z])) e⟩) (fun _ _ e => e) (fun _ _ _ e => e) (fun b ps e => ⟨#[], by rw [e]; simp⟩) (fun m hm => ?_) (fun b u e => ?_) I.bare
  · have e : b = it := by simpa using hb
    subst e
    exact ⟨h1, hL, h2, h3⟩
  · obtain ⟨o, es, ep, ho, r⟩ := hm
    exact ⟨o, es, ep, k _ o (Ne.symm hL) ho, r⟩
  · refine (I.hok b u e).stay (fun c v hc q => k c v ?_ q) (fun _ q => q) fun _ _ q => q
    rcases hc with z | z
    · rw [z]; exact nit b u e
    · exact nit c _ z
theorem Inv.tok (I : Inv X pins σ H s) (t : Nat) : Inv X pins σ H { s with toks := t } := I.un (h' := s.heap) (t' := t) Un.refl I.hok
theorem Inv.kept {t' : Nat} (I : Inv X pins σ H s) (k : ∀ b u, s.heap.get? b = some u → h'.get? b = some u) : Inv X pins σ H { s with heap := h', toks := t' } := I.un (Un.kept k) (I.hok.kept k)
theorem Inv.laid {a : Addr} {o : HO} {t' : Nat} (I : Inv X pins σ H s) (k : ∀ b u, s.heap.get? b = some u → h'.get? b = some u) (hp : s.heap.objs.size ≤ a) (new : ObjOk X.prog X.w (upd H a o) h' a o) :
    Inv X pins σ (upd H a o) { s with heap := h', toks := t' } := I.un (Un.laid k hp (I.hok.fresh hp)) (I.hok.laid k hp new)
theorem Inv.write {x e : Addr} {o : HO} {t' : Nat} (I : Inv X pins σ H s) (mu : Mut (H x)) (he : e = x ∨ H e = some (.own x)) (k : ∀ b u, b ≠ e → s.heap.get? b = some u → h'.get? b = some u) (heo : ∃ u, h'.get? e = some u)
    (new : ObjOk X.prog X.w (upd H x o) h' x o) : Inv X pins σ (upd H x o) { s with heap := h', toks := t' } := I.un (Un.write mu he k heo) (I.hok.write mu he k heo new)
theorem Inv.weak {σ' : List (Option V)} (I : Inv X pins σ H s) (hl : σ'.length = σ.length) (w : ∀ (i : Nat) v, σ'[i]? = some (some v) → σ[i]? = some (some v)) : Inv X pins σ' H s :=
  ⟨I.ok, I.os, I.bare, I.base, let ⟨m, hn, hl'⟩ := I.loc; ⟨m, hn, fun i x v e1 e2 e3 => hl' i x v e1 (w i v e2) e3⟩, I.cell, I.free, I.freeC, I.pin, I.hok, hl.trans I.len⟩
theorem Inv.pins_of {pins' : List (Addr × Obj)} (I : Inv X pins σ H s) (h : ∀ p ∈ pins', s.heap.get? p.1 = some p.2 ∧ H p.1 = none ∧ p.1 ≠ X.env.locals ∧ p.1 ∉ X.fs ∧ ∀ v, p.2.data ≠ .cell v) : Inv X pins' σ H s :=
  ⟨I.ok, I.os, I.bare, I.base, I.loc, I.cell, I.free, I.freeC, fun p hp => (List.mem_append.mp hp).elim (fun z => I.pin p (List.mem_append_left _ z)) (h p), I.hok, I.len⟩
theorem nodup_ix {N : List Str} (hN : N.Nodup) {i j : Nat} {x : Str} (a : N[i]? = some x) (b : N[j]? = some x) : i = j := by
  obtain ⟨h1, e1⟩ := List.getElem?_eq_some_iff.mp a
  obtain ⟨h2, e2⟩ := List.getElem?_eq_some_iff.mp b
  exact (List.getElem_inj hN).mp (e1.trans e2.symm)
theorem store_ok2 {M : Model} {A : Around} {E : Value → Shared → Prop} {i : Nat} {x : Str} {v : V} {u : Value} {Q : Unit → Shared → Prop} (I : Inv X pins σ H s) (hN : X.N.Nodup) (hi : X.N[i]? = some x) (hx : Loc X.env.scope x) (r : RelV v u)
    (h : ∀ s', Inv X pins (σ.set i (some v)) H s' → (∃ a, Heap.SameBut a s.heap s'.heap ∧ (a = X.env.locals ∨ X.env.cells.lookup x = some a)) → Q () s') (hf : X.fn x = true ∨ X.env.scope.names.lookup x = some .local := by first | exact .inl rfl | exact .inr rfl | assumption) : wpAny M A (storeName X.env x u) Q E s := by
  obtain ⟨m, hn, hl⟩ := id I.loc
  have hcls : (X.env.scope.kind == .class || (X.env.scope.kind == .module && X.env.locals != X.env.globals)) = false := by rw [I.ok.kind]; rfl
  have hiσ : i < σ.length := by rw [I.len]; exact (List.getElem?_eq_some_iff.mp hi).1
  have cne := I.cne
  have tracked : ∀ {a : Addr} {h' : Heap}, (∃ o, s.heap.get? a = some o ∧ H a = none) → Heap.SameBut a s.heap h' → HOk X.prog X.w H h' := fun {a h'} ha hs b ob e => by
    obtain ⟨_, _, hfree⟩ := ha
    refine (I.hok b ob e).stay (fun c w' hc q => (hs.2 c ?_).trans q) (fun _ q => q) fun _ _ q => q
    rintro rfl
    rcases hc with rfl | hc
    · rw [hfree] at e; cases e
    · rw [hfree] at hc; cases hc
  rcases hx with hk | hk
  · refine wpAny_storeName_local hk hn (fun h' hn' hs => ?_) hcls
    obtain ⟨oL, _, _, hoL, _⟩ := id hn
    refine h _ ⟨I.ok, I.os, I.bare, ⟨fun b o e n hb hx => ?_, fun b o e n hb hx => ?_, I.base.free, fun b o e hx => ?_, I.base.tups, I.base.frzs, I.base.tbls⟩, ⟨_, hn', fun j y v' e1 e2 e3 => ?_⟩, fun y c e => ?_, I.free, I.freeC, fun p hp => ?_, tracked ⟨oL, hoL, I.free⟩ hs, by simpa using I.len⟩ ⟨_, hs, .inl rfl⟩
    · exact (hs.2 b (Nat.ne_of_lt (Nat.lt_of_lt_of_le (Heap.lt_size e) I.ok.above))).trans (I.base.keep b o e n hb hx)
    · obtain ⟨sl, e1⟩ := I.base.slot b o e n hb hx
      exact ⟨sl, (hs.2 b (Nat.ne_of_lt (Nat.lt_of_lt_of_le (Heap.lt_size e) I.ok.above))).trans e1⟩
    · obtain ⟨o', e1⟩ := I.base.there b o e hx
      exact ⟨o', (hs.2 b (Nat.ne_of_lt (Nat.lt_of_lt_of_le (Heap.lt_size e) I.ok.above))).trans e1⟩
    · by_cases hj : j = i
      · subst hj
        rw [hi] at e1; cases e1
        rw [List.getElem?_set_self hiσ] at e2
        cases e2
        exact ⟨u, r, .inl ⟨hk, by simp⟩⟩
      · rw [List.getElem?_set_ne (Ne.symm hj)] at e2
        obtain ⟨u', r', q⟩ := hl j y v' e1 e2 e3
        refine ⟨u', r', ?_⟩
        rcases q with ⟨k, e⟩ | ⟨k, c, e, z⟩
        · refine .inl ⟨k, ?_⟩
          have : y ≠ x := fun e => hj (nodup_ix hN e1 (e ▸ hi))
          simp [this, e]
        · exact .inr ⟨k, c, e, z.sameBut hs (cne y c e)⟩
    · obtain ⟨w', z⟩ := I.cell y c e
      exact ⟨w', z.sameBut hs (cne y c e)⟩
    · obtain ⟨e, n, ne, nf, d⟩ := I.pin p hp
      exact ⟨(hs.2 p.1 ne).trans e, n, ne, nf, d⟩
  · have hfn : X.fn x = true := by
      rcases hf with z | z
      · exact z
      · rw [z] at hk; cases hk
    obtain ⟨c, hc⟩ := I.ok.has x (.inl hk)
    obtain ⟨w', z⟩ := I.cell x c hc
    refine wpAny_storeName_cell I.ok.kind hk hc z (fun h' hc' hs => ?_)
    obtain ⟨oc, hoc, hocd⟩ := id z
    refine h { s with heap := h' } ⟨I.ok, I.os, I.bare, ⟨fun b o e n hb hx => ?_, fun b o e n hb hx => ?_, I.base.free, fun b o e hx => ?_, I.base.tups, I.base.frzs, I.base.tbls⟩, ⟨m, hn.sameBut hs (Ne.symm (cne x c hc)), fun j y v' e1 e2 e3 => ?_⟩, fun y c' e => ?_, I.free, I.freeC, fun p hp => ?_, tracked ⟨oc, hoc, I.freeC x c hc⟩ hs, by simpa using I.len⟩ ⟨c, hs, .inr hc⟩
    · exact (hs.2 b (Nat.ne_of_lt (Nat.lt_of_lt_of_le (Heap.lt_size e) (I.ok.cab x c hfn hc)))).trans (I.base.keep b o e n hb hx)
    · obtain ⟨sl, e1⟩ := I.base.slot b o e n hb hx
      exact ⟨sl, (hs.2 b (Nat.ne_of_lt (Nat.lt_of_lt_of_le (Heap.lt_size e) (I.ok.cab x c hfn hc)))).trans e1⟩
    · obtain ⟨o', e1⟩ := I.base.there b o e hx
      exact ⟨o', (hs.2 b (Nat.ne_of_lt (Nat.lt_of_lt_of_le (Heap.lt_size e) (I.ok.cab x c hfn hc)))).trans e1⟩
    · by_cases hj : j = i
      · subst hj
        rw [hi] at e1; cases e1
        rw [List.getElem?_set_self hiσ] at e2
        cases e2
        exact ⟨u, r, .inr ⟨.inl hk, c, hc, hc'⟩⟩
      · rw [List.getElem?_set_ne (Ne.symm hj)] at e2
        obtain ⟨u', r', q⟩ := hl j y v' e1 e2 e3
        refine ⟨u', r', ?_⟩
        rcases q with q | ⟨k, c', e, z'⟩
        · exact .inl q
        · refine .inr ⟨k, c', e, z'.sameBut hs ?_⟩
          rintro rfl
          exact hj (nodup_ix hN e1 (I.ok.inj _ _ _ e hc ▸ hi))
    · by_cases hcc : c' = c
      · subst hcc; exact ⟨_, hc'⟩
      · obtain ⟨w2, z2⟩ := I.cell y c' e
        exact ⟨w2, z2.sameBut hs hcc⟩
    · obtain ⟨e, n, ne, nf, d⟩ := I.pin p hp
      refine ⟨(hs.2 p.1 ?_).trans e, n, ne, nf, d⟩
      intro q
      rw [q, hoc] at e
      have q' : oc = p.2 := Option.some.inj e
      exact d w' (by rw [← q']; exact hocd)
theorem store_ok {M : Model} {A : Around} {E : Value → Shared → Prop} {i : Nat} {x : Str} {v : V} {u : Value} {Q : Unit → Shared → Prop} (I : Inv X pins σ H s) (hN : X.N.Nodup) (hi : X.N[i]? = some x) (hx : Loc X.env.scope x) (r : RelV v u)
    (h : ∀ s', Inv X pins (σ.set i (some v)) H s' → Q () s') (hf : X.fn x = true ∨ X.env.scope.names.lookup x = some .local := by first | exact .inl rfl | exact .inr rfl | assumption) : wpAny M A (storeName X.env x u) Q E s :=
  store_ok2 I hN hi hx r (fun s' I' _ => h s' I') hf
theorem Inv.call' {s' : Shared} {ch : List Addr} (I : Inv X pins σ H s) (ho : s'.os = s.os) (u : Un (frs X.stack) ch H H' s.heap s'.heap) (hok : HOk X.prog X.w H' s'.heap) (hg : AllBare s'.gens)
    (hch : ∀ b ∈ ch, (b ∈ X.ex ∨ X.s₀.heap.objs.size ≤ b) ∧ b ≠ X.env.locals ∧ (∀ x c, X.env.cells.lookup x = some c → c ≠ b) ∧ ∀ p ∈ X.pn ++ pins, p.1 ≠ b) : Inv X pins σ H' s' := by
  obtain ⟨h', g', d', t', o'⟩ := s'
  have e : o' = s.os := ho
  subst e
  exact I.call (g' := g') (t' := t') (d' := d') u hok hg hch
end
abbrev XK := Value → Option Addr → Hp → Prop
abbrev St := List (Option V)
abbrev VK := V → Hp → Prop
abbrev TE := St → Hp → VK → Prop
abbrev TT := St → Hp → (Bool → Hp → Prop) → Prop
abbrev TA := St → Hp → (List V → Hp → Prop) → Prop
structure Ends where
  nx : St → Hp → Prop
  rt : VK
  bk : St → Hp → Prop := fun _ _ => False
  ct : St → Hp → Prop := fun _ _ => False
abbrev TS := Ends → St → Hp → Prop
def EP (X : Cx) (pins : List (Addr × Obj)) (σ : St) (Q : VK) (u : Value) (s' : Shared) : Prop := ∃ v H', Inv X pins σ H' s' ∧ RelV v u ∧ Q v H'
def TP (X : Cx) (pins : List (Addr × Obj)) (σ : St) (Q : Bool → Hp → Prop) (b : Bool) (s' : Shared) : Prop := ∃ H', Inv X pins σ H' s' ∧ Q b H'
def AP (X : Cx) (pins : List (Addr × Obj)) (σ : St) (Q : List V → Hp → Prop) (us : List Value) (s' : Shared) : Prop := ∃ vs H', Inv X pins σ H' s' ∧ Vals vs us ∧ Q vs H'
def SP (X : Cx) (pins : List (Addr × Obj)) (D : Ends) (f : Flow) (s' : Shared) : Prop :=
  match f with
  | .next => ∃ σ' H', Inv X pins σ' H' s' ∧ D.nx σ' H'
  | .brk => ∃ σ' H', Inv X pins σ' H' s' ∧ D.bk σ' H'
  | .cont => ∃ σ' H', Inv X pins σ' H' s' ∧ D.ct σ' H'
  | .ret u => ∃ v σ' H', Inv X pins σ' H' s' ∧ RelV v u ∧ D.rt v H'
def PE (X : Cx) (e : Expr) (t : TE) : Prop :=
  ∀ (pins : List (Addr × Obj)) (s : Shared) (σ : St) (H : Hp) (Q : VK), Inv X pins σ H s → t σ H Q → wpAny (model X.prog X.w) X.A (eval e X.env) (EP X pins σ Q) X.xe s
def PT (X : Cx) (e : Expr) (t : TT) : Prop :=
  ∀ (pins : List (Addr × Obj)) (s : Shared) (σ : St) (H : Hp) (Q : Bool → Hp → Prop), Inv X pins σ H s → t σ H Q → wpAny (model X.prog X.w) X.A (isTrue e X.env (eval e X.env)) (TP X pins σ Q) X.xe s
def PW (X : Cx) (e : Expr) (t : TT) : Prop :=
  ∀ (whole : Sem Value) (pins : List (Addr × Obj)) (s : Shared) (σ : St) (H : Hp) (Q : Bool → Hp → Prop), Inv X pins σ H s → t σ H Q → wpAny (model X.prog X.w) X.A (isTrue e X.env whole) (TP X pins σ Q) X.xe s
theorem PW.pt {X : Cx} {e : Expr} {t : TT} (h : PW X e t) : PT X e t := h _
def PA (X : Cx) (es : List Expr) (t : TA) : Prop :=
  ∀ (pos : Pos) (pins : List (Addr × Obj)) (s : Shared) (σ : St) (H : Hp) (Q : List V → Hp → Prop), Inv X pins σ H s → t σ H Q → wpAny (model X.prog X.w) X.A (spliced (backTo pos (starEach es X.env))) (AP X pins σ Q) X.xe s
def PS (X : Cx) (st : Stmt) (t : TS) : Prop :=
  ∀ (pins : List (Addr × Obj)) (s : Shared) (σ : St) (H : Hp) (D : Ends), Inv X pins σ H s → t D σ H → wpAny (model X.prog X.w) X.A (exec st X.env) (SP X pins D) X.xe s
def PSs (X : Cx) (st : List Stmt) (t : TS) : Prop :=
  ∀ (pins : List (Addr × Obj)) (s : Shared) (σ : St) (H : Hp) (D : Ends), Inv X pins σ H s → t D σ H → wpAny (model X.prog X.w) X.A (execs st X.env) (SP X pins D) X.xe s
theorem thn {α : Type} {t : Sem α} {Q Q' : α → Shared → Prop} {M : Model} {A : Around} {E : Value → Shared → Prop} {s : Shared} (h : wpAny M A t Q E s) (hQ : ∀ a s, Q a s → Q' a s) : wpAny M A t Q' E s := wpAny_mono h hQ fun _ _ x => x
end L2
namespace L2
open PySem PySem.Spec PyProof.Rows
section
variable {X : Cx}
def tVar (i : Nat) : TE := fun σ H Q => ∃ v, σ[i]? = some (some v) ∧ Q v H
def tC (v : V) : TE := fun _ H Q => Q v H
theorem pe_var {i : Nat} {x : Str} {pos : Pos} (hN : X.N[i]? = some x) (hv : Vis X.env.scope x) (hd : (x == ("__debug__" : Str)) = false := by decide) (hcd : (x == ("__classdict__" : Str)) = false := by decide) : PE X (.Name x pos) (tVar i) := by
  intro pins s σ H Q I h
  obtain ⟨v, e, h⟩ := h
  obtain ⟨m, hn, hl⟩ := I.loc
  obtain ⟨u, r, l⟩ := hl i x v hN e hv
  have fin : EP X pins σ Q u s := ⟨v, H, I, r, h⟩
  rcases l with ⟨hk, hm⟩ | ⟨hk, c, hc, hcell⟩
  · exact wpAny_Name (wpAny_loadName_local I.ok.kind hk hn hm fin) hd
  · rcases hk with hk | hk
    · exact wpAny_Name (wpAny_loadName_cell I.ok.kind hk hc hcell fin) hd
    · exact wpAny_Name (wpAny_loadName_free I.ok.kind hk hc hcell fin hcd) hd
theorem pe_int {i j pos} : PE X (.Constant (.int i) j pos) (tC (.int i)) := fun _ _ _ H _ I h => wpAny_Constant_int ⟨.int i, H, I.tok _, ⟨_, rfl⟩, h⟩
theorem pe_bl {b j pos} : PE X (.Constant (.bool b) j pos) (tC (.bl b)) := fun _ _ _ H _ I h => Constant_bool ⟨.bl b, H, I, rfl, h⟩
theorem pe_non {j pos} : PE X (.Constant .none j pos) (tC .non) := fun _ _ _ H _ I h => Constant_none ⟨.non, H, I, rfl, h⟩
theorem pe_str {x j pos} : PE X (.Constant (.str x) j pos) (tC (.str x)) := fun _ _ _ H _ I h => Calls.Constant_str ⟨.str x, H, I.tok _, ⟨_, rfl⟩, h⟩
def Gl (X : Cx) (x : Str) : Prop := X.env.kindOf x = some .globalImplicit
theorem ld_glob {E : Value → Shared → Prop} {pins : List (Addr × Obj)} {s : Shared} {σ : St} {H : Hp} {x : Str} {u : Value} {pos : Pos} {Q : Value → Shared → Prop} (I : Inv X pins σ H s) (hg : Gl X x) (hm : X.mg x = some u) (h : Q u s)
    (hd : (x == ("__debug__" : Str)) = false := by decide) : wpAny (model X.prog X.w) X.A (eval (.Name x pos) X.env) Q E s :=
  Calls.Name_function_global I.ok.kind hg (Calls.loadGlobal_global (by rw [I.ok.glob]; exact I.mod.glob.keeps I.bk) hm h) hd
theorem ld_blt {E : Value → Shared → Prop} {pins : List (Addr × Obj)} {s : Shared} {σ : St} {H : Hp} {x : Str} {u : Value} {pos : Pos} {Q : Value → Shared → Prop} (I : Inv X pins σ H s) (hg : Gl X x) (hm : X.mg x = none) (hv : bootBuiltins x = some u) (h : Q u s)
    (hn : x ≠ "__name__" := by decide) (hd : (x == ("__debug__" : Str)) = false := by decide) : wpAny (model X.prog X.w) X.A (eval (.Name x pos) X.env) Q E s := by
  obtain ⟨mb, h1, h2⟩ := I.mod.blt
  exact Calls.Name_function_global I.ok.kind hg (Calls.loadGlobal_builtin (by rw [I.ok.glob]; exact I.mod.glob.keeps I.bk) hm (by rw [I.ok.blt]; exact h1.keeps I.bk) ((h2 x hn).trans hv) h) hd
theorem pe_glob {x : Str} {v : V} {u : Value} {pos : Pos} (hg : Gl X x) (hm : X.mg x = some u) (r : RelV v u) (hd : (x == ("__debug__" : Str)) = false := by decide) : PE X (.Name x pos) (tC v) :=
  fun _ _ _ H _ I h => ld_glob I hg hm ⟨v, H, I, r, h⟩ hd
theorem pe_bltn {x : Str} {v : V} {u : Value} {pos : Pos} (hg : Gl X x) (hm : X.mg x = none) (hv : bootBuiltins x = some u) (r : RelV v u) (hn : x ≠ "__name__" := by decide) (hd : (x == ("__debug__" : Str)) = false := by decide) : PE X (.Name x pos) (tC v) :=
  fun _ _ _ H _ I h => ld_blt I hg hm hv ⟨v, H, I, r, h⟩ hn hd
variable {a b : Expr} {ta tb : TE} {pos : Pos}
def tB (t : TE) : TT := fun σ H Q => t σ H fun x H1 => ∃ c, x = .bl c ∧ Q c H1
variable {tA tB' : TT} {rest : List Expr}
def tAnd (t u : TT) : TT := fun σ H Q => t σ H fun c H1 => if c = true then u σ H1 Q else Q false H1
def tOr (t u : TT) : TT := fun σ H Q => t σ H fun c H1 => if c = true then Q true H1 else u σ H1 Q
def tNot (t : TT) : TT := fun σ H Q => t σ H fun c H1 => Q (!c) H1
theorem pw_and1 (ha : PT X a tA) : PW X (.BoolOp .And [a] pos) tA := by
  intro wh pins s σ H Q I h
  refine isTrue_and (thn (ha pins s σ H Q I h) fun c s1 e => ?_)
  cases c with
  | true => exact isTrue_and_nil e
  | false => exact e
theorem pw_or1 (ha : PT X a tA) : PW X (.BoolOp .Or [a] pos) tA := by
  intro wh pins s σ H Q I h
  refine isTrue_or (thn (ha pins s σ H Q I h) fun c s1 e => ?_)
  cases c with
  | false => exact isTrue_or_nil e
  | true => exact e
theorem pw_and (ha : PT X a tA) (hb : PW X (.BoolOp .And (b :: rest) pos) tB') : PW X (.BoolOp .And (a :: b :: rest) pos) (tAnd tA tB') := by
  intro wh pins s σ H Q I h
  refine isTrue_and (thn (ha pins s σ H _ I h) fun c s1 ⟨H1, I1, q1⟩ => ?_)
  cases c with
  | true => exact hb wh pins s1 σ H1 Q I1 q1
  | false => exact ⟨H1, I1, q1⟩
theorem pw_or (ha : PT X a tA) (hb : PW X (.BoolOp .Or (b :: rest) pos) tB') : PW X (.BoolOp .Or (a :: b :: rest) pos) (tOr tA tB') := by
  intro wh pins s σ H Q I h
  refine isTrue_or (thn (ha pins s σ H _ I h) fun c s1 ⟨H1, I1, q1⟩ => ?_)
  cases c with
  | true => exact ⟨H1, I1, q1⟩
  | false => exact hb wh pins s1 σ H1 Q I1 q1
theorem pt_not (ha : PT X a tA) : PT X (.UnaryOp .Not a pos) (tNot tA) := by
  intro pins s σ H Q I h
  exact isTrue_not (ha pins s σ H (fun c H1 => Q (!c) H1) I h)
def tAndV (ta tb : TE) : TE := fun σ H Q => ta σ H fun x H1 => ∃ c, x = .bl c ∧ if c = true then tb σ H1 Q else Q (.bl false) H1
def tNotV (ta : TE) : TE := fun σ H Q => ta σ H fun x H1 => ∃ c, x = .bl c ∧ Q (.bl (!c)) H1
theorem pe_one {op} {t : TE} (h : PE X a t) : PE X (.BoolOp op [a] pos) t := fun pins s σ H Q I hw => BoolOp_one (h pins s σ H Q I hw)
theorem pe_and (ha : PE X a ta) (hb : PE X (.BoolOp .And (b :: rest) pos) tb) : PE X (.BoolOp .And (a :: b :: rest) pos) (tAndV ta tb) := by
  intro pins s σ H Q I h
  refine BoolOp_and (thn (ha pins s σ H _ I h) fun v s1 ⟨x, H1, I1, r1, q1⟩ => ?_)
  obtain ⟨c, rfl, q1⟩ := q1
  cases r1
  refine wpAny_truthy_bool ?_
  cases c with
  | true => exact hb pins s1 σ H1 Q I1 q1
  | false => exact ⟨.bl false, H1, I1, rfl, q1⟩
theorem pe_not (ha : PE X a ta) : PE X (.UnaryOp .Not a pos) (tNotV ta) := by
  intro pins s σ H Q I h
  refine UnaryOp_ (thn (ha pins s σ H _ I h) fun v s1 ⟨x, H1, I1, r1, q1⟩ => ?_)
  obtain ⟨c, rfl, q1⟩ := q1
  cases r1
  exact not_of (wpAny_truthy_bool ⟨.bl (!c), H1, I1, rfl, q1⟩)
end
end L2
namespace L2
open PySem PySem.Spec PyProof.Rows
def SqL (K : PySem.W.Frag) (H : Hp) (a : Addr) (xs : List V) : Prop :=
  Rd H a (.lst xs) ∨
    ∃ (o : Obj) (its : Array Value) (n : Nat), K.lookup a = some o ∧ o.cls = .type "list" ∧ o.dict = none ∧ o.data = .seq its n ∧ its.size ≤ sizeLine ∧ Vals xs its.toList
def SqT (K : PySem.W.Frag) (H : Hp) (a : Addr) (xs : List V) : Prop :=
  Rd H a (.tup xs) ∨
    ∃ (o : Obj) (its : Array Value) (n : Nat), K.lookup a = some o ∧ o.cls = .type "tuple" ∧ o.data = .seq its n ∧ its.size ≤ sizeLine ∧ Vals xs its.toList
def absV : Value → Option V
  | .none => some .non
  | .bool b => some (.bl b)
  | .int i _ => some (.int i)
  | .str x _ => some (.str x)
  | .bytes b _ => some (.byt b)
  | .float b _ => some (.flt b)
  | .ref a => some (.ref a)
  | .type n => some (.ty n)
  | _ => none
theorem RelV.abs {x : V} {u : Value} (r : RelV x u) : absV u = some x := by
  cases x with
  | non => cases r; rfl
  | bl _ => cases r; rfl
  | int _ => obtain ⟨t, rfl⟩ := r; rfl
  | str _ => obtain ⟨t, rfl⟩ := r; rfl
  | byt _ => obtain ⟨t, rfl⟩ := r; rfl
  | flt _ => obtain ⟨t, rfl⟩ := r; rfl
  | ref _ => cases r; rfl
  | ty _ => cases r; rfl
theorem RelV.inj {x y : V} {u : Value} (r : RelV x u) (q : RelV y u) : x = y := Option.some.inj (r.abs.symm.trans q.abs)
theorem Vals.inj : ∀ {xs ys : List V} {us : List Value}, Vals xs us → Vals ys us → xs = ys
  | _, _, _, .nil, .nil => rfl
  | _, _, _, .cons r t, .cons r' t' => by rw [r.inj r', Vals.inj t t']
section
variable {X : Cx} {pins : List (Addr × Obj)} {σ : St} {H : Hp} {s : Shared} {a : Addr} {xs ys : List V}
theorem SqL.of {K : PySem.W.Frag} (h : H a = some (.lst xs)) : SqL K H a xs := .inl (.inl h)
theorem SqT.of {K : PySem.W.Frag} (h : H a = some (.tup xs)) : SqT K H a xs := .inl (.inl h)
theorem Inv.list (I : Inv X pins σ H s) (h : SqL X.K H a xs) : ∃ its : List Value, Vals xs its ∧ PlainL s.heap a its.toArray ∧ xs.length ≤ sizeLine := by
  rcases h with h | ⟨o, its, n, hk, hc, hd, hs, hz, r⟩
  · obtain ⟨z, its, n, r, e⟩ := h.ok I.hok
    exact ⟨its, r, ⟨_, n, e, rfl, rfl, rfl⟩, z⟩
  · refine ⟨its.toList, r, ⟨o, n, I.kIn a o hk, hc, hd, by simpa using hs⟩, ?_⟩
    have e := r.length
    simp only [Array.length_toList] at e
    omega
theorem Inv.tuple (I : Inv X pins σ H s) (h : SqT X.K H a xs) : ∃ its : List Value, Vals xs its ∧ IsTup s.heap a its.toArray ∧ xs.length ≤ sizeLine := by
  rcases h with h | ⟨o, its, n, hk, hc, hs, hz, r⟩
  · obtain ⟨z, its, r, p⟩ := h.ok I.hok
    exact ⟨its, r, p, z⟩
  · refine ⟨its.toList, r, ⟨o, I.kIn a o hk, hc, n, by simpa using hs⟩, ?_⟩
    have e := r.length
    simp only [Array.length_toList] at e
    omega
theorem Inv.list_inj (I : Inv X pins σ H s) (h : SqL X.K H a xs) (h' : SqL X.K H a ys) : xs = ys := by
  obtain ⟨its, r, ⟨o, n, e, _, _, d⟩, _⟩ := I.list h
  obtain ⟨its', r', ⟨o', n', e', _, _, d'⟩, _⟩ := I.list h'
  rw [e] at e'; cases e'
  rw [d] at d'
  injection d' with d1 _
  have : its = its' := by simpa using congrArg Array.toList d1
  subst this
  exact r.inj r'
end
abbrev Cx.wish (X : Cx) (E : Value → Shared → Prop) : Cx := { X with xe := E }
abbrev Cx.nox (X : Cx) : Cx := X.wish fun _ _ => False
theorem Cx.Ok.wish {X : Cx} (ok : X.Ok) (E : Value → Shared → Prop) : (X.wish E).Ok :=
  ⟨ok.mod, ok.kind, ok.glob, ok.blt, ok.above, ok.inj, ok.has, ok.cab, ok.hd, ok.frames, ok.stk, ok.exf, ok.bs, ok.bsz, ok.noex, ok.exfs, ok.funs, ok.frf⟩
theorem Cx.Ok.unwish {X : Cx} {E : Value → Shared → Prop} (ok : (X.wish E).Ok) : X.Ok :=
  ⟨ok.mod, ok.kind, ok.glob, ok.blt, ok.above, ok.inj, ok.has, ok.cab, ok.hd, ok.frames, ok.stk, ok.exf, ok.bs, ok.bsz, ok.noex, ok.exfs, ok.funs, ok.frf⟩
section
variable {X : Cx} {pins : List (Addr × Obj)} {σ : St} {H : Hp} {s : Shared} {E : Value → Shared → Prop}
theorem Inv.wish (I : Inv X pins σ H s) (E : Value → Shared → Prop) : Inv (X.wish E) pins σ H s := ⟨I.ok.wish E, I.os, I.bare, I.base, I.loc, I.cell, I.free, I.freeC, I.pin, I.hok, I.len⟩
theorem Inv.unwish (I : Inv (X.wish E) pins σ H s) : Inv X pins σ H s := ⟨I.ok.unwish, I.os, I.bare, I.base, I.loc, I.cell, I.free, I.freeC, I.pin, I.hok, I.len⟩
theorem SP.unwish {D : Ends} {f : Flow} {s' : Shared} (h : SP (X.wish E) pins D f s') : SP X pins D f s' := by
  cases f with
  | next => obtain ⟨σ', H', I, q⟩ := h; exact ⟨σ', H', I.unwish, q⟩
  | brk => obtain ⟨σ', H', I, q⟩ := h; exact ⟨σ', H', I.unwish, q⟩
  | cont => obtain ⟨σ', H', I, q⟩ := h; exact ⟨σ', H', I.unwish, q⟩
  | ret u => obtain ⟨v, σ', H', I, r, q⟩ := h; exact ⟨v, σ', H', I.unwish, r, q⟩
theorem PE.nox {e : Expr} {t : TE} (h : PE X.nox e t) : PE X e t := fun pins s σ H Q I hw =>
  wpAny_mono (h pins s σ H Q (I.wish _) hw) (fun _ _ ⟨v, H', I', r, q⟩ => ⟨v, H', I'.unwish, r, q⟩) fun _ _ z => False.elim z
theorem PT.nox {e : Expr} {t : TT} (h : PT X.nox e t) : PT X e t := fun pins s σ H Q I hw =>
  wpAny_mono (h pins s σ H Q (I.wish _) hw) (fun _ _ ⟨H', I', q⟩ => ⟨H', I'.unwish, q⟩) fun _ _ z => False.elim z
theorem PSs.nox {st : List Stmt} {t : TS} (h : PSs X.nox st t) : PSs X st t := fun pins s σ H D I hw =>
  wpAny_mono (h pins s σ H D (I.wish _) hw) (fun _ _ q => q.unwish) fun _ _ z => False.elim z
end
section
variable {X : Cx} {st : Stmt} {rest : List Stmt} {t u : TS} {e : Expr} {te : TE} {pos : Pos}
def tNext : TS := fun D σ H => D.nx σ H
def tSeq (t u : TS) : TS := fun D σ H => t { D with nx := u D } σ H
theorem pss_nil : PSs X [] tNext := fun _ _ σ H _ I h => wpAny_execs_nil ⟨σ, H, I, h⟩
theorem pss_cons (h1 : PS X st t) (h2 : PSs X rest u) : PSs X (st :: rest) (tSeq t u) := by
  intro pins s σ H D I h
  refine wpAny_execs_cons (thn (h1 pins s σ H { D with nx := u D } I h) fun f s1 q => ?_)
  cases f with
  | next =>
    obtain ⟨σ', H', I', q⟩ := q
    exact h2 pins s1 σ' H' D I' q
  | ret v => exact q
  | brk => exact q
  | cont => exact q
theorem pss_one (h1 : PS X st t) : PSs X [st] t := by
  intro pins s σ H D I h
  refine wpAny_execs_cons (thn (h1 pins s σ H D I h) fun f s1 q => ?_)
  cases f with
  | next => exact wpAny_execs_nil q
  | ret v => exact q
  | brk => exact q
  | cont => exact q
theorem Inv.quiet {pins : List (Addr × Obj)} {σ : St} {H : Hp} {s : Shared} (I : Inv X pins σ H s) : interactive X.env = false := by simp [interactive, I.ok.kind]
def tDrop (te : TE) : TS := fun D σ H => te σ H fun _ H1 => D.nx σ H1
theorem ps_expr (he : PE X e te) (hs : swapsWith e none pos.line X.env = pure false := by rfl) : PS X (.Expr e pos) (tDrop te) := by
  intro pins s σ H D I h
  exact wpAny_Expr_any (thn (he pins s σ H _ I h) fun v s1 ⟨x, H1, I1, r1, q1⟩ => ⟨σ, H1, I1, q1⟩) I.quiet hs
def tRet (te : TE) : TS := fun D σ H => te σ H D.rt
theorem ps_ret (he : PE X e te) : PS X (.Return (some e) pos) (tRet te) := by
  intro pins s σ H D I h
  exact wpAny_Return_some (thn (he pins s σ H _ I h) fun v s1 ⟨x, H1, I1, r1, q1⟩ => ⟨x, σ, H1, I1, r1, q1⟩)
def tRetN : TS := fun D _ H => D.rt .non H
def tIfS (c : TT) (t u : TS) : TS := fun D σ H => c σ H fun b H1 => if b = true then t D σ H1 else u D σ H1
theorem ps_if {c : Expr} {a b : List Stmt} {tc : TT} (hc : PT X c tc) (ha : PSs X a t) (hb : PSs X b u) : PS X (.If c a b pos) (tIfS tc t u) := by
  intro pins s σ H D I h
  refine wpAny_If (thn (hc pins s σ H _ I h) fun d s1 ⟨H1, I1, q1⟩ => ?_)
  cases d with
  | true => exact ha pins s1 σ H1 D I1 q1
  | false => exact hb pins s1 σ H1 D I1 q1
end
abbrev TG := V → St → Hp → (St → Hp → Prop) → Prop
abbrev TGs := List V → St → Hp → (St → Hp → Prop) → Prop
def PG (X : Cx) (target : Expr) (t : TG) : Prop :=
  ∀ (pins : List (Addr × Obj)) (s : Shared) (σ : St) (H : Hp) (v : V) (u : Value) (Q : St → Hp → Prop), Inv X pins σ H s → RelV v u → t v σ H Q →
    wpAny (model X.prog X.w) X.A (assign target X.env u) (fun _ s' => ∃ σ' H', Inv X pins σ' H' s' ∧ Q σ' H') X.xe s
def PGs (X : Cx) (ts : List Expr) (t : TGs) : Prop :=
  ∀ (pins : List (Addr × Obj)) (s : Shared) (σ : St) (H : Hp) (vs : List V) (us : List Value) (Q : St → Hp → Prop), Inv X pins σ H s → Vals vs us → t vs σ H Q →
    wpAny (model X.prog X.w) X.A (assignInOrder ((assignEach ts X.env).map (·.2)) us) (fun _ s' => ∃ σ' H', Inv X pins σ' H' s' ∧ Q σ' H') X.xe s
abbrev TSet := V → V → V → Hp → (Hp → Prop) → Prop
def PSet (X : Cx) (t : TSet) : Prop :=
  ∀ (pins : List (Addr × Obj)) (s : Shared) (σ : St) (H : Hp) (o i v : V) (ov iv u : Value) (Q : Hp → Prop), Inv X pins σ H s → RelV o ov → RelV i iv → RelV v u → t o i v H Q →
    wpAny (model X.prog X.w) X.A (setItem ov iv u) (fun _ s' => ∃ H', Inv X pins σ H' s' ∧ Q H') X.xe s
section
variable {X : Cx} {pos : Pos}
def gName (i : Nat) : TG := fun v σ H Q => Q (σ.set i (some v)) H
theorem pg_name {i : Nat} {x : Str} (hN : X.N.Nodup) (hi : X.N[i]? = some x) (hx : Loc X.env.scope x) (hf : X.fn x = true ∨ X.env.scope.names.lookup x = some .local := by first | exact .inl rfl | exact .inr rfl | assumption) : PG X (.Name x pos) (gName i) := by
  intro pins s σ H v u Q I r h
  exact wpAny_assign_Name (store_ok I hN hi hx r (fun s' I' => ⟨_, H, I', h⟩) hf)
def gNil : TGs := fun vs σ H Q => vs = [] ∧ Q σ H
def gCons (t : TG) (u : TGs) : TGs := fun vs σ H Q => ∃ v r, vs = v :: r ∧ t v σ H fun σ' H' => u r σ' H' Q
theorem pgs_nil : PGs X [] gNil := by
  intro pins s σ H vs us Q I r h
  obtain ⟨e, h⟩ := h
  subst e
  cases r
  exact assignInOrder_nil ⟨σ, H, I, h⟩
theorem pgs_cons {e : Expr} {es : List Expr} {t : TG} {u : TGs} (h1 : PG X e t) (h2 : PGs X es u)
    (hs : (assignEach (e :: es) X.env).map (·.2) = assign e X.env :: (assignEach es X.env).map (·.2) := by rfl) : PGs X (e :: es) (gCons t u) := by
  intro pins s σ H vs us Q I r h
  obtain ⟨v, vr, e1, h⟩ := h
  subst e1
  cases r with
  | cons r rr =>
    rw [hs]
    refine assignInOrder_cons (thn (h1 pins s σ H _ _ _ I r h) fun _ s1 ⟨σ1, H1, I1, q1⟩ => ?_)
    exact h2 pins s1 σ1 H1 _ _ Q I1 rr q1
def gTup (K : PySem.W.Frag) (n : Nat) (t : TGs) : TG := fun v σ H Q => ∃ a xs, v = .ref a ∧ SqT K H a xs ∧ xs.length = n ∧ t xs σ H Q
theorem pg_tup {es : List Expr} {k : Nat} {t : TGs} {n : Nat} (hc : X.calm = true) (h : PGs X es t)
    (hn : (assignEach es X.env).length = n := by rfl) (hst : (assignEach es X.env).findIdx? (·.1) = none := by rfl) : PG X (.Tuple es k pos) (gTup X.K n t) := by
  intro pins s σ H v u Q I r hw
  obtain ⟨a, xs, e1, hq, hl, hw⟩ := hw
  subst e1
  cases r
  obtain ⟨its, rv, ht, hz⟩ := I.tuple hq
  refine assign_Tuple_tuple (I.ok.hd hc) ht (by simp [hn, ← hl, rv.length]) hst fun h' hx => ?_
  have I1 : Inv X pins σ H { s with heap := h' } := I.kept (t' := s.toks) fun b o e => hx b o (Nat.ne_of_lt (Heap.lt_size e)) e
  exact h pins _ σ H xs _ Q I1 (by simpa using rv) hw
def gSub (to ti : TE) (t : TSet) : TG := fun v σ H Q => to σ H fun o H1 => ti σ H1 fun i H2 => t o i v H2 fun H3 => Q σ H3
theorem pg_sub {o i : Expr} {to ti : TE} {t : TSet} (ho : PE X o to) (hi : PE X i ti) (hs : PSet X t)
    (ha : ∀ v, assign (.Subscript o i pos) X.env v = (do
      let ov ← holding [v] (eval o X.env)
      let iv ← holding [v, ov] (eval i X.env)
      standAt pos
      holding [v, ov, iv] (setItem ov iv v)
      release [v, ov, iv] []) := by intro _; rfl) : PG X (.Subscript o i pos) (gSub to ti t) := by
  intro pins s σ H v u Q I r h
  rw [ha]
  refine wpAny_bind (wpAny_holding (thn (ho pins s σ H _ I h) fun ov s1 ⟨x, H1, I1, r1, q1⟩ => ?_))
  refine wpAny_bind (wpAny_holding (thn (hi pins s1 σ H1 _ I1 q1) fun iv s2 ⟨y, H2, I2, r2, q2⟩ => ?_))
  refine wpAny_bind (wpAny_standAt (wpAny_bind (wpAny_holding (thn (hs pins s2 σ H2 x y v ov iv u _ I2 r1 r2 r q2) fun _ s3 ⟨H3, I3, q3⟩ => ?_))))
  exact wpAny_release ⟨σ, H3, I3, q3⟩
def tAsg (te : TE) (g : TG) : TS := fun D σ H => te σ H fun x H1 => g x σ H1 D.nx
theorem ps_asg {tg e : Expr} {te : TE} {g : TG} (he : PE X e te) (hg : PG X tg g) (hs : swapsWithSole [tg] e pos.line X.env = pure false := by rfl) (hw : swappedStores [tg] e X.env = pure none := by rfl)
    (h1 : (assignEach [tg] X.env).map (·.2) = [assign tg X.env] := by rfl) : PS X (.Assign [tg] e pos) (tAsg te g) := by
  intro pins s σ H D I h
  refine wpAny_Assign_stores (thn (he pins s σ H _ I h) fun v s1 ⟨x, H1, I1, r1, q1⟩ => ?_) hs hw
  rw [h1]
  exact thn (hg pins s1 σ H1 x v _ I1 r1 q1) fun _ s2 q => q
theorem ps_set {i : Nat} {x : Str} {e : Expr} {te : TE} {pos' : Pos} (hN : X.N.Nodup) (hi : X.N[i]? = some x) (hx : Loc X.env.scope x) (he : PE X e te) (hs : swapsWith e (some (.Name x pos')) pos.line X.env = pure false := by rfl) (hf : X.fn x = true ∨ X.env.scope.names.lookup x = some .local := by first | exact .inl rfl | exact .inr rfl | assumption) :
    PS X (.Assign [.Name x pos'] e pos) (tAsg te (gName i)) := by
  intro pins s σ H D I h
  refine wpAny_Assign_Name (thn (he pins s σ H _ I h) fun v s1 ⟨y, H1, I1, r1, q1⟩ => ?_) hs
  exact store_ok I1 hN hi hx r1 (fun s2 I2 => ⟨_, H1, I2, q1⟩) hf
end
section
variable {X : Cx} {pos : Pos}
def tWhile (c : TT) (tb : TS) : TS := fun D σ H => ∃ W : Nat → St → Hp → Prop, (∃ m, W m σ H) ∧ ∀ m σ H, W m σ H →
  c σ H fun b H1 => if b = true then ∃ N : St → Hp → Prop, (∀ σ' H', N σ' H' → ∃ m', m' < m ∧ W m' σ' H') ∧ tb { D with nx := N, ct := N, bk := D.nx } σ H1 else D.nx σ H1
theorem ps_while {c : Expr} {body : List Stmt} {tc : TT} {tb : TS} (hp : PassesOwn (model X.prog X.w) X.A X.env X.xe) (hc : PT X c tc) (hb : PSs X body tb) : PS X (.While c body [] pos) (tWhile tc tb) := by
  intro pins s σ H D I h
  obtain ⟨W, ⟨m0, w0⟩, turn⟩ := h
  refine wpAny_While (codeAny_whileLoop (fun n s' => ∃ σ' H', Inv X pins σ' H' s' ∧ W n σ' H') ?_ m0 ⟨σ, H, I, w0⟩)
  rintro n s1 ⟨σ1, H1, I1, w1⟩
  refine wpAny_passesOwn hp (thn (hc pins s1 σ1 H1 _ I1 (turn n σ1 H1 w1)) fun b s2 ⟨H2, I2, q2⟩ => ?_)
  cases b with
  | true =>
    obtain ⟨N, hN, q2⟩ := q2
    rw [if_pos rfl]
    refine wpAny_passesOwn hp (thn (hb pins s2 σ1 H2 _ I2 q2) fun f s3 q3 => ?_)
    cases f with
    | next =>
      obtain ⟨σ3, H3, I3, n3⟩ := q3
      obtain ⟨m', hm, w3⟩ := hN σ3 H3 n3
      exact ⟨m', hm, σ3, H3, I3, w3⟩
    | cont =>
      obtain ⟨σ3, H3, I3, n3⟩ := q3
      obtain ⟨m', hm, w3⟩ := hN σ3 H3 n3
      exact ⟨m', hm, σ3, H3, I3, w3⟩
    | brk => exact q3
    | ret v => exact q3
  | false =>
    rw [if_neg Bool.false_ne_true]
    exact wpAny_execs_nil ⟨σ1, H2, I2, q2⟩
end
structure It where
  go : Nat → Hp → Prop
  yld : Nat → Hp → V → Hp → Prop
  stop : Nat → Hp → Prop
def FpOk (X : Cx) (pins : List (Addr × Obj)) (H : Hp) (b : Addr) : Prop :=
  H b = none ∧ b ≠ X.env.locals ∧ b ∉ X.fs ∧ (b ∈ X.ex ∨ X.s₀.heap.objs.size ≤ b) ∧ (∀ x c, X.env.cells.lookup x = some c → c ≠ b) ∧ ∀ p ∈ X.pn ++ pins, p.1 ≠ b
theorem Inv.fpOk {X : Cx} {pins : List (Addr × Obj)} {σ : St} {H H' : Hp} {s : Shared} {b : Addr} (I : Inv X pins σ H s) (hb : s.heap.objs.size ≤ b) (hn : H' b = none) : FpOk X pins H' b := by
  refine ⟨hn, Nat.ne_of_gt (Nat.lt_of_lt_of_le I.lt hb), I.nofs hb, .inr (Nat.le_trans I.sz hb), fun x c e z => ?_, fun p hp z => ?_⟩
  · obtain ⟨v, q⟩ := I.cell x c e
    exact absurd (Nat.lt_of_lt_of_le q.lt (by rw [z]; exact hb)) (Nat.lt_irrefl _)
  · exact absurd (Nat.lt_of_lt_of_le (Heap.lt_size (I.pin p hp).1) (by rw [z]; exact hb)) (Nat.lt_irrefl _)
structure Turn (P : Program) (w : World) (K : PySem.W.Frag) (tg : Expr) (J : It) (fp : List Addr) (it : Addr) (tn : Nat → Heap → Prop) : Prop where
  mem : it ∈ fp
  obj : ∀ i h, tn i h → ∀ b ∈ fp, ∃ o, h.get? b = some o ∧ ∀ v, o.data ≠ .cell v
  keep : ∀ i h h', tn i h → (∀ b ∈ fp, ∀ o, h.get? b = some o → h'.get? b = some o) → tn i h'
  item : ∀ (X : Cx), X.prog = P → X.w = w → X.K = K → X.calm = true → ∀ (i : Nat) (pins : List (Addr × Obj)) (s : Shared) (σ : St) (H : Hp) (E : Value → Shared → Prop), Inv X pins σ H s → (∀ b ∈ fp, FpOk X pins H b) → tn i s.heap → J.go i H →
    wpAny (model P w) X.A (pyNext (.ref it)) (fun r s1 => ∃ u, r = some u ∧
      wpAny (model P w) X.A (letOwnedTupleGo tg (.ref it) u) (fun _ s2 => ∃ x H', Inv X pins σ H' s2 ∧ RelV x u ∧ J.yld i H x H' ∧ tn (i + 1) s2.heap ∧ ∀ b ∈ fp, H' b = none) E s1) E s
  done : ∀ (X : Cx), X.prog = P → X.w = w → X.K = K → X.calm = true → ∀ (i : Nat) (pins : List (Addr × Obj)) (s : Shared) (σ : St) (H : Hp) (E : Value → Shared → Prop), Inv X pins σ H s → (∀ b ∈ fp, FpOk X pins H b) → tn i s.heap → J.stop i H →
    wpAny (model P w) X.A (pyNext (.ref it)) (fun r s1 => r = none ∧ Inv X pins σ H s1) E s
  self : ∀ (A : Around) (i : Nat) (s : Shared) (Q : Value → Shared → Prop) (E : Value → Shared → Prop), tn i s.heap → Q (.ref it) s → wpAny (model P w) A (pyIter (.ref it)) Q E s
abbrev TI := St → Hp → (It → Hp → Prop) → Prop
def PIE (X : Cx) (pins : List (Addr × Obj)) (σ : St) (tg : Expr) (R : It → Hp → Prop) (itv : Value) (s2 : Shared) : Prop :=
  ∃ (it : Addr) (fp : List Addr) (tn : Nat → Heap → Prop) (J : It) (H' : Hp), itv = .ref it ∧ Inv X pins σ H' s2 ∧ Turn X.prog X.w X.K tg J fp it tn ∧ tn 0 s2.heap ∧ (∀ b ∈ fp, FpOk X pins H' b) ∧ R J H'
def PI (X : Cx) (tg iter : Expr) (wi : TI) : Prop :=
  ∀ (pins : List (Addr × Obj)) (s : Shared) (σ : St) (H : Hp) (R : It → Hp → Prop), Inv X pins σ H s → wi σ H R →
    wpAny (model X.prog X.w) X.A (eval iter X.env) (fun v s1 => wpAny (model X.prog X.w) X.A (pyIter v) (PIE X pins σ tg R) X.xe s1) X.xe s
theorem go_of {M : Model} {A : Around} {E : Value → Shared → Prop} {s : Shared} {tg : Expr} {it : Addr} {u : Value} {o : Obj} {n : String} {vs : Array Value} {Q : Unit → Shared → Prop} (ho : s.heap.get? it = some o) (hc : o.cls = .type n) (hd : o.data = .fields vs)
    (hn : ["enumerate", "zip", "dict_itemiterator", "dict_reverseitemiterator", "odict_iterator", "itertools.zip_longest", "itertools.pairwise"].contains n = false) (hQ : Q () s) : wpAny M A (letOwnedTupleGo tg (.ref it) u) Q E s := by
  unfold letOwnedTupleGo
  cases tg <;> first
    | exact wpAny_pure hQ
    | (cases u <;> first
        | exact wpAny_pure hQ
        | (refine wpAny_bind (wpAny_load ho ?_)
           rw [hc, hd]
           show wpAny M A (if (["enumerate", "zip", "dict_itemiterator", "dict_reverseitemiterator", "odict_iterator", "itertools.zip_longest", "itertools.pairwise"].contains n && vs[0]? == some (rawInt _)) = true then _ else _) Q E s
           rw [if_neg (by intro h; rw [hn, Bool.false_and] at h; cases h)]
           exact wpAny_pure hQ))
def Itl (K : PySem.W.Frag) (a : Addr) : It :=
  ⟨fun i H => ∃ xs x, SqL K H a xs ∧ xs[i]? = some x, fun i H x H' => H' = H ∧ ∀ xs, SqL K H a xs → xs[i]? = some x, fun i H => ∃ xs, SqL K H a xs ∧ xs.length ≤ i⟩
def Itr (lo : Int) (n : Nat) : It := ⟨fun i _ => i < n, fun i H x H' => H' = H ∧ x = .int (lo + i), fun i _ => n ≤ i⟩
theorem turn_list {P : Program} {w : World} {K : PySem.W.Frag} {tg : Expr} (a it : Addr) : Turn P w K tg (Itl K a) [it] it (fun i h => h.IsListIter it a i) where
  mem := by simp
  obj := fun i h st b hb => by
    have e : b = it := by simpa using hb
    subst e
    obtain ⟨o, e, c, d⟩ := st
    exact ⟨o, e, fun v z => by rw [d] at z; cases z⟩
  keep := fun i h h' st k => st.at fun o e => k it (by simp) o e
  item := by
    intro X hP hw hK hc i pins s σ H E I hf st hg
    subst hP hw hK
    obtain ⟨xs, x, hq, hx⟩ := hg
    obtain ⟨its, rv, p, hz⟩ := I.list hq
    obtain ⟨u, hu, ru⟩ := rv.get hx
    obtain ⟨f0, f1, f2, f3, f4, f5⟩ := hf it (by simp)
    refine wpAny_pyNext_list_item st p.isList (x := u) (by simpa using hu) fun h' st' sb => ?_
    have I1 : Inv X pins σ H { s with heap := h' } := I.turned (t' := s.toks) (fun b o hb e => (sb.2 b hb).trans e) f0 f1 f3 f4 f5
    obtain ⟨o, e, c, d⟩ := id st'
    exact ⟨u, rfl, go_of (s := { s with heap := h' }) e c d (by decide) ⟨x, H, I1, ru, ⟨rfl, fun ys hy => by rw [I.list_inj hy hq]; exact hx⟩, st', fun b hb => (hf b hb).1⟩⟩
  done := by
    intro X hP hw hK hc i pins s σ H E I hf st hg
    subst hP hw hK
    obtain ⟨xs, hq, hx⟩ := hg
    obtain ⟨its, rv, p, hz⟩ := I.list hq
    obtain ⟨f0, f1, f2, f3, f4, f5⟩ := hf it (by simp)
    have hl := rv.length
    exact wpAny_pyNext_list_end (I.ok.hd hc) st p.isList (by simp; omega) fun h' eb => ⟨rfl, I.turned (t' := s.toks) (fun b o hb e => eb b o hb e) f0 f1 f3 f4 f5⟩
  self := fun _ _ _ _ _ st h => wpAny_pyIter_listiter st h
theorem turn_range {P : Program} {w : World} {K : PySem.W.Frag} {tg : Expr} (it : Addr) (lo : Int) (n : Nat) : Turn P w K tg (Itr lo n) [it] it (fun i h => IsRangeIter h it (lo + (i : Nat) * 1) ((n : Int) - (i : Nat)) 1) where
  mem := by simp
  obj := fun i h st b hb => by
    have e : b = it := by simpa using hb
    subst e
    exact ⟨_, st, fun v z => by
      have z' : Data.fields _ = Data.cell v := z
      cases z'⟩
  keep := fun i h h' st k => k it (by simp) _ st
  item := by
    intro X hP hw hK hc i pins s σ H E I hf st hg
    subst hP hw hK
    obtain ⟨f0, f1, f2, f3, f4, f5⟩ := hf it (by simp)
    have W := Walks.range (prog := X.prog) (w := X.w) (I.ok.hd hc) it lo 1 n
    refine W.item i s _ _ hg st fun v h' tk hv st' kk => ?_
    obtain ⟨t, rfl⟩ := hv
    have I1 : Inv X pins σ H { s with heap := h', toks := tk } := I.turned (fun b o hb e => kk b o (by simpa using hb) e) f0 f1 f3 f4 f5
    refine ⟨_, rfl, go_of (s := { s with heap := h', toks := tk }) (n := "range_iterator") st' rfl rfl (by decide) ⟨.int (lo + i), H, I1, ⟨t, ?_⟩, ⟨rfl, rfl⟩, st', fun b hb => (hf b hb).1⟩⟩
    rw [Int.mul_one]
  done := by
    intro X hP hw hK hc i pins s σ H E I hf st hg
    subst hP hw hK
    obtain ⟨f0, f1, f2, f3, f4, f5⟩ := hf it (by simp)
    exact wpAny_pyNext_range_end (I.ok.hd hc) st (by have : n ≤ i := hg; omega) fun h' eb => ⟨rfl, I.turned (t' := s.toks) (fun b o hb e => eb b o hb e) f0 f1 f3 f4 f5⟩
  self := fun _ _ _ _ _ st h => wpAny_pyIter_rangeiter st h
end L2
namespace L2
open PySem PySem.Spec PyProof.Rows
section
variable {X : Cx} {tg : Expr}
def iList (K : PySem.W.Frag) (tl : TE) : TI := fun σ H R => tl σ H fun x H1 => ∃ a, x = .ref a ∧ (∃ xs, SqL K H1 a xs) ∧ R (Itl K a) H1
theorem pi_list {l : Expr} {tl : TE} (hl : PE X l tl) : PI X tg l (iList X.K tl) := by
  intro pins s σ H R I h
  refine thn (hl pins s σ H _ I h) fun v s1 ⟨x, H1, I1, r1, q1⟩ => ?_
  obtain ⟨a, e, ⟨xs, hq⟩, q⟩ := q1
  subst e
  cases r1
  obtain ⟨its, rv, p, hz⟩ := I1.list hq
  refine wpAny_pyIter_list p.isList ?_
  refine ⟨s1.heap.objs.size, [s1.heap.objs.size], _, _, H1, rfl, I1.kept (t' := s1.toks) fun b o e => Heap.get?_push_of_some _ e, turn_list a _, ⟨_, Heap.get?_push_size _ rfl, rfl, rfl⟩, fun b hb => ?_, q⟩
  have e : b = s1.heap.objs.size := by simpa using hb
  subst e
  exact I1.fpOk (Nat.le_refl _) (I1.hok.fresh (Nat.le_refl _))
theorem range_it {pins : List (Addr × Obj)} {σ : St} {H : Hp} {s : Shared} {R : It → Hp → Prop} {E : Value → Shared → Prop} {lo hi : Int} {t u v : Tok} {tk : Nat} (I : Inv X pins σ H s) (h1 : -(2 ^ 62) ≤ lo) (h2 : lo < 2 ^ 62) (h3 : -(2 ^ 62) ≤ hi) (h4 : hi < 2 ^ 62)
    (q : R (Itr lo (hi - lo).toNat) H) : wpAny (model X.prog X.w) X.A (pyIter (.ref s.heap.objs.size)) (PIE X pins σ tg R) E { s with heap := s.heap.push { cls := .type "range", data := .fields #[.int lo t, .int hi u, .int 1 v] }, toks := tk } := by
  refine wpAny_pyIter_range (IsRange.new ..) (small_one h1 h2 h3 h4) ?_
  have I1 : Inv X pins σ H { s with heap := s.heap.push { cls := .type "range", data := .fields #[.int lo t, .int hi u, .int 1 v] }, toks := tk } := I.kept fun b o e => Heap.get?_push_of_some _ e
  refine ⟨(s.heap.push { cls := .type "range", data := .fields #[.int lo t, .int hi u, .int 1 v] }).objs.size, [(s.heap.push { cls := .type "range", data := .fields #[.int lo t, .int hi u, .int 1 v] }).objs.size], _, _, H, rfl,
    I1.kept (t' := tk) fun b o e => Heap.get?_push_of_some _ e, turn_range _ lo (hi - lo).toNat, ?_, fun b hb => ?_, q⟩
  · have e1 : lo + ((0 : Nat) : Int) * 1 = lo := by simp
    have e2 : (((hi - lo).toNat : Nat) : Int) - ((0 : Nat) : Int) = Builtin.Range.rangeSize lo hi 1 := by rw [rangeSize_one]; split <;> omega
    show IsRangeIter _ _ (lo + ((0 : Nat) : Int) * 1) ((((hi - lo).toNat : Nat) : Int) - ((0 : Nat) : Int)) 1
    rw [e1, e2]
    exact Heap.get?_push_size _ rfl
  · have e : b = (s.heap.push { cls := .type "range", data := .fields #[.int lo t, .int hi u, .int 1 v] }).objs.size := by simpa using hb
    subst e
    exact I1.fpOk (Nat.le_refl _) (I1.hok.fresh (Nat.le_refl _))
def iRng1 (ta : TA) : TI := fun σ H R => ta σ H fun vs H1 => ∃ j : Int, vs = [.int j] ∧ -(2 ^ 62) ≤ j ∧ j < 2 ^ 62 ∧ R (Itr 0 j.toNat) H1
def iRng2 (ta : TA) : TI := fun σ H R => ta σ H fun vs H1 => ∃ i j : Int, vs = [.int i, .int j] ∧ (-(2 ^ 62) ≤ i ∧ i < 2 ^ 62 ∧ -(2 ^ 62) ≤ j ∧ j < 2 ^ 62) ∧ R (Itr i (j - i).toNat) H1
theorem pi_range1 {a : Expr} {ta : TA} {p pos : Pos} (hg : Gl X "range") (hm : X.mg "range" = none) (ha : PA X [a] ta) (hs : starEach [a] X.env = [(false, eval a X.env)] := by rfl) : PI X tg (.Call (.Name "range" p) [a] [] pos) (iRng1 ta) := by
  intro pins s σ H R I h
  refine Call_ (ld_blt I hg hm boot_range (PyProof.Rows.callWith_type1 (thn (ha pos pins s σ H _ I h) fun us s1 ⟨vs, H1, I1, r1, q1⟩ => ?_) hs rfl))
  obtain ⟨j, e, q1, q2, q⟩ := q1
  subst e
  cases r1 with
  | cons r rr =>
    cases rr
    obtain ⟨t, rfl⟩ := r
    exact call_range_1 (range_it I1 (by omega) (by omega) q1 q2 (by simpa using q))
theorem pi_range2 {a b : Expr} {ta : TA} {p pos : Pos} (hg : Gl X "range") (hm : X.mg "range" = none) (ha : PA X [a, b] ta) (hs : starEach [a, b] X.env = [(false, eval a X.env), (false, eval b X.env)] := by rfl) (hs2 : starEach [b] X.env = [(false, eval b X.env)] := by rfl) :
    PI X tg (.Call (.Name "range" p) [a, b] [] pos) (iRng2 ta) := by
  intro pins s σ H R I h
  refine Call_ (ld_blt I hg hm boot_range (PyProof.Rows.callWith_type1 (thn (ha pos pins s σ H _ I h) fun us s1 ⟨vs, H1, I1, r1, q1⟩ => ?_) (by rw [hs, hs2]) (by rw [hs2]; rfl)))
  obtain ⟨i, j, e, ⟨q1, q2, q3, q4⟩, q⟩ := q1
  subst e
  cases r1 with
  | cons r rr =>
    cases rr with
    | cons r' rr =>
      cases rr
      obtain ⟨t, rfl⟩ := r
      obtain ⟨t', rfl⟩ := r'
      exact call_range_2 (range_it I1 q1 q2 q3 q4 q)
def tFor (wi : TI) (g : TG) (tb : TS) : TS := fun D σ H => wi σ H fun J H1 => ∃ W : Nat → Nat → St → Hp → Prop, (∃ m, W 0 m σ H1) ∧ ∀ i m σ H, W i m σ H →
  (J.stop i H ∧ D.nx σ H) ∨ (J.go i H ∧ ∃ N : St → Hp → Prop, (∀ σ' H', N σ' H' → ∃ m', m' < m ∧ W (i + 1) m' σ' H') ∧ ∀ x H', J.yld i H x H' → g x σ H' fun σ2 H2 => tb { D with nx := N, ct := N, bk := D.nx } σ2 H2)
def pinsAt (fp : List Addr) (h : Heap) : List (Addr × Obj) := fp.filterMap fun b => (h.get? b).map fun o => (b, o)
theorem mem_pinsAt {fp : List Addr} {h : Heap} {b : Addr} {o : Obj} (hb : b ∈ fp) (e : h.get? b = some o) : (b, o) ∈ pinsAt fp h := List.mem_filterMap.mpr ⟨b, hb, by rw [e]; rfl⟩
theorem of_pinsAt {fp : List Addr} {h : Heap} {p : Addr × Obj} (hp : p ∈ pinsAt fp h) : p.1 ∈ fp ∧ h.get? p.1 = some p.2 := by
  obtain ⟨b, hb, e⟩ := List.mem_filterMap.mp hp
  cases q : h.get? b with
  | none => rw [q] at e; cases e
  | some o =>
    rw [q] at e
    have e' : (b, o) = p := Option.some.inj e
    subst e'
    exact ⟨hb, q⟩
theorem Inv.pinned {pins : List (Addr × Obj)} {σ : St} {H : Hp} {s : Shared} {fp : List Addr} (I : Inv X pins σ H s) (hf : ∀ b ∈ fp, FpOk X pins H b) (ho : ∀ b ∈ fp, ∃ o, s.heap.get? b = some o ∧ ∀ v, o.data ≠ .cell v) : Inv X (pins ++ pinsAt fp s.heap) σ H s :=
  I.pins_of fun p hp => (List.mem_append.mp hp).elim (fun z => I.pin p (List.mem_append_right _ z)) fun z => by
    obtain ⟨hb, e⟩ := of_pinsAt z
    obtain ⟨f0, f1, f2, _⟩ := hf p.1 hb
    obtain ⟨o, e', d⟩ := ho p.1 hb
    rw [e] at e'; cases e'
    exact ⟨e, f0, f1, f2, d⟩
theorem Inv.unpinned {pins pl : List (Addr × Obj)} {σ : St} {H : Hp} {s : Shared} (I : Inv X (pins ++ pl) σ H s) : Inv X pins σ H s := I.pins_of fun p hp => I.pin p (List.mem_append_right _ (List.mem_append_left _ hp))
theorem ps_for {iter : Expr} {body : List Stmt} {wi : TI} {g : TG} {tb : TS} {pos : Pos} (hp : PassesOwn (model X.prog X.w) X.A X.env X.xe) (hc : X.calm = true) (hi : PI X tg iter wi) (hg : PG X tg g) (hb : PSs X body tb)
    (hs : ∀ x, foldedSetIterable iter X.env x = pure x := by intro _; rfl) : PS X (.For tg iter body [] pos) (tFor wi g tb) := by
  intro pins s σ H D I h
  refine wpAny_For (thn (hi pins s σ H _ I h) fun v s1 h1 => thn h1 fun itv s2 h2 => ?_) hs
  obtain ⟨it, fp, tn, J, H2, e, I2, T, st2, f2, W, ⟨m0, w0⟩, turn⟩ := h2
  subst e
  -- what stays true of the iterator's objects through the loop
  have stat : ∀ {H' : Hp}, (∀ b ∈ fp, H' b = none) → ∀ b ∈ fp, FpOk X pins H' b := fun hn b hb => ⟨hn b hb, (f2 b hb).2⟩
  refine codeAny_forLoop_any (fun n s' => ∃ i σ' H', Inv X pins σ' H' s' ∧ tn i s'.heap ∧ (∀ b ∈ fp, H' b = none) ∧ W i n σ' H') ?_ m0 ⟨0, σ, H2, I2, st2, fun b hb => (f2 b hb).1, w0⟩
  rintro n s3 ⟨i, σ3, H3, I3, st3, fr3, w3⟩
  rcases turn i n σ3 H3 w3 with ⟨stop, qn⟩ | ⟨go, N, hN, step⟩
  · refine wpAny_passesOwn hp (thn (T.done X rfl rfl rfl hc i pins s3 σ3 H3 X.xe I3 (stat fr3) st3 stop) fun r s4 ⟨hr, I4⟩ => ?_)
    subst hr
    exact wpAny_execs_nil ⟨σ3, H3, I4, qn⟩
  · refine wpAny_passesOwn hp (thn (T.item X rfl rfl rfl hc i pins s3 σ3 H3 X.xe I3 (stat fr3) st3 go) fun r s4 ⟨u, hr, h4⟩ => ?_)
    subst hr
    refine wpAny_passesOwn hp (thn h4 fun _ s5 ⟨x, H5, I5, r5, y5, st5, fr5⟩ => ?_)
    have I5' := I5.pinned (stat fr5) (T.obj _ _ st5)
    refine wpAny_passesOwn hp (thn (hg _ s5 σ3 H5 x u _ I5' r5 (step x H5 y5)) fun _ s6 ⟨σ6, H6, I6, q6⟩ => ?_)
    refine wpAny_passesOwn hp (thn (hb _ s6 σ6 H6 _ I6 q6) fun f s7 q7 => ?_)
    have again : ∀ {σ7 : St} {H7 : Hp}, Inv X (pins ++ pinsAt fp s5.heap) σ7 H7 s7 → N σ7 H7 → ∃ m, m < n ∧ ∃ i σ' H', Inv X pins σ' H' s7 ∧ tn i s7.heap ∧ (∀ b ∈ fp, H' b = none) ∧ W i m σ' H' := fun {σ7 H7} I7 n7 => by
      obtain ⟨m', hm, w7⟩ := hN σ7 H7 n7
      refine ⟨m', hm, i + 1, σ7, H7, I7.unpinned, T.keep _ _ _ st5 fun b hb o e => (I7.pin (b, o) (List.mem_append_right _ (List.mem_append_right _ (mem_pinsAt hb e)))).1, fun b hb => ?_, w7⟩
      obtain ⟨o, e, d⟩ := T.obj _ _ st5 b hb
      exact (I7.pin (b, o) (List.mem_append_right _ (List.mem_append_right _ (mem_pinsAt hb e)))).2.1
    cases f with
    | next => obtain ⟨σ7, H7, I7, n7⟩ := q7; exact again I7 n7
    | cont => obtain ⟨σ7, H7, I7, n7⟩ := q7; exact again I7 n7
    | brk => obtain ⟨σ7, H7, I7, q7⟩ := q7; exact ⟨σ7, H7, I7.unpinned, q7⟩
    | ret v => obtain ⟨x7, σ7, H7, I7, r7, q7⟩ := q7; exact ⟨x7, σ7, H7, I7.unpinned, r7, q7⟩
end
theorem for_list {K : PySem.W.Frag} {a : Addr} {xs : List V} {g : TG} {tb : TS} {D : Ends} {σ : St} {H : Hp} (Pv : Nat → St → Hp → Prop) (h0 : Pv 0 σ H) (hl : ∀ i σ H, i ≤ xs.length → Pv i σ H → SqL K H a xs)
    (hs : ∀ i x σ H, xs[i]? = some x → Pv i σ H → g x σ H fun σ2 H2 => tb { D with nx := Pv (i + 1), ct := Pv (i + 1), bk := D.nx } σ2 H2) (hd : ∀ σ H, Pv xs.length σ H → D.nx σ H) :
    ∃ W : Nat → Nat → St → Hp → Prop, (∃ m, W 0 m σ H) ∧ ∀ i m σ H, W i m σ H →
      ((Itl K a).stop i H ∧ D.nx σ H) ∨ ((Itl K a).go i H ∧ ∃ N : St → Hp → Prop, (∀ σ' H', N σ' H' → ∃ m', m' < m ∧ W (i + 1) m' σ' H') ∧ ∀ x H', (Itl K a).yld i H x H' → g x σ H' fun σ2 H2 => tb { D with nx := N, ct := N, bk := D.nx } σ2 H2) := by
  refine ⟨fun i m σ H => m = xs.length - i ∧ i ≤ xs.length ∧ Pv i σ H, ⟨xs.length, by simp, Nat.zero_le _, h0⟩, ?_⟩
  rintro i m σ H ⟨rfl, hi, p⟩
  have q := hl i σ H hi p
  by_cases hlt : i < xs.length
  · refine .inr ⟨⟨xs, xs[i], q, by simp [hlt]⟩, Pv (i + 1), fun σ' H' p' => ⟨xs.length - (i + 1), by omega, rfl, hlt, p'⟩, fun x H' y => ?_⟩
    obtain ⟨e, y⟩ := y
    subst e
    exact hs i x σ _ (y xs q) p
  · have e : i = xs.length := by omega
    subst e
    exact .inl ⟨⟨xs, q, Nat.le_refl _⟩, hd σ H p⟩
theorem for_range {lo : Int} {n : Nat} {g : TG} {tb : TS} {D : Ends} {σ : St} {H : Hp} (Pv : Nat → St → Hp → Prop) (h0 : Pv 0 σ H)
    (hs : ∀ i σ H, i < n → Pv i σ H → g (.int (lo + i)) σ H fun σ2 H2 => tb { D with nx := Pv (i + 1), ct := Pv (i + 1), bk := D.nx } σ2 H2) (hd : ∀ σ H, Pv n σ H → D.nx σ H) :
    ∃ W : Nat → Nat → St → Hp → Prop, (∃ m, W 0 m σ H) ∧ ∀ i m σ H, W i m σ H →
      ((Itr lo n).stop i H ∧ D.nx σ H) ∨ ((Itr lo n).go i H ∧ ∃ N : St → Hp → Prop, (∀ σ' H', N σ' H' → ∃ m', m' < m ∧ W (i + 1) m' σ' H') ∧ ∀ x H', (Itr lo n).yld i H x H' → g x σ H' fun σ2 H2 => tb { D with nx := N, ct := N, bk := D.nx } σ2 H2) := by
  refine ⟨fun i m σ H => m = n - i ∧ i ≤ n ∧ Pv i σ H, ⟨n, by simp, Nat.zero_le _, h0⟩, ?_⟩
  rintro i m σ H ⟨rfl, hi, p⟩
  by_cases hlt : i < n
  · refine .inr ⟨hlt, Pv (i + 1), fun σ' H' p' => ⟨n - (i + 1), by omega, rfl, hlt, p'⟩, fun x H' y => ?_⟩
    obtain ⟨e, y⟩ := y
    subst e y
    exact hs i σ _ hlt p
  · have e : i = n := by omega
    subst e
    exact .inl ⟨Nat.le_refl _, hd σ H p⟩
end L2
namespace L2
open PySem PySem.Spec PyProof.Rows
abbrev R2 := V → V → Hp → VK → Prop
def OpR (X : Cx) (f : Value → Value → Sem Value) (r : R2) : Prop :=
  ∀ (pins : List (Addr × Obj)) (s : Shared) (σ : St) (H : Hp) (x y : V) (v u : Value) (Q : VK), Inv X pins σ H s → RelV x v → RelV y u → r x y H Q →
    wpAny (model X.prog X.w) X.A (f v u) (EP X pins σ Q) X.xe s
def UnR (X : Cx) (f : Value → Sem Value) (r : V → Hp → VK → Prop) : Prop :=
  ∀ (pins : List (Addr × Obj)) (s : Shared) (σ : St) (H : Hp) (x : V) (v : Value) (Q : VK), Inv X pins σ H s → RelV x v → r x H Q →
    wpAny (model X.prog X.w) X.A (f v) (EP X pins σ Q) X.xe s
def CallR (X : Cx) (f : Value) (r : List V → Hp → VK → Prop) : Prop :=
  ∀ (pins : List (Addr × Obj)) (s : Shared) (σ : St) (H : Hp) (xs : List V) (us : List Value) (Q : VK), Inv X pins σ H s → Vals xs us → r xs H Q →
    wpAny (model X.prog X.w) X.A (call f us) (EP X pins σ Q) X.xe s
def TruR (X : Cx) (r : V → Hp → (Bool → Hp → Prop) → Prop) : Prop :=
  ∀ (pins : List (Addr × Obj)) (s : Shared) (σ : St) (H : Hp) (x : V) (v : Value) (Q : Bool → Hp → Prop), Inv X pins σ H s → RelV x v → r x H Q →
    wpAny (model X.prog X.w) X.A (truthy v) (TP X pins σ Q) X.xe s
def tOp (r : R2) (ta tb : TE) : TE := fun σ H Q => ta σ H fun x H1 => tb σ H1 fun y H2 => r x y H2 Q
def tUn (r : V → Hp → VK → Prop) (ta : TE) : TE := fun σ H Q => ta σ H fun x H1 => r x H1 Q
def rI (C : Int → Int → Prop) (g : Int → Int → V) : R2 := fun x y H Q => ∃ i j, x = .int i ∧ y = .int j ∧ C i j ∧ Q (g i j) H
def rI0 (g : Int → Int → V) : R2 := fun x y H Q => ∃ i j, x = .int i ∧ y = .int j ∧ Q (g i j) H
def rU (g : Int → V) : V → Hp → VK → Prop := fun x H Q => ∃ i, x = .int i ∧ Q (g i) H
section
variable {X : Cx} {a b c : Expr} {ta tb tc : TE} {pos : Pos}
theorem binT (ha : PE X a ta) (hb : PE X b tb) {pins : List (Addr × Obj)} {s : Shared} {σ : St} {H : Hp} {R : V → V → Hp → Prop} (I : Inv X pins σ H s)
    (h : ta σ H fun x H1 => tb σ H1 fun y H2 => R x y H2) {Q : Value → Shared → Prop} {f : Value → Value → Sem Value}
    (hf : ∀ v u s2 x y H2, Inv X pins σ H2 s2 → RelV x v → RelV y u → R x y H2 → wpAny (model X.prog X.w) X.A (f v u) Q X.xe s2) :
    wpAny (model X.prog X.w) X.A (eval a X.env) (fun v s₁ => wpAny (model X.prog X.w) X.A (eval b X.env) (fun u s₂ => wpAny (model X.prog X.w) X.A (f v u) Q X.xe s₂) X.xe s₁) X.xe s := by
  refine thn (ha pins s σ H _ I h) fun v s1 ⟨x, H1, I1, r1, q1⟩ => ?_
  refine thn (hb pins s1 σ H1 _ I1 q1) fun u s2 ⟨y, H2, I2, r2, q2⟩ => ?_
  exact hf v u s2 x y H2 I2 r1 r2 q2
theorem pe_op {op : Operator} {r : R2} (ho : OpR X (binaryOp op) r) (ha : PE X a ta) (hb : PE X b tb) : PE X (.BinOp a op b pos) (tOp r ta tb) := by
  intro pins s σ H Q I h
  exact wpAny_BinOp (binT ha hb I h fun v u s2 x y H2 I2 rx ry q => ho pins s2 σ H2 x y v u Q I2 rx ry q)
theorem pe_un {op : UnaryOp} {r : V → Hp → VK → Prop} (ho : UnR X (unaryOp op) r) (ha : PE X a ta) : PE X (.UnaryOp op a pos) (tUn r ta) := by
  intro pins s σ H Q I h
  exact UnaryOp_ (thn (ha pins s σ H _ I h) fun v s1 ⟨x, H1, I1, r1, q1⟩ => ho pins s1 σ H1 x v Q I1 r1 q1)
theorem opI {f : Value → Value → Sem Value} {C : Int → Int → Prop} {g : Int → Int → Int}
    (rule : ∀ (i j : Int) (t u : Tok) (s : Shared) (Q : Value → Shared → Prop) (E : Value → Shared → Prop), C i j → Q (.int (g i j) s.toks) { s with toks := s.toks + 1 } → wpAny (model X.prog X.w) X.A (f (.int i t) (.int j u)) Q E s) :
    OpR X f (rI C fun i j => .int (g i j)) := by
  intro pins s σ H x y v u Q I rx ry h
  obtain ⟨i, j, rfl, rfl, hc, q⟩ := h
  obtain ⟨t, rfl⟩ := rx
  obtain ⟨t', rfl⟩ := ry
  exact rule i j t t' s _ _ hc ⟨.int (g i j), H, I.tok _, ⟨_, rfl⟩, q⟩
theorem opI0 {f : Value → Value → Sem Value} {g : Int → Int → Int}
    (rule : ∀ (i j : Int) (t u : Tok) (s : Shared) (Q : Value → Shared → Prop) (E : Value → Shared → Prop), Q (.int (g i j) s.toks) { s with toks := s.toks + 1 } → wpAny (model X.prog X.w) X.A (f (.int i t) (.int j u)) Q E s) :
    OpR X f (rI0 fun i j => .int (g i j)) := by
  intro pins s σ H x y v u Q I rx ry h
  obtain ⟨i, j, rfl, rfl, q⟩ := h
  obtain ⟨t, rfl⟩ := rx
  obtain ⟨t', rfl⟩ := ry
  exact rule i j t t' s _ _ ⟨.int (g i j), H, I.tok _, ⟨_, rfl⟩, q⟩
theorem opB0 {f : Value → Value → Sem Value} {g : Int → Int → Bool}
    (rule : ∀ (i j : Int) (t u : Tok) (s : Shared) (Q : Value → Shared → Prop) (E : Value → Shared → Prop), Q (.bool (g i j)) s → wpAny (model X.prog X.w) X.A (f (.int i t) (.int j u)) Q E s) :
    OpR X f (rI0 fun i j => .bl (g i j)) := by
  intro pins s σ H x y v u Q I rx ry h
  obtain ⟨i, j, rfl, rfl, q⟩ := h
  obtain ⟨t, rfl⟩ := rx
  obtain ⟨t', rfl⟩ := ry
  exact rule i j t t' s _ _ ⟨.bl (g i j), H, I, rfl, q⟩
def CDiv (i j : Int) : Prop := 0 < j ∧ j < 1073741824
def CPow (i j : Int) : Prop := 0 ≤ j ∧ j ≤ 1000000 ∧ i.natAbs < 2 ^ 64
def CMul (i j : Int) : Prop := (-(2 ^ 64) < i ∧ i < 2 ^ 64) ∨ (-(2 ^ 64) < j ∧ j < 2 ^ 64)
theorem CMul.ok {i j : Int} (h : CMul i j) : IntMulOk i j := by
  rcases h with ⟨h1, h2⟩ | ⟨h1, h2⟩
  · exact .of_left (intBits_le_64 h1 h2)
  · exact .of_right (intBits_le_64 h1 h2)
theorem op_add : OpR X (binaryOp .Add) (rI0 fun i j => .int (i + j)) := opI0 fun _ _ _ _ _ _ _ q => add_int q
theorem op_sub : OpR X (binaryOp .Sub) (rI0 fun i j => .int (i - j)) := opI0 fun _ _ _ _ _ _ _ q => sub_int q
theorem op_mul : OpR X (binaryOp .Mult) (rI CMul fun i j => .int (i * j)) := opI fun _ _ _ _ _ _ _ hc q => mul_int q hc.ok
theorem op_fdiv : OpR X (binaryOp .FloorDiv) (rI CDiv fun i j => .int (i / j)) := opI fun i j _ _ _ _ _ hc q => by
  have h1 : (0 : Int) < j := hc.1
  have h2 : j < 1073741824 := hc.2
  exact floordiv_int (by omega) (by rw [Int.fdiv_eq_ediv_of_nonneg i (by omega)]; exact q) (.inl (PyProof.noPylong_small (by omega)))
theorem op_mod : OpR X (binaryOp .Mod) (rI (fun _ j => 0 < j) fun i j => .int (i % j)) := opI fun i j _ _ _ _ _ hc q => by
  have h1 : (0 : Int) < j := hc
  exact mod_int' (by omega) (by rw [Int.fmod_eq_emod_of_nonneg i (by omega)]; exact q)
theorem op_pow : OpR X (binaryOp .Pow) (rI CPow fun i j => .int (i ^ j.toNat)) := opI fun _ _ _ _ _ _ _ hc q => pow_int_small hc.1 hc.2.1 hc.2.2 q
theorem unI {f : Value → Sem Value} {g : Int → Int}
    (rule : ∀ (i : Int) (t : Tok) (s : Shared) (Q : Value → Shared → Prop) (E : Value → Shared → Prop), Q (.int (g i) s.toks) { s with toks := s.toks + 1 } → wpAny (model X.prog X.w) X.A (f (.int i t)) Q E s) :
    UnR X f (rU fun i => .int (g i)) := by
  intro pins s σ H x v Q I rx h
  obtain ⟨i, rfl, q⟩ := h
  obtain ⟨t, rfl⟩ := rx
  exact rule i t s _ _ ⟨.int (g i), H, I.tok _, ⟨_, rfl⟩, q⟩
theorem un_neg : UnR X (unaryOp .USub) (rU fun i => .int (-i)) := unI fun _ _ _ _ _ q => neg_int q
end
def scal : V → V → Bool
  | .non, .non => true | .non, .int _ => true | .int _, .non => true | .non, .bl _ => true | .bl _, .non => true | .non, .str _ => true | .str _, .non => true
  | .int _, .int _ => true | .bl _, .bl _ => true | .str _, .str _ => true | .byt _, .byt _ => true
  | .int _, .str _ => true | .str _, .int _ => true | .bl _, .str _ => true | .str _, .bl _ => true
  | _, _ => false
def rEq : R2 := fun x y H Q => scal x y = true ∧ Q (.bl (decide (x = y))) H
def rNe : R2 := fun x y H Q => scal x y = true ∧ Q (.bl (!decide (x = y))) H
theorem dec_int {i j : Int} : decide (V.int i = V.int j) = (i == j) := by
  rw [Bool.eq_iff_iff]
  simp
theorem dec_bl {i j : Bool} : decide (V.bl i = V.bl j) = (i == j) := by
  rw [Bool.eq_iff_iff]
  simp
theorem dec_str {i j : Str} : decide (V.str i = V.str j) = (i == j) := by
  rw [Bool.eq_iff_iff]
  simp
theorem dec_byt {i j : Array UInt8} : decide (V.byt i = V.byt j) = (i.toList == j.toList) := by
  rw [Bool.eq_iff_iff]
  cases i
  cases j
  simp
section
variable {X : Cx} {a b c : Expr} {ta tb tc : TE} {pos : Pos}
theorem fin_bl {pins : List (Addr × Obj)} {σ : St} {H : Hp} {s : Shared} {Q : VK} {k k' : Bool} (I : Inv X pins σ H s) (q : Q (.bl k) H) (e : k = k') : EP X pins σ Q (.bool k') s := by
  subst e
  exact ⟨.bl k, H, I, rfl, q⟩
theorem op_eq : OpR X (compareOp .Eq) rEq := by
  intro pins s σ H x y v u Q I rx ry h
  obtain ⟨hs, q⟩ := h
  cases x with
  | non =>
    cases rx
    cases y with
    | non => cases ry; exact PySem.EqNone.eq_none_none (fin_bl I q (by simp))
    | bl j => cases ry; exact PySem.EqNone.eq_none_bool (fin_bl I q (by simp))
    | int j => obtain ⟨t', rfl⟩ := ry; exact PySem.EqNone.eq_none_int (fin_bl I q (by simp))
    | str j => obtain ⟨t', rfl⟩ := ry; exact PySem.EqNone.eq_none_str (fin_bl I q (by simp))
    | _ => exact absurd (show false = true from hs) Bool.false_ne_true
  | bl i =>
    cases rx
    cases y with
    | non => cases ry; exact PySem.EqNone.eq_bool_none (fin_bl I q (by simp))
    | bl j => cases ry; exact eq_bool (fin_bl I q dec_bl)
    | str j => obtain ⟨t', rfl⟩ := ry; exact PySem.EqMixed.eq_bool_str (fin_bl I q (by simp))
    | _ => exact absurd (show false = true from hs) Bool.false_ne_true
  | int i =>
    obtain ⟨t, rfl⟩ := rx
    cases y with
    | non => cases ry; exact PySem.EqNone.eq_int_none (fin_bl I q (by simp))
    | int j => obtain ⟨t', rfl⟩ := ry; exact eq_int (fin_bl I q dec_int)
    | str j => obtain ⟨t', rfl⟩ := ry; exact PySem.EqMixed.eq_int_str (fin_bl I q (by simp))
    | _ => exact absurd (show false = true from hs) Bool.false_ne_true
  | str i =>
    obtain ⟨t, rfl⟩ := rx
    cases y with
    | non => cases ry; exact PySem.EqNone.eq_str_none (fin_bl I q (by simp))
    | bl j => cases ry; exact PySem.EqMixed.eq_str_bool (fin_bl I q (by simp))
    | int j => obtain ⟨t', rfl⟩ := ry; exact PySem.EqMixed.eq_str_int (fin_bl I q (by simp))
    | str j => obtain ⟨t', rfl⟩ := ry; exact eq_str (fin_bl I q dec_str)
    | _ => exact absurd (show false = true from hs) Bool.false_ne_true
  | byt i =>
    obtain ⟨t, rfl⟩ := rx
    cases y with
    | byt j => obtain ⟨t', rfl⟩ := ry; exact PySem.W.eq_bytes (fin_bl I q dec_byt)
    | _ => exact absurd (show false = true from hs) Bool.false_ne_true
  | _ => cases y <;> exact absurd (show false = true from hs) Bool.false_ne_true
theorem op_ne : OpR X (compareOp .NotEq) rNe := by
  intro pins s σ H x y v u Q I rx ry h
  obtain ⟨hs, q⟩ := h
  cases x with
  | non =>
    cases rx
    cases y with
    | non => cases ry; exact PySem.EqNone.ne_none_none (fin_bl I q (by simp))
    | bl j => cases ry; exact PySem.EqNone.ne_none_bool (fin_bl I q (by simp))
    | int j => obtain ⟨t', rfl⟩ := ry; exact PySem.EqNone.ne_none_int (fin_bl I q (by simp))
    | str j => obtain ⟨t', rfl⟩ := ry; exact PySem.EqNone.ne_none_str (fin_bl I q (by simp))
    | _ => exact absurd (show false = true from hs) Bool.false_ne_true
  | bl i =>
    cases rx
    cases y with
    | non => cases ry; exact PySem.EqNone.ne_bool_none (fin_bl I q (by simp))
    | bl j => cases ry; exact ne_bool (fin_bl I q (congrArg not dec_bl))
    | str j => obtain ⟨t', rfl⟩ := ry; exact PySem.EqMixed.ne_bool_str (fin_bl I q (by simp))
    | _ => exact absurd (show false = true from hs) Bool.false_ne_true
  | int i =>
    obtain ⟨t, rfl⟩ := rx
    cases y with
    | non => cases ry; exact PySem.EqNone.ne_int_none (fin_bl I q (by simp))
    | int j => obtain ⟨t', rfl⟩ := ry; exact ne_int (fin_bl I q (congrArg not dec_int))
    | str j => obtain ⟨t', rfl⟩ := ry; exact PySem.EqMixed.ne_int_str (fin_bl I q (by simp))
    | _ => exact absurd (show false = true from hs) Bool.false_ne_true
  | str i =>
    obtain ⟨t, rfl⟩ := rx
    cases y with
    | non => cases ry; exact PySem.EqNone.ne_str_none (fin_bl I q (by simp))
    | bl j => cases ry; exact PySem.EqMixed.ne_str_bool (fin_bl I q (by simp))
    | int j => obtain ⟨t', rfl⟩ := ry; exact PySem.EqMixed.ne_str_int (fin_bl I q (by simp))
    | str j => obtain ⟨t', rfl⟩ := ry; exact ne_str (fin_bl I q (congrArg not dec_str))
    | _ => exact absurd (show false = true from hs) Bool.false_ne_true
  | byt i =>
    obtain ⟨t, rfl⟩ := rx
    cases y with
    | byt j => obtain ⟨t', rfl⟩ := ry; exact PySem.W.ne_bytes (fin_bl I q (congrArg not dec_byt))
    | _ => exact absurd (show false = true from hs) Bool.false_ne_true
  | _ => cases y <;> exact absurd (show false = true from hs) Bool.false_ne_true
theorem op_lt : OpR X (compareOp .Lt) (rI0 fun i j => .bl (decide (i < j))) := opB0 fun _ _ _ _ _ _ _ q => lt_int q
theorem op_gt : OpR X (compareOp .Gt) (rI0 fun i j => .bl (decide (j < i))) := opB0 fun _ _ _ _ _ _ _ q => gt_int q
theorem op_lt_str : OpR X (compareOp .Lt) (fun x y H Q => ∃ i j, x = .str i ∧ y = .str j ∧ Q (.bl (decide (i.cps.toList < j.cps.toList))) H) := by
  intro pins s σ H x y v u Q I rx ry h
  obtain ⟨i, j, rfl, rfl, q⟩ := h
  obtain ⟨t, rfl⟩ := rx
  obtain ⟨t', rfl⟩ := ry
  exact lt_str (fin_bl I q rfl)
theorem op_isN : OpR X (compareOp .Is) (fun x y H Q => y = .non ∧ Q (.bl (decide (x = .non))) H) := by
  intro pins s σ H x y v u Q I rx ry h
  obtain ⟨rfl, q⟩ := h
  cases ry
  refine is_none_gen (fin_bl I q ?_)
  cases x <;> first
    | (cases rx; rfl)
    | (obtain ⟨t, rfl⟩ := rx; rfl)
theorem op_notin_str : OpR X (compareOp .NotIn) (fun x y H Q => ∃ i j, x = .str i ∧ y = .str j ∧ Q (.bl (!(!(Builtin.Str.occurrences j i 0 j.length 1).isEmpty))) H) := by
  intro pins s σ H x y v u Q I rx ry h
  obtain ⟨i, j, rfl, rfl, q⟩ := h
  obtain ⟨t, rfl⟩ := rx
  obtain ⟨t', rfl⟩ := ry
  exact notIn_str (fin_bl I q rfl)
theorem OpR.or {f : Value → Value → Sem Value} {r r' : R2} (h : OpR X f r) (h' : OpR X f r') : OpR X f (fun x y H Q => r x y H Q ∨ r' x y H Q) := by
  intro pins s σ H x y v u Q I rx ry q
  rcases q with q | q
  · exact h pins s σ H x y v u Q I rx ry q
  · exact h' pins s σ H x y v u Q I rx ry q
theorem nomark (b : Expr) {op : CmpOp} (h : op ≠ .In := by decide) (h2 : op ≠ .NotIn := by decide) : behindInMarks op b = false := by
  have e1 : (op == CmpOp.In) = false := by cases op <;> first | rfl | exact absurd rfl h
  have e2 : (op == CmpOp.NotIn) = false := by cases op <;> first | rfl | exact absurd rfl h2
  cases b <;> simp [behindInMarks, e1, e2]
theorem pe_cmpR {op : CmpOp} {r : R2} (ho : OpR X (compareOp op) r) (ha : PE X a ta) (hb : PE X b tb) (hm : behindInMarks op b = false) : PE X (.Compare a [op] [b] pos) (tOp r ta tb) := by
  intro pins s σ H Q I h
  exact wpAny_Compare1 (binT ha hb I h fun v u s2 x y H2 I2 rx ry q => ho pins s2 σ H2 x y v u Q I2 rx ry q) hm
def TruV (K : PySem.W.Frag) (x : V) (H : Hp) (k : Bool) : Prop :=
  match x with
  | .non => k = false
  | .bl b => k = b
  | .int i => k = (i != 0)
  | .str y => y.length ≤ sizeLine ∧ k = ((y.length : Int) != 0)
  | .byt y => y.size ≤ sizeLine ∧ k = ((y.size : Int) != 0)
  | .ref p => (∃ xs, SqL K H p xs ∧ k = !xs.isEmpty) ∨ (∃ xs, SqT K H p xs ∧ k = !xs.isEmpty) ∨ ∃ kvs, H p = some (.dK kvs) ∧ k = !kvs.isEmpty
  | _ => False
theorem isEmpty_kv {κ : Type} {kvs : List (κ × V)} {vs : List (κ × Value)} (r : KV kvs vs) : (!vs.isEmpty) = !kvs.isEmpty := by
  cases r <;> rfl
theorem isEmpty_of {xs : List V} {its : List Value} (r : Vals xs its) : (!its.toArray.isEmpty) = !xs.isEmpty := by
  cases r <;> simp
theorem line63 : (sizeLine : Nat) < 2 ^ 63 := by rw [sizeLine_eq]; decide
theorem tru_ok : TruR X (fun x H Q => ∃ k, TruV X.K x H k ∧ Q k H) := by
  intro pins s σ H x v Q I rx h
  obtain ⟨k, e, q⟩ := h
  have hl := line63
  have hs : sizeLine = 16777216 := sizeLine_eq
  cases x with
  | non =>
    cases rx
    have e' : k = false := e
    subst e'
    exact truthy_none ⟨H, I, q⟩
  | bl b =>
    cases rx
    have e' : k = b := e
    subst e'
    exact wpAny_truthy_bool ⟨H, I, q⟩
  | int i =>
    obtain ⟨t, rfl⟩ := rx
    have e' : k = (i != 0) := e
    subst e'
    exact PySem.P.truthy_int ⟨H, I, q⟩
  | str y =>
    obtain ⟨t, rfl⟩ := rx
    obtain ⟨hy, e'⟩ : y.length ≤ sizeLine ∧ k = ((y.length : Int) != 0) := e
    subst e'
    exact PySem.P.truthy_str (by omega) ⟨H, I.tok _, q⟩
  | byt y =>
    obtain ⟨t, rfl⟩ := rx
    obtain ⟨hy, e'⟩ : y.size ≤ sizeLine ∧ k = ((y.size : Int) != 0) := e
    subst e'
    exact PySem.W.truthy_bytes (by omega) ⟨H, I.tok _, q⟩
  | ref p =>
    cases rx
    have e' : (∃ xs, SqL X.K H p xs ∧ k = !xs.isEmpty) ∨ (∃ xs, SqT X.K H p xs ∧ k = !xs.isEmpty) ∨ ∃ kvs, H p = some (.dK kvs) ∧ k = !kvs.isEmpty := e
    rcases e' with ⟨xs, hx, e'⟩ | ⟨xs, hx, e'⟩ | ⟨kvs, hx, e'⟩
    · subst e'
      obtain ⟨its, r, pl, hz⟩ := I.list hx
      have hlen := r.length
      exact wpAny_truthy_list pl.isList (by simp only [List.size_toArray]; omega) ⟨H, I.tok _, by rw [isEmpty_of r]; exact q⟩
    · subst e'
      obtain ⟨its, r, pl, hz⟩ := I.tuple hx
      have hlen := r.length
      exact truthy_tuple pl (by simp only [List.size_toArray]; omega) ⟨H, I.tok _, by rw [isEmpty_of r]; exact q⟩
    · subst e'
      obtain ⟨hz, hS, vs, r, m⟩ : kvs.length ≤ sizeLine ∧ (p == sysModules) = false ∧ ∃ vs, KV kvs vs ∧ s.heap.DictOf (mixKind X.prog X.w) p vs := I.hok p _ hx
      have hlen : kvs.length = vs.length := Paired.length r
      exact wpAny_truthy_dict hS m (by omega) ⟨H, I.tok _, by rw [isEmpty_kv r]; exact q⟩
  | _ => exact (show False from e).elim
theorem op_add_str : OpR X (binaryOp .Add) (fun x y H Q => ∃ i j, x = .str i ∧ y = .str j ∧ i.length + j.length ≤ sizeLine ∧ Q (.str (i ++ j)) H) := by
  intro pins s σ H x y v u Q I rx ry h
  obtain ⟨i, j, rfl, rfl, hz, q⟩ := h
  obtain ⟨t, rfl⟩ := rx
  obtain ⟨t', rfl⟩ := ry
  exact add_str (fun t' tk => ⟨.str (i ++ j), H, I.tok _, ⟨_, rfl⟩, q⟩) hz
theorem vals1 {x : V} {us : List Value} (r : Vals [x] us) : ∃ u, us = [u] ∧ RelV x u := by
  cases r with
  | cons r1 r2 => cases r2; exact ⟨_, rfl, r1⟩
theorem vals2 {x y : V} {us : List Value} (r : Vals [x, y] us) : ∃ u w', us = [u, w'] ∧ RelV x u ∧ RelV y w' := by
  cases r with
  | cons r1 r2 =>
    cases r2 with
    | cons r3 r4 => cases r4; exact ⟨_, _, rfl, r1, r3⟩
theorem call_max2 (hc : X.calm = true) : CallR X (.builtin "max") (fun xs H Q => ∃ i j, xs = [.int i, .int j] ∧ Q (.int (if j > i then j else i)) H) := by
  intro pins s σ H xs us Q I r h
  obtain ⟨i, j, rfl, q⟩ := h
  obtain ⟨u, w', rfl, ⟨t, rfl⟩, ⟨t', rfl⟩⟩ := vals2 r
  refine max_two_ints (I.ok.hd hc) fun h' tk k => ⟨_, H, I.kept k, ?_, q⟩
  by_cases hj : j > i
  · rw [if_pos hj, if_pos hj]; exact ⟨_, rfl⟩
  · rw [if_neg hj, if_neg hj]; exact ⟨_, rfl⟩
theorem call_min2 (hc : X.calm = true) : CallR X (.builtin "min") (fun xs H Q => ∃ i j, xs = [.int i, .int j] ∧ Q (.int (if j < i then j else i)) H) := by
  intro pins s σ H xs us Q I r h
  obtain ⟨i, j, rfl, q⟩ := h
  obtain ⟨u, w', rfl, ⟨t, rfl⟩, ⟨t', rfl⟩⟩ := vals2 r
  refine min_two_ints (I.ok.hd hc) fun h' tk k => ⟨_, H, I.kept k, ?_, q⟩
  by_cases hj : j < i
  · rw [if_pos hj, if_pos hj]; exact ⟨_, rfl⟩
  · rw [if_neg hj, if_neg hj]; exact ⟨_, rfl⟩
end
end L2
namespace L2
open PySem PySem.Spec PyProof.Rows
structure ObjM (h : Heap) (x dx C : Addr) (mA : Str → Option Value) : Prop where
  obj : h.get? x = some (PySem.W.instObj C dx)
  ns : h.Ns1 dx mA
  ne : dx ≠ x
theorem lookIn_ns {h : Heap} {dx : Addr} {mA : Str → Option Value} (n : h.Ns1 dx mA) : ∃ od, h.get? dx = some od ∧ ∀ name, PySem.W.lookIn name od = some (mA name) := by
  obtain ⟨o, es, ep, ho, hd, hk, _, hm⟩ := n
  refine ⟨o, ho, fun name => ?_⟩
  have e := hm name
  unfold nsFind findBy at e
  rw [← Array.find?_toList] at e
  unfold PySem.W.lookIn
  rw [hd]
  dsimp only
  split
  · rename_i y q
    rw [q] at e
    exact congrArg some e
  · rename_i q
    rw [q] at e
    have a : es.toList.any (·.refKey) = false := by
      rw [List.any_eq_false]
      intro y hy
      obtain ⟨z, t, hkey⟩ := hk y (Array.mem_toList_iff.mp hy)
      simp [DictEntry.refKey, hkey]
    have a' : ¬ es.toList.any (·.refKey) = true := by rw [a]; exact Bool.false_ne_true
    rw [if_neg a']
    exact congrArg some e
theorem ObjM.look {h : Heap} {x dx C : Addr} {mA : Str → Option Value} (I : ObjM h x dx C mA) : ∃ od, PySem.W.InstAt h x (PySem.W.instObj C dx) C (some od) ∧ ∀ name, PySem.W.lookIn name od = some (mA name) :=
  let ⟨od, ho, hl⟩ := lookIn_ns I.ns
  ⟨od, ⟨I.obj, rfl, rfl, ho⟩, hl⟩
section
variable {prog : Program} {w : World} {A : Around} {E : Value → Shared → Prop} {s : Shared} {K : PySem.W.Frag} {x dx C f : Addr} {mA : Str → Option Value} {name : Str} {v : Value}
end
section
variable {P : Program} {w : World} {H H' : Hp} {h h' : Heap} {a C dx : Addr} {fs fs' : List (Str × V)}
theorem ins_get (hok : HOk P w H h) (e : H a = some (.ins C dx fs)) : ∃ mA, ObjM h a dx C mA ∧ (∀ f, RelO (fs.lookup f) (mA f)) ∧ PySem.Within mA (fs.map (·.1)) ∧ fs.length ≤ 1000 ∧ H dx = some (.own a) := by
  obtain ⟨d, z, ne, ob, mA, n, r, q⟩ := (show ObjOk P w H h a (.ins C dx fs) from hok a _ e)
  exact ⟨mA, ⟨ob, n, ne⟩, r, q, z, d⟩
end
structure Cls (K : PySem.W.Frag) (C : Addr) : Prop where
  pg : PySem.W.plainGet K C Str.empty = true
  hd : PySem.W.hasDictIn K C = true
  po : PySem.W.plainOver K C = true
  sa : PySem.W.findIn K (.ref C) "__setattr__" = some (some (.builtin "object.__setattr__"))
theorem Cls.get {K : PySem.W.Frag} {C : Addr} (c : Cls K C) (f : Str) : PySem.W.plainGet K C f = true := c.pg
structure Con (K : PySem.W.Frag) (C : Addr) (f : Str) (v : V) (u : Value) : Prop where
  at_ : PySem.W.findIn K (.ref C) f = some (some u)
  rel : RelV v u
  get : PySem.W.specialIn K u "__get__" = some none
  cp : PySem.W.copiedNames.contains f = false
structure Meth (K : PySem.W.Frag) (C : Addr) (m : Str) (f : Addr) : Prop where
  at_ : PySem.W.findIn K (.ref C) m = some (some (.ref f))
  fn : PySem.W.isFn K (.ref f) = true
  kp : PySem.W.keepIn K (.ref f) = true
section
variable {X : Cx} {pins : List (Addr × Obj)} {σ : St} {H : Hp} {s : Shared} {a C dx : Addr} {fs : List (Str × V)} {f : Str} {v : V} {A : Around} {E : Value → Shared → Prop}
theorem Inv.made (I : Inv X pins σ H s) : Inv X pins σ (upd (upd H s.heap.objs.size (.own (s.heap.objs.size + 1))) (s.heap.objs.size + 1) (.ins C s.heap.objs.size []))
    { s with heap := (s.heap.push PySem.W.emptyDict).push (PySem.W.instObj C s.heap.objs.size) } := by
  have e1 : (s.heap.push PySem.W.emptyDict).get? s.heap.objs.size = some PySem.W.emptyDict := Heap.get?_push_size s.heap rfl
  have e2 : ((s.heap.push PySem.W.emptyDict).push (PySem.W.instObj C s.heap.objs.size)).get? (s.heap.objs.size + 1) = some (PySem.W.instObj C s.heap.objs.size) := by
    have := Heap.get?_push_size (s.heap.push PySem.W.emptyDict) (o := PySem.W.instObj C s.heap.objs.size) rfl
    rwa [Heap.size_push] at this
  have e3 : (s.heap.push PySem.W.emptyDict).Ns s.heap.objs.size (fun _ => none) := ⟨PySem.W.emptyDict, #[], _, e1, rfl, (fun e he => absurd he (by simp)), fun _ => rfl⟩
  have I1 := I.laid (a := s.heap.objs.size) (o := .own (s.heap.objs.size + 1)) (h' := s.heap.push PySem.W.emptyDict) (t' := s.toks) (fun b u q => Heap.get?_push_of_some _ q) (Nat.le_refl _) ⟨_, e1⟩
  refine I1.laid (a := s.heap.objs.size + 1) (o := .ins C s.heap.objs.size []) (t' := s.toks) (fun b u q => Heap.get?_push_of_some _ q) (Nat.le_of_eq (Heap.size_push _ _)) ?_
  have ne : s.heap.objs.size ≠ s.heap.objs.size + 1 := Nat.ne_of_lt (Nat.lt_succ_self _)
  refine ⟨by rw [upd_ne ne, upd_same], Nat.zero_le _, ne, e2, fun _ => none, (Heap.Ns1.of_empty e3).at fun o q => Heap.get?_push_of_some _ q, fun _ => True.intro, fun y hy => absurd rfl hy⟩
end
section
variable {X : Cx} {o e value : Expr} {f : Str} {pos pos' tpos : Pos} {ta tv : TE}
end
section
variable {X : Cx} {pins : List (Addr × Obj)} {σ : St} {H : Hp} {s : Shared} {A : Around} {E : Value → Shared → Prop} {Q : Value → Shared → Prop} {c : Value} {b : Bool}
inductive TyOf (K : PySem.W.Frag) (H : Hp) : V → Value → Prop where
  | non : TyOf K H .non (.type "NoneType")
  | bl (x : Bool) : TyOf K H (.bl x) (.type "bool")
  | int (i : Int) : TyOf K H (.int i) (.type "int")
  | str (x : Str) : TyOf K H (.str x) (.type "str")
  | flt (x : UInt64) : TyOf K H (.flt x) (.type "float")
  | lst {a : Addr} {xs : List V} (e : H a = some (.lst xs)) : TyOf K H (.ref a) (.type "list")
  | frz {a : Addr} {o : Obj} {xs : List V} (e : H a = some (.frz o (.lst xs))) : TyOf K H (.ref a) (.type "list")
  | tup {a : Addr} {xs : List V} (e : H a = some (.tup xs)) : TyOf K H (.ref a) (.type "tuple")
  | dK {a : Addr} {kvs : List (Key × V)} (e : H a = some (.dK kvs)) : TyOf K H (.ref a) (.type "dict")
  | dT {a : Addr} {kvs : List (List Key × V)} (e : H a = some (.dT kvs)) : TyOf K H (.ref a) (.type "dict")
  | ins {a C dx : Addr} {fs : List (Str × V)} (e : H a = some (.ins C dx fs)) (cl : Cls K C) (ha : PySem.W.findIn K (.ref C) "__class__" = some (some (.builtin "object.__class__")))
      (hn : PySem.W.specialIn K (.builtin "object.__class__") "__get__" = some (some (.builtin "getset_descriptor.__get__"))) (htk : PySem.W.takesIn K (.builtin "object.__class__") = some true)
      (hm : PySem.W.mroIn K C (.type "object") = some true) : TyOf K H (.ref a) (.ref C)
theorem isinst_ok {x : V} {u t : Value} (I : Inv X pins σ H s) (rx : RelV x u) (ty : TyOf X.K H x t) (e : PySem.W.kitOne X.K t c = some b) (h : ∀ tk, Q (.bool b) { s with toks := tk }) :
    wpAny (model X.prog X.w) A (call (.builtin "isinstance") [u, c]) Q E s := by
  cases ty with
  | non => cases (show u = Value.none from rx); exact PySem.W.kia_one PySem.W.kitx_none I.kIn True.intro e (fun z => nomatch z) h
  | bl y => cases (show u = Value.bool y from rx); exact PySem.W.kia_one PySem.W.kitx_bool I.kIn True.intro e (fun z => nomatch z) h
  | int i => obtain ⟨t, q⟩ := (show ∃ t, u = Value.int i t from rx); cases q; exact PySem.W.kia_one PySem.W.kitx_int I.kIn True.intro e (fun z => nomatch z) h
  | str y => obtain ⟨t, q⟩ := (show ∃ t, u = Value.str y t from rx); cases q; exact PySem.W.kia_one PySem.W.kitx_str I.kIn True.intro e (fun z => nomatch z) h
  | flt y => obtain ⟨t, q⟩ := (show ∃ t, u = Value.float y t from rx); cases q; exact PySem.W.kia_one PySem.W.kitx_float I.kIn True.intro e (fun z => nomatch z) h
  | @lst a xs ea =>
    cases (show u = Value.ref a from rx)
    obtain ⟨_, _, n, _, h1⟩ := (show ObjOk X.prog X.w H s.heap a (.lst xs) from I.hok a _ ea)
    exact PySem.W.kia_one PySem.W.kitx_list I.kIn ⟨_, h1, rfl⟩ e (fun z => nomatch z) h
  | @frz a ob xs ea =>
    cases (show u = Value.ref a from rx)
    obtain ⟨_, _, _, n, _, h1⟩ := (show ObjOk X.prog X.w H s.heap a (.frz ob (.lst xs)) from I.hok a _ ea)
    exact PySem.W.kia_one PySem.W.kitx_list I.kIn ⟨_, h1, rfl⟩ e (fun z => nomatch z) h
  | @tup a xs ea =>
    cases (show u = Value.ref a from rx)
    obtain ⟨_, _, _, p⟩ := (show ObjOk X.prog X.w H s.heap a (.tup xs) from I.hok a _ ea)
    obtain ⟨o, h1, h2, _⟩ := p
    exact PySem.W.kia_one PySem.W.kitx_tuple I.kIn ⟨o, h1, h2⟩ e (fun z => nomatch z) h
  | @dK a kvs ea =>
    cases (show u = Value.ref a from rx)
    obtain ⟨_, _, vs, _, p⟩ := (show ObjOk X.prog X.w H s.heap a (.dK kvs) from I.hok a _ ea)
    obtain ⟨o, es, ep, h1, h2, _⟩ := p
    exact PySem.W.kia_one PySem.W.kitx_dict I.kIn ⟨o, h1, h2.1⟩ e (fun z => nomatch z) h
  | @dT a kvs ea => exact False.elim (show ObjOk X.prog X.w H s.heap a (.dT kvs) from I.hok a _ ea)
  | @ins a C dx fs ea cl ha hn htk hm =>
    cases (show u = Value.ref a from rx)
    obtain ⟨mA, O, _⟩ := ins_get I.hok ea
    obtain ⟨od, J, _⟩ := O.look
    exact PySem.W.kia_one (PySem.W.kitx_own (cl.get _) cl.hd ha hn htk hm) I.kIn J e (fun z => nomatch z) h
end
end L2
namespace L2
open PySem PySem.Spec PyProof.Rows
structure Room (k : Nat) (A : Around) : Prop where
  hd : A.handled = none
  dp : A.depth + 3 * k + 5 < recursionLimit
  un : A.units + 16 * k + 200 < cLine
theorem Room.mono {j k : Nat} {A : Around} (r : Room k A) (h : j ≤ k) : Room j A := ⟨r.hd, by have := r.dp; omega, by have := r.un; omega⟩
theorem Room.deeper {k : Nat} {A : Around} (r : Room (k + 1) A) (env : Env) : Room k (A.deeper env) :=
  ⟨r.hd, by have := r.dp; show A.depth + 1 + 3 * k + 5 < _; omega, by have := r.un; show A.units + 3 + 16 * k + 200 < _; omega⟩
theorem Room.depth {k : Nat} {A : Around} (r : Room k A) : A.depth < recursionLimit := by have := r.dp; omega
theorem Room.units {k : Nat} {A : Around} (r : Room k A) : A.units + 64 < cLine := by have := r.un; omega
def tNil : TA := fun _ H Q => Q [] H
def tCons (ta : TE) (tr : TA) : TA := fun σ H Q => ta σ H fun x H1 => tr σ H1 fun xs H2 => Q (x :: xs) H2
section
variable {X : Cx} {e : Expr} {es : List Expr} {te : TE} {t : TA} {pos : Pos}
theorem pa_nil : PA X [] tNil := fun _ _ _ _ H Q I h => Calls.spliced_nil ⟨[], H, I, .nil, h⟩
theorem pa_cons (ha : PE X e te) (hr : PA X es t) (hs : starEach (e :: es) X.env = (false, eval e X.env) :: starEach es X.env := by rfl) : PA X (e :: es) (tCons te t) := by
  intro pos pins s σ H Q I h
  rw [hs]
  show wpAny _ _ (spliced ((false, eval e X.env) :: backTo pos (starEach es X.env))) _ _ s
  refine Calls.spliced_cons (thn (ha pins s σ H _ I h) fun u s1 ⟨x, H1, I1, r1, q1⟩ => ?_)
  exact thn (hr pos pins s1 σ H1 _ I1 q1) fun us s2 ⟨xs, H2, I2, r2, q2⟩ => ⟨x :: xs, H2, I2, .cons r1 r2, q2⟩
def tTup (t : TA) : TE := fun σ H Q => t σ H fun xs H1 => xs.length ≤ sizeLine ∧ ∀ p, H1 p = none → Q (.ref p) (upd H1 p (.tup xs))
def tLst (t : TA) : TE := fun σ H Q => t σ H fun xs H1 => xs.length ≤ sizeLine ∧ ∀ p, H1 p = none → Q (.ref p) (upd H1 p (.lst xs))
theorem pe_tup {x1} (h : PA X es t) : PE X (.Tuple es x1 pos) (tTup t) := by
  intro pins s σ H Q I hq
  refine wpAny_Tuple_spliced (thn (h pos pins s σ H _ I hq) fun us s1 ⟨xs, H1, I1, r, z, q⟩ => ⟨by rw [← r.length]; exact z, ?_⟩)
  have hf : H1 s1.heap.objs.size = none := I1.hok.fresh (Nat.le_refl _)
  refine ⟨.ref s1.heap.objs.size, upd H1 s1.heap.objs.size (.tup xs), I1.laid (t' := s1.toks) (fun b u e => Heap.get?_push_of_some _ e) (Nat.le_refl _) ?_, rfl, q _ hf⟩
  exact ⟨z, us, r, ⟨_, Heap.get?_push_size _ rfl, rfl, _, rfl⟩⟩
theorem pe_lst (h : PA X es t) : PE X (.List es pos) (tLst t) := by
  intro pins s σ H Q I hq
  refine wpAny_List_spliced (thn (h pos pins s σ H _ I hq) fun us s1 ⟨xs, H1, I1, r, z, q⟩ => ⟨by rw [← r.length]; exact z, ?_⟩)
  have hf : H1 s1.heap.objs.size = none := I1.hok.fresh (Nat.le_refl _)
  refine ⟨.ref s1.heap.objs.size, upd H1 s1.heap.objs.size (.lst xs), I1.laid (t' := s1.toks) (fun b u e => Heap.get?_push_of_some _ e) (Nat.le_refl _) ?_, rfl, q _ hf⟩
  exact ⟨z, us, 0, r, Heap.get?_push_size _ rfl⟩
end
abbrev Sp := List V → Hp → VK → XK → Prop
abbrev CXT := List Env → Hp → Shared → XK → Value → Shared → Prop
structure Env0 (P : Program) (w : World) (K : PySem.W.Frag) (mg : Str → Option Value) (base : Heap) (A : Around) (outer : List Env) (s : Shared) (H : Hp) : Prop where
  frames : A.frames = some outer
  mod : Mod K mg base
  bs : ∀ b o, base.get? b = some o → s.heap.get? b = some o ∧ H b = none
  bsz : base.objs.size ≤ s.heap.objs.size
  funs : s.heap.FunFrames base outer
  frf : ∀ b ∈ frs outer, H b = none
  hok : HOk P w H s.heap
  bare : AllBare s.gens
def CE (outer : List Env) (P : Program) (w : World) (H : Hp) (s : Shared) (Q : VK) (u : Value) (s' : Shared) : Prop :=
  ∃ v H', s'.os = s.os ∧ AllBare s'.gens ∧ Un (frs outer) [] H H' s.heap s'.heap ∧ HOk P w H' s'.heap ∧ RelV v u ∧ Q v H'
def CR (CX : CXT) (outer : List Env) (P : Program) (w : World) (H : Hp) (s : Shared) (Q : VK) (E : XK) (r : Result) (s' : Shared) : Prop :=
  match r with
  | .ok (.ret u) => CE outer P w H s Q u s'
  | .ok _ => False
  | .error e => CX outer H s E e s'
structure FnOk (P : Program) (w : World) (K : PySem.W.Frag) (mg : Str → Option Value) (base : Heap) (CX : CXT) (k : Nat) (f : Addr) (fd : FuncData) (ps : List Str) (sp : Sp) : Prop where
  len : ∀ vs H Q E, sp vs H Q E → vs.length = ps.length
  run : ∀ (A : Around) (outer : List Env) (s : Shared) (H : Hp) (args : Args) (us : List Value) (vs : List V) (Q : VK) (E : XK), Room k A → Env0 P w K mg base A outer s H → BindsTo s fd args (ps.zip us) → Vals vs us → sp vs H Q E →
    codeAny (model P w) A (.call (.ref f) args) (CR CX outer P w H s Q E) s
theorem FnOk.mono {P : Program} {w : World} {K : PySem.W.Frag} {mg : Str → Option Value} {base : Heap} {CX : CXT} {j k : Nat} {f : Addr} {fd : FuncData} {ps : List Str} {sp : Sp} (F : FnOk P w K mg base CX j f fd ps sp) (h : j ≤ k) :
    FnOk P w K mg base CX k f fd ps sp := ⟨F.len, fun A outer s H args us vs Q E hr => F.run A outer s H args us vs Q E (hr.mono h)⟩
theorem FnOk.imp {P : Program} {w : World} {K : PySem.W.Frag} {mg : Str → Option Value} {base : Heap} {CX : CXT} {k : Nat} {f : Addr} {fd : FuncData} {ps : List Str} {sp sp' : Sp} (F : FnOk P w K mg base CX k f fd ps sp)
    (h : ∀ vs H Q E, sp' vs H Q E → sp vs H Q E) : FnOk P w K mg base CX k f fd ps sp' :=
  ⟨fun vs H Q E q => F.len vs H Q E (h _ _ _ _ q), fun A outer s H args us vs Q E hr he hb hv hs => F.run A outer s H args us vs Q E hr he hb hv (h _ _ _ _ hs)⟩
section
variable {X : Cx} {pins : List (Addr × Obj)} {σ : St} {H : Hp} {s s' : Shared}
theorem Inv.env0 (I : Inv X pins σ H s) : Env0 X.prog X.w X.K X.mg X.base X.A X.stack s H :=
  ⟨I.ok.frames, I.ok.mod, I.bs, Nat.le_trans I.ok.bsz I.sz, I.stack, I.stkFree, I.hok, I.bare⟩
theorem Inv.after {Q : VK} {u : Value} (I : Inv X pins σ H s) (h : CE X.stack X.prog X.w H s Q u s') : EP X pins σ Q u s' := by
  obtain ⟨v, H', os, bare, un, hok, r, q⟩ := h
  obtain ⟨hh, g, d, t, os'⟩ := s'
  obtain rfl : os' = s.os := os
  exact ⟨v, H', I.call (h' := hh) (g' := g) (d' := d) (t' := t) (ch := []) un hok bare (fun b z => absurd z (by simp)), r, q⟩
end
def tCall (sp : Sp) (dvs : List V) (E : XK) (t : TA) : TE := fun σ H Q => t σ H fun vs H1 => sp (vs ++ dvs) H1 Q E
def Binds (K : PySem.W.Frag) (fd : FuncData) (ps : List Str) (ds : List Value) : Prop :=
  ∀ (s : Shared) (us : List Value), K.In s.heap → (us ++ ds).length = ps.length → BindsTo s fd ⟨us, []⟩ (ps.zip (us ++ ds))
theorem Binds.all {K : PySem.W.Frag} {fd : FuncData} {ps : List Str} (h : ∀ us : List Value, us.length = ps.length → bindArgs fd ⟨us, []⟩ = pure (ps.zip us)) : Binds K fd ps [] := fun s us _ hl => by
  rw [List.append_nil] at hl ⊢
  exact .of_eq (h us hl)
def Passes (CX : CXT) (X : Cx) (E : XK) : Prop := ∀ (pins : List (Addr × Obj)) (σ : St) (H : Hp) (s : Shared) (e : Value) (s' : Shared), Inv X pins σ H s → CX X.stack H s E e s' → X.xe e s'
section
variable {X : Cx} {CX : CXT} {k : Nat} {f C : Addr} {fd : FuncData} {ps : List Str} {sp : Sp} {dvs : List V} {ds : List Value} {E : XK} {x m : Str} {p pos apos : Pos} {e o : Expr} {es : List Expr} {ta : TE} {t : TA}
theorem run_fn {pins : List (Addr × Obj)} {σ : St} {H : Hp} {s : Shared} {Q : VK} {us : List Value} {vs : List V} (F : FnOk X.prog X.w X.K X.mg X.base CX k f fd ps sp) (hr : Room k X.A) (hb : Binds X.K fd ps ds) (hd : Vals dvs ds) (hx : Passes CX X E)
    (I : Inv X pins σ H s) (r : Vals vs us) (h : sp (vs ++ dvs) H Q E) : wpAny (model X.prog X.w) X.A (call (.ref f) us) (EP X pins σ Q) X.xe s := by
  have r2 : Vals (vs ++ dvs) (us ++ ds) := r.append hd
  have hl : (us ++ ds).length = ps.length := by rw [← r2.length]; exact F.len _ _ _ _ h
  refine wpAny_call (codeAny_mono (F.run X.A X.stack s H ⟨us, []⟩ (us ++ ds) (vs ++ dvs) Q E hr I.env0 (hb s us I.kIn hl) r2 h) fun r s' hq => ?_)
  cases r with
  | error e => exact hx pins σ H s e s' I hq
  | ok fl =>
    cases fl with
    | ret u => exact I.after hq
    | next => exact False.elim hq
    | brk => exact False.elim hq
    | cont => exact False.elim hq
theorem pe_call (F : FnOk X.prog X.w X.K X.mg X.base CX k f fd ps sp) (hr : Room k X.A) (hg : Gl X x) (hm : X.mg x = some (.ref f)) (hk : PySem.W.keepIn X.K (.ref f) = true) (hb : Binds X.K fd ps ds) (hd : Vals dvs ds) (hx : Passes CX X E)
    (ha : PA X (e :: es) t) (hdb : (x == ("__debug__" : Str)) = false := by decide) (he : starEach (e :: es) X.env = (false, eval e X.env) :: starEach es X.env := by rfl) (hpl : (backTo pos (starEach es X.env)).any (·.1) = false := by rfl) :
    PE X (.Call (.Name x p) (e :: es) [] pos) (tCall sp dvs E t) := by
  intro pins s σ H Q I h
  refine wpAny_Call_Name_kw (ld_glob I hg hm ?_ hdb)
  refine PySem.W.callWith_K (h₀ := X.base) I.ok.mod.kin hk (thn (ha pos pins s σ H _ I h) fun us s1 ⟨vs, H1, I1, r, q⟩ => ⟨I1.kIn, ?_⟩) he hpl
  exact run_fn F hr hb hd hx I1 r q
structure Mk (K : PySem.W.Frag) (C f : Addr) : Prop where
  makes : PySem.W.makesIn K C = true
  init : PySem.W.findIn K (.ref C) "__init__" = some (some (.ref f))
  fn : PySem.W.isFn K (.ref f) = true
  kp : PySem.W.keepIn K (.ref C) = true
end
section
variable {X : Cx} {CX : CXT} {k : Nat} {f C : Addr} {fd : FuncData} {ps ks : List Str} {sp : Sp} {E : XK} {x m : Str} {p pos apos kpos : Pos} {e o : Expr} {es : List Expr} {kws : List Keyword} {te ta : TE} {t tk : TA} {nm : Option Str}
structure KBinds (K : PySem.W.Frag) (fd : FuncData) (ps ks : List Str) (g : List Value → List Value → List Value) (gV : List V → List V → List V) : Prop where
  to : ∀ (s : Shared) (us ws : List Value), K.In s.heap → (g us ws).length = ps.length → BindsTo s fd ⟨us, ks.zip ws⟩ (ps.zip (g us ws))
  rel : ∀ {vs : List V} {us : List Value} {zs : List V} {ws : List Value}, Vals vs us → Vals zs ws → Vals (gV vs zs) (g us ws)
variable {g : List Value → List Value → List Value} {gV : List V → List V → List V}
end
structure FnScope (N P : List Str) (sc : Scope) : Prop where
  kind : sc.kind = .function
  co : sc.isCoroutine = false
  gen : sc.isGenerator = false
  nd : N.Nodup
  pre : N.take P.length = P
  par : ∀ x ∈ P, sc.names.lookup x = some .local ∨ sc.names.lookup x = some .cell
  nofree : ∀ y ∈ sc.names, y.2 ≠ .free
theorem bindL_out {kindOf : Str → Option NameKind} {x : Str} : ∀ {binds : List (Str × Value)} {m : Str → Option Value}, (∀ v, (x, v) ∉ binds) → bindL kindOf binds m x = m x
  | [], _, _ => rfl
  | (n, v) :: r, m, h => by
    unfold bindL
    rw [bindL_out fun w hw => h w (List.mem_cons_of_mem _ hw)]
    split
    · have : x ≠ n := by rintro rfl; exact h v List.mem_cons_self
      simp [this]
    · rfl
theorem bindC_out {kindOf : Str → Option NameKind} {x : Str} : ∀ {binds : List (Str × Value)} {m : Str → Option Value}, (∀ v, (x, v) ∉ binds) → bindC kindOf binds m x = m x
  | [], _, _ => rfl
  | (n, v) :: r, m, h => by
    unfold bindC
    rw [bindC_out fun w hw => h w (List.mem_cons_of_mem _ hw)]
    split
    · rfl
    · have : x ≠ n := by rintro rfl; exact h v List.mem_cons_self
      simp [this]
theorem bindL_get {kindOf : Str → Option NameKind} {x : Str} {v : Value} : ∀ {P : List Str} {vs : List Value} {i : Nat} {m : Str → Option Value}, P.Nodup → P[i]? = some x → vs[i]? = some v → kindOf x = some .local →
    bindL kindOf (P.zip vs) m x = some v
  | [], _, _, _, _, h, _, _ => by simp at h
  | _ :: _, [], _, _, _, _, h, _ => by simp at h
  | p :: P, w :: vs, 0, m, nd, h1, h2, hk => by
    simp at h1 h2; subst h1; subst h2
    show bindL kindOf ((p, w) :: P.zip vs) m p = _
    unfold bindL
    rw [bindL_out fun v hv => (List.nodup_cons.mp nd).1 (List.of_mem_zip hv).1, if_pos hk]
    simp
  | p :: P, w :: vs, i + 1, m, nd, h1, h2, hk => by
    show bindL kindOf ((p, w) :: P.zip vs) m x = _
    unfold bindL
    exact bindL_get (i := i) (List.nodup_cons.mp nd).2 (by simpa using h1) (by simpa using h2) hk
theorem bindC_get {kindOf : Str → Option NameKind} {x : Str} {v : Value} : ∀ {P : List Str} {vs : List Value} {i : Nat} {m : Str → Option Value}, P.Nodup → P[i]? = some x → vs[i]? = some v → kindOf x ≠ some .local →
    bindC kindOf (P.zip vs) m x = some v
  | [], _, _, _, _, h, _, _ => by simp at h
  | _ :: _, [], _, _, _, _, h, _ => by simp at h
  | p :: P, w :: vs, 0, m, nd, h1, h2, hk => by
    simp at h1 h2; subst h1; subst h2
    show bindC kindOf ((p, w) :: P.zip vs) m p = _
    unfold bindC
    rw [bindC_out fun v hv => (List.nodup_cons.mp nd).1 (List.of_mem_zip hv).1, if_neg hk]
    simp
  | p :: P, w :: vs, i + 1, m, nd, h1, h2, hk => by
    show bindC kindOf ((p, w) :: P.zip vs) m x = _
    unfold bindC
    exact bindC_get (i := i) (List.nodup_cons.mp nd).2 (by simpa using h1) (by simpa using h2) hk
def start (N : List Str) (vs : List V) : St := vs.map some ++ List.replicate (N.length - vs.length) none
def cxOf (CX : CXT) (P : Program) (w : World) (K : PySem.W.Frag) (mg : Str → Option Value) (base : Heap) (N : List Str) (qual : Str) (scope : Scope) (f : Addr) (cd : Value) (A : Around) (outer : List Env) (s : Shared) (H : Hp) (E : XK) : Cx where
  prog := P
  w := w
  K := K
  mg := mg
  base := base
  A := A.deeper (envOfC qual scope s.heap.objs.size f cd)
  N := N
  s₀ := s
  H₀ := H
  env := envOfC qual scope s.heap.objs.size f cd
  outer := outer
  stack := envOfC qual scope s.heap.objs.size f cd :: outer
  ex := []
  calm := true
  fn := fun _ => true
  pn := []
  xe := fun e s' => wpAny (model P w) (A.deeper (envOfC qual scope s.heap.objs.size f cd)) (leaving (envOfC qual scope s.heap.objs.size f cd) e) (fun _ s'' => CX outer H s E e s'') (fun e' s'' => CX outer H s E e' s'') s'
theorem cell_has {sc : Scope} {n : Nat} {x : Str} (h : sc.names.lookup x = some .cell) : ∃ c, (cellsFrom n sc.names []).lookup x = some c := by
  have q := PySem.W.cellsFrom_some sc.names n [] (.inl h)
  exact Option.isSome_iff_exists.mp q
theorem inv_start {CX : CXT} {P : Program} {w : World} {K : PySem.W.Frag} {mg : Str → Option Value} {base : Heap} {N ps : List Str} {qual : Str} {scope : Scope} {f : Addr} {cd : Value} {A : Around} {outer : List Env} {s s1 : Shared} {H : Hp} {E : XK} {us : List Value} {vs : List V}
    (S : FnScope N ps scope) (hd : A.handled = none) (e0 : Env0 P w K mg base A outer s H) (hl : vs.length = ps.length) (r : Vals vs us)
    (x : InCallC s s.heap.objs.size (bindL (envOfC qual scope s.heap.objs.size f cd).kindOf (ps.zip us) fun _ => none) (cellsFrom (s.heap.objs.size + 1) scope.names []) (bindC (envOfC qual scope s.heap.objs.size f cd).kindOf (ps.zip us) fun _ => none) s1) :
    Inv (cxOf CX P w K mg base N qual scope f cd A outer s H E) [] (start N vs) H s1 := by
  have hpl : ps.length ≤ N.length := by have := congrArg List.length S.pre; rw [List.length_take] at this; omega
  obtain ⟨h1, tk, rfl, hk⟩ := x.done
  have noA : ∀ b : Addr, b ∉ (cxOf CX P w K mg base N qual scope f cd A outer s H E).ex := fun b z => absurd (show b ∈ ([] : List Addr) from z) (by simp)
  refine ⟨⟨e0.mod, S.kind, rfl, rfl, Nat.le_refl _, fun y z c h1 h2 => ?_, fun y hy => ?_, fun y c _ h => ?_, fun _ => hd, Around.frames_deeper e0.frames, .inr ⟨rfl, rfl⟩, fun b z => absurd z (noA b), e0.bs, e0.bsz, fun b _ _ => noA b, fun b z => absurd z (noA b), e0.funs, e0.frf⟩,
    rfl, e0.bare, Un.kept hk, ⟨_, x.toInCall.ns, fun i y v h1 h2 h3 => ?_⟩, fun y c h => ⟨_, x.cell y c h⟩, e0.hok.fresh (Nat.le_refl _), fun y c h => ?_, fun p hp => absurd (show p ∈ ([] : List (Addr × Obj)) from hp) (by simp), e0.hok.kept hk, ?_⟩
  · exact name_of_addr x.apart (PySem.mem_of_lookup h1) (PySem.mem_of_lookup h2)
  · have hy : scope.names.lookup y = some .cell ∨ scope.names.lookup y = some .free := hy
    rcases hy with hy | hy
    · exact cell_has hy
    · exact absurd rfl (S.nofree _ (PySem.mem_of_lookup hy))
  · exact Nat.le_of_lt (x.above y c (PySem.mem_of_lookup h))
  · have hi : i < vs.length := by
      unfold start at h2
      by_cases hi : i < vs.length
      · exact hi
      · rw [List.getElem?_append_right (by simpa using hi)] at h2
        rw [List.getElem?_replicate] at h2
        split at h2 <;> cases h2
    have ha : vs[i]? = some v := by
      unfold start at h2
      rw [List.getElem?_append_left (by simpa using hi), List.getElem?_map] at h2
      cases e : vs[i]? with
      | none => rw [e] at h2; cases h2
      | some a => rw [e] at h2; cases h2; rfl
    obtain ⟨u, hu, rv⟩ := r.get ha
    have hp : ps[i]? = some y := by
      rw [← S.pre, List.getElem?_take_of_lt (by omega)]; exact h1
    have ndP : ps.Nodup := by rw [← S.pre]; exact S.nd.sublist (List.take_sublist _ _)
    refine ⟨u, rv, ?_⟩
    rcases S.par y (List.mem_of_getElem? hp) with k | k
    · exact .inl ⟨k, bindL_get ndP hp hu k⟩
    · obtain ⟨c, e⟩ := cell_has (n := s.heap.objs.size + 1) k
      refine .inr ⟨.inl k, c, e, ?_⟩
      have q := x.cell y c e
      rw [bindC_get ndP hp hu (by show scope.names.lookup y ≠ _; rw [k]; decide)] at q
      exact q
  · exact e0.hok.fresh (Nat.le_of_lt (x.above y c (PySem.mem_of_lookup h)))
  · unfold start
    show _ = N.length
    rw [List.length_append, List.length_map, List.length_replicate]
    omega
theorem fn_of {CX : CXT} {P : Program} {w : World} {K : PySem.W.Frag} {mg : Str → Option Value} {base : Heap} {k : Nat} {f : Addr} {name qual : Str} {params : Arguments} {body : List Stmt} {scope : Scope} {dV kV doc pm cdv ct oc : Value} {an od : Option Addr}
    {osl : Array (Option Value)} {N ps : List Str} {sp : Sp} (lk : K.lookup f = some ⟨oc, od, .func (PySem.W.fnOf name qual params body scope dV kV doc pm an cdv ct), osl⟩) (hcd : PySem.W.codeIn K cdv qual = true) (S : FnScope N ps scope)
    (len : ∀ vs H Q E, sp vs H Q E → vs.length = ps.length)
    (hbody : ∀ (A : Around) (outer : List Env) (s : Shared) (H : Hp) (vs : List V) (Q : VK) (E : XK), Room k (A.deeper (envOfC qual scope s.heap.objs.size f cdv)) → sp vs H Q E →
      ∃ t, PSs (cxOf CX P w K mg base N qual scope f cdv A outer s H E) body t ∧ t { nx := fun _ H' => Q .non H', rt := Q } (start N vs) H) :
    FnOk P w K mg base CX (k + 1) f (PySem.W.fnOf name qual params body scope dV kV doc pm an cdv ct) ps sp := by
  refine ⟨len, fun A outer s H args us vs Q E hr e0 hb r hsp => ?_⟩
  have hl := len _ _ _ _ hsp
  have KX : K.In s.heap := e0.mod.kin.keeps fun b o e => (e0.bs b o e).1
  have lim : s.heap.NoLimit := e0.mod.nolimit.keeps fun b o e => (e0.bs b o e).1
  have hkind : ∀ y ∈ ps.zip us, scope.names.lookup y.1 = some .local ∨ (scope.names.lookup y.1 = some .cell ∧ ((cellsFrom (s.heap.objs.size + 1) scope.names []).lookup y.1).isSome = true) := fun ⟨n, v⟩ hy => by
    rcases S.par n (List.of_mem_zip hy).1 with q | q
    · exact .inl q
    · exact .inr ⟨q, PySem.W.cellsFrom_some _ _ _ (.inl q)⟩
  refine codeAny_call_function hr.depth (KX _ _ lk) rfl S.co S.gen rfl (PySem.W.codeRec_of KX hcd) (hb _ _ _ _ ?_)
  refine wpAny_newFunctionEnv_cells S.kind hkind fun env he s1 x => ?_
  subst he
  refine ⟨lim.keeps x.toInCall.keep, codeAny_func ?_⟩
  obtain ⟨t, ht, hq⟩ := hbody A outer s H vs Q E (hr.deeper _) hsp
  have I : Inv (cxOf CX P w K mg base N qual scope f cdv A outer s H E) [] (start N vs) H s1 := inv_start S hr.hd e0 hl r x
  refine wpAny_mono (ht [] s1 (start N vs) H _ I hq) (fun fl s' hs => ?_) fun e s' hs => hs
  have fin : ∀ {σ' : St} {H' : Hp} {v : V} {u : Value}, Inv (cxOf CX P w K mg base N qual scope f cdv A outer s H E) [] σ' H' s' → RelV v u → Q v H' → CE outer P w H s Q u s' :=
    fun {σ' H' v u} J rv q => ⟨v, H', J.os, J.bare, J.base, J.hok, rv, q⟩
  cases fl with
  | ret u =>
    obtain ⟨v, σ', H', J, rv, q⟩ := hs
    exact fin J rv q
  | next =>
    obtain ⟨σ', H', J, q⟩ := hs
    exact fin (v := V.non) (u := Value.none) J rfl q
  | brk =>
    obtain ⟨_, _, _, q⟩ := hs
    exact False.elim q
  | cont =>
    obtain ⟨_, _, _, q⟩ := hs
    exact False.elim q
end L2
namespace L2
open PySem PySem.Spec PyProof.Rows
section
variable {X : Cx} {x : Str} {p pos : Pos} {e : Expr} {es : List Expr} {t : TA} {id T : String} {r : List V → Hp → VK → Prop}
def tCB (r : List V → Hp → VK → Prop) (t : TA) : TE := fun σ H Q => t σ H fun vs H1 => r vs H1 Q
theorem pe_callB (hc : CallR X (.builtin id) r) (hg : Gl X x) (hm : X.mg x = none) (hv : bootBuiltins x = some (.builtin id)) (ha : PA X (e :: es) t) (hn : x ≠ "__name__" := by decide) (hdb : (x == ("__debug__" : Str)) = false := by decide)
    (he : starEach (e :: es) X.env = (false, eval e X.env) :: starEach es X.env := by rfl) (hpl : (backTo pos (starEach es X.env)).any (·.1) = false := by rfl) : PE X (.Call (.Name x p) (e :: es) [] pos) (tCB r t) := by
  intro pins s σ H Q I h
  refine wpAny_Call_Name_kw (ld_blt I hg hm hv ?_ hn hdb)
  exact PyProof.Rows.callWith_builtin1 (thn (ha pos pins s σ H _ I h) fun us s1 ⟨vs, H1, I1, r1, q1⟩ => hc pins s1 σ H1 vs us Q I1 r1 q1) he hpl
theorem pe_callTy (hc : CallR X (.type T) r) (hg : Gl X x) (hm : X.mg x = none) (hv : bootBuiltins x = some (.type T)) (ha : PA X (e :: es) t) (hn : x ≠ "__name__" := by decide) (hdb : (x == ("__debug__" : Str)) = false := by decide)
    (he : starEach (e :: es) X.env = (false, eval e X.env) :: starEach es X.env := by rfl) (hpl : (backTo pos (starEach es X.env)).any (·.1) = false := by rfl) : PE X (.Call (.Name x p) (e :: es) [] pos) (tCB r t) := by
  intro pins s σ H Q I h
  refine wpAny_Call_Name_kw (ld_blt I hg hm hv ?_ hn hdb)
  exact PyProof.Rows.callWith_type1 (thn (ha pos pins s σ H _ I h) fun us s1 ⟨vs, H1, I1, r1, q1⟩ => hc pins s1 σ H1 vs us Q I1 r1 q1) he hpl
end
end L2
namespace HT
open PySem PyProof.Rows
section
open PySem.SeqAt
open PySem.AutoSeq1 (wpAny_loadPart')
open PySem.MeetsSeq PySem.MeetsSeq2 PySem.MeetsSeq3
end
section
variable {prog : Program} {w : World} {A : Around} {E : Value → Shared → Prop} {s : Shared}
def sIx (n d : Nat) : Option Int → Nat
  | none => d
  | some v => if v < 0 then (v + (n : Int)).toNat else min v.toNat n
theorem sIx_le (n d : Nat) (hd : d ≤ n) (o : Option Int) : sIx n d o ≤ n := by
  cases o with
  | none => exact hd
  | some v =>
    show (if v < 0 then (v + (n : Int)).toNat else min v.toNat n) ≤ n
    by_cases hv : v < 0
    · rw [if_pos hv]; omega
    · rw [if_neg hv]; exact Nat.min_le_right _ _
end
end HT
namespace L2
open PySem PySem.Spec PyProof.Rows
abbrev TO := St → Hp → (Option Int → Hp → Prop) → Prop
def PO (X : Cx) (e : Option Expr) (t : TO) : Prop :=
  ∀ (pins : List (Addr × Obj)) (s : Shared) (σ : St) (H : Hp) (Q : Option Int → Hp → Prop), Inv X pins σ H s → t σ H Q →
    wpAny (model X.prog X.w) X.A (evalPart e X.env) (fun u s' => ∃ o H', Inv X pins σ H' s' ∧ IsPart u o ∧ Q o H') X.xe s
def tNoPart : TO := fun _ H Q => Q none H
def tPart (t : TE) : TO := fun σ H Q => t σ H fun x H1 => ∃ i, x = .int i ∧ Q (some i) H1
section
variable {X : Cx} {e : Expr} {te : TE} {lo hi : Option Expr} {tl th : TO} {pos p2 : Pos}
theorem po_none : PO X none tNoPart := by
  intro pins s σ H Q I h
  rw [evalPart_none]
  exact wpAny_pure ⟨none, H, I, .none, h⟩
theorem po_some (h : PE X e te) : PO X (some e) (tPart te) := by
  intro pins s σ H Q I hw
  rw [evalPart_some]
  refine thn (h pins s σ H _ I hw) fun u s1 ⟨x, H1, I1, r1, q1⟩ => ?_
  obtain ⟨i, rfl, q⟩ := q1
  obtain ⟨t, rfl⟩ := r1
  exact ⟨some i, H1, I1, .int i t, q⟩
def SlR (X : Cx) (r : V → Option Int → Option Int → Hp → VK → Prop) : Prop :=
  ∀ (pins : List (Addr × Obj)) (s : Shared) (σ : St) (H : Hp) (x : V) (v vl vu : Value) (lo hi : Option Int) (sl : Addr) (Q : VK), Inv X pins σ H s → RelV x v → s.heap.IsSliceOf sl vl vu .none → IsPart vl lo → IsPart vu hi → r x lo hi H Q →
    ∃ T id, typeLookup (.type T) "__getitem__" = pure (some (.builtin id)) ∧ s.TypeIs v T ∧ wpAny (model X.prog X.w) X.A (getItem v (.ref sl)) (EP X pins σ Q) X.xe s
theorem SlR.or {r r' : V → Option Int → Option Int → Hp → VK → Prop} (h : SlR X r) (h' : SlR X r') : SlR X (fun x lo hi H Q => r x lo hi H Q ∨ r' x lo hi H Q) := by
  intro pins s σ H x v vl vu lo hi sl Q I rx hs pl pu q
  rcases q with q | q
  · exact h pins s σ H x v vl vu lo hi sl Q I rx hs pl pu q
  · exact h' pins s σ H x v vl vu lo hi sl Q I rx hs pl pu q
def tSl (r : V → Option Int → Option Int → Hp → VK → Prop) (te : TE) (tl th : TO) : TE := fun σ H Q => te σ H fun x H1 => tl σ H1 fun l H2 => th σ H2 fun u H3 => r x l u H3 Q
theorem pe_slice {r : V → Option Int → Option Int → Hp → VK → Prop} (hr : SlR X r) (he : PE X e te) (hl : PO X lo tl) (hu : PO X hi th) : PE X (.Subscript e (.Slice lo hi none p2) pos) (tSl r te tl th) := by
  intro pins s σ H Q I h
  refine Subscript_ (thn (he pins s σ H _ I h) fun v s1 ⟨x, H1, I1, r1, q1⟩ => ?_)
  refine wpAny_Slice (thn (hl pins s1 σ H1 _ I1 q1) fun vl s2 ⟨l, H2, I2, pl, q2⟩ => thn (hu pins s2 σ H2 _ I2 q2) fun vu s3 ⟨u, H3, I3, pu, q3⟩ => ?_)
  rw [evalPart_none]
  refine wpAny_pure ?_
  have I4 : Inv X pins σ H3 { s3 with heap := s3.heap.push { cls := .type "slice", data := .fields #[vl, vu, .none] } } := I3.kept (t' := s3.toks) fun b ob q => Heap.get?_push_of_some _ q
  obtain ⟨T, id, hT, ht, hg⟩ := hr pins { s3 with heap := s3.heap.push { cls := .type "slice", data := .fields #[vl, vu, .none] } } σ H3 x v vl vu l u s3.heap.objs.size Q I4 r1 (Heap.IsSliceOf.new ..) pl pu q3
  show wpAny (model X.prog X.w) X.A (subscriptTail e (.Slice lo hi none p2) v (.ref s3.heap.objs.size)) (EP X pins σ Q) X.xe { s3 with heap := s3.heap.push { cls := .type "slice", data := .fields #[vl, vu, .none] } }
  exact tail_any (ops := [.ref s3.heap.objs.size, v]) ht hT hg (by with_unfolding_all rfl)
def cutV (xs : List V) (lo hi : Option Int) : List V := (xs.drop (HT.sIx xs.length 0 lo)).take (HT.sIx xs.length xs.length hi - HT.sIx xs.length 0 lo)
theorem cutV_length (xs : List V) (lo hi : Option Int) : (cutV xs lo hi).length ≤ xs.length := by
  unfold cutV
  rw [List.length_take, List.length_drop]
  omega
end
end L2
namespace L2
open PySem PySem.Spec PyProof.Rows
def ixN (n : Nat) (i : Int) : Option Nat := if 0 ≤ i then (if i < n then some i.toNat else none) else if -(n : Int) ≤ i then some (i + n).toNat else none
def atI {α : Type} (xs : List α) (i : Int) : Option α := (ixN xs.length i).bind fun j => xs[j]?
theorem ixN_seq {n : Nat} {i : Int} {j : Nat} (h : ixN n i = some j) : seqIndex? i n = some j ∧ j < n ∧ -(n : Int) ≤ i ∧ i < n := by
  unfold ixN at h
  by_cases h0 : 0 ≤ i
  · rw [if_pos h0] at h
    by_cases h1 : i < n
    · rw [if_pos h1] at h
      have e : i.toNat = j := Option.some.inj h
      exact ⟨by rw [seqIndex_of h0 h1, e], by omega, by omega, h1⟩
    · rw [if_neg h1] at h; cases h
  · rw [if_neg h0] at h
    by_cases h1 : -(n : Int) ≤ i
    · rw [if_pos h1] at h
      have e : (i + n).toNat = j := Option.some.inj h
      exact ⟨by rw [seqIndex_neg (by omega) h1, e], by omega, h1, by omega⟩
    · rw [if_neg h1] at h; cases h
theorem atI_get {α : Type} {xs : List α} {i : Int} {v : α} (h : atI xs i = some v) : ∃ j, seqIndex? i xs.length = some j ∧ xs[j]? = some v ∧ j < xs.length ∧ -(xs.length : Int) ≤ i ∧ i < xs.length := by
  unfold atI at h
  cases e : ixN xs.length i with
  | none => rw [e] at h; cases h
  | some j =>
    rw [e] at h
    obtain ⟨h1, h2, h3, h4⟩ := ixN_seq e
    exact ⟨j, h1, h, h2, h3, h4⟩
theorem atI_last {α : Type} (xs : List α) (v : α) : atI (xs ++ [v]) (-1) = some v := by
  have hl : (xs ++ [v]).length = xs.length + 1 := by simp
  have e : ixN (xs ++ [v]).length (-1) = some xs.length := by
    unfold ixN
    rw [hl, if_neg (by decide), if_pos (by omega)]
    congr 1
    omega
  unfold atI
  rw [e]
  show (xs ++ [v])[xs.length]? = some v
  simp
def PlainIx (b : Expr) : Prop := ∀ o i, subscripted b false o i = operate [o, i] (getItem o i)
def IxR (X : Cx) (r : R2) : Prop :=
  ∀ (value slice : Expr) (pins : List (Addr × Obj)) (s : Shared) (σ : St) (H : Hp) (x y : V) (v u : Value) (Q : VK), Inv X pins σ H s → RelV x v → RelV y u → r x y H Q →
    subscripted slice false v u = operate [v, u] (getItem v u) → wpAny (model X.prog X.w) X.A (subscriptTail value slice v u) (EP X pins σ Q) X.xe s
def MtR (X : Cx) (id : String) (r : V → List V → Hp → VK → Prop) : Prop :=
  ∀ (pins : List (Addr × Obj)) (s : Shared) (σ : St) (H : Hp) (x : V) (xs : List V) (v : Value) (us : List Value) (Q : VK), Inv X pins σ H s → RelV x v → Vals xs us → r x xs H Q →
    wpAny (model X.prog X.w) X.A (call (.builtin id) (v :: us)) (EP X pins σ Q) X.xe s
section
variable {X : Cx} {a b : Expr} {ta tb : TE} {pos : Pos}
theorem IxR.or {r r' : R2} (h : IxR X r) (h' : IxR X r') : IxR X (fun x y H Q => r x y H Q ∨ r' x y H Q) := by
  intro value slice pins s σ H x y v u Q I rx ry q hs
  rcases q with q | q
  · exact h value slice pins s σ H x y v u Q I rx ry q hs
  · exact h' value slice pins s σ H x y v u Q I rx ry q hs
theorem MtR.or {id : String} {r r' : V → List V → Hp → VK → Prop} (h : MtR X id r) (h' : MtR X id r') : MtR X id (fun x xs H Q => r x xs H Q ∨ r' x xs H Q) := by
  intro pins s σ H x xs v us Q I rx rs q
  rcases q with q | q
  · exact h pins s σ H x xs v us Q I rx rs q
  · exact h' pins s σ H x xs v us Q I rx rs q
theorem pe_ix {r : R2} (hr : IxR X r) (ha : PE X a ta) (hb : PE X b tb) (hs : PlainIx b) : PE X (.Subscript a b pos) (tOp r ta tb) := by
  intro pins s σ H Q I h
  exact Subscript_ (binT ha hb I h fun v u s2 x y H2 I2 rx ry q => hr a b pins s2 σ H2 x y v u Q I2 rx ry q (hs _ _))
def rIxL (K : PySem.W.Frag) : R2 := fun x y H Q => ∃ p xs i v, x = .ref p ∧ y = .int i ∧ SqL K H p xs ∧ atI xs i = some v ∧ Q v H
def rIxT (K : PySem.W.Frag) : R2 := fun x y H Q => ∃ p xs i v, x = .ref p ∧ y = .int i ∧ SqT K H p xs ∧ atI xs i = some v ∧ Q v H
def rIxS : R2 := fun x y H Q => ∃ z i c, x = .str z ∧ y = .int i ∧ z.length ≤ sizeLine ∧ atI z.cps.toList i = some c ∧ Q (.str ⟨#[c]⟩) H
theorem ix_list : IxR X (rIxL X.K) := by
  intro value slice pins s σ H x y v u Q I rx ry h hs
  obtain ⟨p, xs, i, z, rfl, rfl, hq, he, q⟩ := h
  cases rx
  obtain ⟨t, rfl⟩ := ry
  obtain ⟨its, r, pl, hz⟩ := I.list hq
  obtain ⟨j, h1, h2, h3, h4, h5⟩ := atI_get he
  obtain ⟨w, ew, rw'⟩ := r.get h2
  have hl := r.length
  have hn := line63
  have fin : EP X pins σ Q w s := ⟨z, H, I, rw', q⟩
  by_cases h0 : 0 ≤ i
  · have hj : i.toNat = j := by
      rw [seqIndex_of h0 h5] at h1
      exact Option.some.inj h1
    exact item_listR pl.isList h0 (by omega) (by rw [hj]; simpa using ew) fin hs
  · have hj : (i + (its.toArray.size : Int)).toNat = j := by
      rw [seqIndex_neg (by omega) h4] at h1
      rw [List.size_toArray, ← hl]
      exact Option.some.inj h1
    exact subscriptTail_builtinR (x := w) pl.isList.typeIs slot_list_getitem.lookup
      (wpAny_getItem_list_neg (Q := fun r s' => r = w ∧ EP X pins σ Q r s') pl.isList (by omega) (by rw [List.size_toArray] <;> omega) (by omega) (by rw [hj]; simpa using ew) ⟨rfl, fin⟩) hs
theorem ix_tup : IxR X (rIxT X.K) := by
  intro value slice pins s σ H x y v u Q I rx ry h hs
  obtain ⟨p, xs, i, z, rfl, rfl, hq, he, q⟩ := h
  cases rx
  obtain ⟨t, rfl⟩ := ry
  obtain ⟨its, r, pl, hz⟩ := I.tuple hq
  obtain ⟨j, h1, h2, h3, h4, h5⟩ := atI_get he
  obtain ⟨w, ew, rw'⟩ := r.get h2
  have hl := r.length
  have hn := line63
  have fin : EP X pins σ Q w s := ⟨z, H, I, rw', q⟩
  exact subscriptTail_builtinR (x := w) pl.typeIs slot_tuple_getitem.lookup
    (getItem_tuple (j := j) (Q := fun r s' => r = w ∧ EP X pins σ Q r s') pl (by omega) (by omega) (by rw [List.size_toArray, ← hl]; exact h1) (by simpa using ew) ⟨rfl, fin⟩) hs
theorem ix_str : IxR X rIxS := by
  intro value slice pins s σ H x y v u Q I rx ry h hs
  obtain ⟨z, i, c, rfl, rfl, hz, he, q⟩ := h
  obtain ⟨t, rfl⟩ := rx
  obtain ⟨t', rfl⟩ := ry
  obtain ⟨j, h1, h2, h3, h4, h5⟩ := atI_get he
  have hl : z.cps.toList.length = z.length := by simp [Str.length]
  rw [hl] at h1 h4 h5
  have hn := line63
  exact tail_any (typeIs_str s z t) slot_str_getitem.lookup (getItem_str (c := c) (by
    have e1 : decide (i < -(2 ^ 63 : Int)) = false := decide_eq_false (by omega)
    have e2 : decide (i ≥ 2 ^ 63) = false := decide_eq_false (by omega)
    rw [e1, e2, Bool.or_false]) (by rw [h1]; simpa using h2) ⟨.str ⟨#[c]⟩, H, I.tok _, ⟨_, rfl⟩, q⟩) hs
theorem mapSeq_set (its : List Value) (n j : Nat) (u : Value) : Obj.mapSeq (·.setIfInBounds j u) { cls := .type "list", data := .seq its.toArray n } = { cls := .type "list", data := .seq (its.set j u).toArray n } := by
  simp [Obj.mapSeq]
theorem Inv.lst {pins : List (Addr × Obj)} {σ : St} {H : Hp} {s : Shared} {p : Addr} {xs : List V} (I : Inv X pins σ H s) (h : H p = some (.lst xs)) :
    ∃ (its : List Value) (n : Nat), Vals xs its ∧ s.heap.get? p = some { cls := .type "list", data := .seq its.toArray n } ∧ xs.length ≤ sizeLine := by
  obtain ⟨z, its, n, r, e⟩ := I.hok p _ h
  exact ⟨its, n, r, e, z⟩
theorem Inv.lstUpd {pins : List (Addr × Obj)} {σ : St} {H : Hp} {s : Shared} {p : Addr} {xs ys : List V} {its its' : List Value} {n n' : Nat} {f : Obj → Obj} (I : Inv X pins σ H s) (h : H p = some (.lst xs))
    (ho : s.heap.get? p = some { cls := .type "list", data := .seq its.toArray n }) (hf : f { cls := .type "list", data := .seq its.toArray n } = { cls := .type "list", data := .seq its'.toArray n' }) (r : Vals ys its') (hz : ys.length ≤ sizeLine) (t : Nat) :
    Inv X pins σ (upd H p (.lst ys)) { s with heap := s.heap.update p f, toks := t } := by
  have e : (s.heap.update p f).get? p = some { cls := .type "list", data := .seq its'.toArray n' } := by
    rw [Heap.get?_update_self f ho (by rw [hf] <;> rfl), hf]
  refine I.write (x := p) (e := p) (by rw [h]; trivial) (.inl rfl) (fun b u hb q => (Heap.get?_update_other _ _ (Ne.symm hb)).trans q) ⟨_, e⟩ ?_
  exact ⟨hz, its', n', r, e⟩
def rSetL : V → V → V → Hp → (Hp → Prop) → Prop := fun o i v H Q => ∃ p xs k j, o = .ref p ∧ i = .int k ∧ H p = some (.lst xs) ∧ ixN xs.length k = some j ∧ Q (upd H p (.lst (xs.set j v)))
theorem set_list : PSet X rSetL := by
  intro pins s σ H o i v ov iv u Q I ro ri rv h
  obtain ⟨p, xs, k, j, rfl, rfl, hp, hj, q⟩ := h
  cases ro
  obtain ⟨t, rfl⟩ := ri
  obtain ⟨its, n, r, ho, hz⟩ := I.lst hp
  obtain ⟨h1, h2, h3, h4⟩ := ixN_seq hj
  have hl := r.length
  have hn := line63
  have I' : Inv X pins σ (upd H p (.lst (xs.set j v))) { s with heap := s.heap.update p (Obj.mapSeq (·.setIfInBounds j u)) } :=
    I.lstUpd hp ho (mapSeq_set its n j u) (r.set rv j) (by rw [List.length_set]; exact hz) s.toks
  by_cases h0 : 0 ≤ k
  · have hk : k.toNat = j := by
      rw [seqIndex_of h0 h4] at h1
      exact Option.some.inj h1
    exact PySem.W.ki_setAt ho h0 (by omega) (by rw [List.size_toArray, ← hl]; exact h4) (by rw [hk]; exact ⟨_, I', q⟩)
  · have hk : (k + (its.toArray.size : Int)).toNat = j := by
      rw [seqIndex_neg (by omega) h3] at h1
      rw [List.size_toArray, ← hl]
      exact Option.some.inj h1
    exact PySem.W.ki_setBack ho (by omega) (by rw [List.size_toArray, ← hl]; exact h3) (by omega) (by rw [hk]; exact ⟨_, I', q⟩)
theorem slice_bounds (lo hi : Option Int) (n : Nat) : (sliceBounds lo hi none n).1 = ((HT.sIx n 0 lo : Nat) : Int) ∧ (sliceBounds lo hi none n).2.1 = ((HT.sIx n n hi : Nat) : Int) ∧ (sliceBounds lo hi none n).2.2 = 1 := by
  refine ⟨?_, ?_, rfl⟩
  · cases lo with
    | none => simp [sliceBounds, HT.sIx]
    | some i =>
      simp only [sliceBounds, HT.sIx, Option.getD_none, show (1 : Int) > 0 by decide, if_true]
      by_cases h : i < 0
      · simp only [h, if_true] <;> omega
      · simp only [h, if_false] <;> omega
  · cases hi with
    | none => simp [sliceBounds, HT.sIx]
    | some i =>
      simp only [sliceBounds, HT.sIx, Option.getD_none, show (1 : Int) > 0 by decide, if_true]
      by_cases h : i < 0
      · simp only [h, if_true] <;> omega
      · simp only [h, if_false] <;> omega
theorem slicePick_cut (its : List Value) (lo hi : Option Int) : slicePick its.toArray lo hi none = ((its.drop (HT.sIx its.length 0 lo)).take (HT.sIx its.length its.length hi - HT.sIx its.length 0 lo)).toArray := by
  obtain ⟨h1, h2, h3⟩ := slice_bounds lo hi its.toArray.size
  unfold slicePick
  rw [h1, h2, h3]
  simp only [sliceRange_one, pick_run, List.size_toArray] <;> rfl
def rSlL (K : PySem.W.Frag) : V → Option Int → Option Int → Hp → VK → Prop := fun x lo hi H Q => ∃ a xs, x = .ref a ∧ SqL K H a xs ∧ ∀ p, H p = none → Q (.ref p) (upd H p (.lst (cutV xs lo hi)))
theorem sl_list : SlR X (rSlL X.K) := by
  intro pins s σ H x v vl vu lo hi sl Q I rx hs pl pu h
  obtain ⟨a, xs, rfl, hx, q⟩ := h
  cases rx
  obtain ⟨its, r, ht, hz⟩ := I.list hx
  have hlen := r.length
  refine ⟨"list", _, slot_list_getitem.lookup, ht.isList.typeIs, ?_⟩
  refine wpAny_getItem_list_slice ht.isList hs pl pu .none (by simp) ?_ (by rw [List.size_toArray] <;> omega)
  rw [slicePick_cut, ← hlen]
  refine ⟨.ref s.heap.objs.size, _, I.laid (t' := s.toks) (o := .lst (cutV xs lo hi)) (fun b ob q => Heap.get?_push_of_some _ q) (Nat.le_refl _) ?_, rfl, q _ (I.hok.fresh (Nat.le_refl _))⟩
  exact ⟨Nat.le_trans (cutV_length xs lo hi) hz, _, 0, (r.drop (HT.sIx xs.length 0 lo)).take (HT.sIx xs.length xs.length hi - HT.sIx xs.length 0 lo), Heap.get?_push_size _ rfl⟩
def flatV : V → Bool
  | .non => true
  | .bl _ => true
  | .int _ => true
  | .str _ => true
  | _ => false
def eqV : V → V → Bool
  | .non, .non => true
  | .bl a, .bl b => a == b
  | .bl a, .int b => (if a then 1 else 0) == b
  | .int a, .bl b => a == (if b then 1 else 0)
  | .int a, .int b => a == b
  | .str a, .str b => a == b
  | _, _ => false
theorem eqAt_V {A : Around} {s : Shared} {y x : V} {u v : Value} (ry : RelV y u) (rx : RelV x v) (fy : flatV y = true) (fx : flatV x = true) : SeqAt.EqAt A s u v (eqV y x) := by
  cases y with
  | non =>
    cases ry
    cases x with
    | non => cases rx; exact SeqAt.EqAt.same _
    | bl b => cases rx; exact SeqAt.EqAt.none_bool b
    | int b => obtain ⟨t, rfl⟩ := rx; exact SeqAt.EqAt.none_int b t
    | str b => obtain ⟨t, rfl⟩ := rx; exact SeqAt.EqAt.none_str b t
    | _ => exact absurd (show false = true from fx) Bool.false_ne_true
  | bl a =>
    cases ry
    cases x with
    | non => cases rx; exact SeqAt.EqAt.bool_none a
    | bl b => cases rx; exact SeqAt.EqAt.bool_bool a b
    | int b => obtain ⟨t, rfl⟩ := rx; exact SeqAt.EqAt.bool_int a b t
    | str b => obtain ⟨t, rfl⟩ := rx; exact SeqAt.EqAt.bool_str a b t
    | _ => exact absurd (show false = true from fx) Bool.false_ne_true
  | int a =>
    obtain ⟨t', rfl⟩ := ry
    cases x with
    | non => cases rx; exact SeqAt.EqAt.int_none a t'
    | bl b => cases rx; exact SeqAt.EqAt.int_bool a t' b
    | int b => obtain ⟨t, rfl⟩ := rx; exact SeqAt.EqAt.int_int a t' b t
    | str b => obtain ⟨t, rfl⟩ := rx; exact SeqAt.EqAt.int_str a t' b t
    | _ => exact absurd (show false = true from fx) Bool.false_ne_true
  | str a =>
    obtain ⟨t', rfl⟩ := ry
    cases x with
    | non => cases rx; exact SeqAt.EqAt.str_none a t'
    | bl b => cases rx; exact SeqAt.EqAt.str_bool a t' b
    | int b => obtain ⟨t, rfl⟩ := rx; exact SeqAt.EqAt.str_int a t' b t
    | str b => obtain ⟨t, rfl⟩ := rx; exact SeqAt.EqAt.str_str a t' b t
    | _ => exact absurd (show false = true from fx) Bool.false_ne_true
  | _ => exact absurd (show false = true from fy) Bool.false_ne_true
theorem call_len_seq : CallR X (.builtin "len") (fun xs H Q => ∃ p ys, xs = [.ref p] ∧ (SqL X.K H p ys ∨ SqT X.K H p ys) ∧ Q (.int ys.length) H) := by
  intro pins s σ H xs us Q I r h
  obtain ⟨p, ys, rfl, hq, q⟩ := h
  obtain ⟨u, rfl, rx⟩ := vals1 r
  cases rx
  have hn := line63
  rcases hq with hq | hq
  · obtain ⟨its, r', pl, hz⟩ := I.list hq
    have hlen := r'.length
    exact Calls.call_len_list pl.isList (by simp only [List.size_toArray] <;> omega) ⟨.int ys.length, H, I.tok _, ⟨s.toks + 1, by rw [List.size_toArray, hlen]⟩, q⟩
  · obtain ⟨its, r', pl, hz⟩ := I.tuple hq
    have hlen := r'.length
    exact len_tuple pl (by simp only [List.size_toArray] <;> omega) ⟨.int ys.length, H, I.tok _, ⟨s.toks + 1, by rw [List.size_toArray, hlen]⟩, q⟩
theorem call_len_str : CallR X (.builtin "len") (fun xs H Q => ∃ z, xs = [.str z] ∧ z.length ≤ sizeLine ∧ Q (.int z.length) H) := by
  intro pins s σ H xs us Q I r h
  obtain ⟨z, rfl, hz, q⟩ := h
  obtain ⟨u, rfl, t, rfl⟩ := vals1 r
  have hn := line63
  exact len_str (by omega) ⟨.int z.length, H, I.tok _, ⟨_, rfl⟩, q⟩
theorem CallR.or {f : Value} {r r' : List V → Hp → VK → Prop} (h : CallR X f r) (h' : CallR X f r') : CallR X f (fun xs H Q => r xs H Q ∨ r' xs H Q) := by
  intro pins s σ H xs us Q I rs q
  rcases q with q | q
  · exact h pins s σ H xs us Q I rs q
  · exact h' pins s σ H xs us Q I rs q
def tyV (K : PySem.W.Frag) (T : String) (x : V) (H : Hp) : Prop := match x with
  | .str _ => T = "str"
  | .int _ => T = "int"
  | .ref p => (T = "list" ∧ ∃ xs, SqL K H p xs) ∨ (T = "tuple" ∧ ∃ o, K.lookup p = some o ∧ o.cls = .type "tuple" ∧ o.dict = none) ∨
      (T = "dict" ∧ ((∃ kvs, H p = some (.dK kvs)) ∨ ∃ kvs, H p = some (.dT kvs))) ∨ (T = "set" ∧ ∃ S n, H p = some (.set S n))
  | _ => False
theorem tyV_is {pins : List (Addr × Obj)} {σ : St} {H : Hp} {s : Shared} {T : String} {x : V} {v : Value} (I : Inv X pins σ H s) (r : RelV x v) (ty : tyV X.K T x H) :
    s.TypeIs v T ∧ ∀ a, v = .ref a → ∃ ob, s.heap.get? a = some ob ∧ ob.dict = none := by
  cases x with
  | str z =>
    obtain ⟨t, rfl⟩ := r
    cases (show T = "str" from ty)
    exact ⟨typeIs_str s z t, fun _ e => nomatch e⟩
  | int i =>
    obtain ⟨t, rfl⟩ := r
    cases (show T = "int" from ty)
    exact ⟨typeIs_int s i t, fun _ e => nomatch e⟩
  | ref p =>
    cases r
    rcases ty with ⟨rfl, xs, hq⟩ | ⟨rfl, o, hk, hc, hd⟩ | ⟨rfl, hk⟩ | ⟨rfl, S, n, hk⟩
    · obtain ⟨its, _, pl, _⟩ := I.list hq
      refine ⟨pl.isList.typeIs, fun a e => ?_⟩
      cases e
      obtain ⟨o, n, e, c, hd, _⟩ := pl
      exact ⟨o, e, hd⟩
    · refine ⟨⟨o, I.kIn p o hk, hc⟩, fun a e => ?_⟩
      cases e
      exact ⟨o, I.kIn _ o hk, hd⟩
    · have z : ∃ o, s.heap.get? p = some o ∧ o.ExactDict := by
        rcases hk with ⟨kvs, hk⟩ | ⟨kvs, hk⟩
        · obtain ⟨_, _, _, _, o, _, _, e, ex, _⟩ := I.hok p _ hk
          exact ⟨o, e, ex⟩
        · exact False.elim (show ObjOk X.prog X.w H s.heap p (.dT kvs) from I.hok p _ hk)
      obtain ⟨o, e, ex⟩ := z
      refine ⟨⟨o, e, ex.1⟩, fun a e2 => ?_⟩
      cases e2
      exact ⟨o, e, ex.2.1⟩
    · obtain ⟨o, _, _, _, e, ex, _⟩ := I.hok p _ hk
      refine ⟨⟨o, e, ex.1⟩, fun a e2 => ?_⟩
      cases e2
      exact ⟨o, e, ex.2.1⟩
  | _ => exact False.elim ty
def tBM0 (K : PySem.W.Frag) (T : String) (r : V → List V → Hp → VK → Prop) (to : TE) : TE := fun σ H Q => to σ H fun x H1 => tyV K T x H1 ∧ r x [] H1 Q
def tBM (K : PySem.W.Frag) (T : String) (r : V → List V → Hp → VK → Prop) (to : TE) (t : TA) : TE := fun σ H Q => to σ H fun x H1 => tyV K T x H1 ∧ t σ H1 fun xs H2 => r x xs H2 Q
variable {o e : Expr} {es : List Expr} {to : TE} {t : TA} {name : Str} {apos cpos : Pos} {T id : String} {r : V → List V → Hp → VK → Prop}
theorem pe_bm (pa : PlainAttrs T) (slot : Slot T name id) (hty : typeOf (.builtin id) = pure (.type "method_descriptor")) (hm : MtR X id r) (ho : PE X o to) (ha : PA X (e :: es) t)
    (hbase : attributeBase o name X.env (eval o X.env) = eval o X.env := by rfl)
    (hfew : ((backTo cpos (starEach (e :: es) X.env)).all (fun x => !x.1) && (backToKw cpos (keywordEach [] X.env)).all (fun x => x.1.isSome)
      && decide ((e :: es).length + ([] : List Keyword).length + (if ([] : List Keyword).isEmpty then 0 else 1) < 30)) = true := by rfl)
    (hline : (apos.endLine == cpos.line) = true := by rfl) (hs : starEach (e :: es) X.env = (false, eval e X.env) :: starEach es X.env := by rfl) (hplain : (backTo cpos (starEach es X.env)).any (·.1) = false := by rfl) :
    PE X (.Call (.Attribute o name apos) (e :: es) [] cpos) (tBM X.K T r to t) := by
  intro pins s σ H Q I h
  refine wpAny_Call_method_late hbase hfew hline rfl (thn (ho pins s σ H _ I h) fun v s1 ⟨x, H1, I1, r1, ty, q1⟩ => ?_)
  obtain ⟨h1, h2⟩ := tyV_is I1 r1 ty
  refine ⟨T, id, pa, slot, hty, h1, h2, ?_⟩
  have hA := ha cpos pins s1 σ H1 _ I1 q1
  rw [hs] at hA ⊢
  refine Calls.callWith_builtin (by show (false || (backTo cpos (starEach es X.env)).any (·.1)) = false; rw [hplain] <;> rfl) (Calls.evalArgs_plain ?_)
  exact thn hA fun us s2 ⟨vs, H2, I2, r2, q2⟩ => hm pins s2 σ H2 x vs v us Q I2 r1 r2 q2
/- xs.append(e), list.index on a module's tuple .. are MtR facts of 06m -/
end
end L2
namespace L2
open PySem PySem.Spec PyProof.Rows
def MtM (X : Cx) (id : String) (r : V → List V → Hp → VK → Prop) : Prop :=
  ∀ (pins : List (Addr × Obj)) (s : Shared) (σ : St) (H : Hp) (x : V) (xs : List V) (v : Value) (us : List Value) (Q : VK), Inv X pins σ H s → RelV x v → Vals xs us → r x xs H Q →
    wpAny (model X.prog X.w) X.A (call (.builtin id) (v :: us)) (EP X pins σ Q) X.xe s
theorem Vals.one : ∀ {x : V} {us : List Value}, Vals [x] us → ∃ u, us = [u] ∧ RelV x u
  | _, _, .cons r .nil => ⟨_, rfl, r⟩
theorem Vals.two : ∀ {x y : V} {us : List Value}, Vals [x, y] us → ∃ u v, us = [u, v] ∧ RelV x u ∧ RelV y v
  | _, _, _, .cons r (.cons q .nil) => ⟨_, _, rfl, r, q⟩
theorem Vals.dropLast {xs : List V} {us : List Value} (h : Vals xs us) : Vals xs.dropLast us.dropLast := by
  induction h with
  | nil => exact .nil
  | cons r t ih =>
    cases t with
    | nil => exact .nil
    | cons q t' => exact .cons r ih
theorem Vals.reverse {xs : List V} {us : List Value} (h : Vals xs us) : Vals xs.reverse us.reverse := by
  induction h with
  | nil => exact .nil
  | cons r t ih => rw [List.reverse_cons, List.reverse_cons]; exact Vals.append ih (.cons r .nil)
theorem Vals.rep {xs : List V} {us : List Value} (h : Vals xs us) : ∀ k : Nat, Vals (List.replicate k xs).flatten (List.replicate k us).flatten
  | 0 => .nil
  | k + 1 => by
    rw [List.replicate_succ, List.replicate_succ, List.flatten_cons, List.flatten_cons]
    exact Vals.append h (Vals.rep h k)
theorem foldl_rep (its : List Value) : ∀ (k : Nat) (acc : List Value),
    List.foldl (fun x1 x2 => x1 ++ x2) acc.toArray (List.replicate k its.toArray) = (acc ++ (List.replicate k its).flatten).toArray
  | 0, acc => by simp
  | k + 1, acc => by
    have e : acc.toArray ++ its.toArray = (acc ++ its).toArray := by simp
    have e2 : (acc ++ its) ++ (List.replicate k its).flatten = acc ++ (List.replicate (k + 1) its).flatten := by
      rw [List.replicate_succ, List.flatten_cons, List.append_assoc]
    rw [← e2, ← foldl_rep its k (acc ++ its), ← e, List.replicate_succ, List.foldl_cons]
section
variable {X : Cx} {pins : List (Addr × Obj)} {σ : St} {H : Hp} {s : Shared} {l b : Addr} {xs ys zs : List V}
theorem Inv.lset {its its' : List Value} {n : Nat} {f : Array Value → Array Value} {t' : Nat} (I : Inv X pins σ H s) (hH : H l = some (.lst xs))
    (e : s.heap.get? l = some { cls := .type "list", data := .seq its.toArray n }) (hf : f its.toArray = its'.toArray) (hv : Vals ys its') (hz : ys.length ≤ sizeLine) :
    Inv X pins σ (upd H l (.lst ys)) { s with heap := s.heap.update l (Obj.mapSeq f), toks := t' } := by
  have q := PySem.IsL.update e f
  rw [hf] at q
  refine I.write (x := l) (e := l) (by rw [hH]; exact trivial) (.inl rfl) (fun b' u hb hu => (Heap.get?_update_other s.heap (Obj.mapSeq f) (Ne.symm hb)).trans hu) ⟨_, q⟩ ?_
  exact ⟨hz, its', _, hv, q⟩
theorem Inv.lnew {its : List Value} {t' : Nat} (I : Inv X pins σ H s) (hv : Vals ys its) (hz : ys.length ≤ sizeLine) :
    Inv X pins σ (upd H s.heap.objs.size (.lst ys)) { s with heap := s.heap.push { cls := .type "list", data := .seq its.toArray }, toks := t' } :=
  I.laid (fun _ _ q => Heap.get?_push_of_some _ q) (Nat.le_refl _) ⟨hz, its, 0, hv, Heap.get?_push_size _ rfl⟩
theorem Inv.fresh (I : Inv X pins σ H s) : H s.heap.objs.size = none := I.hok.fresh (Nat.le_refl _)
theorem Inv.lstM (I : Inv X pins σ H s) (hH : H l = some (.lst xs)) : xs.length ≤ sizeLine ∧ ∃ (its : List Value) (n : Nat), Vals xs its ∧ xs.length = its.length ∧ s.heap.get? l = some { cls := .type "list", data := .seq its.toArray n } := by
  obtain ⟨z, its, n, r, e⟩ := I.hok l _ hH
  exact ⟨z, its, n, r, r.length, e⟩
theorem notLongL {n : Nat} (h : n ≤ sizeLine) : Builtin.List.listTooLong n = false := by
  unfold Builtin.List.listTooLong
  exact decide_eq_false (by omega)
end
section
variable {X : Cx}
def rAppend : V → List V → Hp → VK → Prop := fun x vs H Q => ∃ l xs y, x = .ref l ∧ vs = [y] ∧ H l = some (.lst xs) ∧ xs.length < sizeLine ∧ Q .non (upd H l (.lst (xs ++ [y])))
theorem mt_append : MtM X "list.append" rAppend := by
  intro pins s σ H x vs v us Q I rx rv h
  obtain ⟨l, xs, y, rfl, rfl, hH, hz, q⟩ := h
  cases rx
  obtain ⟨u, rfl, ru⟩ := rv.one
  obtain ⟨z, its, n, r, hl, e⟩ := I.lstM hH
  refine call_meets F.slot_list_append ⟨_, e, rfl⟩ F.entry_list_append (F.args_list_append_2 _ _) (PySem.list_append l its.toArray n u (by rw [List.size_toArray]; omega)) ⟨e, ?_⟩
  refine ⟨.non, _, I.lset (its' := its ++ [u]) hH e (by simp) (r.append (.cons ru .nil)) ?_, rfl, q⟩
  rw [List.length_append, List.length_singleton]
  omega
def rCat : R2 := fun x y H Q => ∃ l b xs zs, x = .ref l ∧ y = .ref b ∧ H l = some (.lst xs) ∧ H b = some (.lst zs) ∧ xs.length + zs.length ≤ sizeLine ∧ ∀ p, H p = none → Q (.ref p) (upd H p (.lst (xs ++ zs)))
theorem op_cat : OpR X (binaryOp .Add) rCat := by
  intro pins s σ H x y v u Q I rx ry h
  obtain ⟨l, b, xs, zs, rfl, rfl, hH, hB, hz, q⟩ := h
  cases rx
  cases ry
  obtain ⟨z, its, n, r, hl, e⟩ := I.lstM hH
  obtain ⟨z2, its2, n2, r2, hl2, e2⟩ := I.lstM hB
  refine PySem.P.add_list e e2 ?_ (by rw [List.size_toArray, List.size_toArray]; omega)
  have ea : its.toArray ++ its2.toArray = (its ++ its2).toArray := by simp
  rw [ea]
  exact ⟨.ref _, _, I.lnew (t' := s.toks) (r.append r2) (by rw [List.length_append]; omega), rfl, q _ I.fresh⟩
def rRep : R2 := fun x y H Q => ∃ l k xs, x = .ref l ∧ y = .int k ∧ H l = some (.lst xs) ∧ -(2 ^ 63) ≤ k ∧ k < 2 ^ 63 ∧ xs.length * k.toNat ≤ sizeLine ∧
  ∀ p, H p = none → Q (.ref p) (upd H p (.lst (List.replicate k.toNat xs).flatten))
theorem len_rep {α : Type} (xs : List α) (k : Nat) : (List.replicate k xs).flatten.length = k * xs.length := by
  induction k with
  | zero => simp
  | succ k ih => rw [List.replicate_succ, List.flatten_cons, List.length_append, ih, Nat.succ_mul, Nat.add_comm]
theorem op_rep : OpR X (binaryOp .Mult) rRep := by
  intro pins s σ H x y v u Q I rx ry h
  obtain ⟨l, k, xs, rfl, rfl, hH, h1, h2, hz, q⟩ := h
  cases rx
  obtain ⟨t, rfl⟩ := ry
  obtain ⟨z, its, n, r, hl, e⟩ := I.lstM hH
  have hlen : its.toArray.size * k.toNat ≤ sizeLine := by rw [List.size_toArray, ← hl]; exact hz
  have hcap : ¬ its.toArray.size * k.toNat > (2 ^ 63 - 1) / 8 := by
    have : (sizeLine : Nat) ≤ (2 ^ 63 - 1) / 8 := by decide
    omega
  have hfit : ¬ (!Builtin.List.listFitsIndex k) = true := by
    rw [fitsIndex_both h1 h2]
    exact Bool.false_ne_true
  have hlong : ¬ Builtin.List.listTooLong (its.toArray.size * k.toNat) = true := by
    rw [notLongL hlen]
    exact Bool.false_ne_true
  have hnew : List.foldl (fun x1 x2 => x1 ++ x2) #[] (List.replicate (if its.toArray.isEmpty = true then 0 else k.toNat) its.toArray) = (List.replicate k.toNat its).flatten.toArray := by
    have f0 : ∀ m : Nat, List.foldl (fun x1 x2 => x1 ++ x2) #[] (List.replicate m its.toArray) = (List.replicate m its).flatten.toArray := fun m => by
      have := foldl_rep its m []
      rw [List.nil_append] at this
      exact this
    rw [f0]
    cases its with
    | nil => simp
    | cons a r' => rw [if_neg (by simp)]
  refine wpAny_binaryOp_repeat_ref (T := "list") (U := "int") (by decide) ⟨_, e, rfl⟩ (fun s' => typeIs_int s' k t) noFill_list_mul F.fills_int_mul F.slot_int_rmul repeat_list F.slot_int_index.lookup
    (call_meets F.slot_int_rmul (typeIs_int s k t) F.entry_int_rmul (F.args_int_rmul_2 _ _) (int___rmul___int_list k t l its.toArray n)
      ⟨e, rfl, ⟨_, e, rfl⟩, call_meets F.slot_list_mul ⟨_, e, rfl⟩ F.entry_list_mul (F.args_list_mul_2 _ _) (AutoListH.list___mul___list_int_3 l its.toArray n k t hfit hcap hlong) ⟨e, ?_⟩⟩)
  rw [hnew]
  exact ⟨.ref _, _, I.lnew (t' := s.toks) (r.rep k.toNat) (by rw [len_rep, Nat.mul_comm]; exact hz), rfl, q _ I.fresh⟩
end
section
variable {prog : Program} {w : World} {A : Around} {E : Value → Shared → Prop} {s : Shared}
end
section
variable {X : Cx}
end
end L2
namespace Att
open PySem PySem.W PySem.Calls PyProof.Rows
theorem ints_of_wellAll {P : Params} {h : Heap} : ∀ (ns : List Int) (vs : List Value), WellAll P h vs (ns.map WData.int) → IntsAre vs ns := by
  intro ns
  induction ns with
  | nil =>
    intro vs w
    rw [List.map_nil] at w
    cases w
    exact .nil
  | cons n ns ih =>
    intro vs w
    rw [List.map_cons] at w
    cases w with
    | cons a b =>
      cases a
      exact .cons _ _ (ih _ b)
theorem script_of {l : OpenLaw} {n : Nat} (hn : l.most = some n) {P : Params} {h : Heap} {args : List WData} {vals : List Value}
    (hpre : l.row.toRowW.claim.pre args = true) (hwl : WellAll P h vals args) :
    ∃ a vs ns, vals = [Value.ref a] ∧ args = [WData.list (ns.map WData.int)] ∧ h.get? a = some { cls := .type "list", data := .seq vs.toArray } ∧ IntsAre vs ns ∧ ns.length ≤ n := by
  have hsh : WShape.hasAll [] args [.list .int] = true := (pre_splitW hpre).1
  have hc : l.pre.holds [] { args := args } = true := (pre_splitW hpre).2
  obtain ⟨d, r, rfl, h1, h2⟩ := hasAllW_cons hsh
  obtain rfl := hasAllW_nil h2
  obtain ⟨xs, rfl, h3⟩ := hasW_list h1
  obtain ⟨ns, rfl⟩ := items_int h3
  have hlen : ns.length ≤ n := by
    unfold OpenLaw.pre at hc
    have h4 : (WTm.not (.lt (.lit (.int (n : Int))) (.len (.arg 0)))).holds [] { args := [.list (ns.map .int)] } = true := by
      have h4 := (holds_andW hc).1
      rw [hn] at h4
      exact h4
    have h5 := condW_of h4 (w_not (w_lt w_lit (w_len_list (w_arg rfl))))
    rw [List.length_map] at h5
    refine Nat.le_of_not_lt fun q => ?_
    have q' : (n : Int) < ((ns.length : Nat) : Int) := by omega
    first
      | (rw [decide_eq_true q'] at h5; exact absurd h5 (by decide))
      | (simp at h5; omega)
  cases hwl with
  | cons w1 w2 =>
    cases w2
    cases w1 with
    | list ho hall => exact ⟨_, _, ns, rfl, rfl, ho, ints_of_wellAll ns _ hall, hlen⟩
theorem post_true (l : OpenLaw) (args : List WData) : l.row.toRowW.claim.post args (.bool true) args = true :=
  postW_of (r := l.row.toRowW) (X := (true == true))
    (show WShape.has [] (.bool true) .bool = true by first | rfl | decide | simp [WShape.has, WShape.arms, WShape.armsAll])
    (show (WTm.eq .res (.lit (.bool true))).value [] { args := args, res := some (.bool true), after := args } = some (.bool (true == true)) from w_eq_bool (w_res rfl) w_lit) rfl
theorem attach_call {l : OpenLaw} {n : Nat} {q : Program} {loose : List Str} {XP : (Str → Option Value) → Heap → Prop} {YP : World → Heap → Prop} {d : DefRec}
    (hn : l.most = some n) (hdf : d.params.defaults = [])
    (call : ∀ (w : World) (s₀ s₁ : Shared) (mg mb : Str → Option Value) (fa : Addr) (o : Obj) (pm cd doc : Value) (a : Addr) (vs : List Value) (ns : List Int),
      Ground q loose [] XP w s₀ mg mb s₁.heap → YP w s₁.heap →
      s₁.heap.get? fa = some o → o.data = .func (docDef d.name d.params d.body d.scope pm cd doc) → s₁.heap.CodeRec cd d.name → mg d.name = some (.ref fa) →
      s₁.heap.get? a = some { cls := .type "list", data := .seq vs.toArray } → IntsAre vs ns → ns.length ≤ n → s₁.gens = #[] →
      codeAny (model l.prog w) callerA (.call (.ref fa) ⟨[.ref a], []⟩) (fun r s' => r = .ok (.ret (.bool true)) ∧ OldK s₁.heap s'.heap ∧ s'.os = s₁.os ∧ AllBare s'.gens) s₁) :
    WalkO q loose XP YP l.row.toRowW d [] (fun f vs => PySem.call f vs) := by
  intro w s₀ s₁ mg mb G Y fa o pm cd doc dV kV ho hd hcd hD hmg hg args vals as hpre hlay hrd hwl hlo
  obtain rfl : dV = .none := Dflts.none hD hdf
  obtain rfl : kV = .none := Dflts.noKw hD
  obtain ⟨a, vs, ns, rfl, rfl, hobj, hints, hlen⟩ := script_of hn hpre hwl
  refine enter_call (codeAny_mono (call w s₀ s₁ mg mb fa o pm cd doc a vs ns G Y ho (fd_plain hd) hcd hmg hobj hints hlen hg) fun r s' hq => ?_)
  obtain ⟨rfl, h2, h3, h4⟩ := hq
  exact ⟨.inl ⟨.bool true, .bool true, [], rfl, fun _ => rfl, .bool true, post_true l _, fun _ => ⟨List.Pairwise.nil, fun _ hm => (nomatch hm)⟩⟩, h2, h3, h4⟩
section
variable {prog : Program} {w : World} {A : Around} {E : Value → Shared → Prop} {s : Shared} {K : Frag}
end
end Att
namespace L2
open PySem PySem.Spec PyProof.Rows
theorem vals_ints : ∀ {vs : List Value} {ns : List Int}, IntsAre vs ns → Vals (ns.map V.int) vs
  | _, _, .nil => .nil
  | _, _, .cons n t h => .cons ⟨t, rfl⟩ (vals_ints h)
def Only (H : Hp) : Prop := ∀ b, H b = none ∨ ∃ o xs, H b = some (.frz o (.lst xs))
theorem law_call {P : Program} {w : World} {K : PySem.W.Frag} {mg mb : Str → Option Value} {CX : CXT} {k : Nat} {fa a : Addr} {fd : FuncData} {x : Str} {sp : Sp} {s₁ : Shared} {vs : List Value} {ns : List Int}
    (KX : K.In s₁.heap) (hns : s₁.heap.Ns mainGlobals mg) (hb : s₁.heap.Ns builtinsNs mb) (hbb : ∀ x : Str, x ≠ "__name__" → mb x = bootBuiltins x) (hlim : s₁.heap.NoLimit) (hg : s₁.gens = #[])
    (ha : s₁.heap.get? a = some { cls := .type "list", data := .seq vs.toArray }) (hi : IntsAre vs ns) (hl : ns.length ≤ sizeLine) (hr : Room k callerA)
    (F : ∀ base : Heap, K.In base → base.Ns mainGlobals mg → FnOk P w K mg base CX k fa fd [x] sp) (hbind : ∀ (s : Shared) (u : Value), BindsTo s fd ⟨[u], []⟩ [(x, u)])
    (hsp : ∀ H : Hp, Only H → SqL K H a (ns.map V.int) → sp [.ref a] H (fun v _ => v = .bl true) fun _ _ _ => False)
    (hCX : ∀ H e s', CX [] H s₁ (fun _ _ _ => False) e s' → False) :
    codeAny (model P w) callerA (.call (.ref fa) ⟨[.ref a], []⟩) (fun r s' => r = .ok (.ret (.bool true)) ∧ OldK s₁.heap s'.heap ∧ s'.os = s₁.os ∧ AllBare s'.gens) s₁ := by
  have rv := vals_ints hi
  have lenV := hi.length
  -- from an abstract heap in which nothing but the script may be tracked
  have core : ∀ H : Hp, Only H → SqL K H a (ns.map V.int) → HOk P w H s₁.heap → (∀ b, H b ≠ none → b = a) → (H a ≠ none → K.lookup a = none) →
      codeAny (model P w) callerA (.call (.ref fa) ⟨[.ref a], []⟩) (fun r s' => r = .ok (.ret (.bool true)) ∧ OldK s₁.heap s'.heap ∧ s'.os = s₁.os ∧ AllBare s'.gens) s₁ := by
    intro H hO hS hok hA hK
    have base_of : ∀ {b : Addr} {o : Obj}, s₁.heap.get? b = some o → H b = none → (hidT s₁.heap H).get? b = some o := fun e n => hidT_get e n
    have noA : ∀ {b : Addr} {o : Obj} {es : Array DictEntry} {ep : Nat}, s₁.heap.get? b = some o → o.data = .dict es ep → H b = none := fun {b o es ep} e d => by
      cases q : H b with
      | none => rfl
      | some u =>
        have e' : b = a := hA b (by rw [q]; simp)
        subst e'
        rw [ha] at e; cases e
        have d' : Data.seq vs.toArray _ = Data.dict es ep := d
        cases d'
    have nsK : ∀ {b : Addr} {m : Str → Option Value}, s₁.heap.Ns b m → (hidT s₁.heap H).Ns b m := fun {b m} ⟨o, es, ep, e, d, r⟩ => ⟨o, es, ep, base_of e (noA e d), d, r⟩
    have hKb : K.In (hidT s₁.heap H) := fun b o e => base_of (KX b o e) (by
      cases q : H b with
      | none => rfl
      | some u =>
        have e' : b = a := hA b (by rw [q]; simp)
        subst e'
        rw [hK (by rw [q]; simp)] at e; cases e)
    have hM : Mod K mg (hidT s₁.heap H) := ⟨hKb, nsK hns, ⟨mb, nsK hb, hbb⟩, let ⟨mc, h1, h2⟩ := hlim; ⟨mc, nsK h1, h2⟩⟩
    have e0 : Env0 P w K mg (hidT s₁.heap H) callerA [] s₁ H := ⟨rfl, hM, fun b o e => of_hidT e, Nat.le_of_eq (hidT_size _ _), trivial, fun b hb => absurd (show b ∈ ([] : List Addr) from hb) (by simp), hok, .of_eq hg⟩
    refine codeAny_mono ((F _ hKb (nsK hns)).run callerA [] s₁ H ⟨[.ref a], []⟩ [.ref a] [.ref a] _ _ hr e0 (hbind s₁ (.ref a)) (.cons rfl .nil) (hsp H hO hS)) fun r s' h => ?_
    cases r with
    | error e => exact (hCX H e s' h).elim
    | ok fl =>
      cases fl with
      | next => exact False.elim h
      | brk => exact False.elim h
      | cont => exact False.elim h
      | ret u =>
        obtain ⟨v, H', os, bare, un, hok', r', q⟩ := h
        have q' : v = .bl true := q
        subst q'
        obtain rfl : u = Value.bool true := r'
        refine ⟨rfl, OldK.of_keep fun b o e => ?_, os, bare⟩
        cases q : H b with
        | none => exact un.keep b o e q (by intro z; exact absurd (show b ∈ ([] : List Addr) from z) (by simp)) (by simp)
        | some u =>
          rcases hO b with z | ⟨ob, xs, z⟩
          · rw [q] at z; cases z
          · have z2 := un.frzs b ob _ z
            obtain ⟨e1, _⟩ := hok b _ z
            obtain ⟨e2, _⟩ := hok' b _ z2
            rw [e] at e1; cases e1
            exact e2
  cases hk : K.lookup a with
  | some o =>
    -- the script is one of the module's own objects
    have e := KX a o hk
    rw [ha] at e
    cases e
    refine core (fun _ => none) (fun _ => .inl rfl) (.inr ⟨_, vs.toArray, _, hk, rfl, rfl, rfl, by rw [List.size_toArray, lenV]; exact hl, by simpa using rv⟩) (fun b u z => by have z' : (none : Option HO) = some u := z; cases z') (fun b z => absurd rfl z) fun z => absurd rfl z
  | none =>
    refine core (fun b => if b = a then some (.frz { cls := .type "list", data := .seq vs.toArray } (.lst (ns.map V.int))) else none) (fun b => ?_) (.inl (.inr ⟨{ cls := .type "list", data := .seq vs.toArray }, if_pos rfl⟩)) (fun b u z => ?_) (fun b z => ?_) fun _ => hk
    · by_cases hb : b = a
      · exact .inr ⟨_, _, if_pos hb⟩
      · exact .inl (if_neg hb)
    · by_cases hb : b = a
      · have z' := (if_pos hb).symm.trans z
        cases z'
        subst hb
        exact ⟨ha, by rw [List.length_map]; exact hl, vs, _, rv, ha⟩
      · have z' := (if_neg hb).symm.trans z
        cases z'
    · by_cases hb : b = a
      · exact hb
      · exact absurd (if_neg hb) z
end L2
namespace L2
open PySem PySem.Spec PyProof.Rows
theorem walk_of {l : PySem.W.OpenLaw} {n k : Nat} {q : Program} {loose : List Str} {XP : (Str → Option Value) → Heap → Prop} {YP : World → Heap → Prop} {d : DefRec} {K : Params → PySem.W.Frag} {CX : World → CXT} {sp : World → Sp} {x : Str}
    (hn : l.most = some n) (hn2 : n ≤ sizeLine) (hdf : d.params.defaults = []) (hr : Room k callerA)
    (hY : ∀ (w : World) (h : Heap), YP w h → (K w.params).In h)
    (F : ∀ (w : World) (mg : Str → Option Value) (fa : Addr) (h : Heap), (K w.params).In h → h.Ns mainGlobals mg → mg d.name = some (.ref fa) →
      ∃ fd : FuncData, (∀ (s : Shared) (u : Value), BindsTo s fd ⟨[u], []⟩ [(x, u)]) ∧
        ∀ base : Heap, (K w.params).In base → base.Ns mainGlobals mg → FnOk l.prog w (K w.params) mg base (CX w) k fa fd [x] (sp w))
    (hsp : ∀ (w : World) (H : Hp) (a : Addr) (ns : List Int), ns.length ≤ n → Only H → SqL (K w.params) H a (ns.map V.int) → sp w [.ref a] H (fun v _ => v = .bl true) fun _ _ _ => False)
    (hCX : ∀ (w : World) (H : Hp) (s : Shared) (e : Value) (s' : Shared), CX w [] H s (fun _ _ _ => False) e s' → False) :
    PySem.W.WalkO q loose XP YP l.row.toRowW d [] (fun f vs => PySem.call f vs) := by
  refine Att.attach_call hn hdf fun w s₀ s₁ mg mb fa o pm cd doc a vs ns G Y ho hd hcd hmg hobj hints hlen hg => ?_
  have KX := hY w _ Y
  obtain ⟨fd, hb, hF⟩ := F w mg fa _ KX G.T.g hmg
  exact law_call KX G.T.g G.T.b G.T.builtins G.T.nolimit hg hobj hints (Nat.le_trans hlen hn2) hr hF hb (fun H hO hS => hsp w H a ns hlen hO hS) fun H e s' => hCX w H s₁ e s'
end L2
namespace L2
open PySem PySem.Spec PyProof.Rows
def defArgs (s : Stmt) : Arguments := match s with
  | .FunctionDef _ a _ _ _ _ _ _ _ _ => a
  | _ => { posonlyargs := [], args := [], vararg := none, kwonlyargs := [], kw_defaults := [], kwarg := none, defaults := [] }
def defBody (s : Stmt) : List Stmt := match s with
  | .FunctionDef _ _ b _ _ _ _ _ _ _ => b
  | _ => []
def defScope (s : Stmt) : Scope := match s with
  | .FunctionDef _ _ _ _ _ _ sc _ _ _ => sc
  | _ => { kind := .function, names := [], isGenerator := false, isCoroutine := false }
abbrev CX0 : CXT := fun _ _ _ _ _ _ => False
abbrev E0 : XK := fun _ _ _ => False
theorem pass0 {X : Cx} : Passes CX0 X E0 := fun _ _ _ _ _ _ _ h => h.elim
structure Fun (K : PySem.W.Frag) (x qual : Str) (st : Stmt) (f : Addr) (fd : FuncData) : Prop where
  ex : ∃ (oc : Value) (od : Option Addr) (kV doc pm : Value) (an : Option Addr) (cdv ct : Value) (osl : Array (Option Value)),
    fd = PySem.W.fnOf x qual (defArgs st) (defBody st) (defScope st) .none kV doc pm an cdv ct ∧ K.lookup f = some ⟨oc, od, .func fd, osl⟩ ∧ PySem.W.codeIn K cdv qual = true
  kp : PySem.W.keepIn K (.ref f) = true
section
variable {P : Program} {w : World} {K : PySem.W.Frag} {mg : Str → Option Value} {base : Heap}
theorem Fun.ok {x qual : Str} {st : Stmt} {f : Addr} {fd : FuncData} {N ps : List Str} {k : Nat} {sp : Sp} (F : Fun K x qual st f fd) (S : FnScope N ps (defScope st)) (len : ∀ vs H Q E, sp vs H Q E → vs.length = ps.length)
    (hbody : ∀ (cdv : Value) (A : Around) (outer : List Env) (s : Shared) (H : Hp) (vs : List V) (Q : VK) (E : XK), Room k (A.deeper (envOfC qual (defScope st) s.heap.objs.size f cdv)) → sp vs H Q E →
      ∃ t, PSs (cxOf CX0 P w K mg base N qual (defScope st) f cdv A outer s H E).nox (defBody st) t ∧ t { nx := fun _ H' => Q .non H', rt := Q } (start N vs) H) : FnOk P w K mg base CX0 (k + 1) f fd ps sp := by
  obtain ⟨oc, od, kV, doc, pm, an, cdv, ct, osl, rfl, lk, hcd⟩ := F.ex
  refine fn_of lk hcd S len fun A outer s H vs Q E hr hsp => ?_
  obtain ⟨t, h, q⟩ := hbody cdv A outer s H vs Q E hr hsp
  exact ⟨t, h.nox, q⟩
theorem Fun.binds {x qual : Str} {st : Stmt} {f : Addr} {fd : FuncData} {ps : List Str} (F : Fun K x qual st f fd)
    (h : ∀ (kV doc pm : Value) (an : Option Addr) (cdv ct : Value) (us : List Value), us.length = ps.length → bindArgs (PySem.W.fnOf x qual (defArgs st) (defBody st) (defScope st) .none kV doc pm an cdv ct) ⟨us, []⟩ = pure (ps.zip us)) : Binds K fd ps [] := by
  obtain ⟨oc, od, kV, doc, pm, an, cdv, ct, osl, rfl, lk, hcd⟩ := F.ex
  exact .all (h kV doc pm an cdv ct)
theorem fun_mk {x qual : Str} {st : Stmt} {f : Addr} {oc : Value} {od an : Option Addr} {osl : Array (Option Value)} {kV doc pm cdv ct : Value} (l : K.lookup f = some ⟨oc, od, .func (PySem.W.fnOf x qual (defArgs st) (defBody st) (defScope st) .none kV doc pm an cdv ct), osl⟩)
    (c : PySem.W.codeIn K cdv qual = true) (k : PySem.W.keepIn K (.ref f) = true) : Fun K x qual st f (PySem.W.fnOf x qual (defArgs st) (defBody st) (defScope st) .none kV doc pm an cdv ct) := ⟨⟨oc, od, kV, doc, pm, an, cdv, ct, osl, rfl, l, c⟩, k⟩
end
section
variable {X : Cx}
theorem pv (i : Nat) {x : Str} {pos : Pos} (hN : X.N[i]? = some x := by rfl) (hv : Vis X.env.scope x := by first | exact Or.inl rfl | exact Or.inr (Or.inl rfl) | exact Or.inr (Or.inr rfl)) (hd : (x == ("__debug__" : Str)) = false := by decide)
    (hcd : (x == ("__classdict__" : Str)) = false := by decide) : PE X (.Name x pos) (tVar i) := pe_var hN hv hd hcd
end
theorem iteF {A B : Prop} (h : B) : if false = true then A else B := by
  rw [if_neg Bool.false_ne_true]
  exact h
theorem iteT {A B : Prop} (h : A) : if true = true then A else B := by
  rw [if_pos rfl]
  exact h
theorem ite2 {c A B : Prop} [Decidable c] (h1 : c → A) (h2 : ¬ c → B) : if c then A else B := by
  by_cases h : c
  · rw [if_pos h]
    exact h1 h
  · rw [if_neg h]
    exact h2 h
def Same (H H' : Hp) : Prop := ∀ b o, H b = some o → H' b = some o
theorem Same.refl (H : Hp) : Same H H := fun _ _ h => h
theorem Same.trans {H H1 H2 : Hp} (a : Same H H1) (b : Same H1 H2) : Same H H2 := fun c o h => b c o (a c o h)
theorem Same.free {H H' : Hp} (e : Same H H') {l : Addr} (h : H' l = Option.none) : H l = Option.none := by
  cases q : H l with
  | none => rfl
  | some o =>
    rw [e l o q] at h
    cases h
theorem Same.seq {K : PySem.W.Frag} {H H' : Hp} {a : Addr} {xs : List V} (e : Same H H') (h : SqL K H a xs) : SqL K H' a xs := by
  rcases h with (h | ⟨o, h⟩) | h
  · exact .inl (.inl (e _ _ h))
  · exact .inl (.inr ⟨o, e _ _ h⟩)
  · exact .inr h
end L2
set_option maxRecDepth 100000
namespace L2
open PySem PySem.Spec PyProof.Rows
def T (l : List Nat) : Str := ⟨l.toArray⟩
def L (z : Str) : List Nat := z.cps.toList
theorem L_T (l : List Nat) : L (T l) = l := by
  unfold L T
  simp
theorem T_L (z : Str) : T (L z) = z := by
  cases z
  simp [T, L]
theorem L_len (z : Str) : (L z).length = z.length := by simp [L, Str.length]
theorem T_len (l : List Nat) : (T l).length = l.length := by simp [T, Str.length]
theorem T_app (a b : List Nat) : T a ++ T b = T (a ++ b) := by
  show Str.append (T a) (T b) = T (a ++ b)
  simp [Str.append, T]
def gS : St → Nat → Option V
  | [], _ => none
  | a :: _, 0 => a
  | _ :: r, n + 1 => gS r n
theorem gS_get : ∀ {σ : St} {i : Nat} {v : V}, gS σ i = some v → σ[i]? = some (some v)
  | [], _, _, h => by simp [gS] at h
  | a :: _, 0, v, h => by
    have h : a = some v := h
    simp [h]
  | _ :: r, n + 1, v, h => by
    have h : gS r n = some v := h
    simpa using gS_get h
def rVar (i : Nat) : TE := fun σ H Q => match gS σ i with
  | some v => Q v H
  | none => False
section
variable {X : Cx}
theorem qv (i : Nat) {x : Str} {pos : Pos} (hN : X.N[i]? = some x := by rfl) (hv : Vis X.env.scope x := by first | exact Or.inl rfl | exact Or.inr (Or.inl rfl) | exact Or.inr (Or.inr rfl)) (hd : (x == ("__debug__" : Str)) = false := by decide)
    (hcd : (x == ("__classdict__" : Str)) = false := by decide) : PE X (.Name x pos) (rVar i) := by
  intro pins s σ H Q I h
  refine pv i hN hv hd hcd pins s σ H Q I ?_
  unfold rVar at h
  cases e : gS σ i with
  | none => rw [e] at h; exact h.elim
  | some v => rw [e] at h; exact ⟨v, gS_get e, h⟩
def addV : R2 := fun x y H Q => match x, y with
  | .int i, .int j => Q (.int (i + j)) H
  | .str a, .str b => (L a).length + (L b).length ≤ sizeLine ∧ Q (.str (T (L a ++ L b))) H
  | .ref l, .ref b => rCat (.ref l) (.ref b) H Q
  | _, _ => False
theorem o_add : OpR X (binaryOp .Add) addV := by
  intro pins s σ H x y v u Q I rx ry h
  cases x <;> cases y <;> first
    | exact False.elim h
    | exact op_add pins s σ H _ _ v u Q I rx ry ⟨_, _, rfl, rfl, h⟩
    | exact op_cat pins s σ H _ _ v u Q I rx ry h
    | (refine op_add_str pins s σ H _ _ v u Q I rx ry ⟨_, _, rfl, rfl, ?_, ?_⟩
       · rw [← L_len, ← L_len]; exact h.1
       · rename_i a b
         have e := T_app (L a) (L b)
         rw [T_L, T_L] at e
         rw [e]; exact h.2)
def int2 (C : Int → Int → Prop) (g : Int → Int → V) : R2 := fun x y H Q => match x, y with
  | .int i, .int j => C i j ∧ Q (g i j) H
  | _, _ => False
def int2' (g : Int → Int → V) : R2 := fun x y H Q => match x, y with
  | .int i, .int j => Q (g i j) H
  | _, _ => False
theorem o_int2 {f : Value → Value → Sem Value} {C : Int → Int → Prop} {g : Int → Int → V} (h : OpR X f (rI C g)) : OpR X f (int2 C g) := by
  intro pins s σ H x y v u Q I rx ry q
  cases x <;> cases y <;> first
    | exact False.elim q
    | exact h pins s σ H _ _ v u Q I rx ry ⟨_, _, rfl, rfl, q.1, q.2⟩
theorem o_int2' {f : Value → Value → Sem Value} {g : Int → Int → V} (h : OpR X f (rI0 g)) : OpR X f (int2' g) := by
  intro pins s σ H x y v u Q I rx ry q
  cases x <;> cases y <;> first
    | exact False.elim q
    | exact h pins s σ H _ _ v u Q I rx ry ⟨_, _, rfl, rfl, q⟩
abbrev subV : R2 := int2' fun i j => .int (i - j)
theorem o_sub : OpR X (binaryOp .Sub) subV := o_int2' op_sub
abbrev modV : R2 := int2 (fun _ j => 0 < j) fun i j => .int (i % j)
theorem o_mod : OpR X (binaryOp .Mod) modV := o_int2 op_mod
abbrev fdivV : R2 := int2 CDiv fun i j => .int (i / j)
theorem o_fdiv : OpR X (binaryOp .FloorDiv) fdivV := o_int2 op_fdiv
abbrev powV : R2 := int2 CPow fun i j => .int (i ^ j.toNat)
theorem o_pow : OpR X (binaryOp .Pow) powV := o_int2 op_pow
def rep (n : Nat) (l : List Nat) : List Nat := (List.replicate n l).flatten
theorem foldl_app (c : List (Array Nat)) : ∀ a : Array Nat, (c.foldl (fun x y => x ++ y) a).toList = a.toList ++ (c.map Array.toList).flatten := by
  induction c with
  | nil => intro a; simp
  | cons x r ih => intro a; simp [ih]
theorem mul_T (z : Str) (n : Int) : Txt.mul z n = T (rep n.toNat (L z)) := by
  unfold Txt.mul rep
  by_cases h1 : n < 1
  · rw [if_pos h1]
    have : n.toNat = 0 := by omega
    rw [this]
    rfl
  · rw [if_neg h1]
    by_cases h2 : (n == 1 || z.length == 0) = true
    · rw [if_pos h2]
      rcases Bool.or_eq_true _ _ |>.mp h2 with e | e
      · have : n = 1 := by simpa using e
        subst this
        show z = T (List.flatten [L z])
        simp [T_L]
      · have e0 : z.length = 0 := by simpa using e
        have e1 : L z = [] := List.eq_nil_of_length_eq_zero (by rw [L_len]; exact e0)
        rw [e1]
        have e2 : z = T [] := by rw [← e1, T_L]
        rw [e2]
        congr 1
        simp
    · rw [if_neg h2]
      have e := foldl_app (List.replicate n.toNat z.cps) #[]
      rw [← T_L ⟨_⟩]
      congr 1
      show (List.foldl (fun x y => x ++ y) #[] (List.replicate n.toNat z.cps)).toList = _
      rw [e]
      simp [L]
def mulV : R2 := fun x y H Q => match x, y with
  | .int i, .int j => CMul i j ∧ Q (.int (i * j)) H
  | .str a, .int n => (-(2 ^ 63) ≤ n ∧ n < 2 ^ 63 ∧ (L a).length * n.toNat ≤ sizeLine) ∧ Q (.str (T (rep n.toNat (L a)))) H
  | .ref l, .int k => rRep (.ref l) (.int k) H Q
  | _, _ => False
theorem o_mul : OpR X (binaryOp .Mult) mulV := by
  intro pins s σ H x y v u Q I rx ry h
  cases x <;> cases y <;> first
    | exact False.elim h
    | exact op_mul pins s σ H _ _ v u Q I rx ry ⟨_, _, rfl, rfl, h.1, h.2⟩
    | exact op_rep pins s σ H _ _ v u Q I rx ry h
    | (rename_i a n
       obtain ⟨t, e⟩ := rx
       obtain ⟨t', e'⟩ := ry
       subst e e'
       obtain ⟨⟨h1, h2, h3⟩, q⟩ := h
       rw [L_len] at h3
       have hl : sizeLine = 16777216 := sizeLine_eq
       refine SB.mul ⟨?_, fun h4 h5 => ?_, fun h4 h5 => ?_⟩ fun t' k => ?_
       · rw [decide_eq_false (by omega), decide_eq_false (by omega)]; rfl
       · intro h6
         have h7 : n ≤ (a.length : Int) * n := by
           have h8 : a.length ≠ 0 := by
             intro z
             rw [z] at h5
             simp at h5
           have h9 : (1 : Int) ≤ (a.length : Int) := by omega
           calc n = 1 * n := by omega
             _ ≤ (a.length : Int) * n := Int.mul_le_mul_of_nonneg_right h9 (by omega)
         have h10 : (a.length : Int) * n ≤ 16777216 := by
           have : ((a.length * n.toNat : Nat) : Int) ≤ 16777216 := by omega
           rw [Int.natCast_mul, Int.toNat_of_nonneg (by omega)] at this
           exact this
         have h11 : (a.length : Int) ≤ (2 ^ 63 - 1) / n := by
           rw [Int.le_ediv_iff_mul_le (by omega)]
           omega
         omega
       · unfold Builtin.Str.tooLong
         exact decide_eq_false (by omega)
       · exact ⟨.str (T (rep n.toNat (L a))), H, I.tok _, ⟨_, by rw [mul_T]⟩, q⟩)
def ltV : R2 := fun x y H Q => match x, y with
  | .int i, .int j => Q (.bl (decide (i < j))) H
  | .str a, .str b => Q (.bl (decide (L a < L b))) H
  | _, _ => False
theorem o_lt : OpR X (compareOp .Lt) ltV := by
  intro pins s σ H x y v u Q I rx ry h
  cases x <;> cases y <;> first
    | exact False.elim h
    | exact op_lt pins s σ H _ _ v u Q I rx ry ⟨_, _, rfl, rfl, h⟩
    | exact op_lt_str pins s σ H _ _ v u Q I rx ry ⟨_, _, rfl, rfl, h⟩
abbrev gtV : R2 := int2' fun i j => .bl (decide (j < i))
theorem o_gt : OpR X (compareOp .Gt) gtV := o_int2' op_gt
def sc : V → V → Option Bool
  | .int i, .int j => some (decide (i = j))
  | .str a, .str b => some (decide (L a = L b))
  | .bl a, .bl b => some (decide (a = b))
  | .non, .non => some true
  | .non, .int _ => some false | .int _, .non => some false | .non, .bl _ => some false | .bl _, .non => some false | .non, .str _ => some false | .str _, .non => some false
  | .int _, .str _ => some false | .str _, .int _ => some false | .bl _, .str _ => some false | .str _, .bl _ => some false
  | _, _ => none
theorem L_inj {a b : Str} : L a = L b ↔ a = b := by
  constructor
  · intro h
    rw [← T_L a, ← T_L b, h]
  · intro h
    rw [h]
theorem sc_eq {x y : V} {b : Bool} (h : sc x y = some b) : scal x y = true ∧ b = decide (x = y) := by
  cases x <;> cases y <;> first
    | exact (nomatch (show (none : Option Bool) = some b from h))
    | (have h := Option.some.inj h
       subst h
       refine ⟨rfl, ?_⟩
       simp [L_inj])
def eqR : R2 := fun x y H Q => match sc x y with
  | some b => Q (.bl b) H
  | none => False
def neR : R2 := fun x y H Q => match sc x y with
  | some b => Q (.bl (!b)) H
  | none => False
theorem o_eq : OpR X (compareOp .Eq) eqR := by
  intro pins s σ H x y v u Q I rx ry h
  unfold eqR at h
  cases e : sc x y with
  | none => rw [e] at h; exact h.elim
  | some b =>
    rw [e] at h
    obtain ⟨h1, h2⟩ := sc_eq e
    subst h2
    exact op_eq pins s σ H x y v u Q I rx ry ⟨h1, h⟩
theorem o_ne : OpR X (compareOp .NotEq) neR := by
  intro pins s σ H x y v u Q I rx ry h
  unfold neR at h
  cases e : sc x y with
  | none => rw [e] at h; exact h.elim
  | some b =>
    rw [e] at h
    obtain ⟨h1, h2⟩ := sc_eq e
    subst h2
    exact op_ne pins s σ H x y v u Q I rx ry ⟨h1, h⟩
def isV : R2 := fun x y H Q => match y, x with
  | .non, x => Q (.bl (decide (x = .non))) H
  | .bl b, .bl c => Q (.bl (c == b)) H
  | _, _ => False
def isntV : R2 := fun x y H Q => match y, x with
  | .non, x => Q (.bl (!decide (x = .non))) H
  | .bl b, .bl c => Q (.bl (c != b)) H
  | _, _ => False
theorem o_is : OpR X (compareOp .Is) isV := by
  intro pins s σ H x y v u Q I rx ry h
  cases y with
  | non => exact op_isN pins s σ H x _ v u Q I rx ry ⟨rfl, h⟩
  | bl b =>
    cases x with
    | bl c =>
      cases rx
      cases ry
      exact is_bool (fin_bl I h rfl)
    | _ => exact False.elim h
  | _ => cases x <;> exact False.elim h
def ixV (K : PySem.W.Frag) : R2 := fun x y H Q => match x, y with
  | .str z, .int i => (L z).length ≤ sizeLine ∧ ∃ c, atI (L z) i = some c ∧ Q (.str (T [c])) H
  | .ref p, .int i => ∃ xs v, (SqL K H p xs ∨ SqT K H p xs) ∧ atI xs i = some v ∧ Q v H
  | _, _ => False
theorem i_ix : IxR X (ixV X.K) := by
  intro value slice pins s σ H x y v u Q I rx ry h hs
  cases x <;> cases y <;> first
    | exact False.elim h
    | (obtain ⟨hz, c, e, q⟩ := h
       exact ix_str value slice pins s σ H _ _ v u Q I rx ry ⟨_, _, c, rfl, rfl, (by rw [← L_len]; exact hz), e, q⟩ hs)
    | (obtain ⟨xs, w, e | e, ei, q⟩ := h
       · exact ix_list value slice pins s σ H _ _ v u Q I rx ry ⟨_, xs, _, w, rfl, rfl, e, ei, q⟩ hs
       · exact ix_tup value slice pins s σ H _ _ v u Q I rx ry ⟨_, xs, _, w, rfl, rfl, e, ei, q⟩ hs)
def cut {α : Type} (xs : List α) (lo hi : Option Int) : List α := (xs.drop (HT.sIx xs.length 0 lo)).take (HT.sIx xs.length xs.length hi - HT.sIx xs.length 0 lo)
theorem cut_len {α : Type} (xs : List α) (lo hi : Option Int) : (cut xs lo hi).length ≤ xs.length := by
  unfold cut
  rw [List.length_take, List.length_drop]
  omega
theorem range_eq (a b : Nat) : sliceRange (a : Int) (b : Int) 1 = (List.range (b - a)).map fun k => a + k := by
  unfold sliceRange
  have h1 : (1 : Int) > 0 := by decide
  simp only [h1, if_true]
  have e2 : (if (a : Int) < (b : Int) then ((b : Int) - (a : Int) + 1 - 1) / 1 else 0).toNat = b - a := by
    split <;> omega
  rw [e2]
  apply List.map_congr_left
  intro k _
  omega
theorem ixs_eq (lo hi : Option Int) (n : Nat) : Builtin.Str.strSliceIndices lo hi 1 n = (List.range (HT.sIx n n hi - HT.sIx n 0 lo)).map fun k => HT.sIx n 0 lo + k := by
  rw [← range_eq]
  have h1 : (1 : Int) > 0 := by decide
  have cl : ∀ (i : Int) (d : Nat), max 0 (min (if i < 0 then i + (n : Int) else i) (n : Int)) = ((HT.sIx n d (some i) : Nat) : Int) := by
    intro i d
    show max 0 (min (if i < 0 then i + (n : Int) else i) (n : Int)) = (((if i < 0 then (i + (n : Int)).toNat else min i.toNat n) : Nat) : Int)
    by_cases hi : i < 0
    · rw [if_pos hi, if_pos hi]; omega
    · rw [if_neg hi, if_neg hi]; omega
  unfold Builtin.Str.strSliceIndices
  simp only [h1, if_true]
  cases lo with
  | none =>
    cases hi with
    | none => rfl
    | some j =>
      simp only [cl j n]
      rfl
  | some i =>
    cases hi with
    | none =>
      simp only [cl i 0]
      rfl
    | some j => simp only [cl i 0, cl j n]
theorem pick_L (l : List Nat) (a : Nat) : ∀ k : Nat, ((List.range k).map fun m => a + m).filterMap (fun i => l[i]?) = (l.drop a).take k
  | 0 => by simp
  | k + 1 => by
    rw [List.range_succ, List.map_append, List.filterMap_append, pick_L l a k, List.take_succ, List.getElem?_drop]
    cases e : l[a + k]? <;> simp [e]
theorem slice_T (z : Str) (lo hi : Option Int) : Txt.slice z lo hi = T (cut (L z) lo hi) := by
  unfold Txt.slice
  rw [ixs_eq]
  have e0 : (fun i : Nat => z.cps[i]?) = fun i : Nat => (L z)[i]? := by
    funext i
    simp [L]
  have hl : (L z).length = z.length := L_len z
  have h1 := HT.sIx_le z.length z.length (Nat.le_refl _) hi
  have e : T (cut (L z) lo hi) = ⟨(((List.range (HT.sIx z.length z.length hi - HT.sIx z.length 0 lo)).map fun k => HT.sIx z.length 0 lo + k).filterMap fun i => z.cps[i]?).toArray⟩ := by
    rw [e0, pick_L]
    unfold cut T
    rw [hl]
  rw [← e]
  split
  · rename_i h
    rw [List.length_map, List.length_range] at h
    have h2 : HT.sIx z.length z.length hi - HT.sIx z.length 0 lo = z.length := by simpa using h
    have h3 : HT.sIx z.length 0 lo = 0 := by
      by_cases hz : z.length = 0
      · have := HT.sIx_le z.length 0 (Nat.zero_le _) lo
        omega
      · omega
    unfold cut
    rw [hl, h2, h3, List.drop_zero, ← hl, List.take_length, T_L]
  · rfl
def slV (K : PySem.W.Frag) : V → Option Int → Option Int → Hp → VK → Prop := fun x lo hi H Q => match x with
  | .str z => (L z).length ≤ sizeLine ∧ Q (.str (T (cut (L z) lo hi))) H
  | .ref p => ∃ xs, SqL K H p xs ∧ ∀ q, H q = none → Q (.ref q) (upd H q (.lst (cut xs lo hi)))
  | _ => False
theorem part_of {v : Value} {o : Option Int} (h : IsPart v o) : ∃ q : Option (Int × Tok), v = partValue q ∧ q.map (·.1) = o := by
  cases h with
  | none => exact ⟨none, rfl, rfl⟩
  | int i t => exact ⟨some (i, t), rfl, rfl⟩
theorem s_sl : SlR X (slV X.K) := by
  intro pins s σ H x v vl vu lo hi sl Q I rx hs pl pu h
  cases x with
  | str z =>
    obtain ⟨hz, q⟩ := h
    obtain ⟨t, rfl⟩ := rx
    obtain ⟨l, rfl, el⟩ := part_of pl
    obtain ⟨u, rfl, eu⟩ := part_of pu
    refine ⟨"str", _, F.slot_str_getitem.lookup, typeIs_str _ _ _, ?_⟩
    refine wpAny_getItem_str_slice (l := l) (u := u) (st := none) hs rfl ?_
    refine post_val_or_str ⟨?_, fun t' k => ?_⟩
    · show (Txt.slice z (l.map (·.1)) (u.map (·.1))).length ≤ sizeLine
      refine Nat.le_trans (Txt.slice_le z _ _) ?_
      rw [← L_len]
      exact hz
    · refine ⟨.str (T (cut (L z) lo hi)), H, I.tok _, ⟨t', ?_⟩, q⟩
      show Value.str (Txt.slice z (l.map (·.1)) (u.map (·.1))) t' = _
      rw [slice_T, el, eu]
  | ref p =>
    obtain ⟨xs, hx, q⟩ := h
    exact sl_list pins s σ H _ v vl vu lo hi sl Q I rx hs pl pu ⟨p, xs, rfl, hx, q⟩
  | _ => exact False.elim h
def lenV (K : PySem.W.Frag) : List V → Hp → VK → Prop := fun xs H Q => match xs with
  | [.str z] => (L z).length ≤ sizeLine ∧ Q (.int (L z).length) H
  | [.ref p] => ∃ ys, (SqL K H p ys ∨ SqT K H p ys) ∧ Q (.int ys.length) H
  | _ => False
theorem c_len : CallR X (.builtin "len") (lenV X.K) := by
  intro pins s σ H xs us Q I r h
  unfold lenV at h
  split at h
  · exact call_len_str pins s σ H _ us Q I r ⟨_, rfl, by rw [← L_len]; exact h.1, by rw [← L_len]; exact h.2⟩
  · obtain ⟨ys, hy, q⟩ := h
    exact call_len_seq pins s σ H _ us Q I r ⟨_, ys, rfl, hy, q⟩
  · exact h.elim
def joinL (sep : List Nat) : List (List Nat) → List Nat
  | [] => []
  | [x] => x
  | x :: y :: r => x ++ sep ++ joinL sep (y :: r)
theorem joinL_nil : ∀ xs : List (List Nat), joinL [] xs = xs.flatten
  | [] => rfl
  | [x] => by simp [joinL]
  | x :: y :: r => by
    rw [joinL, joinL_nil (y :: r)]
    simp
theorem join_T (sep : Str) : ∀ ys : List Str, Str.join sep ys = T (joinL (L sep) (ys.map L))
  | [] => rfl
  | [x] => by
    show x = T (L x)
    rw [T_L]
  | x :: y :: r => by
    show x ++ sep ++ Str.join sep (y :: r) = T (L x ++ L sep ++ joinL (L sep) ((y :: r).map L))
    rw [join_T sep (y :: r), ← T_app, ← T_app, T_L, T_L]
theorem strs_of : ∀ {zs : List Str} {us : List Value}, Vals (zs.map V.str) us → StrsAre us zs := by
  intro zs
  induction zs with
  | nil => intro us r; cases r; exact .nil
  | cons z r ih =>
    intro us h
    rw [List.map_cons] at h
    cases h with
    | cons r1 r2 =>
      obtain ⟨t, rfl⟩ := r1
      exact .cons z t (ih r2)
def joinV (K : PySem.W.Frag) : V → List V → Hp → VK → Prop := fun x xs H Q => match x, xs with
  | .str a, [.ref p] => ∃ zs : List (List Nat), SqL K H p (zs.map fun l => V.str (T l)) ∧ (zs.map List.length).sum + zs.length * (L a).length ≤ sizeLine ∧ Q (.str (T (joinL (L a) zs))) H
  | _, _ => False
theorem m_join : MtR X "str.join" (joinV X.K) := by
  intro pins s σ H x xs v us Q I rx rs h
  unfold joinV at h
  split at h
  · rename_i a p
    obtain ⟨zs, hp, hz, q⟩ := h
    obtain ⟨t, rfl⟩ := rx
    obtain ⟨u, rfl, ru⟩ := vals1 rs
    cases ru
    obtain ⟨its, r', pl, _⟩ := I.list hp
    have e : (zs.map fun l => V.str (T l)) = (zs.map T).map V.str := by simp
    rw [e] at r'
    have hl : sizeLine = 16777216 := sizeLine_eq
    refine join_list (ys := zs.map T) pl.isList (by simpa using strs_of r') ?_ fun t' k => ?_
    · rw [List.map_map, List.length_map, ← L_len a]
      have : (Str.length ∘ T) = List.length := by
        funext l
        exact T_len l
      rw [← hl]
      show (List.map (Str.length ∘ T) zs).sum + _ ≤ _
      rw [this]
      exact hz
    · refine ⟨.str (T (joinL (L a) zs)), H, I.tok _, ⟨t', ?_⟩, q⟩
      show Value.str (Txt.join a (zs.map T)) t' = _
      have e2 : Txt.join a (zs.map T) = Str.join a (zs.map T) := StrLaws.glued_eq_join _ _
      rw [e2, join_T, List.map_map]
      congr 3
      simp [L_T, Function.comp_def]
  · exact h.elim
end
end L2
set_option maxRecDepth 100000
namespace L2
open PySem PySem.Spec PyProof.Rows
theorem ObjOk.forget {P : Program} {w : World} {H H' : Hp} {h h' : Heap} {a : Addr} {o : HO} (x : ObjOk P w H h a o) (y : ObjOk P w H' h' a o) : ObjOk P w H h' a o := by
  induction o with
  | frz ob u ih => exact ⟨y.1, ih x.2 y.2⟩
  | ins C dx fs => exact ⟨x.1, y.2⟩
  | dT kvs => exact False.elim x
  | _ => exact y
theorem HOk.forget {P : Program} {w : World} {H H' : Hp} {h h' : Heap} (x : HOk P w H h) (y : HOk P w H' h') (sm : Same H H') : HOk P w H h' := fun a o e => (x a o e).forget (y a o (sm a o e))
section
variable {X : Cx} {pins : List (Addr × Obj)} {σ σ' : St} {H H' : Hp} {s s' : Shared}
theorem Inv.forget (I : Inv X pins σ H s) (J : Inv X pins σ' H' s') (sm : Same H H') : Inv X pins σ' H s' :=
  ⟨J.ok, J.os, J.bare, ⟨J.base.keep, J.base.slot, I.base.free, J.base.there, I.base.tups, I.base.frzs, I.base.tbls⟩, J.loc, J.cell, I.free, I.freeC,
    fun p hp => ⟨(J.pin p hp).1, (I.pin p hp).2.1, (J.pin p hp).2.2⟩, I.hok.forget J.hok sm, J.len⟩
theorem Same.upd {H H' : Hp} {a : Addr} {o : HO} (e : Same H H') (n : H' a = none) : Same H (upd H' a o) := fun b u q => by
  have q' := e b u q
  rw [upd_ne (ne_of_none q' n)]
  exact q'
theorem Same.updN {H : Hp} {a : Addr} {o : HO} (n : H a = none) : Same H (L2.upd H a o) := Same.upd (Same.refl H) n
def tFE (t : TE) : TE := fun σ H Q => t σ H fun v H' => Same H H' ∧ Q v H
end
structure Fn (P : Program) (w : World) (K : PySem.W.Frag) (mg : Str → Option Value) (base : Heap) (k : Nat) (x : Str) (ps : List Str) (sp : Sp) : Prop where
  ex : ∃ f fd, FnOk P w K mg base CX0 k f fd ps sp ∧ mg x = some (.ref f) ∧ PySem.W.keepIn K (.ref f) = true ∧ Binds K fd ps []
section
variable {P : Program} {w : World} {K : PySem.W.Frag} {mg : Str → Option Value} {base : Heap}
theorem Fn.mono {j k : Nat} {x : Str} {ps : List Str} {sp : Sp} (F : Fn P w K mg base j x ps sp) (h : j ≤ k) : Fn P w K mg base k x ps sp := by
  obtain ⟨f, fd, F, r⟩ := F.ex
  exact ⟨f, fd, F.mono h, r⟩
theorem Fun.pure {x qual : Str} {st : Stmt} {f : Addr} {fd : FuncData} {N ps : List Str} {k : Nat} {sp : Sp} (F : Fun K x qual st f fd) (S : FnScope N ps (defScope st)) (len : ∀ vs H Q E, sp vs H Q E → vs.length = ps.length)
    (hbody : ∀ (cdv : Value) (A : Around) (outer : List Env) (s : Shared) (H : Hp) (vs : List V) (Q : VK) (E : XK), Room k (A.deeper (envOfC qual (defScope st) s.heap.objs.size f cdv)) → sp vs H Q E →
      ∃ t, PSs (cxOf CX0 P w K mg base N qual (defScope st) f cdv A outer s H E).nox (defBody st) t ∧ t { nx := fun _ H' => Same H H' ∧ Q .non H, rt := fun v H' => Same H H' ∧ Q v H } (start N vs) H) : FnOk P w K mg base CX0 (k + 1) f fd ps sp := by
  have F1 : FnOk P w K mg base CX0 (k + 1) f fd ps (fun vs H Q' E => ∃ Q, sp vs H Q E ∧ Q' = fun v H' => Same H H' ∧ Q v H) := by
    refine F.ok S (fun vs H Q E ⟨Q0, h, _⟩ => len vs H Q0 E h) fun cdv A outer s H vs Q E hr ⟨Q0, h, e⟩ => ?_
    subst e
    exact hbody cdv A outer s H vs Q0 E hr h
  refine ⟨len, fun A outer s H args us vs Q E hr e0 hb r hsp => ?_⟩
  refine codeAny_mono (F1.run A outer s H args us vs (fun v H' => Same H H' ∧ Q v H) E hr e0 hb r ⟨Q, hsp, rfl⟩) fun r s' h => ?_
  cases r with
  | error e => exact h
  | ok fl =>
    cases fl with
    | ret u =>
      obtain ⟨v, H', os, bare, un, hok, rv, sm, q⟩ := h
      exact ⟨v, H, os, bare, ⟨un.keep, un.slot, fun _ _ _ n _ => n, un.there, fun _ _ q => q, fun _ _ _ q => q, fun _ ps q => ⟨#[], by rw [q]; simp⟩⟩, e0.hok.forget hok sm, rv, q⟩
    | next => exact h
    | brk => exact h
    | cont => exact h
end
section
variable {X : Cx} {k : Nat} {x : Str} {ps : List Str} {sp : Sp} {p pos : Pos} {e : Expr} {es : List Expr} {t : TA}
def tFn (sp : Sp) (t : TA) : TE := fun σ H Q => t σ H fun vs H1 => sp vs H1 Q E0
theorem pe_fn (F : Fn X.prog X.w X.K X.mg X.base k x ps sp) (hr : Room k X.A) (ha : PA X (e :: es) t) (hg : Gl X x := by rfl) (hdb : (x == ("__debug__" : Str)) = false := by decide)
    (he : starEach (e :: es) X.env = (false, eval e X.env) :: starEach es X.env := by rfl) (hpl : (backTo pos (starEach es X.env)).any (·.1) = false := by rfl) : PE X (.Call (.Name x p) (e :: es) [] pos) (tFn sp t) := by
  obtain ⟨f, fd, F, hm, hk, hb⟩ := F.ex
  intro pins s σ H Q I h
  refine pe_call F hr hg hm hk hb .nil pass0 ha hdb he hpl pins s σ H Q I ?_
  show t σ H fun vs H1 => sp (vs ++ []) H1 Q E0
  simp only [List.append_nil]
  exact h
end
def closL : List (Str × NameKind) → List (Str × Addr) → List (Str × Addr) → Option (List (Str × Addr))
  | [], _, acc => some acc
  | (n, k) :: r, cells, acc => if k == .free then (match cells.lookup n with
      | some c => closL r cells ((n, c) :: acc)
      | none => none) else closL r cells acc
theorem closureFor_L {scope : Scope} {env : Env} {cl : List (Str × Addr)} (h : closL scope.names env.cells [] = some cl) : closureFor scope env = pure cl := by
  have all : ∀ (names : List (Str × NameKind)) (acc : List (Str × Addr)), closL names env.cells acc = some cl →
      (do
        let mut cs := acc
        for (name, kind) in names do
          if kind == .free then cs := (name, ← cellOf env name) :: cs
        return cs : Sem (List (Str × Addr))) = pure cl := by
    intro names
    induction names with
    | nil =>
      intro acc h
      cases Option.some.inj (show some acc = some cl from h)
      rfl
    | cons x r ih =>
      intro acc h
      obtain ⟨n, k⟩ := x
      unfold closL at h
      dsimp only at ih ⊢
      rw [List.forIn_cons]
      dsimp only
      cases hk : (k == NameKind.free) with
      | false =>
        rw [hk] at h
        simp only [hk, Bool.false_eq_true, if_false] at h ⊢
        exact ih acc h
      | true =>
        rw [hk] at h
        simp only [hk, if_true] at h ⊢
        cases hc : env.cells.lookup n with
        | none => rw [hc] at h; cases h
        | some c =>
          rw [hc] at h
          unfold cellOf
          simp only [hc]
          exact ih ((n, c) :: acc) h
  exact all scope.names [] h
theorem closL_in {cells : List (Str × Addr)} {cl : List (Str × Addr)} : ∀ (names : List (Str × NameKind)) (acc : List (Str × Addr)), closL names cells acc = some cl →
    (∀ x c, acc.lookup x = some c → cells.lookup x = some c) → (∀ x c, cl.lookup x = some c → cells.lookup x = some c) ∧ ∀ x, ((∃ c, acc.lookup x = some c) ∨ names.lookup x = some .free) → ∃ c, cl.lookup x = some c
  | [], acc, h, ha => by
    cases Option.some.inj (show some acc = some cl from h)
    exact ⟨ha, fun x hx => hx.elim id fun z => by simp at z⟩
  | (n, k) :: r, acc, h, ha => by
    unfold closL at h
    cases hk : (k == NameKind.free) with
    | false =>
      rw [hk] at h
      simp only [Bool.false_eq_true, if_false] at h
      obtain ⟨h1, h2⟩ := closL_in r acc h ha
      refine ⟨h1, fun x hx => h2 x (hx.imp id fun z => ?_)⟩
      rw [List.lookup_cons] at z
      cases hx : x == n with
      | true =>
        rw [hx] at z
        cases Option.some.inj z
        cases hk
      | false => rw [hx] at z; exact z
    | true =>
      rw [hk] at h
      simp only [if_true] at h
      cases hc : cells.lookup n with
      | none => rw [hc] at h; cases h
      | some c =>
        rw [hc] at h
        obtain ⟨h1, h2⟩ := closL_in r ((n, c) :: acc) h (fun x d hx => by
          rw [List.lookup_cons] at hx
          cases e : x == n with
          | true =>
            rw [e] at hx
            cases Option.some.inj hx
            rw [eq_of_beq e]
            exact hc
          | false => rw [e] at hx; exact ha x d hx)
        refine ⟨h1, fun x hx => ?_⟩
        cases e : x == n with
        | true => exact h2 x (.inl ⟨c, by rw [List.lookup_cons, e]⟩)
        | false =>
          refine h2 x ?_
          rcases hx with ⟨d, hd⟩ | hx
          · exact .inl ⟨d, by rw [List.lookup_cons, e]; exact hd⟩
          · rw [List.lookup_cons, e] at hx
            exact .inr hx
theorem relabel_of {scope : Scope} {env : Env} {x : Str} {k : NameKind} (h : scope.names.lookup x = some k) : (relabel scope env).names.lookup x = some (if (k == .free && env.scope.kind == .function && env.kindOf x == some .cell) = true then .cell else k) := by
  unfold relabel
  dsimp only
  generalize scope.names = names at h
  induction names with
  | nil => simp at h
  | cons y r ih =>
    obtain ⟨n, j⟩ := y
    rw [List.map_cons]
    rw [List.lookup_cons] at h
    cases e : x == n with
    | true =>
      rw [e] at h
      cases Option.some.inj h
      have en := eq_of_beq e
      subst en
      dsimp only
      split <;> rw [List.lookup_cons, beq_self_eq_true]
    | false =>
      rw [e] at h
      have := ih h
      dsimp only
      split <;> (rw [List.lookup_cons, e]; exact this)
theorem relabel_none {scope : Scope} {env : Env} {x : Str} (h : scope.names.lookup x = none) : (relabel scope env).names.lookup x = none := by
  unfold relabel
  dsimp only
  generalize scope.names = names at h
  induction names with
  | nil => rfl
  | cons y r ih =>
    obtain ⟨n, j⟩ := y
    rw [List.map_cons]
    rw [List.lookup_cons] at h
    cases e : x == n with
    | true => rw [e] at h; cases h
    | false =>
      rw [e] at h
      have := ih h
      dsimp only
      split <;> (rw [List.lookup_cons, e]; exact this)
def PFs (X : Cx) (ifs : List Expr) (t : TT) : Prop :=
  ∀ (pins : List (Addr × Obj)) (s : Shared) (σ : St) (H : Hp) (Q : Bool → Hp → Prop), Inv X pins σ H s → t σ H Q →
    wpAny (model X.prog X.w) X.A (forIn ifs true fun c r => if r = true then do let ok ← isTrue c X.env (eval c X.env); pure (ForInStep.yield ok) else pure (ForInStep.yield r)) (TP X pins σ Q) X.xe s
theorem pf_nil {X : Cx} : PFs X [] (fun _ H Q => Q true H) := fun _ _ _ H _ I h => wpAny_tests_nil ⟨H, I, h⟩
def CapOk (X : Cx) (scope : Scope) : List (Str × Nat) → Prop
  | [] => True
  | (x, j) :: r => (X.N[j]? = some x ∧ X.env.scope.names.lookup x = some .cell ∧ scope.names.lookup x = some .free) ∧ CapOk X scope r
theorem CapOk.get {X : Cx} {scope : Scope} : ∀ {cp : List (Str × Nat)} {i : Nat} {x : Str} {j : Nat}, CapOk X scope cp → cp[i]? = some (x, j) → X.N[j]? = some x ∧ X.env.scope.names.lookup x = some .cell ∧ scope.names.lookup x = some .free
  | [], _, _, _, _, e => by simp at e
  | (y, k) :: r, 0, x, j, h, e => by
    simp at e
    obtain ⟨rfl, rfl⟩ := e
    exact h.1
  | _ :: r, i + 1, x, j, h, e => CapOk.get (cp := r) (i := i) h.2 (by simpa using e)
def capS (n : Nat) (cp : List (Str × Nat)) (σ : St) : St := List.replicate n none ++ cp.map fun p => gS σ p.2
def cxC (X : Cx) (scope : Scope) (cl : List (Str × Addr)) (N : List Str) (fp : List Addr) (C : Addr) (s : Shared) (H : Hp) : Cx :=
  { X with N := N, s₀ := s, H₀ := H, env := compEnvC scope cl C X.env, outer := X.stack, stack := X.stack, ex := fp, fn := fun _ => false, pn := [], xe := fun _ _ => False }
def GKeep (n : Nat) (g : TG) : Prop := ∀ x σ H Q, g x σ H Q → g x σ H fun σ' H' => Q σ' H' ∧ ∀ j : Nat, n ≤ j → σ'[j]? = σ[j]?
theorem gk_name {n i : Nat} (h : i < n) : GKeep n (gName i) := fun x σ H Q q => ⟨q, fun j hj => List.getElem?_set_ne (by omega)⟩
def tComp (n : Nat) (cp : List (Str × Nat)) (wi : TI) (g : TG) (tc : TT) (te : TE) : TE := fun σ H Q => wi σ H fun J H1 => ∃ W : Nat → Nat → Hp → List V → Prop, (∃ m, W 0 m H1 []) ∧ ∀ i m H2 acc, W i m H2 acc →
  acc.length < sizeLine ∧ ((J.stop i H2 ∧ ∀ l, H2 l = none → Q (.ref l) (upd H2 l (.lst acc))) ∨
    (J.go i H2 ∧ ∀ x H3, J.yld i H2 x H3 → g x (capS n cp σ) H3 fun σ' H4 => tc σ' H4 fun b H5 => if b = true then te σ' H5 fun y H6 => ∃ m', m' < m ∧ W (i + 1) m' H6 (acc ++ [y]) else ∃ m', m' < m ∧ W (i + 1) m' H5 acc))
abbrev lobj (its : List Value) (n : Nat) : Obj := { cls := .type "list", data := .seq its.toArray n }
section
variable {X : Cx} {pins : List (Addr × Obj)} {σ : St} {H2 : Hp} {s2 : Shared} {scope : Scope} {cl : List (Str × Addr)} {own : List Str} {cp : List (Str × Nat)} {fp : List Addr} {C D : Addr} {h1 : Heap}
theorem comp_ok (I : Inv X pins σ H2 s2) (hcl : closL scope.names X.env.cells [] = some cl) (hk : scope.kind = .function) (hnc : ∀ y ∈ scope.names, y.2 ≠ .cell)
    (f2 : ∀ b ∈ fp, FpOk X pins H2 b) (hC : s2.heap.objs.size ≤ C) (hlt : ∀ b ∈ fp, b < s2.heap.objs.size) (N : List Str) : (cxC X scope cl N fp C s2 H2).Ok := by
  have c1 := (closL_in scope.names [] hcl (fun x c h => by simp at h)).1
  have c2 := (closL_in scope.names [] hcl (fun x c h => by simp at h)).2
  refine ⟨I.ok.mod, hk, I.ok.glob, I.ok.blt, hC, fun x y c h1 h2 => I.ok.inj x y c (c1 x c h1) (c1 y c h2), fun x hx => ?_, fun x c h _ => absurd h (by simp [cxC]), I.ok.hd, I.ok.frames, .inl rfl, fun b hb => ⟨?_, fun x c h => ?_⟩, I.bs, Nat.le_trans I.ok.bsz I.sz, fun b o e hb => ?_, fun b hb hf => ?_, I.stack, I.stkFree⟩
  · have hx : (relabel scope X.env).names.lookup x = some .cell ∨ (relabel scope X.env).names.lookup x = some .free := hx
    cases e : scope.names.lookup x with
    | none => rw [relabel_none e] at hx; rcases hx with z | z <;> cases z
    | some k =>
      rw [relabel_of e] at hx
      refine c2 x (.inr ?_)
      by_cases hf : (k == .free && X.env.scope.kind == .function && X.env.kindOf x == some .cell) = true
      · have : k = .free := by
          simp only [Bool.and_eq_true] at hf
          exact eq_of_beq hf.1.1
        rw [e, this]
      · rw [if_neg hf] at hx
        rcases hx with z | z
        · cases Option.some.inj z
          exact absurd rfl (hnc _ (PySem.mem_of_lookup e))
        · cases Option.some.inj z
          exact e
  · exact Nat.ne_of_lt (Nat.lt_of_lt_of_le (hlt b hb) hC)
  · exact (f2 b hb).2.2.2.2.1 x c (c1 x c h)
  · rcases (f2 b hb).2.2.2.1 with z | z
    · exact I.ok.noex b o e z
    · exact absurd (Nat.lt_of_lt_of_le (Heap.lt_size e) (Nat.le_trans I.ok.bsz z)) (Nat.lt_irrefl _)
  · have hf : b ∈ frs X.stack := hf
    rcases List.mem_cons.mp (I.stkSub b hf) with z | z
    · exact (f2 b hb).2.1 z
    · exact (f2 b hb).2.2.1 z
theorem comp_start {tk : Nat} (I : Inv X pins σ H2 s2) (hcl : closL scope.names X.env.cells [] = some cl) (hk : scope.kind = .function) (hnc : ∀ y ∈ scope.names, y.2 ≠ .cell) (hcp : CapOk X scope cp)
    (f2 : ∀ b ∈ fp, FpOk X pins H2 b) (hC : s2.heap.objs.size < C) (hlt : ∀ b ∈ fp, b < s2.heap.objs.size) (hns : h1.Ns C (fun _ => none)) (old : ∀ b o, s2.heap.get? b = some o → h1.get? b = some o)
    (hD : h1.get? s2.heap.objs.size = some (lobj [] 0)) :
    Inv (cxC X scope cl (own ++ cp.map (·.1)) fp C s2 H2) [(s2.heap.objs.size, lobj [] 0)] (capS own.length cp σ) H2 { s2 with heap := h1, toks := tk } := by
  have ok := comp_ok I hcl hk hnc f2 (Nat.le_of_lt hC) hlt (own ++ cp.map (·.1))
  have c1 := (closL_in scope.names [] hcl (fun x c h => by simp at h)).1
  have c2 := (closL_in scope.names [] hcl (fun x c h => by simp at h)).2
  obtain ⟨m, hm, hl⟩ := id I.loc
  refine ⟨ok, rfl, I.bare, Un.kept old, ⟨_, hns, fun i x v e1 e2 e3 => ?_⟩, fun x c e => ?_, I.hok.fresh (Nat.le_of_lt hC), fun x c e => I.freeC x c (c1 x c e), fun p hp => ?_, I.hok.kept old, ?_⟩
  · have e1 : (own ++ cp.map (·.1))[i]? = some x := e1
    unfold capS at e2
    by_cases hi : i < own.length
    · rw [List.getElem?_append_left (by simpa using hi), List.getElem?_replicate] at e2
      split at e2 <;> cases e2
    · rw [List.getElem?_append_right (by simpa using hi), List.length_replicate, List.getElem?_map] at e2
      rw [List.getElem?_append_right (by omega), List.getElem?_map] at e1
      cases q : cp[i - own.length]? with
      | none => rw [q] at e1; cases e1
      | some p =>
        rw [q] at e1 e2
        obtain ⟨y, j⟩ := p
        cases Option.some.inj e1
        obtain ⟨g1, g2, g3⟩ := hcp.get q
        have e4 : gS σ j = some v := Option.some.inj e2
        obtain ⟨u, r, lk⟩ := hl j y v g1 (gS_get e4) (.inr (.inl g2))
        refine ⟨u, r, .inr ⟨?_, ?_⟩⟩
        · left
          show (relabel scope X.env).names.lookup y = some .cell
          rw [relabel_of g3]
          rw [if_pos]
          have : X.env.kindOf y = some .cell := g2
          rw [this, I.ok.kind]
          rfl
        · rcases lk with ⟨z, _⟩ | ⟨_, c, z, zc⟩
          · have z' : X.env.scope.names.lookup y = some .local := z
            rw [g2] at z'
            cases z'
          · obtain ⟨d, hd⟩ := c2 y (.inr g3)
            have hd' := c1 y d hd
            rw [z] at hd'
            cases Option.some.inj hd'
            obtain ⟨o, ho, hdt⟩ := zc
            exact ⟨c, hd, o, old _ _ ho, hdt⟩
  · obtain ⟨v, o, ho, hd⟩ := I.cell x c (c1 x c e)
    exact ⟨v, o, old _ _ ho, hd⟩
  · have hp : p ∈ [(s2.heap.objs.size, lobj [] 0)] := hp
    cases List.mem_singleton.mp hp
    refine ⟨hD, I.hok.fresh (Nat.le_refl _), Nat.ne_of_lt hC, fun hf => ?_, fun v z => by cases z⟩
    have hf : s2.heap.objs.size ∈ frs X.stack := hf
    rcases List.mem_cons.mp (I.stkSub _ hf) with z | z
    · exact Nat.ne_of_gt I.lt z
    · exact I.nofs (Nat.le_refl _) z
  · show (capS own.length cp σ).length = (own ++ cp.map (·.1)).length
    unfold capS
    simp
theorem comp_end {X' : Cx} {σ' : St} {H' : Hp} {s' : Shared} {h'' : Heap} {acc : List V} {its : List Value} {n : Nat} (I : Inv X pins σ H2 s2) (f2 : ∀ b ∈ fp, FpOk X pins H2 b)
    (hX : X' = cxC X scope cl (own ++ cp.map (·.1)) fp C s2 H2) (hC : s2.heap.objs.size < C) (J : Inv X' [(s2.heap.objs.size, lobj its n)] σ' H' s') (rv : Vals acc its) (hz : acc.length ≤ sizeLine)
    (hsb : Heap.SameBut C s'.heap h'') : H' s2.heap.objs.size = none ∧ Inv X pins σ (upd H' s2.heap.objs.size (.lst acc)) { s' with heap := h'' } := by
  subst hX
  obtain ⟨p1, p2, p3, p4, p5⟩ := J.pin (s2.heap.objs.size, lobj its n) (List.mem_append_right _ (List.mem_singleton.mpr rfl))
  have p1 : s'.heap.get? s2.heap.objs.size = some (lobj its n) := p1
  have p2 : H' s2.heap.objs.size = none := p2
  have hfC : H' C = none := J.free
  have up : ∀ b o, b ≠ C → s'.heap.get? b = some o → h''.get? b = some o := fun b o hb e => (hsb.2 b hb).trans e
  have ltC : ∀ b o, s2.heap.get? b = some o → b ≠ C := fun b o e => Nat.ne_of_lt (Nat.lt_trans (Heap.lt_size e) hC)
  have ltD : ∀ b o, s2.heap.get? b = some o → b ≠ s2.heap.objs.size := fun b o e => Nat.ne_of_lt (Heap.lt_size e)
  have B : Un (frs X.stack) fp H2 H' s2.heap s'.heap := J.base
  refine ⟨p2, I.call' (ch := fp) J.os ⟨fun b o e n hb hx => up b o (ltC b o e) (B.keep b o e n hb hx), fun b o e n hb hx => ?_, fun b o e n hx => ?_, fun b o e hx => ?_, fun b xs e => ?_, fun b o u e => ?_, fun b ps e => ?_⟩ (fun a o e => ?_) J.bare
    fun b hb => ⟨(f2 b hb).2.2.2.1, (f2 b hb).2.1, (f2 b hb).2.2.2.2.1, (f2 b hb).2.2.2.2.2⟩⟩
  · obtain ⟨sl, e1⟩ := B.slot b o e n hb hx
    exact ⟨sl, up b _ (ltC b o e) e1⟩
  · rw [upd_ne (ltD b o e)]
    exact B.free b o e n hx
  · obtain ⟨o', e1⟩ := B.there b o e hx
    exact ⟨o', up b o' (ltC b o e) e1⟩
  · have q := B.tups b xs e
    rw [upd_ne (ne_of_none q p2)]
    exact q
  · have q := B.frzs b o u e
    rw [upd_ne (ne_of_none q p2)]
    exact q
  · obtain ⟨more, q⟩ := B.tbls b ps e
    exact ⟨more, by rw [upd_ne (ne_of_none q p2)]; exact q⟩
  · by_cases ha : a = s2.heap.objs.size
    · subst ha
      rw [upd_same] at e
      cases e
      exact ⟨hz, its, n, rv, up _ _ (Nat.ne_of_lt hC) p1⟩
    · rw [upd_ne ha] at e
      refine (J.hok a o e).stay (fun b u hb q => up b u ?_ q) (fun b q => ?_) fun b xs q => ?_
      · rintro rfl
        rcases hb with z | z
        · subst z
          rw [hfC] at e
          cases e
        · rw [hfC] at z
          cases z
      · rw [upd_ne (ne_of_none q p2)]
        exact q
      · rw [upd_ne (ne_of_none q p2)]
        exact q
end
theorem thnE {α : Type} {t : Sem α} {Q Q' : α → Shared → Prop} {M : Model} {A : Around} {E : Value → Shared → Prop} {s : Shared} (h : wpAny M A t Q (fun _ _ => False) s) (hQ : ∀ a s, Q a s → Q' a s) : wpAny M A t Q' E s := wpAny_mono h hQ fun _ _ x => x.elim
section
variable {X : Cx}
theorem pe_comp {elt iter target : Expr} {ifs : List Expr} {scope : Scope} {pos : Pos} {cl : List (Str × Addr)} {own : List Str} {cp : List (Str × Nat)} {wi : TI} {g : TG} {tc : TT} {te : TE}
    (hc : X.calm = true) (hcl : closL scope.names X.env.cells [] = some cl) (hk : scope.kind = .function) (hnc : ∀ y ∈ scope.names, y.2 ≠ .cell)
    (hnm : ∀ x ∈ scope.names, x.2 = .local → scope.names.lookup x.1 = some .local) (hcp : CapOk X scope cp) (hi : PI X target iter wi) (gk : GKeep own.length g)
    (hg : ∀ fp C s H, PG (cxC X scope cl (own ++ cp.map (·.1)) fp C s H) target g) (ht : ∀ fp C s H, PFs (cxC X scope cl (own ++ cp.map (·.1)) fp C s H) ifs tc) (he : ∀ fp C s H, PE (cxC X scope cl (own ++ cp.map (·.1)) fp C s H) elt te)
    (hs : ∀ x, foldedSetIterable iter X.env x = pure x := by intro _; rfl) : PE X (.ListComp elt [⟨target, iter, ifs, 0⟩] scope pos) (tComp own.length cp wi g tc te) := by
  intro pins s σ H Q I h
  rw [eval_ListComp]
  refine wpAny_comprehension_free (use := none) rfl hs (closureFor_L hcl) hk hnm (thn (hi pins s σ H _ I h) fun xv s1 h1 => thn h1 fun itv s2 h2 => ?_)
  obtain ⟨it, fp, tn, J, H2, e, I2, Tn, st2, f2, W, ⟨m0, w0⟩, turn⟩ := h2
  subst e
  have hlt : ∀ b ∈ fp, b < s2.heap.objs.size := fun b hb => by
    obtain ⟨o, e, _⟩ := Tn.obj _ _ st2 b hb
    exact Heap.lt_size e
  refine wpAny_newObj_type (wpAny_newFunctionEnv hnc (by intro y hy; simp at hy) (fun h1 hns hsb => ?_) hk)
  dsimp only at hns hsb ⊢
  generalize hP : s2.heap.push { cls := .type "list", dict := none, data := .seq ([] : List Value).toArray } = h0 at hns hsb ⊢
  have hCs : h0.objs.size = s2.heap.objs.size + 1 := by rw [← hP, Heap.size_push]
  generalize hCg : h0.objs.size = C at hns hsb hCs ⊢
  have hC : s2.heap.objs.size < C := by omega
  have neC : ∀ b : Addr, b < s2.heap.objs.size → b ≠ C := fun b h => Nat.ne_of_lt (Nat.lt_trans h hC)
  have old : ∀ b o, s2.heap.get? b = some o → h1.get? b = some o := fun b o e =>
    (hsb.2 b (neC b (Heap.lt_size e))).trans (by rw [Heap.get?_push_of_some _ (by rw [← hP]; exact Heap.get?_push_of_some _ e)])
  have hD : h1.get? s2.heap.objs.size = some (lobj [] 0) :=
    (hsb.2 _ (Nat.ne_of_lt hC)).trans (by rw [Heap.get?_push_of_some _ (by rw [← hP]; exact Heap.get?_push_size _ rfl)])
  have fpok : ∀ {its : List Value} {k : Nat} {H' : Hp}, (∀ b ∈ fp, H' b = none) → ∀ b ∈ fp, FpOk (cxC X scope cl (own ++ cp.map (·.1)) fp C s2 H2) [(s2.heap.objs.size, lobj its k)] H' b := fun {its k H'} fr b hb => by
    refine ⟨fr b hb, neC b (hlt b hb), fun hf => ?_, .inl hb, fun x c e => ?_, fun p hp => ?_⟩
    · have hf : b ∈ frs X.stack := hf
      rcases List.mem_cons.mp (I2.stkSub b hf) with z | z
      · exact (f2 b hb).2.1 z
      · exact (f2 b hb).2.2.1 z
    · exact (f2 b hb).2.2.2.2.1 x c ((closL_in scope.names [] hcl (fun x c h => by simp at h)).1 x c e)
    · have hp : p ∈ [(s2.heap.objs.size, lobj its k)] := hp
      cases List.mem_singleton.mp hp
      exact Nat.ne_of_gt (hlt b hb)
  have loop : ∀ s4 : Shared, s4 = { s2 with heap := h1, toks := s2.toks + ([] : List (Str × Value)).length } →
      codeAny (model X.prog X.w) X.A (.compLoop (.ListComp elt [⟨target, iter, ifs, 0⟩] scope pos) 0 (.ref it) (.ref s2.heap.objs.size) (compEnvC scope cl C X.env))
        (compPost (model X.prog X.w) X.A X.xe none (EP X pins σ Q) (.ref s2.heap.objs.size) C) s4 := by
    intro s4 e4
    have I4 : Inv (cxC X scope cl (own ++ cp.map (·.1)) fp C s2 H2) [(s2.heap.objs.size, lobj [] 0)] (capS own.length cp σ) H2 s4 := by
      rw [e4]
      exact comp_start I2 hcl hk hnc hcp f2 hC hlt (by simpa using hns) old hD
    have st4 : tn 0 s4.heap := by
      rw [e4]
      exact Tn.keep _ _ _ st2 fun b _ o e => old b o e
    refine codeAny_loop rfl (fun n s' => ∃ i H' acc its k, Inv (cxC X scope cl (own ++ cp.map (·.1)) fp C s2 H2) [(s2.heap.objs.size, lobj its k)] (capS own.length cp σ) H' s' ∧ Vals acc its ∧ tn i s'.heap ∧ (∀ b ∈ fp, H' b = none) ∧ W i n H' acc)
      (fun n s' hI => ?_) m0 ⟨0, H2, [], [], 0, I4, .nil, st4, fun b hb => (f2 b hb).1, w0⟩
    obtain ⟨i, H', acc, its, k, I', rv, st, fr, w⟩ := hI
    show wpAny _ X.A ((compTurn (.ListComp elt [⟨target, iter, ifs, 0⟩] scope pos) 0 (.ref it) (.ref s2.heap.objs.size) (compEnvC scope cl C X.env)).onRaise (fun x => do noteFrame x (compEnvC scope cl C X.env); theTreesLotGoes x)) _ _ s'
    refine wpAny_noted ?_
    rw [compTurn_list]
    refine wpAny_bind (wpAny_standAt (wpAny_bind ?_))
    obtain ⟨hz, ⟨stop, fin⟩ | ⟨go, step⟩⟩ := turn i n H' acc w
    · refine thnE (Tn.done (cxC X scope cl (own ++ cp.map (·.1)) fp C s2 H2) rfl rfl rfl hc i _ s' _ H' (fun _ _ => False) I' (fpok fr) st stop) fun r s5 ⟨hr, I5⟩ => ?_
      subst hr
      refine wpAny_pure ?_
      obtain ⟨mm, hmm, _⟩ := I5.loc
      refine ⟨mm, hmm, fun h'' hs'' => ?_⟩
      obtain ⟨hn, I6⟩ := comp_end I2 f2 rfl hC I5 rv (Nat.le_of_lt hz) hs''
      exact ⟨.ref s2.heap.objs.size, _, I6, rfl, fin _ hn⟩
    · refine thnE (Tn.item (cxC X scope cl (own ++ cp.map (·.1)) fp C s2 H2) rfl rfl rfl hc i _ s' _ H' (fun _ _ => False) I' (fpok fr) st go) fun r s5 ⟨u, hr, h5⟩ => ?_
      subst hr
      refine wpAny_bind (thnE h5 fun _ s6 ⟨x, H6, I6, r6, y6, st6, fr6⟩ => ?_)
      have I6' := I6.pinned (fpok fr6) (Tn.obj _ _ st6)
      refine wpAny_bind (thnE (hg fp C s2 H2 _ s6 _ H6 x u _ I6' r6 (gk _ _ _ _ (step x H6 y6))) fun _ s7 ⟨σ7, H7, I7, q7, kp7⟩ => ?_)
      refine wpAny_bind (thnE (ht fp C s2 H2 _ s7 σ7 H7 _ I7 q7) fun b s8 ⟨H8, I8, q8⟩ => ?_)
      have weak : ∀ {H9 : Hp} {s9 : Shared} {ps : List (Addr × Obj)}, Inv (cxC X scope cl (own ++ cp.map (·.1)) fp C s2 H2) ps σ7 H9 s9 → Inv (cxC X scope cl (own ++ cp.map (·.1)) fp C s2 H2) ps (capS own.length cp σ) H9 s9 := fun {H9 s9 ps} I9 =>
        I9.weak (by rw [I9.len]; exact I'.len) fun j v e => by
          by_cases hj : own.length ≤ j
          · rw [kp7 j hj]
            exact e
          · unfold capS at e
            rw [List.getElem?_append_left (by rw [List.length_replicate]; omega), List.getElem?_replicate] at e
            split at e <;> cases e
      have turned : ∀ {H9 : Hp} {s9 : Shared}, Inv (cxC X scope cl (own ++ cp.map (·.1)) fp C s2 H2) ([(s2.heap.objs.size, lobj its k)] ++ pinsAt fp s6.heap) σ7 H9 s9 → (∀ b ∈ fp, H9 b = none) ∧ ∀ b ∈ fp, ∀ o, s6.heap.get? b = some o → s9.heap.get? b = some o := fun {H9 s9} I9 => by
        refine ⟨fun b hb => ?_, fun b hb o e => ?_⟩
        · obtain ⟨o, e, _⟩ := Tn.obj _ _ st6 b hb
          exact (I9.pin (b, o) (List.mem_append_right _ (List.mem_append_right _ (mem_pinsAt hb e)))).2.1
        · exact (I9.pin (b, o) (List.mem_append_right _ (List.mem_append_right _ (mem_pinsAt hb e)))).1
      cases b with
      | false =>
        obtain ⟨m', hm', w8⟩ := q8
        refine wpAny_pure ⟨rfl, m', hm', i + 1, H8, acc, its, k, weak I8.unpinned, rv, Tn.keep _ _ _ st6 (turned I8).2, (turned I8).1, w8⟩
      | true =>
        refine wpAny_bind (wpAny_bind (thnE (he fp C s2 H2 _ s8 σ7 H8 _ I8 q8) fun uy s9 ⟨y, H9, I9, r9, m', hm', w9⟩ => ?_))
        have pD := I9.pin (s2.heap.objs.size, lobj its k) (List.mem_append_right _ (List.mem_append_left _ (List.mem_singleton.mpr rfl)))
        have lenI := rv.length
        refine wpAny_bind (wpAny_list_append_plain (items := its.toArray) ⟨k, pD.1⟩ (fun h10 pl sb => ?_) (by rw [List.size_toArray]; omega))
        obtain ⟨k', hk'⟩ := pl
        have I10 : Inv (cxC X scope cl (own ++ cp.map (·.1)) fp C s2 H2) (pinsAt fp s6.heap) σ7 H9 { s9 with heap := h10 } := by
          have I9' : Inv (cxC X scope cl (own ++ cp.map (·.1)) fp C s2 H2) (pinsAt fp s6.heap) σ7 H9 s9 := I9.pins_of fun p hp => I9.pin p (List.mem_append_right _ (List.mem_append_right _ hp))
          refine I9'.turned (t' := s9.toks) (it := s2.heap.objs.size) (fun b o hb e => (sb.2 b hb).trans e) pD.2.1 pD.2.2.1 (.inr (Nat.le_refl _)) (fun x c e z => ?_) fun p hp z => ?_
          · obtain ⟨v, o, ho, hd⟩ := I9.cell x c e
            rw [z, pD.1] at ho
            cases ho
            cases hd
          · have hp : p ∈ pinsAt fp s6.heap := hp
            exact Nat.ne_of_lt (hlt p.1 (of_pinsAt hp).1) z
        have kk : ∀ b ∈ fp, ∀ o, s6.heap.get? b = some o → h10.get? b = some o := fun b hb o e => (sb.2 b (Nat.ne_of_lt (hlt b hb))).trans ((turned I9).2 b hb o e)
        have I11 : Inv (cxC X scope cl (own ++ cp.map (·.1)) fp C s2 H2) [(s2.heap.objs.size, lobj (its ++ [uy]) k')] σ7 H9 { s9 with heap := h10 } := I10.pins_of fun p hp => by
          cases List.mem_singleton.mp hp
          refine ⟨?_, pD.2.1, pD.2.2.1, pD.2.2.2.1, fun v z => by cases z⟩
          rw [hk']
          simp
        exact wpAny_pure (wpAny_pure ⟨rfl, m', hm', i + 1, H9, acc ++ [y], its ++ [uy], k', weak I11, rv.append (.cons r9 .nil), Tn.keep _ _ _ st6 kk, (turned I9).1, w9⟩)
  exact codeAny_compStart_list (loop _ rfl) (Tn.self _ 0 _ _ _ (Tn.keep _ _ _ st2 fun b _ o e => old b o e) (loop _ rfl))
end
end L2
set_option maxRecDepth 100000
namespace L2
open PySem PySem.Spec PyProof.Rows
section
variable {X : Cx} {pos : Pos}
def trV (K : PySem.W.Frag) (t : TE) : TT := fun σ H Q => t σ H fun x H' => match x with
  | .bl b => Q b H'
  | .int i => Q (i != 0) H'
  | .non => Q false H'
  | .str z => (L z).length ≤ sizeLine ∧ Q (((L z).length : Int) != 0) H'
  | .ref p => ∃ k, TruV K (.ref p) H' k ∧ Q k H'
  | _ => False
theorem pt_tr {a : Expr} {ta : TE} (ha : PE X a ta) (he : ∀ whole, isTrue a X.env whole = (do let v ← whole; standAt a.pos; holding [v] (truthy v)) := by intro _; rfl) : PT X a (trV X.K ta) := by
  intro pins s σ H Q I h
  refine isTrue_plain (thn (ha pins s σ H _ I h) fun v s1 ⟨x, H1, I1, r1, q1⟩ => tru_ok pins s1 σ H1 x v Q I1 r1 ?_) (he _)
  cases x with
  | bl b => exact ⟨b, rfl, q1⟩
  | int i => exact ⟨_, rfl, q1⟩
  | non => exact ⟨false, rfl, q1⟩
  | str z => exact ⟨_, ⟨by rw [← L_len]; exact q1.1, rfl⟩, by rw [← L_len]; exact q1.2⟩
  | ref p => exact q1
  | _ => exact False.elim q1
def tB2 (r : R2) (ta tb : TE) : TT := fun σ H Q => ta σ H fun x H1 => tb σ H1 fun y H2 => r x y H2 fun z H3 => match z with
  | .bl b => Q b H3
  | _ => False
theorem pt_c2 {op : CmpOp} {r : R2} {a b : Expr} {ta tb : TE} (ho : OpR X (compareOp op) r) (ha : PE X a ta) (hb : PE X b tb) (hm : behindInMarks op b = false := by first | exact nomark _ | with_unfolding_all rfl) : PT X (.Compare a [op] [b] pos) (tB2 r ta tb) := by
  intro pins s σ H Q I h
  refine wpAny_isTrue_Compare1 (thn (ha pins s σ H _ I h) fun v s1 ⟨x, H1, I1, r1, q1⟩ => thn (hb pins s1 σ H1 _ I1 q1) fun u s2 ⟨y, H2, I2, r2, q2⟩ =>
    thn (ho pins s2 σ H2 x y v u _ I2 r1 r2 q2) fun c s3 ⟨z, H3, I3, r3, q3⟩ => ?_) hm
  cases z with
  | bl k => cases r3; exact wpAny_truthy_bool ⟨H3, I3, q3⟩
  | _ => exact False.elim q3
theorem pe_c2 {op : CmpOp} {r : R2} {a b : Expr} {ta tb : TE} (ho : OpR X (compareOp op) r) (ha : PE X a ta) (hb : PE X b tb) (hm : behindInMarks op b = false := by first | exact nomark _ | with_unfolding_all rfl) : PE X (.Compare a [op] [b] pos) (tOp r ta tb) := pe_cmpR ho ha hb hm
def vAnd (ta tb : TE) : TE := fun σ H Q => ta σ H fun x H1 => match x with
  | .bl c => if c = true then tb σ H1 Q else Q (.bl false) H1
  | _ => False
def vOr (ta tb : TE) : TE := fun σ H Q => ta σ H fun x H1 => match x with
  | .bl c => if c = true then Q (.bl true) H1 else tb σ H1 Q
  | _ => False
def vNot (ta : TE) : TE := fun σ H Q => ta σ H fun x H1 => match x with
  | .bl c => Q (.bl (!c)) H1
  | _ => False
theorem mono_val {a : Expr} {ta : TE} (h : PE X a ta) (pins : List (Addr × Obj)) (s : Shared) (σ : St) (H : Hp) (Q Q' : VK) (I : Inv X pins σ H s) (q : ta σ H Q) (hq : ∀ v H', Q v H' → Q' v H') : wpAny (model X.prog X.w) X.A (eval a X.env) (EP X pins σ Q') X.xe s :=
  thn (h pins s σ H Q I q) fun u s1 ⟨v, H1, I1, r, q⟩ => ⟨v, H1, I1, r, hq v H1 q⟩
theorem PE.imp {e : Expr} {t : TE} (h : PE X e t) {t' : TE} (hi : ∀ σ H Q, t' σ H Q → ∃ Q0, t σ H Q0 ∧ ∀ v H', Q0 v H' → Q v H') : PE X e t' := fun pins s σ H Q I q => by
  obtain ⟨Q0, h0, h1⟩ := hi σ H Q q
  exact mono_val h pins s σ H Q0 Q I h0 h1
theorem pe_and2 {a b : Expr} {rest : List Expr} {ta tb : TE} (ha : PE X a ta) (hb : PE X (.BoolOp .And (b :: rest) pos) tb) : PE X (.BoolOp .And (a :: b :: rest) pos) (vAnd ta tb) := by
  have ha' : PE X a (fun σ H Q => ∃ Q0 : VK, ta σ H Q0 ∧ ∀ v H', Q0 v H' → Q v H') := ha.imp fun σ H Q h => h
  intro pins s σ H Q I h
  refine pe_and (ta := fun σ H Q => ∃ Q0 : VK, ta σ H Q0 ∧ ∀ v H', Q0 v H' → Q v H') ha' hb pins s σ H Q I ?_
  refine ⟨_, h, fun v H' q => ?_⟩
  cases v with
  | bl c => exact ⟨c, rfl, q⟩
  | _ => exact False.elim q
theorem pe_not2 {a : Expr} {ta : TE} (ha : PE X a ta) : PE X (.UnaryOp .Not a pos) (vNot ta) := by
  have ha' : PE X a (fun σ H Q => ∃ Q0 : VK, ta σ H Q0 ∧ ∀ v H', Q0 v H' → Q v H') := ha.imp fun σ H Q h => h
  intro pins s σ H Q I h
  refine pe_not (ta := fun σ H Q => ∃ Q0 : VK, ta σ H Q0 ∧ ∀ v H', Q0 v H' → Q v H') ha' pins s σ H Q I ?_
  refine ⟨_, h, fun v H' q => ?_⟩
  cases v with
  | bl c => exact ⟨c, rfl, q⟩
  | _ => exact False.elim q
def negV : V → Hp → VK → Prop := fun x H Q => match x with
  | .int i => Q (.int (-i)) H
  | _ => False
theorem u_neg : UnR X (unaryOp .USub) negV := by
  intro pins s σ H x v Q I rx h
  cases x with
  | int i => exact un_neg pins s σ H _ v Q I rx ⟨i, rfl, h⟩
  | _ => exact False.elim h
def pT (t : TE) : TO := fun σ H Q => t σ H fun x H1 => match x with
  | .int i => Q (some i) H1
  | _ => False
theorem po_t {e : Expr} {te : TE} (h : PE X e te) : PO X (some e) (pT te) := by
  have h' : PE X e (fun σ H Q => ∃ Q0 : VK, te σ H Q0 ∧ ∀ v H', Q0 v H' → Q v H') := h.imp fun σ H Q h => h
  intro pins s σ H Q I hw
  refine po_some h' pins s σ H Q I ?_
  refine ⟨_, hw, fun v H' q => ?_⟩
  cases v with
  | int i => exact ⟨i, rfl, q⟩
  | _ => exact False.elim q
def tWh (c : TT) (tb : TS) : TS := fun D σ H => ∃ W : Nat → St → Hp → Prop, (∃ m, W m σ H) ∧ ∀ m σ H, W m σ H →
  c σ H fun b H1 => if b = true then tb { nx := fun σ' H' => ∃ m', m' < m ∧ W m' σ' H', rt := D.rt, bk := D.nx, ct := fun σ' H' => ∃ m', m' < m ∧ W m' σ' H' } σ H1 else D.nx σ H1
theorem ps_wh {c : Expr} {body : List Stmt} {tc : TT} {tb : TS} (hp : PassesOwn (model X.prog X.w) X.A X.env X.xe) (hc : PT X c tc) (hb : PSs X body tb) : PS X (.While c body [] pos) (tWh tc tb) := by
  have hc' : PT X c (fun σ H Q => ∃ Q0 : Bool → Hp → Prop, tc σ H Q0 ∧ ∀ v H', Q0 v H' → Q v H') := fun pins s σ H Q I ⟨Q0, h0, h1⟩ => thn (hc pins s σ H Q0 I h0) fun b s1 ⟨H1, I1, q⟩ => ⟨H1, I1, h1 b H1 q⟩
  intro pins s σ H D I h
  obtain ⟨W, w0, turn⟩ := h
  refine ps_while hp hc' hb pins s σ H D I ⟨W, w0, fun m σ1 H1 w => ⟨_, turn m σ1 H1 w, fun b H2 q => ?_⟩⟩
  cases b with
  | true => exact ⟨_, fun _ _ z => z, q⟩
  | false => exact q
def forR (lo : Int) (n : Nat) (i : Nat) (tb : TS) : TS := fun D σ H => ∃ Pv : Nat → St → Hp → Prop, Pv 0 σ H ∧ (∀ k σ H, k < n → Pv k σ H → tb { nx := Pv (k + 1), rt := D.rt, bk := D.nx, ct := Pv (k + 1) } (σ.set i (some (.int (lo + k)))) H) ∧ ∀ σ H, Pv n σ H → D.nx σ H
def tRng (ta : TA) (i : Nat) (tb : TS) : TS := fun D σ H => ta σ H fun vs H1 => match vs with
  | [.int j] => (-(2 ^ 62) ≤ j ∧ j < 2 ^ 62) ∧ forR 0 j.toNat i tb D σ H1
  | _ => False
def tRng2 (ta : TA) (i : Nat) (tb : TS) : TS := fun D σ H => ta σ H fun vs H1 => match vs with
  | [.int l, .int j] => (-(2 ^ 62) ≤ l ∧ l < 2 ^ 62 ∧ -(2 ^ 62) ≤ j ∧ j < 2 ^ 62) ∧ forR l (j - l).toNat i tb D σ H1
  | _ => False
theorem PA.imp {es : List Expr} {t : TA} (h : PA X es t) {t' : TA} (hi : ∀ σ H Q, t' σ H Q → ∃ Q0 : List V → Hp → Prop, t σ H Q0 ∧ ∀ v H', Q0 v H' → Q v H') : PA X es t' := fun p pins s σ H Q I q => by
  obtain ⟨Q0, h0, h1⟩ := hi σ H Q q
  exact thn (h p pins s σ H Q0 I h0) fun us s1 ⟨vs, H1, I1, r, q⟩ => ⟨vs, H1, I1, r, h1 vs H1 q⟩
theorem ps_rng1 {a : Expr} {x : Str} {i : Nat} {p p' pos' : Pos} {body : List Stmt} {ta : TA} {tb : TS} (hp : PassesOwn (model X.prog X.w) X.A X.env X.xe) (hc : X.calm = true) (hm : X.mg "range" = none) (ha : PA X [a] ta)
    (hg : PG X (.Name x pos') (gName i)) (hb : PSs X body tb) (hgl : Gl X "range" := by rfl) (hs : starEach [a] X.env = [(false, eval a X.env)] := by rfl) (hf : ∀ x, foldedSetIterable (.Call (.Name "range" p) [a] [] p') X.env x = pure x := by intro _; rfl) :
    PS X (.For (.Name x pos') (.Call (.Name "range" p) [a] [] p') body [] pos) (tRng ta i tb) := by
  have ha' : PA X [a] (fun σ H Q => ∃ Q0 : List V → Hp → Prop, ta σ H Q0 ∧ ∀ v H', Q0 v H' → Q v H') := ha.imp fun σ H Q h => h
  intro pins s σ H D I h
  refine ps_for hp hc (pi_range1 hgl hm ha' hs) hg hb hf pins s σ H D I ⟨_, h, fun vs H1 q => ?_⟩
  split at q
  · obtain ⟨⟨h1, h2⟩, Pv, h0, hs', hd⟩ := q
    exact ⟨_, rfl, h1, h2, for_range Pv h0 (fun k σ H hk pv => hs' k σ H hk pv) hd⟩
  · exact q.elim
theorem ps_rng2 {a b : Expr} {x : Str} {i : Nat} {p p' pos' : Pos} {body : List Stmt} {ta : TA} {tb : TS} (hp : PassesOwn (model X.prog X.w) X.A X.env X.xe) (hc : X.calm = true) (hm : X.mg "range" = none) (ha : PA X [a, b] ta)
    (hg : PG X (.Name x pos') (gName i)) (hb : PSs X body tb) (hgl : Gl X "range" := by rfl) (hs : starEach [a, b] X.env = [(false, eval a X.env), (false, eval b X.env)] := by rfl) (hs2 : starEach [b] X.env = [(false, eval b X.env)] := by rfl) (hf : ∀ x, foldedSetIterable (.Call (.Name "range" p) [a, b] [] p') X.env x = pure x := by intro _; rfl) :
    PS X (.For (.Name x pos') (.Call (.Name "range" p) [a, b] [] p') body [] pos) (tRng2 ta i tb) := by
  have ha' : PA X [a, b] (fun σ H Q => ∃ Q0 : List V → Hp → Prop, ta σ H Q0 ∧ ∀ v H', Q0 v H' → Q v H') := ha.imp fun σ H Q h => h
  intro pins s σ H D I h
  refine ps_for hp hc (pi_range2 hgl hm ha' hs hs2) hg hb hf pins s σ H D I ⟨_, h, fun vs H1 q => ?_⟩
  split at q
  · obtain ⟨h1, Pv, h0, hs', hd⟩ := q
    exact ⟨_, _, rfl, h1, for_range Pv h0 (fun k σ H hk pv => hs' k σ H hk pv) hd⟩
  · exact q.elim
def forL (K : PySem.W.Frag) (a : Addr) (xs : List V) (g : TG) (tb : TS) : TS := fun D σ H => ∃ Pv : Nat → St → Hp → Prop, Pv 0 σ H ∧ (∀ i σ H, i ≤ xs.length → Pv i σ H → SqL K H a xs) ∧
  (∀ i x σ H, xs[i]? = some x → Pv i σ H → g x σ H fun σ2 H2 => tb { nx := Pv (i + 1), rt := D.rt, bk := D.nx, ct := Pv (i + 1) } σ2 H2) ∧ ∀ σ H, Pv xs.length σ H → D.nx σ H
def tLst1 (K : PySem.W.Frag) (tl : TE) (g : TG) (tb : TS) : TS := fun D σ H => tl σ H fun v H1 => match v with
  | .ref a => ∃ xs, SqL K H1 a xs ∧ forL K a xs g tb D σ H1
  | _ => False
theorem ps_lst {l tg : Expr} {body : List Stmt} {tl : TE} {g : TG} {tb : TS} (hp : PassesOwn (model X.prog X.w) X.A X.env X.xe) (hc : X.calm = true) (hl : PE X l tl) (hg : PG X tg g) (hb : PSs X body tb)
    (hf : ∀ x, foldedSetIterable l X.env x = pure x := by intro _; rfl) : PS X (.For tg l body [] pos) (tLst1 X.K tl g tb) := by
  have hl' : PE X l (fun σ H Q => ∃ Q0 : VK, tl σ H Q0 ∧ ∀ v H', Q0 v H' → Q v H') := hl.imp fun σ H Q h => h
  intro pins s σ H D I h
  refine ps_for hp hc (pi_list hl') hg hb hf pins s σ H D I ⟨_, h, fun v H1 q => ?_⟩
  cases v with
  | ref a =>
    obtain ⟨xs, hx, Pv, h0, hs, h1, hd⟩ := q
    exact ⟨a, rfl, ⟨xs, hx⟩, for_list Pv h0 hs h1 hd⟩
  | _ => exact False.elim q
end
end L2
set_option maxRecDepth 100000
namespace LW
open PySem L2
def signs : List Nat := (List.range 5).map (fun k => 32 + k) ++ (List.range 89).map fun k => 38 + k
theorem signs_len : signs.length = 94 := by decide +kernel
def cellAt (ns : List Int) (k : Int) : Int := if k < ns.length then ns.getD k.toNat 0 else 0
theorem rep_len (n : Nat) (l : List Nat) : (rep n l).length = n * l.length := by
  unfold rep
  simp
theorem atI_getD {α : Type} {xs : List α} {i : Int} (d : α) (h0 : 0 ≤ i) (h1 : i < xs.length) : atI xs i = some (xs.getD i.toNat d) := by
  unfold atI ixN
  rw [if_pos h0, if_pos h1]
  show xs[i.toNat]? = _
  rw [List.getD_eq_getElem?_getD]
  have : i.toNat < xs.length := by omega
  rw [List.getElem?_eq_getElem this]
  rfl
theorem getD_int (l : List Int) (i : Nat) : (l.map V.int).getD i (V.int 0) = V.int (l.getD i 0) := by
  rw [List.getD_eq_getElem?_getD, List.getD_eq_getElem?_getD, List.getElem?_map]
  cases l[i]? <;> rfl
theorem atI_int {l : List Int} {i : Int} (h0 : 0 ≤ i) (h1 : i < l.length) : atI (l.map V.int) i = some (V.int (l.getD i.toNat 0)) := by
  rw [atI_getD (V.int 0) h0 (by simpa using h1), getD_int]
theorem mem_cut {α : Type} {xs : List α} {lo hi : Option Int} {c : α} (h : c ∈ cut xs lo hi) : c ∈ xs := List.mem_of_mem_drop (List.mem_of_mem_take h)
theorem signs_at {i : Nat} (h : i < 94) : signs.getD i 0 ∈ signs := by
  have : i < signs.length := by rw [signs_len]; exact h
  rw [List.getD_eq_getElem?_getD, List.getElem?_eq_getElem this]
  exact List.getElem_mem this
theorem empty_L : L (Str.ofString "") = [] := by decide +kernel
theorem cut_map {α β : Type} (f : α → β) (l : List α) (lo hi : Option Int) : cut (l.map f) lo hi = (cut l lo hi).map f := by
  unfold cut
  rw [List.map_take, List.map_drop, List.length_map]
end LW
set_option maxRecDepth 100000
namespace L2
open PySem PySem.Spec PyProof.Rows
section
variable {X : Cx} {pos : Pos}
def isS (x : V) (n : String) : Option Bool := match x with
  | .int _ => if n = "int" then some true else if n = "bool" then some false else if n = "str" then some false else if n = "list" then some false else if n = "tuple" then some false else if n = "dict" then some false else none
  | .bl _ => if n = "int" then some true else if n = "bool" then some true else if n = "str" then some false else if n = "list" then some false else if n = "tuple" then some false else if n = "dict" then some false else none
  | .str _ => if n = "int" then some false else if n = "bool" then some false else if n = "str" then some true else if n = "list" then some false else if n = "tuple" then some false else if n = "dict" then some false else none
  | .non => if n = "int" then some false else if n = "bool" then some false else if n = "str" then some false else if n = "list" then some false else if n = "tuple" then some false else if n = "dict" then some false else none
  | _ => none
theorem isS_ok {K : PySem.W.Frag} {H : Hp} {x : V} {n : String} {b : Bool} (h : isS x n = some b) : ∃ t, TyOf K H x t ∧ PySem.W.kitOne K t (.type n) = some b := by
  cases x with
  | int i =>
    refine ⟨_, .int i, ?_⟩
    unfold isS at h
    dsimp only at h
    split at h
    · rename_i e; subst e; cases h; rfl
    split at h
    · rename_i e; subst e; cases h; rfl
    split at h
    · rename_i e; subst e; cases h; rfl
    split at h
    · rename_i e; subst e; cases h; rfl
    split at h
    · rename_i e; subst e; cases h; rfl
    split at h
    · rename_i e; subst e; cases h; rfl
    · cases h
  | bl i =>
    refine ⟨_, .bl i, ?_⟩
    unfold isS at h
    dsimp only at h
    split at h
    · rename_i e; subst e; cases h; rfl
    split at h
    · rename_i e; subst e; cases h; rfl
    split at h
    · rename_i e; subst e; cases h; rfl
    split at h
    · rename_i e; subst e; cases h; rfl
    split at h
    · rename_i e; subst e; cases h; rfl
    split at h
    · rename_i e; subst e; cases h; rfl
    · cases h
  | str i =>
    refine ⟨_, .str i, ?_⟩
    unfold isS at h
    dsimp only at h
    split at h
    · rename_i e; subst e; cases h; rfl
    split at h
    · rename_i e; subst e; cases h; rfl
    split at h
    · rename_i e; subst e; cases h; rfl
    split at h
    · rename_i e; subst e; cases h; rfl
    split at h
    · rename_i e; subst e; cases h; rfl
    split at h
    · rename_i e; subst e; cases h; rfl
    · cases h
  | non =>
    refine ⟨_, .non, ?_⟩
    unfold isS at h
    dsimp only at h
    split at h
    · rename_i e; subst e; cases h; rfl
    split at h
    · rename_i e; subst e; cases h; rfl
    split at h
    · rename_i e; subst e; cases h; rfl
    split at h
    · rename_i e; subst e; cases h; rfl
    split at h
    · rename_i e; subst e; cases h; rfl
    split at h
    · rename_i e; subst e; cases h; rfl
    · cases h
  | _ => cases h
def isiV (K : PySem.W.Frag) : List V → Hp → VK → Prop := fun xs H Q => match xs with
  | [.ref p, .ty n] => ∃ b t, TyOf K H (.ref p) t ∧ PySem.W.kitOne K t (.type n) = some b ∧ Q (.bl b) H
  | [x, .ty n] => match isS x n with
    | some b => Q (.bl b) H
    | none => False
  | _ => False
theorem c_isi : CallR X (.builtin "isinstance") (isiV X.K) := by
  intro pins s σ H xs us Q I r h
  unfold isiV at h
  split at h
  · rename_i p n
    obtain ⟨b, t, ty, e, q⟩ := h
    obtain ⟨u, w', rfl, ru, rw'⟩ := vals2 r
    cases rw'
    exact isinst_ok I ru ty e fun tk => fin_bl (I.tok tk) q rfl
  · rename_i x n _
    split at h
    · rename_i b e
      obtain ⟨t, ty, e2⟩ := isS_ok (K := X.K) (H := H) e
      obtain ⟨u, w', rfl, ru, rw'⟩ := vals2 r
      cases rw'
      exact isinst_ok I ru ty e2 fun tk => fin_bl (I.tok tk) h rfl
    · exact h.elim
  · exact h.elim
def minV : List V → Hp → VK → Prop := fun xs H Q => match xs with
  | [.int i, .int j] => Q (.int (min i j)) H
  | _ => False
def maxV : List V → Hp → VK → Prop := fun xs H Q => match xs with
  | [.int i, .int j] => Q (.int (max i j)) H
  | _ => False
theorem c_min (hc : X.calm = true) : CallR X (.builtin "min") minV := by
  intro pins s σ H xs us Q I r h
  unfold minV at h
  split at h
  · rename_i i j
    refine call_min2 hc pins s σ H _ us Q I r ⟨i, j, rfl, ?_⟩
    have : (if j < i then j else i) = min i j := by split <;> omega
    rw [this]; exact h
  · exact h.elim
theorem c_max (hc : X.calm = true) : CallR X (.builtin "max") maxV := by
  intro pins s σ H xs us Q I r h
  unfold maxV at h
  split at h
  · rename_i i j
    refine call_max2 hc pins s σ H _ us Q I r ⟨i, j, rfl, ?_⟩
    have : (if j > i then j else i) = max i j := by split <;> omega
    rw [this]; exact h
  · exact h.elim
end
end L2
namespace L2
open PySem PySem.Spec PyProof.Rows
section
variable {X : Cx} {K : PySem.W.Frag} {pos : Pos}
theorem i_ixK (h : X.K = K) : IxR X (ixV K) := h ▸ i_ix
theorem s_slK (h : X.K = K) : SlR X (slV K) := h ▸ s_sl
theorem c_lenK (h : X.K = K) : CallR X (.builtin "len") (lenV K) := h ▸ c_len
theorem c_isiK (h : X.K = K) : CallR X (.builtin "isinstance") (isiV K) := h ▸ c_isi
theorem m_joinK (h : X.K = K) : MtR X "str.join" (joinV K) := h ▸ m_join
theorem pt_trK {a : Expr} {ta : TE} (hK : X.K = K) (ha : PE X a ta) (he : ∀ whole, isTrue a X.env whole = (do let v ← whole; standAt a.pos; holding [v] (truthy v)) := by intro _; rfl) : PT X a (trV K ta) := by
  subst hK
  exact pt_tr ha he
variable {o e : Expr} {es : List Expr} {to : TE} {t : TA} {name : Str} {apos cpos : Pos} {T id : String} {r : V → List V → Hp → VK → Prop}
theorem pe_bmK (hK : X.K = K) (pa : PlainAttrs T) (slot : Slot T name id) (hty : typeOf (.builtin id) = pure (.type "method_descriptor")) (hm : MtR X id r) (ho : PE X o to) (ha : PA X (e :: es) t)
    (hbase : attributeBase o name X.env (eval o X.env) = eval o X.env := by rfl)
    (hfew : ((backTo cpos (starEach (e :: es) X.env)).all (fun x => !x.1) && (backToKw cpos (keywordEach [] X.env)).all (fun x => x.1.isSome)
      && decide ((e :: es).length + ([] : List Keyword).length + (if ([] : List Keyword).isEmpty then 0 else 1) < 30)) = true := by rfl)
    (hline : (apos.endLine == cpos.line) = true := by rfl) (hs : starEach (e :: es) X.env = (false, eval e X.env) :: starEach es X.env := by rfl) (hplain : (backTo cpos (starEach es X.env)).any (·.1) = false := by rfl) :
    PE X (.Call (.Attribute o name apos) (e :: es) [] cpos) (tBM K T r to t) := by
  subst hK
  exact pe_bm pa slot hty hm ho ha hbase hfew hline hs hplain
theorem ps_lstK {l tg : Expr} {body : List Stmt} {tl : TE} {g : TG} {tb : TS} (hK : X.K = K) (hp : PassesOwn (model X.prog X.w) X.A X.env X.xe) (hc : X.calm = true) (hl : PE X l tl) (hg : PG X tg g) (hb : PSs X body tb)
    (hf : ∀ x, foldedSetIterable l X.env x = pure x := by intro _; rfl) : PS X (.For tg l body [] pos) (tLst1 K tl g tb) := by
  subst hK
  exact ps_lst hp hc hl hg hb hf
end
end L2
namespace L2
open PySem
theorem bt_len : bootBuiltins "len" = some (.builtin "len") := by decide +kernel
theorem bt_isinstance : bootBuiltins "isinstance" = some (.builtin "isinstance") := by decide +kernel
theorem bt_min : bootBuiltins "min" = some (.builtin "min") := by decide +kernel
theorem bt_max : bootBuiltins "max" = some (.builtin "max") := by decide +kernel
theorem bt_int : bootBuiltins "int" = some (.type "int") := by decide +kernel
theorem bt_str : bootBuiltins "str" = some (.type "str") := by decide +kernel
theorem bt_tuple : bootBuiltins "tuple" = some (.type "tuple") := by decide +kernel
theorem bt_bool : bootBuiltins "bool" = some (.type "bool") := by decide +kernel
end L2
set_option maxRecDepth 100000
namespace L2
open PySem PySem.Spec PyProof.Rows
section
variable {X : Cx} {tg : Expr}
end
end L2
set_option maxRecDepth 100000
namespace LW
open PySem L2
def com : List Nat → List Nat → Nat
  | a :: x, b :: y => if a = b then com x y + 1 else 0
  | _, _ => 0
theorem com_le : ∀ l p : List Nat, com l p ≤ l.length ∧ com l p ≤ p.length
  | [], p => by cases p <;> exact ⟨Nat.zero_le _, Nat.zero_le _⟩
  | a :: x, [] => ⟨Nat.zero_le _, Nat.zero_le _⟩
  | a :: x, b :: y => by
    unfold com
    split
    · have := com_le x y
      exact ⟨Nat.succ_le_succ this.1, Nat.succ_le_succ this.2⟩
    · exact ⟨Nat.zero_le _, Nat.zero_le _⟩
end LW
set_option maxRecDepth 100000
namespace LS
open PySem PySem.W PyProof.Rows
abbrev gt (p : Array Nat) (k : Nat) : Nat := p.getD k 0
def Pm (n : Nat) (p : Array Nat) : Prop := p.toList.Perm (List.range n)
theorem Pm.size {n : Nat} {p : Array Nat} (h : Pm n p) : p.size = n := by
  have := h.length_eq
  simpa using this
theorem Pm.lt {n : Nat} {p : Array Nat} (h : Pm n p) {k : Nat} (hk : k < n) : gt p k < n := by
  have hs := h.size
  have : gt p k ∈ p.toList := by
    have hk' : k < p.size := by omega
    unfold gt
    rw [Array.getD_eq_getD_getElem?, Array.getElem?_eq_getElem hk']
    simp
  have := h.mem_iff.mp this
  simpa using this
section
variable {O : KeyOrd} {key : Nat → O.α} {n : Nat}
def Dn (key : Nat → O.α) (p : Array Nat) (k : Nat) : Prop := ∀ i j, i ≤ j → j < k → O.kle (key (gt p j)) (key (gt p i))
structure Asks (key : Nat → O.α) (n : Nat) (J : Shared → Prop) (cmp : Nat → Nat → (Bool → Shared → Prop) → Shared → Prop) : Prop where
  ask : ∀ i j C s, i < n → j < n → J s → (∀ s', J s' → C (O.blt (key i) (key j)) s') → cmp i j C s
variable {J : Shared → Prop} {cmp : Nat → Nat → (Bool → Shared → Prop) → Shared → Prop}
end
end LS
set_option maxRecDepth 100000
namespace LS
open PySem PySem.W PyProof.Rows
theorem Pm.inj {n : Nat} {p : Array Nat} (h : Pm n p) {i j : Nat} (hi : i < n) (hj : j < n) (e : gt p i = gt p j) : i = j := by
  have hs := h.size
  have nd : p.toList.Nodup := h.nodup_iff.mpr List.nodup_range
  have gi : gt p i = p.toList[i]'(by simp; omega) := by
    unfold gt
    rw [Array.getD_eq_getD_getElem?, Array.getElem?_eq_getElem (by omega)]
    simp
  have gj : gt p j = p.toList[j]'(by simp; omega) := by
    unfold gt
    rw [Array.getD_eq_getD_getElem?, Array.getElem?_eq_getElem (by omega)]
    simp
  rw [gi, gj] at e
  rcases Nat.lt_trichotomy i j with h1 | h1 | h1
  · exact absurd e (List.pairwise_iff_getElem.mp nd i j (by simp; omega) (by simp; omega) h1)
  · exact h1
  · exact absurd e.symm (List.pairwise_iff_getElem.mp nd j i (by simp; omega) (by simp; omega) h1)
def Fx (n : Nat) (p : Array Nat) (a : Nat) : Prop := ∀ k, a ≤ k → k < n → gt p k = k
theorem Fx.mono {n a b : Nat} {p : Array Nat} (h : Fx n p a) (hab : a ≤ b) : Fx n p b := fun k h1 h2 => h k (Nat.le_trans hab h1) h2
section
variable {O : KeyOrd} {key : Nat → O.α} {n : Nat}
def St (key : Nat → O.α) (p : Array Nat) (k : Nat) : Prop := ∀ i j, i < j → j < k → key (gt p i) = key (gt p j) → gt p i < gt p j
def Sd (key : Nat → O.α) (p : Array Nat) (k : Nat) : Prop := ∀ i j, i < j → j < k → key (gt p i) = key (gt p j) → gt p j < gt p i
variable {J : Shared → Prop} {cmp : Nat → Nat → (Bool → Shared → Prop) → Shared → Prop}
structure Ds (key : Nat → O.α) (n : Nat) (p : Array Nat) (a q : Nat) : Prop where
  dn : Dn key p a
  sd : Sd key p (a - (q + 1))
  lt : ∀ i j, i < a - (q + 1) → a - (q + 1) ≤ j → j < a → O.klt (key (gt p j)) (key (gt p i))
  up : ∀ i j, a - (q + 1) ≤ i → i < j → j < a → gt p i < gt p j
  fx : Fx n p a
  eq : ∀ i, a - (q + 1) ≤ i → i < a → key (gt p i) = key (gt p (a - 1))
theorem klt_ne {x y : O.α} (h : O.klt x y) : x ≠ y := fun e => by
  subst e
  have : O.blt x x = true := h
  rw [O.irrefl] at this
  cases this
theorem Ds.one {p : Array Nat} {a : Nat} (ha : 1 ≤ a) (d : Ds key n p a 0) : Sd key p a := fun i j hij hj e => by
  by_cases h2 : j < a - 1
  · exact d.sd i j hij (by omega) e
  · exact absurd e.symm (klt_ne (d.lt i j (by omega) (by omega) hj))
end
end LS
set_option maxRecDepth 100000
namespace LO
def eLe (l : List Nat) (i j : Nat) : Bool := decide (l.drop i ≤ l.drop j)
def ord (l : List Nat) : List Nat := (List.range (l.length + 1)).mergeSort (eLe l)
theorem ord_perm (l : List Nat) : (ord l).Perm (List.range (l.length + 1)) := List.mergeSort_perm _ _
theorem ord_length (l : List Nat) : (ord l).length = l.length + 1 := by
  rw [(ord_perm l).length_eq, List.length_range]
theorem mem_ord {l : List Nat} {i : Nat} : i ∈ ord l ↔ i ≤ l.length := by
  rw [(ord_perm l).mem_iff, List.mem_range]
  omega
theorem ord_nodup (l : List Nat) : (ord l).Nodup := (ord_perm l).symm.nodup List.nodup_range
theorem ord_le (l : List Nat) : (ord l).Pairwise (fun i j => l.drop i ≤ l.drop j) := by
  have h := List.pairwise_mergeSort (le := eLe l) (fun a b c h1 h2 => by
    unfold eLe at *
    simp only [decide_eq_true_eq] at *
    exact List.le_trans h1 h2) (fun a b => by
    unfold eLe
    simp only [Bool.or_eq_true, decide_eq_true_eq]
    exact List.le_total _ _) (List.range (l.length + 1))
  refine h.imp fun h => ?_
  simpa [eLe] using h
theorem drop_inj {l : List Nat} {i j : Nat} (hi : i ≤ l.length) (hj : j ≤ l.length) (h : l.drop i = l.drop j) : i = j := by
  have := congrArg List.length h
  rw [List.length_drop, List.length_drop] at this
  omega
theorem drop_lt_of {l : List Nat} {i j : Nat} (hi : i ≤ l.length) (hj : j ≤ l.length) (hn : i ≠ j) (h : l.drop i ≤ l.drop j) : l.drop i < l.drop j := by
  rcases List.le_iff_lt_or_eq.mp h with h | h
  · exact h
  · exact absurd (drop_inj hi hj h) hn
theorem ord_lt (l : List Nat) : (ord l).Pairwise (fun i j => l.drop i < l.drop j) := by
  have h1 := ord_le l
  have h2 : (ord l).Pairwise (· ≠ ·) := ord_nodup l
  have h3 := h1.and h2
  refine List.Pairwise.imp_of_mem ?_ h3
  intro a b ha hb h
  exact drop_lt_of (mem_ord.mp ha) (mem_ord.mp hb) h.2 h.1
theorem count_before {α : Type} {lt : α → α → Bool} (irr : ∀ a, lt a a = false) (asym : ∀ a b, lt a b = true → lt b a = false) : ∀ {xs : List α}, xs.Pairwise (fun a b => lt a b = true) → ∀ {k : Nat} {x : α}, xs[k]? = some x → xs.countP (fun a => lt a x) = k
  | [], _, k, x, h => by simp at h
  | a :: r, hp, 0, x, h => by
    simp at h
    subst h
    rw [List.countP_cons, irr]
    have : r.countP (fun b => lt b a) = 0 := by
      rw [List.countP_eq_zero]
      intro b hb
      have := (List.pairwise_cons.mp hp).1 b hb
      rw [asym _ _ this]
      simp
    rw [this]
    simp
  | a :: r, hp, k + 1, x, h => by
    have hx : r[k]? = some x := by simpa using h
    have ih := count_before irr asym (List.pairwise_cons.mp hp).2 hx
    have : lt a x = true := (List.pairwise_cons.mp hp).1 x (List.mem_of_getElem? hx)
    rw [List.countP_cons, ih, this]
    simp
def rank (l : List Nat) (j : Nat) : Nat := (List.range (l.length + 1)).countP (fun i => decide (l.drop i < l.drop j))
theorem rank_of {l : List Nat} {k j : Nat} (h : (ord l)[k]? = some j) : rank l j = k := by
  have hp : (ord l).Pairwise (fun a b => decide (l.drop a < l.drop b) = true) := (ord_lt l).imp fun h => decide_eq_true h
  have := count_before (lt := fun a b => decide (l.drop a < l.drop b)) (fun a => decide_eq_false (List.lt_irrefl _)) (fun a b h => by
    have h := of_decide_eq_true h
    exact decide_eq_false fun z => List.lt_irrefl _ (List.lt_trans h z)) hp h
  rw [← this]
  exact ((ord_perm l).countP_eq _).symm
theorem ord_rank {l : List Nat} {j : Nat} (hj : j ≤ l.length) : (ord l)[rank l j]? = some j := by
  obtain ⟨k, hk⟩ := List.getElem?_of_mem (mem_ord.mpr hj)
  rw [rank_of hk]
  exact hk
theorem rank_lt {l : List Nat} {j : Nat} (hj : j ≤ l.length) : rank l j < l.length + 1 := by
  have := (List.getElem?_eq_some_iff.mp (ord_rank hj)).1
  rw [ord_length] at this
  exact this
def ahead (l : List Nat) (p : Nat) : Option Nat := if p = 0 then none else l[p - 1]?
def letters (l : List Nat) : List Nat := (ord l).filterMap (ahead l)
def home (l : List Nat) : Nat := rank l 0
def lessP (c : Nat) : Option Nat → Bool
  | some d => decide (d < c)
  | none => false
def less (rs : List (Option Nat)) (c : Nat) : Nat := rs.countP (lessP c)
def before (rs : List (Option Nat)) (c k : Nat) : Nat := (rs.take k).countP (fun o => o == some c)
theorem countP_add {α : Type} (f g h : α → Bool) (xs : List α) (hh : ∀ x ∈ xs, (if h x then 1 else 0) = (if f x then 1 else 0) + (if g x then 1 else 0)) : xs.countP h = xs.countP f + xs.countP g := by
  induction xs with
  | nil => rfl
  | cons x r ih =>
    have h1 := hh x (List.mem_cons_self)
    have h2 := ih fun y hy => hh y (List.mem_cons_of_mem _ hy)
    rw [List.countP_cons, List.countP_cons, List.countP_cons, h2, h1]
    omega
end LO
set_option maxRecDepth 100000
namespace LO
abbrev Rs := List (Option Nat)
def bk (rs : Rs) (k : Nat) : Option Nat := match rs[k]? with
  | some (some c) => some (1 + less rs c + before rs c k)
  | _ => none
def lets (rs : Rs) : List Nat := rs.filterMap id
def rd (rs : Rs) : Nat → Option Nat
  | 0 => some 0
  | k + 1 => (rd rs k).bind (bk rs)
def Whole (rs : Rs) : Prop := ∃ r, rd rs ((lets rs).length) = some r
end LO
set_option maxRecDepth 100000
namespace LO
def low (l t : List Nat) : Nat := (List.range (l.length + 1)).countP (fun i => decide (l.drop i < t))
def hasAt (l t : List Nat) (i : Nat) : Bool := t.isPrefixOf (l.drop i)
def many (l t : List Nat) : Nat := (List.range (l.length + 1)).countP (fun i => hasAt l t i)
def upto (l t : List Nat) (i : Nat) : Bool := decide (l.drop i < t) || hasAt l t i
def high (l t : List Nat) : Nat := low l t + many l t
theorem pre_not_lt : ∀ {t x : List Nat}, t.isPrefixOf x = true → ¬ x < t
  | [], x, _ => List.not_lt_nil _
  | c :: t, [], h => by simp at h
  | c :: t, d :: x, h => by
    simp only [List.isPrefixOf_cons₂, Bool.and_eq_true, beq_iff_eq] at h
    rw [List.cons_lt_cons_iff]
    rintro (z | ⟨_, z⟩)
    · omega
    · exact pre_not_lt h.2 z
theorem high_eq (l t : List Nat) : high l t = (List.range (l.length + 1)).countP (upto l t) := by
  unfold high low many
  refine (countP_add _ _ _ _ fun i _ => ?_).symm
  unfold upto
  cases e : hasAt l t i with
  | false => cases decide (l.drop i < t) <;> rfl
  | true =>
    have : ¬ l.drop i < t := pre_not_lt e
    simp [this]
theorem squeeze : ∀ {t x u : List Nat}, t ≤ x → x ≤ t ++ u → t.isPrefixOf x = true
  | [], x, u, _, _ => by simp
  | c :: t, [], u, h, _ => absurd (List.nil_lt_cons c t) (List.not_lt.mpr h)
  | c :: t, d :: x, u, h1, h2 => by
    rw [List.cons_append] at h2
    have a : ¬ (d :: x < c :: t) := List.not_lt.mpr h1
    have b : ¬ (c :: (t ++ u) < d :: x) := List.not_lt.mpr h2
    rw [List.cons_lt_cons_iff] at a b
    have e : c = d := by omega
    subst e
    simp only [List.isPrefixOf_cons₂, Bool.and_eq_true, beq_self_eq_true, true_and]
    exact squeeze (List.not_lt.mp fun z => a (.inr ⟨rfl, z⟩)) (List.not_lt.mp fun z => b (.inr ⟨rfl, z⟩))
theorem upto_down {l t : List Nat} {i j : Nat} (h : l.drop i ≤ l.drop j) (hj : upto l t j = true) : upto l t i = true := by
  unfold upto hasAt at *
  rw [Bool.or_eq_true, decide_eq_true_eq] at *
  by_cases hx : l.drop i < t
  · exact .inl hx
  · right
    rcases hj with hj | hj
    · exact absurd (List.lt_of_le_of_lt h hj) hx
    · obtain ⟨u, hu⟩ := List.isPrefixOf_iff_prefix.mp hj
      refine squeeze (u := u) (List.not_lt.mp hx) ?_
      rw [hu]
      exact h
theorem low_down {l t : List Nat} {i j : Nat} (h : l.drop i ≤ l.drop j) (hj : decide (l.drop j < t) = true) : decide (l.drop i < t) = true := decide_eq_true (List.lt_of_le_of_lt h (of_decide_eq_true hj))
theorem rank_in {l t : List Nat} {i : Nat} (hi : i ≤ l.length) : hasAt l t i = true ↔ low l t ≤ rank l i ∧ rank l i < high l t := by
  have key : ∀ {D : Nat → Bool}, (∀ i j, l.drop i ≤ l.drop j → D j = true → D i = true) → (D i = true ↔ rank l i < (List.range (l.length + 1)).countP D) := by
    intro D hd
    have hs : (ord l).Pairwise (fun a b => D b = true → D a = true) := (ord_le l).imp fun {i j} h => hd i j h
    have go : ∀ {xs : List Nat} {k x : Nat}, xs.Pairwise (fun a b => D b = true → D a = true) → xs[k]? = some x → (D x = true ↔ k < xs.countP D) := by
      intro xs
      induction xs with
      | nil => intro k x _ h; simp at h
      | cons a r ih =>
        intro k x hp h
        cases ea : D a with
        | true =>
          rw [List.countP_cons_of_pos ea]
          cases k with
          | zero => simp at h; subst h; simp [ea]
          | succ k =>
            have := ih (k := k) (x := x) (List.pairwise_cons.mp hp).2 (by simpa using h)
            rw [this, Nat.add_lt_add_iff_right]
        | false =>
          have z : r.countP D = 0 := by
            rw [List.countP_eq_zero]
            intro b hb hd
            have := (List.pairwise_cons.mp hp).1 b hb hd
            rw [ea] at this
            cases this
          rw [List.countP_cons_of_neg (by rw [ea]; simp), z]
          constructor
          · intro hx
            rcases List.mem_cons.mp (List.mem_of_getElem? h) with e | e
            · rw [e, ea] at hx; cases hx
            · have := (List.pairwise_cons.mp hp).1 x e hx
              rw [ea] at this; cases this
          · intro hx; omega
    have := go hs (ord_rank hi)
    rwa [(ord_perm l).countP_eq] at this
  have k1 := key (D := fun i => decide (l.drop i < t)) fun i j => low_down
  have k2 := key (D := upto l t) fun i j => upto_down
  rw [high_eq]
  have e1 : low l t = (List.range (l.length + 1)).countP (fun i => decide (l.drop i < t)) := rfl
  rw [e1]
  constructor
  · intro h
    have n : ¬ l.drop i < t := pre_not_lt h
    refine ⟨?_, k2.mp (by unfold upto; rw [h, Bool.or_true])⟩
    have : ¬ (decide (l.drop i < t) = true) := by simpa using n
    rw [k1] at this
    omega
  · rintro ⟨h1, h2⟩
    have a := k2.mpr h2
    have b : ¬ (decide (l.drop i < t) = true) := by rw [k1]; omega
    unfold upto at a
    rw [Bool.or_eq_true] at a
    exact a.resolve_left b
end LO
set_option maxRecDepth 100000
namespace L2
open PySem PySem.Spec PyProof.Rows
section
variable {X : Cx} {pins : List (Addr × Obj)} {σ : St} {H : Hp} {s : Shared} {scope : Scope} {cl : List (Str × Addr)} {cp : List (Str × Nat)} {A : Around} {env : Env} {x : Str} {v : V} {u : Value} {h1 : Heap}
end
end L2
namespace L2
open PySem PySem.Spec PyProof.Rows
def CodeO (c : Addr) (q : Str) : HO := .ext fun h => h.CodeRec (.ref c) q
def Bk (P : Addr) (pos : Pos) (q : Str) (H : Hp) : Prop := H P = some (.tbl #[]) ∨ ∃ c', H P = some (.tbl #[rawInt pos.line, rawInt pos.col, .ref c']) ∧ H c' = some (CodeO c' q)
def SameN (H H' : Hp) : Prop := ∀ b o, H b = some o → H' b ≠ none ∧ ((∀ ps, o ≠ .tbl ps) → H' b = some o)
theorem SameN.at {H H' : Hp} (a : SameN H H') {b : Addr} {o : HO} (h : H b = some o) (n : ∀ ps, o ≠ .tbl ps) : H' b = some o := (a b o h).2 n
theorem SameN.free {H H' : Hp} (a : SameN H H') {b : Addr} (h : H' b = none) : H b = none := by
  cases q : H b with
  | none => rfl
  | some o => exact absurd h (a b o q).1
theorem SameN.refl (H : Hp) : SameN H H := fun _ _ h => ⟨by rw [h]; simp, fun _ => h⟩
theorem SameN.trans {H H1 H2 : Hp} (a : SameN H H1) (b : SameN H1 H2) : SameN H H2 := fun c o h => ⟨fun z => (a c o h).1 (b.free z), fun n => b.at ((a c o h).2 n) n⟩
theorem SameN.upd {H H' : Hp} {a : Addr} {o : HO} (e : SameN H H') (n : H' a = none) : SameN H (L2.upd H' a o) := fun b u q => by
  have hb : b ≠ a := by
    rintro rfl
    exact (e b u q).1 n
  rw [upd_ne hb]
  exact e b u q
theorem SameN.seq {K : PySem.W.Frag} {H H' : Hp} {a : Addr} {xs : List V} (e : SameN H H') (h : SqL K H a xs) : SqL K H' a xs := by
  rcases h with (h | ⟨o, h⟩) | h
  · exact .inl (.inl (e.at h (by intro ps z; cases z)))
  · exact .inl (.inr ⟨o, e.at h (by intro ps z; cases z)⟩)
  · exact .inr h
theorem Bk.put {P : Addr} {pos : Pos} {q : Str} {H : Hp} {a : Addr} {o : HO} (h : Bk P pos q H) (n : H a = none) : Bk P pos q (L2.upd H a o) := by
  rcases h with h | ⟨c', h, g⟩
  · exact .inl (by rw [upd_ne (ne_of_none h n)]; exact h)
  · exact .inr ⟨c', by rw [upd_ne (ne_of_none h n)]; exact h, by rw [upd_ne (ne_of_none g n)]; exact g⟩
def SameE (P : Addr) (H H' : Hp) : Prop := ∀ b o, b ≠ P → H b = some o → H' b = some o
theorem SameE.refl (P : Addr) (H : Hp) : SameE P H H := fun _ _ _ h => h
theorem SameE.trans {P : Addr} {H H1 H2 : Hp} (a : SameE P H H1) (b : SameE P H1 H2) : SameE P H H2 := fun c o n h => b c o n (a c o n h)
theorem SameE.upd {P : Addr} {H H' : Hp} {a : Addr} {o : HO} (e : SameE P H H') (n : H' a = none) : SameE P H (L2.upd H' a o) := fun b u nb q => by
  have q' := e b u nb q
  rw [upd_ne (ne_of_none q' n)]
  exact q'
theorem Bk.isTbl {P : Addr} {pos : Pos} {q : Str} {H : Hp} (h : Bk P pos q H) : ∃ ps, H P = some (.tbl ps) := by
  rcases h with h | ⟨c', h, _⟩
  · exact ⟨_, h⟩
  · exact ⟨_, h⟩
theorem Bk.keep {P P2 : Addr} {pos pos2 : Pos} {q q2 : Str} {H H' : Hp} (b2 : Bk P2 pos2 q2 H) (b1 : Bk P pos q H) (ne : P2 ≠ P) (se : SameE P H H') : Bk P2 pos2 q2 H' := by
  obtain ⟨ps, hP⟩ := b1.isTbl
  rcases b2 with h | ⟨c', h, g⟩
  · exact .inl (se _ _ ne h)
  · exact .inr ⟨c', se _ _ ne h, se _ _ (ne_of g hP (by intro z; cases z)) g⟩
structure LamAt (X : Cx) (c P : Addr) : Prop where
  code : X.env.code = .ref c
  hd : PySem.W.CodeHd X.base c P
  bm : ∃ bm ob, X.mg "__builtins__" = some (.ref bm) ∧ bm ≠ builtinsNs ∧ X.base.get? bm = some ob ∧ ob.cls = .type "module" ∧ ob.dict = some builtinsNs ∧ ob.data = .plain
section
variable {X : Cx} {pins : List (Addr × Obj)} {σ : St} {H : Hp} {s : Shared} {scope : Scope} {cl : List (Str × Addr)} {A : Around} {c P : Addr} {params : Arguments} {body : Expr} {pos : Pos} {q : Str} {M : Model} {E : Value → Shared → Prop} {Q : Value → Shared → Prop}
end
end L2
set_option maxRecDepth 100000
namespace L2
open PySem PySem.Spec PyProof.Rows
section
variable {X : Cx} {pins : List (Addr × Obj)} {σ : St} {H : Hp} {s : Shared}
structure Own (X : Cx) (pins : List (Addr × Obj)) (H : Hp) (D : Addr) : Prop where
  old : X.s₀.heap.objs.size ≤ D
  free : H D = none
  nl : D ≠ X.env.locals
  np : ∀ p ∈ X.pn ++ pins, p.1 ≠ D
theorem Own.fresh (I : Inv X pins σ H s) {D : Addr} (h : s.heap.objs.size ≤ D) : Own X pins H D :=
  ⟨Nat.le_trans I.sz h, I.hok.fresh h, Nat.ne_of_gt (Nat.lt_of_lt_of_le I.lt h), fun p hp z => absurd (Nat.lt_of_lt_of_le (Heap.lt_size (I.pin p hp).1) h) (by rw [z]; exact Nat.lt_irrefl _)⟩
theorem Own.more {D a : Addr} {o : Obj} (W : Own X pins H D) (h : a ≠ D) : Own X (pins ++ [(a, o)]) H D :=
  ⟨W.old, W.free, W.nl, fun p hp => by
    rcases List.mem_append.mp hp with q | q
    · exact W.np p (List.mem_append_left _ q)
    · rcases List.mem_append.mp q with q | q
      · exact W.np p (List.mem_append_right _ q)
      · cases List.mem_singleton.mp q
        exact h⟩
theorem Inv.cellne (I : Inv X pins σ H s) {D : Addr} {o : Obj} (ho : s.heap.get? D = some o) (hd : ∀ v, o.data ≠ .cell v) : ∀ x c, X.env.cells.lookup x = some c → c ≠ D := fun x c e z => by
  obtain ⟨v, o', ho', hd'⟩ := I.cell x c e
  rw [z, ho] at ho'
  cases ho'
  exact hd v hd'
end
end L2
set_option maxRecDepth 100000
namespace L2
open PySem PySem.Spec PyProof.Rows
def rngL (lo hi : Int) : List V := (List.range (hi - lo).toNat).map fun i : Nat => V.int (lo + (i : Int))
def Src (K : PySem.W.Frag) (H : Hp) (a : Addr) (xs : List V) : Prop := SqL K H a xs ∨ SqT K H a xs ∨ ∃ lo hi : Int, H a = some (.rng lo hi) ∧ xs = rngL lo hi ∧ -(2 ^ 62) ≤ lo ∧ lo < 2 ^ 62 ∧ -(2 ^ 62) ≤ hi ∧ hi < 2 ^ 62
section
variable {X : Cx} {pins : List (Addr × Obj)} {σ : St} {H : Hp} {s : Shared}
end
end L2
set_option maxRecDepth 100000
namespace L2
open PySem PySem.Spec PyProof.Rows
def CX1 (P : Program) (w : World) : CXT := fun outer H s E e s' => ∃ (a C : Addr) (a0 : Value) (B : Heap) (H' : Hp), e = .ref a ∧ s'.os = s.os ∧ AllBare s'.gens ∧ Un (frs outer) [] H H' s.heap s'.heap ∧ HOk P w H' B ∧
  (∀ b o, s.heap.get? b = some o → H b = none → b ∉ frs outer → B.get? b = some o) ∧ (∀ b o, s.heap.get? b = some o → b ∉ frs outer → ∃ o', B.get? b = some o') ∧ Heap.FlyingW B outer a (.ref C) a0 s'.heap ∧ E (.ref C) none H'
theorem cx1_none {P : Program} {w : World} {outer : List Env} {H : Hp} {s : Shared} {e : Value} {s' : Shared} (h : CX1 P w outer H s (fun _ _ _ => False) e s') : False := by
  obtain ⟨_, _, _, _, _, _, _, _, _, _, _, _, _, q⟩ := h
  exact q
theorem frs_mem {l : List Env} {env : Env} {b : Addr} (h : env ∈ l) (hf : env.frame = some b) : b ∈ frs l := List.mem_filterMap.mpr ⟨env, h, hf⟩
structure Tk (X : Cx) (F : St → XK) : Prop where
  pass : ∀ (pins : List (Addr × Obj)) (σ : St) (H : Hp) (s : Shared) (e : Value) (s' : Shared), Inv X pins σ H s → CX1 X.prog X.w X.stack H s (F σ) e s' → X.xe e s'
  own : PassesOwn (model X.prog X.w) X.A X.env X.xe
structure TkN (X : Cx) (F : St → XK) : Prop extends Tk X F where
  new : ∀ (pins : List (Addr × Obj)) (σ : St) (H : Hp) (s : Shared) (h' : Heap) (a C : Addr) (args : List Value), Inv X pins σ H s → Heap.MadeExcOf s.heap h' a (.ref C) args → F σ (.ref C) none H → X.xe (.ref a) { s with heap := h' }
section
variable {P : Program} {w : World} {K : PySem.W.Frag} {mg : Str → Option Value} {base : Heap} {N : List Str} {qual : Str} {scope : Scope} {f : Addr} {cdv : Value} {A : Around} {outer : List Env} {s : Shared} {H : Hp} {E : XK}
theorem tk_def : TkN (cxOf (CX1 P w) P w K mg base N qual scope f cdv A outer s H E) (fun _ => E) := by
  refine ⟨⟨fun pins σ H1 s1 e s2 I h => ?_, PassesOwn.leaving⟩, fun pins σ H1 s1 h' a C args I hm hE => ?_⟩
  · obtain ⟨a, C, a0, B, H', rfl, h1, h2, h3, h4, h5, h5', h6, h7⟩ := h
    have hfr : (A.deeper (envOfC qual scope s.heap.objs.size f cdv)).frames = some (envOfC qual scope s.heap.objs.size f cdv :: outer) := I.ok.frames
    refine wpAny_leaves_onW hfr rfl h6 fun h3' hfl hup => ?_
    have nL : ∀ b o, s.heap.get? b = some o → b ≠ s.heap.objs.size := fun b o e => Nat.ne_of_lt (Heap.lt_size e)
    have inB : ∀ b o, s.heap.get? b = some o → H b = none → b ∉ frs outer → B.get? b = some o := fun b o e n hb => by
      refine h5 b o (I.base.keep b o e n hb (by simp [cxOf])) (I.base.free b o e n (by simp [cxOf])) fun z => ?_
      rcases List.mem_cons.mp (I.stkSub b z) with z | z
      · exact nL b o e z
      · exact hb z
    have thB : ∀ b o, s.heap.get? b = some o → b ∉ frs outer → ∃ o', B.get? b = some o' := fun b o e hb => by
      obtain ⟨o1, e1⟩ := I.base.there b o e (by simp [cxOf])
      refine h5' b o1 e1 fun z => ?_
      rcases List.mem_cons.mp (I.stkSub b z) with z | z
      · exact nL b o e z
      · exact hb z
    have frame : ∀ b o, s.heap.get? b = some o → b ∈ frs outer → ∃ sl, h3'.get? b = some { o with slots := sl } := fun b o e hb => by
      have n : H b = none := I.ok.frf b hb
      obtain ⟨sl, e1⟩ := I.base.slot b o e n hb (by simp [cxOf])
      obtain ⟨sl2, e2⟩ := h3.any e1 (I.base.free b o e n (by simp [cxOf])) (by simp)
      have hd : ∀ vs, o.data ≠ .fields vs := by
        obtain ⟨_, o', ho', hd'⟩ := I.ok.funs.mem hb
        have ho' : s.heap.get? b = some o' := ho'
        rw [e] at ho'
        cases ho'
        exact hd'
      obtain ⟨sl3, e3⟩ := hup b _ e2 hd
      exact ⟨sl3, e3⟩
    refine ⟨a, C, a0, B, H', rfl, h1.trans I.os, h2, ⟨fun b o e n hb _ => hfl.1 b o (inB b o e n hb), fun b o e n hb _ => frame b o e hb, fun b o e n _ => ?_, fun b o e _ => ?_, fun b xs e => h3.tups b xs (I.base.tups b xs e), fun b o u e => h3.frzs b o u (I.base.frzs b o u e), fun b ps e => ?_⟩, h4, inB, thB, hfl, h7⟩
    · obtain ⟨o', e1⟩ := I.base.there b o e (by simp [cxOf])
      exact h3.free b o' e1 (I.base.free b o e n (by simp [cxOf])) (by simp)
    · by_cases hb : b ∈ frs outer
      · obtain ⟨sl, e1⟩ := frame b o e hb
        exact ⟨_, e1⟩
      · obtain ⟨o', e1⟩ := thB b o e hb
        exact ⟨o', hfl.1 b o' e1⟩
    · obtain ⟨m1, e1⟩ := I.base.tbls b ps e
      obtain ⟨m2, e2⟩ := h3.tbls b _ e1
      exact ⟨m1 ++ m2, by rw [e2, Array.append_assoc]⟩
  · have hfr : (A.deeper (envOfC qual scope s.heap.objs.size f cdv)).frames = some (envOfC qual scope s.heap.objs.size f cdv :: outer) := I.ok.frames
    have hin : ∀ env ∈ (envOfC qual scope s.heap.objs.size f cdv :: outer), ∀ b, env.frame = some b → b ∈ frs (envOfC qual scope s.heap.objs.size f cdv :: outer) := fun env he b hb => frs_mem he hb
    have hfun : s1.heap.FunFrames (PySem.W.hideAll s1.heap (frs (envOfC qual scope s.heap.objs.size f cdv :: outer))) (envOfC qual scope s.heap.objs.size f cdv :: outer) := PySem.W.funFrames_hide I.stack hin
    refine wpAny_leaves_madeW hfr rfl (fun b o e => PySem.W.of_hideAll _ e) hfun hm fun h2 t hfl htup ht hup => ?_
    have nL : ∀ b o, s.heap.get? b = some o → b ≠ s.heap.objs.size := fun b o e => Nat.ne_of_lt (Heap.lt_size e)
    have notf : ∀ b o, s.heap.get? b = some o → b ∉ frs outer → b ∉ frs (envOfC qual scope s.heap.objs.size f cdv :: outer) := fun b o e hb z => by
      rcases List.mem_cons.mp (I.stkSub b z) with z | z
      · exact nL b o e z
      · exact hb z
    have toB : ∀ b o, s1.heap.get? b = some o → b ∉ frs (envOfC qual scope s.heap.objs.size f cdv :: outer) → (PySem.W.hideAll s1.heap (frs (envOfC qual scope s.heap.objs.size f cdv :: outer))).get? b = some o := fun b o e hb => PySem.W.hideAll_get _ e hb
    have inB : ∀ b o, s.heap.get? b = some o → H b = none → b ∉ frs outer → (PySem.W.hideAll s1.heap (frs (envOfC qual scope s.heap.objs.size f cdv :: outer))).get? b = some o := fun b o e n hb => toB b o (I.base.keep b o e n hb (by simp [cxOf])) (notf b o e hb)
    have thB : ∀ b o, s.heap.get? b = some o → b ∉ frs outer → ∃ o', (PySem.W.hideAll s1.heap (frs (envOfC qual scope s.heap.objs.size f cdv :: outer))).get? b = some o' := fun b o e hb => by
      obtain ⟨o1, e1⟩ := I.base.there b o e (by simp [cxOf])
      exact ⟨o1, toB b o1 e1 (notf b o e hb)⟩
    have frame : ∀ b o, s.heap.get? b = some o → b ∈ frs outer → ∃ sl, h2.get? b = some { o with slots := sl } := fun b o e hb => by
      have n : H b = none := I.ok.frf b hb
      obtain ⟨sl, e1⟩ := I.base.slot b o e n hb (by simp [cxOf])
      have hd : ∀ vs, o.data ≠ .fields vs := by
        obtain ⟨_, o', ho', hd'⟩ := I.ok.funs.mem hb
        have ho' : s.heap.get? b = some o' := ho'
        rw [e] at ho'
        cases ho'
        exact hd'
      obtain ⟨sl3, e3⟩ := hup b _ (hm.keeps b _ e1) hd
      exact ⟨sl3, e3⟩
    have hokB : HOk P w H1 (PySem.W.hideAll s1.heap (frs (envOfC qual scope s.heap.objs.size f cdv :: outer))) := fun b o e => by
      refine (I.hok b o e).stay (fun d u hd z => toB d u z fun y => ?_) (fun _ z => z) fun _ _ z => z
      have := I.stkFree d y
      rcases hd with rfl | hd
      · rw [e] at this; cases this
      · rw [hd] at this; cases this
    refine ⟨a, C, .ref t, _, H1, rfl, I.os, I.bare, ⟨fun b o e n hb _ => hfl.1 b o (inB b o e n hb), fun b o e n hb _ => frame b o e hb, fun b o e n _ => I.base.free b o e n (by simp [cxOf]), fun b o e _ => ?_, I.base.tups, I.base.frzs, I.base.tbls⟩, hokB, inB, thB, hfl, hE⟩
    by_cases hb : b ∈ frs outer
    · obtain ⟨sl, e1⟩ := frame b o e hb
      exact ⟨_, e1⟩
    · obtain ⟨o', e1⟩ := thB b o e hb
      exact ⟨o', hfl.1 b o' e1⟩
end
end L2
namespace L2
open PySem PySem.Spec PyProof.Rows
abbrev VE : List Value := [.type "ValueError", .type "Exception", .type "BaseException", .type "object"]
def clsMro (K : PySem.W.Frag) (C : Addr) : List Value := match K.lookup C with
  | some ⟨_, _, .cls cd, _⟩ => cd.mro
  | _ => []
def ExC (K : PySem.W.Frag) (C : Addr) : Prop := PySem.W.excIn K C VE "ValueError.__new__" = true
theorem exc_obj {K : PySem.W.Frag} {h : Heap} {C : Addr} (X : K.In h) (q : ExC K C) : ∃ bm N nm qn bs hdct sn sub ab col dd k0 k1 k2 k3 k5 mN, h.get? C = some (excClassObj nm qn C N bs bm hdct sn sub ab col dd k0 k1 k2 k3 k5 "ValueError.__new__") ∧ h.Ns N mN ∧ mN "__init__" = none ∧ OwnTail h VE bm ∧ clsMro K C = .ref C :: bm := by
  unfold ExC PySem.W.excIn at q
  split at q
  · rename_i dd cd sl ho
    split at q
    · rename_i C' bm k0 k1 k2 k3 n k5 hm hs
      simp only [Bool.and_eq_true, beq_iff_eq, Bool.not_eq_true'] at q
      obtain ⟨⟨⟨⟨⟨rfl, rfl⟩, hdel⟩, ht⟩, hok⟩, hni⟩ := q
      obtain ⟨nm, bs, mro, ns, qn, hd, sn, sub, ab, col, del⟩ := cd
      dsimp only at hm hdel hok hni
      subst hm hdel
      have hsl : sl = #[k0, k1, k2, k3, some (.builtin "ValueError.__new__"), k5] := by
        obtain ⟨l⟩ := sl
        simp only at hs
        rw [hs]
      subst hsl
      exact ⟨bm, ns, nm, qn, bs, hd, sn, sub, ab, col, dd, k0, k1, k2, k3, k5, _, X _ _ ho, .of_isNs (PySem.W.isNs_of_in X hok), PySem.W.nsMap_none_of_in X hok hni, PySem.W.tail_of_in X ht, by unfold clsMro; rw [ho]⟩
    · cases q
  · cases q
section
variable {X : Cx} {F : St → XK} {x : Str} {C : Addr} {e : Expr} {es : List Expr} {t : TA} {np cpos pos : Pos}
def tRaise (F : St → XK) (C : Addr) (t : TA) : TS := fun _ σ H => t σ H fun vs H1 => vs.length ≤ 1000 ∧ F σ (.ref C) none H1
theorem ps_raise (T : TkN X F) (hc : X.calm = true) (q : ExC X.K C) (hg : Gl X x) (hm : X.mg x = some (.ref C)) (ha : PA X (e :: es) t) (hdb : (x == ("__debug__" : Str)) = false := by decide)
    (he : starEach (e :: es) X.env = (false, eval e X.env) :: starEach es X.env := by rfl) (hpl : (backTo cpos (starEach es X.env)).any (·.1) = false := by rfl) : PS X (.Raise (some (.Call (.Name x np) (e :: es) [] cpos)) none pos) (tRaise F C t) := by
  intro pins s σ H D I h
  obtain ⟨bm, N, nm, qn, bs, hdct, sn, sub, ab, col, dd, k0, k1, k2, k3, k5, mN, hC, hN, hni, TL, _⟩ := exc_obj I.mod.kin q
  refine wpAny_Raise_call_subT (C := C) (nm := nm) (q := qn) (N := N) (bs := bs) (bm := bm) (hdct := hdct) (sn := sn) (sub := sub) (ab := ab) (col := col) (dd := dd) (k0 := k0) (k1 := k1) (k2 := k2) (k3 := k3) (k5 := k5) PySem.F.excBase_ValueError (mN := mN) (TL.hasType PySem.F.excBase_ValueError.hasBase) (I.ok.hd hc) ?_ hni ?_
  · rw [he]
    show (false || (backTo cpos (starEach es X.env)).any (·.1)) = false
    rw [hpl]
    rfl
  · refine ld_glob I hg hm ⟨rfl, ?_⟩ hdb
    have hp := ha cpos pins s σ H _ I h
    rw [he] at hp ⊢
    have hsl : sizeLine = 16777216 := sizeLine_eq
    refine Calls.evalArgs_plain (thn hp fun us s2 ⟨vs, H2, I2, rv, hl, hf⟩ => ⟨rfl, ?_, I2.bk _ _ hC, hN.keeps I2.bk, TL.keeps I2.bk, fun h' a hm => T.new pins σ H2 s2 h' a C us I2 hm hf⟩)
    have := rv.length
    show us.length ≤ sizeLine
    omega
end
section
variable {X : Cx} {pos : Pos}
def PJ (X : Cx) (es : List Expr) (t : List Nat → St → Hp → (List Nat → Hp → Prop) → Prop) : Prop :=
  ∀ (pins : List (Addr × Obj)) (s : Shared) (σ : St) (H : Hp) (acc : List Nat) (Q : List Nat → Hp → Prop), Inv X pins σ H s → t acc σ H Q →
    wpAny (model X.prog X.w) X.A (joinParts (T acc) (evalEach es X.env)) (EP X pins σ fun v H' => ∃ l, v = .str (T l) ∧ Q l H') X.xe s
theorem pj_nil : PJ X [] (fun acc _ H Q => acc.length ≤ sizeLine ∧ Q acc H) := by
  intro pins s σ H acc Q I h
  exact joinParts_nil ⟨.str (T acc), H, I.tok _, ⟨_, rfl⟩, acc, rfl, h.2⟩ (by rw [T_len]; exact h.1)
def tJPart (te : TE) (t : List Nat → St → Hp → (List Nat → Hp → Prop) → Prop) : List Nat → St → Hp → (List Nat → Hp → Prop) → Prop := fun acc σ H Q => te σ H fun v H1 => match v with
  | .str z => acc.length + (L z).length ≤ sizeLine ∧ t (acc ++ L z) σ H1 Q
  | _ => False
theorem pj_cons {e : Expr} {es : List Expr} {te : TE} {t : List Nat → St → Hp → (List Nat → Hp → Prop) → Prop} (h1 : PE X e te) (h2 : PJ X es t) (hev : evalEach (e :: es) X.env = eval e X.env :: evalEach es X.env := by rfl) : PJ X (e :: es) (tJPart te t) := by
  intro pins s σ H acc Q I h
  rw [hev]
  refine joinParts_cons (thn (h1 pins s σ H _ I h) fun u s1 ⟨v, H1, I1, r, q⟩ => ?_)
  cases v with
  | str z =>
    obtain ⟨tk, rfl⟩ := r
    have e := T_app acc (L z)
    rw [T_L] at e
    refine ⟨?_, ?_⟩
    · show (T acc ++ z).length ≤ sizeLine
      rw [e, T_len, List.length_append]
      exact q.1
    · rw [e]
      exact h2 pins s1 σ H1 _ Q I1 q.2
  | _ => exact False.elim q
def tJoin (t : List Nat → St → Hp → (List Nat → Hp → Prop) → Prop) : TE := fun σ H Q => t [] σ H fun l H' => Q (.str (T l)) H'
theorem pe_join {e1 e2 : Expr} {es : List Expr} {t : List Nat → St → Hp → (List Nat → Hp → Prop) → Prop} (h : PJ X (e1 :: e2 :: es) t) (hev : evalEach (e1 :: e2 :: es) X.env = eval e1 X.env :: eval e2 X.env :: evalEach es X.env := by rfl) : PE X (.JoinedStr (e1 :: e2 :: es) pos) (tJoin t) := by
  intro pins s σ H Q I q
  refine JoinedStr_many ?_
  have := h pins s σ H [] _ I q
  rw [hev] at this
  refine thn this fun u s1 ⟨v, H1, I1, r, l, e, q⟩ => ?_
  subst e
  exact ⟨_, H1, I1, r, q⟩
def numL (i : Int) : List Nat := L (toString i : Str)
def tFmt (te : TE) : TE := fun σ H Q => te σ H fun v H1 => match v with
  | .str z => (L z).length ≤ sizeLine ∧ Q (.str z) H1
  | .int i => i.natAbs.log2 < 1920 ∧ Q (.str (T (numL i))) H1
  | _ => False
theorem pe_fmt {e : Expr} {te : TE} (h : PE X e te) : PE X (.FormattedValue e (-1) none pos) (tFmt te) := by
  intro pins s σ H Q I q
  refine FormattedValue_plain (thn (h pins s σ H _ I q) fun u s1 ⟨v, H1, I1, r, q⟩ => ?_)
  cases v with
  | str z =>
    obtain ⟨tk, rfl⟩ := r
    exact formatField_str (fun t' tk => ⟨.str z, H1, I1.tok _, ⟨_, rfl⟩, q.2⟩) (by rw [← L_len]; exact q.1)
  | int i =>
    obtain ⟨tk, rfl⟩ := r
    have e : T (numL i) = (toString i : Str) := T_L _
    have q : i.natAbs.log2 < 1920 ∧ Q (V.str (T (numL i))) H1 := q
    rw [e] at q
    exact formatField_int_small q.1 ⟨.str (toString i), H1, I1.tok _, ⟨_, rfl⟩, q.2⟩
  | _ => exact False.elim q
end
end L2
set_option maxRecDepth 100000
namespace L2
open PySem PySem.Spec PyProof.Rows
structure FnX (P : Program) (w : World) (K : PySem.W.Frag) (mg : Str → Option Value) (base : Heap) (k : Nat) (x : Str) (ps : List Str) (sp : Sp) : Prop where
  ex : ∃ f fd, FnOk P w K mg base (CX1 P w) k f fd ps sp ∧ mg x = some (.ref f) ∧ PySem.W.keepIn K (.ref f) = true ∧ Binds K fd ps []
section
variable {P : Program} {w : World} {K : PySem.W.Frag} {mg : Str → Option Value} {base : Heap}
theorem FnX.mono {j k : Nat} {x : Str} {ps : List Str} {sp : Sp} (F : FnX P w K mg base j x ps sp) (h : j ≤ k) : FnX P w K mg base k x ps sp := by
  obtain ⟨f, fd, F, r⟩ := F.ex
  exact ⟨f, fd, F.mono h, r⟩
theorem FnX.quiet {k : Nat} {x : Str} {ps : List Str} {sp : Sp} (F : FnX P w K mg base k x ps sp) : Fn P w K mg base k x ps (fun vs H Q _ => sp vs H Q E0) := by
  obtain ⟨f, fd, F, r⟩ := F.ex
  refine ⟨f, fd, ⟨fun vs H Q E h => F.len vs H Q E0 h, fun A outer s H args us vs Q E hr e0 hb rv h => ?_⟩, r⟩
  refine codeAny_mono (F.run A outer s H args us vs Q E0 hr e0 hb rv h) fun r s' q => ?_
  cases r with
  | error e => exact (cx1_none q).elim
  | ok fl => cases fl <;> exact q
theorem Fun.okX {x qual : Str} {st : Stmt} {f : Addr} {fd : FuncData} {N ps : List Str} {k : Nat} {sp : Sp} (F : Fun K x qual st f fd) (S : FnScope N ps (defScope st)) (len : ∀ vs H Q E, sp vs H Q E → vs.length = ps.length)
    (hbody : ∀ (cdv : Value) (A : Around) (outer : List Env) (s : Shared) (H : Hp) (vs : List V) (Q : VK) (E : XK), Room k (A.deeper (envOfC qual (defScope st) s.heap.objs.size f cdv)) → sp vs H Q E →
      ∃ t, PSs (cxOf (CX1 P w) P w K mg base N qual (defScope st) f cdv A outer s H E) (defBody st) t ∧ t { nx := fun _ H' => Q .non H', rt := Q } (start N vs) H) : FnOk P w K mg base (CX1 P w) (k + 1) f fd ps sp := by
  obtain ⟨oc, od, kV, doc, pm, an, cdv, ct, osl, rfl, lk, hcd⟩ := F.ex
  exact fn_of lk hcd S len fun A outer s H vs Q E hr hsp => hbody cdv A outer s H vs Q E hr hsp
end
section
variable {X : Cx} {F : St → XK} {k : Nat} {x : Str} {ps : List Str} {sp : Sp} {p pos : Pos} {e : Expr} {es : List Expr} {t : TA}
def tFnX (F : St → XK) (sp : Sp) (t : TA) : TE := fun σ H Q => t σ H fun vs H1 => sp vs H1 Q (F σ)
theorem pe_fnX (T : Tk X F) (G : FnX X.prog X.w X.K X.mg X.base k x ps sp) (hr : Room k X.A) (ha : PA X (e :: es) t) (hg : Gl X x := by rfl) (hdb : (x == ("__debug__" : Str)) = false := by decide)
    (he : starEach (e :: es) X.env = (false, eval e X.env) :: starEach es X.env := by rfl) (hpl : (backTo pos (starEach es X.env)).any (·.1) = false := by rfl) : PE X (.Call (.Name x p) (e :: es) [] pos) (tFnX F sp t) := by
  obtain ⟨f, fd, G, hm, hk, hb⟩ := G.ex
  intro pins s σ H Q I h
  refine wpAny_Call_Name_kw (ld_glob I hg hm ?_ hdb)
  refine PySem.W.callWith_K (h₀ := X.base) I.ok.mod.kin hk (thn (ha pos pins s σ H _ I h) fun us s1 ⟨vs, H1, I1, r, q⟩ => ⟨I1.kIn, ?_⟩) he hpl
  have hl : us.length = ps.length := by rw [← r.length]; exact G.len _ _ _ _ q
  refine wpAny_call (codeAny_mono (G.run X.A X.stack s1 H1 ⟨us, []⟩ us vs Q (F σ) hr I1.env0 (by simpa using hb s1 us I1.kIn (by simpa using hl)) r q) fun r s' hq => ?_)
  cases r with
  | error e => exact T.pass pins σ H1 s1 e s' I1 hq
  | ok fl =>
    cases fl with
    | ret u => exact I1.after hq
    | next => exact False.elim hq
    | brk => exact False.elim hq
    | cont => exact False.elim hq
end
structure Caught (X : Cx) (pins : List (Addr × Obj)) (σ : St) (H1 : Hp) (s1 : Shared) (a C : Addr) (a0 : Value) (B : Heap) (H : Hp) (s2 : Shared) : Prop where
  inv1 : Inv X pins σ H1 s1
  os : s2.os = s1.os
  bare : AllBare s2.gens
  un : Un (frs X.stack) [] H1 H s1.heap s2.heap
  hokB : HOk X.prog X.w H B
  keepB : ∀ b o, s1.heap.get? b = some o → H1 b = none → b ∉ frs X.stack → B.get? b = some o
  thB : ∀ b o, s1.heap.get? b = some o → b ∉ frs X.stack → ∃ o', B.get? b = some o'
def ExcO (a C : Addr) : HO := .ext fun h => ∃ o vs, h.get? a = some o ∧ o.cls = .ref C ∧ o.data = .fields vs
section
variable {X : Cx} {pins : List (Addr × Obj)} {σ : St} {H1 H : Hp} {s1 s2 : Shared} {a C : Addr} {a0 : Value} {B h : Heap}
theorem Caught.inv (c : Caught X pins σ H1 s1 a C a0 B H s2) (hfl : Heap.FlyingW B X.stack a (.ref C) a0 h) (hup : s2.heap.UpToSlots h) : Inv X pins σ H { s2 with heap := h } := by
  have I := c.inv1
  have fr : ∀ b o, s1.heap.get? b = some o → b ∈ frs X.stack → ∃ sl, h.get? b = some { o with slots := sl } := fun b o e hb => by
    obtain ⟨sl, e1⟩ := c.un.any e (I.stkFree b hb) (by simp)
    have hd : ∀ vs, o.data ≠ .fields vs := by
      obtain ⟨_, o', ho', hd'⟩ := I.stack.mem hb
      rw [e] at ho'
      cases ho'
      exact hd'
    obtain ⟨sl2, e2⟩ := hup b _ e1 hd
    exact ⟨sl2, e2⟩
  refine I.call' (s' := { s2 with heap := h }) (ch := []) c.os ⟨fun b o e n hb _ => hfl.1 b o (c.keepB b o e n hb), fun b o e n hb _ => fr b o e hb, c.un.free, fun b o e _ => ?_, c.un.tups, c.un.frzs, c.un.tbls⟩ (c.hokB.kept hfl.1) c.bare fun b z => absurd z (by simp)
  by_cases hb : b ∈ frs X.stack
  · obtain ⟨sl, e1⟩ := fr b o e hb
    exact ⟨_, e1⟩
  · obtain ⟨o', e1⟩ := c.thB b o e hb
    exact ⟨o', hfl.1 b o' e1⟩
theorem Inv.trackG {s : Shared} (I : Inv X pins σ H s) {D : Addr} {o : HO} (n0 : X.s₀.heap.get? D = none) (free : H D = none) (nl : D ≠ X.env.locals) (hc : ∀ x c, X.env.cells.lookup x = some c → c ≠ D) (np : ∀ p ∈ X.pn ++ pins, p.1 ≠ D) (new : ObjOk X.prog X.w (upd H D o) s.heap D o) : Inv X pins σ (upd H D o) s := by
  have ne : ∀ b u, H b = some u → b ≠ D := fun b u e => ne_of_none e free
  refine ⟨I.ok, I.os, I.bare, ⟨I.base.keep, I.base.slot, fun b u e n hx => ?_, I.base.there, fun b xs e => ?_, fun b u v e => ?_, fun b ps e => ?_⟩, I.loc, I.cell, ?_, fun x c e => ?_, fun p hp => ?_, fun b u e => ?_, I.len⟩
  · have hb : b ≠ D := by
      rintro rfl
      rw [n0] at e
      cases e
    rw [upd_ne hb]
    exact I.base.free b u e n hx
  · have := I.base.tups b xs e
    rw [upd_ne (ne b _ this)]
    exact this
  · have := I.base.frzs b u v e
    rw [upd_ne (ne b _ this)]
    exact this
  · obtain ⟨m, z⟩ := I.base.tbls b ps e
    exact ⟨m, by rw [upd_ne (ne b _ z)]; exact z⟩
  · rw [upd_ne (Ne.symm nl)]
    exact I.free
  · rw [upd_ne (hc x c e)]
    exact I.freeC x c e
  · obtain ⟨a1, a2, a3⟩ := I.pin p hp
    exact ⟨a1, by rw [upd_ne (np p hp)]; exact a2, a3⟩
  · by_cases hb : b = D
    · subst hb
      rw [upd_same] at e
      cases e
      exact new
    · rw [upd_ne hb] at e
      refine (I.hok b u e).stay (fun _ _ _ z => z) (fun d z => ?_) fun d xs z => ?_
      · rw [upd_ne (ne d _ z)]; exact z
      · rw [upd_ne (ne d _ z)]; exact z
theorem Caught.held (hex : X.ex = []) (c : Caught X pins σ H1 s1 a C a0 B H s2) (hfl : Heap.FlyingW B X.stack a (.ref C) a0 h) (hup : s2.heap.UpToSlots h) : H a = none ∧ Inv X pins σ (upd H a (ExcO a C)) { s2 with heap := h } := by
  have I := c.inv hfl hup
  obtain ⟨oe, vs, T, oT, ts, g1, ⟨g2, _⟩, g3, _⟩ := hfl.2.2.2
  have hBa : B.get? a = none := hfl.2.1
  have hHa : H a = none := by
    cases q : H a with
    | none => rfl
    | some o =>
      have ok := c.hokB a o q
      have l := ok.lt
      have ex : ∃ o', B.get? a = some o' := by
        cases o with
        | lst xs => obtain ⟨_, _, _, _, e⟩ := ok; exact ⟨_, e⟩
        | tup xs => obtain ⟨_, _, _, o', e, _⟩ := ok; exact ⟨_, e⟩
        | dK kvs => obtain ⟨_, _, _, _, o', _, _, e, _⟩ := ok; exact ⟨_, e⟩
        | dT kvs => exact False.elim ok
        | set S n => obtain ⟨o', _, _, _, e, _⟩ := ok; exact ⟨_, e⟩
        | ins C dx fs => obtain ⟨_, _, _, e, _⟩ := ok; exact ⟨_, e⟩
        | own y => exact ok
        | xd fs => obtain ⟨_, ⟨_, _, _, e, _⟩, _⟩ := ok; exact ⟨_, e⟩
        | rng lo hi => obtain ⟨_, _, _, e⟩ := ok; exact ⟨_, e⟩
        | frz ob u => obtain ⟨e, _⟩ := ok; exact ⟨_, e⟩
        | tbl ps => exact ⟨_, show B.get? a = some _ from ok⟩
        | met f y => exact ⟨_, show B.get? a = some _ from ok⟩
        | ext φ => obtain ⟨_, e, _⟩ := ok; exact e
      obtain ⟨o', e⟩ := ex
      rw [hBa] at e
      cases e
  have nstk : a ∉ frs X.stack := fun hb => by
    obtain ⟨_, o', ho', hd'⟩ := hfl.2.2.1.mem hb
    rw [g1] at ho'
    cases ho'
    exact hd' vs g3
  have ns1 : s1.heap.get? a = none := by
    cases q : s1.heap.get? a with
    | none => rfl
    | some o =>
      obtain ⟨o', e⟩ := c.thB a o q nstk
      rw [hBa] at e
      cases e
  have ns0 : X.s₀.heap.get? a = none := by
    cases q : X.s₀.heap.get? a with
    | none => rfl
    | some o =>
      obtain ⟨o', e⟩ := c.inv1.base.there a o q (by rw [hex]; simp)
      rw [ns1] at e
      cases e
  refine ⟨hHa, I.trackG ns0 hHa (fun z => ?_) (I.cellne g1 fun v z => by rw [g3] at z; cases z) (fun p hp z => ?_) ⟨⟨oe, vs, g1, g2, g3⟩, ⟨oe, g1⟩, fun h1 h2 ⟨o, ws, e1, e2, e3⟩ k => ⟨o, ws, k o e1, e2, e3⟩⟩⟩
  · obtain ⟨m, ⟨o, es, ep, ho, hd, _⟩, _⟩ := I.loc
    have ho : h.get? X.env.locals = some o := ho
    rw [← z, g1] at ho
    cases ho
    rw [g3] at hd
    cases hd
  · have := (c.inv1.pin p hp).1
    rw [z, ns1] at this
    cases this
end
def cxH (X : Cx) (a : Addr) (E : Value → Shared → Prop) : Cx := { X with A := X.A.mark (some (.ref a)), calm := false, xe := E }
section
variable {X : Cx} {pins : List (Addr × Obj)} {σ : St} {H : Hp} {s : Shared} {a : Addr} {E : Value → Shared → Prop}
theorem Inv.marked (I : Inv X pins σ H s) (a : Addr) (E : Value → Shared → Prop) : Inv (cxH X a E) pins σ H s :=
  ⟨⟨I.ok.mod, I.ok.kind, I.ok.glob, I.ok.blt, I.ok.above, I.ok.inj, I.ok.has, I.ok.cab, fun z => absurd (show false = true from z) Bool.false_ne_true, I.ok.frames, I.ok.stk, I.ok.exf, I.ok.bs, I.ok.bsz, I.ok.noex, I.ok.exfs, I.ok.funs, I.ok.frf⟩, I.os, I.bare, I.base, I.loc, I.cell, I.free, I.freeC, I.pin, I.hok, I.len⟩
theorem Inv.unmarked (hd : X.calm = true → X.A.handled = none) (I : Inv (cxH X a E) pins σ H s) : Inv X pins σ H s :=
  ⟨⟨I.ok.mod, I.ok.kind, I.ok.glob, I.ok.blt, I.ok.above, I.ok.inj, I.ok.has, I.ok.cab, hd, I.ok.frames, I.ok.stk, I.ok.exf, I.ok.bs, I.ok.bsz, I.ok.noex, I.ok.exfs, I.ok.funs, I.ok.frf⟩, I.os, I.bare, I.base, I.loc, I.cell, I.free, I.freeC, I.pin, I.hok, I.len⟩
theorem matches_own {M : Model} {A : Around} {E : Value → Shared → Prop} {K : PySem.W.Frag} {C C0 e : Addr} {oe : Obj} {Q : Bool → Shared → Prop} (KX : K.In s.heap) (hC : ExC K C) (hC0 : ExC K C0) (he : s.heap.get? e = some oe) (hcls : oe.cls = .ref C) (hq : Q ((clsMro K C).contains (.ref C0)) s) : wpAny M A (excMatches (.ref e) (.ref C0)) Q E s := by
  obtain ⟨bm, N, nm, qn, bs, hdct, sn, sub, ab, col, dd, k0, k1, k2, k3, k5, mN, g, _, _, TL, em⟩ := exc_obj KX hC
  obtain ⟨bm0, N0, nm0, qn0, bs0, hdct0, sn0, sub0, ab0, col0, dd0, k00, k10, k20, k30, k50, mN0, g0, _, _, TL0, em0⟩ := exc_obj KX hC0
  have hb0 : (Value.ref C0 :: bm0).contains (.type "BaseException") = true := by
    rw [List.contains_cons, TL0.hasType PySem.F.excBase_ValueError.hasBase, Bool.or_true]
  rw [em] at hq
  obtain ⟨hp, gn, d, tk, os⟩ := s
  unfold excMatches
  have nt := tc_notTuple
  repeat (first
    | (with_reducible refine wpAny_loadPart_at he ?_
       rw [hcls])
    | with_reducible refine wpAny_loadPart_at g0 ?_
    | (with_reducible refine wpAny_isSubtype_exc g0 ?_
       rw [hb0])
    | with_reducible refine wpAny_isSubtype_exc g ?_
    | wp_step)
  cases hz : (Value.ref C :: bm).contains (Value.ref C0)
  all_goals (rw [hz] at hq; wp_walk; exact hq)
end
end L2
set_option maxRecDepth 100000
namespace L2
open PySem PySem.Spec PyProof.Rows
def PHs (X : Cx) (hs : List ExceptHandler) (th : Ends → St → XK) : Prop :=
  ∀ (pins : List (Addr × Obj)) (σ : St) (H1 : Hp) (s1 : Shared) (a C : Addr) (a0 : Value) (B : Heap) (H : Hp) (s2 : Shared) (h : Heap) (D : Ends), Caught X pins σ H1 s1 a C a0 B H s2 → Heap.FlyingW B X.stack a (.ref C) a0 h → s2.heap.UpToSlots h → th D σ (.ref C) none H →
    wpAny (model X.prog X.w) X.A (handleBy (.ref a) X.env hs) (SP X pins D) X.xe { s2 with heap := h }
section
variable {X : Cx} {x n : Str} {C0 : Addr} {i : Nat} {np pos : Pos} {b₀ : Stmt} {suite : List Stmt} {rest : List ExceptHandler} {ts : TS} {th : Ends → St → XK}
theorem ph_nil : PHs X [] (fun _ _ _ _ _ => False) := fun _ _ _ _ _ _ _ _ _ _ _ _ _ _ _ z => z.elim
theorem SP.unmarked {X : Cx} {pins : List (Addr × Obj)} {a : Addr} {E : Value → Shared → Prop} {D : Ends} {f : Flow} {s' : Shared} (hd : X.calm = true → X.A.handled = none) (h : SP (cxH X a E) pins D f s') : SP X pins D f s' := by
  cases f with
  | next => obtain ⟨σ', H', I, q⟩ := h; exact ⟨σ', H', I.unmarked hd, q⟩
  | brk => obtain ⟨σ', H', I, q⟩ := h; exact ⟨σ', H', I.unmarked hd, q⟩
  | cont => obtain ⟨σ', H', I, q⟩ := h; exact ⟨σ', H', I.unmarked hd, q⟩
  | ret u => obtain ⟨v, σ', H', I, r, q⟩ := h; exact ⟨v, σ', H', I.unmarked hd, r, q⟩
def unb (i : Nat) (D : Ends) : Ends := { nx := fun σ H => D.nx (σ.set i none) H, rt := D.rt, bk := fun σ H => D.bk (σ.set i none) H, ct := fun σ H => D.ct (σ.set i none) H }
def tH1 (K : PySem.W.Frag) (C0 : Addr) (i : Nat) (ts : TS) (th : Ends → St → XK) : Ends → St → XK := fun D σ cls d H => match cls with
  | .ref C => ExC K C ∧ if (clsMro K C).contains (.ref C0) = true then ∀ a, H a = none → ts (unb i D) (σ.set i (some (.ref a))) (upd H a (ExcO a C)) else th D σ (.ref C) d H
  | _ => False
theorem goes_ok {pins : List (Addr × Obj)} {σ : St} {H : Hp} {s : Shared} {M : Model} {A : Around} {E : Value → Shared → Prop} {Q : Unit → Shared → Prop} (I : Inv X pins σ H s) (hN : X.N.Nodup) (hi : X.N[i]? = some n) (hk : X.env.kindOf n = some .local)
    (h : ∀ s', Inv X pins (σ.set i none) H s' → Q () s') : wpAny M A (do bindName X.env n .none; unbindBehindTheSuite X.env n pos) Q E s := by
  obtain ⟨m, hn, hl⟩ := id I.loc
  refine wpAny_nameGoes_keeps hk hn (by rw [I.ok.kind]; rfl) fun h' v hn' hs => h _ ?_
  have hiσ : i < σ.length := by rw [I.len]; exact (List.getElem?_eq_some_iff.mp hi).1
  obtain ⟨oL, es, ep, hoL, hdL, _⟩ := id hn
  refine ⟨I.ok, I.os, I.bare, ⟨fun b o e nn hb hx => ?_, fun b o e nn hb hx => ?_, I.base.free, fun b o e hx => ?_, I.base.tups, I.base.frzs, I.base.tbls⟩, ⟨_, hn', fun j y v' e1 e2 e3 => ?_⟩, fun y c e => ?_, I.free, I.freeC, fun p hp => ?_, fun b ob e => ?_, by simpa using I.len⟩
  · exact (hs.2 b (Nat.ne_of_lt (Nat.lt_of_lt_of_le (Heap.lt_size e) I.ok.above))).trans (I.base.keep b o e nn hb hx)
  · obtain ⟨sl, e1⟩ := I.base.slot b o e nn hb hx
    exact ⟨sl, (hs.2 b (Nat.ne_of_lt (Nat.lt_of_lt_of_le (Heap.lt_size e) I.ok.above))).trans e1⟩
  · obtain ⟨o', e1⟩ := I.base.there b o e hx
    exact ⟨o', (hs.2 b (Nat.ne_of_lt (Nat.lt_of_lt_of_le (Heap.lt_size e) I.ok.above))).trans e1⟩
  · have hj : j ≠ i := by
      rintro rfl
      rw [List.getElem?_set_self hiσ] at e2
      cases e2
    rw [List.getElem?_set_ne (Ne.symm hj)] at e2
    obtain ⟨u', r', q⟩ := hl j y v' e1 e2 e3
    refine ⟨u', r', ?_⟩
    rcases q with ⟨k, e⟩ | ⟨k, c, e, z⟩
    · refine .inl ⟨k, ?_⟩
      have : y ≠ n := fun e => hj (nodup_ix hN e1 (e ▸ hi))
      simp [this, e]
    · exact .inr ⟨k, c, e, z.sameBut hs (I.cne y c e)⟩
  · obtain ⟨w', z⟩ := I.cell y c e
    exact ⟨w', z.sameBut hs (I.cne y c e)⟩
  · obtain ⟨e, nn, ne, nf, d⟩ := I.pin p hp
    exact ⟨(hs.2 p.1 ne).trans e, nn, ne, nf, d⟩
  · refine (I.hok b ob e).stay (fun c w' hc z => (hs.2 c ?_).trans z) (fun _ z => z) fun _ _ z => z
    rintro rfl
    rcases hc with z | hc
    · have := I.free
      rw [z, e] at this
      cases this
    · rw [I.free] at hc
      cases hc
theorem ph_cons1 (hex : X.ex = []) (hC0 : ExC X.K C0) (hg : Gl X x) (hm : X.mg x = some (.ref C0)) (hN : X.N.Nodup) (hi : X.N[i]? = some n) (hk : X.env.kindOf n = some .local) (hb : ∀ a, PSs (cxH X a (fun _ _ => False)) (b₀ :: suite) ts) (hr : PHs X rest th) (hdb : (x == ("__debug__" : Str)) = false := by decide) :
    PHs X (.ExceptHandler (some (.Name x np)) (some n) (b₀ :: suite) pos :: rest) (tH1 X.K C0 i ts th) := by
  intro pins σ H1 s1 a C a0 B H s2 h D c hfl hup q
  have I := c.inv hfl hup
  have hd : X.calm = true → X.A.handled = none := c.inv1.ok.hd
  obtain ⟨hC, q⟩ := q
  obtain ⟨ob, hob, hobc⟩ := hfl.there
  refine wpAny_handleBy_cons (codeAny_handlers_test (ld_glob (X := cxH X a (notedBy (model X.prog X.w) (X.A.mark (some (.ref a))) X.env (cameBackBy (model X.prog X.w) X.A X.env X.xe))) (I.marked a _) hg hm ?_ hdb)) (by intro z; cases z)
  refine matches_own (s := { s2 with heap := h }) I.kIn hC hC0 hob hobc ?_
  cases e : (clsMro X.K C).contains (.ref C0) with
  | true =>
    rw [e] at q
    refine codeAny_handlers_suite_as (lands_againW hfl fun h3 hfl3 hup3 => ?_)
    obtain ⟨ha, I3⟩ := c.held hex hfl3 (hup.trans hup3)
    refine store_ok I3 hN hi (.inl hk) (show RelV (.ref a) (.ref a) from rfl) (fun s4 I4 => ?_) (.inr hk)
    refine wpAny_mono (hb a pins _ _ _ _ (I4.marked a _) (q a ha)) (fun f s' z => ?_) fun _ _ z => False.elim z
    have z := z.unmarked hd
    cases f with
    | next => obtain ⟨σ', H', J, w'⟩ := z; exact goes_ok J hN hi hk fun s5 J5 => ⟨_, H', J5, w'⟩
    | brk => obtain ⟨σ', H', J, w'⟩ := z; exact goes_ok J hN hi hk fun s5 J5 => ⟨_, H', J5, w'⟩
    | cont => obtain ⟨σ', H', J, w'⟩ := z; exact goes_ok J hN hi hk fun s5 J5 => ⟨_, H', J5, w'⟩
    | ret u => obtain ⟨v, σ', H', J, r, w'⟩ := z; exact goes_ok J hN hi hk fun s5 J5 => ⟨v, _, H', J5, r, w'⟩
  | false =>
    rw [e] at q
    exact hr pins σ H1 s1 a C a0 B H s2 h D c hfl hup q
def tTry (tb : (St → XK) → TS) (th : Ends → St → XK) (te : TS) : TS := fun D σ H => tb (fun σ' => th D σ') { nx := fun σ' H' => te D σ' H', rt := D.rt, bk := D.bk, ct := D.ct } σ H
abbrev Cx.wishP (X : Cx) (pn : List (Addr × Obj)) (E : Value → Shared → Prop) : Cx := { X with pn := pn, xe := E }
theorem Inv.wishP {pins : List (Addr × Obj)} {σ : St} {H : Hp} {s : Shared} (I : Inv X pins σ H s) (E : Value → Shared → Prop) : Inv (X.wishP (X.pn ++ pins) E) [] σ H s :=
  ⟨⟨I.ok.mod, I.ok.kind, I.ok.glob, I.ok.blt, I.ok.above, I.ok.inj, I.ok.has, I.ok.cab, I.ok.hd, I.ok.frames, I.ok.stk, I.ok.exf, I.ok.bs, I.ok.bsz, I.ok.noex, I.ok.exfs, I.ok.funs, I.ok.frf⟩, I.os, I.bare, I.base, I.loc, I.cell, I.free, I.freeC, fun p hp => I.pin p (by simpa using hp), I.hok, I.len⟩
theorem Inv.unwishP {pins ps : List (Addr × Obj)} {σ : St} {H : Hp} {s : Shared} {E : Value → Shared → Prop} (I : Inv (X.wishP (X.pn ++ pins) E) ps σ H s) : Inv X pins σ H s :=
  ⟨⟨I.ok.mod, I.ok.kind, I.ok.glob, I.ok.blt, I.ok.above, I.ok.inj, I.ok.has, I.ok.cab, I.ok.hd, I.ok.frames, I.ok.stk, I.ok.exf, I.ok.bs, I.ok.bsz, I.ok.noex, I.ok.exfs, I.ok.funs, I.ok.frf⟩, I.os, I.bare, I.base, I.loc, I.cell, I.free, I.freeC, fun p hp => I.pin p (List.mem_append_left _ hp), I.hok, I.len⟩
theorem ps_try {body orelse : List Stmt} {h₀ : ExceptHandler} {hs : List ExceptHandler} {tb : (St → XK) → TS} {te : TS} (hst : X.stack = X.env :: X.outer) (hf : X.env.frame = some X.env.locals) (hb : ∀ pn E F, Tk (X.wishP pn E) F → PSs (X.wishP pn E) body (tb F)) (hh : PHs X (h₀ :: hs) th) (he : PSs X orelse te) :
    PS X (.Try body (h₀ :: hs) orelse [] pos) (tTry tb th te) := by
  intro pins s σ H D I q
  refine wpAny_Try_except ?_
  have hfr : X.A.frames = some (X.env :: X.outer) := by rw [← hst]; exact I.ok.frames
  have tk : Tk (X.wishP (X.pn ++ pins) (fun e s₁ => wpAny (model X.prog X.w) X.A (noteFrame e X.env) (fun _ s₂ => wpAny (model X.prog X.w) X.A (setFlight e none) (fun _ s₃ => wpAny (model X.prog X.w) X.A (handleBy e X.env (h₀ :: hs)) (SP X pins D) X.xe s₃) X.xe s₂) X.xe s₁)) (fun σ' => th D σ') := by
    refine ⟨fun ps σ' H1 s1 e s2 I1 hx => ?_, PassesOwn.looking⟩
    obtain ⟨a, C, a0, B, H', rfl, h1, h2, h3, h4, h5, h5', h6, h7⟩ := hx
    have c : Caught X pins σ' H1 s1 a C a0 B H' s2 := ⟨I1.unwishP, h1, h2, h3, h4, h5, h5'⟩
    have h6 : Heap.FlyingW B (X.env :: X.outer) a (.ref C) a0 s2.heap := by rw [← hst]; exact h6
    refine wpAny_looks_onW hfr hf h6 fun h4' hheld hup4 => wpAny_landsW hheld fun h5' hfl5 hup5 => ?_
    refine hh pins σ' H1 s1 a C a0 B H' s2 h5' D c ?_ (hup4.trans hup5) h7
    rw [hst]
    exact hfl5
  refine wpAny_mono (hb _ _ _ tk [] s σ H _ (I.wishP _) q) (fun f s1 z => ?_) fun e s1 z => z
  cases f with
  | next => obtain ⟨σ', H', J, w'⟩ := z; exact he pins s1 σ' H' D J.unwishP w'
  | brk => obtain ⟨σ', H', J, w'⟩ := z; exact ⟨σ', H', J.unwishP, w'⟩
  | cont => obtain ⟨σ', H', J, w'⟩ := z; exact ⟨σ', H', J.unwishP, w'⟩
  | ret u => obtain ⟨v, σ', H', J, r, w'⟩ := z; exact ⟨v, σ', H', J.unwishP, r, w'⟩
end
end L2
set_option maxRecDepth 100000
namespace L2
open PySem PySem.Spec PySem.Calls PyProof.Rows PySem.Builtin PySem.Builtin.ObjectAttr PySem.Builtin.Getset_descriptor
structure ExcG (K : PySem.W.Frag) (C : Addr) : Prop where
  ga : PySem.W.findIn K (.ref C) "__getattribute__" = some (some (.builtin "BaseException.__getattribute__"))
  gh : PySem.W.findIn K (.ref C) "__getattr__" = some none
  cl : PySem.W.findIn K (.ref C) "__class__" = some (some (.builtin "object.__class__"))
  gt : PySem.W.specialIn K (.builtin "object.__class__") "__get__" = some (some (.builtin "getset_descriptor.__get__"))
  tk : PySem.W.takesIn K (.builtin "object.__class__") = some true
  mo : PySem.W.mroIn K C (.type "object") = some true
  mb : PySem.W.mroIn K C (.type "BaseException") = some true
theorem ExcG.is {K : PySem.W.Frag} {C : Addr} (G : ExcG K C) : (PySem.W.clsIn K C).isSome = true := by
  have h := G.mo
  unfold PySem.W.mroIn at h
  cases q : PySem.W.clsIn K C with
  | some _ => rfl
  | none => rw [q] at h; cases h
theorem mro_at {K : PySem.W.Frag} {C : Addr} {v : Value} {b : Bool} (h : PySem.W.mroIn K C v = some b) : (clsMro K C).contains v = b := by
  unfold PySem.W.mroIn PySem.W.clsIn at h
  unfold clsMro
  split at h
  · rename_i e
    rw [e]
    dsimp only [Option.bind_some] at h ⊢
    split at h
    · cases h
    · exact Option.some.inj h
  · cases h
section
variable {prog : Program} {w : World} {A : Around} {E : Value → Shared → Prop} {s : Shared} {K : PySem.W.Frag} {a C : Addr} {oe : Obj}
theorem exc_ty {M : Model} {h : Heap} (he : h.get? a = some oe) (hc : oe.cls = .ref C) : PySem.W.Looks M h (typeOf (.ref a)) (.ref C) := by
  rw [← hc]
  exact (PySem.W.Looks.ld he).andThen .now
theorem exc_find {M : Model} {h : Heap} (KX : K.In h) (G : ExcG K C) : PySem.W.Looks M h (find (.ref a) (.ref C) "__class__") (.bind (.builtin "getset_descriptor.__get__") (.builtin "object.__class__")) := by
  have l1 := PySem.W.looks_findIn (M := M) KX G.cl
  have l2 := PySem.W.looks_specialIn (M := M) KX G.gt
  have l3 := PySem.W.looks_takesIn (M := M) KX G.tk
  refine l1.andThen (PySem.W.Looks.andThen (show PySem.W.Looks M h (getOf (some (.builtin "object.__class__"))) _ from l2) (PySem.W.Looks.andThen (a := some (.builtin "getset_descriptor.__get__", .builtin "object.__class__")) (l3.andThen .now) ?_))
  exact PySem.W.Looks.tag .now
theorem exc_cls {R : Result → Shared → Prop} {tp : Value} (KX : K.In s.heap) (G : ExcG K C) (he : s.heap.get? a = some oe) (hc : oe.cls = .ref C)
    (h : R (.ok (.ret (.ref C))) s) : codeAny (model prog w) A (.call (.builtin "getset_descriptor.__get__") ⟨[.builtin "object.__class__", .ref a, tp], []⟩) R s := by
  obtain ⟨hp, gn, dr, tk, os⟩ := s
  have l0 := exc_ty (M := model prog w) he hc
  have l1 := PySem.W.looks_mroIn (M := model prog w) KX G.mo
  refine codeAny_call_builtin PySem.W.KF.slot_gs.plain PySem.W.KF.entry_gs (PySem.W.KF.slot_gs.check _ _ _ _ _ _ _ _ PySem.W.KF.type_class (PySem.W.KF.args_gs _ _ _) ?_)
  unfold Builtin.«getset_descriptor.__get__» descrGet
  rw [PySem.W.dga_obj]
  refine wpAny_bind (wpAny_pure ?_)
  unfold descrGetter descrCheckInstance descrNameAndClass isInstance
  simp only [PySem.W.KF.owner_class]
  repeat lk
  refine ⟨Code.quiet_builtin _ (by decide +kernel), codeAny_builtin PySem.W.KF.entry_class ?_⟩
  unfold Builtin.«object.__class__» shownTypeOf
  repeat lk
  exact h
theorem exc_check {M : Model} {v : Value} {Q : Unit → Shared → Prop} (KX : K.In s.heap) (G : ExcG K C) (he : s.heap.get? a = some oe) (hc : oe.cls = .ref C) (h : Q () s) :
    wpAny M A (checkBuiltinCall "BaseException.__getattribute__" ⟨[.ref a, v], []⟩) Q E s := by
  obtain ⟨hp, gn, dr, tk, os⟩ := s
  have k1 : builtinKind "BaseException.__getattribute__" = some .slot := by decide +kernel
  have k2 : splitId "BaseException.__getattribute__" = some ("BaseException", "__getattribute__") := by decide +kernel
  have ha := PySem.F.args_bexc_ga (.ref a) v
  have l0 := exc_ty (M := M) he hc
  have l1 := PySem.W.looks_mroIn (M := M) KX G.mb
  simp only [checkBuiltinCall, k1, k2]
  refine wpAny_bind ?_
  unfold isInstance
  refine (PySem.W.Looks.andThen l0 l1).at ?_
  repeat (first | assumption | wp_step)
theorem exc_get {tk : Tok} {Q : Value → Shared → Prop} (KX : K.In s.heap) (G : ExcG K C) (he : s.heap.get? a = some oe) (hc : oe.cls = .ref C) (h : Q (.ref C) s) :
    wpAny (model prog w) A (call (.builtin "BaseException.__getattribute__") [.ref a, .str "__class__" tk]) Q E s := by
  have l0 := exc_ty (M := model prog w) he hc
  have l1 := exc_find (M := model prog w) (a := a) KX G
  refine wpAny_call (codeAny_call_builtin PySem.F.excAttr_ValueError.ga.plain PySem.F.entry_bexc_ga (exc_check KX G he hc ?_))
  unfold Builtin.«object.__getattribute__»
  refine wpAny_bind (wpAny_pure (wpAny_bind (wpAny_pure (wpAny_bind (l0.at (wpAny_bind (l1.at ?_)))))))
  show wpAny _ _ (bindTo (.builtin "getset_descriptor.__get__") (.builtin "object.__class__") (.ref a) (.ref C)) _ _ s
  show wpAny _ _ (holding [Value.builtin "object.__class__"] (call (.builtin "getset_descriptor.__get__") [.builtin "object.__class__", .ref a, .ref C]) >>= ret) _ _ s
  exact wpAny_bind (wpAny_holding (wpAny_call (exc_cls KX G he hc (wpAny_pure h))))
theorem exc_bind (self : Value) : bindSpecial (.builtin "BaseException.__getattribute__") self = pure (.builtin "BaseException.__getattribute__", [self]) := PySem.F.excAttr_ValueError.ga.bind self
theorem exc_ca {Q : Option Value → Shared → Prop} (KX : K.In s.heap) (G : ExcG K C) (he : s.heap.get? a = some oe) (hc : oe.cls = .ref C) (h : Q (some (.ref C)) { s with toks := s.toks + 1 }) :
    wpAny (model prog w) A (getAttr? (.ref a) "__class__") Q E s := by
  obtain ⟨hp, gn, dr, tk, os⟩ := s
  have l0 := exc_ty (M := model prog w) he hc
  have l1 := PySem.W.looks_findIn (M := model prog w) KX G.ga
  have l2 := PySem.W.looks_findIn (M := model prog w) KX G.gh
  unfold getAttr? getAttrBy? getAttrBy
  refine wpAny_bind (wpAny_mkText (wpAny_bind (wpAny_attempt (wpAny_holding (wpAny_bind (l0.at (wpAny_bind (l1.at ?_))))))))
  show wpAny _ _ (getAttrByItsOwn (.ref a) _ (.ref C) (.builtin "BaseException.__getattribute__") false false) _ _ _
  unfold getAttrByItsOwn
  refine wpAny_bind (l2.at (wpAny_bind (wpAny_attempt (wpAny_holding ?_))))
  show wpAny _ _ (boundAndCalled (.builtin "BaseException.__getattribute__") (.ref a) _) _ _ _
  unfold boundAndCalled
  rw [exc_bind]
  refine wpAny_bind (wpAny_pure ?_)
  refine exc_get (s := ⟨hp, gn, dr, tk + 1, os⟩) KX G he hc ?_
  exact PySem.W.handed_on rfl (wpAny_pure h)
theorem kitx_exc (G : ExcG K C) : PySem.W.KitX K (.ref a) (.ref C) (fun h => ∃ o vs, h.get? a = some o ∧ o.cls = .ref C ∧ o.data = .fields vs) where
  ty := fun _ _ _ p => by
    obtain ⟨o, _, h1, h2, _⟩ := p
    exact exc_ty h1 h2
  it := fun M h KX _ => by
    have q := G.is
    unfold PySem.W.clsIn at q
    split at q
    · rename_i ho
      intro A' Q' E' s' k z
      unfold isType loadHead
      exact wpAny_bind (wpAny_loadPart (k _ _ (KX _ _ ho)) (wpAny_pure z))
    · cases q
  ne := fun h tp dd its n sl KX e => by
    have q := G.is
    unfold PySem.W.clsIn at q
    split at q
    · rename_i ho
      cases z : (Value.ref C == Value.ref tp) with
      | false => rfl
      | true =>
        cases Value.ref.inj (eq_of_beq z)
        have := (KX _ _ ho).symm.trans e
        cases this
    · cases q
  ca := fun KX p k => by
    obtain ⟨o, _, h1, h2, _⟩ := p
    exact exc_ca KX G h1 h2 k
end
section
variable {X : Cx} {pins : List (Addr × Obj)} {σ : St} {H : Hp} {s : Shared} {a C : Addr} {c : Value} {b : Bool}
theorem isi_exc {A : Around} {E : Value → Shared → Prop} {Q : Value → Shared → Prop} (I : Inv X pins σ H s) (G : ExcG X.K C) (e : H a = some (ExcO a C)) (q : PySem.W.kitOne X.K (.ref C) c = some b) (h : ∀ tk, Q (.bool b) { s with toks := tk }) :
    wpAny (model X.prog X.w) A (call (.builtin "isinstance") [.ref a, c]) Q E s := by
  obtain ⟨z, _, _⟩ := I.hok a _ e
  exact PySem.W.kia_one (kitx_exc G) I.kIn z q (fun z => nomatch z) h
theorem isi_excs {A : Around} {E : Value → Shared → Prop} {Q : Value → Shared → Prop} {p : Addr} {cs : List Value} (I : Inv X pins σ H s) (G : ExcG X.K C) (e : H a = some (ExcO a C)) (ht : IsTup s.heap p cs.toArray) (q : PySem.W.kitAny X.K (.ref C) cs = some b) (h : ∀ tk, Q (.bool b) { s with toks := tk }) :
    wpAny (model X.prog X.w) A (call (.builtin "isinstance") [.ref a, .ref p]) Q E s := by
  obtain ⟨z, _, _⟩ := I.hok a _ e
  obtain ⟨o, h1, h2, n, h3⟩ := ht
  obtain ⟨oc, od, oda, osl⟩ := o
  dsimp only at h2 h3
  subst h2 h3
  exact PySem.W.kia_tup (kitx_exc G) I.kIn z h1 q (fun z => nomatch z) h
theorem vals_refs : ∀ {ds : List Addr} {us : List Value}, Vals (ds.map V.ref) us → us = ds.map Value.ref
  | [], _, r => by cases r; rfl
  | d :: ds, _, r => by
    cases r with
    | cons r1 r2 =>
      cases r1
      rw [vals_refs r2]
      rfl
def isxV (K : PySem.W.Frag) : List V → Hp → VK → Prop := fun xs H Q => match xs with
  | [.ref a, .ty n] => ∃ C b, H a = some (ExcO a C) ∧ ExcG K C ∧ PySem.W.kitOne K (.ref C) (.type n) = some b ∧ Q (.bl b) H
  | [.ref a, .ref c] => ∃ C b, H a = some (ExcO a C) ∧ ExcG K C ∧ Q (.bl b) H ∧ (PySem.W.kitOne K (.ref C) (.ref c) = some b ∨ ∃ ds : List Addr, SqT K H c (ds.map V.ref) ∧ PySem.W.kitAny K (.ref C) (ds.map Value.ref) = some b)
  | _ => False
theorem c_isx : CallR X (.builtin "isinstance") (isxV X.K) := by
  intro pins s σ H xs us Q I r h
  unfold isxV at h
  split at h
  · rename_i a n
    obtain ⟨C, b, e, G, q, h⟩ := h
    obtain ⟨u, w', rfl, ru, rw'⟩ := vals2 r
    cases ru
    cases rw'
    exact isi_exc I G e q fun tk => fin_bl (I.tok tk) h rfl
  · rename_i a c
    obtain ⟨C, b, e, G, h, q⟩ := h
    obtain ⟨u, w', rfl, ru, rw'⟩ := vals2 r
    cases ru
    cases rw'
    rcases q with q | ⟨ds, ht, q⟩
    · exact isi_exc I G e q fun tk => fin_bl (I.tok tk) h rfl
    · obtain ⟨its, rv, t, _⟩ := I.tuple ht
      have := vals_refs rv
      subst this
      exact isi_excs I G e t q fun tk => fin_bl (I.tok tk) h rfl
  · exact h.elim
theorem c_isxK {K : PySem.W.Frag} (h : X.K = K) : CallR X (.builtin "isinstance") (isxV K) := h ▸ c_isx
end
end L2
set_option maxRecDepth 100000
namespace L2
open PySem PySem.Spec PyProof.Rows
section
variable {X : Cx} {es : List Expr} {k : Nat} {tp : Pos}
end
end L2
set_option maxRecDepth 100000
namespace L2
open PySem PySem.Spec PyProof.Rows
section
variable {X : Cx}
def putAt {α : Type} (xs : List α) (k : Nat) (y : α) : List α := xs.take k ++ y :: xs.drop k
theorem Vals.put {xs : List V} {us : List Value} {x : V} {u : Value} (h : Vals xs us) (r : RelV x u) (k : Nat) : Vals (putAt xs k x) (putAt us k u) := (h.take k).append (.cons r (h.drop k))
theorem ints_are : ∀ {ns : List Int} {us : List Value}, Vals (ns.map V.int) us → IntsAre us ns
  | [], _, r => by cases r; exact .nil
  | n :: ns, _, r => by
    cases r with
    | cons r1 r2 =>
      obtain ⟨t, rfl⟩ := r1
      exact .cons n t (ints_are r2)
def setV : TSet := fun o i v H Q => match o, i with
  | .ref p, .int k => ∃ xs, H p = some (.lst xs) ∧ ∃ j, ixN xs.length k = some j ∧ Q (upd H p (.lst (xs.set j v)))
  | _, _ => False
theorem st_set : PSet X setV := by
  intro pins s σ H o i v ov iv u Q I ro ri rv h
  unfold setV at h
  split at h
  · rename_i p k
    obtain ⟨xs, h1, j, h2, q⟩ := h
    exact set_list pins s σ H _ _ _ ov iv u Q I ro ri rv ⟨p, xs, k, j, rfl, rfl, h1, h2, q⟩
  · exact h.elim
end
theorem bt_ValueError : bootBuiltins "ValueError" = some (.type "ValueError") := by decide +kernel
end L2
set_option maxRecDepth 100000
namespace LP
open PySem L2
def Whole (ns : List Int) : Prop := ∀ k : Nat, k < ns.length → ns.count (k : Int) = 1
instance (ns : List Int) : Decidable (Whole ns) := inferInstanceAs (Decidable (∀ k : Nat, k < ns.length → ns.count (k : Int) = 1))
theorem upd_free {H : Hp} {a b : Addr} {o : HO} (h : upd H a o b = none) : H b = none ∧ b ≠ a := by
  by_cases e : b = a
  · subst e; rw [upd_same] at h; cases h
  · rw [upd_ne e] at h; exact ⟨h, e⟩
theorem same_put {H H' : Hp} {p : Addr} {o : HO} (sm : Same H H') (hn : H p = none) : Same H (upd H' p o) := fun b u q => by
  have : b ≠ p := by rintro rfl; rw [hn] at q; cases q
  rw [upd_ne this]
  exact sm b u q
end LP
set_option maxRecDepth 100000
namespace L2
open PySem PySem.Spec PyProof.Rows
theorem SameN.src {K : PySem.W.Frag} {H H' : Hp} {a : Addr} {xs : List V} (e : SameN H H') (h : Src K H a xs) : Src K H' a xs := by
  rcases h with h | h | ⟨lo, hi, h, r⟩
  · exact .inl (e.seq h)
  · rcases h with (h | ⟨o, h⟩) | h
    · exact .inr (.inl (.inl (.inl (e.at h (by intro ps z; cases z)))))
    · exact .inr (.inl (.inl (.inr ⟨o, e.at h (by intro ps z; cases z)⟩)))
    · exact .inr (.inl (.inr h))
  · exact .inr (.inr ⟨lo, hi, e.at h (by intro ps z; cases z), r⟩)
section
variable {X : Cx} {c P : Addr} {params : Arguments} {body : Expr} {scope : Scope} {cl : List (Str × Addr)} {cp : List (Str × Nat)} {x : Str} {q : Str} {e : Expr} {ta : TA} {te : TE} {np lp kp pos : Pos}
end
end L2
namespace L2
open PySem PySem.Spec PyProof.Rows
structure Lm (mg : Str → Option Value) (base : Heap) (c P : Addr) : Prop where
  hd : PySem.W.CodeHd base c P
  bm : ∃ bm ob, mg "__builtins__" = some (.ref bm) ∧ bm ≠ builtinsNs ∧ base.get? bm = some ob ∧ ob.cls = .type "module" ∧ ob.dict = some builtinsNs ∧ ob.data = .plain
theorem Lm.at {X : Cx} {c P : Addr} (L : Lm X.mg X.base c P) (h : X.env.code = .ref c) : LamAt X c P := ⟨h, L.hd, L.bm⟩
section
variable {P : Program} {w : World} {K : PySem.W.Frag} {mg : Str → Option Value} {base : Heap}
end
end L2
set_option maxRecDepth 100000
namespace L2
open PySem PySem.Spec PyProof.Rows
section
variable {X : Cx} {pins : List (Addr × Obj)} {σ : St} {H : Hp} {s : Shared}
end
end L2
set_option maxRecDepth 100000
namespace L2
open PySem PySem.Spec PyProof.Rows
section
variable {X : Cx}
theorem PFs.imp {ifs : List Expr} {t t' : TT} (h : PFs X ifs t) (hi : ∀ σ H Q, t' σ H Q → ∃ Q0 : Bool → Hp → Prop, t σ H Q0 ∧ ∀ b H', Q0 b H' → Q b H') : PFs X ifs t' := fun pins s σ H Q I q => by
  obtain ⟨Q0, h0, h1⟩ := hi σ H Q q
  exact thn (h pins s σ H Q0 I h0) fun b s1 ⟨H1, I1, q⟩ => ⟨H1, I1, h1 b H1 q⟩
def oneC (tc : TT) (te : TE) (σ : St) (acc : List V) (N : Hp → List V → Prop) (H : Hp) : Prop := tc σ H fun b H3 => if b = true then te σ H3 fun y H4 => N H4 (acc ++ [y]) else N H3 acc
def cloE (te : TE) : TE := fun σ H Q => ∃ Q0 : VK, te σ H Q0 ∧ ∀ v H', Q0 v H' → Q v H'
def cloT (tc : TT) : TT := fun σ H Q => ∃ Q0 : Bool → Hp → Prop, tc σ H Q0 ∧ ∀ b H', Q0 b H' → Q b H'
theorem oneC_clo {tc : TT} {te : TE} {σ : St} {acc : List V} {N N' : Hp → List V → Prop} {H : Hp} (hN : ∀ H a, a.length ≤ acc.length + 1 → N H a → N' H a) (h : oneC tc te σ acc N H) : oneC (cloT tc) (cloE te) σ acc N' H := by
  refine ⟨_, h, fun b H3 q => ?_⟩
  cases b with
  | true => exact ⟨_, q, fun y H4 q4 => hN _ _ (by simp) q4⟩
  | false => exact hN _ _ (by omega) q
def tCL (K : PySem.W.Frag) (n : Nat) (cp : List (Str × Nat)) (tl : TE) (tc : TT) (te : TE) : TE := fun σ H Q => tl σ H fun v H1 => match v with
  | .ref a => ∃ xs, SqL K H1 a xs ∧ xs.length < 16777216 ∧ ∃ Pv : Nat → Hp → List V → Prop, Pv 0 H1 [] ∧ (∀ i H2 acc, i ≤ xs.length → Pv i H2 acc → SqL K H2 a xs) ∧ (∀ i y H2 acc, xs[i]? = some y → Pv i H2 acc → oneC tc te ((capS n cp σ).set 0 (some y)) acc (Pv (i + 1)) H2) ∧ ∀ H2 acc, Pv xs.length H2 acc → ∀ l, H2 l = none → Q (.ref l) (upd H2 l (.lst acc))
  | _ => False
theorem pe_compL {K : PySem.W.Frag} {elt iter : Expr} {ifs : List Expr} {x : Str} {px : Pos} {scope : Scope} {pos : Pos} {cl : List (Str × Addr)} {own : List Str} {cp : List (Str × Nat)} {tl : TE} {tc : TT} {te : TE} (hK : X.K = K)
    (hc : X.calm = true) (hcl : closL scope.names X.env.cells [] = some cl) (hk : scope.kind = .function) (hnc : ∀ y ∈ scope.names, y.2 ≠ .cell)
    (hnm : ∀ x ∈ scope.names, x.2 = .local → scope.names.lookup x.1 = some .local) (hcp : CapOk X scope cp) (hl : PE X iter tl) (hn : 0 < own.length)
    (hg : ∀ fp C s H, PG (cxC X scope cl (own ++ cp.map (·.1)) fp C s H) (.Name x px) (gName 0)) (ht : ∀ fp C s H, PFs (cxC X scope cl (own ++ cp.map (·.1)) fp C s H) ifs tc) (he : ∀ fp C s H, PE (cxC X scope cl (own ++ cp.map (·.1)) fp C s H) elt te)
    (hs : ∀ z, foldedSetIterable iter X.env z = pure z := by intro _; rfl) : PE X (.ListComp elt [⟨.Name x px, iter, ifs, 0⟩] scope pos) (tCL K own.length cp tl tc te) := by
  subst hK
  have hl' : PE X iter (fun σ H Q => ∃ Q0 : VK, tl σ H Q0 ∧ ∀ v H', Q0 v H' → Q v H') := hl.imp fun σ H Q h => h
  intro pins s σ H Q I h
  refine pe_comp hc hcl hk hnc hnm hcp (pi_list hl') (gk_name hn) hg (fun fp C s H => (ht fp C s H).imp (t' := cloT tc) fun _ _ _ z => z) (fun fp C s H => (he fp C s H).imp (t' := cloE te) fun _ _ _ z => z) hs pins s σ H Q I ?_
  refine ⟨_, h, fun v H1 q => ?_⟩
  cases v with
  | ref a =>
    obtain ⟨xs, hx, hz, Pv, p0, pl, ps, pe⟩ := q
    have hsl : sizeLine = 16777216 := sizeLine_eq
    refine ⟨a, rfl, ⟨xs, hx⟩, fun i m H2 acc => m = xs.length - i ∧ i ≤ xs.length ∧ acc.length ≤ i ∧ Pv i H2 acc, ⟨xs.length, by omega, Nat.zero_le _, Nat.le_refl _, p0⟩, ?_⟩
    rintro i m H2 acc ⟨rfl, hi, hla, pv'⟩
    refine ⟨by omega, ?_⟩
    have hx2 := pl i H2 acc hi pv'
    by_cases hlt : i < xs.length
    · refine .inr ⟨⟨xs, xs[i], hx2, by simp [hlt]⟩, fun y H3 ⟨e3, ey⟩ => ?_⟩
      subst e3
      exact oneC_clo (N' := fun H a => ∃ m', m' < xs.length - i ∧ (m' = xs.length - (i + 1) ∧ i + 1 ≤ xs.length ∧ a.length ≤ i + 1 ∧ Pv (i + 1) H a)) (fun H a ha z => ⟨xs.length - (i + 1), by omega, rfl, hlt, by omega, z⟩) (ps i y H3 acc (ey xs hx2) pv')
    · have e : i = xs.length := by omega
      subst e
      exact .inl ⟨⟨xs, hx2, Nat.le_refl _⟩, fun l hl' => pe H2 acc pv' l hl'⟩
  | _ => exact False.elim q
end
end L2
set_option maxRecDepth 100000
namespace L2
open PySem PySem.Spec PyProof.Rows
def Its (z : Str) : It := ⟨fun i _ => i < (L z).length, fun i H x H' => H' = H ∧ x = .str (T [(L z).getD i 0]), fun i _ => (L z).length ≤ i⟩
theorem cps_at {z : Str} {i : Nat} (h : i < (L z).length) : z.cps[i]? = some ((L z).getD i 0) := by
  unfold L at h ⊢
  rw [Array.length_toList] at h
  rw [List.getD_eq_getElem?_getD, Array.getElem?_toList, Array.getElem?_eq_getElem h]
  rfl
theorem cps_out {z : Str} {i : Nat} (h : (L z).length ≤ i) : z.cps[i]? = none := by
  unfold L at h
  rw [Array.length_toList] at h
  exact Array.getElem?_eq_none h
section
variable {P : Program} {w : World} {K : PySem.W.Frag} {tg : Expr}
theorem turn_ascii (z : Str) (t : Tok) (it : Addr) : Turn P w K tg (Its z) [it] it (fun i h => h.IsStrIter it "str_ascii_iterator" z t i) where
  mem := by simp
  obj := fun i h st b hb => by
    have e : b = it := by simpa using hb
    subst e
    obtain ⟨o, e, c, d⟩ := st
    exact ⟨o, e, fun v y => by rw [d] at y; cases y⟩
  keep := fun i h h' st k => by
    obtain ⟨o, e, c, d⟩ := st
    exact ⟨o, k it (by simp) o e, c, d⟩
  item := by
    intro X hP hw hK hc i pins s σ H E I hf st hg
    subst hP hw hK
    obtain ⟨f0, f1, f2, f3, f4, f5⟩ := hf it (by simp)
    refine wpAny_pyNext_ascii_item st (cps_at hg) fun h' st' sb => ?_
    have I1 : Inv X pins σ H { s with heap := h', toks := s.toks + 1 } := I.turned (t' := s.toks + 1) (fun b o hb e => (sb.2 b hb).trans e) f0 f1 f3 f4 f5
    obtain ⟨o, e, c, d⟩ := id st'
    exact ⟨_, rfl, go_of (s := { s with heap := h', toks := s.toks + 1 }) e c d (by decide) ⟨.str (T [(L z).getD i 0]), H, I1, ⟨_, rfl⟩, ⟨rfl, rfl⟩, st', fun b hb => (hf b hb).1⟩⟩
  done := by
    intro X hP hw hK hc i pins s σ H E I hf st hg
    subst hP hw hK
    obtain ⟨f0, f1, f2, f3, f4, f5⟩ := hf it (by simp)
    exact wpAny_pyNext_ascii_end (I.ok.hd hc) st (cps_out hg) fun h' eb => ⟨rfl, I.turned (t' := s.toks) (fun b o hb e => eb b o hb e) f0 f1 f3 f4 f5⟩
  self := fun _ _ _ _ _ st h => wpAny_pyIter_striter_ascii st h
theorem turn_wide (z : Str) (t : Tok) (it : Addr) : Turn P w K tg (Its z) [it] it (fun i h => h.IsStrIter it "str_iterator" z t i) where
  mem := by simp
  obj := fun i h st b hb => by
    have e : b = it := by simpa using hb
    subst e
    obtain ⟨o, e, c, d⟩ := st
    exact ⟨o, e, fun v y => by rw [d] at y; cases y⟩
  keep := fun i h h' st k => by
    obtain ⟨o, e, c, d⟩ := st
    exact ⟨o, k it (by simp) o e, c, d⟩
  item := by
    intro X hP hw hK hc i pins s σ H E I hf st hg
    subst hP hw hK
    obtain ⟨f0, f1, f2, f3, f4, f5⟩ := hf it (by simp)
    refine wpAny_pyNext_wide_item st (cps_at hg) fun h' st' sb => ?_
    have I1 : Inv X pins σ H { s with heap := h', toks := s.toks + 1 } := I.turned (t' := s.toks + 1) (fun b o hb e => (sb.2 b hb).trans e) f0 f1 f3 f4 f5
    obtain ⟨o, e, c, d⟩ := id st'
    exact ⟨_, rfl, go_of (s := { s with heap := h', toks := s.toks + 1 }) e c d (by decide) ⟨.str (T [(L z).getD i 0]), H, I1, ⟨_, rfl⟩, ⟨rfl, rfl⟩, st', fun b hb => (hf b hb).1⟩⟩
  done := by
    intro X hP hw hK hc i pins s σ H E I hf st hg
    subst hP hw hK
    obtain ⟨f0, f1, f2, f3, f4, f5⟩ := hf it (by simp)
    exact wpAny_pyNext_wide_end (I.ok.hd hc) st (cps_out hg) fun h' eb => ⟨rfl, I.turned (t' := s.toks) (fun b o hb e => eb b o hb e) f0 f1 f3 f4 f5⟩
  self := fun _ _ _ _ _ st h => wpAny_pyIter_striter_wide st h
end
section
variable {X : Cx} {tg : Expr}
def iStr (tl : TE) : TI := fun σ H R => tl σ H fun x H1 => ∃ z, x = .str z ∧ R (Its z) H1
theorem pi_str {l : Expr} {tl : TE} (hl : PE X l tl) : PI X tg l (iStr tl) := by
  intro pins s σ H R I h
  refine thn (hl pins s σ H _ I h) fun v s1 ⟨x, H1, I1, r1, q1⟩ => ?_
  obtain ⟨z, e, q⟩ := q1
  subst e
  obtain ⟨t, rfl⟩ := r1
  refine wpAny_pyIter_strU ?_
  have fp : ∀ b ∈ [s1.heap.objs.size], FpOk X pins H1 b := fun b hb => by
    have e : b = s1.heap.objs.size := by simpa using hb
    subst e
    exact I1.fpOk (Nat.le_refl _) (I1.hok.fresh (Nat.le_refl _))
  have J : Inv X pins σ H1 { s1 with heap := s1.heap.push { cls := .type (strIterType z), data := .fields #[.str z t, .int 0 0] } } := I1.kept (t' := s1.toks) fun b o e => Heap.get?_push_of_some _ e
  have st : (s1.heap.push { cls := .type (strIterType z), data := .fields #[.str z t, .int 0 0] }).IsStrIter s1.heap.objs.size (strIterType z) z t 0 := ⟨_, Heap.get?_push_size _ rfl, rfl, rfl⟩
  by_cases ha : z.cps.all (· < 128) = true
  · have e : strIterType z = "str_ascii_iterator" := if_pos ha
    rw [e] at J st ⊢
    exact ⟨_, _, _, _, H1, rfl, J, turn_ascii z t _, st, fp, q⟩
  · have e : strIterType z = "str_iterator" := if_neg ha
    rw [e] at J st ⊢
    exact ⟨_, _, _, _, H1, rfl, J, turn_wide z t _, st, fp, q⟩
def forS (z : Str) (g : TG) (tb : TS) : TS := fun D σ H => ∃ Pv : Nat → St → Hp → Prop, Pv 0 σ H ∧ (∀ i σ H, i < (L z).length → Pv i σ H → g (.str (T [(L z).getD i 0])) σ H fun σ2 H2 => tb { nx := Pv (i + 1), rt := D.rt, bk := D.nx, ct := Pv (i + 1) } σ2 H2) ∧ ∀ σ H, Pv (L z).length σ H → D.nx σ H
def tStrF (tl : TE) (g : TG) (tb : TS) : TS := fun D σ H => tl σ H fun v H1 => match v with
  | .str z => forS z g tb D σ H1
  | _ => False
theorem ps_str {l tg : Expr} {body : List Stmt} {tl : TE} {g : TG} {tb : TS} {pos : Pos} (hp : PassesOwn (model X.prog X.w) X.A X.env X.xe) (hc : X.calm = true) (hl : PE X l tl) (hg : PG X tg g) (hb : PSs X body tb)
    (hf : ∀ x, foldedSetIterable l X.env x = pure x := by intro _; rfl) : PS X (.For tg l body [] pos) (tStrF tl g tb) := by
  have hl' : PE X l (fun σ H Q => ∃ Q0 : VK, tl σ H Q0 ∧ ∀ v H', Q0 v H' → Q v H') := hl.imp fun σ H Q h => h
  intro pins s σ H D I h
  refine ps_for hp hc (pi_str hl') hg hb hf pins s σ H D I ⟨_, h, fun v H1 q => ?_⟩
  cases v with
  | str z =>
    obtain ⟨Pv, p0, ps, pe⟩ := q
    refine ⟨z, rfl, fun n m σ H => m = (L z).length - n ∧ n ≤ (L z).length ∧ Pv n σ H, ⟨(L z).length, by simp, Nat.zero_le _, p0⟩, ?_⟩
    rintro n m σ2 H2 ⟨rfl, hn, pv'⟩
    by_cases hlt : n < (L z).length
    · refine .inr ⟨hlt, Pv (n + 1), fun σ' H' p' => ⟨(L z).length - (n + 1), by omega, rfl, hlt, p'⟩, fun y H' ⟨e1, e2⟩ => ?_⟩
      subst e1 e2
      exact ps n σ2 H' hlt pv'
    · have e : n = (L z).length := by omega
      subst e
      exact .inl ⟨Nat.le_refl _, pe _ _ pv'⟩
  | _ => exact False.elim q
end
end L2
set_option maxRecDepth 100000
namespace L2
open PySem PySem.Spec PyProof.Rows
section
variable {κ : Type} [DecidableEq κ]
def valV (kvs : List (κ × V)) (k : κ) : Option V := (kvs.find? fun kv => decide (kv.1 = k)).map (·.2)
def putK (kvs : List (κ × V)) (k : κ) (v : V) : List (κ × V) :=
  if (kvs.any fun kv => decide (kv.1 = k)) = true then kvs.map (fun kv => if kv.1 = k then (kv.1, v) else kv) else kvs ++ [(k, v)]
def dropK (kvs : List (κ × V)) (k : κ) : List (κ × V) := kvs.filter fun kv => decide (kv.1 ≠ k)
theorem RelO.getD {o : Option V} {u : Option Value} {d : V} {d' : Value} (r : RelO o u) (rd : RelV d d') : RelV (o.getD d) (u.getD d') := by
  cases o with
  | none => cases u with
    | none => exact rd
    | some _ => exact (show False from r).elim
  | some _ => cases u with
    | none => exact (show False from r).elim
    | some _ => exact r
theorem KV.any {kvs : List (κ × V)} {vs : List (κ × Value)} (r : KV kvs vs) (k : κ) : (kvs.any fun kv => decide (kv.1 = k)) = vs.any fun kv => decide (kv.1 = k) := by
  unfold KV at r
  induction r with
  | nil => rfl
  | cons h t ih => rw [List.any_cons, List.any_cons, ih, h.1]
theorem KV.repl {kvs : List (κ × V)} {vs : List (κ × Value)} (r : KV kvs vs) (k : κ) {y : V} {u : Value} (ry : RelV y u) :
    KV (kvs.map fun kv => if kv.1 = k then (kv.1, y) else kv) (vs.map fun kv => if kv.1 = k then (kv.1, u) else kv) := by
  unfold KV at r ⊢
  induction r with
  | nil => exact .nil
  | @cons p q ps qs h t ih =>
    rw [List.map_cons, List.map_cons]
    refine .cons ?_ ih
    obtain ⟨h1, h2⟩ := h
    by_cases e : p.1 = k
    · rw [if_pos e, if_pos (h1.symm.trans e)]; exact ⟨h1, ry⟩
    · rw [if_neg e, if_neg (fun z => e (h1.trans z))]; exact ⟨h1, h2⟩
theorem KV.put {kvs : List (κ × V)} {vs : List (κ × Value)} (r : KV kvs vs) (k : κ) {y : V} {u : Value} (ry : RelV y u) : KV (putK kvs k y) (stored vs k u) := by
  unfold putK stored
  rw [r.any k]
  by_cases e : (vs.any fun kv => decide (kv.1 = k)) = true
  · rw [if_pos e, if_pos e]; exact r.repl k ry
  · rw [if_neg e, if_neg e]; exact Paired.snoc r ⟨rfl, ry⟩
theorem KV.drop {kvs : List (κ × V)} {vs : List (κ × Value)} (r : KV kvs vs) (k : κ) : KV (dropK kvs k) (without vs k) := by
  unfold KV at r ⊢
  unfold dropK without
  induction r with
  | nil => exact .nil
  | @cons p q ps qs h t ih =>
    obtain ⟨h1, h2⟩ := h
    rw [List.filter_cons, List.filter_cons]
    by_cases e : p.1 = k
    · have a : ¬ decide (p.1 ≠ k) = true := by simp [e]
      have b : ¬ decide (q.1 ≠ k) = true := by simp [h1.symm.trans e]
      rw [if_neg a, if_neg b]; exact ih
    · have e' : ¬ q.1 = k := fun z => e (h1.trans z)
      have a : decide (p.1 ≠ k) = true := by simp [e]
      have b : decide (q.1 ≠ k) = true := by simp [e']
      rw [if_pos a, if_pos b]; exact .cons ⟨h1, h2⟩ ih
theorem KV.length {kvs : List (κ × V)} {vs : List (κ × Value)} (r : KV kvs vs) : kvs.length = vs.length := Paired.length r
end
abbrev KT (H : Hp) : List (List Key × V) → List (List Key × Addr × Value) → Prop := Paired fun p q => p.1 = q.1 ∧ H q.2.1 = some (.tup (p.1.map kV)) ∧ RelV p.2 q.2.2
theorem KT.keeps {H H' : Hp} {kvs : List (List Key × V)} {xs : List (List Key × Addr × Value)} (r : KT H kvs xs) (ht : ∀ b ys, H b = some (.tup ys) → H' b = some (.tup ys)) : KT H' kvs xs :=
  Paired.mapP r fun _ _ z => ⟨z.1, ht _ _ z.2.1, z.2.2⟩
section
variable {P : Program} {w : World} {H : Hp} {h : Heap} {a : Addr}
end
def DGet (H : Hp) (a : Addr) (y : V) (r : Option V) : Prop :=
  (∃ kvs k, Rd H a (.dK kvs) ∧ y = kV k ∧ r = valV kvs k) ∨ ∃ kvs k b, Rd H a (.dT kvs) ∧ y = .ref b ∧ H b = some (.tup (k.map kV)) ∧ r = valV kvs k
def DPut (H : Hp) (a : Addr) (y v : V) (H' : Hp) : Prop :=
  (∃ kvs k, H a = some (.dK kvs) ∧ y = kV k ∧ kvs.length < sizeLine ∧ H' = upd H a (.dK (putK kvs k v))) ∨
  ∃ kvs k b, H a = some (.dT kvs) ∧ y = .ref b ∧ H b = some (.tup (k.map kV)) ∧ kvs.length < sizeLine ∧ H' = upd H a (.dT (putK kvs k v))
theorem DGet.k {H : Hp} {a : Addr} {kvs : List (Key × V)} {k : Key} (e : H a = some (.dK kvs)) : DGet H a (kV k) (valV kvs k) := .inl ⟨kvs, k, .inl e, rfl, rfl⟩
theorem DGet.t {H : Hp} {a b : Addr} {kvs : List (List Key × V)} {k : List Key} (e : H a = some (.dT kvs)) (eb : H b = some (.tup (k.map kV))) : DGet H a (.ref b) (valV kvs k) := .inr ⟨kvs, k, b, .inl e, rfl, eb, rfl⟩
theorem DPut.k {H : Hp} {a : Addr} {kvs : List (Key × V)} {k : Key} {v : V} (e : H a = some (.dK kvs)) (hl : kvs.length < sizeLine) : DPut H a (kV k) v (upd H a (.dK (putK kvs k v))) := .inl ⟨kvs, k, e, rfl, hl, rfl⟩
theorem DPut.t {H : Hp} {a b : Addr} {kvs : List (List Key × V)} {k : List Key} {v : V} (e : H a = some (.dT kvs)) (eb : H b = some (.tup (k.map kV))) (hl : kvs.length < sizeLine) :
    DPut H a (.ref b) v (upd H a (.dT (putK kvs k v))) := .inr ⟨kvs, k, b, e, rfl, eb, hl, rfl⟩
section
variable {X : Cx} {pins : List (Addr × Obj)} {σ : St} {H : Hp} {s : Shared} {a : Addr} {y v : V} {u r : Value} {o : Option V} {A : Around} {E : Value → Shared → Prop}
end
section
variable {X : Cx} {pins : List (Addr × Obj)} {σ : St} {H : Hp} {s : Shared} {a : Addr} {kvs : List (Key × V)} {k : Key} {u : Value} {A : Around} {E : Value → Shared → Prop}
end
section
variable {X : Cx} {o i e value : Expr} {pos pos' tpos : Pos} {td ty tv : TE}
end
section
variable {X : Cx} {pos : Pos}
end
structure M1 (X : Cx) (o : Expr) (m : Str) (apos : Pos) (e : Expr) (cpos : Pos) : Prop where
  base : attributeBase o m X.env (eval o X.env) = eval o X.env
  few : ((backTo cpos (starEach [e] X.env)).all (fun x => !x.1) && (backToKw cpos (keywordEach [] X.env)).all (fun x => x.1.isSome)
    && decide (([e] : List Expr).length + ([] : List Keyword).length + (if ([] : List Keyword).isEmpty then 0 else 1) < 30)) = true
  line : (apos.endLine == cpos.line) = true
  trees : backTo cpos (starEach [e] X.env) = [(false, eval e X.env)]
structure M2 (X : Cx) (o : Expr) (m : Str) (apos : Pos) (e f : Expr) (cpos : Pos) : Prop where
  base : attributeBase o m X.env (eval o X.env) = eval o X.env
  few : ((backTo cpos (starEach [e, f] X.env)).all (fun x => !x.1) && (backToKw cpos (keywordEach [] X.env)).all (fun x => x.1.isSome)
    && decide (([e, f] : List Expr).length + ([] : List Keyword).length + (if ([] : List Keyword).isEmpty then 0 else 1) < 30)) = true
  line : (apos.endLine == cpos.line) = true
  trees : backTo cpos (starEach [e, f] X.env) = [(false, eval e X.env), (false, eval f X.env)]
section
variable {X : Cx} {pins : List (Addr × Obj)} {σ : St} {H : Hp} {s : Shared} {a : Addr} {y d : V} {u r : Value} {o : Option V} {A : Around} {E : Value → Shared → Prop}
end
section
variable {X : Cx} {o e f : Expr} {apos cpos : Pos} {td ty tx : TE}
end
section
variable {X : Cx} {pins : List (Addr × Obj)} {σ : St} {H : Hp} {s : Shared} {a : Addr} {kvs : List (Key × V)} {A : Around} {E : Value → Shared → Prop}
end
section
variable {X : Cx} {pins : List (Addr × Obj)} {σ : St} {H : Hp} {s : Shared} {a : Addr} {y : V} {u : Value} {A : Around} {E : Value → Shared → Prop}
end
end L2
namespace L2
open PySem PySem.Spec PyProof.Rows
section
variable {κ : Type} [DecidableEq κ]
end
end L2
set_option maxRecDepth 100000
namespace LP
open PySem L2
theorem cut_from {α : Type} (l : List α) (i : Nat) : cut l (some (i : Int)) none = l.drop i := by
  unfold cut
  show (l.drop (if (i : Int) < 0 then ((i : Int) + (l.length : Int)).toNat else min (i : Int).toNat l.length)).take (l.length - (if (i : Int) < 0 then ((i : Int) + (l.length : Int)).toNat else min (i : Int).toNat l.length)) = l.drop i
  rw [if_neg (by omega), Int.toNat_natCast]
  by_cases h : i ≤ l.length
  · rw [Nat.min_eq_left h, List.take_of_length_le (by rw [List.length_drop]; omega)]
  · rw [Nat.min_eq_right (by omega), List.drop_eq_nil_of_le (Nat.le_refl _), List.drop_eq_nil_of_le (by omega)]
    simp
theorem drop_inj {α : Type} {l : List α} {i j : Nat} (hi : i ≤ l.length) (hj : j ≤ l.length) (h : l.drop i = l.drop j) : i = j := by
  have := congrArg List.length h
  rw [List.length_drop, List.length_drop] at this
  omega
end LP
set_option maxRecDepth 100000
namespace L2
open PySem PySem.Spec PyProof.Rows
structure Md (P : Program) (w : World) (K : PySem.W.Frag) (mg : Str → Option Value) (base : Heap) (CX : CXT) (k : Nat) (C : Addr) (m : Str) (ps : List Str) (dvs : List V) (sp : Sp) : Prop where
  ex : ∃ f fd ds, FnOk P w K mg base CX k f fd ps sp ∧ Meth K C m f ∧ Binds K fd ps ds ∧ Vals dvs ds
  cls : Cls K C
structure Mkr (P : Program) (w : World) (K : PySem.W.Frag) (mg : Str → Option Value) (base : Heap) (CX : CXT) (k : Nat) (x : Str) (C : Addr) (ps : List Str) (dvs : List V) (sp : Sp) : Prop where
  ex : ∃ f fd ds, FnOk P w K mg base CX k f fd ps sp ∧ Mk K C f ∧ Binds K fd ps ds ∧ Vals dvs ds
  at_ : mg x = some (.ref C)
section
variable {P : Program} {w : World} {K : PySem.W.Frag} {mg : Str → Option Value} {base : Heap} {CX : CXT} {j k : Nat} {C : Addr} {x m : Str} {ps : List Str} {dvs : List V} {sp : Sp}
theorem Md.mono (M : Md P w K mg base CX j C m ps dvs sp) (h : j ≤ k) : Md P w K mg base CX k C m ps dvs sp := by
  obtain ⟨f, fd, ds, F, r⟩ := M.ex
  exact ⟨⟨f, fd, ds, F.mono h, r⟩, M.cls⟩
theorem Mkr.mono (M : Mkr P w K mg base CX j x C ps dvs sp) (h : j ≤ k) : Mkr P w K mg base CX k x C ps dvs sp := by
  obtain ⟨f, fd, ds, F, r⟩ := M.ex
  exact ⟨⟨f, fd, ds, F.mono h, r⟩, M.at_⟩
theorem quietX {f : Addr} {fd : FuncData} (F : FnOk P w K mg base (CX1 P w) k f fd ps sp) : FnOk P w K mg base CX0 k f fd ps (fun vs H Q _ => sp vs H Q E0) := by
  refine ⟨fun vs H Q E h => F.len vs H Q E0 h, fun A outer s H args us vs Q E hr e0 hb rv h => ?_⟩
  refine codeAny_mono (F.run A outer s H args us vs Q E0 hr e0 hb rv h) fun r s' q => ?_
  cases r with
  | error e => exact (cx1_none q).elim
  | ok fl => cases fl <;> exact q
theorem Md.quiet (M : Md P w K mg base (CX1 P w) k C m ps dvs sp) : Md P w K mg base CX0 k C m ps dvs (fun vs H Q _ => sp vs H Q E0) := by
  obtain ⟨f, fd, ds, F, r⟩ := M.ex
  exact ⟨⟨f, fd, ds, quietX F, r⟩, M.cls⟩
theorem Mkr.quiet (M : Mkr P w K mg base (CX1 P w) k x C ps dvs sp) : Mkr P w K mg base CX0 k x C ps dvs (fun vs H Q _ => sp vs H Q E0) := by
  obtain ⟨f, fd, ds, F, r⟩ := M.ex
  exact ⟨⟨f, fd, ds, quietX F, r⟩, M.at_⟩
end
section
variable {X : Cx} {k : Nat} {C : Addr} {x m : Str} {ps : List Str} {dvs : List V} {sp : Sp} {o e : Expr} {es : List Expr} {ta : TE} {t : TA} {p pos apos : Pos}
variable {F : St → XK}
theorem Tk.at {σ : St} (T : Tk X F) : ∀ (pins : List (Addr × Obj)) (H : Hp) (s : Shared) (e : Value) (s' : Shared), Inv X pins σ H s → CX1 X.prog X.w X.stack H s (F σ) e s' → X.xe e s' := fun pins H s e s' I h => T.pass pins σ H s e s' I h
end
end L2
set_option maxRecDepth 100000
namespace L2
open PySem PySem.Spec PyProof.Rows
structure RoomW (k : Nat) (A : Around) : Prop where
  dp : A.depth + 3 * k + 5 < recursionLimit
  un : A.units + 16 * k + 200 < cLine
theorem RoomW.mono {j k : Nat} {A : Around} (r : RoomW k A) (h : j ≤ k) : RoomW j A := ⟨by have := r.dp; omega, by have := r.un; omega⟩
theorem RoomW.deeper {k : Nat} {A : Around} (r : RoomW (k + 1) A) (env : Env) : RoomW k (A.deeper env) :=
  ⟨by have := r.dp; show A.depth + 1 + 3 * k + 5 < _; omega, by have := r.un; show A.units + 3 + 16 * k + 200 < _; omega⟩
theorem RoomW.mark {k : Nat} {A : Around} (r : RoomW k A) (v : Option Value) : RoomW k (A.mark v) := ⟨r.dp, r.un⟩
structure FnW (P : Program) (w : World) (K : PySem.W.Frag) (mg : Str → Option Value) (base : Heap) (k : Nat) (f : Addr) (fd : FuncData) (ps : List Str) (sp : Sp) : Prop where
  len : ∀ vs H Q E, sp vs H Q E → vs.length = ps.length
  run : ∀ (A : Around) (outer : List Env) (s : Shared) (H : Hp) (args : Args) (us : List Value) (vs : List V) (Q : VK), RoomW k A → Env0 P w K mg base A outer s H → BindsTo s fd args (ps.zip us) → Vals vs us → sp vs H Q E0 →
    codeAny (model P w) A (.call (.ref f) args) (CR CX0 outer P w H s Q E0) s
section
variable {P : Program} {w : World} {K : PySem.W.Frag} {mg : Str → Option Value} {base : Heap}
end
structure FnV (P : Program) (w : World) (K : PySem.W.Frag) (mg : Str → Option Value) (base : Heap) (k : Nat) (x : Str) (ps : List Str) (sp : Sp) : Prop where
  ex : ∃ f fd, FnW P w K mg base k f fd ps sp ∧ mg x = some (.ref f) ∧ PySem.W.keepIn K (.ref f) = true ∧ Binds K fd ps []
section
variable {X : Cx} {k : Nat} {x : Str} {ps : List Str} {sp : Sp} {p pos : Pos} {e : Expr} {es : List Expr} {t : TA}
end
end L2
set_option maxRecDepth 100000
namespace L2
open PySem PySem.Spec PyProof.Rows
def tCutS (t : TS) : TS := fun D σ H => ∃ N : St → Hp → Prop, t { nx := N, rt := D.rt, bk := D.bk, ct := D.ct } σ H ∧ ∀ σ' H', N σ' H' → D.nx σ' H'
theorem cutS {t : TS} {D : Ends} {σ : St} {H : Hp} (N : St → Hp → Prop) (h1 : t { nx := N, rt := D.rt, bk := D.bk, ct := D.ct } σ H) (h2 : ∀ σ' H', N σ' H' → D.nx σ' H') : tCutS t D σ H := ⟨N, h1, h2⟩
theorem ps_cut {X : Cx} {st : Stmt} {t : TS} (h : PS X st t) : PS X st (tCutS t) := by
  rintro pins s σ H D I ⟨N, q, hn⟩
  refine thn (h pins s σ H _ I q) fun f s1 z => ?_
  cases f with
  | next => obtain ⟨σ1, H1, I1, q⟩ := z; exact ⟨σ1, H1, I1, hn _ _ q⟩
  | brk => exact z
  | cont => exact z
  | ret u => exact z
end L2
namespace LP
end LP
namespace LP
open PySem L2
theorem cut_mid {α : Type} (l : List α) (i m : Nat) : cut l (some (i : Int)) (some ((i : Int) + (m : Int))) = (l.drop i).take m := by
  unfold cut
  show (l.drop (if (i : Int) < 0 then ((i : Int) + (l.length : Int)).toNat else min (i : Int).toNat l.length)).take ((if (i : Int) + (m : Int) < 0 then ((i : Int) + (m : Int) + (l.length : Int)).toNat else min ((i : Int) + (m : Int)).toNat l.length) - (if (i : Int) < 0 then ((i : Int) + (l.length : Int)).toNat else min (i : Int).toNat l.length)) = (l.drop i).take m
  rw [if_neg (by omega), if_neg (by omega), Int.toNat_natCast, show ((i : Int) + (m : Int)).toNat = i + m by omega]
  by_cases h : i ≤ l.length
  · rw [Nat.min_eq_left h]
    by_cases h2 : i + m ≤ l.length
    · rw [Nat.min_eq_left h2, Nat.add_sub_cancel_left]
    · rw [Nat.min_eq_right (by omega), List.take_of_length_le (by rw [List.length_drop]; omega), List.take_of_length_le (by rw [List.length_drop]; omega)]
  · have e1 : min i l.length = l.length := by omega
    rw [e1, List.drop_eq_nil_of_le (Nat.le_refl _), List.drop_eq_nil_of_le (by omega)]
    simp
end LP
set_option maxRecDepth 100000
namespace L2
open PySem PySem.Spec PyProof.Rows
section
variable {X : Cx}
theorem ps_comp {elt iter target : Expr} {i₀ : Nat} {y₀ : Str} {p₀ p₁ : Pos} {ifs : List Expr} {scope : Scope} {pos : Pos} {cl : List (Str × Addr)} {own : List Str} {cp : List (Str × Nat)} {wi : TI} {g : TG} {tc : TT} {te : TE}
    (hc : X.calm = true) (hcl : closL scope.names X.env.cells [] = some cl) (hk : scope.kind = .function) (hnc : ∀ y ∈ scope.names, y.2 ≠ .cell)
    (hnm : ∀ x ∈ scope.names, x.2 = .local → scope.names.lookup x.1 = some .local) (hcp : CapOk X scope cp) (hi : PI X target iter wi) (gk : GKeep own.length g)
    (hg : ∀ fp C s H, PG (cxC X scope cl (own ++ cp.map (·.1)) fp C s H) target g) (ht : ∀ fp C s H, PFs (cxC X scope cl (own ++ cp.map (·.1)) fp C s H) ifs tc) (he : ∀ fp C s H, PE (cxC X scope cl (own ++ cp.map (·.1)) fp C s H) elt te)
    (hN : X.N.Nodup) (hi₀ : X.N[i₀]? = some y₀) (hx₀ : X.env.scope.names.lookup y₀ = some .local) (hsw : swapsWith (.ListComp elt [⟨target, iter, ifs, 0⟩] scope pos) (some (.Name y₀ p₀)) p₁.line X.env = pure true)
    (hs : ∀ x, foldedSetIterable iter X.env x = pure x := by intro _; rfl) : PS X (.Assign [.Name y₀ p₀] (.ListComp elt [⟨target, iter, ifs, 0⟩] scope pos) p₁) (tAsg (tComp own.length cp wi g tc te) (gName i₀)) := by
  intro pins s σ H D I h
  rw [exec_Assign_Name_used _ _ _ _ hsw]
  refine wpAny_bind (wpAny_standAt (wpAny_bind ?_))
  show wpAny _ _ (comprehension (.ListComp elt [⟨target, iter, ifs, 0⟩] scope pos) scope X.env (firstIterPos [⟨target, iter, ifs, 0⟩] pos) (newList []) false (eval iter X.env) (some (assign (.Name y₀ p₀) X.env)) >>= fun _ => pure ()) _ _ s
  refine wpAny_bind ?_
  refine wpAny_comprehension_free (use := some (assign (.Name y₀ p₀) X.env)) rfl hs (closureFor_L hcl) hk hnm (thn (hi pins s σ H _ I h) fun xv s1 h1 => thn h1 fun itv s2 h2 => ?_)
  obtain ⟨it, fp, tn, J, H2, e, I2, Tn, st2, f2, W, ⟨m0, w0⟩, turn⟩ := h2
  subst e
  have hlt : ∀ b ∈ fp, b < s2.heap.objs.size := fun b hb => by
    obtain ⟨o, e, _⟩ := Tn.obj _ _ st2 b hb
    exact Heap.lt_size e
  refine wpAny_newObj_type (wpAny_newFunctionEnv hnc (by intro y hy; simp at hy) (fun h1 hns hsb => ?_) hk)
  dsimp only at hns hsb ⊢
  generalize hP : s2.heap.push { cls := .type "list", dict := none, data := .seq ([] : List Value).toArray } = h0 at hns hsb ⊢
  have hCs : h0.objs.size = s2.heap.objs.size + 1 := by rw [← hP, Heap.size_push]
  generalize hCg : h0.objs.size = C at hns hsb hCs ⊢
  have hC : s2.heap.objs.size < C := by omega
  have neC : ∀ b : Addr, b < s2.heap.objs.size → b ≠ C := fun b h => Nat.ne_of_lt (Nat.lt_trans h hC)
  have old : ∀ b o, s2.heap.get? b = some o → h1.get? b = some o := fun b o e =>
    (hsb.2 b (neC b (Heap.lt_size e))).trans (by rw [Heap.get?_push_of_some _ (by rw [← hP]; exact Heap.get?_push_of_some _ e)])
  have hD : h1.get? s2.heap.objs.size = some (lobj [] 0) :=
    (hsb.2 _ (Nat.ne_of_lt hC)).trans (by rw [Heap.get?_push_of_some _ (by rw [← hP]; exact Heap.get?_push_size _ rfl)])
  have fpok : ∀ {its : List Value} {k : Nat} {H' : Hp}, (∀ b ∈ fp, H' b = none) → ∀ b ∈ fp, FpOk (cxC X scope cl (own ++ cp.map (·.1)) fp C s2 H2) [(s2.heap.objs.size, lobj its k)] H' b := fun {its k H'} fr b hb => by
    refine ⟨fr b hb, neC b (hlt b hb), fun hf => ?_, .inl hb, fun x c e => ?_, fun p hp => ?_⟩
    · have hf : b ∈ frs X.stack := hf
      rcases List.mem_cons.mp (I2.stkSub b hf) with z | z
      · exact (f2 b hb).2.1 z
      · exact (f2 b hb).2.2.1 z
    · exact (f2 b hb).2.2.2.2.1 x c ((closL_in scope.names [] hcl (fun x c h => by simp at h)).1 x c e)
    · have hp : p ∈ [(s2.heap.objs.size, lobj its k)] := hp
      cases List.mem_singleton.mp hp
      exact Nat.ne_of_gt (hlt b hb)
  have loop : ∀ s4 : Shared, s4 = { s2 with heap := h1, toks := s2.toks + ([] : List (Str × Value)).length } →
      codeAny (model X.prog X.w) X.A (.compLoop (.ListComp elt [⟨target, iter, ifs, 0⟩] scope pos) 0 (.ref it) (.ref s2.heap.objs.size) (compEnvC scope cl C X.env))
        (compPost (model X.prog X.w) X.A X.xe (some (assign (.Name y₀ p₀) X.env)) (fun _ s' => wpAny (model X.prog X.w) X.A (pure ()) (fun _ s'' => wpAny (model X.prog X.w) X.A (pure Flow.next) (SP X pins D) X.xe s'') X.xe s') (.ref s2.heap.objs.size) C) s4 := by
    intro s4 e4
    have I4 : Inv (cxC X scope cl (own ++ cp.map (·.1)) fp C s2 H2) [(s2.heap.objs.size, lobj [] 0)] (capS own.length cp σ) H2 s4 := by
      rw [e4]
      exact comp_start I2 hcl hk hnc hcp f2 hC hlt (by simpa using hns) old hD
    have st4 : tn 0 s4.heap := by
      rw [e4]
      exact Tn.keep _ _ _ st2 fun b _ o e => old b o e
    refine codeAny_loop rfl (fun n s' => ∃ i H' acc its k, Inv (cxC X scope cl (own ++ cp.map (·.1)) fp C s2 H2) [(s2.heap.objs.size, lobj its k)] (capS own.length cp σ) H' s' ∧ Vals acc its ∧ tn i s'.heap ∧ (∀ b ∈ fp, H' b = none) ∧ W i n H' acc)
      (fun n s' hI => ?_) m0 ⟨0, H2, [], [], 0, I4, .nil, st4, fun b hb => (f2 b hb).1, w0⟩
    obtain ⟨i, H', acc, its, k, I', rv, st, fr, w⟩ := hI
    show wpAny _ X.A ((compTurn (.ListComp elt [⟨target, iter, ifs, 0⟩] scope pos) 0 (.ref it) (.ref s2.heap.objs.size) (compEnvC scope cl C X.env)).onRaise (fun x => do noteFrame x (compEnvC scope cl C X.env); theTreesLotGoes x)) _ _ s'
    refine wpAny_noted ?_
    rw [compTurn_list]
    refine wpAny_bind (wpAny_standAt (wpAny_bind ?_))
    obtain ⟨hz, ⟨stop, fin⟩ | ⟨go, step⟩⟩ := turn i n H' acc w
    · refine thnE (Tn.done (cxC X scope cl (own ++ cp.map (·.1)) fp C s2 H2) rfl rfl rfl hc i _ s' _ H' (fun _ _ => False) I' (fpok fr) st stop) fun r s5 ⟨hr, I5⟩ => ?_
      subst hr
      refine wpAny_pure ?_
      obtain ⟨mm, hmm, _⟩ := I5.loc
      have hmm : s5.heap.Ns C mm := hmm
      obtain ⟨hn, I6⟩ := comp_end (h'' := s5.heap) I2 f2 rfl hC I5 rv (Nat.le_of_lt hz) ⟨rfl, fun _ _ => rfl⟩
      obtain ⟨oC, eC, pC, g1, g2, g3⟩ := id hmm
      have hC2 : s2.heap.objs.size ≤ C := Nat.le_of_lt hC
      have fC : FpOk X pins (upd H' s2.heap.objs.size (.lst acc)) C := I2.fpOk hC2 (by rw [upd_ne (Nat.ne_of_gt hC)]; exact I5.free)
      have I7 : Inv X (pins ++ [(C, oC)]) σ (upd H' s2.heap.objs.size (.lst acc)) s5 := I6.pins_of fun p hp => by
        rcases List.mem_append.mp hp with hp | hp
        · exact I6.pin p (List.mem_append_right _ hp)
        · cases List.mem_singleton.mp hp
          exact ⟨g1, fC.1, fC.2.1, fC.2.2.1, fun v z => by rw [g2] at z; cases z⟩
      refine wpAny_assign_Name (store_ok I7 hN hi₀ (.inl hx₀) (show RelV (.ref s2.heap.objs.size) (.ref s2.heap.objs.size) from rfl) (fun s6 I8 => ?_) (.inr hx₀))
      have e6 := (I8.pin (C, oC) (List.mem_append_right _ (List.mem_append_right _ (List.mem_singleton.mpr rfl)))).1
      refine ⟨mm, ⟨oC, eC, pC, e6, g2, g3⟩, fun h'' hs'' => wpAny_pure (wpAny_pure ⟨_, _, I8.unpinned.turned (t' := s6.toks) (it := C) (fun b o hb e => (hs''.2 b hb).trans e) fC.1 fC.2.1 fC.2.2.2.1 fC.2.2.2.2.1 fC.2.2.2.2.2, fin _ hn⟩)⟩
    · refine thnE (Tn.item (cxC X scope cl (own ++ cp.map (·.1)) fp C s2 H2) rfl rfl rfl hc i _ s' _ H' (fun _ _ => False) I' (fpok fr) st go) fun r s5 ⟨u, hr, h5⟩ => ?_
      subst hr
      refine wpAny_bind (thnE h5 fun _ s6 ⟨x, H6, I6, r6, y6, st6, fr6⟩ => ?_)
      have I6' := I6.pinned (fpok fr6) (Tn.obj _ _ st6)
      refine wpAny_bind (thnE (hg fp C s2 H2 _ s6 _ H6 x u _ I6' r6 (gk _ _ _ _ (step x H6 y6))) fun _ s7 ⟨σ7, H7, I7, q7, kp7⟩ => ?_)
      refine wpAny_bind (thnE (ht fp C s2 H2 _ s7 σ7 H7 _ I7 q7) fun b s8 ⟨H8, I8, q8⟩ => ?_)
      have weak : ∀ {H9 : Hp} {s9 : Shared} {ps : List (Addr × Obj)}, Inv (cxC X scope cl (own ++ cp.map (·.1)) fp C s2 H2) ps σ7 H9 s9 → Inv (cxC X scope cl (own ++ cp.map (·.1)) fp C s2 H2) ps (capS own.length cp σ) H9 s9 := fun {H9 s9 ps} I9 =>
        I9.weak (by rw [I9.len]; exact I'.len) fun j v e => by
          by_cases hj : own.length ≤ j
          · rw [kp7 j hj]
            exact e
          · unfold capS at e
            rw [List.getElem?_append_left (by rw [List.length_replicate]; omega), List.getElem?_replicate] at e
            split at e <;> cases e
      have turned : ∀ {H9 : Hp} {s9 : Shared}, Inv (cxC X scope cl (own ++ cp.map (·.1)) fp C s2 H2) ([(s2.heap.objs.size, lobj its k)] ++ pinsAt fp s6.heap) σ7 H9 s9 → (∀ b ∈ fp, H9 b = none) ∧ ∀ b ∈ fp, ∀ o, s6.heap.get? b = some o → s9.heap.get? b = some o := fun {H9 s9} I9 => by
        refine ⟨fun b hb => ?_, fun b hb o e => ?_⟩
        · obtain ⟨o, e, _⟩ := Tn.obj _ _ st6 b hb
          exact (I9.pin (b, o) (List.mem_append_right _ (List.mem_append_right _ (mem_pinsAt hb e)))).2.1
        · exact (I9.pin (b, o) (List.mem_append_right _ (List.mem_append_right _ (mem_pinsAt hb e)))).1
      cases b with
      | false =>
        obtain ⟨m', hm', w8⟩ := q8
        refine wpAny_pure ⟨rfl, m', hm', i + 1, H8, acc, its, k, weak I8.unpinned, rv, Tn.keep _ _ _ st6 (turned I8).2, (turned I8).1, w8⟩
      | true =>
        refine wpAny_bind (wpAny_bind (thnE (he fp C s2 H2 _ s8 σ7 H8 _ I8 q8) fun uy s9 ⟨y, H9, I9, r9, m', hm', w9⟩ => ?_))
        have pD := I9.pin (s2.heap.objs.size, lobj its k) (List.mem_append_right _ (List.mem_append_left _ (List.mem_singleton.mpr rfl)))
        have lenI := rv.length
        refine wpAny_bind (wpAny_list_append_plain (items := its.toArray) ⟨k, pD.1⟩ (fun h10 pl sb => ?_) (by rw [List.size_toArray]; omega))
        obtain ⟨k', hk'⟩ := pl
        have I10 : Inv (cxC X scope cl (own ++ cp.map (·.1)) fp C s2 H2) (pinsAt fp s6.heap) σ7 H9 { s9 with heap := h10 } := by
          have I9' : Inv (cxC X scope cl (own ++ cp.map (·.1)) fp C s2 H2) (pinsAt fp s6.heap) σ7 H9 s9 := I9.pins_of fun p hp => I9.pin p (List.mem_append_right _ (List.mem_append_right _ hp))
          refine I9'.turned (t' := s9.toks) (it := s2.heap.objs.size) (fun b o hb e => (sb.2 b hb).trans e) pD.2.1 pD.2.2.1 (.inr (Nat.le_refl _)) (fun x c e z => ?_) fun p hp z => ?_
          · obtain ⟨v, o, ho, hd⟩ := I9.cell x c e
            rw [z, pD.1] at ho
            cases ho
            cases hd
          · have hp : p ∈ pinsAt fp s6.heap := hp
            exact Nat.ne_of_lt (hlt p.1 (of_pinsAt hp).1) z
        have kk : ∀ b ∈ fp, ∀ o, s6.heap.get? b = some o → h10.get? b = some o := fun b hb o e => (sb.2 b (Nat.ne_of_lt (hlt b hb))).trans ((turned I9).2 b hb o e)
        have I11 : Inv (cxC X scope cl (own ++ cp.map (·.1)) fp C s2 H2) [(s2.heap.objs.size, lobj (its ++ [uy]) k')] σ7 H9 { s9 with heap := h10 } := I10.pins_of fun p hp => by
          cases List.mem_singleton.mp hp
          refine ⟨?_, pD.2.1, pD.2.2.1, pD.2.2.2.1, fun v z => by cases z⟩
          rw [hk']
          simp
        exact wpAny_pure (wpAny_pure ⟨rfl, m', hm', i + 1, H9, acc ++ [y], its ++ [uy], k', weak I11, rv.append (.cons r9 .nil), Tn.keep _ _ _ st6 kk, (turned I9).1, w9⟩)
  exact codeAny_compStart_list (loop _ rfl) (Tn.self _ 0 _ _ _ (Tn.keep _ _ _ st2 fun b _ o e => old b o e) (loop _ rfl))
end
end L2
set_option maxRecDepth 100000
namespace LO
end LO
set_option maxRecDepth 100000
namespace L2
open PySem PySem.Spec PyProof.Rows
inductive EqT (K : PySem.W.Frag) (H : Hp) : Nat → V → V → Prop
  | flat {n : Nat} {x y : V} (hx : flatV x = true) (hy : flatV y = true) (h : eqV x y = true) : EqT K H n x y
  | same {n : Nat} (a : Addr) : EqT K H n (.ref a) (.ref a)
  | tup {n : Nat} {a b : Addr} {xs ys : List V} (ha : SqT K H a xs) (hb : SqT K H b ys) (hl : xs.length = ys.length) (h : ∀ (j : Nat) (x y : V), xs[j]? = some x → ys[j]? = some y → EqT K H n x y) : EqT K H (n + 1) (.ref a) (.ref b)
  | lst {n : Nat} {a b : Addr} {xs ys : List V} (ha : SqL K H a xs) (hb : SqL K H b ys) (hl : xs.length = ys.length) (h : ∀ (j : Nat) (x y : V), xs[j]? = some x → ys[j]? = some y → EqT K H n x y) : EqT K H (n + 1) (.ref a) (.ref b)
section
variable {X : Cx} {pins : List (Addr × Obj)} {σ : St} {H : Hp} {s : Shared}
theorem vals_pair {xs ys : List V} {us vs : List Value} (r1 : Vals xs us) (r2 : Vals ys vs) (j : Nat) (h1 : j < us.length) (h2 : j < vs.length) : ∃ x y, xs[j]? = some x ∧ ys[j]? = some y ∧ RelV x us[j] ∧ RelV y vs[j] := by
  have l1 := r1.length
  have l2 := r2.length
  have e1 : xs[j]? = some xs[j] := by simp [l1, h1]
  have e2 : ys[j]? = some ys[j] := by simp [l2, h2]
  obtain ⟨u, hu, ru⟩ := r1.get e1
  obtain ⟨v, hv, rv⟩ := r2.get e2
  rw [List.getElem?_eq_getElem h1] at hu
  rw [List.getElem?_eq_getElem h2] at hv
  have hu := Option.some.inj hu
  have hv := Option.some.inj hv
  subst hu hv
  exact ⟨_, _, e1, e2, ru, rv⟩
theorem all_true (n : Nat) : (List.range n).all (fun _ => true) = true := by
  rw [List.all_eq_true]
  intro _ _
  rfl
theorem EqT.at (I : Inv X pins σ H s) {n : Nat} {x y : V} (h : EqT X.K H n x y) : ∀ {A : Around} {u v : Value}, RelV x u → RelV y v → A.units + n < cLine → SeqAt.EqAt A s u v true := by
  induction h with
  | flat hx hy h =>
    intro A u v ru rv _
    have := eqAt_V (A := A) (s := s) ru rv hx hy
    rwa [h] at this
  | same a =>
    intro A u v ru rv _
    obtain rfl : u = Value.ref a := ru
    obtain rfl : v = Value.ref a := rv
    exact SeqAt.EqAt.same _
  | @tup n a b xs ys ha hb hl h ih =>
    intro A u v ru rv hu
    obtain rfl : u = Value.ref a := ru
    obtain rfl : v = Value.ref b := rv
    by_cases hab : a = b
    · subst hab
      exact SeqAt.EqAt.same _
    obtain ⟨its, r1, p1, z1⟩ := I.tuple ha
    obtain ⟨ist, r2, p2, z2⟩ := I.tuple hb
    have l1 := r1.length
    have l2 := r2.length
    have := SeqAt.RcAt.tuples (A := A) (e := fun _ => true) p1 p2 (by omega) fun j h1 h2 => by
      obtain ⟨x, y, e1, e2, rx, ry⟩ := vals_pair r1 r2 j (by simpa using h1) (by simpa using h2)
      exact ih j x y e1 e2 rx ry (by rw [Around.in1_units]; omega)
    rw [all_true, show (its.toArray.size == ist.toArray.size) = true by simp; omega] at this
    exact SeqAt.EqAt.of_refs hab this
  | @lst n a b xs ys ha hb hl h ih =>
    intro A u v ru rv hu
    obtain rfl : u = Value.ref a := ru
    obtain rfl : v = Value.ref b := rv
    by_cases hab : a = b
    · subst hab
      exact SeqAt.EqAt.same _
    obtain ⟨its, r1, p1, z1⟩ := I.list ha
    obtain ⟨ist, r2, p2, z2⟩ := I.list hb
    have l1 := r1.length
    have l2 := r2.length
    have := SeqAt.RcAt.lists (A := A) (e := fun _ => true) p1.isList p2.isList (by simp; omega) (by omega) fun j h1 h2 => by
      obtain ⟨x, y, e1, e2, rx, ry⟩ := vals_pair r1 r2 j (by simpa using h1) (by simpa using h2)
      exact ih j x y e1 e2 rx ry (by rw [Around.in1_units]; omega)
    rw [all_true] at this
    exact SeqAt.EqAt.of_refs hab this
end
section
variable {X : Cx}
end
end L2
set_option maxRecDepth 100000
namespace LP
open PySem L2
def flat (rs : List (Nat × Nat)) : List Nat := (rs.map fun r => List.replicate r.2 r.1).flatten
structure GoodR (rs : List (Nat × Nat)) : Prop where
  pos : ∀ r ∈ rs, 1 ≤ r.2
  ne : ∀ (j : Nat) (a b : Nat × Nat), rs[j]? = some a → rs[j + 1]? = some b → a.1 ≠ b.1
def RunsAt (H : Hp) (ts : List Addr) (rs : List (Nat × Nat)) : Prop := ts.length = rs.length ∧ ∀ (j : Nat) (r : Nat × Nat), rs[j]? = some r → ∃ t, ts[j]? = some t ∧ H t = some (.tup [.str (T [r.1]), .int r.2])
theorem flat_append (rs : List (Nat × Nat)) (r : Nat × Nat) : flat (rs ++ [r]) = flat rs ++ List.replicate r.2 r.1 := by
  simp [flat]
theorem flat_len_le {rs : List (Nat × Nat)} {r : Nat × Nat} (h : r ∈ rs) : r.2 ≤ (flat rs).length := by
  induction rs with
  | nil => cases h
  | cons a t ih =>
    have e : flat (a :: t) = List.replicate a.2 a.1 ++ flat t := rfl
    rw [e, List.length_append, List.length_replicate]
    rcases List.mem_cons.mp h with rfl | h
    · omega
    · have := ih h
      omega
theorem good_nil : GoodR [] := ⟨fun _ h => (List.not_mem_nil h).elim, fun j a b h _ => by simp at h⟩
theorem good_snoc {rs : List (Nat × Nat)} {r : Nat × Nat} (g : GoodR rs) (h1 : 1 ≤ r.2) (h2 : ∀ a, rs.getLast? = some a → a.1 ≠ r.1) : GoodR (rs ++ [r]) := by
  refine ⟨fun x hx => ?_, fun j a b ha hb => ?_⟩
  · rcases List.mem_append.mp hx with h | h
    · exact g.pos x h
    · rw [List.mem_singleton.mp h]
      exact h1
  · by_cases hj : j + 1 < rs.length
    · rw [List.getElem?_append_left (by omega)] at ha hb
      exact g.ne j a b ha hb
    · have hl := (List.getElem?_eq_some_iff.mp hb).1
      rw [List.length_append, List.length_singleton] at hl
      have e : j + 1 = rs.length := by omega
      rw [List.getElem?_append_right (by omega), e, Nat.sub_self] at hb
      rw [List.getElem?_append_left (by omega)] at ha
      have hb : r = b := by simpa using hb
      subst hb
      refine h2 a ?_
      rw [List.getLast?_eq_getElem?, ← ha]
      congr 1
      omega
theorem runsAt_nil (H : Hp) : RunsAt H [] [] := ⟨rfl, fun j r h => by simp at h⟩
def SameT (H H' : Hp) : Prop := ∀ t xs, H t = some (.tup xs) → H' t = some (.tup xs)
theorem runsAt_same {H H' : Hp} {ts : List Addr} {rs : List (Nat × Nat)} (h : RunsAt H ts rs) (sm : SameT H H') : RunsAt H' ts rs := ⟨h.1, fun j r hr => by
  obtain ⟨t, e1, e2⟩ := h.2 j r hr
  exact ⟨t, e1, sm t _ e2⟩⟩
theorem sameT_of {H H' : Hp} (sm : Same H H') : SameT H H' := fun t xs h => sm t _ h
theorem sameT_lst {H : Hp} {p : Addr} {xs : List V} {o : HO} (hp : H p = some (.lst xs)) : SameT H (upd H p o) := fun t ys h => by
  have : t ≠ p := by rintro rfl; rw [hp] at h; cases h
  rw [upd_ne this]
  exact h
theorem SameT.trans {H1 H2 H3 : Hp} (a : SameT H1 H2) (b : SameT H2 H3) : SameT H1 H3 := fun t xs h => b t xs (a t xs h)
theorem runsAt_snoc {H : Hp} {ts : List Addr} {rs : List (Nat × Nat)} {t : Addr} {r : Nat × Nat} (h : RunsAt H ts rs) (ht : H t = some (.tup [.str (T [r.1]), .int r.2])) : RunsAt H (ts ++ [t]) (rs ++ [r]) := by
  refine ⟨by simp [h.1], fun j x hx => ?_⟩
  by_cases hj : j < rs.length
  · rw [List.getElem?_append_left hj] at hx
    obtain ⟨u, e1, e2⟩ := h.2 j x hx
    exact ⟨u, by rw [List.getElem?_append_left (by rw [h.1]; exact hj)]; exact e1, e2⟩
  · have hl := (List.getElem?_eq_some_iff.mp hx).1
    rw [List.length_append, List.length_singleton] at hl
    have e : j = rs.length := by omega
    subst e
    rw [List.getElem?_append_right (Nat.le_refl _), Nat.sub_self] at hx
    have hx : r = x := by simpa using hx
    subst hx
    exact ⟨t, by rw [← h.1, List.getElem?_append_right (Nat.le_refl _), Nat.sub_self]; rfl, ht⟩
theorem seg_rep {l : List Nat} {a b c : Nat} (hb : b ≤ l.length) (hab : a ≤ b) (h : ∀ j, a ≤ j → j < b → l.getD j 0 = c) : l.take b = l.take a ++ List.replicate (b - a) c := by
  refine List.ext_getElem (by simp; omega) fun j h1 h2 => ?_
  have hj : j < b := by rw [List.length_take] at h1; omega
  rw [List.getElem_take]
  by_cases hja : j < a
  · rw [List.getElem_append_left (by rw [List.length_take]; omega), List.getElem_take]
  · rw [List.getElem_append_right (by rw [List.length_take]; omega), List.getElem_replicate]
    have := h j (by omega) hj
    rwa [List.getD_eq_getElem?_getD, List.getElem?_eq_getElem (by omega)] at this
theorem rep_one (n c : Nat) : rep n [c] = List.replicate n c := by
  induction n with
  | zero => rfl
  | succ n ih =>
    rw [List.replicate_succ, ← ih]
    rfl
end LP
set_option maxRecDepth 100000
namespace L2
open PySem PySem.Spec PyProof.Rows
section
variable {X : Cx} {es : List Expr} {k : Nat} {tp : Pos}
abbrev g2 (K : PySem.W.Frag) (i j : Nat) : TG := gTup K 2 (gCons (gName i) (gCons (gName j) gNil))
theorem gk_2 {K : PySem.W.Frag} {n i j : Nat} (hi : i < n) (hj : j < n) : GKeep n (g2 K i j) := by
  intro x σ H Q q
  obtain ⟨a, xs, e1, e2, e3, v, vr, e4, v', vr', e5, e6, q⟩ := q
  refine ⟨a, xs, e1, e2, e3, v, vr, e4, v', vr', e5, e6, q, fun k hk => ?_⟩
  rw [List.getElem?_set_ne (by omega), List.getElem?_set_ne (by omega)]
section
variable {elt iter : Expr} {ifs : List Expr} {u v : Str} {pu pv : Pos} {scope : Scope} {pos : Pos} {cl : List (Str × Addr)} {own : List Str} {cp : List (Str × Nat)} {ta : TA} {tl : TE} {tc : TT} {te : TE}
theorem pg_2 {hc : X.calm = true} {N : List Str} (gu : ∀ fp C s H, PG (cxC X scope cl N fp C s H) (.Name u pu) (gName 0)) (gv : ∀ fp C s H, PG (cxC X scope cl N fp C s H) (.Name v pv) (gName 1))
    (h1 : ∀ C, (assignEach [.Name u pu, .Name v pv] (compEnvC scope cl C X.env)).map (·.2) = assign (.Name u pu) (compEnvC scope cl C X.env) :: (assignEach [.Name v pv] (compEnvC scope cl C X.env)).map (·.2)) (h2 : ∀ C, (assignEach [.Name v pv] (compEnvC scope cl C X.env)).map (·.2) = assign (.Name v pv) (compEnvC scope cl C X.env) :: (assignEach [] (compEnvC scope cl C X.env)).map (·.2))
    (h3 : ∀ C, (assignEach [.Name u pu, .Name v pv] (compEnvC scope cl C X.env)).length = 2) (h4 : ∀ C, (assignEach [.Name u pu, .Name v pv] (compEnvC scope cl C X.env)).findIdx? (·.1) = none) (fp : List Addr) (C : Addr) (s : Shared) (H : Hp) : PG (cxC X scope cl N fp C s H) (.Tuple [.Name u pu, .Name v pv] k tp) (g2 X.K 0 1) :=
  pg_tup (X := cxC X scope cl N fp C s H) hc (pgs_cons (gu fp C s H) (pgs_cons (gv fp C s H) pgs_nil (h2 C)) (h1 C)) (h3 C) (h4 C)
def tCP (K : PySem.W.Frag) (n : Nat) (cp : List (Str × Nat)) (tl : TE) (tc : TT) (te : TE) : TE := fun σ H Q => tl σ H fun v H1 => match v with
  | .ref a => ∃ xs, SqL K H1 a xs ∧ xs.length < 16777216 ∧ ∃ Pv : Nat → Hp → List V → Prop, Pv 0 H1 [] ∧ (∀ i H2 acc, i ≤ xs.length → Pv i H2 acc → SqL K H2 a xs) ∧
      (∀ i r H2 acc, xs[i]? = some r → Pv i H2 acc → ∃ t x y, r = .ref t ∧ SqT K H2 t [x, y] ∧ oneC tc te (((capS n cp σ).set 0 (some x)).set 1 (some y)) acc (Pv (i + 1)) H2) ∧ ∀ H2 acc, Pv xs.length H2 acc → ∀ l, H2 l = none → Q (.ref l) (upd H2 l (.lst acc))
  | _ => False
theorem pe_compP {K : PySem.W.Frag} (hK : X.K = K) (hc : X.calm = true) (hcl : closL scope.names X.env.cells [] = some cl) (hk : scope.kind = .function) (hnc : ∀ y ∈ scope.names, y.2 ≠ .cell)
    (hnm : ∀ x ∈ scope.names, x.2 = .local → scope.names.lookup x.1 = some .local) (hcp : CapOk X scope cp) (hl : PE X iter tl) (hn : 1 < own.length)
    (gu : ∀ fp C s H, PG (cxC X scope cl (own ++ cp.map (·.1)) fp C s H) (.Name u pu) (gName 0)) (gv : ∀ fp C s H, PG (cxC X scope cl (own ++ cp.map (·.1)) fp C s H) (.Name v pv) (gName 1))
    (ht : ∀ fp C s H, PFs (cxC X scope cl (own ++ cp.map (·.1)) fp C s H) ifs tc) (he : ∀ fp C s H, PE (cxC X scope cl (own ++ cp.map (·.1)) fp C s H) elt te)
    (hs : ∀ z, foldedSetIterable iter X.env z = pure z := by intro _; rfl)
    (h1 : ∀ C, (assignEach [.Name u pu, .Name v pv] (compEnvC scope cl C X.env)).map (·.2) = assign (.Name u pu) (compEnvC scope cl C X.env) :: (assignEach [.Name v pv] (compEnvC scope cl C X.env)).map (·.2) := by intro _; rfl) (h2 : ∀ C, (assignEach [.Name v pv] (compEnvC scope cl C X.env)).map (·.2) = assign (.Name v pv) (compEnvC scope cl C X.env) :: (assignEach [] (compEnvC scope cl C X.env)).map (·.2) := by intro _; rfl)
    (h3 : ∀ C, (assignEach [.Name u pu, .Name v pv] (compEnvC scope cl C X.env)).length = 2 := by intro _; rfl) (h4 : ∀ C, (assignEach [.Name u pu, .Name v pv] (compEnvC scope cl C X.env)).findIdx? (·.1) = none := by intro _; rfl) :
    PE X (.ListComp elt [⟨.Tuple [.Name u pu, .Name v pv] k tp, iter, ifs, 0⟩] scope pos) (tCP K own.length cp tl tc te) := by
  subst hK
  have hl' : PE X iter (fun σ H Q => ∃ Q0 : VK, tl σ H Q0 ∧ ∀ v H', Q0 v H' → Q v H') := hl.imp fun σ H Q h => h
  intro pins s σ H Q I h
  refine pe_comp hc hcl hk hnc hnm hcp (pi_list hl') (gk_2 (i := 0) (j := 1) (by omega) (by omega)) (pg_2 (hc := hc) gu gv h1 h2 h3 h4) (fun fp C s H => (ht fp C s H).imp (t' := cloT tc) fun _ _ _ z => z) (fun fp C s H => (he fp C s H).imp (t' := cloE te) fun _ _ _ z => z) hs pins s σ H Q I ?_
  refine ⟨_, h, fun v H1 q => ?_⟩
  cases v with
  | ref a =>
    obtain ⟨xs, hx, hz, Pv, p0, pl, ps, pe⟩ := q
    have hsl : sizeLine = 16777216 := sizeLine_eq
    refine ⟨a, rfl, ⟨xs, hx⟩, fun i m H2 acc => m = xs.length - i ∧ i ≤ xs.length ∧ acc.length ≤ i ∧ Pv i H2 acc, ⟨xs.length, by omega, Nat.zero_le _, Nat.le_refl _, p0⟩, ?_⟩
    rintro i m H2 acc ⟨rfl, hi, hla, pv'⟩
    refine ⟨by omega, ?_⟩
    have hx2 := pl i H2 acc hi pv'
    by_cases hlt : i < xs.length
    · refine .inr ⟨⟨xs, xs[i], hx2, by simp [hlt]⟩, fun y H3 ⟨e3, ey⟩ => ?_⟩
      subst e3
      obtain ⟨t, x0, y0, e4, e5, q1⟩ := ps i y H3 acc (ey xs hx2) pv'
      subst e4
      refine ⟨t, _, rfl, e5, rfl, _, _, rfl, _, _, rfl, rfl, ?_⟩
      exact oneC_clo (N' := fun H a => ∃ m', m' < xs.length - i ∧ (m' = xs.length - (i + 1) ∧ i + 1 ≤ xs.length ∧ a.length ≤ i + 1 ∧ Pv (i + 1) H a)) (fun H a ha z => ⟨xs.length - (i + 1), by omega, rfl, hlt, by omega, z⟩) q1
    · have e : i = xs.length := by omega
      subst e
      exact .inl ⟨⟨xs, hx2, Nat.le_refl _⟩, fun l hl' => pe H2 acc pv' l hl'⟩
  | _ => exact False.elim q
end
end
end L2
set_option maxRecDepth 100000
namespace L2
open PySem PySem.Spec PyProof.Rows
section
variable {X : Cx}
def sumV (K : PySem.W.Frag) : List V → Hp → VK → Prop := fun vs H Q => match vs with
  | [.ref a] => ∃ ns : List Int, SqL K H a (ns.map V.int) ∧ Q (.int ns.sum) H
  | _ => False
theorem c_sum {K : PySem.W.Frag} (hK : X.K = K) (hc : X.calm = true) : CallR X (.builtin "sum") (sumV K) := by
  subst hK
  intro pins s σ H vs us Q I r h
  unfold sumV at h
  split at h
  · rename_i a
    obtain ⟨ns, hx, q⟩ := h
    obtain ⟨u, rfl, ru⟩ := vals1 r
    cases ru
    obtain ⟨its, r1, p1, z1⟩ := I.list hx
    have hi := ints_are r1
    obtain ⟨xs, e⟩ := hi.allInts.items
    have hl := p1.isList
    have hn := hi.numsOf
    rw [e] at hl
    refine sum_intListG (I.ok.hd hc) hl fun h' tk t' hk => ?_
    have e2 : preSum (numAt xs) xs.size = ns.sum := by
      rw [preSum_eq, List.take_of_length_le (by simp), ← nums_intItems, ← e]
      exact congrArg List.sum hn
    rw [e2]
    exact ⟨.int ns.sum, H, I.kept (t' := tk) hk, ⟨_, rfl⟩, q⟩
  · exact h.elim
end
theorem bt_sum : bootBuiltins "sum" = some (.builtin "sum") := by decide +kernel
end L2
namespace L2
end L2
namespace L2
open PySem
end L2
namespace LO
end LO
set_option maxRecDepth 100000
namespace LO
theorem com_le (a b : List Nat) : LW.com a b ≤ a.length := by
  induction a generalizing b with
  | nil => exact Nat.zero_le _
  | cons x r ih =>
    cases b with
    | nil => exact Nat.zero_le _
    | cons y q =>
      unfold LW.com
      split
      · have := ih q
        simp only [List.length_cons]
        omega
      · exact Nat.zero_le _
end LO
namespace LO
open LW L2
theorem take_com : ∀ (x y : List Nat) (m : Nat), m ≤ com x y → x.take m = y.take m
  | _, _, 0, _ => by simp
  | [], y, m + 1, h => by have : com [] y = 0 := by cases y <;> rfl
                          omega
  | a :: x, [], m + 1, h => by have : com (a :: x) [] = 0 := rfl
                               omega
  | a :: x, b :: y, m + 1, h => by
    unfold com at h
    by_cases hab : a = b
    · rw [if_pos hab] at h
      rw [List.take_succ_cons, List.take_succ_cons, hab, take_com x y m (by omega)]
    · rw [if_neg hab] at h
      omega
def en (t : List Nat) (k : Nat) : List Nat := t.drop ((ord t).getD k 0)
end LO
namespace L2
end L2
set_option maxRecDepth 100000
namespace LO
open LW L2
end LO
set_option maxRecDepth 100000
namespace L2
open PySem
section
variable {X : Cx}
end
end L2
set_option maxRecDepth 100000
namespace L2
open PySem PySem.Spec PyProof.Rows
def TabOk (w : World) (t : SetTable) (n : Nat) : Prop := (w.params.followText "set-order" = false → t.led = true) ∧ (0 < n → t.plain = false)
abbrev sObj (es : Array (Int × Value)) (ep : Nat) (t : SetTable) : Obj := { cls := .type "set", dict := none, data := .set es ep t }
def SetStr (prog : Program) (w : World) (h : Heap) (a : Addr) (S : Str → Bool) (n : Nat) : Prop :=
  ∃ es ep t, h.get? a = some (sObj es ep t) ∧ ElemsOf (PySem.strKind prog w) es.toList ∧ (∀ k, S k = true ↔ ∃ e ∈ es.toList, (PySem.strKind prog w).is k e.2 = true) ∧ es.size < scanBound ∧ t.fits es.size = true ∧ es.size = n ∧ TabOk w t es.size
theorem orStand_led (t : SetTable) (n : Nat) : (t.orStandIn n).led = t.led ∧ (t.plain = false → (t.orStandIn n).plain = false) := by
  unfold SetTable.orStandIn
  split
  · exact ⟨rfl, id⟩
  · exact ⟨rfl, fun _ => rfl⟩
theorem lay_led (t : SetTable) (es : Array (Int × Value)) (h : Int) (x : Value) : (layNew t es h x).2.1.led = t.led ∧ (t.plain = false → (layNew t es h x).2.1.plain = false) := by
  unfold layNew
  split
  · rename_i slot wd _
    have := orStand_led (t.put slot).1 (SetTable.insertAt es (t.put slot).2 (h, x)).size
    exact ⟨this.1.trans rfl, fun z => this.2 z⟩
  · exact ⟨rfl, fun _ => rfl⟩
theorem relaid_led {t t' : SetTable} {hs : Array Int} {n : Nat} {order : Array Nat} (h : t.relaid hs n = some (t', order)) : t'.led = t.led ∧ t'.plain = t.plain := by
  unfold SetTable.relaid SetTable.laid at h
  simp only [Option.bind_eq_bind, Option.bind_eq_some_iff, Option.pure_def, Option.some.injEq, Prod.mk.injEq] at h
  obtain ⟨_, _, e, _⟩ := h
  rw [← e]
  exact ⟨rfl, rfl⟩
theorem relay_led (t : SetTable) (es : Array (Int × Value)) (n : Nat) : (relayAll t es n).2.1.led = t.led ∧ (t.plain = false → (relayAll t es n).2.1.plain = false) := by
  unfold relayAll
  split
  · rename_i t' order e
    have := relaid_led e
    dsimp only
    split
    · exact ⟨this.1, fun z => this.2.trans z⟩
    · exact ⟨rfl, fun _ => rfl⟩
  · exact ⟨rfl, fun _ => rfl⟩
section
variable {prog : Program} {w : World} {A : Around} {E : Value → Shared → Prop} {s : Shared}
theorem store_at {h : Heap} {a : Addr} {es es' : Array (Int × Value)} {ep : Nat} {t t' : SetTable} (ho : h.get? a = some (sObj es ep t)) : (h.update a (Obj.putSet es' t')).get? a = some (sObj es' (ep + 1) t') := by
  have e := putSet_of (o := sObj es ep t) es' t' rfl
  have g := Heap.get?_update_self (Obj.putSet es' t') ho (by rw [e]; rfl)
  rw [e] at g
  exact g
theorem tail_str {g : Bool → Sem Unit} (gok : ∀ (b : Bool) (z : Shared) (R : Unit → Shared → Prop), R () z → wpAny (model prog w) A (g b) R E z) {a : Addr} {es : Array (Int × Value)} {ep : Nat} {t : SetTable} (ho : s.heap.get? a = some (sObj es ep t))
    {fs : Array (Int × Value)} {u : SetTable} {S' : Str → Bool} (el : ElemsOf (PySem.strKind prog w) fs.toList) (mem : ∀ k, S' k = true ↔ ∃ e ∈ fs.toList, (PySem.strKind prog w).is k e.2 = true) (small : fs.size < scanBound) (fit : u.fits fs.size = true) (tab : TabOk w u fs.size)
    {wd : Bool} {R : Option Bool → Shared → Prop} (fin : ∀ h', Heap.SameBut a s.heap h' → SetStr prog w h' a S' fs.size → R (some true) { s with heap := h' }) :
    wpAny (model prog w) A (do
        storeSet a fs u
        if (!wd && u.tooFull) = true then do
            g (relayAll u fs (SetTable.grown fs.size)).2.2
            storeSet a (relayAll u fs (SetTable.grown fs.size)).1 (relayAll u fs (SetTable.grown fs.size)).2.1
            pure (some true)
          else pure (some true)) R E s := by
  refine wpAny_bind (wpAny_storeSet_of ho rfl ?_ (fits_of_scanBound small))
  have o1 := store_at (es' := fs) (t' := u) ho
  have b1 := Heap.SameBut.update s.heap a (Obj.putSet fs u)
  split
  · have pm := relayAll_perm u fs (SetTable.grown fs.size)
    have ft := relayAll_fits u fs (SetTable.grown fs.size)
    have ld := relay_led u fs (SetTable.grown fs.size)
    generalize relayAll u fs (SetTable.grown fs.size) = rl at pm ft ld ⊢
    obtain ⟨gs, v, gv⟩ := rl
    dsimp only at pm ft ld ⊢
    have sz : gs.size = fs.size := by rw [← Array.length_toList, pm.length_eq, Array.length_toList]
    refine wpAny_bind (gok _ _ _ (wpAny_bind (wpAny_storeSet_of o1 rfl ?_ (fits_of_scanBound (by rw [sz]; exact small)))))
    have o2 := store_at (es' := gs) (t' := v) o1
    refine wpAny_pure (fin _ (b1.trans (Heap.SameBut.update _ a _)) ⟨gs, _, v, o2, el.perm pm, fun k => (mem k).trans ⟨fun ⟨e, he, q⟩ => ⟨e, pm.mem_iff.mpr he, q⟩, fun ⟨e, he, q⟩ => ⟨e, pm.mem_iff.mp he, q⟩⟩, by rw [sz]; exact small, ft, sz, ?_⟩)
    rw [sz]
    exact ⟨fun z => ld.1.trans (tab.1 z), fun z => ld.2 (tab.2 z)⟩
  · exact wpAny_pure (fin _ b1 ⟨fs, _, u, o1, el, mem, small, fit, rfl, tab⟩)
theorem add_str {a : Addr} {S : Str → Bool} {n : Nat} {x : Str} {tk : Tok} {Q : Bool → Shared → Prop} (st : SetStr prog w s.heap a S n) (room : n + 1 < scanBound)
    (fin : ∀ h', Heap.SameBut a s.heap h' → SetStr prog w h' a (fun k => S k || decide (k = x)) (if S x then n else n + 1) → Q (!S x) { s with heap := h' }) :
    wpAny (model prog w) A (setAddHashed a (.str x tk) ((PySem.strKind prog w).hash x)) Q E s := by
  obtain ⟨es, ep, t, ho, el, mem, small, fit, rfl, tab⟩ := st
  have key : (PySem.strKind prog w).is x (.str x tk) = true := by
    show Value.isStrOf x (.str x tk) = true
    simp [Value.isStrOf, Value.isStr]
  unfold setAddHashed setAddHashedIn
  refine wpAny_holding (wpAny_bind (wpAny_setState_of ho rfl fit ?_))
  dsimp only
  rw [byScan_of (knd := PySem.strKind prog w) (x := .str x tk) rfl small el]
  simp only [↓reduceIte]
  unfold setAddByScan
  refine wpAny_bind (wpAny_bind (wpAny_rule (wpAny_bind (wpAny_setScan_of (knd := PySem.strKind prog w) key ho rfl fit el ?_))))
  cases found : List.findIdx? (fun e => (PySem.strKind prog w).is x e.2) es.toList with
  | some j =>
    dsimp only
    obtain ⟨hj, at_, _⟩ := List.findIdx?_eq_some_iff_getElem.mp found
    have yes : S x = true := (mem x).mpr ⟨es.toList[j], List.getElem_mem hj, at_⟩
    refine wpAny_pure (wpAny_pure ?_)
    have f := fin s.heap (Heap.SameBut.refl a s.heap) ⟨es, ep, t, ho, el, fun k => ?_, small, fit, by rw [yes]; rfl, tab⟩
    · rw [yes] at f
      exact f
    · rw [Bool.or_eq_true, decide_eq_true_eq, ← mem k]
      exact ⟨fun z => z.elim id fun e => e ▸ yes, .inl⟩
  | none =>
    dsimp only
    have no : S x = false := by
      cases hx : S x with
      | false => rfl
      | true =>
        obtain ⟨e, he, q⟩ := (mem x).mp hx
        have := List.findIdx?_eq_none_iff.mp found e he
        rw [q] at this
        cases this
    have pm := layNew_perm t es ((PySem.strKind prog w).hash x) (.str x tk)
    have ft := layNew_fits t es ((PySem.strKind prog w).hash x) (.str x tk)
    have ld := lay_led t es ((PySem.strKind prog w).hash x) (.str x tk)
    generalize layNew t es ((PySem.strKind prog w).hash x) (.str x tk) = ly at pm ft ld ⊢
    obtain ⟨fs, u, wd, gave⟩ := ly
    dsimp only at pm ft ld ⊢
    rw [Array.toList_push] at pm
    have el' : ElemsOf (PySem.strKind prog w) fs.toList := (el.push key rfl).perm pm
    have mem' := mem_push_iff (knd := PySem.strKind prog w) key mem pm
    have sz : fs.size = es.size + 1 := by rw [← Array.length_toList, pm.length_eq, List.length_append, Array.length_toList]; rfl
    have gok : ∀ (b : Bool) (z : Shared) (R : Unit → Shared → Prop), R () z → wpAny (model prog w) A (match b with | true => rule "set.scan.the-table-gave-way" | false => pure ()) R E z := fun b z R q => by
      cases b
      · exact wpAny_pure q
      · exact wpAny_rule q
    refine wpAny_bind (gok _ _ _ ?_)
    have last : ∀ h', Heap.SameBut a s.heap h' → SetStr prog w h' a (fun k => S k || decide (k = x)) fs.size → Q true { s with heap := h' } := fun h' sb q => by
      have f := fin h' sb
      rw [no, if_neg Bool.false_ne_true] at f
      rw [sz] at q
      exact f q
    split
    · rename_i pl
      refine wpAny_bind ?_
      rw [hashByValue_scannable 8 (x := .str x tk) rfl]
      refine wpAny_pure ?_
      show wpAny _ _ _ _ _ _
      refine tail_str (w := w) (fun b z R q => gok b z R q) ho el' mem' (by omega) (u := { u with plain := false }) (SetTable.fits_plain_off ft) ⟨fun z => ld.1.trans (tab.1 z), fun _ => rfl⟩ fun h' sb q => ?_
      exact wpAny_pure (last h' sb q)
    · rename_i pl
      refine wpAny_bind (wpAny_pure ?_)
      simp only [↓reduceIte]
      refine tail_str (w := w) (fun b z R q => gok b z R q) ho el' mem' (by omega) ft ⟨fun z => ld.1.trans (tab.1 z), fun _ => by simpa using pl⟩ fun h' sb q => ?_
      exact wpAny_pure (last h' sb q)
end
section
variable {prog : Program} {w : World} {A : Around} {E : Value → Shared → Prop} {s : Shared}
end
end L2
set_option maxRecDepth 100000
namespace L2
open PySem PySem.Spec PyProof.Rows
section
variable {prog : Program} {w : World} {A : Around} {E : Value → Shared → Prop} {s : Shared}
end
end L2
set_option maxRecDepth 100000
namespace L2
open PySem PySem.Spec PyProof.Rows
section
variable {X : Cx}
end
end L2
set_option maxRecDepth 100000
namespace L2
open PySem PySem.Spec PyProof.Rows
section
variable {prog : Program} {w : World} {A : Around} {E : Value → Shared → Prop} {s : Shared} {I Fr a : Addr} {i n ep : Nat} {es : Array (Int × Value)} {t : SetTable}
end
end L2
set_option maxRecDepth 100000
namespace L2
open PySem PySem.Spec PyProof.Rows
section
variable {prog : Program} {w : World} {A : Around} {E : Value → Shared → Prop}
end
section
variable {prog : Program} {w : World} {A : Around} {E : Value → Shared → Prop} {s : Shared} {I a : Addr} {i n ep sl : Nat} {es : Array (Int × Value)} {t : SetTable}
end
end L2
set_option maxRecDepth 100000
namespace L2
open PySem PySem.Spec PyProof.Rows
abbrev vals (es : Array (Int × Value)) : List Value := es.toList.map (·.2)
section
variable {prog : Program} {w : World} {A : Around} {I Fr a : Addr} {es : Array (Int × Value)} {t : SetTable} {ep : Nat}
end
section
variable {prog : Program} {w : World} {A : Around} {E : Value → Shared → Prop} {s : Shared} {a : Addr} {es : Array (Int × Value)} {t : SetTable} {ep : Nat}
end
section
variable {prog : Program} {w : World} {A : Around} {E : Value → Shared → Prop} {s : Shared} {a : Addr}
end
section
variable {X : Cx}
end
end L2
set_option maxRecDepth 100000
namespace L2
open PySem PySem.Spec PyProof.Rows
section
variable {X : Cx}
end
end L2
set_option maxRecDepth 100000
namespace L2
open PySem PySem.Spec PyProof.Rows
section
variable {P : Program} {w : World} {K : PySem.W.Frag} {mg : Str → Option Value} {base : Heap}
end
section
variable {X : Cx} {K : PySem.W.Frag} {o e value : Expr} {f : Str} {pos pos' : Pos} {ta tv : TE}
end
section
variable {X : Cx} {x : Str} {pos : Pos}
theorem pe_globI {z : Int} (hg : Gl X x) (hm : ∃ t, X.mg x = some (.int z t)) (hd : (x == ("__debug__" : Str)) = false := by decide) : PE X (.Name x pos) (tC (.int z)) := by
  obtain ⟨t, hm⟩ := hm
  exact pe_glob hg hm ⟨t, rfl⟩ hd
end
end L2
set_option maxRecDepth 100000
namespace L2
open PySem
def colL (cs : List Nat) (h : Nat) : List Nat := cs.take h ++ 10 :: cs.drop h
def fsL (cs : List Nat) (h : Nat) (tot fo : Addr) : List (Str × V) := [("column", .str (T (colL cs h))), ("home", .int h), ("last", .int cs.length), ("totals", .ref tot), ("forths", .ref fo)]
def Tot (H : Hp) (tot : Addr) (cs : List Nat) : Prop := ∃ (ts : List Addr) (ds : List Nat), H tot = some (.lst (ts.map V.ref)) ∧ ts.length = ds.length ∧ (∀ (j d : Nat), ds[j]? = some d → ∃ t, ts[j]? = some t ∧ H t = some (.tup [.str (T [d]), .int (cs.count d : Nat)])) ∧ ds.Nodup ∧ (∀ c, c ∈ ds ↔ c ∈ cs)
def Fo (H : Hp) (fo : Addr) (cs : List Nat) (h : Nat) : Prop := ∃ p : List Nat, H fo = some (.lst (p.map fun i : Nat => V.int i)) ∧ p.Perm (List.range (cs.length + 1)) ∧ p.Pairwise (fun i j => [(colL cs h).getD i 0] ≤ [(colL cs h).getD j 0] ∧ ([(colL cs h).getD i 0] = [(colL cs h).getD j 0] → i < j))
def IsLet (C : Addr) (H : Hp) (a : Addr) (cs : List Nat) (h : Nat) : Prop := ∃ dx tot fo, H a = some (.ins C dx (fsL cs h tot fo)) ∧ (Tot H tot cs ∧ Fo H fo cs h) ∧ h ≤ cs.length
theorem Tot.same {H H' : Hp} {tot : Addr} {cs : List Nat} (x : Tot H tot cs) (sm : ∀ b o, H b = some o → (∀ ps, o ≠ .tbl ps) → H' b = some o) : Tot H' tot cs := by
  obtain ⟨ts, ds, h1, h2, h3, h4⟩ := x
  refine ⟨ts, ds, sm _ _ h1 (by intro ps z; cases z), h2, fun j d e => ?_, h4⟩
  obtain ⟨t, e1, e2⟩ := h3 j d e
  exact ⟨t, e1, sm _ _ e2 (by intro ps z; cases z)⟩
theorem IsLet.same {C : Addr} {H H' : Hp} {a : Addr} {cs : List Nat} {h : Nat} (x : IsLet C H a cs h) (sm : ∀ b o, H b = some o → (∀ ps, o ≠ .tbl ps) → H' b = some o) : IsLet C H' a cs h := by
  obtain ⟨dx, tot, fo, h1, h2, h3⟩ := x
  obtain ⟨p, p1, p2⟩ := h2.2
  exact ⟨dx, tot, fo, sm _ _ h1 (by intro ps z; cases z), ⟨h2.1.same sm, p, sm _ _ p1 (by intro ps z; cases z), p2⟩, h3⟩
def Prs (H : Hp) (ts : List Addr) (ds cs : List Nat) : Prop := ts.length = ds.length ∧ ∀ (j d : Nat), ds[j]? = some d → ∃ t, ts[j]? = some t ∧ H t = some (.tup [.str (T [d]), .int (cs.count d : Nat)])
theorem Prs.same {H H' : Hp} {ts : List Addr} {ds cs : List Nat} (x : Prs H ts ds cs) (sm : LP.SameT H H') : Prs H' ts ds cs := ⟨x.1, fun j d e => by
  obtain ⟨t, e1, e2⟩ := x.2 j d e
  exact ⟨t, e1, sm _ _ e2⟩⟩
theorem Prs.snoc {H : Hp} {ts : List Addr} {ds cs : List Nat} {t : Addr} {d : Nat} (x : Prs H ts ds cs) (ht : H t = some (.tup [.str (T [d]), .int (cs.count d : Nat)])) : Prs H (ts ++ [t]) (ds ++ [d]) cs := by
  refine ⟨by simp [x.1], fun j e hj => ?_⟩
  by_cases h : j < ds.length
  · rw [List.getElem?_append_left h] at hj
    obtain ⟨u, e1, e2⟩ := x.2 j e hj
    exact ⟨u, by rw [List.getElem?_append_left (by rw [x.1]; exact h)]; exact e1, e2⟩
  · have hl := (List.getElem?_eq_some_iff.mp hj).1
    rw [List.length_append, List.length_singleton] at hl
    have ej : j = ds.length := by omega
    subst ej
    rw [List.getElem?_append_right (Nat.le_refl _), Nat.sub_self] at hj
    have hj : d = e := by simpa using hj
    subst hj
    exact ⟨t, by rw [← x.1, List.getElem?_append_right (Nat.le_refl _), Nat.sub_self]; rfl, ht⟩
end L2
set_option maxRecDepth 100000
namespace L2
open PySem PySem.Spec PyProof.Rows Builtin Builtin.Str
section
variable {prog : Program} {w : World} {A : Around} {E : Value → Shared → Prop} {s : Shared} {I l : Addr}
end
section
variable {X : Cx} {K : PySem.W.Frag}
end
end L2
set_option maxRecDepth 100000
namespace LO
open L2
end LO
namespace L2
open PySem
theorem Same.nn {H H' : Hp} (s : Same H H') {b : Addr} (h : H b ≠ none) : H' b ≠ none := by
  cases e : H b with
  | none => exact absurd e h
  | some o => rw [s b o e]; simp
theorem SameN.nn {H H' : Hp} (s : SameN H H') {b : Addr} (h : H b ≠ none) : H' b ≠ none := by
  cases e : H b with
  | none => exact absurd e h
  | some o => exact (s b o e).1
end L2
set_option maxRecDepth 100000
namespace L2
open PySem
def encV (ps : List (Int × V)) : List (Key × V) := ps.map fun p => (.inl p.1, p.2)
theorem lookup_snoc (k j : Int) (v : V) : ∀ ps : List (Int × V), (ps ++ [(k, v)]).lookup j = (ps.lookup j).or (if j = k then some v else none)
  | [] => by
    rw [List.nil_append, List.lookup_cons]
    by_cases e : j = k
    · rw [if_pos e, show (j == k) = true by simpa using e]
      rfl
    · rw [if_neg e, show (j == k) = false by simpa using e]
      rfl
  | x :: r => by
    rw [List.cons_append, List.lookup_cons, List.lookup_cons]
    cases (j == x.1) with
    | true => rfl
    | false => exact lookup_snoc k j v r
end L2
namespace LO
end LO
namespace LO
end LO
namespace L2
open PySem
end L2
set_option maxRecDepth 100000
namespace L2
open PySem PySem.Spec PyProof.Rows
section
variable {X : Cx} {pos : Pos} {K : PySem.W.Frag}
theorem pg_tupK {es : List Expr} {k : Nat} {t : TGs} {n : Nat} (hK : X.K = K) (hc : X.calm = true) (h : PGs X es t)
    (hn : (assignEach es X.env).length = n := by rfl) (hst : (assignEach es X.env).findIdx? (·.1) = none := by rfl) : PG X (.Tuple es k pos) (gTup K n t) := by
  subst hK
  exact pg_tup hc h hn hst
def b2i (b : Bool) : Int := if b then 1 else 0
def intV : List V → Hp → VK → Prop := fun xs H Q => match xs with
  | [.bl b] => Q (.int (b2i b)) H
  | [.int i] => Q (.int i) H
  | _ => False
theorem c_int : CallR X (.type "int") intV := by
  intro pins s σ H xs us Q I r h
  unfold intV at h
  split at h
  · rename_i b
    obtain ⟨u, rfl, rfl⟩ := vals1 r
    exact call_int_bool ⟨.int (b2i b), H, I.tok _, ⟨_, rfl⟩, h⟩
  · rename_i i
    obtain ⟨u, rfl, t, rfl⟩ := vals1 r
    exact call_int_int ⟨.int i, H, I, ⟨_, rfl⟩, h⟩
  · exact h.elim
end
end L2
namespace LO
end LO
namespace L2
open PySem
theorem EqT.int {K : PySem.W.Frag} {H : Hp} {n : Nat} (i : Int) : EqT K H n (.int i) (.int i) := .flat rfl rfl (by simp [eqV])
theorem EqT.str {K : PySem.W.Frag} {H : Hp} {n : Nat} (z : Str) : EqT K H n (.str z) (.str z) := .flat rfl rfl (by simp [eqV])
end L2
namespace LO
end LO
set_option maxRecDepth 100000
namespace L2
open PySem PySem.Spec PyProof.Rows
section
variable {X : Cx} {K : PySem.W.Frag}
end
def Bd (i : Int) (m : Nat) : Prop := 0 ≤ i ∧ i ≤ m
theorem Bd.mul {i j : Int} {m n : Nat} (h : Bd i m) (g : Bd j n) : Bd (i * j) (m * n) := by
  refine ⟨Int.mul_nonneg h.1 g.1, ?_⟩
  rw [Int.natCast_mul]
  exact Int.mul_le_mul h.2 g.2 g.1 (Int.natCast_nonneg _)
theorem Bd.mod (i : Int) {m : Nat} (h : 0 < m) : Bd (i % (m : Int)) m := ⟨Int.emod_nonneg _ (by omega), Int.le_of_lt (Int.emod_lt_of_pos _ (by omega))⟩
end L2
set_option maxRecDepth 100000
namespace L2
open PySem PySem.Spec PyProof.Rows
def IsRvS (h : Heap) (a : Addr) (z : Str) (t : Tok) (i : Int) : Prop := ∃ o, h.get? a = some o ∧ o.cls = .type "reversed" ∧ o.data = .fields #[.str z t, rawInt i]
section
variable {prog : Program} {w : World} {A : Around} {E : Value → Shared → Prop} {s : Shared}
theorem IsRvS.typeIs {a : Addr} {z : Str} {t : Tok} {i : Int} (x : IsRvS s.heap a z t i) : s.TypeIs (.ref a) "reversed" := let ⟨o, ho, hc, _⟩ := x; ⟨o, ho, hc⟩
end
section
variable {P : Program} {w : World} {K : PySem.W.Frag} {tg : Expr}
end
section
variable {X : Cx} {tg : Expr}
end
end L2
set_option maxRecDepth 100000
namespace L2
open PySem PySem.Spec PyProof.Rows
structure FunD (K : PySem.W.Frag) (x qual : Str) (st : Stmt) (f T : Addr) (fd : FuncData) : Prop where
  ex : ∃ (oc : Value) (od : Option Addr) (kV doc pm : Value) (an : Option Addr) (cdv ct : Value) (osl : Array (Option Value)),
    fd = PySem.W.fnOf x qual (defArgs st) (defBody st) (defScope st) (.ref T) kV doc pm an cdv ct ∧ K.lookup f = some ⟨oc, od, .func fd, osl⟩ ∧ PySem.W.codeIn K cdv qual = true
  kp : PySem.W.keepIn K (.ref f) = true
section
variable {P : Program} {w : World} {K : PySem.W.Frag} {mg : Str → Option Value} {base : Heap} {x qual : Str} {st : Stmt} {f T : Addr} {fd : FuncData} {N ps : List Str} {k : Nat} {sp : Sp}
theorem FunD.okX (F : FunD K x qual st f T fd) (S : FnScope N ps (defScope st)) (len : ∀ vs H Q E, sp vs H Q E → vs.length = ps.length)
    (hbody : ∀ (cdv : Value) (A : Around) (outer : List Env) (s : Shared) (H : Hp) (vs : List V) (Q : VK) (E : XK), Room k (A.deeper (envOfC qual (defScope st) s.heap.objs.size f cdv)) → sp vs H Q E →
      ∃ t, PSs (cxOf (CX1 P w) P w K mg base N qual (defScope st) f cdv A outer s H E) (defBody st) t ∧ t { nx := fun _ H' => Q .non H', rt := Q } (start N vs) H) : FnOk P w K mg base (CX1 P w) (k + 1) f fd ps sp := by
  obtain ⟨oc, od, kV, doc, pm, an, cdv, ct, osl, rfl, lk, hcd⟩ := F.ex
  exact fn_of lk hcd S len fun A outer s H vs Q E hr hsp => hbody cdv A outer s H vs Q E hr hsp
theorem FunD.ok (F : FunD K x qual st f T fd) (S : FnScope N ps (defScope st)) (len : ∀ vs H Q E, sp vs H Q E → vs.length = ps.length)
    (hbody : ∀ (cdv : Value) (A : Around) (outer : List Env) (s : Shared) (H : Hp) (vs : List V) (Q : VK) (E : XK), Room k (A.deeper (envOfC qual (defScope st) s.heap.objs.size f cdv)) → sp vs H Q E →
      ∃ t, PSs (cxOf CX0 P w K mg base N qual (defScope st) f cdv A outer s H E).nox (defBody st) t ∧ t { nx := fun _ H' => Q .non H', rt := Q } (start N vs) H) : FnOk P w K mg base CX0 (k + 1) f fd ps sp := by
  obtain ⟨oc, od, kV, doc, pm, an, cdv, ct, osl, rfl, lk, hcd⟩ := F.ex
  refine fn_of lk hcd S len fun A outer s H vs Q E hr hsp => ?_
  obtain ⟨t, h, q⟩ := hbody cdv A outer s H vs Q E hr hsp
  exact ⟨t, h.nox, q⟩
theorem FunD.binds {ds : List Value} {items : Array Value} {n : Nat} {qc : Value} {qo : Option Addr} {qs : Array (Option Value)} (F : FunD K x qual st f T fd) (hT : K.lookup T = some ⟨qc, qo, .seq items n, qs⟩)
    (h : ∀ (kV doc pm : Value) (an : Option Addr) (cdv ct : Value) (us : List Value), us.length + ds.length = ps.length →
      ∃ g : Option (Array Value) → Sem (List (Str × Value)), bindArgs (PySem.W.fnOf x qual (defArgs st) (defBody st) (defScope st) (.ref T) kV doc pm an cdv ct) ⟨us, []⟩ = seqItems? (.ref T) >>= g ∧ g (some items) = pure (ps.zip (us ++ ds))) : Binds K fd ps ds := by
  obtain ⟨oc, od, kV, doc, pm, an, cdv, ct, osl, rfl, lk, hcd⟩ := F.ex
  intro s us hin hl
  obtain ⟨g, h1, h2⟩ := h kV doc pm an cdv ct us (by rw [← List.length_append]; exact hl)
  exact PySem.W.binds_K hin rfl hT rfl h1 h2
end
end L2
namespace L2
open PySem PySem.Spec PyProof.Rows
section
variable {X : Cx}
end
end L2
set_option maxRecDepth 100000
namespace L2
open PySem PySem.Spec PyProof.Rows
def KeepX (x d : Addr) (H H' : Hp) : Prop := (∀ b o, b ≠ x → b ≠ d → H b = some o → (∀ ps, o ≠ .tbl ps) → H' b = some o) ∧ ∀ b, H b ≠ none → H' b ≠ none
theorem KeepX.ofN {x d : Addr} {H H' : Hp} (s : SameN H H') : KeepX x d H H' := ⟨fun _ _ _ _ e n => s.at e n, fun _ e => s.nn e⟩
theorem KeepX.trans {x d : Addr} {H H1 H2 : Hp} (a : KeepX x d H H1) (b : KeepX x d H1 H2) : KeepX x d H H2 := ⟨fun c o h1 h2 e n => b.1 c o h1 h2 (a.1 c o h1 h2 e n) n, fun c e => b.2 c (a.2 c e)⟩
theorem KeepX.refl (x d : Addr) (H : Hp) : KeepX x d H H := ⟨fun _ _ _ _ e _ => e, fun _ e => e⟩
def ordAt (l : List Nat) (r : Nat) : Nat := (LO.ord l).getD r 0
def KnownTo (ps : List (Int × V)) (l : List Nat) (g : Int) (k : Nat) : Prop := ∀ r : Int, ps.lookup r = if 0 ≤ r ∧ r < k ∧ (ordAt l r.toNat : Int) % g = 0 then some (.int (ordAt l r.toNat : Nat)) else none
def fsF (h d : Addr) (g : Int) : List (Str × V) := [("held", .ref h), ("gap", .int g), ("known", .ref d)]
def IsFin (C CL : Addr) (H : Hp) (x : Addr) (l : List Nat) (g : Int) : Prop := ∃ dx h d ps, H x = some (.ins C dx (fsF h d g)) ∧ IsLet CL H h (LO.letters l) (LO.home l) ∧ H d = some (.dK (encV ps)) ∧ KnownTo ps l g (l.length + 1) ∧ 1 ≤ g
theorem IsFin.same {C CL : Addr} {H H' : Hp} {x : Addr} {l : List Nat} {g : Int} (f : IsFin C CL H x l g) (sm : ∀ b o, H b = some o → (∀ ps, o ≠ .tbl ps) → H' b = some o) : IsFin C CL H' x l g := by
  obtain ⟨dx, h, d, ps, h1, h2, h3, h4⟩ := f
  exact ⟨dx, h, d, ps, sm _ _ h1 (by intro ps z; cases z), h2.same sm, sm _ _ h3 (by intro ps z; cases z), h4⟩
theorem KnownTo.step {ps : List (Int × V)} {l : List Nat} {g : Int} {k j : Nat} (h : KnownTo ps l g k) (e : (LO.ord l)[k]? = some j) : ((j : Int) % g = 0 → ps.lookup (k : Int) = none ∧ KnownTo (ps ++ [((k : Int), .int (j : Int))]) l g (k + 1)) ∧ (¬ (j : Int) % g = 0 → KnownTo ps l g (k + 1)) := by
  have ej : ordAt l k = j := by
    unfold ordAt
    rw [List.getD_eq_getElem?_getD, e]
    rfl
  refine ⟨fun hz => ⟨by rw [h, if_neg fun z => by omega], fun r => ?_⟩, fun hz r => ?_⟩
  · rw [lookup_snoc, h r]
    by_cases er : r = (k : Int)
    · subst er
      rw [if_neg fun z => by omega, if_pos rfl, Int.toNat_natCast, ej, if_pos ⟨by omega, by omega, hz⟩]
      rfl
    · rw [if_neg er, Option.or_none]
      by_cases hr : 0 ≤ r ∧ r < k ∧ (ordAt l r.toNat : Int) % g = 0
      · rw [if_pos hr, if_pos ⟨hr.1, by omega, hr.2.2⟩]
      · rw [if_neg hr, if_neg fun z => hr ⟨z.1, by omega, z.2.2⟩]
  · rw [h r]
    by_cases er : r = (k : Int)
    · subst er
      rw [if_neg fun z => by omega, if_neg fun z => hz (by rw [Int.toNat_natCast, ej] at z; exact z.2.2)]
    · by_cases hr : 0 ≤ r ∧ r < k ∧ (ordAt l r.toNat : Int) % g = 0
      · rw [if_pos hr, if_pos ⟨hr.1, by omega, hr.2.2⟩]
      · rw [if_neg hr, if_neg fun z => hr ⟨z.1, by omega, z.2.2⟩]
end L2
namespace LO
end LO
namespace L2
open PySem
end L2
namespace L2
open PySem
end L2
namespace L2
open PySem
theorem ordAt_rank {l : List Nat} {j : Nat} (h : j ≤ l.length) : ordAt l (LO.rank l j) = j := by
  unfold ordAt
  rw [List.getD_eq_getElem?_getD, LO.ord_rank h]
  rfl
theorem ordAt_le {l : List Nat} {r : Nat} (h : r ≤ l.length) : ordAt l r ≤ l.length ∧ LO.rank l (ordAt l r) = r := by
  have hl := LO.ord_length l
  have e : (LO.ord l)[r]? = some (LO.ord l)[r] := List.getElem?_eq_getElem (by omega)
  have e2 : ordAt l r = (LO.ord l)[r] := by
    unfold ordAt
    rw [List.getD_eq_getElem?_getD, e]
    rfl
  rw [e2]
  exact ⟨LO.mem_ord.mp (List.getElem_mem _), LO.rank_of e⟩
theorem KnownTo.at {ps : List (Int × V)} {l : List Nat} {g : Int} {j : Nat} (h : KnownTo ps l g (l.length + 1)) (hj : j ≤ l.length) : ps.lookup ((LO.rank l j : Nat) : Int) = if (j : Int) % g = 0 then some (.int (j : Int)) else none := by
  have hr := LO.rank_lt (l := l) (j := j) hj
  rw [h, Int.toNat_natCast, ordAt_rank hj]
  by_cases z : (j : Int) % g = 0
  · rw [if_pos ⟨by omega, by omega, z⟩, if_pos z]
  · rw [if_neg fun w => z w.2.2, if_neg z]
end L2
set_option maxRecDepth 100000
namespace L2
open PySem PySem.Spec PyProof.Rows
structure MkrK (P : Program) (w : World) (K : PySem.W.Frag) (mg : Str → Option Value) (base : Heap) (CX : CXT) (k : Nat) (x : Str) (C : Addr) (ps : List Str) (kw : Str) (sp : Sp) : Prop where
  ex : ∃ f fd, FnOk P w K mg base CX k f fd ps sp ∧ Mk K C f ∧ ∀ (s : Shared) (a b c : Value), K.In s.heap → BindsTo s fd ⟨[a, b], [(kw, c)]⟩ (ps.zip [a, b, c])
  at_ : mg x = some (.ref C)
theorem MkrK.mono {P : Program} {w : World} {K : PySem.W.Frag} {mg : Str → Option Value} {base : Heap} {CX : CXT} {j k : Nat} {C : Addr} {x kw : Str} {ps : List Str} {sp : Sp} (M : MkrK P w K mg base CX j x C ps kw sp) (h : j ≤ k) : MkrK P w K mg base CX k x C ps kw sp := by
  obtain ⟨f, fd, F, r⟩ := M.ex
  exact ⟨⟨f, fd, F.mono h, r⟩, M.at_⟩
theorem MkrK.quiet {P : Program} {w : World} {K : PySem.W.Frag} {mg : Str → Option Value} {base : Heap} {k : Nat} {C : Addr} {x kw : Str} {ps : List Str} {sp : Sp} (M : MkrK P w K mg base (CX1 P w) k x C ps kw sp) : MkrK P w K mg base CX0 k x C ps kw (fun vs H Q _ => sp vs H Q E0) := by
  obtain ⟨f, fd, F, r⟩ := M.ex
  exact ⟨⟨f, fd, quietX F, r⟩, M.at_⟩
section
variable {X : Cx} {k : Nat} {C : Addr} {x kw : Str} {ps : List Str} {sp : Sp} {e e2 : Expr} {ta tb : TE} {p pos kpos : Pos}
end
section
variable {K : PySem.W.Frag} {x qual : Str} {st : Stmt} {f T : Addr} {fd : FuncData} {ps : List Str}
end
end L2
namespace L2
open PySem
end L2
set_option maxRecDepth 100000
namespace L2
open PySem PySem.Spec PyProof.Rows
def KeepY (x d t1 t2 : Addr) (H H' : Hp) : Prop := KeepX x d H H' ∧ ∀ b o, b ≠ x → b ≠ d → b ≠ t1 → b ≠ t2 → H b = some o → H' b = some o
theorem KeepY.of {x d t1 t2 : Addr} {H H' : Hp} (s : SameN H H') (e : ∀ b o, b ≠ t1 → b ≠ t2 → H b = some o → H' b = some o) : KeepY x d t1 t2 H H' := ⟨KeepX.ofN s, fun b o _ _ n1 n2 h => e b o n1 n2 h⟩
theorem KeepY.trans {x d t1 t2 : Addr} {H H1 H2 : Hp} (a : KeepY x d t1 t2 H H1) (b : KeepY x d t1 t2 H1 H2) : KeepY x d t1 t2 H H2 := ⟨a.1.trans b.1, fun c o h1 h2 h3 h4 e => b.2 c o h1 h2 h3 h4 (a.2 c o h1 h2 h3 h4 e)⟩
end L2
set_option maxRecDepth 100000
namespace L2
open PySem PySem.Spec PyProof.Rows
section
variable {X : Cx}
end
end L2
namespace LO
open L2
theorem has_take {l t : List Nat} {i : Nat} : hasAt l t i = true ↔ (l.drop i).take t.length = t := by
  unfold hasAt
  rw [List.isPrefixOf_iff_prefix, List.prefix_iff_eq_take]
  exact ⟨fun h => h.symm, fun h => h.symm⟩
end LO
set_option maxRecDepth 100000
namespace L2
open PySem PySem.Spec PyProof.Rows
structure FnD (P : Program) (w : World) (K : PySem.W.Frag) (mg : Str → Option Value) (base : Heap) (k : Nat) (x : Str) (ps : List Str) (dvs : List V) (sp : Sp) : Prop where
  ex : ∃ f fd ds, FnOk P w K mg base CX0 k f fd ps sp ∧ mg x = some (.ref f) ∧ PySem.W.keepIn K (.ref f) = true ∧ Binds K fd ps ds ∧ Vals dvs ds
structure FnK (P : Program) (w : World) (K : PySem.W.Frag) (mg : Str → Option Value) (base : Heap) (k : Nat) (x : Str) (ps : List Str) (kw : Str) (sp : Sp) : Prop where
  ex : ∃ f fd, FnOk P w K mg base CX0 k f fd ps sp ∧ mg x = some (.ref f) ∧ PySem.W.keepIn K (.ref f) = true ∧ ∀ (s : Shared) (a c : Value), K.In s.heap → BindsTo s fd ⟨[a], [(kw, c)]⟩ (ps.zip [a, c])
section
variable {X : Cx} {k : Nat} {x kw : Str} {ps : List Str} {sp : Sp} {p pos kpos : Pos} {e e2 : Expr} {es : List Expr} {t : TA} {ta tb : TE} {dvs : List V}
end
section
variable {K : PySem.W.Frag} {x qual : Str} {st : Stmt} {f T : Addr} {fd : FuncData} {ps : List Str}
end
end L2
set_option maxRecDepth 100000
namespace LO
open LW L2
theorem take_up : ∀ {x y : List Nat} (k : Nat), x ≤ y → x.take k ≤ y.take k
  | _, _, 0, _ => by simp
  | [], y, k + 1, _ => by simp
  | c :: x, [], k + 1, h => absurd (List.nil_lt_cons c x) (List.not_lt.mpr h)
  | c :: x, d :: y, k + 1, h => by
    rw [List.take_succ_cons, List.take_succ_cons]
    have h : ¬ (d :: y < c :: x) := List.not_lt.mpr h
    refine List.not_lt.mp fun z => h ?_
    rw [List.cons_lt_cons_iff] at z ⊢
    rcases z with z | ⟨z1, z2⟩
    · exact .inl z
    · refine .inr ⟨z1, ?_⟩
      rcases Decidable.em (y < x) with w | w
      · exact w
      · exact absurd z2 (List.not_lt.mpr (take_up k (List.not_lt.mp w)))
theorem row_up {l : List Nat} {i j : Nat} (h : i ≤ j) (hj : j ≤ l.length) : l.drop (ordAt l i) ≤ l.drop (ordAt l j) := by
  have ol := ord_length l
  rcases Nat.lt_or_ge i j with w | w
  · have := List.pairwise_iff_getElem.mp (ord_le l) i j (by omega) (by omega) w
    unfold ordAt
    rw [List.getD_eq_getElem?_getD, List.getD_eq_getElem?_getD, List.getElem?_eq_getElem (by omega), List.getElem?_eq_getElem (by omega)]
    exact this
  · have : i = j := by omega
    subst this
    exact List.le_refl _
def sz (l : List Nat) (m r : Nat) : Nat := com (l.drop (ordAt l r)) (l.drop (ordAt l (r + (m - 1))))
def pc (l : List Nat) (m r : Nat) : List Nat := (l.drop (ordAt l r)).take (sz l m r)
theorem pc_len (l : List Nat) (m r : Nat) : (pc l m r).length = sz l m r := by
  unfold pc
  rw [List.length_take]
  have := (LW.com_le (l.drop (ordAt l r)) (l.drop (ordAt l (r + (m - 1))))).1
  unfold sz
  omega
theorem pc_many {l : List Nat} {m r : Nat} (h1 : 1 ≤ m) (hr : r + (m - 1) ≤ l.length) : m ≤ many l (pc l m r) := by
  have hp : pc l m r = (l.drop (ordAt l (r + (m - 1)))).take (sz l m r) := take_com _ _ _ (Nat.le_refl _)
  obtain ⟨a1, a2⟩ := ordAt_le (l := l) (r := r) (by omega)
  obtain ⟨b1, b2⟩ := ordAt_le (l := l) (r := r + (m - 1)) (by omega)
  have c1 := (rank_in (t := pc l m r) a1).mp (has_take.mpr (by rw [pc_len]; rfl))
  have c2 := (rank_in (t := pc l m r) b1).mp (has_take.mpr (by rw [pc_len]; exact hp.symm))
  unfold high at c1 c2
  omega
structure Lng (l : List Nat) (m i : Nat) (c : List Nat) : Prop where
  one : m ≤ many l c
  most : ∀ r, r < i → sz l m r ≤ c.length
  first : ∀ r, r < i → sz l m r = c.length → ¬ pc l m r < c
  src : ∀ j, i ≤ j → j ≤ l.length → ¬ (l.drop (ordAt l j)).take c.length < c
theorem Lng.keep {l c : List Nat} {m i : Nat} (h : Lng l m i c) (hi : i ≤ l.length) (hs : sz l m i ≤ c.length) : Lng l m (i + 1) c := by
  refine ⟨h.one, fun r hr => ?_, fun r hr e => ?_, fun j hj hj2 => h.src j (by omega) hj2⟩
  · rcases Nat.lt_or_ge r i with w | w
    · exact h.most r w
    · have : r = i := by omega
      subst this
      exact hs
  · rcases Nat.lt_or_ge r i with w | w
    · exact h.first r w e
    · have : r = i := by omega
      subst this
      unfold pc
      rw [e]
      exact h.src r (Nat.le_refl _) hi
theorem Lng.take {l c : List Nat} {m i : Nat} (h : Lng l m i c) (h1 : 1 ≤ m) (hi : i + (m - 1) ≤ l.length) (hs : c.length < sz l m i) : Lng l m (i + 1) (pc l m i) := by
  refine ⟨pc_many h1 hi, fun r hr => ?_, fun r hr e => ?_, fun j hj hj2 => ?_⟩
  · rw [pc_len]
    rcases Nat.lt_or_ge r i with w | w
    · have := h.most r w
      omega
    · have : r = i := by omega
      subst this
      exact Nat.le_refl _
  · rw [pc_len] at e
    rcases Nat.lt_or_ge r i with w | w
    · have := h.most r w
      omega
    · have : r = i := by omega
      subst this
      exact List.lt_irrefl _
  · rw [pc_len]
    exact List.not_lt.mpr (take_up _ (row_up (by omega) hj2))
end LO
set_option maxRecDepth 100000
namespace L2
open PySem PySem.Spec PyProof.Rows
section
variable {prog : Program} {w : World} {A : Around} {E : Value → Shared → Prop} {s : Shared}
structure Zap (z TI TO i1 i2 : Addr) : Prop where
  TIz : TI ≠ z
  TOz : TO ≠ z
  i1z : i1 ≠ z
  i2z : i2 ≠ z
  TITO : TI ≠ TO
  TIi1 : TI ≠ i1
  TIi2 : TI ≠ i2
  TOi1 : TO ≠ i1
  TOi2 : TO ≠ i2
  i12 : i1 ≠ i2
variable {z TI TO i1 i2 : Addr} {n1 n2 k : Nat} {P1 P2 : Nat → Value → Prop} {S1 S2 : Nat → Heap → Prop} {a b : Value}
end
section
variable {prog : Program} {w : World} {A : Around} {E : Value → Shared → Prop} {s : Shared}
end
section
variable {X : Cx} {es : List Expr} {k : Nat} {tp : Pos}
end
end L2
set_option maxRecDepth 100000
namespace L2
open PySem PySem.Spec PyProof.Rows
section
variable {X : Cx} {elt : Expr} {ifs : List Expr} {u v : Str} {pu pv : Pos} {scope : Scope} {pos tp : Pos} {k : Nat} {cl : List (Str × Addr)} {own : List Str} {cp : List (Str × Nat)} {ta : TA} {tc : TT} {te : TE}
end
end L2
set_option maxRecDepth 100000
namespace L2
open PySem PySem.Spec PyProof.Rows Builtin Builtin.Str
section
variable {prog : Program} {w : World} {A : Around} {E : Value → Shared → Prop} {s : Shared} {I l : Addr}
end
section
variable {X : Cx} {K : PySem.W.Frag}
end
end L2
namespace LG
open LO
theorem has_iff {l t : List Nat} {i : Nat} : hasAt l t i = true ↔ ∃ u, l.drop i = t ++ u := by
  unfold hasAt
  rw [List.isPrefixOf_iff_prefix]
  exact ⟨fun ⟨u, h⟩ => ⟨u, h.symm⟩, fun ⟨u, h⟩ => ⟨u, h.symm⟩⟩
theorem many_pos {l t : List Nat} : many l t ≠ 0 ↔ ∃ a b, l = a ++ t ++ b := by
  unfold many
  constructor
  · intro h
    obtain ⟨i, hi, h1⟩ := List.countP_pos_iff.mp (Nat.pos_of_ne_zero h)
    obtain ⟨u, hu⟩ := has_iff.mp h1
    exact ⟨l.take i, u, by rw [List.append_assoc, ← hu, List.take_append_drop]⟩
  · rintro ⟨a, b, rfl⟩
    refine Nat.pos_iff_ne_zero.mp (List.countP_pos_iff.mpr ⟨a.length, List.mem_range.mpr (by simp; omega), has_iff.mpr ⟨b, ?_⟩⟩)
    rw [List.append_assoc, List.drop_left]
theorem many_in {l x y z : List Nat} (h : many l (x ++ y ++ z) ≠ 0) : many l y ≠ 0 := by
  obtain ⟨a, b, e⟩ := many_pos.mp h
  exact many_pos.mpr ⟨a ++ x, z ++ b, by rw [e]; simp⟩
theorem many_end {l x y : List Nat} (h : many l (x ++ y) ≠ 0) : many l y ≠ 0 := many_in (z := []) (by simpa using h)
theorem many_nil (l : List Nat) : many l [] ≠ 0 := many_pos.mpr ⟨[], l, rfl⟩
def suf (u : List Nat) (k : Nat) : List Nat := u.drop (u.length - k)
theorem suf_app {u : List Nat} {j k : Nat} (h : j ≤ k) : ∃ x, suf u k = x ++ suf u j := by
  unfold suf
  refine ⟨(u.drop (u.length - k)).take (k - j - (k - u.length)), ?_⟩
  conv => lhs; rw [← List.take_append_drop (k - j - (k - u.length)) (u.drop (u.length - k)), List.drop_drop]
  by_cases hk : k ≤ u.length
  · rw [show u.length - k + (k - j - (k - u.length)) = u.length - j by omega]
  · rw [show u.length - k + (k - j - (k - u.length)) = u.length - j by omega]
def lg (l u : List Nat) : Nat := ((List.range u.length).takeWhile fun k => decide (many l (suf u (k + 1)) ≠ 0)).length
theorem tw_len {n m : Nat} {p : Nat → Bool} (hm : m ≤ n) (h1 : ∀ k, k < m → p k = true) (h2 : m = n ∨ p m = false) : ((List.range n).takeWhile p).length = m := by
  have e : List.range n = List.range m ++ (List.range (n - m)).map (m + ·) := by
    conv => lhs; rw [show n = m + (n - m) by omega, List.range_add]
  rw [e, List.takeWhile_append_of_pos fun a ha => h1 a (List.mem_range.mp ha), List.length_append, List.length_range]
  have z : ((List.range (n - m)).map (m + ·)).takeWhile p = [] := by
    cases hk : n - m with
    | zero => rfl
    | succ k =>
      rw [List.range_succ_eq_map, List.map_cons, List.takeWhile_cons, if_neg]
      rcases h2 with h2 | h2
      · omega
      · rw [Nat.add_zero, h2]
        exact Bool.false_ne_true
  rw [z]
  rfl
theorem lg_is {l u : List Nat} {n : Nat} (hn : n ≤ u.length) (h1 : many l (suf u n) ≠ 0) (h2 : n = u.length ∨ many l (suf u (n + 1)) = 0) : lg l u = n := by
  refine tw_len hn (fun k hk => decide_eq_true ?_) (h2.imp id fun z => decide_eq_false fun y => y z)
  obtain ⟨x, e⟩ := suf_app (u := u) (j := k + 1) (k := n) hk
  rw [e] at h1
  exact many_end h1
theorem lg_ex (l u : List Nat) : ∃ n, n ≤ u.length ∧ many l (suf u n) ≠ 0 ∧ (n = u.length ∨ many l (suf u (n + 1)) = 0) := by
  have key : ∀ k n, u.length - n = k → n ≤ u.length → many l (suf u n) ≠ 0 → ∃ n, n ≤ u.length ∧ many l (suf u n) ≠ 0 ∧ (n = u.length ∨ many l (suf u (n + 1)) = 0) := by
    intro k
    induction k with
    | zero => intro n h0 h1 h2; exact ⟨n, h1, h2, .inl (by omega)⟩
    | succ k ih =>
      intro n h0 h1 h2
      by_cases h3 : many l (suf u (n + 1)) = 0
      · exact ⟨n, h1, h2, .inr h3⟩
      · exact ih (n + 1) (by omega) (by omega) h3
  refine key u.length 0 (by omega) (Nat.zero_le _) ?_
  unfold suf
  rw [Nat.sub_zero, List.drop_length]
  exact many_nil l
theorem lg_st (l u : List Nat) : many l (suf u (lg l u)) ≠ 0 := by
  obtain ⟨n, h1, h2, h3⟩ := lg_ex l u
  rw [lg_is h1 h2 h3]
  exact h2
theorem take_suf {u : List Nat} {k : Nat} : u.take (u.length - k) ++ suf u k = u := List.take_append_drop ..
structure Row (l u : List Nat) (ps : List (List Nat)) : Prop where
  flat : ps.flatten = u
  each : ∀ a x b, ps = a ++ x :: b → x ≠ [] ∧ (many l x = 0 → x.length = 1) ∧ (many l x ≠ 0 → a.flatten ≠ [] → many l (suf (a.flatten ++ x) (x.length + 1)) = 0)
end LG
namespace LG
open LO
end LG
namespace LG
open LO
structure Best (z y c : List Nat) : Prop where
  one : many z c ≠ 0
  two : many y c ≠ 0
  most : ∀ w, many z w ≠ 0 → many y w ≠ 0 → w.length < c.length ∨ w.length = c.length ∧ ¬ w < c
theorem Best.symm {z y c : List Nat} (h : Best z y c) : Best y z c := ⟨h.two, h.one, fun w h1 h2 => h.most w h2 h1⟩
def cand (z y : List Nat) (i : Nat) : List Nat := suf (y.take i) (lg z (y.take i))
theorem cand_one (z y : List Nat) (i : Nat) : many z (cand z y i) ≠ 0 := lg_st _ _
theorem many_suf {y u : List Nat} {k : Nat} (h : many y u ≠ 0) : many y (suf u k) ≠ 0 := by
  have : u = u.take (u.length - k) ++ suf u k := take_suf.symm
  rw [this] at h
  exact many_end h
theorem many_take (y : List Nat) (i : Nat) : many y (y.take i) ≠ 0 := many_pos.mpr ⟨[], y.drop i, by simp⟩
theorem cand_two (z y : List Nat) (i : Nat) : many y (cand z y i) ≠ 0 := many_suf (many_take y i)
structure Upto (z y : List Nat) (i : Nat) (c : List Nat) : Prop where
  one : many z c ≠ 0
  two : many y c ≠ 0
  most : ∀ j, j < i → (cand z y j).length < c.length ∨ (cand z y j).length = c.length ∧ ¬ cand z y j < c
theorem Upto.keep {z y c : List Nat} {i : Nat} (h : Upto z y i c) (hk : ¬ (c.length < (cand z y i).length ∨ (cand z y i).length = c.length ∧ cand z y i < c)) : Upto z y (i + 1) c :=
  ⟨h.one, h.two, fun j hj => by
    rcases Nat.lt_or_ge j i with h1 | h1
    · exact h.most j h1
    · have : j = i := by omega
      subst this
      rcases Nat.lt_or_ge (cand z y j).length c.length with h2 | h2
      · exact .inl h2
      · refine .inr ⟨?_, fun w => hk (.inr ⟨?_, w⟩)⟩
        · rcases Nat.lt_or_ge c.length (cand z y j).length with h3 | h3
          · exact absurd (.inl h3) hk
          · omega
        · rcases Nat.lt_or_ge c.length (cand z y j).length with h3 | h3
          · exact absurd (.inl h3) hk
          · omega⟩
theorem Upto.take {z y c : List Nat} {i : Nat} (h : Upto z y i c) (hk : c.length < (cand z y i).length ∨ (cand z y i).length = c.length ∧ cand z y i < c) : Upto z y (i + 1) (cand z y i) :=
  ⟨cand_one z y i, cand_two z y i, fun j hj => by
    rcases Nat.lt_or_ge j i with h1 | h1
    · rcases h.most j h1 with h2 | ⟨h2, h3⟩
      · rcases hk with hk | ⟨hk, _⟩
        · exact .inl (by omega)
        · exact .inl (by omega)
      · rcases hk with hk | ⟨hk, hk2⟩
        · exact .inl (by omega)
        · exact .inr ⟨by omega, fun w => h3 (List.lt_trans w hk2)⟩
    · have : j = i := by omega
      subst this
      exact .inr ⟨rfl, List.lt_irrefl _⟩⟩
end LG
namespace LG
open LO L2
end LG
namespace LG
theorem len_flat : ∀ {ps : List (List Nat)}, (∀ x ∈ ps, x ≠ []) → ps.length ≤ ps.flatten.length
  | [], _ => Nat.le_refl _
  | x :: r, h => by
    have h1 := len_flat (ps := r) fun y hy => h y (List.mem_cons_of_mem _ hy)
    have h2 := List.length_pos_iff.mpr (h x (List.mem_cons_self ..))
    rw [List.flatten_cons, List.length_append, List.length_cons]
    omega
theorem Row.len {l u : List Nat} {ps : List (List Nat)} (h : Row l u ps) : ps.length ≤ u.length := by
  rw [← h.flat]
  refine len_flat fun x hx => ?_
  obtain ⟨a, b, e⟩ := List.append_of_mem hx
  exact (h.each a x b e).1
end LG
namespace L2
open PySem
end L2
set_option maxRecDepth 100000
namespace L2
open PySem PySem.Spec PyProof.Rows
theorem one_sign {y : Str} {c : Nat} (h : L y = [c]) : y = ⟨#[c]⟩ := by
  have := T_L y
  rw [h] at this
  exact this.symm
theorem sub_L (z : Str) (i j : Nat) : Builtin.Str.strSub z i j = T (((L z).take j).drop i) := by
  have e : L (Builtin.Str.strSub z i j) = ((L z).take j).drop i := by
    show (z.cps.extract i j).toList = _
    rw [Array.toList_extract]
    show ((z.cps.toList).drop i).take (j - i) = _
    rw [List.drop_take]
    rfl
  rw [← e, T_L]
theorem take_while_all {f : Nat → Bool} : ∀ {l : List Nat}, (∀ c ∈ l, f c = true) → l.takeWhile f = l
  | [], _ => rfl
  | c :: r, h => by rw [List.takeWhile_cons_of_pos (h c (List.mem_cons_self ..)), take_while_all fun d hd => h d (List.mem_cons_of_mem _ hd)]
theorem take_while_lt {f : Nat → Bool} : ∀ {l : List Nat} {c : Nat}, c ∈ l → f c = false → (l.takeWhile f).length < l.length
  | d :: r, c, hc, h => by
    rw [List.takeWhile_cons]
    split
    · rename_i hd
      rcases List.mem_cons.mp hc with e | hc
      · rw [e, hd] at h
        cases h
      · have := take_while_lt hc h
        rw [List.length_cons, List.length_cons]
        omega
    · rw [List.length_cons, List.length_nil]
      omega
theorem drop_while_head {f : Nat → Bool} : ∀ {l : List Nat} {c : Nat}, c ∈ l → f c = false → ∃ d ∈ l.drop (l.takeWhile f).length, f d = false
  | d :: r, c, hc, h => by
    rw [List.takeWhile_cons]
    split
    · rename_i hd
      rcases List.mem_cons.mp hc with e | hc
      · rw [e, hd] at h
        cases h
      · obtain ⟨x, h1, h2⟩ := drop_while_head hc h
        exact ⟨x, by rw [List.length_cons, List.drop_succ_cons]; exact h1, h2⟩
    · rename_i hd
      exact ⟨d, List.mem_cons_self .., by simpa using hd⟩
theorem strip_nil (z y : Str) : L (Txt.stripChars z y) = [] ↔ ∀ c ∈ L z, y.cps.contains c = true := by
  have e0 : Txt.stripChars z y = T (((L z).take (stripHi y.cps.contains true z (stripLo y.cps.contains true z))).drop (stripLo y.cps.contains true z)) := by
    unfold Txt.stripChars Txt.stripBy
    by_cases hs : stripSame y.cps.contains true true z = true
    · rw [if_pos hs]
      unfold stripSame at hs
      rw [Bool.and_eq_true] at hs
      rw [eq_of_beq hs.1]
      have h2 := eq_of_beq hs.2
      rw [eq_of_beq hs.1] at h2
      rw [h2, ← L_len, List.take_length]
      exact (T_L z).symm
    · rw [if_neg hs]
      unfold stripped
      exact sub_L ..
  have elo : stripLo y.cps.contains true z = ((L z).takeWhile y.cps.contains).length := rfl
  have ehi : ∀ lo, stripHi y.cps.contains true z lo = (L z).length - (((L z).drop lo).reverse.takeWhile y.cps.contains).length := fun lo => by rw [L_len]; rfl
  rw [e0, L_T, ehi, elo]
  constructor
  · intro h c hc
    cases hg : y.cps.contains c with
    | true => rfl
    | false =>
      exfalso
      obtain ⟨d, hd, hd2⟩ := drop_while_head hc hg
      have l1 := take_while_lt hc hg
      have l2 := take_while_lt (f := y.cps.contains) (List.mem_reverse.mpr hd) hd2
      rw [List.length_reverse, List.length_drop] at l2
      have := congrArg List.length h
      rw [List.length_drop, List.length_take, List.length_nil] at this
      omega
  · intro h
    rw [take_while_all h, List.drop_eq_nil_of_le]
    rw [List.length_take]
    omega
section
variable {X : Cx}
def strV : List V → Hp → VK → Prop := fun xs H Q => match xs with
  | [.int i] => i.natAbs.log2 < 1920 ∧ Q (.str (T (numL i))) H
  | _ => False
theorem c_str : CallR X (.type "str") strV := by
  intro pins s σ H xs us Q I r h
  unfold strV at h
  split at h
  · rename_i i
    obtain ⟨hi, q⟩ := h
    obtain ⟨u, rfl, t, rfl⟩ := vals1 r
    have e : T (numL i) = (toString i : Str) := T_L _
    rw [e] at q
    exact PySem.P.str_of_int hi ⟨.str _, H, I.tok _, ⟨_, rfl⟩, q⟩
  · exact h.elim
def intW : List V → Hp → VK → Prop := fun xs H Q => match xs with
  | [.bl b] => Q (.int (b2i b)) H
  | [.int i] => Q (.int i) H
  | [.str z] => (L z).length ≤ 640 ∧ L z ≠ [] ∧ (∀ c ∈ L z, 48 ≤ c ∧ c ≤ 57) ∧ Q (.int (NumText.digitsVal (L z) : Nat)) H
  | _ => False
theorem c_intW : CallR X (.type "int") intW := by
  intro pins s σ H xs us Q I r h
  unfold intW at h
  split at h
  · exact c_int pins s σ H _ us Q I r h
  · exact c_int pins s σ H _ us Q I r h
  · rename_i z
    obtain ⟨hl, h0, hd, q⟩ := h
    obtain ⟨u, rfl, t, rfl⟩ := vals1 r
    rw [L_len] at hl
    exact PySem.W.KIN.call_text (intText_digits (x := z) hd h0 (by omega)) hl ⟨.int _, H, I.tok _, ⟨_, rfl⟩, q⟩
  · exact h.elim
def fndV : V → List V → Hp → VK → Prop := fun x vs H Q => match x, vs with
  | .str z, [.str y, .int i] => ∃ c, L y = [c] ∧ 0 ≤ i ∧ ∀ r : Int, ((r = -1 ∧ ∀ v, i.toNat ≤ v → (L z)[v]? ≠ some c) ∨ ∃ k : Nat, r = k ∧ i.toNat ≤ k ∧ (L z)[k]? = some c ∧ ∀ v, i.toNat ≤ v → v < k → (L z)[v]? ≠ some c) → Q (.int r) H
  | _, _ => False
theorem m_find : MtR X "str.find" fndV := by
  intro pins s σ H x vs v us Q I rx rv h
  unfold fndV at h
  split at h
  · rename_i z y i
    obtain ⟨c, hy, hi, q⟩ := h
    obtain ⟨t, rfl⟩ := rx
    obtain ⟨u, w, rfl, ⟨t', rfl⟩, t'', rfl⟩ := vals2 rv
    refine SC.find3 ⟨.int (Txt.find3 z y i), H, I.tok _, ⟨_, rfl⟩, q _ ?_⟩
    rw [one_sign hy]
    unfold Txt.find3
    have lo : ∀ v, i.toNat ≤ v → v < z.length → fromIndex z.length i ≤ v := fun v h1 h2 => by
      unfold fromIndex
      rw [if_neg (by omega)]
      omega
    have hi2 : ∀ v, fromIndex z.length i ≤ v → v < z.length → i.toNat ≤ v := fun v h1 h2 => by
      unfold fromIndex at h1
      rw [if_neg (by omega)] at h1
      omega
    have lt : ∀ {v}, (L z)[v]? = some c → v < z.length := fun e => by
      rw [← L_len]
      exact (List.getElem?_eq_some_iff.mp e).1
    rcases StrLaws.occ_head_from z ⟨#[c]⟩ (fromIndex z.length i) 1 (Nat.le_refl 1) with ⟨h0, hn⟩ | ⟨k, r, h0, hlo, hk, hn⟩
    · rw [h0]
      exact .inl ⟨rfl, fun v h1 e => hn v (lo v h1 (lt e)) ((StrLaws.subAt_one z c v).mpr e)⟩
    · rw [h0]
      have hm := (StrLaws.subAt_one z c k).mp hk
      exact .inr ⟨k, rfl, hi2 k hlo (lt hm), hm, fun v h1 h2 e => hn v (lo v h1 (lt e)) h2 ((StrLaws.subAt_one z c v).mpr e)⟩
  · exact h.elim
def prtV : V → List V → Hp → VK → Prop := fun x vs H Q => match x, vs with
  | .str z, [.str y] => ∃ c, L y = [c] ∧ (L z).length ≤ sizeLine ∧ (∀ k : Nat, (L z)[k]? = some c → (∀ v, v < k → (L z)[v]? ≠ some c) → ∀ p, H p = none → Q (.ref p) (upd H p (.tup [.str (T ((L z).take k)), .str (T [c]), .str (T ((L z).drop (k + 1)))]))) ∧
    ((∀ v : Nat, (L z)[v]? ≠ some c) → ∀ p, H p = none → Q (.ref p) (upd H p (.tup [.str z, .str (T []), .str (T [])])))
  | _, _ => False
theorem m_partition : MtR X "str.partition" prtV := by
  intro pins s σ H x vs v us Q I rx rv h
  unfold prtV at h
  split at h
  · rename_i z y
    obtain ⟨c, hy, hl, q1, q2⟩ := h
    obtain ⟨t, rfl⟩ := rx
    obtain ⟨u, rfl, t', rfl⟩ := vals1 rv
    have hy2 := one_sign hy
    subst hy2
    rw [L_len] at hl
    have hn := I.hok.fresh (Nat.le_refl s.heap.objs.size)
    refine call_meets F.slot_str_partition (typeIs_str _ _ _) F.entry_str_partition (F.args_str_partition_2 _ _) (meets_str_partition z ⟨#[c]⟩ t t' rfl hl) ?_
    rcases StrLaws.occ_head z ⟨#[c]⟩ 1 (Nat.le_refl 1) with ⟨h0, h1⟩ | ⟨k, r, h0, hk, h1⟩
    · rw [h0]
      refine ⟨.ref s.heap.objs.size, _, ?_, rfl, q2 (fun v e => h1 v ((StrLaws.subAt_one z c v).mpr e)) _ hn⟩
      refine I.laid (fun b o e => Heap.get?_push_of_some _ e) (Nat.le_refl _) ⟨by simp only [List.length_cons, List.length_nil]; rw [sizeLine_eq]; decide, [.str z t, .str Str.empty s.toks, .str Str.empty s.toks], .cons ⟨_, rfl⟩ (.cons ⟨_, rfl⟩ (.cons ⟨_, rfl⟩ .nil)), ?_⟩
      exact ⟨_, Heap.get?_push_size s.heap rfl, rfl, 0, rfl⟩
    · rw [h0]
      have hm := (StrLaws.subAt_one z c k).mp hk
      refine ⟨.ref s.heap.objs.size, _, ?_, rfl, q1 k hm (fun v h2 e => h1 v h2 ((StrLaws.subAt_one z c v).mpr e)) _ hn⟩
      refine I.laid (fun b o e => Heap.get?_push_of_some _ e) (Nat.le_refl _) ⟨by simp only [List.length_cons, List.length_nil]; rw [sizeLine_eq]; decide, [.str (Builtin.Str.strSub z 0 k) s.toks, .str ⟨#[c]⟩ t', .str (Builtin.Str.strSub z (k + 1) z.length) (s.toks + 1)], .cons ⟨s.toks, ?_⟩ (.cons ⟨_, rfl⟩ (.cons ⟨s.toks + 1, ?_⟩ .nil)), ?_⟩
      · rw [sub_L]
        rfl
      · rw [sub_L, ← L_len, List.take_length]
      · exact ⟨_, Heap.get?_push_size s.heap rfl, rfl, 0, rfl⟩
  · exact h.elim
def stpV : V → List V → Hp → VK → Prop := fun x vs H Q => match x, vs with
  | .str z, [.str y] => (L z).length ≤ sizeLine ∧ ∀ l : List Nat, (l = [] ↔ ∀ c ∈ L z, c ∈ L y) → Q (.str (T l)) H
  | _, _ => False
theorem m_strip : MtR X "str.strip" stpV := by
  intro pins s σ H x vs v us Q I rx rv h
  unfold stpV at h
  split at h
  · rename_i z y
    obtain ⟨hl, q⟩ := h
    obtain ⟨t, rfl⟩ := rx
    obtain ⟨u, rfl, t', rfl⟩ := vals1 rv
    rw [L_len] at hl
    refine SC.stripChars (fun t2 k => ⟨.str (T (L (Txt.stripChars z y))), H, I.tok _, ⟨_, by rw [T_L]⟩, q _ ?_⟩) hl
    rw [strip_nil]
    refine forall_congr' fun c => forall_congr' fun _ => ?_
    show (y.cps.contains c = true) ↔ c ∈ y.cps.toList
    rw [Array.contains_iff, Array.mem_toList_iff]
  · exact h.elim
end
section
variable {X : Cx}
variable {elt iter : Expr} {ifs : List Expr} {u v : Str} {pu pv : Pos} {scope : Scope} {pos : Pos} {cl : List (Str × Addr)} {own : List Str} {cp : List (Str × Nat)} {ta : TA} {tl : TE} {tc : TT} {te : TE}
theorem ps_compP {K : PySem.W.Frag} {i₀ : Nat} {y₀ : Str} {p₀ p₁ : Pos} {k : Nat} {tp : Pos} (hK : X.K = K) (hc : X.calm = true) (hcl : closL scope.names X.env.cells [] = some cl) (hk : scope.kind = .function) (hnc : ∀ y ∈ scope.names, y.2 ≠ .cell)
    (hnm : ∀ x ∈ scope.names, x.2 = .local → scope.names.lookup x.1 = some .local) (hcp : CapOk X scope cp) (hl : PE X iter tl) (hn : 1 < own.length)
    (gu : ∀ fp C s H, PG (cxC X scope cl (own ++ cp.map (·.1)) fp C s H) (.Name u pu) (gName 0)) (gv : ∀ fp C s H, PG (cxC X scope cl (own ++ cp.map (·.1)) fp C s H) (.Name v pv) (gName 1))
    (ht : ∀ fp C s H, PFs (cxC X scope cl (own ++ cp.map (·.1)) fp C s H) ifs tc) (he : ∀ fp C s H, PE (cxC X scope cl (own ++ cp.map (·.1)) fp C s H) elt te)
    (hN : X.N.Nodup) (hi₀ : X.N[i₀]? = some y₀) (hx₀ : X.env.scope.names.lookup y₀ = some .local) (hsw : swapsWith (.ListComp elt [⟨.Tuple [.Name u pu, .Name v pv] k tp, iter, ifs, 0⟩] scope pos) (some (.Name y₀ p₀)) p₁.line X.env = pure true := by rfl)
    (hs : ∀ z, foldedSetIterable iter X.env z = pure z := by intro _; rfl)
    (h1 : ∀ C, (assignEach [.Name u pu, .Name v pv] (compEnvC scope cl C X.env)).map (·.2) = assign (.Name u pu) (compEnvC scope cl C X.env) :: (assignEach [.Name v pv] (compEnvC scope cl C X.env)).map (·.2) := by intro _; rfl) (h2 : ∀ C, (assignEach [.Name v pv] (compEnvC scope cl C X.env)).map (·.2) = assign (.Name v pv) (compEnvC scope cl C X.env) :: (assignEach [] (compEnvC scope cl C X.env)).map (·.2) := by intro _; rfl)
    (h3 : ∀ C, (assignEach [.Name u pu, .Name v pv] (compEnvC scope cl C X.env)).length = 2 := by intro _; rfl) (h4 : ∀ C, (assignEach [.Name u pu, .Name v pv] (compEnvC scope cl C X.env)).findIdx? (·.1) = none := by intro _; rfl) :
    PS X (.Assign [.Name y₀ p₀] (.ListComp elt [⟨.Tuple [.Name u pu, .Name v pv] k tp, iter, ifs, 0⟩] scope pos) p₁) (tAsg (tCP K own.length cp tl tc te) (gName i₀)) := by
  subst hK
  have hl' : PE X iter (fun σ H Q => ∃ Q0 : VK, tl σ H Q0 ∧ ∀ v H', Q0 v H' → Q v H') := hl.imp fun σ H Q h => h
  intro pins s σ H D I h
  refine ps_comp hc hcl hk hnc hnm hcp (pi_list hl') (gk_2 (i := 0) (j := 1) (by omega) (by omega)) (pg_2 (hc := hc) gu gv h1 h2 h3 h4) (fun fp C s H => (ht fp C s H).imp (t' := cloT tc) fun _ _ _ z => z) (fun fp C s H => (he fp C s H).imp (t' := cloE te) fun _ _ _ z => z) hN hi₀ hx₀ hsw hs pins s σ H D I ?_
  refine ⟨_, h, fun v H1 q => ?_⟩
  cases v with
  | ref a =>
    obtain ⟨xs, hx, hz, Pv, p0, pl, ps, pe⟩ := q
    have hsl : sizeLine = 16777216 := sizeLine_eq
    refine ⟨a, rfl, ⟨xs, hx⟩, fun i m H2 acc => m = xs.length - i ∧ i ≤ xs.length ∧ acc.length ≤ i ∧ Pv i H2 acc, ⟨xs.length, by omega, Nat.zero_le _, Nat.le_refl _, p0⟩, ?_⟩
    rintro i m H2 acc ⟨rfl, hi, hla, pv'⟩
    refine ⟨by omega, ?_⟩
    have hx2 := pl i H2 acc hi pv'
    by_cases hlt : i < xs.length
    · refine .inr ⟨⟨xs, xs[i], hx2, by simp [hlt]⟩, fun y H3 ⟨e3, ey⟩ => ?_⟩
      subst e3
      obtain ⟨t, x0, y0, e4, e5, q1⟩ := ps i y H3 acc (ey xs hx2) pv'
      subst e4
      refine ⟨t, _, rfl, e5, rfl, _, _, rfl, _, _, rfl, rfl, ?_⟩
      exact oneC_clo (N' := fun H a => ∃ m', m' < xs.length - i ∧ (m' = xs.length - (i + 1) ∧ i + 1 ≤ xs.length ∧ a.length ≤ i + 1 ∧ Pv (i + 1) H a)) (fun H a ha z => ⟨xs.length - (i + 1), by omega, rfl, hlt, by omega, z⟩) q1
    · have e : i = xs.length := by omega
      subst e
      exact .inl ⟨⟨xs, hx2, Nat.le_refl _⟩, fun l hl' => pe H2 acc pv' l hl'⟩
  | _ => exact False.elim q
end
end L2
set_option maxRecDepth 100000
namespace LP
open PySem L2
theorem good_tail {a : Nat × Nat} {r : List (Nat × Nat)} (g : GoodR (a :: r)) : GoodR r := ⟨fun x hx => g.1 x (List.mem_cons_of_mem _ hx), fun j x y h1 h2 => g.2 (j + 1) x y (by simpa using h1) (by simpa using h2)⟩
theorem flat_cons (a : Nat × Nat) (r : List (Nat × Nat)) : flat (a :: r) = List.replicate a.2 a.1 ++ flat r := by
  unfold flat
  rw [List.map_cons, List.flatten_cons]
theorem flat_head {r : List (Nat × Nat)} {c : Nat} {t : List Nat} (g : GoodR r) (h : flat r = c :: t) : ∃ n q, r = (c, n) :: q := by
  cases r with
  | nil => cases h
  | cons a q =>
    have h1 := g.1 a (List.mem_cons_self ..)
    rw [flat_cons, show a.2 = (a.2 - 1) + 1 by omega, List.replicate_succ, List.cons_append] at h
    have e := (List.cons.inj h).1
    exact ⟨a.2, q, by rw [← e]⟩
theorem good_unique : ∀ {a b : List (Nat × Nat)}, GoodR a → GoodR b → flat a = flat b → a = b
  | [], [], _, _, _ => rfl
  | [], b :: r, _, g, h => by
    have := g.1 b (List.mem_cons_self ..)
    rw [flat_cons, show b.2 = (b.2 - 1) + 1 by omega, List.replicate_succ] at h
    cases h
  | a :: q, [], g, _, h => by
    have := g.1 a (List.mem_cons_self ..)
    rw [flat_cons, show a.2 = (a.2 - 1) + 1 by omega, List.replicate_succ] at h
    cases h
  | (c, n) :: q, (d, m) :: r, g1, g2, h => by
    have n1 : 1 ≤ n := g1.1 (c, n) (List.mem_cons_self ..)
    have m1 : 1 ≤ m := g2.1 (d, m) (List.mem_cons_self ..)
    rw [flat_cons, flat_cons] at h
    have ecd : c = d := by
      have h' := h
      rw [show n = (n - 1) + 1 by omega, show m = (m - 1) + 1 by omega, List.replicate_succ, List.replicate_succ, List.cons_append, List.cons_append] at h'
      exact (List.cons.inj h').1
    subst ecd
    have key : ∀ {n m : Nat} {q r : List (Nat × Nat)}, GoodR ((c, n) :: q) → n < m → List.replicate n c ++ flat q ≠ List.replicate m c ++ flat r := fun {n m q r} g lt e => by
      have e1 : flat q = List.replicate (m - n) c ++ flat r := by
        rw [show m = n + (m - n) by omega, List.replicate_append_replicate.symm, List.append_assoc] at e
        exact List.append_cancel_left e
      rw [show m - n = (m - n - 1) + 1 by omega, List.replicate_succ, List.cons_append] at e1
      obtain ⟨k, q2, rfl⟩ := flat_head (good_tail g) e1
      exact g.2 0 (c, n) (c, k) rfl rfl rfl
    have enm : n = m := by
      rcases Nat.lt_trichotomy n m with z | z | z
      · exact absurd h (key g1 z)
      · exact z
      · exact absurd h.symm (key g2 z)
    subst enm
    rw [good_unique (good_tail g1) (good_tail g2) (List.append_cancel_left h)]
def wr (rs : List (Nat × Nat)) : List Nat := (rs.map fun r => r.1 :: (numL (r.2 : Nat) ++ [59])).flatten
theorem wr_snoc (rs : List (Nat × Nat)) (r : Nat × Nat) : wr (rs ++ [r]) = wr rs ++ (r.1 :: (numL (r.2 : Nat) ++ [59])) := by
  unfold wr
  rw [List.map_append, List.flatten_append, List.map_singleton, List.flatten_singleton]
theorem nums : ∀ n : Nat, n < 301 → (numL (n : Int)).length ≤ 3 ∧ 1 ≤ (numL (n : Int)).length ∧ (∀ c ∈ numL (n : Int), 48 ≤ c ∧ c ≤ 57) ∧ ((numL (n : Int)).getD 0 0 = 48 → numL (n : Int) = [48]) ∧ NumText.digitsVal (numL (n : Int)) = n := by decide +kernel
theorem flat_mem_le {rs : List (Nat × Nat)} {r : Nat × Nat} (h : r ∈ rs) (hl : (flat rs).length ≤ 300) : r.2 < 301 := by
  have := flat_len_le h
  omega
theorem runs_le : ∀ {rs : List (Nat × Nat)}, GoodR rs → rs.length ≤ (flat rs).length
  | [], _ => Nat.le_refl _
  | a :: r, g => by
    have h1 := g.1 a (List.mem_cons_self ..)
    have := runs_le (good_tail g)
    rw [flat_cons, List.length_append, List.length_replicate, List.length_cons]
    omega
theorem wr_len : ∀ {rs : List (Nat × Nat)}, (∀ r ∈ rs, r.2 < 301) → (wr rs).length ≤ 5 * rs.length
  | [], _ => Nat.le_refl _
  | a :: r, h => by
    have h1 := (nums a.2 (h a (List.mem_cons_self ..))).1
    have := wr_len (rs := r) fun x hx => h x (List.mem_cons_of_mem _ hx)
    have e : wr (a :: r) = (a.1 :: (numL (a.2 : Nat) ++ [59])) ++ wr r := by
      unfold wr
      rw [List.map_cons, List.flatten_cons]
    rw [e, List.length_append, List.length_cons, List.length_append, List.length_singleton, List.length_cons]
    omega
theorem nlog : ∀ n : Nat, n < 301 → ((n : Int)).natAbs.log2 < 1920 := by decide +kernel
theorem flat_sum : ∀ rs : List (Nat × Nat), (rs.map fun r => ((r.2 : Nat) : Int)).sum = ((flat rs).length : Int)
  | [] => rfl
  | a :: r => by
    rw [List.map_cons, List.sum_cons, flat_sum r, flat_cons, List.length_append, List.length_replicate]
    omega
theorem flat_rep (rs : List (Nat × Nat)) : (rs.map fun r => rep r.2 [r.1]).flatten = flat rs := by
  unfold flat
  congr 1
  refine List.map_congr_left fun r _ => ?_
  exact rep_one _ _
end LP
set_option maxRecDepth 100000
namespace L2
open PySem PySem.Spec PyProof.Rows
section
variable {X : Cx}
def eqN (K : PySem.W.Frag) (neg : Bool) : R2 := fun x y H Q => match x, y with
  | .ref a, .ref b => ∃ xs, SqL K H a xs ∧ SqL K H b [] ∧ Q (.bl (neg != decide (xs.length = 0))) H
  | _, _ => False
theorem o_eqN {K : PySem.W.Frag} {k : Nat} (hK : X.K = K) (hr : Room k X.A) : OpR X (compareOp .Eq) (eqN K false) := by
  subst hK
  intro pins s σ H x y v u Q I rx ry h
  unfold eqN at h
  split at h
  · rename_i a b
    obtain ⟨xs, q1, q2, q⟩ := h
    cases rx
    cases ry
    obtain ⟨its, r1, p1, z1⟩ := I.list q1
    obtain ⟨ist, r2, p2, z2⟩ := I.list q2
    have l1 := r1.length
    have l2 := r2.length
    rw [List.length_nil] at l2
    have hu : X.A.units < cLine := by have := hr.un; omega
    rw [Bool.false_bne] at q
    by_cases hs : xs.length = 0
    · refine SeqAt.eq_listAt (e := fun _ => true) p1.isList p2.isList (by simp; omega) hu (fun j h1 h2 => by simp at h2; omega) ?_
      rw [decide_eq_true hs] at q
      rw [List.size_toArray, ← l1, hs]
      exact fin_bl I q rfl
    · refine SeqAt.eq_list_lengthsAt p1.isList p2.isList (by simp; omega) hu ?_
      rw [decide_eq_false hs] at q
      exact fin_bl I q rfl
  · exact h.elim
theorem o_neN {K : PySem.W.Frag} {k : Nat} (hK : X.K = K) (hr : Room k X.A) : OpR X (compareOp .NotEq) (eqN K true) := by
  subst hK
  intro pins s σ H x y v u Q I rx ry h
  unfold eqN at h
  split at h
  · rename_i a b
    obtain ⟨xs, q1, q2, q⟩ := h
    cases rx
    cases ry
    obtain ⟨its, r1, p1, z1⟩ := I.list q1
    obtain ⟨ist, r2, p2, z2⟩ := I.list q2
    have l1 := r1.length
    have l2 := r2.length
    rw [List.length_nil] at l2
    have hu : X.A.units < cLine := by have := hr.un; omega
    rw [Bool.true_bne] at q
    by_cases hs : xs.length = 0
    · refine SeqAt.RcNeAt.lists (e := fun _ => true) p1.isList p2.isList (by simp; omega) hu (fun j h1 h2 => by simp at h2; omega) _ _ _ _ ?_
      rw [decide_eq_true hs] at q
      rw [List.size_toArray, ← l1, hs]
      exact fin_bl I q rfl
    · refine SeqAt.RcNeAt.lists_lengths p1.isList p2.isList (by simp; omega) hu _ _ _ _ ?_
      rw [decide_eq_false hs] at q
      exact fin_bl I q rfl
  · exact h.elim
theorem occ_mem (x : Str) (c : Nat) : (Builtin.Str.occurrences x ⟨#[c]⟩ 0 x.length 1).isEmpty = decide (c ∉ L x) := by
  rcases StrLaws.occ_head x ⟨#[c]⟩ 1 (Nat.le_refl 1) with ⟨h0, h1⟩ | ⟨k, r, h0, hk, h1⟩
  · rw [h0, decide_eq_true]
    · rfl
    · intro hc
      obtain ⟨v, hv⟩ := List.mem_iff_getElem?.mp hc
      exact h1 v ((StrLaws.subAt_one x c v).mpr hv)
  · rw [h0, decide_eq_false]
    · rfl
    · intro hc
      exact hc (List.mem_of_getElem? ((StrLaws.subAt_one x c k).mp hk))
def inT (neg : Bool) : R2 := fun x y H Q => match x, y with
  | .str i, .str j => ∃ c, L i = [c] ∧ Q (.bl (neg != decide (c ∈ L j))) H
  | _, _ => False
theorem o_ninT : OpR X (compareOp .NotIn) (inT true) := by
  intro pins s σ H x y v u Q I rx ry h
  unfold inT at h
  split at h
  · rename_i i j
    obtain ⟨c, hc, q⟩ := h
    refine op_notin_str pins s σ H _ _ v u Q I rx ry ⟨i, j, rfl, rfl, ?_⟩
    rw [one_sign hc, occ_mem]
    by_cases hm : c ∈ L j <;> simp [hm] at q ⊢ <;> exact q
  · exact h.elim
end
end L2
namespace LP
open PySem L2 NumText
def GoodN (l : List Nat) : Prop := 1 ≤ l.length ∧ l.length ≤ 9 ∧ (∀ c ∈ l, 48 ≤ c ∧ c ≤ 57) ∧ (l.getD 0 0 = 48 → l = [48])
theorem numL_digits (n : Nat) : numL (n : Int) = (Nat.toDigits 10 n).map Char.toNat := PySem.W.KIN.signs_num n
theorem numL_val (n : Nat) : digitsVal (numL (n : Int)) = n := by
  rw [numL_digits]
  exact PySem.W.KIN.val_back n
theorem numL_inj {n m : Nat} (h : numL (n : Int) = numL (m : Int)) : n = m := by rw [← numL_val n, h, numL_val]
theorem numL_dig (n : Nat) : ∀ c ∈ numL (n : Int), 48 ≤ c ∧ c ≤ 57 := by
  intro c hc
  rw [numL_digits] at hc
  obtain ⟨ch, hch, e⟩ := List.mem_map.mp hc
  have r := PyProof.Rows.digit_range (Nat.isDigit_of_mem_toDigits (by decide) (by decide) hch)
  rw [← e]
  exact r
theorem good_num {l : List Nat} (g : GoodN l) : numL ((digitsVal l : Nat) : Int) = l := by
  obtain ⟨h1, h2, h3, h4⟩ := g
  have key : Nat.toDigits 10 (digitsVal l) = l.map Char.ofNat := by
    cases l with
    | nil => cases h1
    | cons c r =>
      refine toDigits_digitsVal r.length (c :: r) rfl h3 ?_
      by_cases e : c = 48
      · have := h4 (by rw [e]; rfl)
        exact .inl (by rw [(List.cons.inj this).2]; rfl)
      · have := h3 c (List.mem_cons_self ..)
        exact .inr ⟨c, r, rfl, by omega⟩
  rw [numL_digits, key, List.map_map]
  refine (List.map_congr_left fun c hc => ?_).trans (List.map_id _)
  have := h3 c hc
  have : c = 48 ∨ c = 49 ∨ c = 50 ∨ c = 51 ∨ c = 52 ∨ c = 53 ∨ c = 54 ∨ c = 55 ∨ c = 56 ∨ c = 57 := by omega
  rcases this with rfl | rfl | rfl | rfl | rfl | rfl | rfl | rfl | rfl | rfl <;> rfl
theorem num_good {n : Nat} (h : n < 301) : GoodN (numL (n : Int)) := by
  obtain ⟨a, b, c, d, e⟩ := nums n h
  exact ⟨b, by omega, c, d⟩
theorem split_at {s : Nat} : ∀ {a b x y : List Nat}, (∀ c ∈ a, c ≠ s) → (∀ c ∈ b, c ≠ s) → a ++ s :: x = b ++ s :: y → a = b ∧ x = y
  | [], [], x, y, _, _, h => ⟨rfl, (List.cons.inj h).2⟩
  | [], d :: b, x, y, _, hb, h => absurd (List.cons.inj h).1.symm (hb d (List.mem_cons_self ..))
  | c :: a, [], x, y, ha, _, h => absurd (List.cons.inj h).1 (ha c (List.mem_cons_self ..))
  | c :: a, d :: b, x, y, ha, hb, h => by
    obtain ⟨e1, e2⟩ := List.cons.inj h
    obtain ⟨e3, e4⟩ := split_at (fun z hz => ha z (List.mem_cons_of_mem _ hz)) (fun z hz => hb z (List.mem_cons_of_mem _ hz)) e2
    exact ⟨by rw [e1, e3], e4⟩
theorem wr_cons (a : Nat × Nat) (r : List (Nat × Nat)) : wr (a :: r) = a.1 :: (numL (a.2 : Nat) ++ 59 :: wr r) := by
  unfold wr
  rw [List.map_cons, List.flatten_cons]
  simp
theorem no59 (n : Nat) : ∀ c ∈ numL (n : Int), c ≠ 59 := fun c hc w => by
  have := numL_dig n c hc
  omega
theorem no32 (n : Nat) : ∀ c ∈ numL (n : Int), c ≠ 32 := fun c hc w => by
  have := numL_dig n c hc
  omega
theorem wr_head {rs : List (Nat × Nat)} {c : Nat} {t : List Nat} (h : wr rs = c :: t) : ∃ n rs', rs = (c, n) :: rs' ∧ t = numL (n : Int) ++ 59 :: wr rs' := by
  cases rs with
  | nil => cases h
  | cons a r =>
    rw [wr_cons] at h
    obtain ⟨e1, e2⟩ := List.cons.inj h
    exact ⟨a.2, r, by rw [← e1], e2.symm⟩
theorem wr_prefix : ∀ {done rs : List (Nat × Nat)} {rest : List Nat}, wr rs = wr done ++ rest → ∃ tail, rs = done ++ tail ∧ rest = wr tail
  | [], rs, rest, h => ⟨rs, rfl, h.symm⟩
  | d :: done, rs, rest, h => by
    rw [wr_cons, List.cons_append] at h
    obtain ⟨n, rs', rfl, e⟩ := wr_head h
    rw [List.append_assoc, List.cons_append] at e
    obtain ⟨e1, e2⟩ := split_at (no59 d.2) (no59 n) e
    obtain ⟨tail, e3, e4⟩ := wr_prefix e2.symm
    refine ⟨tail, ?_, e4⟩
    rw [e3, ← numL_inj e1]
    rfl
def Prt (s : Nat) (l w0 b w2 : List Nat) : Prop := (b = [s] ∧ l = w0 ++ s :: w2 ∧ ∀ c ∈ w0, c ≠ s) ∨ (b = [] ∧ (∀ c ∈ l, c ≠ s) ∧ w0 = l ∧ w2 = [])
theorem prt_at {s : Nat} {l : List Nat} {k : Nat} (hk : l[k]? = some s) (hn : ∀ v, v < k → l[v]? ≠ some s) : Prt s l (l.take k) [s] (l.drop (k + 1)) := by
  refine .inl ⟨rfl, ?_, fun c hc w => ?_⟩
  · obtain ⟨hi, e⟩ := List.getElem?_eq_some_iff.mp hk
    rw [← e, List.getElem_cons_drop, List.take_append_drop]
  · obtain ⟨v, hv⟩ := List.mem_iff_getElem?.mp hc
    have lt := (List.getElem?_eq_some_iff.mp hv).1
    rw [List.length_take] at lt
    rw [List.getElem?_take_of_lt (by omega), w] at hv
    exact hn v (by omega) hv
theorem prt_no {s : Nat} {l : List Nat} (h : ∀ v : Nat, l[v]? ≠ some s) : Prt s l l [] [] := .inr ⟨rfl, fun c hc w => by
  obtain ⟨v, hv⟩ := List.mem_iff_getElem?.mp hc
  exact h v (w ▸ hv), rfl, rfl⟩
theorem prt_in {s : Nat} {l w0 b w2 a x : List Nat} (p : Prt s l w0 b w2) (ha : ∀ c ∈ a, c ≠ s) (h : l = a ++ s :: x) : b = [s] ∧ w0 = a ∧ w2 = x := by
  rcases p with ⟨e, h1, h2⟩ | ⟨e, h1, _, _⟩
  · obtain ⟨e1, e2⟩ := split_at h2 ha (h1.symm.trans h)
    exact ⟨e, e1, e2⟩
  · exact absurd rfl (h1 s (by rw [h]; simp))
def Pk (l : List Nat) (h : Nat) (rs : List (Nat × Nat)) : Prop := GoodR rs ∧ (flat rs).length ≤ 300 ∧ h ≤ (flat rs).length ∧ l = numL (h : Int) ++ 32 :: wr rs
theorem pk_in {l w0 b w2 : List Nat} {h : Nat} {rs : List (Nat × Nat)} (k : Pk l h rs) (p : Prt 32 l w0 b w2) : b = [32] ∧ w0 = numL (h : Int) ∧ w2 = wr rs := prt_in p (no32 h) k.2.2.2
theorem flat_app (a b : List (Nat × Nat)) : flat (a ++ b) = flat a ++ flat b := by
  unfold flat
  rw [List.map_append, List.flatten_append]
theorem flat_last {rs : List (Nat × Nat)} {a : Nat × Nat} (g : GoodR rs) (h : rs.getLast? = some a) : (flat rs).getLast? = some a.1 := by
  obtain ⟨q, rfl⟩ : ∃ q, rs = q ++ [a] := ⟨rs.dropLast, by
    cases rs with
    | nil => cases h
    | cons x r =>
      rw [List.getLast?_eq_some_getLast (by simp)] at h
      rw [← Option.some.inj h, List.dropLast_concat_getLast]⟩
  have h1 := g.1 a (by simp)
  rw [flat_append, show a.2 = (a.2 - 1) + 1 by omega, List.replicate_succ', ← List.append_assoc, List.getLast?_concat]
theorem numL_len {i : Int} (h : i.natAbs.log2 < 1920) : (numL i).length ≤ 1921 := by
  have := PyProof.Rows.int_text_len_1921 h
  rw [← L_len] at this
  exact this
theorem log_lt {i : Int} (h0 : 0 ≤ i) (h1 : i < 10 ^ 40) : i.natAbs.log2 < 1920 := by
  by_cases e : i.natAbs = 0
  · rw [e]
    decide
  · rw [Nat.log2_lt e]
    have big : (10 : Int) ^ 40 < ((2 ^ 1920 : Nat) : Int) := by decide +kernel
    have e2 : ((i.natAbs : Nat) : Int) < ((2 ^ 1920 : Nat) : Int) := by
      rw [Int.natAbs_of_nonneg h0]
      exact Int.lt_trans h1 big
    exact Int.ofNat_lt.mp e2
def RAt (H : Hp) (a : Addr) : Prop := ∃ ts : List Addr, H a = some (.lst (ts.map V.ref)) ∧ ts.length ≤ 25 ∧ ∀ t ∈ ts, ∃ c n : Nat, H t = some (.tup [.str (T [c]), .int (n : Int)]) ∧ 1 ≤ n ∧ n ≤ 300
theorem RAt.same {H H' : Hp} {a : Addr} (h : RAt H a) (sm : Same H H') : RAt H' a := by
  obtain ⟨ts, h1, h2, h3⟩ := h
  refine ⟨ts, sm _ _ h1, h2, fun t ht => ?_⟩
  obtain ⟨c, n, e, r⟩ := h3 t ht
  exact ⟨c, n, sm _ _ e, r⟩
def TAt (m : Nat) (H : Hp) (a : Addr) : Prop := ∃ ts : List Addr, H a = some (.lst (ts.map V.ref)) ∧ ts.length ≤ m ∧ ∀ t ∈ ts, ∃ x y : List Nat, H t = some (.tup [.str (T x), .str (T y)]) ∧ x.length ≤ 1 ∧ y.length ≤ 2500
theorem TAt.same {m : Nat} {H H' : Hp} {a : Addr} (h : TAt m H a) (sm : Same H H') : TAt m H' a := by
  obtain ⟨ts, h1, h2, h3⟩ := h
  refine ⟨ts, sm _ _ h1, h2, fun t ht => ?_⟩
  obtain ⟨x, y, e, r⟩ := h3 t ht
  exact ⟨x, y, sm _ _ e, r⟩
theorem wr_len_ge : ∀ rs : List (Nat × Nat), rs.length ≤ (wr rs).length
  | [] => Nat.le_refl _
  | a :: r => by
    have := wr_len_ge r
    rw [wr_cons, List.length_cons, List.length_cons, List.length_append, List.length_cons]
    omega
theorem wr_inj {a b : List (Nat × Nat)} (h : wr a = wr b) : a = b := by
  obtain ⟨tail, e1, e2⟩ := wr_prefix (done := b) (rs := a) (rest := []) (by rw [List.append_nil]; exact h)
  cases tail with
  | nil => rw [e1, List.append_nil]
  | cons x y => rw [wr_cons] at e2; cases e2
theorem prt_len {s : Nat} {l w0 b w2 : List Nat} (p : Prt s l w0 b w2) : w0.length ≤ l.length ∧ w2.length ≤ l.length := by
  rcases p with ⟨_, h, _⟩ | ⟨_, _, h1, h2⟩
  · rw [h, List.length_append, List.length_cons]
    omega
  · rw [h1, h2]
    exact ⟨Nat.le_refl _, Nat.zero_le _⟩
theorem fnd_rest {l pre t : List Nat} {c : Nat} {r : Int} (hl : l = pre ++ c :: t)
    (h : (r = -1 ∧ ∀ v, pre.length + 1 ≤ v → l[v]? ≠ some 59) ∨ ∃ k : Nat, r = k ∧ pre.length + 1 ≤ k ∧ l[k]? = some 59 ∧ ∀ v, pre.length + 1 ≤ v → v < k → l[v]? ≠ some 59) :
    (r = -1 ∧ ∀ x ∈ t, x ≠ 59) ∨ ∃ w t', t = w ++ 59 :: t' ∧ (∀ x ∈ w, x ≠ 59) ∧ r = ((pre.length + 1 + w.length : Nat) : Int) := by
  have at_ : ∀ v : Nat, l[pre.length + 1 + v]? = t[v]? := fun v => by
    rw [hl, List.getElem?_append_right (by omega), show pre.length + 1 + v - pre.length = v + 1 by omega, List.getElem?_cons_succ]
  rcases h with ⟨e, h⟩ | ⟨k, e, h1, h2, h3⟩
  · refine .inl ⟨e, fun x hx w => ?_⟩
    obtain ⟨v, hv⟩ := List.mem_iff_getElem?.mp hx
    exact h (pre.length + 1 + v) (by omega) (by rw [at_, hv, w])
  · have ek : k = pre.length + 1 + (k - (pre.length + 1)) := by omega
    rw [ek, at_] at h2
    rcases prt_at h2 (fun v hv w => h3 (pre.length + 1 + v) (by omega) (by omega) (by rw [at_, w])) with ⟨_, e1, e2⟩ | ⟨w, _⟩
    · refine .inr ⟨_, _, e1, e2, ?_⟩
      have lt := (List.getElem?_eq_some_iff.mp h2).1
      rw [e, List.length_take]
      omega
    · cases w
theorem cut_last (l : List Nat) : cut l (some (-1)) none = l.getLast?.toList := by
  unfold cut
  show (l.drop (if (-1 : Int) < 0 then ((-1 : Int) + (l.length : Int)).toNat else min (-1 : Int).toNat l.length)).take (l.length - (if (-1 : Int) < 0 then ((-1 : Int) + (l.length : Int)).toNat else min (-1 : Int).toNat l.length)) = l.getLast?.toList
  rw [if_pos (by decide)]
  rcases List.eq_nil_or_concat l with rfl | ⟨q, x, rfl⟩
  · rfl
  · rw [List.concat_eq_append, List.getLast?_concat, List.length_append, List.length_singleton, show ((-1 : Int) + ((q.length + 1 : Nat) : Int)).toNat = q.length by omega, List.drop_left, show q.length + 1 - q.length = 1 by omega]
    rfl
theorem tup_keep {H : Hp} {p tt t : Addr} {xs ys : List V} {o o2 : HO} (h : H t = some (.tup xs)) (hp : H p = some (.lst ys)) (htt : H tt = none) : upd (upd H tt o) p o2 t = some (.tup xs) := by
  have n1 : t ≠ p := fun w => by
    rw [w, hp] at h
    cases h
  rw [upd_ne n1, upd_ne (ne_of_none h htt)]
  exact h
theorem lst_keep {H : Hp} {p tt t : Addr} {xs : List V} {o o2 : HO} (h : H t = some (.lst xs)) (n : t ≠ p) (htt : H tt = none) : upd (upd H tt o) p o2 t = some (.lst xs) := by
  rw [upd_ne n, upd_ne (ne_of_none h htt)]
  exact h
def Ru (H : Hp) (us : List Addr) : Prop := ∀ t ∈ us, ∃ c n : Nat, H t = some (.tup [.str (T [c]), .int (n : Int)]) ∧ 1 ≤ n ∧ n ≤ 300
theorem ru_nil (H : Hp) : Ru H [] := fun t ht => by cases ht
theorem ru_snoc {H : Hp} {us : List Addr} {ys : List V} {p tt : Addr} {d k : Nat} {o2 : HO} (hu : Ru H us) (hp : H p = some (.lst ys)) (htt : H tt = none) (k1 : 1 ≤ k) (k2 : k ≤ 300) : Ru (upd (upd H tt (.tup [.str (T [d]), .int (k : Int)])) p o2) (us ++ [tt]) := by
  intro t ht
  rcases List.mem_append.mp ht with y | y
  · obtain ⟨c1, n1, e1, r1⟩ := hu t y
    exact ⟨c1, n1, tup_keep e1 hp htt, r1⟩
  · rw [List.mem_singleton.mp y]
    exact ⟨d, k, by rw [upd_ne (Ne.symm (ne_of_none hp htt)), upd_same], k1, k2⟩
def Tu (H : Hp) (us : List Addr) : Prop := ∀ t ∈ us, ∃ x y : List Nat, H t = some (.tup [.str (T x), .str (T y)]) ∧ x.length ≤ 1 ∧ y.length ≤ 2000
theorem Tu.tat {H : Hp} {us : List Addr} {p : Addr} (h : Tu H us) (hp : H p = some (.lst (us.map V.ref))) (hl : us.length ≤ 100) : TAt 100 H p := ⟨us, hp, hl, fun t ht => by
  obtain ⟨x, y, e, a, b⟩ := h t ht
  exact ⟨x, y, e, a, by omega⟩⟩
theorem Tu.same {H H' : Hp} {us : List Addr} (h : Tu H us) (sm : Same H H') : Tu H' us := fun t ht => by
  obtain ⟨x, y, e, r⟩ := h t ht
  exact ⟨x, y, sm _ _ e, r⟩
theorem mem_cut {α : Type} {l : List α} {lo hi : Option Int} {x : α} (h : x ∈ cut l lo hi) : x ∈ l := List.mem_of_mem_drop (List.mem_of_mem_take h)
theorem atI_last {l : List V} (h : l.length ≠ 0) : ∃ x, x ∈ l ∧ atI l (-1) = some x := by
  rcases List.eq_nil_or_concat l with rfl | ⟨q, x, rfl⟩
  · exact absurd rfl h
  · refine ⟨x, by simp, ?_⟩
    unfold atI ixN
    rw [List.concat_eq_append, List.length_append, List.length_singleton, if_neg (by decide), if_pos (by omega), show ((-1 : Int) + ((q.length + 1 : Nat) : Int)).toNat = q.length by omega, Option.bind_some, List.getElem?_append_right (Nat.le_refl _), Nat.sub_self]
    rfl
theorem pk_unique {l : List Nat} {h h' : Nat} {rs rs' : List (Nat × Nat)} (k : Pk l h rs) (k' : Pk l h' rs') : h = h' ∧ rs = rs' := by
  obtain ⟨e1, e2⟩ := split_at (no32 h) (no32 h') (k.2.2.2.symm.trans k'.2.2.2)
  exact ⟨numL_inj e1, wr_inj e2⟩
end LP
-- GEN cuts: packed:1 read_runs:2.0 unpacked:0 unpacked:1 unpacked:2 unpacked:3 unpacked:4 unpacked:5 _law_due:0 _law_due:2.0 _law_due:2.1 _law_due:2.2 _law_runs_by:2 _law_runs_by:3 _law_runs_by:4.0 _law_runs_by:4.1 _law_runs_by:4.2 _law_spoilt _law_spoilt:0 _law_spoilt:1 _law_spoilt:2 _law_spoilt:5.0 _law_spoilt:5.1 _law_spoilt:7 _law_spoilt:8 law:2 law:3 law:4 law:5 law:6 law:7 law:8 law:9
-- GEN raising: check_place number_in packed read_runs unpacked
-- GEN texts: _law_figures
-- GEN comps: law _law_spoilt
set_option maxRecDepth 100000
set_option maxHeartbeats 4000000
namespace My
open PySem L2 LW LP NumText
def top (i : Nat) : Stmt := PySem.Challenge.pw_backindex_k82_texts_unpacked.main.body.getD i (.Pass ⟨0, 0, 0, 0⟩)
abbrev s_p_check_place : Stmt := top 8
abbrev P_p_check_place : List Str := ["place", "last"]
theorem sc_p_check_place : FnScope ["place", "last"] P_p_check_place (defScope s_p_check_place) := ⟨rfl, rfl, rfl, by decide +kernel, rfl, by decide +kernel, by decide +kernel⟩
abbrev s_p_number_in : Stmt := top 9
abbrev P_p_number_in : List Str := ["word"]
theorem sc_p_number_in : FnScope ["word"] P_p_number_in (defScope s_p_number_in) := ⟨rfl, rfl, rfl, by decide +kernel, rfl, by decide +kernel, by decide +kernel⟩
abbrev s_p_runs_of : Stmt := top 11
abbrev P_p_runs_of : List Str := ["text"]
theorem sc_p_runs_of : FnScope ["text", "runs", "start", "place"] P_p_runs_of (defScope s_p_runs_of) := ⟨rfl, rfl, rfl, by decide +kernel, rfl, by decide +kernel, by decide +kernel⟩
abbrev s_p_packed : Stmt := top 12
abbrev P_p_packed : List Str := ["letters", "home"]
theorem sc_p_packed : FnScope ["letters", "home", "runs"] P_p_packed (defScope s_p_packed) := ⟨rfl, rfl, rfl, by decide +kernel, rfl, by decide +kernel, by decide +kernel⟩
abbrev s_p_read_runs : Stmt := top 13
abbrev P_p_read_runs : List Str := ["text"]
theorem sc_p_read_runs : FnScope ["text", "runs", "start", "end"] P_p_read_runs (defScope s_p_read_runs) := ⟨rfl, rfl, rfl, by decide +kernel, rfl, by decide +kernel, by decide +kernel⟩
abbrev s_p_unpacked : Stmt := top 14
abbrev P_p_unpacked : List Str := ["text"]
theorem sc_p_unpacked : FnScope ["text", "words", "home", "runs", "letters"] P_p_unpacked (defScope s_p_unpacked) := ⟨rfl, rfl, rfl, by decide +kernel, rfl, by decide +kernel, by decide +kernel⟩
abbrev s_w_cell_at : Stmt := top 16
abbrev P_w_cell_at : List Str := ["_law_script", "_law_k"]
theorem sc_w_cell_at : FnScope ["_law_script", "_law_k"] P_w_cell_at (defScope s_w_cell_at) := ⟨rfl, rfl, rfl, by decide +kernel, rfl, by decide +kernel, by decide +kernel⟩
abbrev s_w_stream : Stmt := top 17
abbrev P_w_stream : List Str := ["_law_seed", "_law_many"]
theorem sc_w_stream : FnScope ["_law_seed", "_law_many", "_law_number_here", "_law_some", "_law_k"] P_w_stream (defScope s_w_stream) := ⟨rfl, rfl, rfl, by decide +kernel, rfl, by decide +kernel, by decide +kernel⟩
abbrev s_w_sign : Stmt := top 18
abbrev P_w_sign : List Str := ["_law_number_here"]
theorem sc_w_sign : FnScope ["_law_number_here", "_law_some"] P_w_sign (defScope s_w_sign) := ⟨rfl, rfl, rfl, by decide +kernel, rfl, by decide +kernel, by decide +kernel⟩
abbrev s_w_whole : Stmt := top 19
abbrev P_w_whole : List Str := ["_law_found"]
theorem sc_w_whole : FnScope ["_law_found"] P_w_whole (defScope s_w_whole) := ⟨rfl, rfl, rfl, by decide +kernel, rfl, by decide +kernel, by decide +kernel⟩
abbrev s_w_runs_by : Stmt := top 20
abbrev P_w_runs_by : List Str := ["_law_script", "_law_cell"]
theorem sc_w_runs_by : FnScope ["_law_script", "_law_cell", "_law_some", "_law_runs", "_law_wide", "_law_numbers", "_law_k", "_law_sign_here", "_law_many"] P_w_runs_by (defScope s_w_runs_by) := ⟨rfl, rfl, rfl, by decide +kernel, rfl, by decide +kernel, by decide +kernel⟩
abbrev s_w_fitted : Stmt := top 21
abbrev P_w_fitted : List Str := ["_law_runs", "_law_most"]
theorem sc_w_fitted : FnScope ["_law_runs", "_law_most", "_law_left", "_law_kept", "_law_sign_here", "_law_many"] P_w_fitted (defScope s_w_fitted) := ⟨rfl, rfl, rfl, by decide +kernel, rfl, by decide +kernel, by decide +kernel⟩
abbrev s_w_written : Stmt := top 22
abbrev P_w_written : List Str := ["_law_home", "_law_runs"]
theorem sc_w_written : FnScope ["_law_home", "_law_runs"] P_w_written (defScope s_w_written) := ⟨rfl, rfl, rfl, by decide +kernel, rfl, by decide +kernel, by decide +kernel⟩
abbrev s_w_spoilt : Stmt := top 23
abbrev P_w_spoilt : List Str := ["_law_home", "_law_runs", "_law_kind", "_law_some", "_law_cell"]
theorem sc_w_spoilt : FnScope ["_law_home", "_law_runs", "_law_kind", "_law_some", "_law_cell", "_law_many", "_law_told", "_law_at", "_law_wrong", "_law_text", "_law_place"] P_w_spoilt (defScope s_w_spoilt) := ⟨rfl, rfl, rfl, by decide +kernel, rfl, by decide +kernel, by decide +kernel⟩
abbrev s_w_number : Stmt := top 24
abbrev P_w_number : List Str := ["_law_figures"]
theorem sc_w_number : FnScope ["_law_figures", "_law_sign_here"] P_w_number (defScope s_w_number) := ⟨rfl, rfl, rfl, by decide +kernel, rfl, by decide +kernel, by decide +kernel⟩
abbrev s_w_due : Stmt := top 25
abbrev P_w_due : List Str := ["_law_text"]
theorem sc_w_due : FnScope ["_law_text", "_law_home", "_law_blank", "_law_rest", "_law_letters", "_law_figures", "_law_end", "_law_behind", "_law_many"] P_w_due (defScope s_w_due) := ⟨rfl, rfl, rfl, by decide +kernel, rfl, by decide +kernel, by decide +kernel⟩
abbrev s_w_refused : Stmt := top 26
abbrev P_w_refused : List Str := ["_law_text"]
theorem sc_w_refused : FnScope ["_law_text", "e"] P_w_refused (defScope s_w_refused) := ⟨rfl, rfl, rfl, by decide +kernel, rfl, by decide +kernel, by decide +kernel⟩
abbrev s_law : Stmt := top 27
abbrev P_law : List Str := ["_law_script"]
theorem sc_law : FnScope ["_law_script", "_law_cell", "_law_some", "_law_runs", "_law_many", "_law_home", "_law_text", "_law_due_here", "_law_found"] P_law (defScope s_law) := ⟨rfl, rfl, rfl, by decide +kernel, rfl, by decide +kernel, by decide +kernel⟩
structure Cs where
  BackError : Addr
  NoPlace : Addr
  NoText : Addr
  NoName : Addr
  NoRow : Addr
structure Er (K : PySem.W.Frag) (mg : Str → Option Value) (c : Cs) : Prop where
  m_BackError : mg "BackError" = some (.ref c.BackError)
  x_BackError : ExC K c.BackError
  m_NoPlace : mg "NoPlace" = some (.ref c.NoPlace)
  x_NoPlace : ExC K c.NoPlace
  m_NoText : mg "NoText" = some (.ref c.NoText)
  m_NoName : mg "NoName" = some (.ref c.NoName)
  m_NoRow : mg "NoRow" = some (.ref c.NoRow)
  x_NoRow : ExC K c.NoRow
  g_NoRow : ExcG K c.NoRow
  v_NoRow : PySem.W.kitOne K (.ref c.NoRow) (.type "ValueError") = some true
  r_NoRow_BackError : (clsMro K c.NoRow).contains (.ref c.BackError) = true
  t_NoRow_NoText : PySem.W.kitOne K (.ref c.NoRow) (.ref c.NoText) = some false
  t_NoRow_NoName : PySem.W.kitOne K (.ref c.NoRow) (.ref c.NoName) = some false
  t_NoRow_NoRow : PySem.W.kitOne K (.ref c.NoRow) (.ref c.NoRow) = some true
structure Gc (mg : Str → Option Value) : Prop where
  MOST_SIGNS : ∃ t, mg "MOST_SIGNS" = some (.int 300 t)
structure Bn (mg : Str → Option Value) : Prop where
  ValueError : mg "ValueError" = none
  bool : mg "bool" = none
  int : mg "int" = none
  isinstance : mg "isinstance" = none
  len : mg "len" = none
  max : mg "max" = none
  min : mg "min" = none
  range : mg "range" = none
  str : mg "str" = none
  sum : mg "sum" = none
  tuple : mg "tuple" = none
section
variable {P : Program} {w : World} {K : PySem.W.Frag} {mg : Str → Option Value} {base : Heap}
def sp_p_check_place (K : PySem.W.Frag) (c : Cs) : Sp := fun vs H Q E => match vs with
  | [.int p, .int l] => ((0 ≤ p ∧ p ≤ l) → Q .non H) ∧ (¬ (0 ≤ p ∧ p ≤ l) → E (.ref c.NoPlace) none H)
  | _ => False
theorem ok_p_check_place {f : Addr} {fd : FuncData} (F : Fun K "check_place" "check_place" s_p_check_place f fd) (B : Bn mg) {c : Cs} (ER : Er K mg c) (GC : Gc mg)  : FnOk P w K mg base (CX1 P w) 1 f fd P_p_check_place (sp_p_check_place K c) := by
  refine F.okX sc_p_check_place (fun vs H Q E h => ?_) (fun cdv A outer s H vs Q E hr h => ?_) <;> unfold sp_p_check_place at h <;> split at h <;> first | exact h.elim | skip
  · rfl
  · rename_i p l
    obtain ⟨q, e⟩ := h
    refine ⟨_, (pss_one (ps_if (PW.pt (pw_or (pt_c2 o_lt (qv 0) pe_int) (pw_or1 (pt_c2 o_gt (qv 0) (qv 1))))) (pss_one (ps_raise tk_def rfl ER.x_NoPlace rfl ER.m_NoPlace (pa_cons pe_str pa_nil))) pss_nil)), ?_⟩
    simp only [L2.start, List.map_cons, List.map_nil, List.length_cons, List.length_nil, List.replicate_succ, List.replicate_zero, List.cons_append, List.nil_append, Nat.reduceAdd, Nat.reduceSub, Int.reduceLT, Int.reduceLE, true_and, and_true, decide_eq_true_eq, if_true, if_false, String.reduceEq, Bool.not_true, Bool.not_false, Bool.false_eq_true, decide_true, decide_false, List.set_cons_zero, List.set_cons_succ, gS, rVar, tC, tSeq, tNext, tAsg, gName, tRet, tRetN, tDrop, tIfS, tOp, tUn, tCB, tCons, tNil, tTup, tLst, tFn, tB2, tAnd, tOr, tNot, trV, tSl, tNoPart, pT, vAnd, vOr, vNot, addV, mulV, int2, int2', ltV, eqR, neR, sc, isV, isntV, negV, ixV, slV, lenV, isiV, isS, minV, maxV, joinV, tBM, tBM0, tyV, tFE, L_T, tRaise, tJoin, tJPart, tFmt, tTry, tH1, unb, tFnX, gSub, setV, isxV, rCat, rRep, rAppend, tCL, oneC, capS, gTup, gCons, gNil, tStrF, List.set_nil, sumV, tCP, tB]
    refine ite2 (fun h0 => ⟨by decide, e (by omega)⟩) fun h0 => ite2 (fun h1 => ⟨by decide, e (by omega)⟩) fun h1 => q ⟨by omega, by omega⟩
def sp_p_number_in (K : PySem.W.Frag) (c : Cs) : Sp := fun vs H Q E => match vs with
  | [.str z] => (L z).length ≤ sizeLine ∧ (GoodN (L z) → Q (.int (digitsVal (L z) : Nat)) H) ∧ (¬ GoodN (L z) → E (.ref c.NoRow) none H)
  | _ => False
theorem ok_p_number_in {f : Addr} {fd : FuncData} (F : Fun K "number_in" "number_in" s_p_number_in f fd) (B : Bn mg) {c : Cs} (ER : Er K mg c) (GC : Gc mg)  : FnOk P w K mg base (CX1 P w) 1 f fd P_p_number_in (sp_p_number_in K c) := by
  refine F.okX sc_p_number_in (fun vs H Q E h => ?_) (fun cdv A outer s H vs Q E hr h => ?_) <;> unfold sp_p_number_in at h <;> split at h <;> first | exact h.elim | skip
  · rfl
  · rename_i z
    obtain ⟨hl, q, e⟩ := h
    refine ⟨_, (pss_cons (ps_if (PW.pt (pw_or (pt_c2 o_lt (pe_callB (c_lenK (K := K) rfl) (by rfl) B.len bt_len (pa_cons (qv 0) pa_nil)) pe_int) (pw_or (pt_c2 o_gt (pe_callB (c_lenK (K := K) rfl) (by rfl) B.len bt_len (pa_cons (qv 0) pa_nil)) pe_int) (pw_or1 (pt_c2 o_ne (pe_bmK (K := K) rfl PySem.F.plainAttrs_str PySem.F.slot_str_strip PySem.F.type_str_strip m_strip (qv 0) (pa_cons pe_str pa_nil)) pe_str))))) (pss_one (ps_raise tk_def rfl ER.x_NoRow rfl ER.m_NoRow (pa_cons pe_str pa_nil))) pss_nil)
        (pss_cons (ps_if (PW.pt (pw_and (pt_c2 o_eq (pe_ix (i_ixK (K := K) rfl) (qv 0) pe_int (fun _ _ => rfl)) pe_str) (pw_and1 (pt_c2 o_ne (qv 0) pe_str)))) (pss_one (ps_raise tk_def rfl ER.x_NoRow rfl ER.m_NoRow (pa_cons pe_str pa_nil))) pss_nil)
        (pss_one (ps_ret (pe_callTy c_intW (by rfl) B.int bt_int (pa_cons (qv 0) pa_nil)))))), ?_⟩
    have hsz : sizeLine = 16777216 := sizeLine_eq
    have e1 : L (Str.ofString "0123456789") = [48, 49, 50, 51, 52, 53, 54, 55, 56, 57] := by decide +kernel
    have e2 : L (Str.ofString "") = [] := by decide +kernel
    have e3 : L (Str.ofString "0") = [48] := by decide +kernel
    have dg : (∀ c ∈ L z, c ∈ [48, 49, 50, 51, 52, 53, 54, 55, 56, 57]) ↔ ∀ c ∈ L z, 48 ≤ c ∧ c ≤ 57 := by
      refine forall_congr' fun c => forall_congr' fun _ => ?_
      simp only [List.mem_cons, List.not_mem_nil, or_false]
      omega
    simp only [L2.start, List.map_cons, List.map_nil, List.length_cons, List.length_nil, List.replicate_succ, List.replicate_zero, List.cons_append, List.nil_append, Nat.reduceAdd, Nat.reduceSub, Int.reduceLT, Int.reduceLE, true_and, and_true, decide_eq_true_eq, if_true, if_false, String.reduceEq, Bool.not_true, Bool.not_false, Bool.false_eq_true, decide_true, decide_false, List.set_cons_zero, List.set_cons_succ, gS, rVar, tC, tSeq, tNext, tAsg, gName, tRet, tRetN, tDrop, tIfS, tOp, tUn, tCB, tCons, tNil, tTup, tLst, tFn, tB2, tAnd, tOr, tNot, trV, tSl, tNoPart, pT, vAnd, vOr, vNot, addV, mulV, int2, int2', ltV, eqR, neR, sc, isV, isntV, negV, ixV, slV, lenV, isiV, isS, minV, maxV, joinV, tBM, tBM0, tyV, tFE, L_T, tRaise, tJoin, tJPart, tFmt, tTry, tH1, unb, tFnX, gSub, setV, isxV, rCat, rRep, rAppend, tCL, oneC, capS, gTup, gCons, gNil, tStrF, List.set_nil, sumV, tCP, tB, inT, eqN, strV, intW, fndV, prtV, stpV, List.append_nil, gtV, e1, e2, e3]
    refine ⟨hl, ite2 (fun w => ⟨by decide, e fun g => by have := g.1; omega⟩) fun w1 => ⟨hl, ite2 (fun w => ⟨by decide, e fun g => by have := g.2.1; omega⟩) fun w2 => ⟨hl, fun l hll => ?_⟩⟩⟩
    have h0 : L z ≠ [] := fun w => by
      rw [w] at w1
      exact w1 (by decide)
    by_cases l0 : l = []
    · have d := dg.mp (hll.mp l0)
      rw [decide_eq_true l0]
      refine iteF ⟨hl, _, atI_getD 0 (by omega) (by omega), ite2 (fun w => ?_) fun w => ⟨by omega, h0, d, q ⟨by omega, by omega, d, fun v => absurd (by rw [show ((0 : Int)).toNat = 0 from rfl, v]) w⟩⟩⟩
      have e0 : (L z).getD 0 0 = 48 := List.head_eq_of_cons_eq w
      by_cases e4 : L z = [48]
      · rw [decide_eq_true e4]
        exact iteF ⟨by omega, h0, d, q ⟨by omega, by omega, d, fun _ => e4⟩⟩
      · rw [decide_eq_false e4]
        exact iteT ⟨by decide, e fun g => e4 (g.2.2.2 e0)⟩
    · rw [decide_eq_false l0]
      exact iteT ⟨by decide, e fun g => l0 (hll.mpr (dg.mpr g.2.2.1))⟩
def sp_p_runs_of (K : PySem.W.Frag) : Sp := fun vs H Q _ => match vs with
  | [.str z] => (L z).length ≤ 1000 ∧ ∀ p H' ts rs, Same H H' → H p = none → H' p = some (.lst (ts.map V.ref)) → RunsAt H' ts rs → flat rs = L z → GoodR rs → Q (.ref p) H'
  | _ => False
theorem ok_p_runs_of {f : Addr} {fd : FuncData} (F : Fun K "runs_of" "runs_of" s_p_runs_of f fd) (B : Bn mg) {c : Cs} (ER : Er K mg c) (GC : Gc mg)  : FnOk P w K mg base CX0 1 f fd P_p_runs_of (sp_p_runs_of K) := by
  refine F.ok sc_p_runs_of (fun vs H Q E h => ?_) (fun cdv A outer s H vs Q E hr h => ?_) <;> unfold sp_p_runs_of at h <;> split at h <;> first | exact h.elim | skip
  · rfl
  · rename_i z
    obtain ⟨hl, q⟩ := h
    refine ⟨_, (pss_cons (ps_set (i := 1) sc_p_runs_of.nd rfl (by first | exact Or.inl rfl | exact Or.inr rfl) (pe_lst pa_nil))
        (pss_cons (ps_set (i := 2) sc_p_runs_of.nd rfl (by first | exact Or.inl rfl | exact Or.inr rfl) pe_int)
        (pss_cons (ps_rng2 PassesOwn.never rfl B.range (pa_cons pe_int (pa_cons (pe_op o_add (pe_callB (c_lenK (K := K) rfl) (by rfl) B.len bt_len (pa_cons (qv 0) pa_nil)) pe_int) pa_nil)) (pg_name (i := 3) sc_p_runs_of.nd rfl (by first | exact Or.inl rfl | exact Or.inr rfl)) (pss_one (ps_if (PW.pt (pw_or (pt_c2 o_eq (qv 3) (pe_callB (c_lenK (K := K) rfl) (by rfl) B.len bt_len (pa_cons (qv 0) pa_nil))) (pw_or1 (pt_c2 o_ne (pe_ix (i_ixK (K := K) rfl) (qv 0) (qv 3) (fun _ _ => rfl)) (pe_ix (i_ixK (K := K) rfl) (qv 0) (qv 2) (fun _ _ => rfl)))))) (pss_cons (ps_expr (pe_bmK (K := K) rfl PySem.F.plainAttrs_list PySem.F.slot_list_append PySem.F.type_list_append mt_append (qv 1) (pa_cons (pe_tup (pa_cons (pe_ix (i_ixK (K := K) rfl) (qv 0) (qv 2) (fun _ _ => rfl)) (pa_cons (pe_op o_sub (qv 3) (qv 2)) pa_nil))) pa_nil)))
        (pss_one (ps_set (i := 2) sc_p_runs_of.nd rfl (by first | exact Or.inl rfl | exact Or.inr rfl) (qv 3)))) pss_nil)))
        (pss_one (ps_ret (qv 1)))))), ?_⟩
    simp only [L2.start, List.map_cons, List.map_nil, List.length_cons, List.length_nil, List.replicate_succ, List.replicate_zero, List.cons_append, List.nil_append, Nat.reduceAdd, Nat.reduceSub, Int.reduceLT, Int.reduceLE, true_and, and_true, decide_eq_true_eq, if_true, if_false, String.reduceEq, Bool.not_true, Bool.not_false, Bool.false_eq_true, decide_true, decide_false, List.set_cons_zero, List.set_cons_succ, gS, rVar, tC, tSeq, tNext, tAsg, gName, tRet, tRetN, tDrop, tIfS, tOp, tUn, tCB, tCons, tNil, tTup, tLst, tFn, tB2, tAnd, tOr, tNot, trV, tSl, tNoPart, pT, vAnd, vOr, vNot, addV, mulV, int2, int2', ltV, eqR, neR, sc, isV, isntV, negV, ixV, slV, lenV, isiV, isS, minV, maxV, joinV, tBM, tBM0, tyV, tFE, L_T, tRaise, tJoin, tJPart, tFmt, tTry, tH1, unb, tFnX, gSub, setV, isxV, rCat, rRep, rAppend, tCL, oneC, capS, gTup, gCons, gNil, tStrF, List.set_nil, sumV, tCP, tB, tRng2]
    have hsz : sizeLine = 16777216 := sizeLine_eq
    refine ⟨by omega, fun p hp => ⟨by omega, ⟨by omega, by omega, by omega, by omega⟩, ?_⟩⟩
    refine ⟨fun i σ H' => ∃ (st : Nat) (v : Option V) (ts : List Addr) (rs : List (Nat × Nat)), σ = [some (V.str z), some (V.ref p), some (V.int st), v] ∧ Same H H' ∧ H' p = some (.lst (ts.map V.ref)) ∧ RunsAt H' ts rs ∧ GoodR rs ∧ flat rs = (L z).take st ∧ st ≤ (L z).length ∧ ts.length ≤ i ∧
      (i < (L z).length → st ≤ i ∧ (∀ j, st ≤ j → j ≤ i → (L z).getD j 0 = (L z).getD st 0) ∧ ∀ a, rs.getLast? = some a → a.1 ≠ (L z).getD st 0) ∧ (i = (L z).length → st = i),
      ⟨0, _, [], [], rfl, Same.updN hp, upd_same, runsAt_nil _, good_nil, rfl, Nat.zero_le _, Nat.le_refl _, fun _ => ⟨Nat.le_refl _, fun j h1 h2 => by rw [show j = 0 by omega], fun a ha => by cases ha⟩, fun _ => rfl⟩, ?_, ?_⟩
    · rintro i σ H' hi ⟨st, v, ts, rs, rfl, sm, h1, ra, gd, fl, hst, htl, inv, _⟩
      obtain ⟨i1, i2, i3⟩ := inv (by omega)
      have hin : i < (L z).length := by omega
      simp only [L2.start, List.map_cons, List.map_nil, List.length_cons, List.length_nil, List.replicate_succ, List.replicate_zero, List.cons_append, List.nil_append, Nat.reduceAdd, Nat.reduceSub, Int.reduceLT, Int.reduceLE, true_and, and_true, decide_eq_true_eq, if_true, if_false, String.reduceEq, Bool.not_true, Bool.not_false, Bool.false_eq_true, decide_true, decide_false, List.set_cons_zero, List.set_cons_succ, gS, rVar, tC, tSeq, tNext, tAsg, gName, tRet, tRetN, tDrop, tIfS, tOp, tUn, tCB, tCons, tNil, tTup, tLst, tFn, tB2, tAnd, tOr, tNot, trV, tSl, tNoPart, pT, vAnd, vOr, vNot, addV, mulV, int2, int2', ltV, eqR, neR, sc, isV, isntV, negV, ixV, slV, lenV, isiV, isS, minV, maxV, joinV, tBM, tBM0, tyV, tFE, L_T, tRaise, tJoin, tJPart, tFmt, tTry, tH1, unb, tFnX, gSub, setV, isxV, rCat, rRep, rAppend, tCL, oneC, capS, gTup, gCons, gNil, tStrF, List.set_nil, sumV, tCP, tB]
      have step : ∀ (e : i + 1 = (L z).length ∨ (L z).getD (i + 1) 0 ≠ (L z).getD st 0) (t : Addr), H' t = none →
          ∃ l xs y, V.ref p = V.ref l ∧ [V.ref t] = [y] ∧ upd H' t (HO.tup [V.str (T [(L z).getD st 0]), V.int (1 + (i : Int) - st)]) l = some (HO.lst xs) ∧ xs.length < sizeLine ∧
            ∃ (st' : Nat) (v' : Option V) (ts' : List Addr) (rs' : List (Nat × Nat)), [some (V.str z), some (V.ref p), some (V.int (1 + (i : Int))), some (V.int (1 + (i : Int)))] = [some (V.str z), some (V.ref p), some (V.int st'), v'] ∧
              Same H (upd (upd H' t (HO.tup [V.str (T [(L z).getD st 0]), V.int (1 + (i : Int) - st)])) l (HO.lst (xs ++ [y]))) ∧ upd (upd H' t (HO.tup [V.str (T [(L z).getD st 0]), V.int (1 + (i : Int) - st)])) l (HO.lst (xs ++ [y])) p = some (.lst (ts'.map V.ref)) ∧
              RunsAt (upd (upd H' t (HO.tup [V.str (T [(L z).getD st 0]), V.int (1 + (i : Int) - st)])) l (HO.lst (xs ++ [y]))) ts' rs' ∧ GoodR rs' ∧ flat rs' = (L z).take st' ∧ st' ≤ (L z).length ∧ ts'.length ≤ i + 1 ∧
              (i + 1 < (L z).length → st' ≤ i + 1 ∧ (∀ j, st' ≤ j → j ≤ i + 1 → (L z).getD j 0 = (L z).getD st' 0) ∧ ∀ a, rs'.getLast? = some a → a.1 ≠ (L z).getD st' 0) ∧ (i + 1 = (L z).length → st' = i + 1) := by
        intro e t ht
        have np : p ≠ t := ne_of_none h1 ht
        have hp2 : upd H' t (HO.tup [V.str (T [(L z).getD st 0]), V.int (1 + (i : Int) - st)]) p = some (HO.lst (ts.map V.ref)) := by rw [upd_ne np]; exact h1
        refine ⟨p, _, _, rfl, rfl, hp2, by rw [List.length_map]; omega, i + 1, _, ts ++ [t], rs ++ [((L z).getD st 0, i + 1 - st)], by rw [show (1 + (i : Int)) = ((i + 1 : Nat) : Int) by omega], same_put (Same.upd sm ht) hp, ?_, ?_, ?_, ?_, by omega, by simp; omega, fun h => ⟨Nat.le_refl _, fun j k1 k2 => by rw [show j = i + 1 by omega], fun a ha => ?_⟩, fun h => rfl⟩
        · rw [upd_same, List.map_append]
          rfl
        · refine runsAt_snoc (runsAt_same ra ((sameT_of (Same.updN ht)).trans (sameT_lst hp2))) ?_
          rw [upd_ne (Ne.symm np), upd_same, show (1 + (i : Int) - st) = ((i + 1 - st : Nat) : Int) by omega]
        · exact good_snoc gd (by show 1 ≤ i + 1 - st; omega) i3
        · rw [flat_append, fl]
          exact (seg_rep (by omega) (by omega) fun j k1 k2 => i2 j k1 (by omega)).symm
        · rw [List.getLast?_concat] at ha
          cases ha
          rcases e with e | e
          · omega
          · exact Ne.symm e
      have stN : atI (L z) (st : Int) = some ((L z).getD st 0) := atI_getD 0 (by omega) (by omega)
      refine ⟨by omega, ite2 (fun e => ⟨.inl ⟨_, SqL.of h1⟩, by omega, _, stN, by omega, fun t ht => step (.inl (by omega)) t ht⟩) fun e => ⟨by omega, _, atI_getD 0 (by omega) (by omega), by omega, _, stN, ?_⟩⟩
      rw [show (1 + (i : Int)).toNat = i + 1 by omega]
      refine ite2 (fun e2 => ⟨.inl ⟨_, SqL.of h1⟩, by omega, _, stN, by omega, fun t ht => step (.inr fun z => by rw [z] at e2; simp at e2) t ht⟩) fun e2 => ?_
      have e3 : (L z).getD (i + 1) 0 = (L z).getD st 0 := by simpa using e2
      refine ⟨st, _, ts, rs, rfl, sm, h1, ra, gd, fl, hst, by omega, fun h => ⟨by omega, fun j k1 k2 => ?_, i3⟩, fun h => by omega⟩
      by_cases hj : j ≤ i
      · exact i2 j k1 hj
      · rw [show j = i + 1 by omega]
        exact e3
    · rintro σ H' ⟨st, v, ts, rs, rfl, sm, h1, ra, gd, fl, hst, htl, _, inv⟩
      simp only [L2.start, List.map_cons, List.map_nil, List.length_cons, List.length_nil, List.replicate_succ, List.replicate_zero, List.cons_append, List.nil_append, Nat.reduceAdd, Nat.reduceSub, Int.reduceLT, Int.reduceLE, true_and, and_true, decide_eq_true_eq, if_true, if_false, String.reduceEq, Bool.not_true, Bool.not_false, Bool.false_eq_true, decide_true, decide_false, List.set_cons_zero, List.set_cons_succ, gS, rVar, tC, tSeq, tNext, tAsg, gName, tRet, tRetN, tDrop, tIfS, tOp, tUn, tCB, tCons, tNil, tTup, tLst, tFn, tB2, tAnd, tOr, tNot, trV, tSl, tNoPart, pT, vAnd, vOr, vNot, addV, mulV, int2, int2', ltV, eqR, neR, sc, isV, isntV, negV, ixV, slV, lenV, isiV, isS, minV, maxV, joinV, tBM, tBM0, tyV, tFE, L_T, tRaise, tJoin, tJPart, tFmt, tTry, tH1, unb, tFnX, gSub, setV, isxV, rCat, rRep, rAppend, tCL, oneC, capS, gTup, gCons, gNil, tStrF, List.set_nil, sumV, tCP, tB]
      refine q p H' ts rs sm hp h1 ra ?_ gd
      rw [fl, List.take_of_length_le (by omega)]
def sp_p_packed (K : PySem.W.Frag) (c : Cs) : Sp := fun vs H Q E => match vs with
  | [.str z, .int h] => (L z).length ≤ 300 ∧ (¬ (0 ≤ h ∧ h ≤ (L z).length) → E (.ref c.NoPlace) none H) ∧ ((0 ≤ h ∧ h ≤ (L z).length) → ∀ rs, GoodR rs → flat rs = L z → ∀ H', Same H H' → Q (.str (T (numL h ++ 32 :: wr rs))) H')
  | _ => False
theorem ok_p_packed {f : Addr} {fd : FuncData} (F : Fun K "packed" "packed" s_p_packed f fd) (B : Bn mg) {c : Cs} (ER : Er K mg c) (GC : Gc mg) (G_p_check_place : FnX P w K mg base 1 "check_place" P_p_check_place (sp_p_check_place K c)) (G_p_runs_of : Fn P w K mg base 1 "runs_of" P_p_runs_of (sp_p_runs_of K)) : FnOk P w K mg base (CX1 P w) 2 f fd P_p_packed (sp_p_packed K c) := by
  refine F.okX sc_p_packed (fun vs H Q E h => ?_) (fun cdv A outer s H vs Q E hr h => ?_) <;> unfold sp_p_packed at h <;> split at h <;> first | exact h.elim | skip
  · rfl
  · rename_i z h
    obtain ⟨hl, e, q⟩ := h
    refine ⟨_, (pss_cons (ps_expr (pe_fnX tk_def.toTk G_p_check_place (hr.mono (by decide)) (pa_cons (qv 1) (pa_cons (pe_callB (c_lenK (K := K) rfl) (by rfl) B.len bt_len (pa_cons (qv 0) pa_nil)) pa_nil))))
        (pss_cons (ps_cut (ps_compP (i₀ := 2) (K := K) rfl (own := ["sign", "many"]) (cp := []) rfl rfl rfl (by decide +kernel) (by decide +kernel) trivial (pe_fn G_p_runs_of (hr.mono (by decide)) (pa_cons (qv 0) pa_nil)) (by decide) (fun _ _ _ _ => pg_name (i := 0) (show List.Nodup (["sign", "many"] : List Str) by decide +kernel) rfl (Or.inl rfl) (Or.inr rfl)) (fun _ _ _ _ => pg_name (i := 1) (show List.Nodup (["sign", "many"] : List Str) by decide +kernel) rfl (Or.inl rfl) (Or.inr rfl)) (fun _ _ _ _ => pf_nil) (fun _ _ _ _ => (pe_join (pj_cons (pe_fmt (qv 0)) (pj_cons (pe_fmt (qv 1)) (pj_cons pe_str pj_nil))))) sc_p_packed.nd rfl rfl))
        (pss_one (ps_ret (pe_op o_add (pe_join (pj_cons (pe_fmt (qv 1)) (pj_cons pe_str pj_nil))) (pe_bmK (K := K) rfl PySem.F.plainAttrs_str PySem.F.slot_str_join PySem.F.type_str_join (m_joinK (K := K) rfl) pe_str (pa_cons (qv 2) pa_nil))))))), ?_⟩
    have hsz : sizeLine = 16777216 := sizeLine_eq
    simp only [L2.start, List.map_cons, List.map_nil, List.length_cons, List.length_nil, List.replicate_succ, List.replicate_zero, List.cons_append, List.nil_append, Nat.reduceAdd, Nat.reduceSub, Int.reduceLT, Int.reduceLE, true_and, and_true, decide_eq_true_eq, if_true, if_false, String.reduceEq, Bool.not_true, Bool.not_false, Bool.false_eq_true, decide_true, decide_false, List.set_cons_zero, List.set_cons_succ, gS, rVar, tC, tSeq, tNext, tAsg, gName, tRet, tRetN, tDrop, tIfS, tOp, tUn, tCB, tCons, tNil, tTup, tLst, tFn, tB2, tAnd, tOr, tNot, trV, tSl, tNoPart, pT, vAnd, vOr, vNot, addV, mulV, int2, int2', ltV, eqR, neR, sc, isV, isntV, negV, ixV, slV, lenV, isiV, isS, minV, maxV, joinV, tBM, tBM0, tyV, tFE, L_T, tRaise, tJoin, tJPart, tFmt, tTry, tH1, unb, tFnX, gSub, setV, isxV, rCat, rRep, rAppend, tCL, oneC, capS, gTup, gCons, gNil, tStrF, List.set_nil, sumV, tCP, tB, inT, eqN, strV, intW, fndV, prtV, stpV, List.append_nil, sp_p_check_place]
    refine ⟨by omega, fun hh => ?_, e⟩
    obtain ⟨h, rfl⟩ : ∃ k : Nat, h = (k : Int) := ⟨h.toNat, by omega⟩
    refine cutS (fun σ' H' => Same H H' ∧ ∃ p rs, GoodR rs ∧ flat rs = L z ∧ H' p = some (.lst ((rs.map fun r : Nat × Nat => r.1 :: (numL (r.2 : Nat) ++ [59])).map fun l => V.str (T l))) ∧ σ' = [some (V.str z), some (V.int (h : Int)), some (V.ref p)]) ?_ ?_
    · simp only [L2.start, List.map_cons, List.map_nil, List.length_cons, List.length_nil, List.replicate_succ, List.replicate_zero, List.cons_append, List.nil_append, Nat.reduceAdd, Nat.reduceSub, Int.reduceLT, Int.reduceLE, true_and, and_true, decide_eq_true_eq, if_true, if_false, String.reduceEq, Bool.not_true, Bool.not_false, Bool.false_eq_true, decide_true, decide_false, List.set_cons_zero, List.set_cons_succ, gS, rVar, tC, tSeq, tNext, tAsg, gName, tRet, tRetN, tDrop, tIfS, tOp, tUn, tCB, tCons, tNil, tTup, tLst, tFn, tB2, tAnd, tOr, tNot, trV, tSl, tNoPart, pT, vAnd, vOr, vNot, addV, mulV, int2, int2', ltV, eqR, neR, sc, isV, isntV, negV, ixV, slV, lenV, isiV, isS, minV, maxV, joinV, tBM, tBM0, tyV, tFE, L_T, tRaise, tJoin, tJPart, tFmt, tTry, tH1, unb, tFnX, gSub, setV, isxV, rCat, rRep, rAppend, tCL, oneC, capS, gTup, gCons, gNil, tStrF, List.set_nil, sumV, tCP, tB, inT, eqN, strV, intW, fndV, prtV, stpV, List.append_nil, sp_p_runs_of]
      refine ⟨by omega, fun p H1 ts rs sm hp h1 ra fl gd => ?_⟩
      have hts := ra.1
      have rl := runs_le gd
      rw [fl] at rl
      refine ⟨_, SqL.of h1, by rw [List.length_map]; omega, fun i H2 acc => H2 = H1 ∧ acc = ((rs.take i).map fun r : Nat × Nat => r.1 :: (numL (r.2 : Nat) ++ [59])).map fun l => V.str (T l), ⟨rfl, rfl⟩, ?_, ?_, ?_⟩
      · rintro i H2 acc _ ⟨rfl, _⟩
        exact SqL.of h1
      · rintro i r H2 acc hr2 ⟨rfl, rfl⟩
        rw [List.getElem?_map] at hr2
        obtain ⟨t, et, rfl⟩ := Option.map_eq_some_iff.mp hr2
        have hi : i < rs.length := by rw [← hts]; exact (List.getElem?_eq_some_iff.mp et).1
        have ei : rs[i]? = some rs[i] := List.getElem?_eq_getElem hi
        obtain ⟨t', et', ht⟩ := ra.2 i rs[i] ei
        rw [et] at et'
        cases Option.some.inj et'
        have hm := flat_mem_le (List.getElem_mem hi) (by rw [fl]; exact hl)
        refine ⟨t, _, _, rfl, SqT.of ht, ?_⟩
        simp only [L2.start, List.map_cons, List.map_nil, List.length_cons, List.length_nil, List.replicate_succ, List.replicate_zero, List.cons_append, List.nil_append, Nat.reduceAdd, Nat.reduceSub, Int.reduceLT, Int.reduceLE, true_and, and_true, decide_eq_true_eq, if_true, if_false, String.reduceEq, Bool.not_true, Bool.not_false, Bool.false_eq_true, decide_true, decide_false, List.set_cons_zero, List.set_cons_succ, gS, rVar, tC, tSeq, tNext, tAsg, gName, tRet, tRetN, tDrop, tIfS, tOp, tUn, tCB, tCons, tNil, tTup, tLst, tFn, tB2, tAnd, tOr, tNot, trV, tSl, tNoPart, pT, vAnd, vOr, vNot, addV, mulV, int2, int2', ltV, eqR, neR, sc, isV, isntV, negV, ixV, slV, lenV, isiV, isS, minV, maxV, joinV, tBM, tBM0, tyV, tFE, L_T, tRaise, tJoin, tJPart, tFmt, tTry, tH1, unb, tFnX, gSub, setV, isxV, rCat, rRep, rAppend, tCL, oneC, capS, gTup, gCons, gNil, tStrF, List.set_nil, sumV, tCP, tB, inT, eqN, strV, intW, fndV, prtV, stpV, List.append_nil]
        have f1 := (nums rs[i].2 hm).1
        have e59 : L (Str.ofString ";") = [59] := by decide +kernel
        rw [e59]
        refine ⟨by omega, by omega, nlog _ hm, by omega, by rw [List.length_singleton]; omega, by rw [List.length_append, List.length_singleton]; omega, ?_⟩
        rw [List.take_succ, ei, List.map_append, List.map_append]
        rfl
      · rintro H2 acc ⟨rfl, rfl⟩ l hl2
        refine ⟨sm.upd hl2, l, rs, gd, fl, ?_, rfl⟩
        rw [upd_same, List.length_map, hts, List.take_length]
    rintro _ H1 ⟨sm, p, rs, gd, fl, h1, rfl⟩
    simp only [L2.start, List.map_cons, List.map_nil, List.length_cons, List.length_nil, List.replicate_succ, List.replicate_zero, List.cons_append, List.nil_append, Nat.reduceAdd, Nat.reduceSub, Int.reduceLT, Int.reduceLE, true_and, and_true, decide_eq_true_eq, if_true, if_false, String.reduceEq, Bool.not_true, Bool.not_false, Bool.false_eq_true, decide_true, decide_false, List.set_cons_zero, List.set_cons_succ, gS, rVar, tC, tSeq, tNext, tAsg, gName, tRet, tRetN, tDrop, tIfS, tOp, tUn, tCB, tCons, tNil, tTup, tLst, tFn, tB2, tAnd, tOr, tNot, trV, tSl, tNoPart, pT, vAnd, vOr, vNot, addV, mulV, int2, int2', ltV, eqR, neR, sc, isV, isntV, negV, ixV, slV, lenV, isiV, isS, minV, maxV, joinV, tBM, tBM0, tyV, tFE, L_T, tRaise, tJoin, tJPart, tFmt, tTry, tH1, unb, tFnX, gSub, setV, isxV, rCat, rRep, rAppend, tCL, oneC, capS, gTup, gCons, gNil, tStrF, List.set_nil, sumV, tCP, tB, inT, eqN, strV, intW, fndV, prtV, stpV, List.append_nil]
    have f1 := (nums h (by omega)).1
    have e32 : L (Str.ofString " ") = [32] := by decide +kernel
    have rl := runs_le gd
    have wl := wr_len (rs := rs) fun r hr => flat_mem_le hr (by rw [fl]; exact hl)
    rw [fl] at rl
    rw [e32, empty_L]
    refine ⟨nlog h (by omega), by omega, by rw [List.length_singleton]; omega, by rw [List.length_append, List.length_singleton]; omega, _, SqL.of h1, ?_, ?_, ?_⟩
    · rw [List.length_nil, Nat.mul_zero, ← List.length_flatten]
      show (wr rs).length + 0 ≤ _
      omega
    · rw [joinL_nil, List.length_append, List.length_singleton]
      show _ + (wr rs).length ≤ _
      omega
    · rw [joinL_nil, List.append_assoc]
      exact q hh rs gd fl _ sm
def sp_p_read_runs (K : PySem.W.Frag) (c : Cs) : Sp := fun vs H Q E => match vs with
  | [.str z] => (L z).length ≤ 1000000 ∧ (∀ rs, L z = wr rs → (∀ r ∈ rs, GoodN (numL (r.2 : Nat))) → ∀ p ts H', Same H H' → H p = none → H' p = some (.lst (ts.map V.ref)) → RunsAt H' ts rs → Q (.ref p) H') ∧
      ((∀ rs, L z = wr rs → ¬ ∀ r ∈ rs, GoodN (numL (r.2 : Nat))) → ∀ H', Same H H' → E (.ref c.NoRow) none H')
  | _ => False
theorem ok_p_read_runs {f : Addr} {fd : FuncData} (F : Fun K "read_runs" "read_runs" s_p_read_runs f fd) (B : Bn mg) {c : Cs} (ER : Er K mg c) (GC : Gc mg) (G_p_number_in : FnX P w K mg base 1 "number_in" P_p_number_in (sp_p_number_in K c)) : FnOk P w K mg base (CX1 P w) 2 f fd P_p_read_runs (sp_p_read_runs K c) := by
  refine F.okX sc_p_read_runs (fun vs H Q E h => ?_) (fun cdv A outer s H vs Q E hr h => ?_) <;> unfold sp_p_read_runs at h <;> split at h <;> first | exact h.elim | skip
  · rfl
  · rename_i z
    obtain ⟨hl, q, e⟩ := h
    refine ⟨_, (pss_cons (ps_set (i := 1) sc_p_read_runs.nd rfl (by first | exact Or.inl rfl | exact Or.inr rfl) (pe_lst pa_nil))
        (pss_cons (ps_set (i := 2) sc_p_read_runs.nd rfl (by first | exact Or.inl rfl | exact Or.inr rfl) pe_int)
        (pss_cons (ps_wh tk_def.own (pt_c2 o_lt (qv 2) (pe_callB (c_lenK (K := K) rfl) (by rfl) B.len bt_len (pa_cons (qv 0) pa_nil))) (pss_cons (ps_cut (ps_set (i := 3) sc_p_read_runs.nd rfl (by first | exact Or.inl rfl | exact Or.inr rfl) (pe_bmK (K := K) rfl PySem.F.plainAttrs_str PySem.F.slot_str_find PySem.F.type_str_find m_find (qv 0) (pa_cons pe_str (pa_cons (pe_op o_add (qv 2) pe_int) pa_nil)))))
        (pss_cons (ps_if (pt_c2 o_lt (qv 3) pe_int) (pss_one (ps_raise tk_def rfl ER.x_NoRow rfl ER.m_NoRow (pa_cons pe_str pa_nil))) pss_nil)
        (pss_cons (ps_expr (pe_bmK (K := K) rfl PySem.F.plainAttrs_list PySem.F.slot_list_append PySem.F.type_list_append mt_append (qv 1) (pa_cons (pe_tup (pa_cons (pe_ix (i_ixK (K := K) rfl) (qv 0) (qv 2) (fun _ _ => rfl)) (pa_cons (pe_fnX tk_def.toTk G_p_number_in (hr.mono (by decide)) (pa_cons (pe_slice (s_slK (K := K) rfl) (qv 0) (po_t (pe_op o_add (qv 2) pe_int)) (po_t (qv 3))) pa_nil)) pa_nil))) pa_nil)))
        (pss_one (ps_set (i := 2) sc_p_read_runs.nd rfl (by first | exact Or.inl rfl | exact Or.inr rfl) (pe_op o_add (qv 3) pe_int)))))))
        (pss_one (ps_ret (qv 1)))))), ?_⟩
    have hsz : sizeLine = 16777216 := sizeLine_eq
    have e59 : L (Str.ofString ";") = [59] := by decide +kernel
    simp only [L2.start, List.map_cons, List.map_nil, List.length_cons, List.length_nil, List.replicate_succ, List.replicate_zero, List.cons_append, List.nil_append, Nat.reduceAdd, Nat.reduceSub, Int.reduceLT, Int.reduceLE, true_and, and_true, decide_eq_true_eq, if_true, if_false, String.reduceEq, Bool.not_true, Bool.not_false, Bool.false_eq_true, decide_true, decide_false, List.set_cons_zero, List.set_cons_succ, gS, rVar, tC, tSeq, tNext, tAsg, gName, tRet, tRetN, tDrop, tIfS, tOp, tUn, tCB, tCons, tNil, tTup, tLst, tFn, tB2, tAnd, tOr, tNot, trV, tSl, tNoPart, pT, vAnd, vOr, vNot, addV, mulV, int2, int2', ltV, eqR, neR, sc, isV, isntV, negV, ixV, slV, lenV, isiV, isS, minV, maxV, joinV, tBM, tBM0, tyV, tFE, L_T, tRaise, tJoin, tJPart, tFmt, tTry, tH1, unb, tFnX, gSub, setV, isxV, rCat, rRep, rAppend, tCL, oneC, capS, gTup, gCons, gNil, tStrF, List.set_nil, sumV, tCP, tB, inT, eqN, strV, intW, fndV, prtV, stpV, List.append_nil, tWh]
    refine ⟨by omega, fun p hp => ?_⟩
    have g0 : ∀ r ∈ ([] : List (Nat × Nat)), GoodN (numL (r.2 : Nat)) := fun r hr => by cases hr
    refine ⟨fun k σ H' => ∃ (done : List (Nat × Nat)) (rest : List Nat) (v : Option V) (ts : List Addr), k = rest.length ∧ L z = wr done ++ rest ∧ (∀ r ∈ done, GoodN (numL (r.2 : Nat))) ∧ Same H H' ∧ H' p = some (.lst (ts.map V.ref)) ∧ RunsAt H' ts done ∧ σ = [some (V.str z), some (V.ref p), some (V.int ((wr done).length : Int)), v], ⟨_, [], L z, none, [], rfl, rfl, g0, Same.updN hp, upd_same, runsAt_nil _, rfl⟩, ?_⟩
    rintro k σ H' ⟨done, rest, v, ts, rfl, hz, gd, sm, h1, ra, rfl⟩
    have hts := ra.1
    have dl := wr_len_ge done
    have zl : (L z).length = (wr done).length + rest.length := by rw [hz, List.length_append]
    simp only [L2.start, List.map_cons, List.map_nil, List.length_cons, List.length_nil, List.replicate_succ, List.replicate_zero, List.cons_append, List.nil_append, Nat.reduceAdd, Nat.reduceSub, Int.reduceLT, Int.reduceLE, true_and, and_true, decide_eq_true_eq, if_true, if_false, String.reduceEq, Bool.not_true, Bool.not_false, Bool.false_eq_true, decide_true, decide_false, List.set_cons_zero, List.set_cons_succ, gS, rVar, tC, tSeq, tNext, tAsg, gName, tRet, tRetN, tDrop, tIfS, tOp, tUn, tCB, tCons, tNil, tTup, tLst, tFn, tB2, tAnd, tOr, tNot, trV, tSl, tNoPart, pT, vAnd, vOr, vNot, addV, mulV, int2, int2', ltV, eqR, neR, sc, isV, isntV, negV, ixV, slV, lenV, isiV, isS, minV, maxV, joinV, tBM, tBM0, tyV, tFE, L_T, tRaise, tJoin, tJPart, tFmt, tTry, tH1, unb, tFnX, gSub, setV, isxV, rCat, rRep, rAppend, tCL, oneC, capS, gTup, gCons, gNil, tStrF, List.set_nil, sumV, tCP, tB, inT, eqN, strV, intW, fndV, prtV, stpV, List.append_nil]
    refine ⟨by omega, ?_⟩
    cases rest with
    | nil =>
      rw [List.append_nil] at hz
      exact ite2 (fun w => absurd w (by rw [hz]; omega)) fun _ => q done hz gd p ts H' sm hp h1 ra
    | cons d t =>
      rw [List.length_cons] at zl
      refine ite2 (fun _ => ?_) fun w => absurd (by omega) w
      refine cutS (fun σ' H2 => H2 = H' ∧ ∃ r : Int, ((r = -1 ∧ ∀ x ∈ t, x ≠ 59) ∨ ∃ w t', t = w ++ 59 :: t' ∧ (∀ x ∈ w, x ≠ 59) ∧ r = (((wr done).length + 1 + w.length : Nat) : Int)) ∧ σ' = [some (V.str z), some (V.ref p), some (V.int ((wr done).length : Int)), some (V.int r)]) ?_ ?_
      · simp only [L2.start, List.map_cons, List.map_nil, List.length_cons, List.length_nil, List.replicate_succ, List.replicate_zero, List.cons_append, List.nil_append, Nat.reduceAdd, Nat.reduceSub, Int.reduceLT, Int.reduceLE, true_and, and_true, decide_eq_true_eq, if_true, if_false, String.reduceEq, Bool.not_true, Bool.not_false, Bool.false_eq_true, decide_true, decide_false, List.set_cons_zero, List.set_cons_succ, gS, rVar, tC, tSeq, tNext, tAsg, gName, tRet, tRetN, tDrop, tIfS, tOp, tUn, tCB, tCons, tNil, tTup, tLst, tFn, tB2, tAnd, tOr, tNot, trV, tSl, tNoPart, pT, vAnd, vOr, vNot, addV, mulV, int2, int2', ltV, eqR, neR, sc, isV, isntV, negV, ixV, slV, lenV, isiV, isS, minV, maxV, joinV, tBM, tBM0, tyV, tFE, L_T, tRaise, tJoin, tJPart, tFmt, tTry, tH1, unb, tFnX, gSub, setV, isxV, rCat, rRep, rAppend, tCL, oneC, capS, gTup, gCons, gNil, tStrF, List.set_nil, sumV, tCP, tB, inT, eqN, strV, intW, fndV, prtV, stpV, List.append_nil]
        refine ⟨59, e59, by omega, fun r hr => ?_⟩
        rw [show (((wr done).length : Int) + 1).toNat = (wr done).length + 1 by omega] at hr
        exact ⟨r, fnd_rest hz hr, rfl⟩
      rintro _ H2 ⟨rfl, r, hr, rfl⟩
      have bad : ∀ {rs : List (Nat × Nat)}, L z = wr rs → ∃ n rs', t = numL ((n : Nat) : Int) ++ 59 :: wr rs' ∧ rs = done ++ (d, n) :: rs' := fun {rs} h => by
        obtain ⟨tail, e1, e2⟩ := wr_prefix (h.symm.trans hz)
        obtain ⟨n, rs', e3, e4⟩ := wr_head e2.symm
        exact ⟨n, rs', e4, by rw [e1, e3]⟩
      rcases hr with ⟨rfl, hn⟩ | ⟨w, t', et, hw, rfl⟩
      · simp only [L2.start, List.map_cons, List.map_nil, List.length_cons, List.length_nil, List.replicate_succ, List.replicate_zero, List.cons_append, List.nil_append, Nat.reduceAdd, Nat.reduceSub, Int.reduceLT, Int.reduceLE, true_and, and_true, decide_eq_true_eq, if_true, if_false, String.reduceEq, Bool.not_true, Bool.not_false, Bool.false_eq_true, decide_true, decide_false, List.set_cons_zero, List.set_cons_succ, gS, rVar, tC, tSeq, tNext, tAsg, gName, tRet, tRetN, tDrop, tIfS, tOp, tUn, tCB, tCons, tNil, tTup, tLst, tFn, tB2, tAnd, tOr, tNot, trV, tSl, tNoPart, pT, vAnd, vOr, vNot, addV, mulV, int2, int2', ltV, eqR, neR, sc, isV, isntV, negV, ixV, slV, lenV, isiV, isS, minV, maxV, joinV, tBM, tBM0, tyV, tFE, L_T, tRaise, tJoin, tJPart, tFmt, tTry, tH1, unb, tFnX, gSub, setV, isxV, rCat, rRep, rAppend, tCL, oneC, capS, gTup, gCons, gNil, tStrF, List.set_nil, sumV, tCP, tB, inT, eqN, strV, intW, fndV, prtV, stpV, List.append_nil]
        refine ⟨by decide, e (fun rs h g => ?_) H2 sm⟩
        obtain ⟨n, rs', e4, _⟩ := bad h
        exact hn 59 (by rw [e4]; simp) rfl
      · simp only [L2.start, List.map_cons, List.map_nil, List.length_cons, List.length_nil, List.replicate_succ, List.replicate_zero, List.cons_append, List.nil_append, Nat.reduceAdd, Nat.reduceSub, Int.reduceLT, Int.reduceLE, true_and, and_true, decide_eq_true_eq, if_true, if_false, String.reduceEq, Bool.not_true, Bool.not_false, Bool.false_eq_true, decide_true, decide_false, List.set_cons_zero, List.set_cons_succ, gS, rVar, tC, tSeq, tNext, tAsg, gName, tRet, tRetN, tDrop, tIfS, tOp, tUn, tCB, tCons, tNil, tTup, tLst, tFn, tB2, tAnd, tOr, tNot, trV, tSl, tNoPart, pT, vAnd, vOr, vNot, addV, mulV, int2, int2', ltV, eqR, neR, sc, isV, isntV, negV, ixV, slV, lenV, isiV, isS, minV, maxV, joinV, tBM, tBM0, tyV, tFE, L_T, tRaise, tJoin, tJPart, tFmt, tTry, tH1, unb, tFnX, gSub, setV, isxV, rCat, rRep, rAppend, tCL, oneC, capS, gTup, gCons, gNil, tStrF, List.set_nil, sumV, tCP, tB, inT, eqN, strV, intW, fndV, prtV, stpV, List.append_nil, sp_p_number_in]
        have tl : t.length = w.length + 1 + t'.length := by
          rw [et, List.length_append, List.length_cons]
          omega
        have ec : cut (L z) (some (((wr done).length : Int) + 1)) (some (((wr done).length + 1 + w.length : Nat) : Int)) = w := by
          rw [show (((wr done).length : Int) + 1) = (((wr done).length + 1 : Nat) : Int) by omega, show (((wr done).length + 1 + w.length : Nat) : Int) = (((wr done).length + 1 : Nat) : Int) + (w.length : Int) by omega, LP.cut_mid]
          rw [hz, et, show wr done ++ d :: (w ++ 59 :: t') = (wr done ++ [d]) ++ (w ++ 59 :: t') by simp, show (wr done).length + 1 = (wr done ++ [d]).length by simp, List.drop_left, List.take_left]
        have ac : atI (L z) ((wr done).length : Int) = some d := by
          unfold atI ixN
          rw [if_pos (by omega), if_pos (by omega), Int.toNat_natCast, Option.bind_some, hz, List.getElem?_append_right (Nat.le_refl _), Nat.sub_self]
          rfl
        rw [ec]
        refine ite2 (fun w => absurd w (by omega)) fun _ => ⟨.inl ⟨_, SqL.of h1⟩, by omega, _, ac, by omega, by omega, fun g => ⟨by omega, fun tt htt => ?_⟩, fun g => ?_⟩
        · have np : p ≠ tt := ne_of_none h1 htt
          have hp2 : upd H2 tt (HO.tup [V.str (T [d]), V.int ((digitsVal w : Nat) : Int)]) p = some (HO.lst (ts.map V.ref)) := (upd_ne np).trans h1
          have gn := good_num g
          refine ⟨p, _, _, rfl, rfl, hp2, by rw [List.length_map]; omega, t'.length, by omega, done ++ [(d, digitsVal w)], t', some (V.int (((wr done).length + 1 + w.length : Nat) : Int)), ts ++ [tt], rfl, ?_, ?_, same_put (Same.upd sm htt) hp, ?_, ?_, ?_⟩
          · rw [wr_snoc, gn, hz, et]
            simp
          · intro r hr
            rcases List.mem_append.mp hr with y | y
            · exact gd r y
            · rw [List.mem_singleton.mp y]
              show GoodN (numL ((digitsVal w : Nat) : Int))
              rw [gn]
              exact g
          · rw [upd_same, List.map_append]
            rfl
          · refine runsAt_snoc (runsAt_same ra ((sameT_of (Same.updN htt)).trans (sameT_lst hp2))) ?_
            rw [upd_ne (Ne.symm np), upd_same]
          · rw [wr_snoc, gn, List.length_append, List.length_cons, List.length_append, List.length_singleton, show (((wr done).length + 1 + w.length : Nat) : Int) + 1 = (((wr done).length + (w.length + 1 + 1) : Nat) : Int) by omega]
        · refine e (fun rs h gg => ?_) _ sm
          obtain ⟨n, rs', e4, e5⟩ := bad h
          obtain ⟨e6, _⟩ := split_at hw (no59 n) (et.symm.trans e4)
          refine g ?_
          rw [e6]
          exact gg (d, n) (by rw [e5]; simp)
def sp_p_unpacked (K : PySem.W.Frag) (c : Cs) : Sp := fun vs H Q E => match vs with
  | [.str z] => (L z).length ≤ 1000000 ∧ (∀ h rs, Pk (L z) h rs → ∀ p H', Same H H' → H p = none → H' p = some (.tup [.str (T (flat rs)), .int (h : Int)]) → Q (.ref p) H') ∧ ((∀ h rs, ¬ Pk (L z) h rs) → ∀ H', Same H H' → E (.ref c.NoRow) none H')
  | _ => False
theorem ok_p_unpacked {f : Addr} {fd : FuncData} (F : Fun K "unpacked" "unpacked" s_p_unpacked f fd) (B : Bn mg) {c : Cs} (ER : Er K mg c) (GC : Gc mg) (G_p_number_in : FnX P w K mg base 1 "number_in" P_p_number_in (sp_p_number_in K c)) (G_p_packed : FnX P w K mg base 2 "packed" P_p_packed (sp_p_packed K c)) (G_p_read_runs : FnX P w K mg base 2 "read_runs" P_p_read_runs (sp_p_read_runs K c)) : FnOk P w K mg base (CX1 P w) 3 f fd P_p_unpacked (sp_p_unpacked K c) := by
  refine F.okX sc_p_unpacked (fun vs H Q E h => ?_) (fun cdv A outer s H vs Q E hr h => ?_) <;> unfold sp_p_unpacked at h <;> split at h <;> first | exact h.elim | skip
  · rfl
  · rename_i z
    obtain ⟨zl, q, e⟩ := h
    refine ⟨_, (pss_cons (ps_cut (ps_set (i := 1) sc_p_unpacked.nd rfl (by first | exact Or.inl rfl | exact Or.inr rfl) (pe_bmK (K := K) rfl PySem.F.plainAttrs_str PySem.F.slot_str_partition PySem.F.type_str_partition m_partition (qv 0) (pa_cons pe_str pa_nil))))
        (pss_cons (ps_cut (ps_set (i := 2) sc_p_unpacked.nd rfl (by first | exact Or.inl rfl | exact Or.inr rfl) (pe_fnX tk_def.toTk G_p_number_in (hr.mono (by decide)) (pa_cons (pe_ix (i_ixK (K := K) rfl) (qv 1) pe_int (fun _ _ => rfl)) pa_nil))))
        (pss_cons (ps_cut (ps_set (i := 3) sc_p_unpacked.nd rfl (by first | exact Or.inl rfl | exact Or.inr rfl) (pe_fnX tk_def.toTk G_p_read_runs (hr.mono (by decide)) (pa_cons (pe_ix (i_ixK (K := K) rfl) (qv 1) pe_int (fun _ _ => rfl)) pa_nil))))
        (pss_cons (ps_cut (ps_if (pt_c2 o_gt (pe_callB (c_sum (K := K) rfl rfl) (by rfl) B.sum bt_sum (pa_cons (pe_compP (K := K) rfl (own := ["sign", "many"]) (cp := []) rfl rfl rfl (by decide +kernel) (by decide +kernel) trivial (qv 3) (by decide) (fun _ _ _ _ => pg_name (i := 0) (show List.Nodup (["sign", "many"] : List Str) by decide +kernel) rfl (Or.inl rfl) (Or.inr rfl)) (fun _ _ _ _ => pg_name (i := 1) (show List.Nodup (["sign", "many"] : List Str) by decide +kernel) rfl (Or.inl rfl) (Or.inr rfl)) (fun _ _ _ _ => pf_nil) (fun _ _ _ _ => (qv 1))) pa_nil)) (pe_globI rfl GC.MOST_SIGNS)) (pss_one (ps_raise tk_def rfl ER.x_NoRow rfl ER.m_NoRow (pa_cons pe_str pa_nil))) pss_nil))
        (pss_cons (ps_cut (ps_set (i := 4) sc_p_unpacked.nd rfl (by first | exact Or.inl rfl | exact Or.inr rfl) (pe_bmK (K := K) rfl PySem.F.plainAttrs_str PySem.F.slot_str_join PySem.F.type_str_join (m_joinK (K := K) rfl) pe_str (pa_cons (pe_compP (K := K) rfl (own := ["sign", "many"]) (cp := []) rfl rfl rfl (by decide +kernel) (by decide +kernel) trivial (qv 3) (by decide) (fun _ _ _ _ => pg_name (i := 0) (show List.Nodup (["sign", "many"] : List Str) by decide +kernel) rfl (Or.inl rfl) (Or.inr rfl)) (fun _ _ _ _ => pg_name (i := 1) (show List.Nodup (["sign", "many"] : List Str) by decide +kernel) rfl (Or.inl rfl) (Or.inr rfl)) (fun _ _ _ _ => pf_nil) (fun _ _ _ _ => (pe_op o_mul (qv 0) (qv 1)))) pa_nil))))
        (pss_cons (ps_cut (ps_if (PW.pt (pw_or (pt_c2 o_gt (qv 2) (pe_callB (c_lenK (K := K) rfl) (by rfl) B.len bt_len (pa_cons (qv 4) pa_nil))) (pw_or1 (pt_c2 o_ne (pe_fnX tk_def.toTk G_p_packed (hr.mono (by decide)) (pa_cons (qv 4) (pa_cons (qv 2) pa_nil))) (qv 0))))) (pss_one (ps_raise tk_def rfl ER.x_NoRow rfl ER.m_NoRow (pa_cons pe_str pa_nil))) pss_nil))
        (pss_one (ps_ret (pe_tup (pa_cons (qv 4) (pa_cons (qv 2) pa_nil))))))))))), ?_⟩
    have hsz : sizeLine = 16777216 := sizeLine_eq
    have e32 : L (Str.ofString " ") = [32] := by decide +kernel
    simp only [L2.start, List.map_cons, List.map_nil, List.length_cons, List.length_nil, List.replicate_succ, List.replicate_zero, List.cons_append, List.nil_append, Nat.reduceAdd, Nat.reduceSub, Int.reduceLT, Int.reduceLE, true_and, and_true, decide_eq_true_eq, if_true, if_false, String.reduceEq, Bool.not_true, Bool.not_false, Bool.false_eq_true, decide_true, decide_false, List.set_cons_zero, List.set_cons_succ, gS, rVar, tC, tSeq, tNext, tAsg, gName, tRet, tRetN, tDrop, tIfS, tOp, tUn, tCB, tCons, tNil, tTup, tLst, tFn, tB2, tAnd, tOr, tNot, trV, tSl, tNoPart, pT, vAnd, vOr, vNot, addV, mulV, int2, int2', ltV, eqR, neR, sc, isV, isntV, negV, ixV, slV, lenV, isiV, isS, minV, maxV, joinV, tBM, tBM0, tyV, tFE, L_T, tRaise, tJoin, tJPart, tFmt, tTry, tH1, unb, tFnX, gSub, setV, isxV, rCat, rRep, rAppend, tCL, oneC, capS, gTup, gCons, gNil, tStrF, List.set_nil, sumV, tCP, tB, inT, eqN, strV, intW, fndV, prtV, stpV, List.append_nil]
    refine cutS (fun σ' H' => Same H H' ∧ ∃ p w0 b w2, Prt 32 (L z) w0 b w2 ∧ H' p = some (.tup [.str (T w0), .str (T b), .str (T w2)]) ∧ σ' = [some (V.str z), some (V.ref p), none, none, none]) ?_ ?_
    · simp only [L2.start, List.map_cons, List.map_nil, List.length_cons, List.length_nil, List.replicate_succ, List.replicate_zero, List.cons_append, List.nil_append, Nat.reduceAdd, Nat.reduceSub, Int.reduceLT, Int.reduceLE, true_and, and_true, decide_eq_true_eq, if_true, if_false, String.reduceEq, Bool.not_true, Bool.not_false, Bool.false_eq_true, decide_true, decide_false, List.set_cons_zero, List.set_cons_succ, gS, rVar, tC, tSeq, tNext, tAsg, gName, tRet, tRetN, tDrop, tIfS, tOp, tUn, tCB, tCons, tNil, tTup, tLst, tFn, tB2, tAnd, tOr, tNot, trV, tSl, tNoPart, pT, vAnd, vOr, vNot, addV, mulV, int2, int2', ltV, eqR, neR, sc, isV, isntV, negV, ixV, slV, lenV, isiV, isS, minV, maxV, joinV, tBM, tBM0, tyV, tFE, L_T, tRaise, tJoin, tJPart, tFmt, tTry, tH1, unb, tFnX, gSub, setV, isxV, rCat, rRep, rAppend, tCL, oneC, capS, gTup, gCons, gNil, tStrF, List.set_nil, sumV, tCP, tB, inT, eqN, strV, intW, fndV, prtV, stpV, List.append_nil]
      refine ⟨32, e32, by omega, fun k hk hn p hp => ⟨Same.updN hp, p, _, _, _, prt_at hk hn, upd_same, rfl⟩, fun hn p hp => ⟨Same.updN hp, p, _, _, _, prt_no hn, by rw [upd_same, T_L], rfl⟩⟩
    rintro _ H1 ⟨sm1, p1, w0, b, w2, pt, h1, rfl⟩
    obtain ⟨pl0, pl2⟩ := prt_len pt
    refine cutS (fun σ' H' => H' = H1 ∧ GoodN w0 ∧ σ' = [some (V.str z), some (V.ref p1), some (V.int ((digitsVal w0 : Nat) : Int)), none, none]) ?_ ?_
    · simp only [L2.start, List.map_cons, List.map_nil, List.length_cons, List.length_nil, List.replicate_succ, List.replicate_zero, List.cons_append, List.nil_append, Nat.reduceAdd, Nat.reduceSub, Int.reduceLT, Int.reduceLE, true_and, and_true, decide_eq_true_eq, if_true, if_false, String.reduceEq, Bool.not_true, Bool.not_false, Bool.false_eq_true, decide_true, decide_false, List.set_cons_zero, List.set_cons_succ, gS, rVar, tC, tSeq, tNext, tAsg, gName, tRet, tRetN, tDrop, tIfS, tOp, tUn, tCB, tCons, tNil, tTup, tLst, tFn, tB2, tAnd, tOr, tNot, trV, tSl, tNoPart, pT, vAnd, vOr, vNot, addV, mulV, int2, int2', ltV, eqR, neR, sc, isV, isntV, negV, ixV, slV, lenV, isiV, isS, minV, maxV, joinV, tBM, tBM0, tyV, tFE, L_T, tRaise, tJoin, tJPart, tFmt, tTry, tH1, unb, tFnX, gSub, setV, isxV, rCat, rRep, rAppend, tCL, oneC, capS, gTup, gCons, gNil, tStrF, List.set_nil, sumV, tCP, tB, inT, eqN, strV, intW, fndV, prtV, stpV, List.append_nil]
      refine ⟨_, _, .inr (SqT.of h1), rfl, ?_⟩
      simp only [L2.start, List.map_cons, List.map_nil, List.length_cons, List.length_nil, List.replicate_succ, List.replicate_zero, List.cons_append, List.nil_append, Nat.reduceAdd, Nat.reduceSub, Int.reduceLT, Int.reduceLE, true_and, and_true, decide_eq_true_eq, if_true, if_false, String.reduceEq, Bool.not_true, Bool.not_false, Bool.false_eq_true, decide_true, decide_false, List.set_cons_zero, List.set_cons_succ, gS, rVar, tC, tSeq, tNext, tAsg, gName, tRet, tRetN, tDrop, tIfS, tOp, tUn, tCB, tCons, tNil, tTup, tLst, tFn, tB2, tAnd, tOr, tNot, trV, tSl, tNoPart, pT, vAnd, vOr, vNot, addV, mulV, int2, int2', ltV, eqR, neR, sc, isV, isntV, negV, ixV, slV, lenV, isiV, isS, minV, maxV, joinV, tBM, tBM0, tyV, tFE, L_T, tRaise, tJoin, tJPart, tFmt, tTry, tH1, unb, tFnX, gSub, setV, isxV, rCat, rRep, rAppend, tCL, oneC, capS, gTup, gCons, gNil, tStrF, List.set_nil, sumV, tCP, tB, inT, eqN, strV, intW, fndV, prtV, stpV, List.append_nil, sp_p_number_in]
      refine ⟨by omega, fun g => g, fun g => e (fun h rs k => g ?_) _ sm1⟩
      rw [(pk_in k pt).2.1]
      exact num_good (by have := k.2.1; have := k.2.2.1; omega)
    rintro _ H1 ⟨rfl, g0, rfl⟩
    refine cutS (fun σ' H' => Same H1 H' ∧ ∃ p2 ts rs, w2 = wr rs ∧ H' p2 = some (.lst (ts.map V.ref)) ∧ RunsAt H' ts rs ∧ σ' = [some (V.str z), some (V.ref p1), some (V.int ((digitsVal w0 : Nat) : Int)), some (V.ref p2), none]) ?_ ?_
    · simp only [L2.start, List.map_cons, List.map_nil, List.length_cons, List.length_nil, List.replicate_succ, List.replicate_zero, List.cons_append, List.nil_append, Nat.reduceAdd, Nat.reduceSub, Int.reduceLT, Int.reduceLE, true_and, and_true, decide_eq_true_eq, if_true, if_false, String.reduceEq, Bool.not_true, Bool.not_false, Bool.false_eq_true, decide_true, decide_false, List.set_cons_zero, List.set_cons_succ, gS, rVar, tC, tSeq, tNext, tAsg, gName, tRet, tRetN, tDrop, tIfS, tOp, tUn, tCB, tCons, tNil, tTup, tLst, tFn, tB2, tAnd, tOr, tNot, trV, tSl, tNoPart, pT, vAnd, vOr, vNot, addV, mulV, int2, int2', ltV, eqR, neR, sc, isV, isntV, negV, ixV, slV, lenV, isiV, isS, minV, maxV, joinV, tBM, tBM0, tyV, tFE, L_T, tRaise, tJoin, tJPart, tFmt, tTry, tH1, unb, tFnX, gSub, setV, isxV, rCat, rRep, rAppend, tCL, oneC, capS, gTup, gCons, gNil, tStrF, List.set_nil, sumV, tCP, tB, inT, eqN, strV, intW, fndV, prtV, stpV, List.append_nil]
      refine ⟨_, _, .inr (SqT.of h1), rfl, ?_⟩
      simp only [L2.start, List.map_cons, List.map_nil, List.length_cons, List.length_nil, List.replicate_succ, List.replicate_zero, List.cons_append, List.nil_append, Nat.reduceAdd, Nat.reduceSub, Int.reduceLT, Int.reduceLE, true_and, and_true, decide_eq_true_eq, if_true, if_false, String.reduceEq, Bool.not_true, Bool.not_false, Bool.false_eq_true, decide_true, decide_false, List.set_cons_zero, List.set_cons_succ, gS, rVar, tC, tSeq, tNext, tAsg, gName, tRet, tRetN, tDrop, tIfS, tOp, tUn, tCB, tCons, tNil, tTup, tLst, tFn, tB2, tAnd, tOr, tNot, trV, tSl, tNoPart, pT, vAnd, vOr, vNot, addV, mulV, int2, int2', ltV, eqR, neR, sc, isV, isntV, negV, ixV, slV, lenV, isiV, isS, minV, maxV, joinV, tBM, tBM0, tyV, tFE, L_T, tRaise, tJoin, tJPart, tFmt, tTry, tH1, unb, tFnX, gSub, setV, isxV, rCat, rRep, rAppend, tCL, oneC, capS, gTup, gCons, gNil, tStrF, List.set_nil, sumV, tCP, tB, inT, eqN, strV, intW, fndV, prtV, stpV, List.append_nil, sp_p_read_runs]
      refine ⟨by omega, fun rs hr g p2 ts H2 sm2 hp2 h2 ra => ⟨sm2, p2, ts, rs, hr, h2, ra, rfl⟩, fun hn H2 sm2 => e (fun h rs k => ?_) _ (sm1.trans sm2)⟩
      exact hn rs (pk_in k pt).2.2 fun r hr => num_good (flat_mem_le hr k.2.1)
    rintro _ H2 ⟨sm2, p2, ts, rs, hw2, h2, ra, rfl⟩
    have hts := ra.1
    have dl := wr_len_ge rs
    rw [← hw2] at dl
    have pk1 : ∀ {h rs'}, Pk (L z) h rs' → rs' = rs ∧ h = digitsVal w0 := fun {h rs'} k => by
      obtain ⟨_, a1, a2⟩ := pk_in k pt
      exact ⟨wr_inj (a2.symm.trans hw2), by rw [a1, numL_val]⟩
    refine cutS (fun σ' H' => Same H2 H' ∧ (flat rs).length ≤ 300 ∧ σ' = [some (V.str z), some (V.ref p1), some (V.int ((digitsVal w0 : Nat) : Int)), some (V.ref p2), none]) ?_ ?_
    · simp only [L2.start, List.map_cons, List.map_nil, List.length_cons, List.length_nil, List.replicate_succ, List.replicate_zero, List.cons_append, List.nil_append, Nat.reduceAdd, Nat.reduceSub, Int.reduceLT, Int.reduceLE, true_and, and_true, decide_eq_true_eq, if_true, if_false, String.reduceEq, Bool.not_true, Bool.not_false, Bool.false_eq_true, decide_true, decide_false, List.set_cons_zero, List.set_cons_succ, gS, rVar, tC, tSeq, tNext, tAsg, gName, tRet, tRetN, tDrop, tIfS, tOp, tUn, tCB, tCons, tNil, tTup, tLst, tFn, tB2, tAnd, tOr, tNot, trV, tSl, tNoPart, pT, vAnd, vOr, vNot, addV, mulV, int2, int2', ltV, eqR, neR, sc, isV, isntV, negV, ixV, slV, lenV, isiV, isS, minV, maxV, joinV, tBM, tBM0, tyV, tFE, L_T, tRaise, tJoin, tJPart, tFmt, tTry, tH1, unb, tFnX, gSub, setV, isxV, rCat, rRep, rAppend, tCL, oneC, capS, gTup, gCons, gNil, tStrF, List.set_nil, sumV, tCP, tB, inT, eqN, strV, intW, fndV, prtV, stpV, List.append_nil, gtV]
      refine ⟨_, SqL.of h2, by rw [List.length_map]; omega, fun i H3 acc => H3 = H2 ∧ acc = ((rs.take i).map fun r : Nat × Nat => ((r.2 : Nat) : Int)).map V.int, ⟨rfl, rfl⟩, ?_, ?_, ?_⟩
      · rintro i H3 acc _ ⟨rfl, _⟩
        exact SqL.of h2
      · rintro i r H3 acc hr2 ⟨rfl, rfl⟩
        rw [List.getElem?_map] at hr2
        obtain ⟨t, et, rfl⟩ := Option.map_eq_some_iff.mp hr2
        have hi : i < rs.length := by rw [← hts]; exact (List.getElem?_eq_some_iff.mp et).1
        have ei : rs[i]? = some rs[i] := List.getElem?_eq_getElem hi
        obtain ⟨t', et', ht⟩ := ra.2 i rs[i] ei
        rw [et] at et'
        cases Option.some.inj et'
        refine ⟨t, _, _, rfl, SqT.of ht, ?_⟩
        simp only [L2.start, List.map_cons, List.map_nil, List.length_cons, List.length_nil, List.replicate_succ, List.replicate_zero, List.cons_append, List.nil_append, Nat.reduceAdd, Nat.reduceSub, Int.reduceLT, Int.reduceLE, true_and, and_true, decide_eq_true_eq, if_true, if_false, String.reduceEq, Bool.not_true, Bool.not_false, Bool.false_eq_true, decide_true, decide_false, List.set_cons_zero, List.set_cons_succ, gS, rVar, tC, tSeq, tNext, tAsg, gName, tRet, tRetN, tDrop, tIfS, tOp, tUn, tCB, tCons, tNil, tTup, tLst, tFn, tB2, tAnd, tOr, tNot, trV, tSl, tNoPart, pT, vAnd, vOr, vNot, addV, mulV, int2, int2', ltV, eqR, neR, sc, isV, isntV, negV, ixV, slV, lenV, isiV, isS, minV, maxV, joinV, tBM, tBM0, tyV, tFE, L_T, tRaise, tJoin, tJPart, tFmt, tTry, tH1, unb, tFnX, gSub, setV, isxV, rCat, rRep, rAppend, tCL, oneC, capS, gTup, gCons, gNil, tStrF, List.set_nil, sumV, tCP, tB, inT, eqN, strV, intW, fndV, prtV, stpV, List.append_nil]
        rw [List.take_succ, ei, List.map_append, List.map_append]
        rfl
      · rintro H3 acc ⟨rfl, rfl⟩ l hl2
        rw [List.length_map, hts, List.take_length]
        refine ⟨_, SqL.of upd_same, ?_⟩
        rw [flat_sum]
        refine ite2 (fun w => ⟨by decide, e (fun h rs' k => ?_) _ ((sm1.trans sm2).upd hl2)⟩) fun w => ⟨Same.updN hl2, by omega⟩
        have := k.2.1
        rw [(pk1 k).1] at this
        omega
    rintro _ H3 ⟨sm3, fl, rfl⟩
    have h3 := sm3 _ _ h2
    have ra3 := runsAt_same ra (sameT_of sm3)
    refine cutS (fun σ' H' => Same H3 H' ∧ σ' = [some (V.str z), some (V.ref p1), some (V.int ((digitsVal w0 : Nat) : Int)), some (V.ref p2), some (V.str (T (flat rs)))]) ?_ ?_
    · simp only [L2.start, List.map_cons, List.map_nil, List.length_cons, List.length_nil, List.replicate_succ, List.replicate_zero, List.cons_append, List.nil_append, Nat.reduceAdd, Nat.reduceSub, Int.reduceLT, Int.reduceLE, true_and, and_true, decide_eq_true_eq, if_true, if_false, String.reduceEq, Bool.not_true, Bool.not_false, Bool.false_eq_true, decide_true, decide_false, List.set_cons_zero, List.set_cons_succ, gS, rVar, tC, tSeq, tNext, tAsg, gName, tRet, tRetN, tDrop, tIfS, tOp, tUn, tCB, tCons, tNil, tTup, tLst, tFn, tB2, tAnd, tOr, tNot, trV, tSl, tNoPart, pT, vAnd, vOr, vNot, addV, mulV, int2, int2', ltV, eqR, neR, sc, isV, isntV, negV, ixV, slV, lenV, isiV, isS, minV, maxV, joinV, tBM, tBM0, tyV, tFE, L_T, tRaise, tJoin, tJPart, tFmt, tTry, tH1, unb, tFnX, gSub, setV, isxV, rCat, rRep, rAppend, tCL, oneC, capS, gTup, gCons, gNil, tStrF, List.set_nil, sumV, tCP, tB, inT, eqN, strV, intW, fndV, prtV, stpV, List.append_nil]
      refine ⟨_, SqL.of h3, by rw [List.length_map]; omega, fun i H4 acc => H4 = H3 ∧ acc = ((rs.take i).map fun r : Nat × Nat => rep r.2 [r.1]).map fun l => V.str (T l), ⟨rfl, rfl⟩, ?_, ?_, ?_⟩
      · rintro i H4 acc _ ⟨rfl, _⟩
        exact SqL.of h3
      · rintro i r H4 acc hr2 ⟨rfl, rfl⟩
        rw [List.getElem?_map] at hr2
        obtain ⟨t, et, rfl⟩ := Option.map_eq_some_iff.mp hr2
        have hi : i < rs.length := by rw [← hts]; exact (List.getElem?_eq_some_iff.mp et).1
        have ei : rs[i]? = some rs[i] := List.getElem?_eq_getElem hi
        obtain ⟨t', et', ht⟩ := ra3.2 i rs[i] ei
        rw [et] at et'
        cases Option.some.inj et'
        have hm := flat_mem_le (List.getElem_mem hi) fl
        refine ⟨t, _, _, rfl, SqT.of ht, ?_⟩
        simp only [L2.start, List.map_cons, List.map_nil, List.length_cons, List.length_nil, List.replicate_succ, List.replicate_zero, List.cons_append, List.nil_append, Nat.reduceAdd, Nat.reduceSub, Int.reduceLT, Int.reduceLE, true_and, and_true, decide_eq_true_eq, if_true, if_false, String.reduceEq, Bool.not_true, Bool.not_false, Bool.false_eq_true, decide_true, decide_false, List.set_cons_zero, List.set_cons_succ, gS, rVar, tC, tSeq, tNext, tAsg, gName, tRet, tRetN, tDrop, tIfS, tOp, tUn, tCB, tCons, tNil, tTup, tLst, tFn, tB2, tAnd, tOr, tNot, trV, tSl, tNoPart, pT, vAnd, vOr, vNot, addV, mulV, int2, int2', ltV, eqR, neR, sc, isV, isntV, negV, ixV, slV, lenV, isiV, isS, minV, maxV, joinV, tBM, tBM0, tyV, tFE, L_T, tRaise, tJoin, tJPart, tFmt, tTry, tH1, unb, tFnX, gSub, setV, isxV, rCat, rRep, rAppend, tCL, oneC, capS, gTup, gCons, gNil, tStrF, List.set_nil, sumV, tCP, tB, inT, eqN, strV, intW, fndV, prtV, stpV, List.append_nil]
        refine ⟨⟨by omega, by omega, by rw [Int.toNat_natCast]; omega⟩, ?_⟩
        rw [List.take_succ, ei, List.map_append, List.map_append]
        rfl
      · rintro H4 acc ⟨rfl, rfl⟩ l hl2
        rw [List.length_map, hts, List.take_length, empty_L]
        refine ⟨_, SqL.of upd_same, ?_, ?_⟩
        · rw [List.length_nil, Nat.mul_zero, ← List.length_flatten, flat_rep]
          omega
        · rw [joinL_nil, flat_rep]
          exact ⟨Same.updN hl2, rfl⟩
    rintro _ H4 ⟨sm4, rfl⟩
    have smA := ((sm1.trans sm2).trans sm3).trans sm4
    refine cutS (fun σ' H' => Same H4 H' ∧ (∃ rs2, flat rs2 = flat rs ∧ Pk (L z) (digitsVal w0) rs2) ∧ σ' = [some (V.str z), some (V.ref p1), some (V.int ((digitsVal w0 : Nat) : Int)), some (V.ref p2), some (V.str (T (flat rs)))]) ?_ ?_
    · simp only [L2.start, List.map_cons, List.map_nil, List.length_cons, List.length_nil, List.replicate_succ, List.replicate_zero, List.cons_append, List.nil_append, Nat.reduceAdd, Nat.reduceSub, Int.reduceLT, Int.reduceLE, true_and, and_true, decide_eq_true_eq, if_true, if_false, String.reduceEq, Bool.not_true, Bool.not_false, Bool.false_eq_true, decide_true, decide_false, List.set_cons_zero, List.set_cons_succ, gS, rVar, tC, tSeq, tNext, tAsg, gName, tRet, tRetN, tDrop, tIfS, tOp, tUn, tCB, tCons, tNil, tTup, tLst, tFn, tB2, tAnd, tOr, tNot, trV, tSl, tNoPart, pT, vAnd, vOr, vNot, addV, mulV, int2, int2', ltV, eqR, neR, sc, isV, isntV, negV, ixV, slV, lenV, isiV, isS, minV, maxV, joinV, tBM, tBM0, tyV, tFE, L_T, tRaise, tJoin, tJPart, tFmt, tTry, tH1, unb, tFnX, gSub, setV, isxV, rCat, rRep, rAppend, tCL, oneC, capS, gTup, gCons, gNil, tStrF, List.set_nil, sumV, tCP, tB, inT, eqN, strV, intW, fndV, prtV, stpV, List.append_nil, gtV, sp_p_packed]
      refine ⟨by omega, ite2 (fun w => ⟨by decide, e (fun h rs' k => ?_) _ smA⟩) fun w => ⟨fl, fun y => absurd ⟨by omega, by omega⟩ y, fun _ rs2 gd2 fl2 H5 sm5 => ?_⟩⟩
      · have := k.2.2.1
        obtain ⟨a1, a2⟩ := pk1 k
        rw [a1, a2] at this
        omega
      · by_cases ee : numL ((digitsVal w0 : Nat) : Int) ++ 32 :: wr rs2 = L z
        · rw [decide_eq_true ee]
          exact iteF ⟨sm5, rs2, fl2, gd2, by rw [fl2]; exact fl, by rw [fl2]; omega, ee.symm⟩
        · rw [decide_eq_false ee]
          refine iteT ⟨by decide, e (fun h rs' k => ee ?_) _ (smA.trans sm5)⟩
          obtain ⟨a1, a2⟩ := pk1 k
          subst a1 a2
          rw [good_unique gd2 k.1 fl2]
          exact k.2.2.2.symm
    rintro _ H5 ⟨sm5, ⟨rs2, fl2, k⟩, rfl⟩
    have sm := smA.trans sm5
    simp only [L2.start, List.map_cons, List.map_nil, List.length_cons, List.length_nil, List.replicate_succ, List.replicate_zero, List.cons_append, List.nil_append, Nat.reduceAdd, Nat.reduceSub, Int.reduceLT, Int.reduceLE, true_and, and_true, decide_eq_true_eq, if_true, if_false, String.reduceEq, Bool.not_true, Bool.not_false, Bool.false_eq_true, decide_true, decide_false, List.set_cons_zero, List.set_cons_succ, gS, rVar, tC, tSeq, tNext, tAsg, gName, tRet, tRetN, tDrop, tIfS, tOp, tUn, tCB, tCons, tNil, tTup, tLst, tFn, tB2, tAnd, tOr, tNot, trV, tSl, tNoPart, pT, vAnd, vOr, vNot, addV, mulV, int2, int2', ltV, eqR, neR, sc, isV, isntV, negV, ixV, slV, lenV, isiV, isS, minV, maxV, joinV, tBM, tBM0, tyV, tFE, L_T, tRaise, tJoin, tJPart, tFmt, tTry, tH1, unb, tFnX, gSub, setV, isxV, rCat, rRep, rAppend, tCL, oneC, capS, gTup, gCons, gNil, tStrF, List.set_nil, sumV, tCP, tB, inT, eqN, strV, intW, fndV, prtV, stpV, List.append_nil]
    exact ⟨by omega, fun p hp => q _ rs2 k p _ (sm.upd hp) (sm.free hp) (by rw [upd_same, fl2])⟩
def sp_w_cell_at (K : PySem.W.Frag) : Sp := fun vs H Q _ => match vs with
  | [.ref a, .int k] => ∃ ns : List Int, SqL K H a (ns.map V.int) ∧ 0 ≤ k ∧ Q (.int (cellAt ns k)) H
  | _ => False
theorem ok_w_cell_at {f : Addr} {fd : FuncData} (F : Fun K "_law_cell_at" "_law_cell_at" s_w_cell_at f fd) (B : Bn mg) {c : Cs} (ER : Er K mg c) (GC : Gc mg)  : FnOk P w K mg base CX0 1 f fd P_w_cell_at (sp_w_cell_at K) := by
  refine F.pure sc_w_cell_at (fun vs H Q E h => ?_) (fun cdv A outer s H vs Q E hr h => ?_) <;> unfold sp_w_cell_at at h <;> split at h <;> first | exact h.elim | skip
  · rfl
  · rename_i a k
    obtain ⟨ns, hS, hk, q⟩ := h
    refine ⟨_, (pss_cons (ps_if (pt_c2 o_lt (qv 1) (pe_callB (c_lenK (K := K) rfl) (by rfl) B.len bt_len (pa_cons (qv 0) pa_nil))) (pss_one (ps_ret (pe_ix (i_ixK (K := K) rfl) (qv 0) (qv 1) (fun _ _ => rfl)))) pss_nil)
        (pss_one (ps_ret pe_int))), ?_⟩
    simp only [L2.start, List.map_cons, List.map_nil, List.length_cons, List.length_nil, List.replicate_succ, List.replicate_zero, List.cons_append, List.nil_append, Nat.reduceAdd, Nat.reduceSub, Int.reduceLT, Int.reduceLE, true_and, and_true, decide_eq_true_eq, if_true, if_false, String.reduceEq, Bool.not_true, Bool.not_false, Bool.false_eq_true, decide_true, decide_false, List.set_cons_zero, List.set_cons_succ, gS, rVar, tC, tSeq, tNext, tAsg, gName, tRet, tRetN, tDrop, tIfS, tOp, tUn, tCB, tCons, tNil, tTup, tLst, tFn, tB2, tAnd, tOr, tNot, trV, tSl, tNoPart, pT, vAnd, vOr, vNot, addV, mulV, int2, int2', ltV, eqR, neR, sc, isV, isntV, negV, ixV, slV, lenV, isiV, isS, minV, maxV, joinV, tBM, tBM0, tyV, tFE, L_T]
    refine ⟨_, .inl hS, ?_⟩
    unfold cellAt at q
    rw [List.length_map]
    refine ite2 (fun h1 => ?_) (fun h1 => ?_)
    · rw [if_pos h1] at q
      exact ⟨_, _, .inl hS, atI_getD (.int 0) hk (by simpa using h1), Same.refl _, by rw [getD_int]; exact q⟩
    · rw [if_neg h1] at q
      exact ⟨Same.refl _, q⟩
def sp_w_stream (K : PySem.W.Frag) : Sp := fun vs H Q _ => match vs with
  | [.int _, .int m] => 0 ≤ m ∧ m ≤ 1000 ∧ ∀ p (ns : List Int), H p = none → ns.length = m.toNat → ∀ H', Same H H' → H' p = some (.lst (ns.map V.int)) → Q (.ref p) H'
  | _ => False
theorem ok_w_stream {f : Addr} {fd : FuncData} (F : Fun K "_law_stream" "_law_stream" s_w_stream f fd) (B : Bn mg) {c : Cs} (ER : Er K mg c) (GC : Gc mg)  : FnOk P w K mg base CX0 1 f fd P_w_stream (sp_w_stream K) := by
  refine F.ok sc_w_stream (fun vs H Q E h => ?_) (fun cdv A outer s H vs Q E hr h => ?_) <;> unfold sp_w_stream at h <;> split at h <;> first | exact h.elim | skip
  · rfl
  · rename_i x m
    obtain ⟨h0, h1, q⟩ := h
    refine ⟨_, (pss_cons (ps_set (i := 2) sc_w_stream.nd rfl (by first | exact Or.inl rfl | exact Or.inr rfl) (pe_op o_add pe_int (pe_op o_mod (qv 0) pe_int)))
        (pss_cons (ps_set (i := 3) sc_w_stream.nd rfl (by first | exact Or.inl rfl | exact Or.inr rfl) (pe_lst pa_nil))
        (pss_cons (ps_rng1 PassesOwn.never rfl B.range (pa_cons (pe_op o_add (qv 1) pe_int) pa_nil) (pg_name (i := 4) sc_w_stream.nd rfl (by first | exact Or.inl rfl | exact Or.inr rfl)) (pss_cons (ps_set (i := 2) sc_w_stream.nd rfl (by first | exact Or.inl rfl | exact Or.inr rfl) (pe_op o_mod (pe_op o_mul (qv 2) pe_int) pe_int))
        (pss_one (ps_expr (pe_bmK (K := K) rfl PySem.F.plainAttrs_list PySem.F.slot_list_append PySem.F.type_list_append mt_append (qv 3) (pa_cons (pe_op o_fdiv (qv 2) pe_int) pa_nil))))))
        (pss_one (ps_ret (pe_slice (s_slK (K := K) rfl) (qv 3) (po_t pe_int) po_none)))))), ?_⟩
    simp only [L2.start, List.map_cons, List.map_nil, List.length_cons, List.length_nil, List.replicate_succ, List.replicate_zero, List.cons_append, List.nil_append, Nat.reduceAdd, Nat.reduceSub, Int.reduceLT, Int.reduceLE, true_and, and_true, decide_eq_true_eq, if_true, if_false, String.reduceEq, Bool.not_true, Bool.not_false, Bool.false_eq_true, decide_true, decide_false, List.set_cons_zero, List.set_cons_succ, gS, rVar, tC, tSeq, tNext, tAsg, gName, tRet, tRetN, tDrop, tIfS, tOp, tUn, tCB, tCons, tNil, tTup, tLst, tFn, tB2, tAnd, tOr, tNot, trV, tSl, tNoPart, pT, vAnd, vOr, vNot, addV, mulV, int2, int2', ltV, eqR, neR, sc, isV, isntV, negV, ixV, slV, lenV, isiV, isS, minV, maxV, joinV, tBM, tBM0, tyV, tFE, L_T, tRaise, tJoin, tJPart, tFmt, tTry, tH1, unb, tFnX, gSub, setV, isxV, rCat, rRep, rAppend, tCL, oneC, capS, gTup, gCons, gNil, tStrF, List.set_nil, sumV, tCP, tB, tRng]
    have hsz : sizeLine = 16777216 := sizeLine_eq
    refine ⟨by omega, fun p hp => ⟨⟨by omega, by omega⟩, ?_⟩⟩
    refine ⟨fun i σ H' => ∃ v w, ∃ ns : List Int, σ = [some (V.int x), some (V.int m), some (V.int v), some (V.ref p), w] ∧ H' = upd H p (.lst (ns.map V.int)) ∧ ns.length = i, ⟨_, _, [], rfl, rfl, rfl⟩, ?_, ?_⟩
    · rintro i σ H' hi ⟨v, w, ns, rfl, rfl, hn⟩
      simp only [L2.start, List.map_cons, List.map_nil, List.length_cons, List.length_nil, List.replicate_succ, List.replicate_zero, List.cons_append, List.nil_append, Nat.reduceAdd, Nat.reduceSub, Int.reduceLT, Int.reduceLE, true_and, and_true, decide_eq_true_eq, if_true, if_false, String.reduceEq, Bool.not_true, Bool.not_false, Bool.false_eq_true, decide_true, decide_false, List.set_cons_zero, List.set_cons_succ, gS, rVar, tC, tSeq, tNext, tAsg, gName, tRet, tRetN, tDrop, tIfS, tOp, tUn, tCB, tCons, tNil, tTup, tLst, tFn, tB2, tAnd, tOr, tNot, trV, tSl, tNoPart, pT, vAnd, vOr, vNot, addV, mulV, int2, int2', ltV, eqR, neR, sc, isV, isntV, negV, ixV, slV, lenV, isiV, isS, minV, maxV, joinV, tBM, tBM0, tyV, tFE, L_T, tRaise, tJoin, tJPart, tFmt, tTry, tH1, unb, tFnX, gSub, setV, isxV, rCat, rRep, rAppend, tCL, oneC, capS, gTup, gCons, gNil, tStrF, List.set_nil, sumV, tCP, tB]
      refine ⟨.inr ⟨by decide, by decide⟩, .inl ⟨_, SqL.of upd_same⟩, ⟨by decide, by decide⟩, p, _, _, rfl, rfl, upd_same, by rw [List.length_map]; omega, _, _, ns ++ [v * 48271 % 2147483647 / 16], rfl, ?_, by simp [hn]⟩
      rw [upd_upd, List.map_append]
      rfl
    · rintro σ H' ⟨v, w, ns, rfl, rfl, hn⟩
      simp only [L2.start, List.map_cons, List.map_nil, List.length_cons, List.length_nil, List.replicate_succ, List.replicate_zero, List.cons_append, List.nil_append, Nat.reduceAdd, Nat.reduceSub, Int.reduceLT, Int.reduceLE, true_and, and_true, decide_eq_true_eq, if_true, if_false, String.reduceEq, Bool.not_true, Bool.not_false, Bool.false_eq_true, decide_true, decide_false, List.set_cons_zero, List.set_cons_succ, gS, rVar, tC, tSeq, tNext, tAsg, gName, tRet, tRetN, tDrop, tIfS, tOp, tUn, tCB, tCons, tNil, tTup, tLst, tFn, tB2, tAnd, tOr, tNot, trV, tSl, tNoPart, pT, vAnd, vOr, vNot, addV, mulV, int2, int2', ltV, eqR, neR, sc, isV, isntV, negV, ixV, slV, lenV, isiV, isS, minV, maxV, joinV, tBM, tBM0, tyV, tFE, L_T, tRaise, tJoin, tJPart, tFmt, tTry, tH1, unb, tFnX, gSub, setV, isxV, rCat, rRep, rAppend, tCL, oneC, capS, gTup, gCons, gNil, tStrF, List.set_nil, sumV, tCP, tB]
      refine ⟨_, SqL.of upd_same, fun l hl => ?_⟩
      refine q l (cut ns (some 2) none) (upd_free hl).1 ?_ _ (Same.upd (Same.updN hp) hl) (by rw [upd_same, cut_map])
      rw [show (2 : Int) = ((2 : Nat) : Int) from rfl, cut_from, List.length_drop]
      omega
def sp_w_sign (K : PySem.W.Frag) : Sp := fun vs H Q _ => match vs with
  | [.int _] => ∀ c ∈ signs, Q (.str (T [c])) H
  | _ => False
theorem ok_w_sign {f : Addr} {fd : FuncData} (F : Fun K "_law_sign" "_law_sign" s_w_sign f fd) (B : Bn mg) {c : Cs} (ER : Er K mg c) (GC : Gc mg)  : FnOk P w K mg base CX0 1 f fd P_w_sign (sp_w_sign K) := by
  refine F.pure sc_w_sign (fun vs H Q E h => ?_) (fun cdv A outer s H vs Q E hr h => ?_) <;> unfold sp_w_sign at h <;> split at h <;> first | exact h.elim | skip
  · rfl
  · rename_i n
    refine ⟨_, (pss_cons (ps_set (i := 1) sc_w_sign.nd rfl (by first | exact Or.inl rfl | exact Or.inr rfl) pe_str)
        (pss_cons (ps_set (i := 1) sc_w_sign.nd rfl (by first | exact Or.inl rfl | exact Or.inr rfl) (pe_op o_add (qv 1) pe_str))
        (pss_one (ps_ret (pe_ix (i_ixK (K := K) rfl) (qv 1) (pe_op o_mod (qv 0) pe_int) (fun _ _ => rfl)))))), ?_⟩
    simp only [L2.start, List.map_cons, List.map_nil, List.length_cons, List.length_nil, List.replicate_succ, List.replicate_zero, List.cons_append, List.nil_append, Nat.reduceAdd, Nat.reduceSub, Int.reduceLT, Int.reduceLE, true_and, and_true, decide_eq_true_eq, if_true, if_false, String.reduceEq, Bool.not_true, Bool.not_false, Bool.false_eq_true, decide_true, decide_false, List.set_cons_zero, List.set_cons_succ, gS, rVar, tC, tSeq, tNext, tAsg, gName, tRet, tRetN, tDrop, tIfS, tOp, tUn, tCB, tCons, tNil, tTup, tLst, tFn, tB2, tAnd, tOr, tNot, trV, tSl, tNoPart, pT, vAnd, vOr, vNot, addV, mulV, int2, int2', ltV, eqR, neR, sc, isV, isntV, negV, ixV, slV, lenV, isiV, isS, minV, maxV, joinV, tBM, tBM0, tyV, tFE, L_T, tRaise, tJoin, tJPart, tFmt, tTry, tH1, unb, tFnX, gSub, setV, isxV, rCat, rRep, rAppend, tCL, oneC, capS, gTup, gCons, gNil, tStrF, List.set_nil, sumV, tCP, tB]
    have e : L (Str.ofString " !\"#$&'()*+,-./0123456789:;<=>?@ABCDEFGHIJKLMNOPQRSTUVWXYZ[\\]^_`") ++ L (Str.ofString "abcdefghijklmnopqrstuvwxyz{|}~") = signs := by decide +kernel
    have n0 : 0 ≤ n % 94 := Int.emod_nonneg _ (by decide)
    have n1 : n % 94 < 94 := Int.emod_lt_of_pos _ (by decide)
    rw [e]
    exact ⟨by decide +kernel, by decide +kernel, _, atI_getD 0 n0 (by rw [signs_len]; exact n1), Same.refl _, h _ (signs_at (by omega))⟩
def sp_w_whole (K : PySem.W.Frag) : Sp := fun vs H Q _ => match vs with
  | [.int _] => Q (.bl true) H
  | _ => False
theorem ok_w_whole {f : Addr} {fd : FuncData} (F : Fun K "_law_whole" "_law_whole" s_w_whole f fd) (B : Bn mg) {c : Cs} (ER : Er K mg c) (GC : Gc mg)  : FnOk P w K mg base CX0 1 f fd P_w_whole (sp_w_whole K) := by
  refine F.pure sc_w_whole (fun vs H Q E h => ?_) (fun cdv A outer s H vs Q E hr h => ?_) <;> unfold sp_w_whole at h <;> split at h <;> first | exact h.elim | skip
  · rfl
  · refine ⟨_, (pss_one (ps_ret (pe_and2 (pe_callB (c_isiK (K := K) rfl) (by rfl) B.isinstance bt_isinstance (pa_cons (qv 0) (pa_cons (pe_bltn (v := .ty "int") rfl B.int bt_int rfl) pa_nil))) (pe_one (pe_not2 (pe_callB (c_isiK (K := K) rfl) (by rfl) B.isinstance bt_isinstance (pa_cons (qv 0) (pa_cons (pe_bltn (v := .ty "bool") rfl B.bool bt_bool rfl) pa_nil)))))))), ?_⟩
    simp only [L2.start, List.map_cons, List.map_nil, List.length_cons, List.length_nil, List.replicate_succ, List.replicate_zero, List.cons_append, List.nil_append, Nat.reduceAdd, Nat.reduceSub, Int.reduceLT, Int.reduceLE, true_and, and_true, decide_eq_true_eq, if_true, if_false, String.reduceEq, Bool.not_true, Bool.not_false, Bool.false_eq_true, decide_true, decide_false, List.set_cons_zero, List.set_cons_succ, gS, rVar, tC, tSeq, tNext, tAsg, gName, tRet, tRetN, tDrop, tIfS, tOp, tUn, tCB, tCons, tNil, tTup, tLst, tFn, tB2, tAnd, tOr, tNot, trV, tSl, tNoPart, pT, vAnd, vOr, vNot, addV, mulV, int2, int2', ltV, eqR, neR, sc, isV, isntV, negV, ixV, slV, lenV, isiV, isS, minV, maxV, joinV, tBM, tBM0, tyV, tFE, L_T]
    exact ⟨Same.refl _, h⟩
def sp_w_runs_by (K : PySem.W.Frag) : Sp := fun vs H Q _ => match vs with
  | [.ref a, .int _] => ∃ ns : List Int, SqL K H a (ns.map V.int) ∧ ns.length ≤ 63 ∧ ∀ p H', Same H H' → RAt H' p → Q (.ref p) H'
  | _ => False
theorem ok_w_runs_by {f : Addr} {fd : FuncData} (F : Fun K "_law_runs_by" "_law_runs_by" s_w_runs_by f fd) (B : Bn mg) {c : Cs} (ER : Er K mg c) (GC : Gc mg) (G_w_stream : Fn P w K mg base 1 "_law_stream" P_w_stream (sp_w_stream K)) (G_w_sign : Fn P w K mg base 1 "_law_sign" P_w_sign (sp_w_sign K)) : FnOk P w K mg base CX0 2 f fd P_w_runs_by (sp_w_runs_by K) := by
  refine F.ok sc_w_runs_by (fun vs H Q E h => ?_) (fun cdv A outer s H vs Q E hr h => ?_) <;> unfold sp_w_runs_by at h <;> split at h <;> first | exact h.elim | skip
  · rfl
  · rename_i a cell
    obtain ⟨ns, hS, hn, q⟩ := h
    refine ⟨_, (pss_cons (ps_set (i := 2) sc_w_runs_by.nd rfl (by first | exact Or.inl rfl | exact Or.inr rfl) (pe_fn G_w_stream (hr.mono (by decide)) (pa_cons (qv 1) (pa_cons pe_int pa_nil))))
        (pss_cons (ps_set (i := 3) sc_w_runs_by.nd rfl (by first | exact Or.inl rfl | exact Or.inr rfl) (pe_lst pa_nil))
        (pss_cons (ps_cut (ps_set (i := 4) sc_w_runs_by.nd rfl (by first | exact Or.inl rfl | exact Or.inr rfl) (pe_ix (i_ixK (K := K) rfl) (pe_tup (pa_cons pe_int (pa_cons pe_int (pa_cons pe_int (pa_cons pe_int pa_nil))))) (pe_op o_mod (pe_ix (i_ixK (K := K) rfl) (qv 2) pe_int (fun _ _ => rfl)) pe_int) (fun _ _ => rfl))))
        (pss_cons (ps_cut (ps_set (i := 5) sc_w_runs_by.nd rfl (by first | exact Or.inl rfl | exact Or.inr rfl) (pe_op o_add (pe_slice (s_slK (K := K) rfl) (qv 0) (po_t pe_int) (po_t (pe_op o_add pe_int (pe_op o_mod (pe_ix (i_ixK (K := K) rfl) (qv 2) pe_int (fun _ _ => rfl)) pe_int)))) (pe_fn G_w_stream (hr.mono (by decide)) (pa_cons (pe_op o_add (qv 1) pe_int) (pa_cons pe_int pa_nil))))))
        (pss_cons (ps_rng1 PassesOwn.never rfl B.range (pa_cons (pe_op o_mod (pe_ix (i_ixK (K := K) rfl) (qv 2) pe_int (fun _ _ => rfl)) pe_int) pa_nil) (pg_name (i := 6) sc_w_runs_by.nd rfl (by first | exact Or.inl rfl | exact Or.inr rfl)) (pss_cons (ps_cut (ps_set (i := 7) sc_w_runs_by.nd rfl (by first | exact Or.inl rfl | exact Or.inr rfl) (pe_fn G_w_sign (hr.mono (by decide)) (pa_cons (pe_op o_add (pe_ix (i_ixK (K := K) rfl) (qv 2) pe_int (fun _ _ => rfl)) (pe_op o_mod (pe_ix (i_ixK (K := K) rfl) (qv 5) (qv 6) (fun _ _ => rfl)) (qv 4))) pa_nil))))
        (pss_cons (ps_cut (ps_set (i := 8) sc_w_runs_by.nd rfl (by first | exact Or.inl rfl | exact Or.inr rfl) (pe_op o_add pe_int (pe_op o_mod (pe_op o_fdiv (pe_ix (i_ixK (K := K) rfl) (qv 5) (qv 6) (fun _ _ => rfl)) pe_int) pe_int))))
        (pss_cons (ps_cut (ps_if (PW.pt (pw_and (pt_c2 o_eq (pe_op o_mod (pe_ix (i_ixK (K := K) rfl) (qv 2) pe_int (fun _ _ => rfl)) pe_int) pe_int) (pw_and1 (pt_c2 o_eq (pe_op o_mod (pe_ix (i_ixK (K := K) rfl) (qv 2) (pe_op o_add pe_int (qv 6)) (fun _ _ => rfl)) pe_int) pe_int)))) (pss_one (ps_set (i := 8) sc_w_runs_by.nd rfl (by first | exact Or.inl rfl | exact Or.inr rfl) (pe_op o_add pe_int (pe_op o_mod (pe_op o_fdiv (pe_ix (i_ixK (K := K) rfl) (qv 2) (pe_op o_add pe_int (qv 6)) (fun _ _ => rfl)) pe_int) pe_int)))) pss_nil))
        (pss_one (ps_if (PW.pt (pw_or (pt_c2 (o_eqN (K := K) rfl hr) (qv 3) (pe_lst pa_nil)) (pw_or1 (pt_c2 o_ne (pe_ix (i_ixK (K := K) rfl) (pe_ix (i_ixK (K := K) rfl) (qv 3) (pe_un u_neg pe_int) (fun _ _ => rfl)) pe_int (fun _ _ => rfl)) (qv 7))))) (pss_one (ps_expr (pe_bmK (K := K) rfl PySem.F.plainAttrs_list PySem.F.slot_list_append PySem.F.type_list_append mt_append (qv 3) (pa_cons (pe_tup (pa_cons (qv 7) (pa_cons (qv 8) pa_nil))) pa_nil)))) pss_nil))))))
        (pss_one (ps_ret (qv 3)))))))), ?_⟩
    have hsz : sizeLine = 16777216 := sizeLine_eq
    simp only [L2.start, List.map_cons, List.map_nil, List.length_cons, List.length_nil, List.replicate_succ, List.replicate_zero, List.cons_append, List.nil_append, Nat.reduceAdd, Nat.reduceSub, Int.reduceLT, Int.reduceLE, true_and, and_true, decide_eq_true_eq, if_true, if_false, String.reduceEq, Bool.not_true, Bool.not_false, Bool.false_eq_true, decide_true, decide_false, List.set_cons_zero, List.set_cons_succ, gS, rVar, tC, tSeq, tNext, tAsg, gName, tRet, tRetN, tDrop, tIfS, tOp, tUn, tCB, tCons, tNil, tTup, tLst, tFn, tB2, tAnd, tOr, tNot, trV, tSl, tNoPart, pT, vAnd, vOr, vNot, addV, mulV, int2, int2', ltV, eqR, neR, sc, isV, isntV, negV, ixV, slV, lenV, isiV, isS, minV, maxV, joinV, tBM, tBM0, tyV, tFE, L_T, tRaise, tJoin, tJPart, tFmt, tTry, tH1, unb, tFnX, gSub, setV, isxV, rCat, rRep, rAppend, tCL, oneC, capS, gTup, gCons, gNil, tStrF, List.set_nil, sumV, tCP, tB, inT, eqN, strV, intW, fndV, prtV, stpV, List.append_nil, sp_w_stream]
    refine fun ps ss hps hss H1 sm1 h1 => ⟨by omega, fun pr hpr => ?_⟩
    have hss : ss.length = 30 := hss
    have hr0 := sm1.free hpr
    have sm2 := sm1.upd (o := HO.lst []) hpr
    have h2 : upd H1 pr (HO.lst []) ps = some (.lst (ss.map V.int)) := (upd_ne (ne_of_none h1 hpr)).trans h1
    have r2 : upd H1 pr (HO.lst []) pr = some (.lst []) := upd_same
    generalize upd H1 pr (HO.lst []) = H2 at sm2 h2 r2 ⊢
    have aS : ∀ k : Nat, k < 30 → atI (ss.map V.int) (k : Int) = some (V.int (ss.getD k 0)) := fun k hk => by
      have := atI_int (l := ss) (i := (k : Int)) (by omega) (by omega)
      rw [Int.toNat_natCast] at this
      exact this
    refine cutS (fun σ' H' => Same H2 H' ∧ ∃ wv : Int, 0 < wv ∧ σ' = [some (V.ref a), some (V.int cell), some (V.ref ps), some (V.ref pr), some (V.int wv), none, none, none, none]) ?_ ?_
    · simp only [L2.start, List.map_cons, List.map_nil, List.length_cons, List.length_nil, List.replicate_succ, List.replicate_zero, List.cons_append, List.nil_append, Nat.reduceAdd, Nat.reduceSub, Int.reduceLT, Int.reduceLE, true_and, and_true, decide_eq_true_eq, if_true, if_false, String.reduceEq, Bool.not_true, Bool.not_false, Bool.false_eq_true, decide_true, decide_false, List.set_cons_zero, List.set_cons_succ, gS, rVar, tC, tSeq, tNext, tAsg, gName, tRet, tRetN, tDrop, tIfS, tOp, tUn, tCB, tCons, tNil, tTup, tLst, tFn, tB2, tAnd, tOr, tNot, trV, tSl, tNoPart, pT, vAnd, vOr, vNot, addV, mulV, int2, int2', ltV, eqR, neR, sc, isV, isntV, negV, ixV, slV, lenV, isiV, isS, minV, maxV, joinV, tBM, tBM0, tyV, tFE, L_T, tRaise, tJoin, tJPart, tFmt, tTry, tH1, unb, tFnX, gSub, setV, isxV, rCat, rRep, rAppend, tCL, oneC, capS, gTup, gCons, gNil, tStrF, List.set_nil, sumV, tCP, tB, inT, eqN, strV, intW, fndV, prtV, stpV, List.append_nil, modV]
      refine ⟨by omega, fun pt hpt => ⟨_, _, .inl (SqL.of ((upd_ne (ne_of_none h2 hpt)).trans h2)), aS 0 (by decide), ?_⟩⟩
      simp only [L2.start, List.map_cons, List.map_nil, List.length_cons, List.length_nil, List.replicate_succ, List.replicate_zero, List.cons_append, List.nil_append, Nat.reduceAdd, Nat.reduceSub, Int.reduceLT, Int.reduceLE, true_and, and_true, decide_eq_true_eq, if_true, if_false, String.reduceEq, Bool.not_true, Bool.not_false, Bool.false_eq_true, decide_true, decide_false, List.set_cons_zero, List.set_cons_succ, gS, rVar, tC, tSeq, tNext, tAsg, gName, tRet, tRetN, tDrop, tIfS, tOp, tUn, tCB, tCons, tNil, tTup, tLst, tFn, tB2, tAnd, tOr, tNot, trV, tSl, tNoPart, pT, vAnd, vOr, vNot, addV, mulV, int2, int2', ltV, eqR, neR, sc, isV, isntV, negV, ixV, slV, lenV, isiV, isS, minV, maxV, joinV, tBM, tBM0, tyV, tFE, L_T, tRaise, tJoin, tJPart, tFmt, tTry, tH1, unb, tFnX, gSub, setV, isxV, rCat, rRep, rAppend, tCL, oneC, capS, gTup, gCons, gNil, tStrF, List.set_nil, sumV, tCP, tB, inT, eqN, strV, intW, fndV, prtV, stpV, List.append_nil, modV]
      have y0 := Int.emod_nonneg (ss.getD 0 0) (b := 4) (by decide)
      have y1 := Int.emod_lt_of_pos (ss.getD 0 0) (b := 4) (by decide)
      generalize ss.getD 0 0 % 4 = r0 at y0 y1 ⊢
      have hw : ∃ wv : Int, atI [V.int 2, V.int 3, V.int 94, V.int 20] r0 = some (.int wv) ∧ 0 < wv := by
        have : r0 = 0 ∨ r0 = 1 ∨ r0 = 2 ∨ r0 = 3 := by omega
        rcases this with rfl | rfl | rfl | rfl <;> exact ⟨_, rfl, by decide⟩
      obtain ⟨wv, ew, w0⟩ := hw
      exact ⟨_, _, .inr (SqT.of upd_same), ew, Same.updN hpt, wv, w0, rfl⟩
    rintro _ H3 ⟨sm3, wv, w0, rfl⟩
    have e0 : 0 ≤ ss.getD 1 0 % 25 := Int.emod_nonneg _ (by decide)
    have e1 : ss.getD 1 0 % 25 < 25 := Int.emod_lt_of_pos _ (by decide)
    have h3 := sm3 _ _ h2
    have r3 := sm3 _ _ r2
    refine cutS (fun σ' H' => Same H3 H' ∧ ∃ (pn : Addr) (nn : List Int), 24 ≤ nn.length ∧ H' pn = some (.lst (nn.map V.int)) ∧ σ' = [some (V.ref a), some (V.int cell), some (V.ref ps), some (V.ref pr), some (V.int wv), some (V.ref pn), none, none, none]) ?_ ?_
    · simp only [L2.start, List.map_cons, List.map_nil, List.length_cons, List.length_nil, List.replicate_succ, List.replicate_zero, List.cons_append, List.nil_append, Nat.reduceAdd, Nat.reduceSub, Int.reduceLT, Int.reduceLE, true_and, and_true, decide_eq_true_eq, if_true, if_false, String.reduceEq, Bool.not_true, Bool.not_false, Bool.false_eq_true, decide_true, decide_false, List.set_cons_zero, List.set_cons_succ, gS, rVar, tC, tSeq, tNext, tAsg, gName, tRet, tRetN, tDrop, tIfS, tOp, tUn, tCB, tCons, tNil, tTup, tLst, tFn, tB2, tAnd, tOr, tNot, trV, tSl, tNoPart, pT, vAnd, vOr, vNot, addV, mulV, int2, int2', ltV, eqR, neR, sc, isV, isntV, negV, ixV, slV, lenV, isiV, isS, minV, maxV, joinV, tBM, tBM0, tyV, tFE, L_T, tRaise, tJoin, tJPart, tFmt, tTry, tH1, unb, tFnX, gSub, setV, isxV, rCat, rRep, rAppend, tCL, oneC, capS, gTup, gCons, gNil, tStrF, List.set_nil, sumV, tCP, tB, inT, eqN, strV, intW, fndV, prtV, stpV, List.append_nil, modV, sp_w_stream]
      refine ⟨_, _, .inl (SqL.of h3), aS 1 (by decide), ?_⟩
      simp only [L2.start, List.map_cons, List.map_nil, List.length_cons, List.length_nil, List.replicate_succ, List.replicate_zero, List.cons_append, List.nil_append, Nat.reduceAdd, Nat.reduceSub, Int.reduceLT, Int.reduceLE, true_and, and_true, decide_eq_true_eq, if_true, if_false, String.reduceEq, Bool.not_true, Bool.not_false, Bool.false_eq_true, decide_true, decide_false, List.set_cons_zero, List.set_cons_succ, gS, rVar, tC, tSeq, tNext, tAsg, gName, tRet, tRetN, tDrop, tIfS, tOp, tUn, tCB, tCons, tNil, tTup, tLst, tFn, tB2, tAnd, tOr, tNot, trV, tSl, tNoPart, pT, vAnd, vOr, vNot, addV, mulV, int2, int2', ltV, eqR, neR, sc, isV, isntV, negV, ixV, slV, lenV, isiV, isS, minV, maxV, joinV, tBM, tBM0, tyV, tFE, L_T, tRaise, tJoin, tJPart, tFmt, tTry, tH1, unb, tFnX, gSub, setV, isxV, rCat, rRep, rAppend, tCL, oneC, capS, gTup, gCons, gNil, tStrF, List.set_nil, sumV, tCP, tB, inT, eqN, strV, intW, fndV, prtV, stpV, List.append_nil, modV, sp_w_stream]
      refine ⟨_, (sm2.trans sm3).seq hS, fun q1 hq1 p2 ns2 hp2 hn2 H' sm' h' => ⟨q1, p2, _, _, rfl, rfl, sm' _ _ upd_same, h', ?_, fun p3 hp3 => ⟨(Same.trans (Same.updN hq1) sm').upd hp3, p3, cut ns (some 6) (some (6 + ss.getD 1 0 % 25)) ++ ns2, ?_, ?_, rfl⟩⟩⟩
      · have hn2 : ns2.length = 24 := hn2
        have := cut_len ns (some 6) (some (6 + ss.getD 1 0 % 25))
        rw [cut_map, List.length_map, List.length_map]
        omega
      · have hn2 : ns2.length = 24 := hn2
        rw [List.length_append]
        omega
      · rw [upd_same, cut_map, List.map_append]
    rintro _ H4 ⟨sm4, pn, nn, hnn, h4n, rfl⟩
    have h4 := sm4 _ _ h3
    have r4 := sm4 _ _ r3
    have smA := (sm2.trans sm3).trans sm4
    have nps : ps ≠ pr := ne_of_none h1 hpr
    have npn : pn ≠ pr := fun w => by
      rw [w, r4] at h4n
      have := congrArg List.length (HO.lst.inj (Option.some.inj h4n))
      rw [List.length_map, List.length_nil] at this
      omega
    have hbr : ∀ k : Nat, k < 24 → atI (nn.map V.int) (0 + (k : Int)) = some (V.int (nn.getD k 0)) := fun k hk => by
      have := atI_int (l := nn) (i := 0 + (k : Int)) (by omega) (by omega)
      rw [show (0 + (k : Int)).toNat = k by omega] at this
      exact this
    simp only [L2.start, List.map_cons, List.map_nil, List.length_cons, List.length_nil, List.replicate_succ, List.replicate_zero, List.cons_append, List.nil_append, Nat.reduceAdd, Nat.reduceSub, Int.reduceLT, Int.reduceLE, true_and, and_true, decide_eq_true_eq, if_true, if_false, String.reduceEq, Bool.not_true, Bool.not_false, Bool.false_eq_true, decide_true, decide_false, List.set_cons_zero, List.set_cons_succ, gS, rVar, tC, tSeq, tNext, tAsg, gName, tRet, tRetN, tDrop, tIfS, tOp, tUn, tCB, tCons, tNil, tTup, tLst, tFn, tB2, tAnd, tOr, tNot, trV, tSl, tNoPart, pT, vAnd, vOr, vNot, addV, mulV, int2, int2', ltV, eqR, neR, sc, isV, isntV, negV, ixV, slV, lenV, isiV, isS, minV, maxV, joinV, tBM, tBM0, tyV, tFE, L_T, tRaise, tJoin, tJPart, tFmt, tTry, tH1, unb, tFnX, gSub, setV, isxV, rCat, rRep, rAppend, tCL, oneC, capS, gTup, gCons, gNil, tStrF, List.set_nil, sumV, tCP, tB, inT, eqN, strV, intW, fndV, prtV, stpV, List.append_nil, tRng, modV]
    refine ⟨_, _, .inl (SqL.of h4), aS 1 (by decide), ?_⟩
    simp only [L2.start, List.map_cons, List.map_nil, List.length_cons, List.length_nil, List.replicate_succ, List.replicate_zero, List.cons_append, List.nil_append, Nat.reduceAdd, Nat.reduceSub, Int.reduceLT, Int.reduceLE, true_and, and_true, decide_eq_true_eq, if_true, if_false, String.reduceEq, Bool.not_true, Bool.not_false, Bool.false_eq_true, decide_true, decide_false, List.set_cons_zero, List.set_cons_succ, gS, rVar, tC, tSeq, tNext, tAsg, gName, tRet, tRetN, tDrop, tIfS, tOp, tUn, tCB, tCons, tNil, tTup, tLst, tFn, tB2, tAnd, tOr, tNot, trV, tSl, tNoPart, pT, vAnd, vOr, vNot, addV, mulV, int2, int2', ltV, eqR, neR, sc, isV, isntV, negV, ixV, slV, lenV, isiV, isS, minV, maxV, joinV, tBM, tBM0, tyV, tFE, L_T, tRaise, tJoin, tJPart, tFmt, tTry, tH1, unb, tFnX, gSub, setV, isxV, rCat, rRep, rAppend, tCL, oneC, capS, gTup, gCons, gNil, tStrF, List.set_nil, sumV, tCP, tB, inT, eqN, strV, intW, fndV, prtV, stpV, List.append_nil, modV]
    refine ⟨⟨by omega, by omega⟩, fun i σ H' => Same H H' ∧ H' ps = some (.lst (ss.map V.int)) ∧ H' pn = some (.lst (nn.map V.int)) ∧ (∃ us : List Addr, H' pr = some (.lst (us.map V.ref)) ∧ us.length ≤ i ∧ Ru H' us) ∧ ∃ v6 v7 v8, σ = [some (V.ref a), some (V.int cell), some (V.ref ps), some (V.ref pr), some (V.int wv), some (V.ref pn), v6, v7, v8], ⟨smA, h4, h4n, ⟨[], r4, Nat.le_refl _, ru_nil _⟩, _, _, _, rfl⟩, ?_, ?_⟩
    · rintro i σ H' hi ⟨sm, i1, i2, ⟨us, i3, i4, i5⟩, v6, v7, v8, rfl⟩
      have hi : i < 24 := by omega
      refine cutS (fun σ' H2 => H2 = H' ∧ ∃ d : Nat, σ' = [some (V.ref a), some (V.int cell), some (V.ref ps), some (V.ref pr), some (V.int wv), some (V.ref pn), some (V.int (0 + (i : Int))), some (V.str (T [d])), v8]) ?_ ?_
      · simp only [L2.start, List.map_cons, List.map_nil, List.length_cons, List.length_nil, List.replicate_succ, List.replicate_zero, List.cons_append, List.nil_append, Nat.reduceAdd, Nat.reduceSub, Int.reduceLT, Int.reduceLE, true_and, and_true, decide_eq_true_eq, if_true, if_false, String.reduceEq, Bool.not_true, Bool.not_false, Bool.false_eq_true, decide_true, decide_false, List.set_cons_zero, List.set_cons_succ, gS, rVar, tC, tSeq, tNext, tAsg, gName, tRet, tRetN, tDrop, tIfS, tOp, tUn, tCB, tCons, tNil, tTup, tLst, tFn, tB2, tAnd, tOr, tNot, trV, tSl, tNoPart, pT, vAnd, vOr, vNot, addV, mulV, int2, int2', ltV, eqR, neR, sc, isV, isntV, negV, ixV, slV, lenV, isiV, isS, minV, maxV, joinV, tBM, tBM0, tyV, tFE, L_T, tRaise, tJoin, tJPart, tFmt, tTry, tH1, unb, tFnX, gSub, setV, isxV, rCat, rRep, rAppend, tCL, oneC, capS, gTup, gCons, gNil, tStrF, List.set_nil, sumV, tCP, tB, inT, eqN, strV, intW, fndV, prtV, stpV, List.append_nil, modV, sp_w_sign]
        refine ⟨_, _, .inl (SqL.of i1), aS 2 (by decide), _, _, .inl (SqL.of i2), hbr i hi, ?_⟩
        simp only [L2.start, List.map_cons, List.map_nil, List.length_cons, List.length_nil, List.replicate_succ, List.replicate_zero, List.cons_append, List.nil_append, Nat.reduceAdd, Nat.reduceSub, Int.reduceLT, Int.reduceLE, true_and, and_true, decide_eq_true_eq, if_true, if_false, String.reduceEq, Bool.not_true, Bool.not_false, Bool.false_eq_true, decide_true, decide_false, List.set_cons_zero, List.set_cons_succ, gS, rVar, tC, tSeq, tNext, tAsg, gName, tRet, tRetN, tDrop, tIfS, tOp, tUn, tCB, tCons, tNil, tTup, tLst, tFn, tB2, tAnd, tOr, tNot, trV, tSl, tNoPart, pT, vAnd, vOr, vNot, addV, mulV, int2, int2', ltV, eqR, neR, sc, isV, isntV, negV, ixV, slV, lenV, isiV, isS, minV, maxV, joinV, tBM, tBM0, tyV, tFE, L_T, tRaise, tJoin, tJPart, tFmt, tTry, tH1, unb, tFnX, gSub, setV, isxV, rCat, rRep, rAppend, tCL, oneC, capS, gTup, gCons, gNil, tStrF, List.set_nil, sumV, tCP, tB, inT, eqN, strV, intW, fndV, prtV, stpV, List.append_nil, modV, sp_w_sign]
        exact ⟨w0, fun d _ => ⟨d, rfl⟩⟩
      rintro _ H2 ⟨rfl, d, rfl⟩
      refine cutS (fun σ' H' => H' = H2 ∧ ∃ n : Nat, 1 ≤ n ∧ n ≤ 300 ∧ σ' = [some (V.ref a), some (V.int cell), some (V.ref ps), some (V.ref pr), some (V.int wv), some (V.ref pn), some (V.int (0 + (i : Int))), some (V.str (T [d])), some (V.int (n : Int))]) ?_ ?_
      · simp only [L2.start, List.map_cons, List.map_nil, List.length_cons, List.length_nil, List.replicate_succ, List.replicate_zero, List.cons_append, List.nil_append, Nat.reduceAdd, Nat.reduceSub, Int.reduceLT, Int.reduceLE, true_and, and_true, decide_eq_true_eq, if_true, if_false, String.reduceEq, Bool.not_true, Bool.not_false, Bool.false_eq_true, decide_true, decide_false, List.set_cons_zero, List.set_cons_succ, gS, rVar, tC, tSeq, tNext, tAsg, gName, tRet, tRetN, tDrop, tIfS, tOp, tUn, tCB, tCons, tNil, tTup, tLst, tFn, tB2, tAnd, tOr, tNot, trV, tSl, tNoPart, pT, vAnd, vOr, vNot, addV, mulV, int2, int2', ltV, eqR, neR, sc, isV, isntV, negV, ixV, slV, lenV, isiV, isS, minV, maxV, joinV, tBM, tBM0, tyV, tFE, L_T, tRaise, tJoin, tJPart, tFmt, tTry, tH1, unb, tFnX, gSub, setV, isxV, rCat, rRep, rAppend, tCL, oneC, capS, gTup, gCons, gNil, tStrF, List.set_nil, sumV, tCP, tB, inT, eqN, strV, intW, fndV, prtV, stpV, List.append_nil, modV]
        refine ⟨_, _, .inl (SqL.of i2), hbr i hi, ?_⟩
        simp only [L2.start, List.map_cons, List.map_nil, List.length_cons, List.length_nil, List.replicate_succ, List.replicate_zero, List.cons_append, List.nil_append, Nat.reduceAdd, Nat.reduceSub, Int.reduceLT, Int.reduceLE, true_and, and_true, decide_eq_true_eq, if_true, if_false, String.reduceEq, Bool.not_true, Bool.not_false, Bool.false_eq_true, decide_true, decide_false, List.set_cons_zero, List.set_cons_succ, gS, rVar, tC, tSeq, tNext, tAsg, gName, tRet, tRetN, tDrop, tIfS, tOp, tUn, tCB, tCons, tNil, tTup, tLst, tFn, tB2, tAnd, tOr, tNot, trV, tSl, tNoPart, pT, vAnd, vOr, vNot, addV, mulV, int2, int2', ltV, eqR, neR, sc, isV, isntV, negV, ixV, slV, lenV, isiV, isS, minV, maxV, joinV, tBM, tBM0, tyV, tFE, L_T, tRaise, tJoin, tJPart, tFmt, tTry, tH1, unb, tFnX, gSub, setV, isxV, rCat, rRep, rAppend, tCL, oneC, capS, gTup, gCons, gNil, tStrF, List.set_nil, sumV, tCP, tB, inT, eqN, strV, intW, fndV, prtV, stpV, List.append_nil, modV]
        have y0 := Int.emod_nonneg (nn.getD i 0 / 94) (b := 9) (by decide)
        have y1 := Int.emod_lt_of_pos (nn.getD i 0 / 94) (b := 9) (by decide)
        exact ⟨⟨by decide, by decide⟩, (1 + nn.getD i 0 / 94 % 9).toNat, by omega, by omega, by rw [Int.toNat_of_nonneg (by omega)]⟩
      rintro _ H2 ⟨rfl, n, n1, n2, rfl⟩
      refine cutS (fun σ' H' => H' = H2 ∧ ∃ n : Nat, 1 ≤ n ∧ n ≤ 300 ∧ σ' = [some (V.ref a), some (V.int cell), some (V.ref ps), some (V.ref pr), some (V.int wv), some (V.ref pn), some (V.int (0 + (i : Int))), some (V.str (T [d])), some (V.int (n : Int))]) ?_ ?_
      · simp only [L2.start, List.map_cons, List.map_nil, List.length_cons, List.length_nil, List.replicate_succ, List.replicate_zero, List.cons_append, List.nil_append, Nat.reduceAdd, Nat.reduceSub, Int.reduceLT, Int.reduceLE, true_and, and_true, decide_eq_true_eq, if_true, if_false, String.reduceEq, Bool.not_true, Bool.not_false, Bool.false_eq_true, decide_true, decide_false, List.set_cons_zero, List.set_cons_succ, gS, rVar, tC, tSeq, tNext, tAsg, gName, tRet, tRetN, tDrop, tIfS, tOp, tUn, tCB, tCons, tNil, tTup, tLst, tFn, tB2, tAnd, tOr, tNot, trV, tSl, tNoPart, pT, vAnd, vOr, vNot, addV, mulV, int2, int2', ltV, eqR, neR, sc, isV, isntV, negV, ixV, slV, lenV, isiV, isS, minV, maxV, joinV, tBM, tBM0, tyV, tFE, L_T, tRaise, tJoin, tJPart, tFmt, tTry, tH1, unb, tFnX, gSub, setV, isxV, rCat, rRep, rAppend, tCL, oneC, capS, gTup, gCons, gNil, tStrF, List.set_nil, sumV, tCP, tB, inT, eqN, strV, intW, fndV, prtV, stpV, List.append_nil, modV]
        have a4 : atI (ss.map V.int) (4 + (0 + (i : Int))) = some (V.int (ss.getD (4 + i) 0)) := by
          have := atI_int (l := ss) (i := 4 + (0 + (i : Int))) (by omega) (by omega)
          rw [show (4 + (0 + (i : Int))).toNat = 4 + i by omega] at this
          exact this
        refine ⟨_, _, .inl (SqL.of i1), aS 3 (by decide), ?_⟩
        simp only [L2.start, List.map_cons, List.map_nil, List.length_cons, List.length_nil, List.replicate_succ, List.replicate_zero, List.cons_append, List.nil_append, Nat.reduceAdd, Nat.reduceSub, Int.reduceLT, Int.reduceLE, true_and, and_true, decide_eq_true_eq, if_true, if_false, String.reduceEq, Bool.not_true, Bool.not_false, Bool.false_eq_true, decide_true, decide_false, List.set_cons_zero, List.set_cons_succ, gS, rVar, tC, tSeq, tNext, tAsg, gName, tRet, tRetN, tDrop, tIfS, tOp, tUn, tCB, tCons, tNil, tTup, tLst, tFn, tB2, tAnd, tOr, tNot, trV, tSl, tNoPart, pT, vAnd, vOr, vNot, addV, mulV, int2, int2', ltV, eqR, neR, sc, isV, isntV, negV, ixV, slV, lenV, isiV, isS, minV, maxV, joinV, tBM, tBM0, tyV, tFE, L_T, tRaise, tJoin, tJPart, tFmt, tTry, tH1, unb, tFnX, gSub, setV, isxV, rCat, rRep, rAppend, tCL, oneC, capS, gTup, gCons, gNil, tStrF, List.set_nil, sumV, tCP, tB, inT, eqN, strV, intW, fndV, prtV, stpV, List.append_nil, modV]
        refine ite2 (fun _ => ⟨_, _, .inl (SqL.of i1), a4, ?_⟩) fun _ => ⟨n, n1, n2, rfl⟩
        simp only [L2.start, List.map_cons, List.map_nil, List.length_cons, List.length_nil, List.replicate_succ, List.replicate_zero, List.cons_append, List.nil_append, Nat.reduceAdd, Nat.reduceSub, Int.reduceLT, Int.reduceLE, true_and, and_true, decide_eq_true_eq, if_true, if_false, String.reduceEq, Bool.not_true, Bool.not_false, Bool.false_eq_true, decide_true, decide_false, List.set_cons_zero, List.set_cons_succ, gS, rVar, tC, tSeq, tNext, tAsg, gName, tRet, tRetN, tDrop, tIfS, tOp, tUn, tCB, tCons, tNil, tTup, tLst, tFn, tB2, tAnd, tOr, tNot, trV, tSl, tNoPart, pT, vAnd, vOr, vNot, addV, mulV, int2, int2', ltV, eqR, neR, sc, isV, isntV, negV, ixV, slV, lenV, isiV, isS, minV, maxV, joinV, tBM, tBM0, tyV, tFE, L_T, tRaise, tJoin, tJPart, tFmt, tTry, tH1, unb, tFnX, gSub, setV, isxV, rCat, rRep, rAppend, tCL, oneC, capS, gTup, gCons, gNil, tStrF, List.set_nil, sumV, tCP, tB, inT, eqN, strV, intW, fndV, prtV, stpV, List.append_nil, modV]
        refine ite2 (fun _ => ⟨_, _, .inl (SqL.of i1), a4, ?_⟩) fun _ => ⟨n, n1, n2, rfl⟩
        simp only [L2.start, List.map_cons, List.map_nil, List.length_cons, List.length_nil, List.replicate_succ, List.replicate_zero, List.cons_append, List.nil_append, Nat.reduceAdd, Nat.reduceSub, Int.reduceLT, Int.reduceLE, true_and, and_true, decide_eq_true_eq, if_true, if_false, String.reduceEq, Bool.not_true, Bool.not_false, Bool.false_eq_true, decide_true, decide_false, List.set_cons_zero, List.set_cons_succ, gS, rVar, tC, tSeq, tNext, tAsg, gName, tRet, tRetN, tDrop, tIfS, tOp, tUn, tCB, tCons, tNil, tTup, tLst, tFn, tB2, tAnd, tOr, tNot, trV, tSl, tNoPart, pT, vAnd, vOr, vNot, addV, mulV, int2, int2', ltV, eqR, neR, sc, isV, isntV, negV, ixV, slV, lenV, isiV, isS, minV, maxV, joinV, tBM, tBM0, tyV, tFE, L_T, tRaise, tJoin, tJPart, tFmt, tTry, tH1, unb, tFnX, gSub, setV, isxV, rCat, rRep, rAppend, tCL, oneC, capS, gTup, gCons, gNil, tStrF, List.set_nil, sumV, tCP, tB, inT, eqN, strV, intW, fndV, prtV, stpV, List.append_nil, modV]
        have y0 := Int.emod_nonneg (ss.getD (4 + i) 0 / 5) (b := 290) (by decide)
        have y1 := Int.emod_lt_of_pos (ss.getD (4 + i) 0 / 5) (b := 290) (by decide)
        exact ⟨⟨by decide, by decide⟩, (10 + ss.getD (4 + i) 0 / 5 % 290).toNat, by omega, by omega, by rw [Int.toNat_of_nonneg (by omega)]⟩
      clear n1 n2
      rintro _ H2 ⟨rfl, n, n1, n2, rfl⟩
      simp only [L2.start, List.map_cons, List.map_nil, List.length_cons, List.length_nil, List.replicate_succ, List.replicate_zero, List.cons_append, List.nil_append, Nat.reduceAdd, Nat.reduceSub, Int.reduceLT, Int.reduceLE, true_and, and_true, decide_eq_true_eq, if_true, if_false, String.reduceEq, Bool.not_true, Bool.not_false, Bool.false_eq_true, decide_true, decide_false, List.set_cons_zero, List.set_cons_succ, gS, rVar, tC, tSeq, tNext, tAsg, gName, tRet, tRetN, tDrop, tIfS, tOp, tUn, tCB, tCons, tNil, tTup, tLst, tFn, tB2, tAnd, tOr, tNot, trV, tSl, tNoPart, pT, vAnd, vOr, vNot, addV, mulV, int2, int2', ltV, eqR, neR, sc, isV, isntV, negV, ixV, slV, lenV, isiV, isS, minV, maxV, joinV, tBM, tBM0, tyV, tFE, L_T, tRaise, tJoin, tJPart, tFmt, tTry, tH1, unb, tFnX, gSub, setV, isxV, rCat, rRep, rAppend, tCL, oneC, capS, gTup, gCons, gNil, tStrF, List.set_nil, sumV, tCP, tB, inT, eqN, strV, intW, fndV, prtV, stpV, List.append_nil, modV]
      refine ⟨by omega, fun p hp => ?_⟩
      have sm' : Same H (upd H2 p (HO.lst [])) := sm.upd hp
      have j1 : upd H2 p (HO.lst []) ps = some (.lst (ss.map V.int)) := (upd_ne (ne_of_none i1 hp)).trans i1
      have j2 : upd H2 p (HO.lst []) pn = some (.lst (nn.map V.int)) := (upd_ne (ne_of_none i2 hp)).trans i2
      have j3 : upd H2 p (HO.lst []) pr = some (.lst (us.map V.ref)) := (upd_ne (ne_of_none i3 hp)).trans i3
      have j5 : Ru (upd H2 p (HO.lst [])) us := fun t ht => by
        obtain ⟨c1, m1, e1, r1⟩ := i5 t ht
        exact ⟨c1, m1, (upd_ne (ne_of_none e1 hp)).trans e1, r1⟩
      have jp : upd H2 p (HO.lst []) p = some (.lst []) := upd_same
      generalize upd H2 p (HO.lst []) = H3 at sm' j1 j2 j3 j5 jp ⊢
      refine ⟨_, SqL.of j3, SqL.of jp, ?_⟩
      by_cases hu : (us.map V.ref).length = 0
      · rw [decide_eq_true hu]
        refine iteT ⟨.inl ⟨_, SqL.of j3⟩, by omega, fun tt htt => ?_⟩
        exact ⟨pr, _, _, rfl, rfl, (upd_ne (ne_of_none j3 htt)).trans j3, by rw [List.length_map]; omega, same_put (Same.upd sm' htt) hr0, lst_keep j1 nps htt, lst_keep j2 npn htt, ⟨us ++ [tt], by rw [upd_same, List.map_append]; rfl, by rw [List.length_append, List.length_singleton]; omega, ru_snoc j5 j3 htt n1 n2⟩, _, _, _, rfl⟩
      · rw [decide_eq_false hu]
        obtain ⟨x, hx, ex⟩ := atI_last hu
        obtain ⟨t, ht, rfl⟩ := List.mem_map.mp hx
        obtain ⟨c1, m1, e1, r1⟩ := j5 t ht
        refine iteF ⟨_, _, .inl (SqL.of j3), ex, ?_⟩
        simp only [L2.start, List.map_cons, List.map_nil, List.length_cons, List.length_nil, List.replicate_succ, List.replicate_zero, List.cons_append, List.nil_append, Nat.reduceAdd, Nat.reduceSub, Int.reduceLT, Int.reduceLE, true_and, and_true, decide_eq_true_eq, if_true, if_false, String.reduceEq, Bool.not_true, Bool.not_false, Bool.false_eq_true, decide_true, decide_false, List.set_cons_zero, List.set_cons_succ, gS, rVar, tC, tSeq, tNext, tAsg, gName, tRet, tRetN, tDrop, tIfS, tOp, tUn, tCB, tCons, tNil, tTup, tLst, tFn, tB2, tAnd, tOr, tNot, trV, tSl, tNoPart, pT, vAnd, vOr, vNot, addV, mulV, int2, int2', ltV, eqR, neR, sc, isV, isntV, negV, ixV, slV, lenV, isiV, isS, minV, maxV, joinV, tBM, tBM0, tyV, tFE, L_T, tRaise, tJoin, tJPart, tFmt, tTry, tH1, unb, tFnX, gSub, setV, isxV, rCat, rRep, rAppend, tCL, oneC, capS, gTup, gCons, gNil, tStrF, List.set_nil, sumV, tCP, tB, inT, eqN, strV, intW, fndV, prtV, stpV, List.append_nil]
        refine ⟨_, _, .inr (SqT.of e1), rfl, ?_⟩
        simp only [L2.start, List.map_cons, List.map_nil, List.length_cons, List.length_nil, List.replicate_succ, List.replicate_zero, List.cons_append, List.nil_append, Nat.reduceAdd, Nat.reduceSub, Int.reduceLT, Int.reduceLE, true_and, and_true, decide_eq_true_eq, if_true, if_false, String.reduceEq, Bool.not_true, Bool.not_false, Bool.false_eq_true, decide_true, decide_false, List.set_cons_zero, List.set_cons_succ, gS, rVar, tC, tSeq, tNext, tAsg, gName, tRet, tRetN, tDrop, tIfS, tOp, tUn, tCB, tCons, tNil, tTup, tLst, tFn, tB2, tAnd, tOr, tNot, trV, tSl, tNoPart, pT, vAnd, vOr, vNot, addV, mulV, int2, int2', ltV, eqR, neR, sc, isV, isntV, negV, ixV, slV, lenV, isiV, isS, minV, maxV, joinV, tBM, tBM0, tyV, tFE, L_T, tRaise, tJoin, tJPart, tFmt, tTry, tH1, unb, tFnX, gSub, setV, isxV, rCat, rRep, rAppend, tCL, oneC, capS, gTup, gCons, gNil, tStrF, List.set_nil, sumV, tCP, tB, inT, eqN, strV, intW, fndV, prtV, stpV, List.append_nil]
        refine ite2 (fun _ => ⟨.inl ⟨_, SqL.of j3⟩, by omega, fun tt htt => ?_⟩) fun _ => ⟨sm', j1, j2, ⟨us, j3, by omega, j5⟩, _, _, _, rfl⟩
        exact ⟨pr, _, _, rfl, rfl, (upd_ne (ne_of_none j3 htt)).trans j3, by rw [List.length_map]; omega, same_put (Same.upd sm' htt) hr0, lst_keep j1 nps htt, lst_keep j2 npn htt, ⟨us ++ [tt], by rw [upd_same, List.map_append]; rfl, by rw [List.length_append, List.length_singleton]; omega, ru_snoc j5 j3 htt n1 n2⟩, _, _, _, rfl⟩
    · rintro σ H' ⟨sm, i1, i2, ⟨us, i3, i4, i5⟩, v6, v7, v8, rfl⟩
      simp only [L2.start, List.map_cons, List.map_nil, List.length_cons, List.length_nil, List.replicate_succ, List.replicate_zero, List.cons_append, List.nil_append, Nat.reduceAdd, Nat.reduceSub, Int.reduceLT, Int.reduceLE, true_and, and_true, decide_eq_true_eq, if_true, if_false, String.reduceEq, Bool.not_true, Bool.not_false, Bool.false_eq_true, decide_true, decide_false, List.set_cons_zero, List.set_cons_succ, gS, rVar, tC, tSeq, tNext, tAsg, gName, tRet, tRetN, tDrop, tIfS, tOp, tUn, tCB, tCons, tNil, tTup, tLst, tFn, tB2, tAnd, tOr, tNot, trV, tSl, tNoPart, pT, vAnd, vOr, vNot, addV, mulV, int2, int2', ltV, eqR, neR, sc, isV, isntV, negV, ixV, slV, lenV, isiV, isS, minV, maxV, joinV, tBM, tBM0, tyV, tFE, L_T, tRaise, tJoin, tJPart, tFmt, tTry, tH1, unb, tFnX, gSub, setV, isxV, rCat, rRep, rAppend, tCL, oneC, capS, gTup, gCons, gNil, tStrF, List.set_nil, sumV, tCP, tB, inT, eqN, strV, intW, fndV, prtV, stpV, List.append_nil]
      exact q pr H' sm ⟨us, i3, by omega, i5⟩
def sp_w_fitted (K : PySem.W.Frag) : Sp := fun vs H Q _ => match vs with
  | [.ref b, .int m] => RAt H b ∧ ∀ p H', Same H H' → RAt H' p → Q (.ref p) H'
  | _ => False
theorem ok_w_fitted {f : Addr} {fd : FuncData} (F : Fun K "_law_fitted" "_law_fitted" s_w_fitted f fd) (B : Bn mg) {c : Cs} (ER : Er K mg c) (GC : Gc mg)  : FnOk P w K mg base CX0 1 f fd P_w_fitted (sp_w_fitted K) := by
  refine F.ok sc_w_fitted (fun vs H Q E h => ?_) (fun cdv A outer s H vs Q E hr h => ?_) <;> unfold sp_w_fitted at h <;> split at h <;> first | exact h.elim | skip
  · rfl
  · rename_i b m
    obtain ⟨⟨ts, hb, tl, ht⟩, q⟩ := h
    refine ⟨_, (pss_cons (ps_set (i := 2) sc_w_fitted.nd rfl (by first | exact Or.inl rfl | exact Or.inr rfl) (qv 1))
        (pss_cons (ps_set (i := 3) sc_w_fitted.nd rfl (by first | exact Or.inl rfl | exact Or.inr rfl) (pe_lst pa_nil))
        (pss_cons (ps_lstK (K := K) rfl PassesOwn.never rfl (qv 0) (pg_tupK (K := K) (n := 2) rfl rfl (pgs_cons (pg_name (i := 4) sc_w_fitted.nd rfl (by first | exact Or.inl rfl | exact Or.inr rfl)) (pgs_cons (pg_name (i := 5) sc_w_fitted.nd rfl (by first | exact Or.inl rfl | exact Or.inr rfl)) pgs_nil))) (pss_cons (ps_if (pt_c2 o_gt (qv 2) pe_int) (pss_one (ps_expr (pe_bmK (K := K) rfl PySem.F.plainAttrs_list PySem.F.slot_list_append PySem.F.type_list_append mt_append (qv 3) (pa_cons (pe_tup (pa_cons (qv 4) (pa_cons (pe_callB (c_min rfl) (by rfl) B.min bt_min (pa_cons (qv 5) (pa_cons (qv 2) pa_nil))) pa_nil))) pa_nil)))) pss_nil)
        (pss_one (ps_set (i := 2) sc_w_fitted.nd rfl (by first | exact Or.inl rfl | exact Or.inr rfl) (pe_op o_sub (qv 2) (qv 5))))))
        (pss_one (ps_ret (qv 3)))))), ?_⟩
    have hsz : sizeLine = 16777216 := sizeLine_eq
    simp only [L2.start, List.map_cons, List.map_nil, List.length_cons, List.length_nil, List.replicate_succ, List.replicate_zero, List.cons_append, List.nil_append, Nat.reduceAdd, Nat.reduceSub, Int.reduceLT, Int.reduceLE, true_and, and_true, decide_eq_true_eq, if_true, if_false, String.reduceEq, Bool.not_true, Bool.not_false, Bool.false_eq_true, decide_true, decide_false, List.set_cons_zero, List.set_cons_succ, gS, rVar, tC, tSeq, tNext, tAsg, gName, tRet, tRetN, tDrop, tIfS, tOp, tUn, tCB, tCons, tNil, tTup, tLst, tFn, tB2, tAnd, tOr, tNot, trV, tSl, tNoPart, pT, vAnd, vOr, vNot, addV, mulV, int2, int2', ltV, eqR, neR, sc, isV, isntV, negV, ixV, slV, lenV, isiV, isS, minV, maxV, joinV, tBM, tBM0, tyV, tFE, L_T, tRaise, tJoin, tJPart, tFmt, tTry, tH1, unb, tFnX, gSub, setV, isxV, rCat, rRep, rAppend, tCL, oneC, capS, gTup, gCons, gNil, tStrF, List.set_nil, sumV, tCP, tB, inT, eqN, strV, intW, fndV, prtV, stpV, List.append_nil, tLst1, forL]
    refine ⟨by omega, fun p hp => ?_⟩
    have sm0 : ∀ xs, Same H (upd H p (HO.lst xs)) := fun xs => Same.updN hp
    refine ⟨_, SqL.of ((upd_ne (ne_of_none hb hp)).trans hb), fun i σ H' => Same H H' ∧ (∃ us : List Addr, H' p = some (.lst (us.map V.ref)) ∧ us.length ≤ i ∧ Ru H' us) ∧ ∃ (l : Int) (v w : Option V), σ = [some (V.ref b), some (V.int m), some (V.int l), some (V.ref p), v, w], ⟨Same.updN hp, ⟨[], upd_same, Nat.le_refl _, ru_nil _⟩, _, _, _, rfl⟩, ?_, ?_, ?_⟩
    · rintro i σ H' _ ⟨sm, _⟩
      exact SqL.of (sm _ _ hb)
    · rintro i x σ H' hx ⟨sm, ⟨us, h1, ul, hu⟩, l, v, w, rfl⟩
      rw [List.getElem?_map] at hx
      obtain ⟨t, et, rfl⟩ := Option.map_eq_some_iff.mp hx
      have il := (List.getElem?_eq_some_iff.mp et).1
      obtain ⟨d, n, e, n1, n2⟩ := ht t (List.mem_of_getElem? et)
      have e' := sm _ _ e
      simp only [L2.start, List.map_cons, List.map_nil, List.length_cons, List.length_nil, List.replicate_succ, List.replicate_zero, List.cons_append, List.nil_append, Nat.reduceAdd, Nat.reduceSub, Int.reduceLT, Int.reduceLE, true_and, and_true, decide_eq_true_eq, if_true, if_false, String.reduceEq, Bool.not_true, Bool.not_false, Bool.false_eq_true, decide_true, decide_false, List.set_cons_zero, List.set_cons_succ, gS, rVar, tC, tSeq, tNext, tAsg, gName, tRet, tRetN, tDrop, tIfS, tOp, tUn, tCB, tCons, tNil, tTup, tLst, tFn, tB2, tAnd, tOr, tNot, trV, tSl, tNoPart, pT, vAnd, vOr, vNot, addV, mulV, int2, int2', ltV, eqR, neR, sc, isV, isntV, negV, ixV, slV, lenV, isiV, isS, minV, maxV, joinV, tBM, tBM0, tyV, tFE, L_T, tRaise, tJoin, tJPart, tFmt, tTry, tH1, unb, tFnX, gSub, setV, isxV, rCat, rRep, rAppend, tCL, oneC, capS, gTup, gCons, gNil, tStrF, List.set_nil, sumV, tCP, tB, inT, eqN, strV, intW, fndV, prtV, stpV, List.append_nil, gtV, subV]
      refine ⟨t, _, rfl, SqT.of e', rfl, _, _, rfl, _, _, rfl, rfl, ?_⟩
      simp only [L2.start, List.map_cons, List.map_nil, List.length_cons, List.length_nil, List.replicate_succ, List.replicate_zero, List.cons_append, List.nil_append, Nat.reduceAdd, Nat.reduceSub, Int.reduceLT, Int.reduceLE, true_and, and_true, decide_eq_true_eq, if_true, if_false, String.reduceEq, Bool.not_true, Bool.not_false, Bool.false_eq_true, decide_true, decide_false, List.set_cons_zero, List.set_cons_succ, gS, rVar, tC, tSeq, tNext, tAsg, gName, tRet, tRetN, tDrop, tIfS, tOp, tUn, tCB, tCons, tNil, tTup, tLst, tFn, tB2, tAnd, tOr, tNot, trV, tSl, tNoPart, pT, vAnd, vOr, vNot, addV, mulV, int2, int2', ltV, eqR, neR, sc, isV, isntV, negV, ixV, slV, lenV, isiV, isS, minV, maxV, joinV, tBM, tBM0, tyV, tFE, L_T, tRaise, tJoin, tJPart, tFmt, tTry, tH1, unb, tFnX, gSub, setV, isxV, rCat, rRep, rAppend, tCL, oneC, capS, gTup, gCons, gNil, tStrF, List.set_nil, sumV, tCP, tB, inT, eqN, strV, intW, fndV, prtV, stpV, List.append_nil, gtV, subV]
      refine ite2 (fun hl => ⟨.inl ⟨_, SqL.of h1⟩, by omega, fun tt htt => ?_⟩) fun _ => ⟨sm, ⟨us, h1, by omega, hu⟩, _, _, _, rfl⟩
      obtain ⟨k, ek, k1, k2⟩ : ∃ k : Nat, min (n : Int) l = (k : Int) ∧ 1 ≤ k ∧ k ≤ 300 := ⟨(min (n : Int) l).toNat, by omega, by omega, by omega⟩
      rw [ek]
      have hp2 : upd H' tt (HO.tup [V.str (T [d]), V.int (k : Int)]) p = some (HO.lst (us.map V.ref)) := (upd_ne (ne_of_none h1 htt)).trans h1
      refine ⟨p, _, _, rfl, rfl, hp2, by rw [List.length_map]; omega, same_put (Same.upd sm htt) hp, ⟨us ++ [tt], by rw [upd_same, List.map_append]; rfl, by rw [List.length_append, List.length_singleton]; omega, ru_snoc hu h1 htt k1 k2⟩, _, _, _, rfl⟩
    · rintro σ H' ⟨sm, ⟨us, h1, ul, hu⟩, l, v, w, rfl⟩
      rw [List.length_map] at ul
      simp only [L2.start, List.map_cons, List.map_nil, List.length_cons, List.length_nil, List.replicate_succ, List.replicate_zero, List.cons_append, List.nil_append, Nat.reduceAdd, Nat.reduceSub, Int.reduceLT, Int.reduceLE, true_and, and_true, decide_eq_true_eq, if_true, if_false, String.reduceEq, Bool.not_true, Bool.not_false, Bool.false_eq_true, decide_true, decide_false, List.set_cons_zero, List.set_cons_succ, gS, rVar, tC, tSeq, tNext, tAsg, gName, tRet, tRetN, tDrop, tIfS, tOp, tUn, tCB, tCons, tNil, tTup, tLst, tFn, tB2, tAnd, tOr, tNot, trV, tSl, tNoPart, pT, vAnd, vOr, vNot, addV, mulV, int2, int2', ltV, eqR, neR, sc, isV, isntV, negV, ixV, slV, lenV, isiV, isS, minV, maxV, joinV, tBM, tBM0, tyV, tFE, L_T, tRaise, tJoin, tJPart, tFmt, tTry, tH1, unb, tFnX, gSub, setV, isxV, rCat, rRep, rAppend, tCL, oneC, capS, gTup, gCons, gNil, tStrF, List.set_nil, sumV, tCP, tB, inT, eqN, strV, intW, fndV, prtV, stpV, List.append_nil]
      exact q p H' sm ⟨us, h1, by omega, hu⟩
def sp_w_written (K : PySem.W.Frag) : Sp := fun vs H Q _ => match vs with
  | [.str z, .ref b] => (L z).length ≤ 5000 ∧ TAt 100 H b ∧ ∀ l : List Nat, l.length ≤ 300000 → Q (.str (T l)) H
  | _ => False
theorem ok_w_written {f : Addr} {fd : FuncData} (F : Fun K "_law_written" "_law_written" s_w_written f fd) (B : Bn mg) {c : Cs} (ER : Er K mg c) (GC : Gc mg)  : FnOk P w K mg base CX0 1 f fd P_w_written (sp_w_written K) := by
  refine F.pure sc_w_written (fun vs H Q E h => ?_) (fun cdv A outer s H vs Q E hr h => ?_) <;> unfold sp_w_written at h <;> split at h <;> first | exact h.elim | skip
  · rfl
  · rename_i z b
    obtain ⟨hl, ⟨ts, hb, tl, ht⟩, q⟩ := h
    refine ⟨_, (pss_one (ps_ret (pe_op o_add (pe_op o_add (qv 0) pe_str) (pe_bmK (K := K) rfl PySem.F.plainAttrs_str PySem.F.slot_str_join PySem.F.type_str_join (m_joinK (K := K) rfl) pe_str (pa_cons (pe_compP (K := K) rfl (own := ["_law_sign_here", "_law_many"]) (cp := []) rfl rfl rfl (by decide +kernel) (by decide +kernel) trivial (qv 1) (by decide) (fun _ _ _ _ => pg_name (i := 0) (show List.Nodup (["_law_sign_here", "_law_many"] : List Str) by decide +kernel) rfl (Or.inl rfl) (Or.inr rfl)) (fun _ _ _ _ => pg_name (i := 1) (show List.Nodup (["_law_sign_here", "_law_many"] : List Str) by decide +kernel) rfl (Or.inl rfl) (Or.inr rfl)) (fun _ _ _ _ => pf_nil) (fun _ _ _ _ => (pe_op o_add (pe_op o_add (qv 0) (qv 1)) pe_str))) pa_nil))))), ?_⟩
    have hsz : sizeLine = 16777216 := sizeLine_eq
    have e32 : L (Str.ofString " ") = [32] := by decide +kernel
    have e59 : L (Str.ofString ";") = [59] := by decide +kernel
    simp only [L2.start, List.map_cons, List.map_nil, List.length_cons, List.length_nil, List.replicate_succ, List.replicate_zero, List.cons_append, List.nil_append, Nat.reduceAdd, Nat.reduceSub, Int.reduceLT, Int.reduceLE, true_and, and_true, decide_eq_true_eq, if_true, if_false, String.reduceEq, Bool.not_true, Bool.not_false, Bool.false_eq_true, decide_true, decide_false, List.set_cons_zero, List.set_cons_succ, gS, rVar, tC, tSeq, tNext, tAsg, gName, tRet, tRetN, tDrop, tIfS, tOp, tUn, tCB, tCons, tNil, tTup, tLst, tFn, tB2, tAnd, tOr, tNot, trV, tSl, tNoPart, pT, vAnd, vOr, vNot, addV, mulV, int2, int2', ltV, eqR, neR, sc, isV, isntV, negV, ixV, slV, lenV, isiV, isS, minV, maxV, joinV, tBM, tBM0, tyV, tFE, L_T, tRaise, tJoin, tJPart, tFmt, tTry, tH1, unb, tFnX, gSub, setV, isxV, rCat, rRep, rAppend, tCL, oneC, capS, gTup, gCons, gNil, tStrF, List.set_nil, sumV, tCP, tB, inT, eqN, strV, intW, fndV, prtV, stpV, List.append_nil, e32]
    refine ⟨by omega, _, SqL.of hb, by rw [List.length_map]; omega, fun i H2 acc => H2 = H ∧ ∃ zs : List (List Nat), acc = zs.map (fun l => V.str (T l)) ∧ zs.length = i ∧ zs.flatten.length ≤ 2502 * i, ⟨rfl, [], rfl, rfl, Nat.le_refl _⟩, ?_, ?_, ?_⟩
    · rintro i H2 acc _ ⟨rfl, _⟩
      exact SqL.of hb
    · rintro i r H2 acc hr2 ⟨rfl, zs, rfl, z1, z2⟩
      rw [List.getElem?_map] at hr2
      obtain ⟨t, et, rfl⟩ := Option.map_eq_some_iff.mp hr2
      obtain ⟨x, y, e, x1, y1⟩ := ht t (List.mem_of_getElem? et)
      refine ⟨t, _, _, rfl, SqT.of e, ?_⟩
      simp only [L2.start, List.map_cons, List.map_nil, List.length_cons, List.length_nil, List.replicate_succ, List.replicate_zero, List.cons_append, List.nil_append, Nat.reduceAdd, Nat.reduceSub, Int.reduceLT, Int.reduceLE, true_and, and_true, decide_eq_true_eq, if_true, if_false, String.reduceEq, Bool.not_true, Bool.not_false, Bool.false_eq_true, decide_true, decide_false, List.set_cons_zero, List.set_cons_succ, gS, rVar, tC, tSeq, tNext, tAsg, gName, tRet, tRetN, tDrop, tIfS, tOp, tUn, tCB, tCons, tNil, tTup, tLst, tFn, tB2, tAnd, tOr, tNot, trV, tSl, tNoPart, pT, vAnd, vOr, vNot, addV, mulV, int2, int2', ltV, eqR, neR, sc, isV, isntV, negV, ixV, slV, lenV, isiV, isS, minV, maxV, joinV, tBM, tBM0, tyV, tFE, L_T, tRaise, tJoin, tJPart, tFmt, tTry, tH1, unb, tFnX, gSub, setV, isxV, rCat, rRep, rAppend, tCL, oneC, capS, gTup, gCons, gNil, tStrF, List.set_nil, sumV, tCP, tB, inT, eqN, strV, intW, fndV, prtV, stpV, List.append_nil, e59]
      refine ⟨by omega, by rw [List.length_append]; omega, zs ++ [x ++ y ++ [59]], by rw [List.map_append]; rfl, by simp [z1], ?_⟩
      rw [List.flatten_append, List.length_append, List.flatten_singleton, List.length_append, List.length_append, List.length_singleton]
      omega
    · rintro H2 acc ⟨rfl, zs, rfl, z1, z2⟩ l hl2
      rw [List.length_map] at z1 z2
      rw [empty_L]
      have z3 : zs.flatten.length ≤ 2502 * 100 := Nat.le_trans z2 (Nat.mul_le_mul_left _ tl)
      refine ⟨zs, SqL.of upd_same, ?_, ?_, Same.updN hl2, ?_⟩
      · rw [List.length_nil, Nat.mul_zero, ← List.length_flatten]
        omega
      · rw [joinL_nil, List.length_append, List.length_singleton]
        omega
      · rw [joinL_nil]
        refine q _ ?_
        rw [List.length_append, List.length_append, List.length_singleton]
        omega
def sp_w_number (K : PySem.W.Frag) : Sp := fun vs H Q _ => match vs with
  | [.str z] => (L z).length ≤ 1000000 ∧ ((GoodN (L z) ∧ (L z).length ≤ 3) → Q (.int (digitsVal (L z) : Nat)) H) ∧ (¬ (GoodN (L z) ∧ (L z).length ≤ 3) → Q (.int (-1)) H)
  | _ => False
theorem ok_w_number {f : Addr} {fd : FuncData} (F : Fun K "_law_number" "_law_number" s_w_number f fd) (B : Bn mg) {c : Cs} (ER : Er K mg c) (GC : Gc mg)  : FnOk P w K mg base CX0 1 f fd P_w_number (sp_w_number K) := by
  refine F.pure sc_w_number (fun vs H Q E h => ?_) (fun cdv A outer s H vs Q E hr h => ?_) <;> unfold sp_w_number at h <;> split at h <;> first | exact h.elim | skip
  · rfl
  · rename_i z
    obtain ⟨hl, q, e⟩ := h
    refine ⟨_, (pss_cons (ps_str PassesOwn.never rfl (qv 0) (pg_name (i := 1) sc_w_number.nd rfl (by first | exact Or.inl rfl | exact Or.inr rfl)) (pss_one (ps_if (pt_c2 o_ninT (qv 1) pe_str) (pss_one (ps_ret (pe_un u_neg pe_int))) pss_nil)))
        (pss_cons (ps_if (PW.pt (pw_or (pt_c2 o_eq (qv 0) pe_str) (pw_or (pt_c2 o_gt (pe_callB (c_lenK (K := K) rfl) (by rfl) B.len bt_len (pa_cons (qv 0) pa_nil)) pe_int) (pw_or1 (PW.pt (pw_and (pt_c2 o_gt (pe_callB (c_lenK (K := K) rfl) (by rfl) B.len bt_len (pa_cons (qv 0) pa_nil)) pe_int) (pw_and1 (pt_c2 o_eq (pe_ix (i_ixK (K := K) rfl) (qv 0) pe_int (fun _ _ => rfl)) pe_str)))))))) (pss_one (ps_ret (pe_un u_neg pe_int))) pss_nil)
        (pss_one (ps_ret (pe_callTy c_intW (by rfl) B.int bt_int (pa_cons (qv 0) pa_nil)))))), ?_⟩
    have hsz : sizeLine = 16777216 := sizeLine_eq
    have e1 : L (Str.ofString "0123456789") = [48, 49, 50, 51, 52, 53, 54, 55, 56, 57] := by decide +kernel
    have e2 : L (Str.ofString "") = [] := by decide +kernel
    have e3 : L (Str.ofString "0") = [48] := by decide +kernel
    have dg : ∀ c : Nat, c ∈ [48, 49, 50, 51, 52, 53, 54, 55, 56, 57] ↔ 48 ≤ c ∧ c ≤ 57 := fun c => by
      simp only [List.mem_cons, List.not_mem_nil, or_false]
      omega
    simp only [L2.start, List.map_cons, List.map_nil, List.length_cons, List.length_nil, List.replicate_succ, List.replicate_zero, List.cons_append, List.nil_append, Nat.reduceAdd, Nat.reduceSub, Int.reduceLT, Int.reduceLE, true_and, and_true, decide_eq_true_eq, if_true, if_false, String.reduceEq, Bool.not_true, Bool.not_false, Bool.false_eq_true, decide_true, decide_false, List.set_cons_zero, List.set_cons_succ, gS, rVar, tC, tSeq, tNext, tAsg, gName, tRet, tRetN, tDrop, tIfS, tOp, tUn, tCB, tCons, tNil, tTup, tLst, tFn, tB2, tAnd, tOr, tNot, trV, tSl, tNoPart, pT, vAnd, vOr, vNot, addV, mulV, int2, int2', ltV, eqR, neR, sc, isV, isntV, negV, ixV, slV, lenV, isiV, isS, minV, maxV, joinV, tBM, tBM0, tyV, tFE, L_T, tRaise, tJoin, tJPart, tFmt, tTry, tH1, unb, tFnX, gSub, setV, isxV, rCat, rRep, rAppend, tCL, oneC, capS, gTup, gCons, gNil, tStrF, List.set_nil, sumV, tCP, tB, inT, eqN, strV, intW, fndV, prtV, stpV, List.append_nil, gtV, forS, e1, e2, e3]
    have d0 : ∀ c ∈ (L z).take 0, 48 ≤ c ∧ c ≤ 57 := fun c hc => by cases hc
    refine ⟨fun i σ H' => H' = H ∧ (∀ c ∈ (L z).take i, 48 ≤ c ∧ c ≤ 57) ∧ ∃ v, σ = [some (V.str z), v], ⟨rfl, d0, _, rfl⟩, ?_, ?_⟩
    · rintro i σ H' hi ⟨rfl, hd, v, rfl⟩
      have ei : (L z)[i]? = some ((L z).getD i 0) := by
        rw [List.getD_eq_getElem?_getD, List.getElem?_eq_getElem hi]
        rfl
      simp only [L2.start, List.map_cons, List.map_nil, List.length_cons, List.length_nil, List.replicate_succ, List.replicate_zero, List.cons_append, List.nil_append, Nat.reduceAdd, Nat.reduceSub, Int.reduceLT, Int.reduceLE, true_and, and_true, decide_eq_true_eq, if_true, if_false, String.reduceEq, Bool.not_true, Bool.not_false, Bool.false_eq_true, decide_true, decide_false, List.set_cons_zero, List.set_cons_succ, gS, rVar, tC, tSeq, tNext, tAsg, gName, tRet, tRetN, tDrop, tIfS, tOp, tUn, tCB, tCons, tNil, tTup, tLst, tFn, tB2, tAnd, tOr, tNot, trV, tSl, tNoPart, pT, vAnd, vOr, vNot, addV, mulV, int2, int2', ltV, eqR, neR, sc, isV, isntV, negV, ixV, slV, lenV, isiV, isS, minV, maxV, joinV, tBM, tBM0, tyV, tFE, L_T, tRaise, tJoin, tJPart, tFmt, tTry, tH1, unb, tFnX, gSub, setV, isxV, rCat, rRep, rAppend, tCL, oneC, capS, gTup, gCons, gNil, tStrF, List.set_nil, sumV, tCP, tB, inT, eqN, strV, intW, fndV, prtV, stpV, List.append_nil, e1]
      refine ⟨_, rfl, ?_⟩
      by_cases hm : (L z).getD i 0 ∈ [48, 49, 50, 51, 52, 53, 54, 55, 56, 57]
      · rw [decide_eq_true hm]
        refine iteF ⟨fun c hc => ?_, _, rfl⟩
        rw [List.take_succ, ei] at hc
        rcases List.mem_append.mp hc with y | y
        · exact hd c y
        · rw [List.mem_singleton.mp y]
          exact (dg _).mp hm
      · rw [decide_eq_false hm]
        refine iteT ⟨Same.refl _, e fun g => hm ((dg _).mpr (g.1.2.2.1 _ (List.mem_of_getElem? ei)))⟩
    · rintro σ H' ⟨rfl, hd, v, rfl⟩
      rw [List.take_length] at hd
      simp only [L2.start, List.map_cons, List.map_nil, List.length_cons, List.length_nil, List.replicate_succ, List.replicate_zero, List.cons_append, List.nil_append, Nat.reduceAdd, Nat.reduceSub, Int.reduceLT, Int.reduceLE, true_and, and_true, decide_eq_true_eq, if_true, if_false, String.reduceEq, Bool.not_true, Bool.not_false, Bool.false_eq_true, decide_true, decide_false, List.set_cons_zero, List.set_cons_succ, gS, rVar, tC, tSeq, tNext, tAsg, gName, tRet, tRetN, tDrop, tIfS, tOp, tUn, tCB, tCons, tNil, tTup, tLst, tFn, tB2, tAnd, tOr, tNot, trV, tSl, tNoPart, pT, vAnd, vOr, vNot, addV, mulV, int2, int2', ltV, eqR, neR, sc, isV, isntV, negV, ixV, slV, lenV, isiV, isS, minV, maxV, joinV, tBM, tBM0, tyV, tFE, L_T, tRaise, tJoin, tJPart, tFmt, tTry, tH1, unb, tFnX, gSub, setV, isxV, rCat, rRep, rAppend, tCL, oneC, capS, gTup, gCons, gNil, tStrF, List.set_nil, sumV, tCP, tB, inT, eqN, strV, intW, fndV, prtV, stpV, List.append_nil, gtV, e2, e3]
      have rf : Same H' H' := Same.refl _
      refine ite2 (fun w => ⟨rf, e fun g => ?_⟩) fun w0 => ?_
      · have := g.1.1
        rw [w] at this
        cases this
      have l1 : 1 ≤ (L z).length := by
        rcases Nat.eq_zero_or_pos (L z).length with y | y
        · exact absurd (List.eq_nil_of_length_eq_zero y) w0
        · exact y
      refine ⟨by omega, ite2 (fun w => ⟨rf, e fun g => by have := g.2; omega⟩) fun w3 => ⟨by omega, ite2 (fun w1 => ⟨by omega, _, atI_getD 0 (by omega) (by omega), ite2 (fun w => ⟨rf, e fun g => ?_⟩) fun w => ⟨by omega, w0, hd, rf, q ⟨⟨l1, by omega, hd, fun v => absurd (by rw [show ((0 : Int)).toNat = 0 from rfl, v]) w⟩, by omega⟩⟩⟩) fun w1 => ⟨by omega, w0, hd, rf, q ⟨⟨l1, by omega, hd, fun v => ?_⟩, by omega⟩⟩⟩⟩
      · have := congrArg List.length (g.1.2.2.2 (List.head_eq_of_cons_eq w))
        rw [List.length_singleton] at this
        omega
      · obtain ⟨x, ex⟩ := List.length_eq_one_iff.mp (show (L z).length = 1 by omega)
        rw [ex] at v ⊢
        exact congrArg (fun y => [y]) v
def sp_w_due (K : PySem.W.Frag) : Sp := fun vs H Q _ => match vs with
  | [.str z] => (L z).length ≤ 1000000 ∧ (∀ h rs, Pk (L z) h rs → ∀ p H', Same H H' → H p = none → H' p = some (.tup [.str (T (flat rs)), .int (h : Int)]) → Q (.ref p) H') ∧ ((∀ h rs, ¬ Pk (L z) h rs) → ∀ H', Same H H' → Q .non H')
  | _ => False
theorem ok_w_due {f : Addr} {fd : FuncData} (F : Fun K "_law_due" "_law_due" s_w_due f fd) (B : Bn mg) {c : Cs} (ER : Er K mg c) (GC : Gc mg) (G_w_number : Fn P w K mg base 1 "_law_number" P_w_number (sp_w_number K)) : FnOk P w K mg base CX0 2 f fd P_w_due (sp_w_due K) := by
  refine F.ok sc_w_due (fun vs H Q E h => ?_) (fun cdv A outer s H vs Q E hr h => ?_) <;> unfold sp_w_due at h <;> split at h <;> first | exact h.elim | skip
  · rfl
  · rename_i z
    obtain ⟨zl, q, e⟩ := h
    refine ⟨_, (pss_cons (ps_cut (ps_asg (pe_bmK (K := K) rfl PySem.F.plainAttrs_str PySem.F.slot_str_partition PySem.F.type_str_partition m_partition (qv 0) (pa_cons pe_str pa_nil)) (pg_tupK (K := K) (n := 3) rfl rfl (pgs_cons (pg_name (i := 1) sc_w_due.nd rfl (by first | exact Or.inl rfl | exact Or.inr rfl)) (pgs_cons (pg_name (i := 2) sc_w_due.nd rfl (by first | exact Or.inl rfl | exact Or.inr rfl)) (pgs_cons (pg_name (i := 3) sc_w_due.nd rfl (by first | exact Or.inl rfl | exact Or.inr rfl)) pgs_nil))))))
        (pss_cons (ps_set (i := 4) sc_w_due.nd rfl (by first | exact Or.inl rfl | exact Or.inr rfl) pe_str)
        (pss_cons (ps_wh PassesOwn.never (pt_c2 o_ne (qv 3) pe_str) (pss_cons (ps_cut (ps_asg (pe_bmK (K := K) rfl PySem.F.plainAttrs_str PySem.F.slot_str_partition PySem.F.type_str_partition m_partition (pe_slice (s_slK (K := K) rfl) (qv 3) (po_t pe_int) po_none) (pa_cons pe_str pa_nil)) (pg_tupK (K := K) (n := 3) rfl rfl (pgs_cons (pg_name (i := 5) sc_w_due.nd rfl (by first | exact Or.inl rfl | exact Or.inr rfl)) (pgs_cons (pg_name (i := 6) sc_w_due.nd rfl (by first | exact Or.inl rfl | exact Or.inr rfl)) (pgs_cons (pg_name (i := 7) sc_w_due.nd rfl (by first | exact Or.inl rfl | exact Or.inr rfl)) pgs_nil))))))
        (pss_cons (ps_cut (ps_set (i := 8) sc_w_due.nd rfl (by first | exact Or.inl rfl | exact Or.inr rfl) (pe_fn G_w_number (hr.mono (by decide)) (pa_cons (qv 5) pa_nil))))
        (pss_cons (ps_cut (ps_if (PW.pt (pw_or (pt_c2 o_eq (qv 6) pe_str) (pw_or (pt_c2 o_lt (qv 8) pe_int) (pw_or (pt_c2 o_eq (pe_ix (i_ixK (K := K) rfl) (qv 3) pe_int (fun _ _ => rfl)) (pe_slice (s_slK (K := K) rfl) (qv 4) (po_t (pe_un u_neg pe_int)) po_none)) (pw_or1 (pt_c2 o_gt (pe_op o_add (pe_callB (c_lenK (K := K) rfl) (by rfl) B.len bt_len (pa_cons (qv 4) pa_nil)) (qv 8)) pe_int)))))) (pss_one (ps_ret pe_non)) pss_nil))
        (pss_cons (ps_set (i := 4) sc_w_due.nd rfl (by first | exact Or.inl rfl | exact Or.inr rfl) (pe_op o_add (qv 4) (pe_op o_mul (pe_ix (i_ixK (K := K) rfl) (qv 3) pe_int (fun _ _ => rfl)) (qv 8))))
        (pss_one (ps_set (i := 3) sc_w_due.nd rfl (by first | exact Or.inl rfl | exact Or.inr rfl) (qv 7))))))))
        (pss_cons (ps_if (PW.pt (pw_or (pt_c2 o_eq (qv 2) pe_str) (pw_or (pt_c2 o_lt (pe_fn G_w_number (hr.mono (by decide)) (pa_cons (qv 1) pa_nil)) pe_int) (pw_or1 (pt_c2 o_gt (pe_fn G_w_number (hr.mono (by decide)) (pa_cons (qv 1) pa_nil)) (pe_callB (c_lenK (K := K) rfl) (by rfl) B.len bt_len (pa_cons (qv 4) pa_nil))))))) (pss_one (ps_ret pe_non)) pss_nil)
        (pss_one (ps_ret (pe_tup (pa_cons (qv 4) (pa_cons (pe_fn G_w_number (hr.mono (by decide)) (pa_cons (qv 1) pa_nil)) pa_nil))))))))), ?_⟩
    have hsz : sizeLine = 16777216 := sizeLine_eq
    have e32 : L (Str.ofString " ") = [32] := by decide +kernel
    have e59 : L (Str.ofString ";") = [59] := by decide +kernel
    simp only [L2.start, List.length_cons, List.length_nil, List.replicate_succ, List.replicate_zero, List.map_cons, List.map_nil, List.cons_append, List.nil_append, Nat.reduceAdd, Nat.reduceSub, tSeq]
    refine cutS (fun σ' H' => Same H H' ∧ ∃ w0 b w2, Prt 32 (L z) w0 b w2 ∧ σ' = [some (V.str z), some (V.str (T w0)), some (V.str (T b)), some (V.str (T w2)), none, none, none, none, none]) ?_ ?_
    · simp only [L2.start, List.map_cons, List.map_nil, List.length_cons, List.length_nil, List.replicate_succ, List.replicate_zero, List.cons_append, List.nil_append, Nat.reduceAdd, Nat.reduceSub, Int.reduceLT, Int.reduceLE, true_and, and_true, decide_eq_true_eq, if_true, if_false, String.reduceEq, Bool.not_true, Bool.not_false, Bool.false_eq_true, decide_true, decide_false, List.set_cons_zero, List.set_cons_succ, gS, rVar, tC, tSeq, tNext, tAsg, gName, tRet, tRetN, tDrop, tIfS, tOp, tUn, tCB, tCons, tNil, tTup, tLst, tFn, tB2, tAnd, tOr, tNot, trV, tSl, tNoPart, pT, vAnd, vOr, vNot, addV, mulV, int2, int2', ltV, eqR, neR, sc, isV, isntV, negV, ixV, slV, lenV, isiV, isS, minV, maxV, joinV, tBM, tBM0, tyV, tFE, L_T, tRaise, tJoin, tJPart, tFmt, tTry, tH1, unb, tFnX, gSub, setV, isxV, rCat, rRep, rAppend, tCL, oneC, capS, gTup, gCons, gNil, tStrF, List.set_nil, sumV, tCP, tB, inT, eqN, strV, intW, fndV, prtV, stpV, List.append_nil]
      refine ⟨32, e32, by omega, fun k hk hn p hp => ⟨_, _, rfl, SqT.of upd_same, rfl, _, _, rfl, _, _, rfl, _, _, rfl, rfl, Same.updN hp, _, _, _, prt_at hk hn, rfl⟩, fun hn p hp => ⟨_, _, rfl, SqT.of upd_same, rfl, _, _, rfl, _, _, rfl, _, _, rfl, rfl, Same.updN hp, _, _, _, prt_no hn, by rw [T_L]⟩⟩
    rintro _ H1 ⟨sm1, w0, b, w2, pt, rfl⟩
    obtain ⟨pl0, pl2⟩ := prt_len pt
    simp only [tAsg, tC, gName, List.set_cons_zero, List.set_cons_succ, tWh]
    refine ⟨fun k σ H' => Same H H' ∧ ∃ (done : List (Nat × Nat)) (rest : List Nat) (v5 v6 v7 v8 : Option V), k = rest.length ∧ w2 = wr done ++ rest ∧ GoodR done ∧ (flat done).length ≤ 300 ∧ σ = [some (V.str z), some (V.str (T w0)), some (V.str (T b)), some (V.str (T rest)), some (V.str (T (flat done))), v5, v6, v7, v8], ⟨_, sm1, [], w2, none, none, none, none, rfl, rfl, good_nil, Nat.zero_le _, by rw [show T (flat []) = Str.ofString "" from by decide +kernel]; rfl⟩, ?_⟩
    rintro k σ H2 ⟨sm2, done, rest, v5, v6, v7, v8, rfl, hw, gd, fl, rfl⟩
    have rl : rest.length ≤ w2.length := by
      rw [hw, List.length_append]
      omega
    have pk1 : ∀ {h rs}, Pk (L z) h rs → ∃ tail, rs = done ++ tail ∧ rest = wr tail := fun {h rs} k => wr_prefix ((pk_in k pt).2.2.symm.trans hw)
    simp only [L2.start, List.map_cons, List.map_nil, List.length_cons, List.length_nil, List.replicate_succ, List.replicate_zero, List.cons_append, List.nil_append, Nat.reduceAdd, Nat.reduceSub, Int.reduceLT, Int.reduceLE, true_and, and_true, decide_eq_true_eq, if_true, if_false, String.reduceEq, Bool.not_true, Bool.not_false, Bool.false_eq_true, decide_true, decide_false, List.set_cons_zero, List.set_cons_succ, gS, rVar, tC, tSeq, tNext, tAsg, gName, tRet, tRetN, tDrop, tIfS, tOp, tUn, tCB, tCons, tNil, tTup, tLst, tFn, tB2, tAnd, tOr, tNot, trV, tSl, tNoPart, pT, vAnd, vOr, vNot, addV, mulV, int2, int2', ltV, eqR, neR, sc, isV, isntV, negV, ixV, slV, lenV, isiV, isS, minV, maxV, joinV, tBM, tBM0, tyV, tFE, L_T, tRaise, tJoin, tJPart, tFmt, tTry, tH1, unb, tFnX, gSub, setV, isxV, rCat, rRep, rAppend, tCL, oneC, capS, gTup, gCons, gNil, tStrF, List.set_nil, sumV, tCP, tB, inT, eqN, strV, intW, fndV, prtV, stpV, List.append_nil, empty_L]
    cases rest with
    | nil =>
      refine ite2 (fun w => absurd w (by simp)) fun _ => ?_
      rw [List.append_nil] at hw
      have pk2 : ∀ {h rs}, Pk (L z) h rs → rs = done ∧ b = [32] ∧ w0 = numL (h : Int) := fun {h rs} k => by
        obtain ⟨a0, a1, a2⟩ := pk_in k pt
        exact ⟨wr_inj (a2.symm.trans hw), a0, a1⟩
      refine ite2 (fun hb => e (fun h rs k => ?_) _ sm2) fun hb => ?_
      · have := (pk2 k).2.1
        rw [hb] at this
        cases this
      have pt' : L z = w0 ++ 32 :: w2 := by
        rcases pt with ⟨_, y, _⟩ | ⟨y, _⟩
        · exact y
        · exact absurd y hb
      simp only [L2.start, List.map_cons, List.map_nil, List.length_cons, List.length_nil, List.replicate_succ, List.replicate_zero, List.cons_append, List.nil_append, Nat.reduceAdd, Nat.reduceSub, Int.reduceLT, Int.reduceLE, true_and, and_true, decide_eq_true_eq, if_true, if_false, String.reduceEq, Bool.not_true, Bool.not_false, Bool.false_eq_true, decide_true, decide_false, List.set_cons_zero, List.set_cons_succ, gS, rVar, tC, tSeq, tNext, tAsg, gName, tRet, tRetN, tDrop, tIfS, tOp, tUn, tCB, tCons, tNil, tTup, tLst, tFn, tB2, tAnd, tOr, tNot, trV, tSl, tNoPart, pT, vAnd, vOr, vNot, addV, mulV, int2, int2', ltV, eqR, neR, sc, isV, isntV, negV, ixV, slV, lenV, isiV, isS, minV, maxV, joinV, tBM, tBM0, tyV, tFE, L_T, tRaise, tJoin, tJPart, tFmt, tTry, tH1, unb, tFnX, gSub, setV, isxV, rCat, rRep, rAppend, tCL, oneC, capS, gTup, gCons, gNil, tStrF, List.set_nil, sumV, tCP, tB, inT, eqN, strV, intW, fndV, prtV, stpV, List.append_nil, gtV, sp_w_number]
      have ng : ¬ (GoodN w0 ∧ w0.length ≤ 3) → ∀ h rs, ¬ Pk (L z) h rs := fun g h rs k => g (by
        have h3 : h < 301 := by
          have := k.2.1
          have := k.2.2.1
          omega
        rw [(pk2 k).2.2]
        exact ⟨num_good h3, (nums h h3).1⟩)
      refine ⟨by omega, fun g => ite2 (fun w => absurd w (by omega)) fun _ => ⟨by omega, fun _ => ⟨by omega, ite2 (fun w => e (fun h rs k => ?_) _ sm2) fun w => ⟨by omega, fun _ => ⟨by omega, fun p hp => q (digitsVal w0) done ⟨gd, fl, by omega, by rw [pt', hw, good_num g.1]⟩ p _ (sm2.upd hp) (sm2.free hp) upd_same⟩, fun y => absurd g y⟩⟩, fun y => absurd g y⟩, fun g => e (ng g) _ sm2⟩
      obtain ⟨a1, _, a3⟩ := pk2 k
      have := k.2.2.1
      rw [a1] at this
      rw [a3, numL_val] at w
      omega
    | cons d t =>
      rw [List.length_cons] at rl
      have bad : ∀ {h rs}, Pk (L z) h rs → ∃ n rs', t = numL ((n : Nat) : Int) ++ 59 :: wr rs' ∧ rs = done ++ (d, n) :: rs' ∧ 1 ≤ n ∧ n < 301 := fun {h rs} k => by
        obtain ⟨tail, e1, e2⟩ := pk1 k
        obtain ⟨n, rs', e3, e4⟩ := wr_head e2.symm
        have mm : (d, n) ∈ rs := by
          rw [e1, e3]
          simp
        exact ⟨n, rs', e4, by rw [e1, e3], k.1.1 _ mm, flat_mem_le mm k.2.1⟩
      refine ite2 (fun _ => ?_) fun w => absurd (by simp) w
      refine cutS (fun σ' H' => Same H2 H' ∧ ∃ f en bh, Prt 59 t f en bh ∧ σ' = [some (V.str z), some (V.str (T w0)), some (V.str (T b)), some (V.str (T (d :: t))), some (V.str (T (flat done))), some (V.str (T f)), some (V.str (T en)), some (V.str (T bh)), v8]) ?_ ?_
      · simp only [L2.start, List.map_cons, List.map_nil, List.length_cons, List.length_nil, List.replicate_succ, List.replicate_zero, List.cons_append, List.nil_append, Nat.reduceAdd, Nat.reduceSub, Int.reduceLT, Int.reduceLE, true_and, and_true, decide_eq_true_eq, if_true, if_false, String.reduceEq, Bool.not_true, Bool.not_false, Bool.false_eq_true, decide_true, decide_false, List.set_cons_zero, List.set_cons_succ, gS, rVar, tC, tSeq, tNext, tAsg, gName, tRet, tRetN, tDrop, tIfS, tOp, tUn, tCB, tCons, tNil, tTup, tLst, tFn, tB2, tAnd, tOr, tNot, trV, tSl, tNoPart, pT, vAnd, vOr, vNot, addV, mulV, int2, int2', ltV, eqR, neR, sc, isV, isntV, negV, ixV, slV, lenV, isiV, isS, minV, maxV, joinV, tBM, tBM0, tyV, tFE, L_T, tRaise, tJoin, tJPart, tFmt, tTry, tH1, unb, tFnX, gSub, setV, isxV, rCat, rRep, rAppend, tCL, oneC, capS, gTup, gCons, gNil, tStrF, List.set_nil, sumV, tCP, tB, inT, eqN, strV, intW, fndV, prtV, stpV, List.append_nil]
        have ct : cut (d :: t) (some 1) none = t := cut_from (d :: t) 1
        rw [ct]
        exact ⟨by omega, 59, e59, by omega, fun k hk hn p hp => ⟨_, _, rfl, SqT.of upd_same, rfl, _, _, rfl, _, _, rfl, _, _, rfl, rfl, Same.updN hp, _, _, _, prt_at hk hn, rfl⟩, fun hn p hp => ⟨_, _, rfl, SqT.of upd_same, rfl, _, _, rfl, _, _, rfl, _, _, rfl, rfl, Same.updN hp, _, _, _, prt_no hn, rfl⟩⟩
      rintro _ H3 ⟨sm3, f, en, bh, pf, rfl⟩
      have a0 : atI (d :: t) 0 = some d := by
        unfold atI ixN
        rw [if_pos (by decide), if_pos (by rw [List.length_cons]; omega)]
        rfl
      obtain ⟨fl0, fl2⟩ := prt_len pf
      refine cutS (fun σ' H' => H' = H3 ∧ ∃ m : Int, ((GoodN f ∧ f.length ≤ 3 ∧ m = (digitsVal f : Nat)) ∨ (¬ (GoodN f ∧ f.length ≤ 3) ∧ m = -1)) ∧ σ' = [some (V.str z), some (V.str (T w0)), some (V.str (T b)), some (V.str (T (d :: t))), some (V.str (T (flat done))), some (V.str (T f)), some (V.str (T en)), some (V.str (T bh)), some (V.int m)]) ?_ ?_
      · simp only [L2.start, List.map_cons, List.map_nil, List.length_cons, List.length_nil, List.replicate_succ, List.replicate_zero, List.cons_append, List.nil_append, Nat.reduceAdd, Nat.reduceSub, Int.reduceLT, Int.reduceLE, true_and, and_true, decide_eq_true_eq, if_true, if_false, String.reduceEq, Bool.not_true, Bool.not_false, Bool.false_eq_true, decide_true, decide_false, List.set_cons_zero, List.set_cons_succ, gS, rVar, tC, tSeq, tNext, tAsg, gName, tRet, tRetN, tDrop, tIfS, tOp, tUn, tCB, tCons, tNil, tTup, tLst, tFn, tB2, tAnd, tOr, tNot, trV, tSl, tNoPart, pT, vAnd, vOr, vNot, addV, mulV, int2, int2', ltV, eqR, neR, sc, isV, isntV, negV, ixV, slV, lenV, isiV, isS, minV, maxV, joinV, tBM, tBM0, tyV, tFE, L_T, tRaise, tJoin, tJPart, tFmt, tTry, tH1, unb, tFnX, gSub, setV, isxV, rCat, rRep, rAppend, tCL, oneC, capS, gTup, gCons, gNil, tStrF, List.set_nil, sumV, tCP, tB, inT, eqN, strV, intW, fndV, prtV, stpV, List.append_nil, sp_w_number]
        refine ⟨by omega, fun g => ⟨_, .inl ⟨g.1, g.2, rfl⟩, rfl⟩, fun g => ⟨_, .inr ⟨g, rfl⟩, rfl⟩⟩
      rintro _ H3 ⟨rfl, m, hm, rfl⟩
      refine cutS (fun σ' H' => H' = H3 ∧ (∃ n : Nat, m = (n : Int) ∧ 1 ≤ n ∧ (flat done).length + n ≤ 300 ∧ f = numL (n : Int) ∧ t = f ++ 59 :: bh ∧ (flat done).getLast? ≠ some d) ∧ σ' = [some (V.str z), some (V.str (T w0)), some (V.str (T b)), some (V.str (T (d :: t))), some (V.str (T (flat done))), some (V.str (T f)), some (V.str (T en)), some (V.str (T bh)), some (V.int m)]) ?_ ?_
      · simp only [L2.start, List.map_cons, List.map_nil, List.length_cons, List.length_nil, List.replicate_succ, List.replicate_zero, List.cons_append, List.nil_append, Nat.reduceAdd, Nat.reduceSub, Int.reduceLT, Int.reduceLE, true_and, and_true, decide_eq_true_eq, if_true, if_false, String.reduceEq, Bool.not_true, Bool.not_false, Bool.false_eq_true, decide_true, decide_false, List.set_cons_zero, List.set_cons_succ, gS, rVar, tC, tSeq, tNext, tAsg, gName, tRet, tRetN, tDrop, tIfS, tOp, tUn, tCB, tCons, tNil, tTup, tLst, tFn, tB2, tAnd, tOr, tNot, trV, tSl, tNoPart, pT, vAnd, vOr, vNot, addV, mulV, int2, int2', ltV, eqR, neR, sc, isV, isntV, negV, ixV, slV, lenV, isiV, isS, minV, maxV, joinV, tBM, tBM0, tyV, tFE, L_T, tRaise, tJoin, tJPart, tFmt, tTry, tH1, unb, tFnX, gSub, setV, isxV, rCat, rRep, rAppend, tCL, oneC, capS, gTup, gCons, gNil, tStrF, List.set_nil, sumV, tCP, tB, inT, eqN, strV, intW, fndV, prtV, stpV, List.append_nil, gtV, empty_L, negV]
        have no : (∀ h rs, ¬ Pk (L z) h rs) → Q V.non H3 := fun y => e y _ (sm2.trans sm3)
        have fin : ∀ {h rs}, Pk (L z) h rs → en = [59] ∧ ∃ n : Nat, m = (n : Int) ∧ 1 ≤ n ∧ (flat done).length + n ≤ 300 ∧ (flat done).getLast? ≠ some d := fun {h rs} k => by
          obtain ⟨n, rs', e1, e2, n1, n2⟩ := bad k
          obtain ⟨a1, a2, a3⟩ := prt_in pf (no59 n) e1
          refine ⟨a1, n, ?_, n1, ?_, fun w => ?_⟩
          · rcases hm with ⟨_, _, hm⟩ | ⟨g, _⟩
            · rw [hm, a2, numL_val]
            · exact absurd (by rw [a2]; exact ⟨num_good n2, (nums n n2).1⟩) g
          · have := k.2.1
            rw [e2, flat_app, flat_cons, List.length_append, List.length_append, List.length_replicate] at this
            omega
          · rcases List.eq_nil_or_concat done with y | ⟨q0, a, y⟩
            · rw [y] at w
              cases w
            · rw [List.concat_eq_append] at y
              rw [flat_last gd (a := a) (by rw [y, List.getLast?_concat])] at w
              refine k.1.2 q0.length a (d, n) ?_ ?_ (Option.some.inj w)
              · rw [e2, y, List.append_assoc, List.getElem?_append_right (Nat.le_refl _), Nat.sub_self]
                rfl
              · rw [e2, y, List.append_assoc, List.getElem?_append_right (by omega), show q0.length + 1 - q0.length = 1 by omega]
                rfl
        refine ite2 (fun w => no fun h rs k => ?_) fun hen => ite2 (fun w => no fun h rs k => ?_) fun hm1 => ⟨by omega, d, a0, by omega, ite2 (fun w => no fun h rs k => ?_) fun hne => ⟨by omega, ite2 (fun w => no fun h rs k => ?_) fun h300 => ?_⟩⟩
        · have := (fin k).1
          rw [w] at this
          cases this
        · obtain ⟨_, n, e1, n1, _, _⟩ := fin k
          omega
        · obtain ⟨_, n, _, _, _, nl⟩ := fin k
          rw [cut_last] at w
          cases hx : (flat done).getLast? with
          | none =>
            rw [hx] at w
            cases w
          | some x =>
            rw [hx] at w nl
            exact nl (by rw [List.head_eq_of_cons_eq w])
        · obtain ⟨_, n, e1, n1, n2, _⟩ := fin k
          omega
        · rcases hm with ⟨g1, g2, hm⟩ | ⟨_, hm⟩
          · refine ⟨digitsVal f, hm, by omega, by omega, (good_num g1).symm, ?_, fun w => hne (by rw [cut_last, w]; rfl)⟩
            rcases pf with ⟨_, y, _⟩ | ⟨y, _⟩
            · exact y
            · exact absurd y hen
          · omega
      rintro _ H3 ⟨rfl, ⟨n, rfl, n1, n2, ef, et, lst⟩, rfl⟩
      simp only [L2.start, List.map_cons, List.map_nil, List.length_cons, List.length_nil, List.replicate_succ, List.replicate_zero, List.cons_append, List.nil_append, Nat.reduceAdd, Nat.reduceSub, Int.reduceLT, Int.reduceLE, true_and, and_true, decide_eq_true_eq, if_true, if_false, String.reduceEq, Bool.not_true, Bool.not_false, Bool.false_eq_true, decide_true, decide_false, List.set_cons_zero, List.set_cons_succ, gS, rVar, tC, tSeq, tNext, tAsg, gName, tRet, tRetN, tDrop, tIfS, tOp, tUn, tCB, tCons, tNil, tTup, tLst, tFn, tB2, tAnd, tOr, tNot, trV, tSl, tNoPart, pT, vAnd, vOr, vNot, addV, mulV, int2, int2', ltV, eqR, neR, sc, isV, isntV, negV, ixV, slV, lenV, isiV, isS, minV, maxV, joinV, tBM, tBM0, tyV, tFE, L_T, tRaise, tJoin, tJPart, tFmt, tTry, tH1, unb, tFnX, gSub, setV, isxV, rCat, rRep, rAppend, tCL, oneC, capS, gTup, gCons, gNil, tStrF, List.set_nil, sumV, tCP, tB, inT, eqN, strV, intW, fndV, prtV, stpV, List.append_nil]
      have tl : bh.length < t.length := by
        rw [et, List.length_append, List.length_cons]
        omega
      refine ⟨by omega, d, a0, ⟨by omega, by omega, by rw [Int.toNat_natCast]; omega⟩, by rw [rep_len, List.length_singleton, Int.toNat_natCast]; omega, bh.length, by omega, sm2.trans sm3, done ++ [(d, n)], bh, some (V.str (T f)), some (V.str (T en)), some (V.str (T bh)), some (V.int (n : Int)), rfl, ?_, good_snoc gd n1 fun a ha w => lst (by rw [flat_last gd ha, w]), ?_, ?_⟩
      · rw [hw, wr_snoc, et, ef]
        simp
      · rw [flat_append, List.length_append, List.length_replicate]
        exact n2
      · rw [flat_append, Int.toNat_natCast, rep_one]
def sp_w_spoilt (K : PySem.W.Frag) : Sp := fun vs H Q _ => match vs with
  | [.str z, .ref b, .int _, .ref s, .int _] => ∃ ns : List Int, (L z).length ≤ 2000 ∧ RAt H b ∧ H s = some (.lst (ns.map V.int)) ∧ ns.length = 6 ∧ ∀ l : List Nat, l.length ≤ 1000000 → ∀ H', Same H H' → Q (.str (T l)) H'
  | _ => False
theorem ok_w_spoilt {f : Addr} {fd : FuncData} (F : Fun K "_law_spoilt" "_law_spoilt" s_w_spoilt f fd) (B : Bn mg) {c : Cs} (ER : Er K mg c) (GC : Gc mg) (G_w_sign : Fn P w K mg base 1 "_law_sign" P_w_sign (sp_w_sign K)) (G_w_written : Fn P w K mg base 1 "_law_written" P_w_written (sp_w_written K)) : FnOk P w K mg base CX0 2 f fd P_w_spoilt (sp_w_spoilt K) := by
  refine F.ok sc_w_spoilt (fun vs H Q E h => ?_) (fun cdv A outer s H vs Q E hr h => ?_) <;> unfold sp_w_spoilt at h <;> split at h <;> first | exact h.elim | skip
  · rfl
  · rename_i z b kd s cell
    obtain ⟨ns, hl, ⟨ts, hb, tl, ht⟩, hs, nl, q⟩ := h
    refine ⟨_, (pss_cons (ps_cut (ps_set (i := 5) sc_w_spoilt.nd rfl (by first | exact Or.inl rfl | exact Or.inr rfl) (pe_callB (c_sum (K := K) rfl rfl) (by rfl) B.sum bt_sum (pa_cons (pe_compL (K := K) rfl (own := ["_law_run"]) (cp := []) rfl rfl rfl (by decide +kernel) (by decide +kernel) trivial (qv 1) (by decide) (fun _ _ _ _ => pg_name (i := 0) (show List.Nodup (["_law_run"] : List Str) by decide +kernel) rfl (Or.inl rfl) (Or.inr rfl)) (fun _ _ _ _ => pf_nil) (fun _ _ _ _ => (pe_ix (i_ixK (K := K) rfl) (qv 0) pe_int (fun _ _ => rfl)))) pa_nil))))
        (pss_cons (ps_cut (ps_compP (i₀ := 6) (K := K) rfl (own := ["_law_sign_here", "_law_number_here"]) (cp := []) rfl rfl rfl (by decide +kernel) (by decide +kernel) trivial (qv 1) (by decide) (fun _ _ _ _ => pg_name (i := 0) (show List.Nodup (["_law_sign_here", "_law_number_here"] : List Str) by decide +kernel) rfl (Or.inl rfl) (Or.inr rfl)) (fun _ _ _ _ => pg_name (i := 1) (show List.Nodup (["_law_sign_here", "_law_number_here"] : List Str) by decide +kernel) rfl (Or.inl rfl) (Or.inr rfl)) (fun _ _ _ _ => pf_nil) (fun _ _ _ _ => (pe_tup (pa_cons (qv 0) (pa_cons (pe_callTy c_str (by rfl) B.str bt_str (pa_cons (qv 1) pa_nil)) pa_nil)))) sc_w_spoilt.nd rfl rfl))
        (pss_cons (ps_cut (ps_set (i := 7) sc_w_spoilt.nd rfl (by first | exact Or.inl rfl | exact Or.inr rfl) (pe_op o_mod (pe_ix (i_ixK (K := K) rfl) (qv 3) pe_int (fun _ _ => rfl)) (pe_callB (c_max rfl) (by rfl) B.max bt_max (pa_cons pe_int (pa_cons (pe_callB (c_lenK (K := K) rfl) (by rfl) B.len bt_len (pa_cons (qv 6) pa_nil)) pa_nil))))))
        (pss_cons (ps_cut (ps_if (pt_c2 o_eq (qv 2) pe_int) (pss_one (ps_ret (pe_fn G_w_written (hr.mono (by decide)) (pa_cons (pe_ix (i_ixK (K := K) rfl) (pe_tup (pa_cons (pe_callTy c_str (by rfl) B.str bt_str (pa_cons (pe_op o_add (qv 5) pe_int) pa_nil)) (pa_cons (pe_callTy c_str (by rfl) B.str bt_str (pa_cons (pe_op o_add (pe_op o_add (qv 5) pe_int) (pe_op o_mod (qv 4) (pe_op o_pow pe_int pe_int))) pa_nil)) (pa_cons pe_str (pa_cons (pe_op o_add pe_str (qv 0)) pa_nil))))) (pe_op o_mod (pe_ix (i_ixK (K := K) rfl) (qv 3) pe_int (fun _ _ => rfl)) pe_int) (fun _ _ => rfl)) (pa_cons (qv 6) pa_nil))))) pss_nil))
        (pss_cons (ps_cut (ps_if (pt_c2 o_eq (qv 2) pe_int) (pss_one (ps_ret (pe_fn G_w_written (hr.mono (by decide)) (pa_cons (pe_op o_add (pe_op o_add pe_str (pe_op o_mul pe_str (pe_op o_add pe_int (pe_op o_mod (pe_ix (i_ixK (K := K) rfl) (qv 3) pe_int (fun _ _ => rfl)) pe_int)))) (pe_callTy c_str (by rfl) B.str bt_str (pa_cons (pe_op o_mod (qv 4) pe_int) pa_nil))) (pa_cons (qv 6) pa_nil))))) pss_nil))
        (pss_cons (ps_cut (ps_if (PW.pt (pw_and (pt_c2 o_eq (qv 2) pe_int) (pw_and1 (pt_c2 (o_neN (K := K) rfl hr) (qv 6) (pe_lst pa_nil))))) (pss_cons (ps_cut (ps_set (i := 8) sc_w_spoilt.nd rfl (by first | exact Or.inl rfl | exact Or.inr rfl) (pe_ix (i_ixK (K := K) rfl) (pe_tup (pa_cons pe_str (pa_cons (pe_op o_add pe_str (pe_ix (i_ixK (K := K) rfl) (pe_ix (i_ixK (K := K) rfl) (qv 6) (qv 7) (fun _ _ => rfl)) pe_int (fun _ _ => rfl))) (pa_cons pe_str (pa_cons (pe_callTy c_str (by rfl) B.str bt_str (pa_cons (pe_op o_add pe_int (pe_op o_mod (qv 4) (pe_op o_pow pe_int pe_int))) pa_nil)) (pa_cons pe_str (pa_cons pe_str (pa_cons pe_str pa_nil)))))))) (pe_op o_mod (pe_ix (i_ixK (K := K) rfl) (qv 3) pe_int (fun _ _ => rfl)) pe_int) (fun _ _ => rfl))))
        (pss_cons (ps_cut (ps_asg (pe_tup (pa_cons (pe_ix (i_ixK (K := K) rfl) (pe_ix (i_ixK (K := K) rfl) (qv 6) (qv 7) (fun _ _ => rfl)) pe_int (fun _ _ => rfl)) (pa_cons (qv 8) pa_nil))) (pg_sub (qv 6) (qv 7) st_set)))
        (pss_one (ps_ret (pe_fn G_w_written (hr.mono (by decide)) (pa_cons (qv 0) (pa_cons (qv 6) pa_nil))))))) pss_nil))
        (pss_cons (ps_cut (ps_if (PW.pt (pw_and (pt_c2 o_eq (qv 2) pe_int) (pw_and1 (pt_c2 (o_neN (K := K) rfl hr) (qv 6) (pe_lst pa_nil))))) (pss_one (ps_ret (pe_fn G_w_written (hr.mono (by decide)) (pa_cons (qv 0) (pa_cons (pe_op o_add (pe_op o_add (pe_slice (s_slK (K := K) rfl) (qv 6) po_none (po_t (pe_op o_add (qv 7) pe_int))) (pe_lst (pa_cons (pe_tup (pa_cons (pe_ix (i_ixK (K := K) rfl) (pe_ix (i_ixK (K := K) rfl) (qv 6) (qv 7) (fun _ _ => rfl)) pe_int (fun _ _ => rfl)) (pa_cons pe_str pa_nil))) pa_nil))) (pe_slice (s_slK (K := K) rfl) (qv 6) (po_t (pe_op o_add (qv 7) pe_int)) po_none)) pa_nil))))) pss_nil))
        (pss_cons (ps_cut (ps_set (i := 9) sc_w_spoilt.nd rfl (by first | exact Or.inl rfl | exact Or.inr rfl) (pe_fn G_w_written (hr.mono (by decide)) (pa_cons (qv 0) (pa_cons (qv 6) pa_nil)))))
        (pss_cons (ps_cut (ps_set (i := 10) sc_w_spoilt.nd rfl (by first | exact Or.inl rfl | exact Or.inr rfl) (pe_op o_mod (pe_ix (i_ixK (K := K) rfl) (qv 3) pe_int (fun _ _ => rfl)) (pe_op o_add (pe_callB (c_lenK (K := K) rfl) (by rfl) B.len bt_len (pa_cons (qv 9) pa_nil)) pe_int))))
        (pss_cons (ps_cut (ps_if (pt_c2 o_eq (qv 2) pe_int) (pss_one (ps_ret (pe_op o_add (pe_slice (s_slK (K := K) rfl) (qv 9) po_none (po_t (qv 10))) (pe_slice (s_slK (K := K) rfl) (qv 9) (po_t (pe_op o_add (qv 10) pe_int)) po_none)))) pss_nil))
        (pss_cons (ps_cut (ps_if (pt_c2 o_eq (qv 2) pe_int) (pss_one (ps_ret (pe_op o_add (pe_op o_add (pe_slice (s_slK (K := K) rfl) (qv 9) po_none (po_t (qv 10))) (pe_fn G_w_sign (hr.mono (by decide)) (pa_cons (qv 4) pa_nil))) (pe_slice (s_slK (K := K) rfl) (qv 9) (po_t (qv 10)) po_none)))) pss_nil))
        (pss_cons (ps_cut (ps_if (pt_c2 o_eq (qv 2) pe_int) (pss_one (ps_ret (pe_op o_add (pe_op o_add (pe_slice (s_slK (K := K) rfl) (qv 9) po_none (po_t (qv 10))) (pe_fn G_w_sign (hr.mono (by decide)) (pa_cons (qv 4) pa_nil))) (pe_slice (s_slK (K := K) rfl) (qv 9) (po_t (pe_op o_add (qv 10) pe_int)) po_none)))) pss_nil))
        (pss_cons (ps_cut (ps_if (pt_c2 o_eq (qv 2) pe_int) (pss_one (ps_ret (pe_ix (i_ixK (K := K) rfl) (pe_tup (pa_cons (pe_slice (s_slK (K := K) rfl) (qv 9) po_none (po_t (pe_un u_neg pe_int))) (pa_cons (pe_op o_add (qv 0) (pe_slice (s_slK (K := K) rfl) (qv 9) (po_t (pe_op o_add (pe_callB (c_lenK (K := K) rfl) (by rfl) B.len bt_len (pa_cons (qv 0) pa_nil)) pe_int)) po_none)) (pa_cons (pe_op o_add (qv 9) pe_str) (pa_cons (pe_op o_add (qv 9) pe_str) (pa_cons pe_str pa_nil)))))) (pe_op o_mod (pe_ix (i_ixK (K := K) rfl) (qv 3) pe_int (fun _ _ => rfl)) pe_int) (fun _ _ => rfl)))) pss_nil))
        (pss_one (ps_ret (qv 9)))))))))))))))), ?_⟩
    have hsz : sizeLine = 16777216 := sizeLine_eq
    have cp : CPow 10 30 := ⟨by decide, by decide, by decide⟩
    have f0 : (0 : Int) < 10 ^ Int.toNat 30 := by decide
    have f1 := Int.emod_nonneg cell (b := 10 ^ Int.toNat 30) (by omega)
    have f2 := Int.emod_lt_of_pos cell f0
    have f3 : (10 : Int) ^ Int.toNat 30 + 10000 < 10 ^ 40 := by decide +kernel
    have aS : ∀ k : Nat, k < 6 → atI (ns.map V.int) (k : Int) = some (V.int (ns.getD k 0)) := fun k hk => by
      have := atI_int (l := ns) (i := (k : Int)) (by omega) (by omega)
      rw [Int.toNat_natCast] at this
      exact this
    simp only [L2.start, List.length_cons, List.length_nil, List.replicate_succ, List.replicate_zero, List.map_cons, List.map_nil, List.cons_append, List.nil_append, Nat.reduceAdd, Nat.reduceSub, tSeq]
    refine cutS (fun σ' H' => Same H H' ∧ ∃ mn : Int, 0 ≤ mn ∧ mn ≤ 7500 ∧ σ' = [some (V.str z), some (V.ref b), some (V.int kd), some (V.ref s), some (V.int cell), some (V.int mn), none, none, none, none, none]) ?_ ?_
    · simp only [L2.start, List.map_cons, List.map_nil, List.length_cons, List.length_nil, List.replicate_succ, List.replicate_zero, List.cons_append, List.nil_append, Nat.reduceAdd, Nat.reduceSub, Int.reduceLT, Int.reduceLE, true_and, and_true, decide_eq_true_eq, if_true, if_false, String.reduceEq, Bool.not_true, Bool.not_false, Bool.false_eq_true, decide_true, decide_false, List.set_cons_zero, List.set_cons_succ, gS, rVar, tC, tSeq, tNext, tAsg, gName, tRet, tRetN, tDrop, tIfS, tOp, tUn, tCB, tCons, tNil, tTup, tLst, tFn, tB2, tAnd, tOr, tNot, trV, tSl, tNoPart, pT, vAnd, vOr, vNot, addV, mulV, int2, int2', ltV, eqR, neR, sc, isV, isntV, negV, ixV, slV, lenV, isiV, isS, minV, maxV, joinV, tBM, tBM0, tyV, tFE, L_T, tRaise, tJoin, tJPart, tFmt, tTry, tH1, unb, tFnX, gSub, setV, isxV, rCat, rRep, rAppend, tCL, oneC, capS, gTup, gCons, gNil, tStrF, List.set_nil, sumV, tCP, tB, inT, eqN, strV, intW, fndV, prtV, stpV, List.append_nil]
      refine ⟨_, SqL.of hb, by rw [List.length_map]; omega, fun i H2 acc => H2 = H ∧ ∃ ms : List Int, acc = ms.map V.int ∧ 0 ≤ ms.sum ∧ ms.sum ≤ 300 * i, ⟨rfl, [], rfl, Int.le_refl _, Int.le_refl _⟩, ?_, ?_, ?_⟩
      · rintro i H2 acc _ ⟨rfl, _⟩
        exact SqL.of hb
      · rintro i y H2 acc hy ⟨rfl, ms, rfl, m0, m1⟩
        rw [List.getElem?_map] at hy
        obtain ⟨t, et, rfl⟩ := Option.map_eq_some_iff.mp hy
        obtain ⟨d, n, e, n1, n2⟩ := ht t (List.mem_of_getElem? et)
        simp only [L2.start, List.map_cons, List.map_nil, List.length_cons, List.length_nil, List.replicate_succ, List.replicate_zero, List.cons_append, List.nil_append, Nat.reduceAdd, Nat.reduceSub, Int.reduceLT, Int.reduceLE, true_and, and_true, decide_eq_true_eq, if_true, if_false, String.reduceEq, Bool.not_true, Bool.not_false, Bool.false_eq_true, decide_true, decide_false, List.set_cons_zero, List.set_cons_succ, gS, rVar, tC, tSeq, tNext, tAsg, gName, tRet, tRetN, tDrop, tIfS, tOp, tUn, tCB, tCons, tNil, tTup, tLst, tFn, tB2, tAnd, tOr, tNot, trV, tSl, tNoPart, pT, vAnd, vOr, vNot, addV, mulV, int2, int2', ltV, eqR, neR, sc, isV, isntV, negV, ixV, slV, lenV, isiV, isS, minV, maxV, joinV, tBM, tBM0, tyV, tFE, L_T, tRaise, tJoin, tJPart, tFmt, tTry, tH1, unb, tFnX, gSub, setV, isxV, rCat, rRep, rAppend, tCL, oneC, capS, gTup, gCons, gNil, tStrF, List.set_nil, sumV, tCP, tB, inT, eqN, strV, intW, fndV, prtV, stpV, List.append_nil]
        refine ⟨_, _, .inr (SqT.of e), rfl, ms ++ [(n : Int)], by rw [List.map_append]; rfl, ?_, ?_⟩
        · rw [List.sum_append, List.sum_singleton]
          omega
        · rw [List.sum_append, List.sum_singleton]
          omega
      · rintro H2 acc ⟨rfl, ms, rfl, m0, m1⟩ l hl2
        rw [List.length_map] at m1
        refine ⟨ms, SqL.of upd_same, Same.updN hl2, _, m0, by omega, rfl⟩
    rintro _ H1 ⟨sm1, mn, m0, m1, rfl⟩
    have hb1 := sm1 _ _ hb
    refine cutS (fun σ' H' => Same H H' ∧ ∃ (p : Addr) (us : List Addr), H p = none ∧ H' p = some (.lst (us.map V.ref)) ∧ us.length ≤ 25 ∧ Tu H' us ∧ σ' = [some (V.str z), some (V.ref b), some (V.int kd), some (V.ref s), some (V.int cell), some (V.int mn), some (V.ref p), none, none, none, none]) ?_ ?_
    · simp only [L2.start, List.map_cons, List.map_nil, List.length_cons, List.length_nil, List.replicate_succ, List.replicate_zero, List.cons_append, List.nil_append, Nat.reduceAdd, Nat.reduceSub, Int.reduceLT, Int.reduceLE, true_and, and_true, decide_eq_true_eq, if_true, if_false, String.reduceEq, Bool.not_true, Bool.not_false, Bool.false_eq_true, decide_true, decide_false, List.set_cons_zero, List.set_cons_succ, gS, rVar, tC, tSeq, tNext, tAsg, gName, tRet, tRetN, tDrop, tIfS, tOp, tUn, tCB, tCons, tNil, tTup, tLst, tFn, tB2, tAnd, tOr, tNot, trV, tSl, tNoPart, pT, vAnd, vOr, vNot, addV, mulV, int2, int2', ltV, eqR, neR, sc, isV, isntV, negV, ixV, slV, lenV, isiV, isS, minV, maxV, joinV, tBM, tBM0, tyV, tFE, L_T, tRaise, tJoin, tJPart, tFmt, tTry, tH1, unb, tFnX, gSub, setV, isxV, rCat, rRep, rAppend, tCL, oneC, capS, gTup, gCons, gNil, tStrF, List.set_nil, sumV, tCP, tB, inT, eqN, strV, intW, fndV, prtV, stpV, List.append_nil]
      refine ⟨_, SqL.of hb1, by rw [List.length_map]; omega, fun i H2 acc => Same H1 H2 ∧ ∃ us : List Addr, acc = us.map V.ref ∧ us.length = i ∧ Tu H2 us, ⟨Same.refl _, [], rfl, rfl, fun t ht => by cases ht⟩, ?_, ?_, ?_⟩
      · rintro i H2 acc _ ⟨sm, _⟩
        exact SqL.of (sm _ _ hb1)
      · rintro i y H2 acc hy ⟨sm, us, rfl, u1, u2⟩
        rw [List.getElem?_map] at hy
        obtain ⟨t, et, rfl⟩ := Option.map_eq_some_iff.mp hy
        obtain ⟨d, n, e, n1, n2⟩ := ht t (List.mem_of_getElem? et)
        refine ⟨t, _, _, rfl, SqT.of (sm _ _ (sm1 _ _ e)), ?_⟩
        simp only [L2.start, List.map_cons, List.map_nil, List.length_cons, List.length_nil, List.replicate_succ, List.replicate_zero, List.cons_append, List.nil_append, Nat.reduceAdd, Nat.reduceSub, Int.reduceLT, Int.reduceLE, true_and, and_true, decide_eq_true_eq, if_true, if_false, String.reduceEq, Bool.not_true, Bool.not_false, Bool.false_eq_true, decide_true, decide_false, List.set_cons_zero, List.set_cons_succ, gS, rVar, tC, tSeq, tNext, tAsg, gName, tRet, tRetN, tDrop, tIfS, tOp, tUn, tCB, tCons, tNil, tTup, tLst, tFn, tB2, tAnd, tOr, tNot, trV, tSl, tNoPart, pT, vAnd, vOr, vNot, addV, mulV, int2, int2', ltV, eqR, neR, sc, isV, isntV, negV, ixV, slV, lenV, isiV, isS, minV, maxV, joinV, tBM, tBM0, tyV, tFE, L_T, tRaise, tJoin, tJPart, tFmt, tTry, tH1, unb, tFnX, gSub, setV, isxV, rCat, rRep, rAppend, tCL, oneC, capS, gTup, gCons, gNil, tStrF, List.set_nil, sumV, tCP, tB, inT, eqN, strV, intW, fndV, prtV, stpV, List.append_nil]
        have lg := nlog n (by omega)
        refine ⟨lg, by omega, fun p hp => ⟨sm.upd hp, us ++ [p], by rw [List.map_append]; rfl, by rw [List.length_append, List.length_singleton, u1], fun t' ht' => ?_⟩⟩
        rcases List.mem_append.mp ht' with y | y
        · obtain ⟨x1, y1, e1, r1⟩ := u2 t' y
          exact ⟨x1, y1, (upd_ne (ne_of_none e1 hp)).trans e1, r1⟩
        · rw [List.mem_singleton.mp y]
          exact ⟨[d], numL (n : Int), upd_same, Nat.le_refl _, Nat.le_trans (numL_len lg) (by decide)⟩
      · rintro H2 acc ⟨sm, us, rfl, u1, u2⟩ l hl2
        rw [List.length_map] at u1
        exact ⟨(sm1.trans sm).upd hl2, l, us, (sm1.trans sm).free hl2, upd_same, by omega, u2.same (Same.updN hl2), rfl⟩
    rintro _ H2 ⟨sm2, p, us, hp0, hp, ul, tu, rfl⟩
    have hs2 := sm2 _ _ hs
    have tat : ∀ {H' : Hp}, Same H2 H' → TAt 100 H' p := fun {H'} sm => (tu.same sm).tat (sm _ _ hp) (by omega)
    refine cutS (fun σ' H' => H' = H2 ∧ ∃ k : Nat, (us.length ≠ 0 → k < us.length) ∧ σ' = [some (V.str z), some (V.ref b), some (V.int kd), some (V.ref s), some (V.int cell), some (V.int mn), some (V.ref p), some (V.int (k : Int)), none, none, none]) ?_ ?_
    · simp only [L2.start, List.map_cons, List.map_nil, List.length_cons, List.length_nil, List.replicate_succ, List.replicate_zero, List.cons_append, List.nil_append, Nat.reduceAdd, Nat.reduceSub, Int.reduceLT, Int.reduceLE, true_and, and_true, decide_eq_true_eq, if_true, if_false, String.reduceEq, Bool.not_true, Bool.not_false, Bool.false_eq_true, decide_true, decide_false, List.set_cons_zero, List.set_cons_succ, gS, rVar, tC, tSeq, tNext, tAsg, gName, tRet, tRetN, tDrop, tIfS, tOp, tUn, tCB, tCons, tNil, tTup, tLst, tFn, tB2, tAnd, tOr, tNot, trV, tSl, tNoPart, pT, vAnd, vOr, vNot, addV, mulV, int2, int2', ltV, eqR, neR, sc, isV, isntV, negV, ixV, slV, lenV, isiV, isS, minV, maxV, joinV, tBM, tBM0, tyV, tFE, L_T, tRaise, tJoin, tJPart, tFmt, tTry, tH1, unb, tFnX, gSub, setV, isxV, rCat, rRep, rAppend, tCL, oneC, capS, gTup, gCons, gNil, tStrF, List.set_nil, sumV, tCP, tB, inT, eqN, strV, intW, fndV, prtV, stpV, List.append_nil, modV]
      refine ⟨_, _, .inl (SqL.of hs2), aS 0 (by decide), _, .inl (SqL.of hp), ?_⟩
      simp only [L2.start, List.map_cons, List.map_nil, List.length_cons, List.length_nil, List.replicate_succ, List.replicate_zero, List.cons_append, List.nil_append, Nat.reduceAdd, Nat.reduceSub, Int.reduceLT, Int.reduceLE, true_and, and_true, decide_eq_true_eq, if_true, if_false, String.reduceEq, Bool.not_true, Bool.not_false, Bool.false_eq_true, decide_true, decide_false, List.set_cons_zero, List.set_cons_succ, gS, rVar, tC, tSeq, tNext, tAsg, gName, tRet, tRetN, tDrop, tIfS, tOp, tUn, tCB, tCons, tNil, tTup, tLst, tFn, tB2, tAnd, tOr, tNot, trV, tSl, tNoPart, pT, vAnd, vOr, vNot, addV, mulV, int2, int2', ltV, eqR, neR, sc, isV, isntV, negV, ixV, slV, lenV, isiV, isS, minV, maxV, joinV, tBM, tBM0, tyV, tFE, L_T, tRaise, tJoin, tJPart, tFmt, tTry, tH1, unb, tFnX, gSub, setV, isxV, rCat, rRep, rAppend, tCL, oneC, capS, gTup, gCons, gNil, tStrF, List.set_nil, sumV, tCP, tB, inT, eqN, strV, intW, fndV, prtV, stpV, List.append_nil, modV]
      rw [List.length_map]
      have y0 := Int.emod_nonneg (ns.getD 0 0) (b := max 1 (us.length : Int)) (by omega)
      have y1 := Int.emod_lt_of_pos (ns.getD 0 0) (b := max 1 (us.length : Int)) (by omega)
      exact ⟨by omega, (ns.getD 0 0 % max 1 (us.length : Int)).toNat, fun _ => by omega, by rw [Int.toNat_of_nonneg y0]⟩
    rintro _ H2 ⟨rfl, k, hk, rfl⟩
    refine cutS (fun σ' H' => H' = H2 ∧ σ' = [some (V.str z), some (V.ref b), some (V.int kd), some (V.ref s), some (V.int cell), some (V.int mn), some (V.ref p), some (V.int (k : Int)), none, none, none]) ?_ ?_
    · simp only [L2.start, List.map_cons, List.map_nil, List.length_cons, List.length_nil, List.replicate_succ, List.replicate_zero, List.cons_append, List.nil_append, Nat.reduceAdd, Nat.reduceSub, Int.reduceLT, Int.reduceLE, true_and, and_true, decide_eq_true_eq, if_true, if_false, String.reduceEq, Bool.not_true, Bool.not_false, Bool.false_eq_true, decide_true, decide_false, List.set_cons_zero, List.set_cons_succ, gS, rVar, tC, tSeq, tNext, tAsg, gName, tRet, tRetN, tDrop, tIfS, tOp, tUn, tCB, tCons, tNil, tTup, tLst, tFn, tB2, tAnd, tOr, tNot, trV, tSl, tNoPart, pT, vAnd, vOr, vNot, addV, mulV, int2, int2', ltV, eqR, neR, sc, isV, isntV, negV, ixV, slV, lenV, isiV, isS, minV, maxV, joinV, tBM, tBM0, tyV, tFE, L_T, tRaise, tJoin, tJPart, tFmt, tTry, tH1, unb, tFnX, gSub, setV, isxV, rCat, rRep, rAppend, tCL, oneC, capS, gTup, gCons, gNil, tStrF, List.set_nil, sumV, tCP, tB, inT, eqN, strV, intW, fndV, prtV, stpV, List.append_nil, modV, sp_w_written]
      refine ite2 (fun _ => ?_) fun _ => trivial
      have l0 : (L (Str.ofString "0")).length = 1 := by decide +kernel
      have g1 : (mn + 1).natAbs.log2 < 1920 := log_lt (by omega) (by omega)
      have g2 : (mn + 1 + cell % 10 ^ Int.toNat 30).natAbs.log2 < 1920 := log_lt (by omega) (by omega)
      refine ⟨g1, cp, f0, g2, by omega, by omega, fun p1 hp1 => ⟨_, _, .inl (SqL.of ((upd_ne (ne_of_none hs2 hp1)).trans hs2)), aS 1 (by decide), ?_⟩⟩
      simp only [L2.start, List.map_cons, List.map_nil, List.length_cons, List.length_nil, List.replicate_succ, List.replicate_zero, List.cons_append, List.nil_append, Nat.reduceAdd, Nat.reduceSub, Int.reduceLT, Int.reduceLE, true_and, and_true, decide_eq_true_eq, if_true, if_false, String.reduceEq, Bool.not_true, Bool.not_false, Bool.false_eq_true, decide_true, decide_false, List.set_cons_zero, List.set_cons_succ, gS, rVar, tC, tSeq, tNext, tAsg, gName, tRet, tRetN, tDrop, tIfS, tOp, tUn, tCB, tCons, tNil, tTup, tLst, tFn, tB2, tAnd, tOr, tNot, trV, tSl, tNoPart, pT, vAnd, vOr, vNot, addV, mulV, int2, int2', ltV, eqR, neR, sc, isV, isntV, negV, ixV, slV, lenV, isiV, isS, minV, maxV, joinV, tBM, tBM0, tyV, tFE, L_T, tRaise, tJoin, tJPart, tFmt, tTry, tH1, unb, tFnX, gSub, setV, isxV, rCat, rRep, rAppend, tCL, oneC, capS, gTup, gCons, gNil, tStrF, List.set_nil, sumV, tCP, tB, inT, eqN, strV, intW, fndV, prtV, stpV, List.append_nil]
      have y0 := Int.emod_nonneg (ns.getD 1 0) (b := 4) (by decide)
      have y1 := Int.emod_lt_of_pos (ns.getD 1 0) (b := 4) (by decide)
      generalize ns.getD 1 0 % 4 = r0 at y0 y1 ⊢
      obtain ⟨w, ew, wl⟩ : ∃ w : Str, atI [V.str (T (numL (mn + 1))), V.str (T (numL (mn + 1 + cell % 10 ^ Int.toNat 30))), V.str (Str.ofString "-1"), V.str (T (L (Str.ofString "0") ++ L z))] r0 = some (.str w) ∧ (L w).length ≤ 5000 := by
        have : r0 = 0 ∨ r0 = 1 ∨ r0 = 2 ∨ r0 = 3 := by omega
        rcases this with rfl | rfl | rfl | rfl
        · exact ⟨_, rfl, by rw [L_T]; exact Nat.le_trans (numL_len g1) (by decide)⟩
        · exact ⟨_, rfl, by rw [L_T]; exact Nat.le_trans (numL_len g2) (by decide)⟩
        · exact ⟨_, rfl, by decide +kernel⟩
        · exact ⟨_, rfl, by rw [L_T, List.length_append]; omega⟩
      refine ⟨_, _, .inr (SqT.of upd_same), ew, ?_⟩
      exact ⟨wl, tat (Same.updN hp1), fun l hl => q l (by omega) _ (sm2.upd hp1)⟩
    rintro _ H2 ⟨rfl, rfl⟩
    refine cutS (fun σ' H' => H' = H2 ∧ σ' = [some (V.str z), some (V.ref b), some (V.int kd), some (V.ref s), some (V.int cell), some (V.int mn), some (V.ref p), some (V.int (k : Int)), none, none, none]) ?_ ?_
    · simp only [L2.start, List.map_cons, List.map_nil, List.length_cons, List.length_nil, List.replicate_succ, List.replicate_zero, List.cons_append, List.nil_append, Nat.reduceAdd, Nat.reduceSub, Int.reduceLT, Int.reduceLE, true_and, and_true, decide_eq_true_eq, if_true, if_false, String.reduceEq, Bool.not_true, Bool.not_false, Bool.false_eq_true, decide_true, decide_false, List.set_cons_zero, List.set_cons_succ, gS, rVar, tC, tSeq, tNext, tAsg, gName, tRet, tRetN, tDrop, tIfS, tOp, tUn, tCB, tCons, tNil, tTup, tLst, tFn, tB2, tAnd, tOr, tNot, trV, tSl, tNoPart, pT, vAnd, vOr, vNot, addV, mulV, int2, int2', ltV, eqR, neR, sc, isV, isntV, negV, ixV, slV, lenV, isiV, isS, minV, maxV, joinV, tBM, tBM0, tyV, tFE, L_T, tRaise, tJoin, tJPart, tFmt, tTry, tH1, unb, tFnX, gSub, setV, isxV, rCat, rRep, rAppend, tCL, oneC, capS, gTup, gCons, gNil, tStrF, List.set_nil, sumV, tCP, tB, inT, eqN, strV, intW, fndV, prtV, stpV, List.append_nil, modV, sp_w_written]
      refine ite2 (fun _ => ?_) fun _ => trivial
      have l0 : (L (Str.ofString "0")).length = 1 := by decide +kernel
      have l1 : (L (Str.ofString "1")).length = 1 := by decide +kernel
      refine ⟨_, _, .inl (SqL.of hs2), aS 1 (by decide), ?_⟩
      simp only [L2.start, List.map_cons, List.map_nil, List.length_cons, List.length_nil, List.replicate_succ, List.replicate_zero, List.cons_append, List.nil_append, Nat.reduceAdd, Nat.reduceSub, Int.reduceLT, Int.reduceLE, true_and, and_true, decide_eq_true_eq, if_true, if_false, String.reduceEq, Bool.not_true, Bool.not_false, Bool.false_eq_true, decide_true, decide_false, List.set_cons_zero, List.set_cons_succ, gS, rVar, tC, tSeq, tNext, tAsg, gName, tRet, tRetN, tDrop, tIfS, tOp, tUn, tCB, tCons, tNil, tTup, tLst, tFn, tB2, tAnd, tOr, tNot, trV, tSl, tNoPart, pT, vAnd, vOr, vNot, addV, mulV, int2, int2', ltV, eqR, neR, sc, isV, isntV, negV, ixV, slV, lenV, isiV, isS, minV, maxV, joinV, tBM, tBM0, tyV, tFE, L_T, tRaise, tJoin, tJPart, tFmt, tTry, tH1, unb, tFnX, gSub, setV, isxV, rCat, rRep, rAppend, tCL, oneC, capS, gTup, gCons, gNil, tStrF, List.set_nil, sumV, tCP, tB, inT, eqN, strV, intW, fndV, prtV, stpV, List.append_nil]
      have y0 := Int.emod_nonneg (ns.getD 1 0) (b := 290) (by decide)
      have y1 := Int.emod_lt_of_pos (ns.getD 1 0) (b := 290) (by decide)
      generalize ns.getD 1 0 % 290 = r0 at y0 y1 ⊢
      have c0 := Int.emod_nonneg cell (b := 100) (by decide)
      have c1 := Int.emod_lt_of_pos cell (b := 100) (by decide)
      have g1 : (cell % 100).natAbs.log2 < 1920 := log_lt c0 (by omega)
      have nl := numL_len g1
      exact ⟨⟨by omega, by omega, by rw [l0]; omega⟩, by rw [l1, rep_len, l0]; omega, g1, by rw [List.length_append, l1, rep_len, l0]; omega, by rw [List.length_append, List.length_append, l1, rep_len, l0]; omega, tat (Same.refl _), fun l hl => q l (by omega) _ sm2⟩
    rintro _ H2 ⟨rfl, rfl⟩
    refine cutS (fun σ' H' => Same H2 H' ∧ σ' = [some (V.str z), some (V.ref b), some (V.int kd), some (V.ref s), some (V.int cell), some (V.int mn), some (V.ref p), some (V.int (k : Int)), none, none, none]) ?_ ?_
    · simp only [L2.start, List.map_cons, List.map_nil, List.length_cons, List.length_nil, List.replicate_succ, List.replicate_zero, List.cons_append, List.nil_append, Nat.reduceAdd, Nat.reduceSub, Int.reduceLT, Int.reduceLE, true_and, and_true, decide_eq_true_eq, if_true, if_false, String.reduceEq, Bool.not_true, Bool.not_false, Bool.false_eq_true, decide_true, decide_false, List.set_cons_zero, List.set_cons_succ, gS, rVar, tC, tSeq, tNext, tAsg, gName, tRet, tRetN, tDrop, tIfS, tOp, tUn, tCB, tCons, tNil, tTup, tLst, tFn, tB2, tAnd, tOr, tNot, trV, tSl, tNoPart, pT, vAnd, vOr, vNot, addV, mulV, int2, int2', ltV, eqR, neR, sc, isV, isntV, negV, ixV, slV, lenV, isiV, isS, minV, maxV, joinV, tBM, tBM0, tyV, tFE, L_T, tRaise, tJoin, tJPart, tFmt, tTry, tH1, unb, tFnX, gSub, setV, isxV, rCat, rRep, rAppend, tCL, oneC, capS, gTup, gCons, gNil, tStrF, List.set_nil, sumV, tCP, tB, inT, eqN, strV, intW, fndV, prtV, stpV, List.append_nil]
      refine ite2 (fun _ => ⟨by omega, fun p1 hp1 => ⟨_, SqL.of ((upd_ne (ne_of_none hp hp1)).trans hp), SqL.of upd_same, ?_⟩⟩) fun _ => Same.refl _
      have sm3 : Same H2 (upd H2 p1 (HO.lst [])) := Same.updN hp1
      generalize upd H2 p1 (HO.lst []) = H3 at sm3 ⊢
      have hp3 := sm3 _ _ hp
      have hs3 := sm3 _ _ hs2
      have tu3 := tu.same sm3
      by_cases hu : (us.map V.ref).length = 0
      · rw [decide_eq_true hu]
        exact iteF sm3
      rw [decide_eq_false hu]
      rw [List.length_map] at hu
      have kl := hk hu
      have ek : us[k]? = some us[k] := List.getElem?_eq_getElem kl
      obtain ⟨x, y, ex, x1, y1⟩ := tu3 us[k] (List.getElem_mem kl)
      have ak : atI (us.map V.ref) (k : Int) = some (V.ref us[k]) := by
        unfold atI ixN
        rw [if_pos (by omega), if_pos (by rw [List.length_map]; omega), Int.toNat_natCast, Option.bind_some, List.getElem?_map, ek]
        rfl
      refine iteT ?_
      refine cutS (fun σ' H' => Same H3 H' ∧ ∃ w : List Nat, w.length ≤ 2500 ∧ σ' = [some (V.str z), some (V.ref b), some (V.int kd), some (V.ref s), some (V.int cell), some (V.int mn), some (V.ref p), some (V.int (k : Int)), some (V.str (T w)), none, none]) ?_ ?_
      · simp only [L2.start, List.map_cons, List.map_nil, List.length_cons, List.length_nil, List.replicate_succ, List.replicate_zero, List.cons_append, List.nil_append, Nat.reduceAdd, Nat.reduceSub, Int.reduceLT, Int.reduceLE, true_and, and_true, decide_eq_true_eq, if_true, if_false, String.reduceEq, Bool.not_true, Bool.not_false, Bool.false_eq_true, decide_true, decide_false, List.set_cons_zero, List.set_cons_succ, gS, rVar, tC, tSeq, tNext, tAsg, gName, tRet, tRetN, tDrop, tIfS, tOp, tUn, tCB, tCons, tNil, tTup, tLst, tFn, tB2, tAnd, tOr, tNot, trV, tSl, tNoPart, pT, vAnd, vOr, vNot, addV, mulV, int2, int2', ltV, eqR, neR, sc, isV, isntV, negV, ixV, slV, lenV, isiV, isS, minV, maxV, joinV, tBM, tBM0, tyV, tFE, L_T, tRaise, tJoin, tJPart, tFmt, tTry, tH1, unb, tFnX, gSub, setV, isxV, rCat, rRep, rAppend, tCL, oneC, capS, gTup, gCons, gNil, tStrF, List.set_nil, sumV, tCP, tB, inT, eqN, strV, intW, fndV, prtV, stpV, List.append_nil, modV]
        refine ⟨_, _, .inl (SqL.of hp3), ak, ?_⟩
        simp only [L2.start, List.map_cons, List.map_nil, List.length_cons, List.length_nil, List.replicate_succ, List.replicate_zero, List.cons_append, List.nil_append, Nat.reduceAdd, Nat.reduceSub, Int.reduceLT, Int.reduceLE, true_and, and_true, decide_eq_true_eq, if_true, if_false, String.reduceEq, Bool.not_true, Bool.not_false, Bool.false_eq_true, decide_true, decide_false, List.set_cons_zero, List.set_cons_succ, gS, rVar, tC, tSeq, tNext, tAsg, gName, tRet, tRetN, tDrop, tIfS, tOp, tUn, tCB, tCons, tNil, tTup, tLst, tFn, tB2, tAnd, tOr, tNot, trV, tSl, tNoPart, pT, vAnd, vOr, vNot, addV, mulV, int2, int2', ltV, eqR, neR, sc, isV, isntV, negV, ixV, slV, lenV, isiV, isS, minV, maxV, joinV, tBM, tBM0, tyV, tFE, L_T, tRaise, tJoin, tJPart, tFmt, tTry, tH1, unb, tFnX, gSub, setV, isxV, rCat, rRep, rAppend, tCL, oneC, capS, gTup, gCons, gNil, tStrF, List.set_nil, sumV, tCP, tB, inT, eqN, strV, intW, fndV, prtV, stpV, List.append_nil, modV]
        refine ⟨_, _, .inr (SqT.of ex), rfl, ?_⟩
        simp only [L2.start, List.map_cons, List.map_nil, List.length_cons, List.length_nil, List.replicate_succ, List.replicate_zero, List.cons_append, List.nil_append, Nat.reduceAdd, Nat.reduceSub, Int.reduceLT, Int.reduceLE, true_and, and_true, decide_eq_true_eq, if_true, if_false, String.reduceEq, Bool.not_true, Bool.not_false, Bool.false_eq_true, decide_true, decide_false, List.set_cons_zero, List.set_cons_succ, gS, rVar, tC, tSeq, tNext, tAsg, gName, tRet, tRetN, tDrop, tIfS, tOp, tUn, tCB, tCons, tNil, tTup, tLst, tFn, tB2, tAnd, tOr, tNot, trV, tSl, tNoPart, pT, vAnd, vOr, vNot, addV, mulV, int2, int2', ltV, eqR, neR, sc, isV, isntV, negV, ixV, slV, lenV, isiV, isS, minV, maxV, joinV, tBM, tBM0, tyV, tFE, L_T, tRaise, tJoin, tJPart, tFmt, tTry, tH1, unb, tFnX, gSub, setV, isxV, rCat, rRep, rAppend, tCL, oneC, capS, gTup, gCons, gNil, tStrF, List.set_nil, sumV, tCP, tB, inT, eqN, strV, intW, fndV, prtV, stpV, List.append_nil, modV]
        have l0 : (L (Str.ofString "0")).length = 1 := by decide +kernel
        have g1 : (1000 + cell % 10 ^ Int.toNat 30).natAbs.log2 < 1920 := log_lt (by omega) (by omega)
        have nl := numL_len g1
        refine ⟨by omega, cp, f0, g1, by omega, fun pt hpt => ⟨_, _, .inl (SqL.of ((upd_ne (ne_of_none hs3 hpt)).trans hs3)), aS 1 (by decide), ?_⟩⟩
        simp only [L2.start, List.map_cons, List.map_nil, List.length_cons, List.length_nil, List.replicate_succ, List.replicate_zero, List.cons_append, List.nil_append, Nat.reduceAdd, Nat.reduceSub, Int.reduceLT, Int.reduceLE, true_and, and_true, decide_eq_true_eq, if_true, if_false, String.reduceEq, Bool.not_true, Bool.not_false, Bool.false_eq_true, decide_true, decide_false, List.set_cons_zero, List.set_cons_succ, gS, rVar, tC, tSeq, tNext, tAsg, gName, tRet, tRetN, tDrop, tIfS, tOp, tUn, tCB, tCons, tNil, tTup, tLst, tFn, tB2, tAnd, tOr, tNot, trV, tSl, tNoPart, pT, vAnd, vOr, vNot, addV, mulV, int2, int2', ltV, eqR, neR, sc, isV, isntV, negV, ixV, slV, lenV, isiV, isS, minV, maxV, joinV, tBM, tBM0, tyV, tFE, L_T, tRaise, tJoin, tJPart, tFmt, tTry, tH1, unb, tFnX, gSub, setV, isxV, rCat, rRep, rAppend, tCL, oneC, capS, gTup, gCons, gNil, tStrF, List.set_nil, sumV, tCP, tB, inT, eqN, strV, intW, fndV, prtV, stpV, List.append_nil]
        have z0 := Int.emod_nonneg (ns.getD 1 0) (b := 7) (by decide)
        have z1 := Int.emod_lt_of_pos (ns.getD 1 0) (b := 7) (by decide)
        generalize ns.getD 1 0 % 7 = r0 at z0 z1 ⊢
        obtain ⟨w, ew, wl⟩ : ∃ w : List Nat, atI [V.str (Str.ofString "0"), V.str (T (L (Str.ofString "0") ++ y)), V.str (Str.ofString "1000"), V.str (T (numL (1000 + cell % 10 ^ Int.toNat 30))), V.str (Str.ofString ""), V.str (Str.ofString "1 "), V.str (Str.ofString "a")] r0 = some (.str (T w)) ∧ w.length ≤ 2500 := by
          have : r0 = 0 ∨ r0 = 1 ∨ r0 = 2 ∨ r0 = 3 ∨ r0 = 4 ∨ r0 = 5 ∨ r0 = 6 := by omega
          rcases this with rfl | rfl | rfl | rfl | rfl | rfl | rfl
          · exact ⟨L (Str.ofString "0"), by rw [T_L]; rfl, by decide +kernel⟩
          · exact ⟨_, rfl, by rw [List.length_append]; omega⟩
          · exact ⟨L (Str.ofString "1000"), by rw [T_L]; rfl, by decide +kernel⟩
          · exact ⟨_, rfl, by omega⟩
          · exact ⟨L (Str.ofString ""), by rw [T_L]; rfl, by decide +kernel⟩
          · exact ⟨L (Str.ofString "1 "), by rw [T_L]; rfl, by decide +kernel⟩
          · exact ⟨L (Str.ofString "a"), by rw [T_L]; rfl, by decide +kernel⟩
        exact ⟨_, _, .inr (SqT.of upd_same), ew, Same.updN hpt, w, wl, rfl⟩
      rintro _ H5 ⟨sm5, w, wl, rfl⟩
      refine cutS (fun σ' H' => Same H H' ∧ TAt 100 H' p ∧ σ' = [some (V.str z), some (V.ref b), some (V.int kd), some (V.ref s), some (V.int cell), some (V.int mn), some (V.ref p), some (V.int (k : Int)), some (V.str (T w)), none, none]) ?_ ?_
      · simp only [L2.start, List.map_cons, List.map_nil, List.length_cons, List.length_nil, List.replicate_succ, List.replicate_zero, List.cons_append, List.nil_append, Nat.reduceAdd, Nat.reduceSub, Int.reduceLT, Int.reduceLE, true_and, and_true, decide_eq_true_eq, if_true, if_false, String.reduceEq, Bool.not_true, Bool.not_false, Bool.false_eq_true, decide_true, decide_false, List.set_cons_zero, List.set_cons_succ, gS, rVar, tC, tSeq, tNext, tAsg, gName, tRet, tRetN, tDrop, tIfS, tOp, tUn, tCB, tCons, tNil, tTup, tLst, tFn, tB2, tAnd, tOr, tNot, trV, tSl, tNoPart, pT, vAnd, vOr, vNot, addV, mulV, int2, int2', ltV, eqR, neR, sc, isV, isntV, negV, ixV, slV, lenV, isiV, isS, minV, maxV, joinV, tBM, tBM0, tyV, tFE, L_T, tRaise, tJoin, tJPart, tFmt, tTry, tH1, unb, tFnX, gSub, setV, isxV, rCat, rRep, rAppend, tCL, oneC, capS, gTup, gCons, gNil, tStrF, List.set_nil, sumV, tCP, tB, inT, eqN, strV, intW, fndV, prtV, stpV, List.append_nil]
        refine ⟨_, _, .inl (SqL.of (sm5 _ _ hp3)), ak, ?_⟩
        simp only [L2.start, List.map_cons, List.map_nil, List.length_cons, List.length_nil, List.replicate_succ, List.replicate_zero, List.cons_append, List.nil_append, Nat.reduceAdd, Nat.reduceSub, Int.reduceLT, Int.reduceLE, true_and, and_true, decide_eq_true_eq, if_true, if_false, String.reduceEq, Bool.not_true, Bool.not_false, Bool.false_eq_true, decide_true, decide_false, List.set_cons_zero, List.set_cons_succ, gS, rVar, tC, tSeq, tNext, tAsg, gName, tRet, tRetN, tDrop, tIfS, tOp, tUn, tCB, tCons, tNil, tTup, tLst, tFn, tB2, tAnd, tOr, tNot, trV, tSl, tNoPart, pT, vAnd, vOr, vNot, addV, mulV, int2, int2', ltV, eqR, neR, sc, isV, isntV, negV, ixV, slV, lenV, isiV, isS, minV, maxV, joinV, tBM, tBM0, tyV, tFE, L_T, tRaise, tJoin, tJPart, tFmt, tTry, tH1, unb, tFnX, gSub, setV, isxV, rCat, rRep, rAppend, tCL, oneC, capS, gTup, gCons, gNil, tStrF, List.set_nil, sumV, tCP, tB, inT, eqN, strV, intW, fndV, prtV, stpV, List.append_nil]
        refine ⟨_, _, .inr (SqT.of (sm5 _ _ ex)), rfl, ?_⟩
        have hp5 := sm5 _ _ hp3
        refine ⟨by omega, fun tt htt => ⟨us.map V.ref, (upd_ne (ne_of_none hp5 htt)).trans hp5, k, ?_, ?_, ?_⟩⟩
        · unfold ixN
          rw [if_pos (by omega), if_pos (by rw [List.length_map]; omega), Int.toNat_natCast]
        · exact same_put (Same.upd ((sm2.trans sm3).trans sm5) htt) hp0
        · refine ⟨us.set k tt, by rw [upd_same, List.map_set], by rw [List.length_set]; omega, fun t ht => ?_⟩
          rcases List.mem_or_eq_of_mem_set ht with y | y
          · obtain ⟨x', y', e', r1, r2⟩ := (tu3.same sm5) t y
            exact ⟨x', y', tup_keep e' hp5 htt, r1, by omega⟩
          · rw [y]
            exact ⟨x, w, by rw [upd_ne (Ne.symm (ne_of_none hp5 htt)), upd_same], x1, wl⟩
      rintro _ H6 ⟨sm6, ta, rfl⟩
      simp only [L2.start, List.map_cons, List.map_nil, List.length_cons, List.length_nil, List.replicate_succ, List.replicate_zero, List.cons_append, List.nil_append, Nat.reduceAdd, Nat.reduceSub, Int.reduceLT, Int.reduceLE, true_and, and_true, decide_eq_true_eq, if_true, if_false, String.reduceEq, Bool.not_true, Bool.not_false, Bool.false_eq_true, decide_true, decide_false, List.set_cons_zero, List.set_cons_succ, gS, rVar, tC, tSeq, tNext, tAsg, gName, tRet, tRetN, tDrop, tIfS, tOp, tUn, tCB, tCons, tNil, tTup, tLst, tFn, tB2, tAnd, tOr, tNot, trV, tSl, tNoPart, pT, vAnd, vOr, vNot, addV, mulV, int2, int2', ltV, eqR, neR, sc, isV, isntV, negV, ixV, slV, lenV, isiV, isS, minV, maxV, joinV, tBM, tBM0, tyV, tFE, L_T, tRaise, tJoin, tJPart, tFmt, tTry, tH1, unb, tFnX, gSub, setV, isxV, rCat, rRep, rAppend, tCL, oneC, capS, gTup, gCons, gNil, tStrF, List.set_nil, sumV, tCP, tB, inT, eqN, strV, intW, fndV, prtV, stpV, List.append_nil, sp_w_written]
      exact ⟨by omega, ta, fun l hl => q l (by omega) _ sm6⟩
    rintro _ H3 ⟨sm3, rfl⟩
    have hp3 := sm3 _ _ hp
    have tu3 := tu.same sm3
    refine cutS (fun σ' H' => Same H3 H' ∧ σ' = [some (V.str z), some (V.ref b), some (V.int kd), some (V.ref s), some (V.int cell), some (V.int mn), some (V.ref p), some (V.int (k : Int)), none, none, none]) ?_ ?_
    · simp only [L2.start, List.map_cons, List.map_nil, List.length_cons, List.length_nil, List.replicate_succ, List.replicate_zero, List.cons_append, List.nil_append, Nat.reduceAdd, Nat.reduceSub, Int.reduceLT, Int.reduceLE, true_and, and_true, decide_eq_true_eq, if_true, if_false, String.reduceEq, Bool.not_true, Bool.not_false, Bool.false_eq_true, decide_true, decide_false, List.set_cons_zero, List.set_cons_succ, gS, rVar, tC, tSeq, tNext, tAsg, gName, tRet, tRetN, tDrop, tIfS, tOp, tUn, tCB, tCons, tNil, tTup, tLst, tFn, tB2, tAnd, tOr, tNot, trV, tSl, tNoPart, pT, vAnd, vOr, vNot, addV, mulV, int2, int2', ltV, eqR, neR, sc, isV, isntV, negV, ixV, slV, lenV, isiV, isS, minV, maxV, joinV, tBM, tBM0, tyV, tFE, L_T, tRaise, tJoin, tJPart, tFmt, tTry, tH1, unb, tFnX, gSub, setV, isxV, rCat, rRep, rAppend, tCL, oneC, capS, gTup, gCons, gNil, tStrF, List.set_nil, sumV, tCP, tB, inT, eqN, strV, intW, fndV, prtV, stpV, List.append_nil]
      refine ite2 (fun _ => ⟨by omega, fun p1 hp1 => ⟨_, SqL.of ((upd_ne (ne_of_none hp3 hp1)).trans hp3), SqL.of upd_same, ?_⟩⟩) fun _ => Same.refl _
      have sm4 : Same H3 (upd H3 p1 (HO.lst [])) := Same.updN hp1
      generalize upd H3 p1 (HO.lst []) = H4 at sm4 ⊢
      have hp4 := sm4 _ _ hp3
      have tu4 := tu3.same sm4
      by_cases hu : (us.map V.ref).length = 0
      · rw [decide_eq_true hu]
        exact iteF sm4
      rw [decide_eq_false hu]
      rw [List.length_map] at hu
      have kl := hk hu
      have ek : us[k]? = some us[k] := List.getElem?_eq_getElem kl
      obtain ⟨x, y, ex, x1, y1⟩ := tu4 us[k] (List.getElem_mem kl)
      have ak : atI (us.map V.ref) (k : Int) = some (V.ref us[k]) := by
        unfold atI ixN
        rw [if_pos (by omega), if_pos (by rw [List.length_map]; omega), Int.toNat_natCast, Option.bind_some, List.getElem?_map, ek]
        rfl
      refine iteT ?_
      simp only [L2.start, List.map_cons, List.map_nil, List.length_cons, List.length_nil, List.replicate_succ, List.replicate_zero, List.cons_append, List.nil_append, Nat.reduceAdd, Nat.reduceSub, Int.reduceLT, Int.reduceLE, true_and, and_true, decide_eq_true_eq, if_true, if_false, String.reduceEq, Bool.not_true, Bool.not_false, Bool.false_eq_true, decide_true, decide_false, List.set_cons_zero, List.set_cons_succ, gS, rVar, tC, tSeq, tNext, tAsg, gName, tRet, tRetN, tDrop, tIfS, tOp, tUn, tCB, tCons, tNil, tTup, tLst, tFn, tB2, tAnd, tOr, tNot, trV, tSl, tNoPart, pT, vAnd, vOr, vNot, addV, mulV, int2, int2', ltV, eqR, neR, sc, isV, isntV, negV, ixV, slV, lenV, isiV, isS, minV, maxV, joinV, tBM, tBM0, tyV, tFE, L_T, tRaise, tJoin, tJPart, tFmt, tTry, tH1, unb, tFnX, gSub, setV, isxV, rCat, rRep, rAppend, tCL, oneC, capS, gTup, gCons, gNil, tStrF, List.set_nil, sumV, tCP, tB, inT, eqN, strV, intW, fndV, prtV, stpV, List.append_nil, sp_w_written]
      refine ⟨_, SqL.of hp4, fun q1 hq1 => ?_⟩
      have sm5 := sm4.upd (o := HO.lst (cut (us.map V.ref) none (some ((k : Int) + 1)))) hq1
      have hq5 : upd H4 q1 (HO.lst (cut (us.map V.ref) none (some ((k : Int) + 1)))) q1 = some (.lst (cut (us.map V.ref) none (some ((k : Int) + 1)))) := upd_same
      have hp5 : upd H4 q1 (HO.lst (cut (us.map V.ref) none (some ((k : Int) + 1)))) p = some (.lst (us.map V.ref)) := (upd_ne (ne_of_none hp4 hq1)).trans hp4
      have tu5 := tu3.same sm5
      have ex5 : upd H4 q1 (HO.lst (cut (us.map V.ref) none (some ((k : Int) + 1)))) us[k] = some (.tup [V.str (T x), V.str (T y)]) := (upd_ne (ne_of_none ex hq1)).trans ex
      generalize upd H4 q1 (HO.lst (cut (us.map V.ref) none (some ((k : Int) + 1)))) = H5 at sm5 hq5 hp5 ex5 tu5 ⊢
      refine ⟨_, _, .inl (SqL.of hp5), ak, ?_⟩
      simp only [L2.start, List.map_cons, List.map_nil, List.length_cons, List.length_nil, List.replicate_succ, List.replicate_zero, List.cons_append, List.nil_append, Nat.reduceAdd, Nat.reduceSub, Int.reduceLT, Int.reduceLE, true_and, and_true, decide_eq_true_eq, if_true, if_false, String.reduceEq, Bool.not_true, Bool.not_false, Bool.false_eq_true, decide_true, decide_false, List.set_cons_zero, List.set_cons_succ, gS, rVar, tC, tSeq, tNext, tAsg, gName, tRet, tRetN, tDrop, tIfS, tOp, tUn, tCB, tCons, tNil, tTup, tLst, tFn, tB2, tAnd, tOr, tNot, trV, tSl, tNoPart, pT, vAnd, vOr, vNot, addV, mulV, int2, int2', ltV, eqR, neR, sc, isV, isntV, negV, ixV, slV, lenV, isiV, isS, minV, maxV, joinV, tBM, tBM0, tyV, tFE, L_T, tRaise, tJoin, tJPart, tFmt, tTry, tH1, unb, tFnX, gSub, setV, isxV, rCat, rRep, rAppend, tCL, oneC, capS, gTup, gCons, gNil, tStrF, List.set_nil, sumV, tCP, tB, inT, eqN, strV, intW, fndV, prtV, stpV, List.append_nil]
      refine ⟨_, _, .inr (SqT.of ex5), rfl, ?_⟩
      refine ⟨by omega, fun pt hpt => ⟨by omega, fun pl hpl => ?_⟩⟩
      have pt6 : upd (upd H5 pt (HO.tup [V.str (T x), V.str (Str.ofString "1")])) pl (HO.lst [V.ref pt]) pt = some (.tup [V.str (T x), V.str (Str.ofString "1")]) := (upd_ne (Ne.symm (upd_free hpl).2)).trans upd_same
      have pl6 : upd (upd H5 pt (HO.tup [V.str (T x), V.str (Str.ofString "1")])) pl (HO.lst [V.ref pt]) pl = some (.lst [V.ref pt]) := upd_same
      have s6 : Same H5 (upd (upd H5 pt (HO.tup [V.str (T x), V.str (Str.ofString "1")])) pl (HO.lst [V.ref pt])) := Same.upd (Same.updN hpt) hpl
      generalize upd (upd H5 pt (HO.tup [V.str (T x), V.str (Str.ofString "1")])) pl (HO.lst [V.ref pt]) = H6 at pt6 pl6 s6 ⊢
      have cl := cut_len (us.map V.ref) none (some ((k : Int) + 1))
      have cl2 := cut_len (us.map V.ref) (some ((k : Int) + 1)) none
      rw [List.length_map] at cl cl2
      refine ⟨q1, pl, _, _, rfl, rfl, s6 _ _ hq5, pl6, by rw [List.length_singleton]; omega, fun p7 hp7 => ⟨_, SqL.of ((upd_ne (ne_of_none (s6 _ _ hp5) hp7)).trans (s6 _ _ hp5)), fun q2 hq2 => ?_⟩⟩
      refine ⟨p7, q2, _, _, rfl, rfl, (upd_ne (Ne.symm (upd_free hq2).2)).trans upd_same, upd_same, by rw [List.length_append, List.length_singleton]; omega, fun p8 hp8 => ⟨by omega, ?_, fun l hl => q l (by omega) _ ?_⟩⟩
      · refine ⟨cut us none (some ((k : Int) + 1)) ++ [pt] ++ cut us (some ((k : Int) + 1)) none, ?_, ?_, fun t ht => ?_⟩
        · rw [upd_same, cut_map, cut_map, List.map_append, List.map_append]
          rfl
        · have := cut_len us none (some ((k : Int) + 1))
          have := cut_len us (some ((k : Int) + 1)) none
          rw [List.length_append, List.length_append, List.length_singleton]
          omega
        · have old : ∀ t ∈ us, ∃ x y : List Nat, upd (upd (upd H6 p7 (HO.lst (cut (us.map V.ref) none (some ((k : Int) + 1)) ++ [V.ref pt]))) q2 (HO.lst (cut (us.map V.ref) (some ((k : Int) + 1)) none))) p8 (HO.lst (cut (us.map V.ref) none (some ((k : Int) + 1)) ++ [V.ref pt] ++ cut (us.map V.ref) (some ((k : Int) + 1)) none)) t = some (.tup [.str (T x), .str (T y)]) ∧ x.length ≤ 1 ∧ y.length ≤ 2500 := fun t ht => by
            obtain ⟨x', y', e', r1, r2⟩ := tu5 t ht
            exact ⟨x', y', ((Same.upd (Same.updN hp7) hq2).upd hp8) _ _ (s6 _ _ e'), r1, by omega⟩
          rcases List.mem_append.mp ht with y | y
          · rcases List.mem_append.mp y with y | y
            · exact old t (LP.mem_cut y)
            · rw [List.mem_singleton.mp y]
              exact ⟨x, L (Str.ofString "1"), by rw [T_L]; exact ((Same.upd (Same.updN hp7) hq2).upd hp8) _ _ pt6, x1, by decide +kernel⟩
          · exact old t (LP.mem_cut y)
      · exact ((((sm2.trans sm3).trans sm5).trans s6).trans (Same.upd (Same.updN hp7) hq2)).upd hp8
    rintro _ H4 ⟨sm4, rfl⟩
    have smB := sm3.trans sm4
    have smA := sm2.trans smB
    refine cutS (fun σ' H' => H' = H4 ∧ ∃ x : List Nat, x.length ≤ 300000 ∧ σ' = [some (V.str z), some (V.ref b), some (V.int kd), some (V.ref s), some (V.int cell), some (V.int mn), some (V.ref p), some (V.int (k : Int)), none, some (V.str (T x)), none]) ?_ ?_
    · simp only [L2.start, List.map_cons, List.map_nil, List.length_cons, List.length_nil, List.replicate_succ, List.replicate_zero, List.cons_append, List.nil_append, Nat.reduceAdd, Nat.reduceSub, Int.reduceLT, Int.reduceLE, true_and, and_true, decide_eq_true_eq, if_true, if_false, String.reduceEq, Bool.not_true, Bool.not_false, Bool.false_eq_true, decide_true, decide_false, List.set_cons_zero, List.set_cons_succ, gS, rVar, tC, tSeq, tNext, tAsg, gName, tRet, tRetN, tDrop, tIfS, tOp, tUn, tCB, tCons, tNil, tTup, tLst, tFn, tB2, tAnd, tOr, tNot, trV, tSl, tNoPart, pT, vAnd, vOr, vNot, addV, mulV, int2, int2', ltV, eqR, neR, sc, isV, isntV, negV, ixV, slV, lenV, isiV, isS, minV, maxV, joinV, tBM, tBM0, tyV, tFE, L_T, tRaise, tJoin, tJPart, tFmt, tTry, tH1, unb, tFnX, gSub, setV, isxV, rCat, rRep, rAppend, tCL, oneC, capS, gTup, gCons, gNil, tStrF, List.set_nil, sumV, tCP, tB, inT, eqN, strV, intW, fndV, prtV, stpV, List.append_nil, sp_w_written]
      exact ⟨by omega, tat smB, fun l hl => ⟨l, hl, rfl⟩⟩
    rintro _ H4 ⟨rfl, x, xl, rfl⟩
    have hs4 := smB _ _ hs2
    refine cutS (fun σ' H' => H' = H4 ∧ ∃ pl : Nat, pl ≤ x.length ∧ σ' = [some (V.str z), some (V.ref b), some (V.int kd), some (V.ref s), some (V.int cell), some (V.int mn), some (V.ref p), some (V.int (k : Int)), none, some (V.str (T x)), some (V.int (pl : Int))]) ?_ ?_
    · simp only [L2.start, List.map_cons, List.map_nil, List.length_cons, List.length_nil, List.replicate_succ, List.replicate_zero, List.cons_append, List.nil_append, Nat.reduceAdd, Nat.reduceSub, Int.reduceLT, Int.reduceLE, true_and, and_true, decide_eq_true_eq, if_true, if_false, String.reduceEq, Bool.not_true, Bool.not_false, Bool.false_eq_true, decide_true, decide_false, List.set_cons_zero, List.set_cons_succ, gS, rVar, tC, tSeq, tNext, tAsg, gName, tRet, tRetN, tDrop, tIfS, tOp, tUn, tCB, tCons, tNil, tTup, tLst, tFn, tB2, tAnd, tOr, tNot, trV, tSl, tNoPart, pT, vAnd, vOr, vNot, addV, mulV, int2, int2', ltV, eqR, neR, sc, isV, isntV, negV, ixV, slV, lenV, isiV, isS, minV, maxV, joinV, tBM, tBM0, tyV, tFE, L_T, tRaise, tJoin, tJPart, tFmt, tTry, tH1, unb, tFnX, gSub, setV, isxV, rCat, rRep, rAppend, tCL, oneC, capS, gTup, gCons, gNil, tStrF, List.set_nil, sumV, tCP, tB, inT, eqN, strV, intW, fndV, prtV, stpV, List.append_nil, modV]
      refine ⟨_, _, .inl (SqL.of hs4), aS 2 (by decide), ?_⟩
      simp only [L2.start, List.map_cons, List.map_nil, List.length_cons, List.length_nil, List.replicate_succ, List.replicate_zero, List.cons_append, List.nil_append, Nat.reduceAdd, Nat.reduceSub, Int.reduceLT, Int.reduceLE, true_and, and_true, decide_eq_true_eq, if_true, if_false, String.reduceEq, Bool.not_true, Bool.not_false, Bool.false_eq_true, decide_true, decide_false, List.set_cons_zero, List.set_cons_succ, gS, rVar, tC, tSeq, tNext, tAsg, gName, tRet, tRetN, tDrop, tIfS, tOp, tUn, tCB, tCons, tNil, tTup, tLst, tFn, tB2, tAnd, tOr, tNot, trV, tSl, tNoPart, pT, vAnd, vOr, vNot, addV, mulV, int2, int2', ltV, eqR, neR, sc, isV, isntV, negV, ixV, slV, lenV, isiV, isS, minV, maxV, joinV, tBM, tBM0, tyV, tFE, L_T, tRaise, tJoin, tJPart, tFmt, tTry, tH1, unb, tFnX, gSub, setV, isxV, rCat, rRep, rAppend, tCL, oneC, capS, gTup, gCons, gNil, tStrF, List.set_nil, sumV, tCP, tB, inT, eqN, strV, intW, fndV, prtV, stpV, List.append_nil, modV]
      have y0 := Int.emod_nonneg (ns.getD 2 0) (b := (x.length : Int) + 1) (by omega)
      have y1 := Int.emod_lt_of_pos (ns.getD 2 0) (b := (x.length : Int) + 1) (by omega)
      exact ⟨by omega, by omega, (ns.getD 2 0 % ((x.length : Int) + 1)).toNat, by omega, by rw [Int.toNat_of_nonneg y0]⟩
    rintro _ H4 ⟨rfl, pl, pll, rfl⟩
    have c1 := cut_len x none (some (pl : Int))
    have c2 := cut_len x (some ((pl : Int) + 1)) none
    have c3 := cut_len x (some (pl : Int)) none
    have c4 := cut_len x none (some (-1))
    have c5 := cut_len x (some (((L z).length : Int) + 1)) none
    refine cutS (fun σ' H' => H' = H4 ∧ σ' = [some (V.str z), some (V.ref b), some (V.int kd), some (V.ref s), some (V.int cell), some (V.int mn), some (V.ref p), some (V.int (k : Int)), none, some (V.str (T x)), some (V.int (pl : Int))]) ?_ ?_
    · simp only [L2.start, List.map_cons, List.map_nil, List.length_cons, List.length_nil, List.replicate_succ, List.replicate_zero, List.cons_append, List.nil_append, Nat.reduceAdd, Nat.reduceSub, Int.reduceLT, Int.reduceLE, true_and, and_true, decide_eq_true_eq, if_true, if_false, String.reduceEq, Bool.not_true, Bool.not_false, Bool.false_eq_true, decide_true, decide_false, List.set_cons_zero, List.set_cons_succ, gS, rVar, tC, tSeq, tNext, tAsg, gName, tRet, tRetN, tDrop, tIfS, tOp, tUn, tCB, tCons, tNil, tTup, tLst, tFn, tB2, tAnd, tOr, tNot, trV, tSl, tNoPart, pT, vAnd, vOr, vNot, addV, mulV, int2, int2', ltV, eqR, neR, sc, isV, isntV, negV, ixV, slV, lenV, isiV, isS, minV, maxV, joinV, tBM, tBM0, tyV, tFE, L_T, tRaise, tJoin, tJPart, tFmt, tTry, tH1, unb, tFnX, gSub, setV, isxV, rCat, rRep, rAppend, tCL, oneC, capS, gTup, gCons, gNil, tStrF, List.set_nil, sumV, tCP, tB, inT, eqN, strV, intW, fndV, prtV, stpV, List.append_nil]
      exact ite2 (fun _ => ⟨by omega, by omega, by omega, q _ (by rw [List.length_append]; omega) _ smA⟩) fun _ => trivial
    rintro _ H4 ⟨rfl, rfl⟩
    refine cutS (fun σ' H' => H' = H4 ∧ σ' = [some (V.str z), some (V.ref b), some (V.int kd), some (V.ref s), some (V.int cell), some (V.int mn), some (V.ref p), some (V.int (k : Int)), none, some (V.str (T x)), some (V.int (pl : Int))]) ?_ ?_
    · simp only [L2.start, List.map_cons, List.map_nil, List.length_cons, List.length_nil, List.replicate_succ, List.replicate_zero, List.cons_append, List.nil_append, Nat.reduceAdd, Nat.reduceSub, Int.reduceLT, Int.reduceLE, true_and, and_true, decide_eq_true_eq, if_true, if_false, String.reduceEq, Bool.not_true, Bool.not_false, Bool.false_eq_true, decide_true, decide_false, List.set_cons_zero, List.set_cons_succ, gS, rVar, tC, tSeq, tNext, tAsg, gName, tRet, tRetN, tDrop, tIfS, tOp, tUn, tCB, tCons, tNil, tTup, tLst, tFn, tB2, tAnd, tOr, tNot, trV, tSl, tNoPart, pT, vAnd, vOr, vNot, addV, mulV, int2, int2', ltV, eqR, neR, sc, isV, isntV, negV, ixV, slV, lenV, isiV, isS, minV, maxV, joinV, tBM, tBM0, tyV, tFE, L_T, tRaise, tJoin, tJPart, tFmt, tTry, tH1, unb, tFnX, gSub, setV, isxV, rCat, rRep, rAppend, tCL, oneC, capS, gTup, gCons, gNil, tStrF, List.set_nil, sumV, tCP, tB, inT, eqN, strV, intW, fndV, prtV, stpV, List.append_nil, sp_w_sign]
      exact ite2 (fun _ => ⟨by omega, fun c hc => ⟨by omega, by omega, by rw [List.length_append, List.length_singleton]; omega, q _ (by rw [List.length_append, List.length_append, List.length_singleton]; omega) _ smA⟩⟩) fun _ => trivial
    rintro _ H4 ⟨rfl, rfl⟩
    refine cutS (fun σ' H' => H' = H4 ∧ σ' = [some (V.str z), some (V.ref b), some (V.int kd), some (V.ref s), some (V.int cell), some (V.int mn), some (V.ref p), some (V.int (k : Int)), none, some (V.str (T x)), some (V.int (pl : Int))]) ?_ ?_
    · simp only [L2.start, List.map_cons, List.map_nil, List.length_cons, List.length_nil, List.replicate_succ, List.replicate_zero, List.cons_append, List.nil_append, Nat.reduceAdd, Nat.reduceSub, Int.reduceLT, Int.reduceLE, true_and, and_true, decide_eq_true_eq, if_true, if_false, String.reduceEq, Bool.not_true, Bool.not_false, Bool.false_eq_true, decide_true, decide_false, List.set_cons_zero, List.set_cons_succ, gS, rVar, tC, tSeq, tNext, tAsg, gName, tRet, tRetN, tDrop, tIfS, tOp, tUn, tCB, tCons, tNil, tTup, tLst, tFn, tB2, tAnd, tOr, tNot, trV, tSl, tNoPart, pT, vAnd, vOr, vNot, addV, mulV, int2, int2', ltV, eqR, neR, sc, isV, isntV, negV, ixV, slV, lenV, isiV, isS, minV, maxV, joinV, tBM, tBM0, tyV, tFE, L_T, tRaise, tJoin, tJPart, tFmt, tTry, tH1, unb, tFnX, gSub, setV, isxV, rCat, rRep, rAppend, tCL, oneC, capS, gTup, gCons, gNil, tStrF, List.set_nil, sumV, tCP, tB, inT, eqN, strV, intW, fndV, prtV, stpV, List.append_nil, sp_w_sign]
      exact ite2 (fun _ => ⟨by omega, fun c hc => ⟨by omega, by omega, by rw [List.length_append, List.length_singleton]; omega, q _ (by rw [List.length_append, List.length_append, List.length_singleton]; omega) _ smA⟩⟩) fun _ => trivial
    rintro _ H4 ⟨rfl, rfl⟩
    refine cutS (fun σ' H' => H' = H4 ∧ σ' = [some (V.str z), some (V.ref b), some (V.int kd), some (V.ref s), some (V.int cell), some (V.int mn), some (V.ref p), some (V.int (k : Int)), none, some (V.str (T x)), some (V.int (pl : Int))]) ?_ ?_
    · simp only [L2.start, List.map_cons, List.map_nil, List.length_cons, List.length_nil, List.replicate_succ, List.replicate_zero, List.cons_append, List.nil_append, Nat.reduceAdd, Nat.reduceSub, Int.reduceLT, Int.reduceLE, true_and, and_true, decide_eq_true_eq, if_true, if_false, String.reduceEq, Bool.not_true, Bool.not_false, Bool.false_eq_true, decide_true, decide_false, List.set_cons_zero, List.set_cons_succ, gS, rVar, tC, tSeq, tNext, tAsg, gName, tRet, tRetN, tDrop, tIfS, tOp, tUn, tCB, tCons, tNil, tTup, tLst, tFn, tB2, tAnd, tOr, tNot, trV, tSl, tNoPart, pT, vAnd, vOr, vNot, addV, mulV, int2, int2', ltV, eqR, neR, sc, isV, isntV, negV, ixV, slV, lenV, isiV, isS, minV, maxV, joinV, tBM, tBM0, tyV, tFE, L_T, tRaise, tJoin, tJPart, tFmt, tTry, tH1, unb, tFnX, gSub, setV, isxV, rCat, rRep, rAppend, tCL, oneC, capS, gTup, gCons, gNil, tStrF, List.set_nil, sumV, tCP, tB, inT, eqN, strV, intW, fndV, prtV, stpV, List.append_nil, negV, modV]
      refine ite2 (fun _ => ?_) fun _ => trivial
      have la : (L (Str.ofString "a")).length = 1 := by decide +kernel
      have ls : (L (Str.ofString ";")).length = 1 := by decide +kernel
      refine ⟨by omega, by omega, by omega, by omega, by omega, by omega, by omega, fun pt hpt => ⟨_, _, .inl (SqL.of ((upd_ne (ne_of_none hs4 hpt)).trans hs4)), aS 3 (by decide), ?_⟩⟩
      simp only [L2.start, List.map_cons, List.map_nil, List.length_cons, List.length_nil, List.replicate_succ, List.replicate_zero, List.cons_append, List.nil_append, Nat.reduceAdd, Nat.reduceSub, Int.reduceLT, Int.reduceLE, true_and, and_true, decide_eq_true_eq, if_true, if_false, String.reduceEq, Bool.not_true, Bool.not_false, Bool.false_eq_true, decide_true, decide_false, List.set_cons_zero, List.set_cons_succ, gS, rVar, tC, tSeq, tNext, tAsg, gName, tRet, tRetN, tDrop, tIfS, tOp, tUn, tCB, tCons, tNil, tTup, tLst, tFn, tB2, tAnd, tOr, tNot, trV, tSl, tNoPart, pT, vAnd, vOr, vNot, addV, mulV, int2, int2', ltV, eqR, neR, sc, isV, isntV, negV, ixV, slV, lenV, isiV, isS, minV, maxV, joinV, tBM, tBM0, tyV, tFE, L_T, tRaise, tJoin, tJPart, tFmt, tTry, tH1, unb, tFnX, gSub, setV, isxV, rCat, rRep, rAppend, tCL, oneC, capS, gTup, gCons, gNil, tStrF, List.set_nil, sumV, tCP, tB, inT, eqN, strV, intW, fndV, prtV, stpV, List.append_nil]
      have z0 := Int.emod_nonneg (ns.getD 3 0) (b := 5) (by decide)
      have z1 := Int.emod_lt_of_pos (ns.getD 3 0) (b := 5) (by decide)
      generalize ns.getD 3 0 % 5 = r0 at z0 z1 ⊢
      obtain ⟨w, ew, wl⟩ : ∃ w : List Nat, atI [V.str (T (cut x none (some (-1)))), V.str (T (L z ++ cut x (some (((L z).length : Int) + 1)) none)), V.str (T (x ++ L (Str.ofString "a"))), V.str (T (x ++ L (Str.ofString ";"))), V.str (Str.ofString "")] r0 = some (.str (T w)) ∧ w.length ≤ 1000000 := by
        have : r0 = 0 ∨ r0 = 1 ∨ r0 = 2 ∨ r0 = 3 ∨ r0 = 4 := by omega
        rcases this with rfl | rfl | rfl | rfl | rfl
        · exact ⟨_, rfl, by omega⟩
        · exact ⟨_, rfl, by rw [List.length_append]; omega⟩
        · exact ⟨_, rfl, by rw [List.length_append]; omega⟩
        · exact ⟨_, rfl, by rw [List.length_append]; omega⟩
        · exact ⟨L (Str.ofString ""), by rw [T_L]; rfl, by decide +kernel⟩
      exact ⟨_, _, .inr (SqT.of upd_same), ew, q w wl _ (smA.upd hpt)⟩
    rintro _ H4 ⟨rfl, rfl⟩
    simp only [L2.start, List.map_cons, List.map_nil, List.length_cons, List.length_nil, List.replicate_succ, List.replicate_zero, List.cons_append, List.nil_append, Nat.reduceAdd, Nat.reduceSub, Int.reduceLT, Int.reduceLE, true_and, and_true, decide_eq_true_eq, if_true, if_false, String.reduceEq, Bool.not_true, Bool.not_false, Bool.false_eq_true, decide_true, decide_false, List.set_cons_zero, List.set_cons_succ, gS, rVar, tC, tSeq, tNext, tAsg, gName, tRet, tRetN, tDrop, tIfS, tOp, tUn, tCB, tCons, tNil, tTup, tLst, tFn, tB2, tAnd, tOr, tNot, trV, tSl, tNoPart, pT, vAnd, vOr, vNot, addV, mulV, int2, int2', ltV, eqR, neR, sc, isV, isntV, negV, ixV, slV, lenV, isiV, isS, minV, maxV, joinV, tBM, tBM0, tyV, tFE, L_T, tRaise, tJoin, tJPart, tFmt, tTry, tH1, unb, tFnX, gSub, setV, isxV, rCat, rRep, rAppend, tCL, oneC, capS, gTup, gCons, gNil, tStrF, List.set_nil, sumV, tCP, tB, inT, eqN, strV, intW, fndV, prtV, stpV, List.append_nil]
    exact q _ (by omega) _ smA
def sp_w_refused (K : PySem.W.Frag) : Sp := fun vs H Q _ => match vs with
  | [.str z] => (L z).length ≤ 1000000 ∧ (∀ h rs, ¬ Pk (L z) h rs) ∧ ∀ H', Same H H' → Q (.bl true) H'
  | _ => False
theorem ok_w_refused {f : Addr} {fd : FuncData} (F : Fun K "_law_refused" "_law_refused" s_w_refused f fd) (B : Bn mg) {c : Cs} (ER : Er K mg c) (GC : Gc mg) (G_p_unpacked : FnX P w K mg base 3 "unpacked" P_p_unpacked (sp_p_unpacked K c)) : FnOk P w K mg base CX0 4 f fd P_w_refused (sp_w_refused K) := by
  refine F.ok sc_w_refused (fun vs H Q E h => ?_) (fun cdv A outer s H vs Q E hr h => ?_) <;> unfold sp_w_refused at h <;> split at h <;> first | exact h.elim | skip
  · rfl
  · rename_i z
    obtain ⟨hl, hn, q⟩ := h
    refine ⟨_, (pss_cons (ps_try rfl rfl (fun pn E F T => (pss_one (ps_expr (pe_fnX T G_p_unpacked (hr.mono (by decide)) (pa_cons (qv 0) pa_nil))))) (ph_cons1 (i := 1) rfl ER.x_BackError rfl ER.m_BackError sc_w_refused.nd rfl rfl (fun a => (pss_one (ps_ret (pe_and2 (pe_callB (c_isxK (K := K) rfl) (by rfl) B.isinstance bt_isinstance (pa_cons (qv 1) (pa_cons (pe_glob (v := .ref c.NoRow) rfl ER.m_NoRow rfl) pa_nil))) (pe_and2 (pe_callB (c_isxK (K := K) rfl) (by rfl) B.isinstance bt_isinstance (pa_cons (qv 1) (pa_cons (pe_bltn (v := .ty "ValueError") rfl B.ValueError bt_ValueError rfl) pa_nil))) (pe_one (pe_not2 (pe_callB (c_isxK (K := K) rfl) (by rfl) B.isinstance bt_isinstance (pa_cons (qv 1) (pa_cons (pe_tup (pa_cons (pe_glob (v := .ref c.NoText) rfl ER.m_NoText rfl) (pa_cons (pe_glob (v := .ref c.NoName) rfl ER.m_NoName rfl) pa_nil))) pa_nil)))))))))) ph_nil) pss_nil)
        (pss_one (ps_ret pe_bl))), ?_⟩
    have hsz : sizeLine = 16777216 := sizeLine_eq
    have e2 : (clsMro K c.NoRow).contains (Value.ref c.BackError) = true := ER.r_NoRow_BackError
    simp only [L2.start, List.map_cons, List.map_nil, List.length_cons, List.length_nil, List.replicate_succ, List.replicate_zero, List.cons_append, List.nil_append, Nat.reduceAdd, Nat.reduceSub, Int.reduceLT, Int.reduceLE, true_and, and_true, decide_eq_true_eq, if_true, if_false, String.reduceEq, Bool.not_true, Bool.not_false, Bool.false_eq_true, decide_true, decide_false, List.set_cons_zero, List.set_cons_succ, gS, rVar, tC, tSeq, tNext, tAsg, gName, tRet, tRetN, tDrop, tIfS, tOp, tUn, tCB, tCons, tNil, tTup, tLst, tFn, tB2, tAnd, tOr, tNot, trV, tSl, tNoPart, pT, vAnd, vOr, vNot, addV, mulV, int2, int2', ltV, eqR, neR, sc, isV, isntV, negV, ixV, slV, lenV, isiV, isS, minV, maxV, joinV, tBM, tBM0, tyV, tFE, L_T, tRaise, tJoin, tJPart, tFmt, tTry, tH1, unb, tFnX, gSub, setV, isxV, rCat, rRep, rAppend, tCL, oneC, capS, gTup, gCons, gNil, tStrF, List.set_nil, sumV, tCP, tB, inT, eqN, strV, intW, fndV, prtV, stpV, List.append_nil, sp_p_unpacked]
    refine ⟨hl, fun h rs k => absurd k (hn h rs), fun _ H1 sm1 => ⟨ER.x_NoRow, (if_pos e2).symm ▸ fun x hx => ?_⟩⟩
    refine ⟨c.NoRow, true, upd_same, ER.g_NoRow, iteT ⟨c.NoRow, true, upd_same, ER.g_NoRow, ER.v_NoRow, iteT ⟨by omega, fun p hp => ⟨c.NoRow, false, ?_, ER.g_NoRow, q _ ((sm1.upd hx).upd hp), .inr ⟨[c.NoText, c.NoName], SqT.of upd_same, ?_⟩⟩⟩⟩, .inl ER.t_NoRow_NoRow⟩
    · rw [upd_ne (Ne.symm (upd_free hp).2)]
      exact upd_same
    · show PySem.W.kitAny K (.ref c.NoRow) [.ref c.NoText, .ref c.NoName] = some false
      unfold PySem.W.kitAny
      rw [ER.t_NoRow_NoText]
      unfold PySem.W.kitAny
      rw [ER.t_NoRow_NoName]
      rfl
def sp_law (K : PySem.W.Frag) : Sp := fun vs H Q _ => ∃ (a : Addr) (ns : List Int), vs = [.ref a] ∧ SqL K H a (ns.map V.int) ∧ ns.length ≤ 63 ∧ ∀ H', Q (.bl true) H'
theorem ok_law {f : Addr} {fd : FuncData} (F : Fun K "law" "law" s_law f fd) (B : Bn mg) {c : Cs} (ER : Er K mg c) (GC : Gc mg) (G_p_unpacked : FnX P w K mg base 3 "unpacked" P_p_unpacked (sp_p_unpacked K c)) (G_w_cell_at : Fn P w K mg base 1 "_law_cell_at" P_w_cell_at (sp_w_cell_at K)) (G_w_stream : Fn P w K mg base 1 "_law_stream" P_w_stream (sp_w_stream K)) (G_w_whole : Fn P w K mg base 1 "_law_whole" P_w_whole (sp_w_whole K)) (G_w_runs_by : Fn P w K mg base 2 "_law_runs_by" P_w_runs_by (sp_w_runs_by K)) (G_w_fitted : Fn P w K mg base 1 "_law_fitted" P_w_fitted (sp_w_fitted K)) (G_w_spoilt : Fn P w K mg base 2 "_law_spoilt" P_w_spoilt (sp_w_spoilt K)) (G_w_due : Fn P w K mg base 2 "_law_due" P_w_due (sp_w_due K)) (G_w_refused : Fn P w K mg base 4 "_law_refused" P_w_refused (sp_w_refused K)) : FnOk P w K mg base CX0 5 f fd P_law (sp_law K) := by
  refine F.ok sc_law (fun vs H Q E h => ?_) (fun cdv A outer s H vs Q E hr h => ?_)
  · obtain ⟨a, ns, rfl, _⟩ := h
    rfl
  · obtain ⟨a, ns, rfl, hS, hlen, q⟩ := h
    refine ⟨_, (pss_cons (ps_set (i := 1) sc_law.nd rfl (by first | exact Or.inl rfl | exact Or.inr rfl) (pe_fn G_w_cell_at (hr.mono (by decide)) (pa_cons (qv 0) (pa_cons pe_int pa_nil))))
        (pss_cons (ps_set (i := 2) sc_law.nd rfl (by first | exact Or.inl rfl | exact Or.inr rfl) (pe_fn G_w_stream (hr.mono (by decide)) (pa_cons (pe_fn G_w_cell_at (hr.mono (by decide)) (pa_cons (qv 0) (pa_cons pe_int pa_nil))) (pa_cons pe_int pa_nil))))
        (pss_cons (ps_cut (ps_set (i := 3) sc_law.nd rfl (by first | exact Or.inl rfl | exact Or.inr rfl) (pe_fn G_w_runs_by (hr.mono (by decide)) (pa_cons (qv 0) (pa_cons (pe_fn G_w_cell_at (hr.mono (by decide)) (pa_cons (qv 0) (pa_cons pe_int pa_nil))) pa_nil)))))
        (pss_cons (ps_cut (ps_if (pt_c2 o_gt (pe_op o_mod (pe_ix (i_ixK (K := K) rfl) (qv 2) pe_int (fun _ _ => rfl)) pe_int) pe_int) (pss_one (ps_set (i := 3) sc_law.nd rfl (by first | exact Or.inl rfl | exact Or.inr rfl) (pe_fn G_w_fitted (hr.mono (by decide)) (pa_cons (qv 3) (pa_cons (pe_op o_add pe_int (pe_callTy c_intW (by rfl) B.int bt_int (pa_cons (pe_c2 o_eq (pe_op o_mod (pe_ix (i_ixK (K := K) rfl) (qv 2) pe_int (fun _ _ => rfl)) pe_int) pe_int) pa_nil))) pa_nil))))) pss_nil))
        (pss_cons (ps_cut (ps_set (i := 4) sc_law.nd rfl (by first | exact Or.inl rfl | exact Or.inr rfl) (pe_callB (c_sum (K := K) rfl rfl) (by rfl) B.sum bt_sum (pa_cons (pe_compL (K := K) rfl (own := ["_law_run"]) (cp := []) rfl rfl rfl (by decide +kernel) (by decide +kernel) trivial (qv 3) (by decide) (fun _ _ _ _ => pg_name (i := 0) (show List.Nodup (["_law_run"] : List Str) by decide +kernel) rfl (Or.inl rfl) (Or.inr rfl)) (fun _ _ _ _ => pf_nil) (fun _ _ _ _ => (pe_ix (i_ixK (K := K) rfl) (qv 0) pe_int (fun _ _ => rfl)))) pa_nil))))
        (pss_cons (ps_cut (ps_set (i := 5) sc_law.nd rfl (by first | exact Or.inl rfl | exact Or.inr rfl) (pe_callTy c_str (by rfl) B.str bt_str (pa_cons (pe_op o_mod (pe_fn G_w_cell_at (hr.mono (by decide)) (pa_cons (qv 0) (pa_cons pe_int pa_nil))) (pe_op o_add (qv 4) pe_int)) pa_nil))))
        (pss_cons (ps_cut (ps_set (i := 6) sc_law.nd rfl (by first | exact Or.inl rfl | exact Or.inr rfl) (pe_fn G_w_spoilt (hr.mono (by decide)) (pa_cons (qv 5) (pa_cons (qv 3) (pa_cons (pe_op o_mod (pe_ix (i_ixK (K := K) rfl) (qv 2) pe_int (fun _ _ => rfl)) pe_int) (pa_cons (qv 2) (pa_cons (qv 1) pa_nil))))))))
        (pss_cons (ps_cut (ps_set (i := 7) sc_law.nd rfl (by first | exact Or.inl rfl | exact Or.inr rfl) (pe_fn G_w_due (hr.mono (by decide)) (pa_cons (qv 6) pa_nil))))
        (pss_cons (ps_cut (ps_if (pt_c2 o_is (qv 7) pe_non) (pss_one (ps_ret (pe_fn G_w_refused (hr.mono (by decide)) (pa_cons (qv 6) pa_nil)))) pss_nil))
        (pss_cons (ps_cut (ps_set (i := 8) sc_law.nd rfl (by first | exact Or.inl rfl | exact Or.inr rfl) (pe_fn G_p_unpacked.quiet (hr.mono (by decide)) (pa_cons (qv 6) pa_nil))))
        (pss_cons (ps_if (PW.pt (pw_or (pt_not (pt_trK (K := K) rfl (pe_callB (c_isiK (K := K) rfl) (by rfl) B.isinstance bt_isinstance (pa_cons (qv 8) (pa_cons (pe_bltn (v := .ty "tuple") rfl B.tuple bt_tuple rfl) pa_nil))))) (pw_or (pt_c2 o_ne (pe_callB (c_lenK (K := K) rfl) (by rfl) B.len bt_len (pa_cons (qv 8) pa_nil)) pe_int) (pw_or (pt_not (pt_trK (K := K) rfl (pe_callB (c_isiK (K := K) rfl) (by rfl) B.isinstance bt_isinstance (pa_cons (pe_ix (i_ixK (K := K) rfl) (qv 8) pe_int (fun _ _ => rfl)) (pa_cons (pe_bltn (v := .ty "str") rfl B.str bt_str rfl) pa_nil))))) (pw_or1 (pt_not (pt_trK (K := K) rfl (pe_fn G_w_whole (hr.mono (by decide)) (pa_cons (pe_ix (i_ixK (K := K) rfl) (qv 8) pe_int (fun _ _ => rfl)) pa_nil))))))))) (pss_one (ps_ret pe_bl)) pss_nil)
        (pss_one (ps_ret (pe_and2 (pe_c2 o_eq (pe_ix (i_ixK (K := K) rfl) (qv 8) pe_int (fun _ _ => rfl)) (pe_ix (i_ixK (K := K) rfl) (qv 7) pe_int (fun _ _ => rfl))) (pe_one (pe_c2 o_eq (pe_ix (i_ixK (K := K) rfl) (qv 8) pe_int (fun _ _ => rfl)) (pe_ix (i_ixK (K := K) rfl) (qv 7) pe_int (fun _ _ => rfl)))))))))))))))))), ?_⟩
    have hsz : sizeLine = 16777216 := sizeLine_eq
    simp only [L2.start, List.map_cons, List.map_nil, List.length_cons, List.length_nil, List.replicate_succ, List.replicate_zero, List.cons_append, List.nil_append, Nat.reduceAdd, Nat.reduceSub, Int.reduceLT, Int.reduceLE, true_and, and_true, decide_eq_true_eq, if_true, if_false, String.reduceEq, Bool.not_true, Bool.not_false, Bool.false_eq_true, decide_true, decide_false, List.set_cons_zero, List.set_cons_succ, gS, rVar, tC, tSeq, tNext, tAsg, gName, tRet, tRetN, tDrop, tIfS, tOp, tUn, tCB, tCons, tNil, tTup, tLst, tFn, tB2, tAnd, tOr, tNot, trV, tSl, tNoPart, pT, vAnd, vOr, vNot, addV, mulV, int2, int2', ltV, eqR, neR, sc, isV, isntV, negV, ixV, slV, lenV, isiV, isS, minV, maxV, joinV, tBM, tBM0, tyV, tFE, L_T, tRaise, tJoin, tJPart, tFmt, tTry, tH1, unb, tFnX, gSub, setV, isxV, rCat, rRep, rAppend, tCL, oneC, capS, gTup, gCons, gNil, tStrF, List.set_nil, sumV, tCP, tB, inT, eqN, strV, intW, fndV, prtV, stpV, List.append_nil, sp_w_cell_at, sp_w_stream]
    refine ⟨ns, hS, ns, hS, fun ps ss hps hss H1 sm1 h1 => ?_⟩
    have hss : ss.length = 6 := hss
    have aS : ∀ k : Nat, k < 6 → atI (ss.map V.int) (k : Int) = some (V.int (ss.getD k 0)) := fun k hk => by
      have := atI_int (l := ss) (i := (k : Int)) (by omega) (by omega)
      rw [Int.toNat_natCast] at this
      exact this
    generalize cellAt ns 1 = cell
    refine cutS (fun σ' H' => Same H1 H' ∧ ∃ p, RAt H' p ∧ σ' = [some (V.ref a), some (V.int cell), some (V.ref ps), some (V.ref p), none, none, none, none, none]) ?_ ?_
    · simp only [L2.start, List.map_cons, List.map_nil, List.length_cons, List.length_nil, List.replicate_succ, List.replicate_zero, List.cons_append, List.nil_append, Nat.reduceAdd, Nat.reduceSub, Int.reduceLT, Int.reduceLE, true_and, and_true, decide_eq_true_eq, if_true, if_false, String.reduceEq, Bool.not_true, Bool.not_false, Bool.false_eq_true, decide_true, decide_false, List.set_cons_zero, List.set_cons_succ, gS, rVar, tC, tSeq, tNext, tAsg, gName, tRet, tRetN, tDrop, tIfS, tOp, tUn, tCB, tCons, tNil, tTup, tLst, tFn, tB2, tAnd, tOr, tNot, trV, tSl, tNoPart, pT, vAnd, vOr, vNot, addV, mulV, int2, int2', ltV, eqR, neR, sc, isV, isntV, negV, ixV, slV, lenV, isiV, isS, minV, maxV, joinV, tBM, tBM0, tyV, tFE, L_T, tRaise, tJoin, tJPart, tFmt, tTry, tH1, unb, tFnX, gSub, setV, isxV, rCat, rRep, rAppend, tCL, oneC, capS, gTup, gCons, gNil, tStrF, List.set_nil, sumV, tCP, tB, inT, eqN, strV, intW, fndV, prtV, stpV, List.append_nil, sp_w_cell_at, sp_w_runs_by]
      exact ⟨ns, sm1.seq hS, ns, sm1.seq hS, hlen, fun p H2 sm2 ra => ⟨sm2, p, ra, rfl⟩⟩
    rintro _ H2 ⟨sm2, p, ra, rfl⟩
    have h2 := sm2 _ _ h1
    refine cutS (fun σ' H' => Same H2 H' ∧ ∃ p, RAt H' p ∧ σ' = [some (V.ref a), some (V.int cell), some (V.ref ps), some (V.ref p), none, none, none, none, none]) ?_ ?_
    · simp only [L2.start, List.map_cons, List.map_nil, List.length_cons, List.length_nil, List.replicate_succ, List.replicate_zero, List.cons_append, List.nil_append, Nat.reduceAdd, Nat.reduceSub, Int.reduceLT, Int.reduceLE, true_and, and_true, decide_eq_true_eq, if_true, if_false, String.reduceEq, Bool.not_true, Bool.not_false, Bool.false_eq_true, decide_true, decide_false, List.set_cons_zero, List.set_cons_succ, gS, rVar, tC, tSeq, tNext, tAsg, gName, tRet, tRetN, tDrop, tIfS, tOp, tUn, tCB, tCons, tNil, tTup, tLst, tFn, tB2, tAnd, tOr, tNot, trV, tSl, tNoPart, pT, vAnd, vOr, vNot, addV, mulV, int2, int2', ltV, eqR, neR, sc, isV, isntV, negV, ixV, slV, lenV, isiV, isS, minV, maxV, joinV, tBM, tBM0, tyV, tFE, L_T, tRaise, tJoin, tJPart, tFmt, tTry, tH1, unb, tFnX, gSub, setV, isxV, rCat, rRep, rAppend, tCL, oneC, capS, gTup, gCons, gNil, tStrF, List.set_nil, sumV, tCP, tB, inT, eqN, strV, intW, fndV, prtV, stpV, List.append_nil, modV, gtV]
      refine ⟨_, _, .inl (SqL.of h2), aS 4 (by decide), ?_⟩
      simp only [L2.start, List.map_cons, List.map_nil, List.length_cons, List.length_nil, List.replicate_succ, List.replicate_zero, List.cons_append, List.nil_append, Nat.reduceAdd, Nat.reduceSub, Int.reduceLT, Int.reduceLE, true_and, and_true, decide_eq_true_eq, if_true, if_false, String.reduceEq, Bool.not_true, Bool.not_false, Bool.false_eq_true, decide_true, decide_false, List.set_cons_zero, List.set_cons_succ, gS, rVar, tC, tSeq, tNext, tAsg, gName, tRet, tRetN, tDrop, tIfS, tOp, tUn, tCB, tCons, tNil, tTup, tLst, tFn, tB2, tAnd, tOr, tNot, trV, tSl, tNoPart, pT, vAnd, vOr, vNot, addV, mulV, int2, int2', ltV, eqR, neR, sc, isV, isntV, negV, ixV, slV, lenV, isiV, isS, minV, maxV, joinV, tBM, tBM0, tyV, tFE, L_T, tRaise, tJoin, tJPart, tFmt, tTry, tH1, unb, tFnX, gSub, setV, isxV, rCat, rRep, rAppend, tCL, oneC, capS, gTup, gCons, gNil, tStrF, List.set_nil, sumV, tCP, tB, inT, eqN, strV, intW, fndV, prtV, stpV, List.append_nil, modV]
      refine ite2 (fun _ => ⟨_, _, .inl (SqL.of h2), aS 4 (by decide), ?_⟩) fun _ => ⟨Same.refl _, p, ra, rfl⟩
      simp only [L2.start, List.map_cons, List.map_nil, List.length_cons, List.length_nil, List.replicate_succ, List.replicate_zero, List.cons_append, List.nil_append, Nat.reduceAdd, Nat.reduceSub, Int.reduceLT, Int.reduceLE, true_and, and_true, decide_eq_true_eq, if_true, if_false, String.reduceEq, Bool.not_true, Bool.not_false, Bool.false_eq_true, decide_true, decide_false, List.set_cons_zero, List.set_cons_succ, gS, rVar, tC, tSeq, tNext, tAsg, gName, tRet, tRetN, tDrop, tIfS, tOp, tUn, tCB, tCons, tNil, tTup, tLst, tFn, tB2, tAnd, tOr, tNot, trV, tSl, tNoPart, pT, vAnd, vOr, vNot, addV, mulV, int2, int2', ltV, eqR, neR, sc, isV, isntV, negV, ixV, slV, lenV, isiV, isS, minV, maxV, joinV, tBM, tBM0, tyV, tFE, L_T, tRaise, tJoin, tJPart, tFmt, tTry, tH1, unb, tFnX, gSub, setV, isxV, rCat, rRep, rAppend, tCL, oneC, capS, gTup, gCons, gNil, tStrF, List.set_nil, sumV, tCP, tB, inT, eqN, strV, intW, fndV, prtV, stpV, List.append_nil, modV, sp_w_fitted]
      exact ⟨ra, fun p3 H3 sm3 ra3 => ⟨sm3, p3, ra3, rfl⟩⟩
    clear ra
    rintro _ H3 ⟨sm3, p, ra, rfl⟩
    have ra' := ra
    obtain ⟨ts, hb, tl, ht⟩ := ra'
    refine cutS (fun σ' H' => Same H3 H' ∧ ∃ mn : Int, 0 ≤ mn ∧ mn ≤ 7500 ∧ σ' = [some (V.ref a), some (V.int cell), some (V.ref ps), some (V.ref p), some (V.int mn), none, none, none, none]) ?_ ?_
    · simp only [L2.start, List.map_cons, List.map_nil, List.length_cons, List.length_nil, List.replicate_succ, List.replicate_zero, List.cons_append, List.nil_append, Nat.reduceAdd, Nat.reduceSub, Int.reduceLT, Int.reduceLE, true_and, and_true, decide_eq_true_eq, if_true, if_false, String.reduceEq, Bool.not_true, Bool.not_false, Bool.false_eq_true, decide_true, decide_false, List.set_cons_zero, List.set_cons_succ, gS, rVar, tC, tSeq, tNext, tAsg, gName, tRet, tRetN, tDrop, tIfS, tOp, tUn, tCB, tCons, tNil, tTup, tLst, tFn, tB2, tAnd, tOr, tNot, trV, tSl, tNoPart, pT, vAnd, vOr, vNot, addV, mulV, int2, int2', ltV, eqR, neR, sc, isV, isntV, negV, ixV, slV, lenV, isiV, isS, minV, maxV, joinV, tBM, tBM0, tyV, tFE, L_T, tRaise, tJoin, tJPart, tFmt, tTry, tH1, unb, tFnX, gSub, setV, isxV, rCat, rRep, rAppend, tCL, oneC, capS, gTup, gCons, gNil, tStrF, List.set_nil, sumV, tCP, tB, inT, eqN, strV, intW, fndV, prtV, stpV, List.append_nil]
      refine ⟨_, SqL.of hb, by rw [List.length_map]; omega, fun i H2 acc => H2 = H3 ∧ ∃ ms : List Int, acc = ms.map V.int ∧ 0 ≤ ms.sum ∧ ms.sum ≤ 300 * i, ⟨rfl, [], rfl, Int.le_refl _, Int.le_refl _⟩, ?_, ?_, ?_⟩
      · rintro i H2 acc _ ⟨rfl, _⟩
        exact SqL.of hb
      · rintro i y H2 acc hy ⟨rfl, ms, rfl, m0, m1⟩
        rw [List.getElem?_map] at hy
        obtain ⟨t, et, rfl⟩ := Option.map_eq_some_iff.mp hy
        obtain ⟨d, n, e, n1, n2⟩ := ht t (List.mem_of_getElem? et)
        simp only [L2.start, List.map_cons, List.map_nil, List.length_cons, List.length_nil, List.replicate_succ, List.replicate_zero, List.cons_append, List.nil_append, Nat.reduceAdd, Nat.reduceSub, Int.reduceLT, Int.reduceLE, true_and, and_true, decide_eq_true_eq, if_true, if_false, String.reduceEq, Bool.not_true, Bool.not_false, Bool.false_eq_true, decide_true, decide_false, List.set_cons_zero, List.set_cons_succ, gS, rVar, tC, tSeq, tNext, tAsg, gName, tRet, tRetN, tDrop, tIfS, tOp, tUn, tCB, tCons, tNil, tTup, tLst, tFn, tB2, tAnd, tOr, tNot, trV, tSl, tNoPart, pT, vAnd, vOr, vNot, addV, mulV, int2, int2', ltV, eqR, neR, sc, isV, isntV, negV, ixV, slV, lenV, isiV, isS, minV, maxV, joinV, tBM, tBM0, tyV, tFE, L_T, tRaise, tJoin, tJPart, tFmt, tTry, tH1, unb, tFnX, gSub, setV, isxV, rCat, rRep, rAppend, tCL, oneC, capS, gTup, gCons, gNil, tStrF, List.set_nil, sumV, tCP, tB, inT, eqN, strV, intW, fndV, prtV, stpV, List.append_nil]
        refine ⟨_, _, .inr (SqT.of e), rfl, ms ++ [(n : Int)], by rw [List.map_append]; rfl, ?_, ?_⟩
        · rw [List.sum_append, List.sum_singleton]
          omega
        · rw [List.sum_append, List.sum_singleton]
          omega
      · rintro H2 acc ⟨rfl, ms, rfl, m0, m1⟩ l hl2
        rw [List.length_map] at m1
        refine ⟨ms, SqL.of upd_same, Same.updN hl2, _, m0, by omega, rfl⟩
    rintro _ H4 ⟨sm4, mn, m0, m1, rfl⟩
    have ra4 := ra.same sm4
    have h4 := sm4 _ _ (sm3 _ _ h2)
    have smA := ((sm1.trans sm2).trans sm3).trans sm4
    refine cutS (fun σ' H' => H' = H4 ∧ ∃ z : List Nat, z.length ≤ 2000 ∧ σ' = [some (V.ref a), some (V.int cell), some (V.ref ps), some (V.ref p), some (V.int mn), some (V.str (T z)), none, none, none]) ?_ ?_
    · simp only [L2.start, List.map_cons, List.map_nil, List.length_cons, List.length_nil, List.replicate_succ, List.replicate_zero, List.cons_append, List.nil_append, Nat.reduceAdd, Nat.reduceSub, Int.reduceLT, Int.reduceLE, true_and, and_true, decide_eq_true_eq, if_true, if_false, String.reduceEq, Bool.not_true, Bool.not_false, Bool.false_eq_true, decide_true, decide_false, List.set_cons_zero, List.set_cons_succ, gS, rVar, tC, tSeq, tNext, tAsg, gName, tRet, tRetN, tDrop, tIfS, tOp, tUn, tCB, tCons, tNil, tTup, tLst, tFn, tB2, tAnd, tOr, tNot, trV, tSl, tNoPart, pT, vAnd, vOr, vNot, addV, mulV, int2, int2', ltV, eqR, neR, sc, isV, isntV, negV, ixV, slV, lenV, isiV, isS, minV, maxV, joinV, tBM, tBM0, tyV, tFE, L_T, tRaise, tJoin, tJPart, tFmt, tTry, tH1, unb, tFnX, gSub, setV, isxV, rCat, rRep, rAppend, tCL, oneC, capS, gTup, gCons, gNil, tStrF, List.set_nil, sumV, tCP, tB, inT, eqN, strV, intW, fndV, prtV, stpV, List.append_nil, modV, sp_w_cell_at]
      have z0 := Int.emod_nonneg (cellAt ns 3) (b := mn + 1) (by omega)
      have z1 := Int.emod_lt_of_pos (cellAt ns 3) (b := mn + 1) (by omega)
      have lg : (cellAt ns 3 % (mn + 1)).natAbs.log2 < 1920 := log_lt z0 (by omega)
      exact ⟨ns, smA.seq hS, by omega, lg, _, Nat.le_trans (numL_len lg) (by decide), rfl⟩
    rintro _ H4 ⟨rfl, z, zl, rfl⟩
    refine cutS (fun σ' H' => Same H4 H' ∧ ∃ x : List Nat, x.length ≤ 1000000 ∧ σ' = [some (V.ref a), some (V.int cell), some (V.ref ps), some (V.ref p), some (V.int mn), some (V.str (T z)), some (V.str (T x)), none, none]) ?_ ?_
    · simp only [L2.start, List.map_cons, List.map_nil, List.length_cons, List.length_nil, List.replicate_succ, List.replicate_zero, List.cons_append, List.nil_append, Nat.reduceAdd, Nat.reduceSub, Int.reduceLT, Int.reduceLE, true_and, and_true, decide_eq_true_eq, if_true, if_false, String.reduceEq, Bool.not_true, Bool.not_false, Bool.false_eq_true, decide_true, decide_false, List.set_cons_zero, List.set_cons_succ, gS, rVar, tC, tSeq, tNext, tAsg, gName, tRet, tRetN, tDrop, tIfS, tOp, tUn, tCB, tCons, tNil, tTup, tLst, tFn, tB2, tAnd, tOr, tNot, trV, tSl, tNoPart, pT, vAnd, vOr, vNot, addV, mulV, int2, int2', ltV, eqR, neR, sc, isV, isntV, negV, ixV, slV, lenV, isiV, isS, minV, maxV, joinV, tBM, tBM0, tyV, tFE, L_T, tRaise, tJoin, tJPart, tFmt, tTry, tH1, unb, tFnX, gSub, setV, isxV, rCat, rRep, rAppend, tCL, oneC, capS, gTup, gCons, gNil, tStrF, List.set_nil, sumV, tCP, tB, inT, eqN, strV, intW, fndV, prtV, stpV, List.append_nil, modV]
      refine ⟨_, _, .inl (SqL.of h4), aS 5 (by decide), ?_⟩
      simp only [L2.start, List.map_cons, List.map_nil, List.length_cons, List.length_nil, List.replicate_succ, List.replicate_zero, List.cons_append, List.nil_append, Nat.reduceAdd, Nat.reduceSub, Int.reduceLT, Int.reduceLE, true_and, and_true, decide_eq_true_eq, if_true, if_false, String.reduceEq, Bool.not_true, Bool.not_false, Bool.false_eq_true, decide_true, decide_false, List.set_cons_zero, List.set_cons_succ, gS, rVar, tC, tSeq, tNext, tAsg, gName, tRet, tRetN, tDrop, tIfS, tOp, tUn, tCB, tCons, tNil, tTup, tLst, tFn, tB2, tAnd, tOr, tNot, trV, tSl, tNoPart, pT, vAnd, vOr, vNot, addV, mulV, int2, int2', ltV, eqR, neR, sc, isV, isntV, negV, ixV, slV, lenV, isiV, isS, minV, maxV, joinV, tBM, tBM0, tyV, tFE, L_T, tRaise, tJoin, tJPart, tFmt, tTry, tH1, unb, tFnX, gSub, setV, isxV, rCat, rRep, rAppend, tCL, oneC, capS, gTup, gCons, gNil, tStrF, List.set_nil, sumV, tCP, tB, inT, eqN, strV, intW, fndV, prtV, stpV, List.append_nil, modV, sp_w_spoilt]
      exact ⟨ss, zl, ra4, h4, hss, fun l hl H5 sm5 => ⟨sm5, l, hl, rfl⟩⟩
    rintro _ H5 ⟨sm5, x, xl, rfl⟩
    refine cutS (fun σ' H' => (∃ (pd : Addr) (h : Nat) (rs : List (Nat × Nat)), Pk x h rs ∧ H' pd = some (.tup [.str (T (flat rs)), .int (h : Int)]) ∧ σ' = [some (V.ref a), some (V.int cell), some (V.ref ps), some (V.ref p), some (V.int mn), some (V.str (T z)), some (V.str (T x)), some (V.ref pd), none]) ∨ ((∀ h rs, ¬ Pk x h rs) ∧ σ' = [some (V.ref a), some (V.int cell), some (V.ref ps), some (V.ref p), some (V.int mn), some (V.str (T z)), some (V.str (T x)), some V.non, none])) ?_ ?_
    · simp only [L2.start, List.map_cons, List.map_nil, List.length_cons, List.length_nil, List.replicate_succ, List.replicate_zero, List.cons_append, List.nil_append, Nat.reduceAdd, Nat.reduceSub, Int.reduceLT, Int.reduceLE, true_and, and_true, decide_eq_true_eq, if_true, if_false, String.reduceEq, Bool.not_true, Bool.not_false, Bool.false_eq_true, decide_true, decide_false, List.set_cons_zero, List.set_cons_succ, gS, rVar, tC, tSeq, tNext, tAsg, gName, tRet, tRetN, tDrop, tIfS, tOp, tUn, tCB, tCons, tNil, tTup, tLst, tFn, tB2, tAnd, tOr, tNot, trV, tSl, tNoPart, pT, vAnd, vOr, vNot, addV, mulV, int2, int2', ltV, eqR, neR, sc, isV, isntV, negV, ixV, slV, lenV, isiV, isS, minV, maxV, joinV, tBM, tBM0, tyV, tFE, L_T, tRaise, tJoin, tJPart, tFmt, tTry, tH1, unb, tFnX, gSub, setV, isxV, rCat, rRep, rAppend, tCL, oneC, capS, gTup, gCons, gNil, tStrF, List.set_nil, sumV, tCP, tB, inT, eqN, strV, intW, fndV, prtV, stpV, List.append_nil, sp_w_due]
      exact ⟨xl, fun h rs k pd H' sm hp h' => .inl ⟨pd, h, rs, k, h', rfl⟩, fun no H' sm => .inr no⟩
    rintro _ H6 (⟨pd, h, rs, k, hd, rfl⟩ | ⟨no, rfl⟩)
    · refine cutS (fun σ' H' => H' = H6 ∧ σ' = [some (V.ref a), some (V.int cell), some (V.ref ps), some (V.ref p), some (V.int mn), some (V.str (T z)), some (V.str (T x)), some (V.ref pd), none]) ?_ ?_
      · simp only [L2.start, List.map_cons, List.map_nil, List.length_cons, List.length_nil, List.replicate_succ, List.replicate_zero, List.cons_append, List.nil_append, Nat.reduceAdd, Nat.reduceSub, Int.reduceLT, Int.reduceLE, true_and, and_true, decide_eq_true_eq, if_true, if_false, String.reduceEq, Bool.not_true, Bool.not_false, Bool.false_eq_true, decide_true, decide_false, List.set_cons_zero, List.set_cons_succ, gS, rVar, tC, tSeq, tNext, tAsg, gName, tRet, tRetN, tDrop, tIfS, tOp, tUn, tCB, tCons, tNil, tTup, tLst, tFn, tB2, tAnd, tOr, tNot, trV, tSl, tNoPart, pT, vAnd, vOr, vNot, addV, mulV, int2, int2', ltV, eqR, neR, sc, isV, isntV, negV, ixV, slV, lenV, isiV, isS, minV, maxV, joinV, tBM, tBM0, tyV, tFE, L_T, tRaise, tJoin, tJPart, tFmt, tTry, tH1, unb, tFnX, gSub, setV, isxV, rCat, rRep, rAppend, tCL, oneC, capS, gTup, gCons, gNil, tStrF, List.set_nil, sumV, tCP, tB, inT, eqN, strV, intW, fndV, prtV, stpV, List.append_nil]
        exact ite2 (fun w => by cases w) fun _ => trivial
      rintro _ H6 ⟨rfl, rfl⟩
      refine cutS (fun σ' H' => Same H6 H' ∧ ∃ pf, H' pf = some (.tup [.str (T (flat rs)), .int (h : Int)]) ∧ σ' = [some (V.ref a), some (V.int cell), some (V.ref ps), some (V.ref p), some (V.int mn), some (V.str (T z)), some (V.str (T x)), some (V.ref pd), some (V.ref pf)]) ?_ ?_
      · simp only [L2.start, List.map_cons, List.map_nil, List.length_cons, List.length_nil, List.replicate_succ, List.replicate_zero, List.cons_append, List.nil_append, Nat.reduceAdd, Nat.reduceSub, Int.reduceLT, Int.reduceLE, true_and, and_true, decide_eq_true_eq, if_true, if_false, String.reduceEq, Bool.not_true, Bool.not_false, Bool.false_eq_true, decide_true, decide_false, List.set_cons_zero, List.set_cons_succ, gS, rVar, tC, tSeq, tNext, tAsg, gName, tRet, tRetN, tDrop, tIfS, tOp, tUn, tCB, tCons, tNil, tTup, tLst, tFn, tB2, tAnd, tOr, tNot, trV, tSl, tNoPart, pT, vAnd, vOr, vNot, addV, mulV, int2, int2', ltV, eqR, neR, sc, isV, isntV, negV, ixV, slV, lenV, isiV, isS, minV, maxV, joinV, tBM, tBM0, tyV, tFE, L_T, tRaise, tJoin, tJPart, tFmt, tTry, tH1, unb, tFnX, gSub, setV, isxV, rCat, rRep, rAppend, tCL, oneC, capS, gTup, gCons, gNil, tStrF, List.set_nil, sumV, tCP, tB, inT, eqN, strV, intW, fndV, prtV, stpV, List.append_nil, sp_p_unpacked]
        refine ⟨xl, fun h' rs' k' pf H' sm hp hf => ?_, fun no => absurd k (no h rs)⟩
        obtain ⟨e1, e2⟩ := pk_unique k k'
        subst e1 e2
        exact ⟨sm, pf, hf, rfl⟩
      rintro _ H7 ⟨sm7, pf, hf, rfl⟩
      have hd7 := sm7 _ _ hd
      simp only [L2.start, List.map_cons, List.map_nil, List.length_cons, List.length_nil, List.replicate_succ, List.replicate_zero, List.cons_append, List.nil_append, Nat.reduceAdd, Nat.reduceSub, Int.reduceLT, Int.reduceLE, true_and, and_true, decide_eq_true_eq, if_true, if_false, String.reduceEq, Bool.not_true, Bool.not_false, Bool.false_eq_true, decide_true, decide_false, List.set_cons_zero, List.set_cons_succ, gS, rVar, tC, tSeq, tNext, tAsg, gName, tRet, tRetN, tDrop, tIfS, tOp, tUn, tCB, tCons, tNil, tTup, tLst, tFn, tB2, tAnd, tOr, tNot, trV, tSl, tNoPart, pT, vAnd, vOr, vNot, addV, mulV, int2, int2', ltV, eqR, neR, sc, isV, isntV, negV, ixV, slV, lenV, isiV, isS, minV, maxV, joinV, tBM, tBM0, tyV, tFE, L_T, tRaise, tJoin, tJPart, tFmt, tTry, tH1, unb, tFnX, gSub, setV, isxV, rCat, rRep, rAppend, tCL, oneC, capS, gTup, gCons, gNil, tStrF, List.set_nil, sumV, tCP, tB, inT, eqN, strV, intW, fndV, prtV, stpV, List.append_nil]
      refine ⟨true, _, .tup hf, rfl, iteF ⟨_, .inr (SqT.of hf), iteF ⟨_, _, .inr (SqT.of hf), rfl, ?_⟩⟩⟩
      simp only [L2.start, List.map_cons, List.map_nil, List.length_cons, List.length_nil, List.replicate_succ, List.replicate_zero, List.cons_append, List.nil_append, Nat.reduceAdd, Nat.reduceSub, Int.reduceLT, Int.reduceLE, true_and, and_true, decide_eq_true_eq, if_true, if_false, String.reduceEq, Bool.not_true, Bool.not_false, Bool.false_eq_true, decide_true, decide_false, List.set_cons_zero, List.set_cons_succ, gS, rVar, tC, tSeq, tNext, tAsg, gName, tRet, tRetN, tDrop, tIfS, tOp, tUn, tCB, tCons, tNil, tTup, tLst, tFn, tB2, tAnd, tOr, tNot, trV, tSl, tNoPart, pT, vAnd, vOr, vNot, addV, mulV, int2, int2', ltV, eqR, neR, sc, isV, isntV, negV, ixV, slV, lenV, isiV, isS, minV, maxV, joinV, tBM, tBM0, tyV, tFE, L_T, tRaise, tJoin, tJPart, tFmt, tTry, tH1, unb, tFnX, gSub, setV, isxV, rCat, rRep, rAppend, tCL, oneC, capS, gTup, gCons, gNil, tStrF, List.set_nil, sumV, tCP, tB, inT, eqN, strV, intW, fndV, prtV, stpV, List.append_nil]
      refine ⟨_, _, .inr (SqT.of hf), rfl, ?_⟩
      simp only [L2.start, List.map_cons, List.map_nil, List.length_cons, List.length_nil, List.replicate_succ, List.replicate_zero, List.cons_append, List.nil_append, Nat.reduceAdd, Nat.reduceSub, Int.reduceLT, Int.reduceLE, true_and, and_true, decide_eq_true_eq, if_true, if_false, String.reduceEq, Bool.not_true, Bool.not_false, Bool.false_eq_true, decide_true, decide_false, List.set_cons_zero, List.set_cons_succ, gS, rVar, tC, tSeq, tNext, tAsg, gName, tRet, tRetN, tDrop, tIfS, tOp, tUn, tCB, tCons, tNil, tTup, tLst, tFn, tB2, tAnd, tOr, tNot, trV, tSl, tNoPart, pT, vAnd, vOr, vNot, addV, mulV, int2, int2', ltV, eqR, neR, sc, isV, isntV, negV, ixV, slV, lenV, isiV, isS, minV, maxV, joinV, tBM, tBM0, tyV, tFE, L_T, tRaise, tJoin, tJPart, tFmt, tTry, tH1, unb, tFnX, gSub, setV, isxV, rCat, rRep, rAppend, tCL, oneC, capS, gTup, gCons, gNil, tStrF, List.set_nil, sumV, tCP, tB, inT, eqN, strV, intW, fndV, prtV, stpV, List.append_nil, sp_w_whole]
      refine ⟨_, _, .inr (SqT.of hf), rfl, _, _, .inr (SqT.of hd7), rfl, ?_⟩
      simp only [L2.start, List.map_cons, List.map_nil, List.length_cons, List.length_nil, List.replicate_succ, List.replicate_zero, List.cons_append, List.nil_append, Nat.reduceAdd, Nat.reduceSub, Int.reduceLT, Int.reduceLE, true_and, and_true, decide_eq_true_eq, if_true, if_false, String.reduceEq, Bool.not_true, Bool.not_false, Bool.false_eq_true, decide_true, decide_false, List.set_cons_zero, List.set_cons_succ, gS, rVar, tC, tSeq, tNext, tAsg, gName, tRet, tRetN, tDrop, tIfS, tOp, tUn, tCB, tCons, tNil, tTup, tLst, tFn, tB2, tAnd, tOr, tNot, trV, tSl, tNoPart, pT, vAnd, vOr, vNot, addV, mulV, int2, int2', ltV, eqR, neR, sc, isV, isntV, negV, ixV, slV, lenV, isiV, isS, minV, maxV, joinV, tBM, tBM0, tyV, tFE, L_T, tRaise, tJoin, tJPart, tFmt, tTry, tH1, unb, tFnX, gSub, setV, isxV, rCat, rRep, rAppend, tCL, oneC, capS, gTup, gCons, gNil, tStrF, List.set_nil, sumV, tCP, tB, inT, eqN, strV, intW, fndV, prtV, stpV, List.append_nil]
      refine ⟨_, _, .inr (SqT.of hf), rfl, _, _, .inr (SqT.of hd7), rfl, ?_⟩
      simp only [L2.start, List.map_cons, List.map_nil, List.length_cons, List.length_nil, List.replicate_succ, List.replicate_zero, List.cons_append, List.nil_append, Nat.reduceAdd, Nat.reduceSub, Int.reduceLT, Int.reduceLE, true_and, and_true, decide_eq_true_eq, if_true, if_false, String.reduceEq, Bool.not_true, Bool.not_false, Bool.false_eq_true, decide_true, decide_false, List.set_cons_zero, List.set_cons_succ, gS, rVar, tC, tSeq, tNext, tAsg, gName, tRet, tRetN, tDrop, tIfS, tOp, tUn, tCB, tCons, tNil, tTup, tLst, tFn, tB2, tAnd, tOr, tNot, trV, tSl, tNoPart, pT, vAnd, vOr, vNot, addV, mulV, int2, int2', ltV, eqR, neR, sc, isV, isntV, negV, ixV, slV, lenV, isiV, isS, minV, maxV, joinV, tBM, tBM0, tyV, tFE, L_T, tRaise, tJoin, tJPart, tFmt, tTry, tH1, unb, tFnX, gSub, setV, isxV, rCat, rRep, rAppend, tCL, oneC, capS, gTup, gCons, gNil, tStrF, List.set_nil, sumV, tCP, tB, inT, eqN, strV, intW, fndV, prtV, stpV, List.append_nil]
      exact q _
    · refine cutS (fun σ' H' => False) ?_ ?_
      · simp only [L2.start, List.map_cons, List.map_nil, List.length_cons, List.length_nil, List.replicate_succ, List.replicate_zero, List.cons_append, List.nil_append, Nat.reduceAdd, Nat.reduceSub, Int.reduceLT, Int.reduceLE, true_and, and_true, decide_eq_true_eq, if_true, if_false, String.reduceEq, Bool.not_true, Bool.not_false, Bool.false_eq_true, decide_true, decide_false, List.set_cons_zero, List.set_cons_succ, gS, rVar, tC, tSeq, tNext, tAsg, gName, tRet, tRetN, tDrop, tIfS, tOp, tUn, tCB, tCons, tNil, tTup, tLst, tFn, tB2, tAnd, tOr, tNot, trV, tSl, tNoPart, pT, vAnd, vOr, vNot, addV, mulV, int2, int2', ltV, eqR, neR, sc, isV, isntV, negV, ixV, slV, lenV, isiV, isS, minV, maxV, joinV, tBM, tBM0, tyV, tFE, L_T, tRaise, tJoin, tJPart, tFmt, tTry, tH1, unb, tFnX, gSub, setV, isxV, rCat, rRep, rAppend, tCL, oneC, capS, gTup, gCons, gNil, tStrF, List.set_nil, sumV, tCP, tB, inT, eqN, strV, intW, fndV, prtV, stpV, List.append_nil, sp_w_refused]
        exact ⟨xl, no, fun H' _ => q _⟩
      rintro _ _ ⟨⟩
end
theorem all_mk {l : PySem.W.OpenLaw} {w : World} {K : PySem.W.Frag} {h : Heap} {mg : Str → Option Value} {fa f_p_check_place f_p_number_in f_p_runs_of f_p_packed f_p_read_runs f_p_unpacked f_w_cell_at f_w_stream f_w_sign f_w_whole f_w_runs_by f_w_fitted f_w_written f_w_spoilt f_w_number f_w_due f_w_refused f_law e_BackError e_NoPlace e_NoText e_NoName e_NoRow : Addr} (X : K.In h) (G : h.Ns mainGlobals mg) (hfa : mg "law" = some (.ref fa))
    {od_d0 an_d0 od_d1 an_d1 od_d2 an_d2 od_d3 an_d3 od_d4 an_d4 od_d5 an_d5 od_d6 an_d6 od_d7 an_d7 od_d8 an_d8 od_d9 an_d9 od_d10 an_d10 od_d11 an_d11 od_d12 an_d12 od_d13 an_d13 od_d14 an_d14 od_d15 an_d15 od_d16 an_d16 od_d17 an_d17 : Option Addr} {sl_d0 sl_d1 sl_d2 sl_d3 sl_d4 sl_d5 sl_d6 sl_d7 sl_d8 sl_d9 sl_d10 sl_d11 sl_d12 sl_d13 sl_d14 sl_d15 sl_d16 sl_d17 : Array (Option Value)} {oc_d0 kV_d0 dc_d0 pm_d0 ct_d0 cd_d0 oc_d1 kV_d1 dc_d1 pm_d1 ct_d1 cd_d1 oc_d2 kV_d2 dc_d2 pm_d2 ct_d2 cd_d2 oc_d3 kV_d3 dc_d3 pm_d3 ct_d3 cd_d3 oc_d4 kV_d4 dc_d4 pm_d4 ct_d4 cd_d4 oc_d5 kV_d5 dc_d5 pm_d5 ct_d5 cd_d5 oc_d6 kV_d6 dc_d6 pm_d6 ct_d6 cd_d6 oc_d7 kV_d7 dc_d7 pm_d7 ct_d7 cd_d7 oc_d8 kV_d8 dc_d8 pm_d8 ct_d8 cd_d8 oc_d9 kV_d9 dc_d9 pm_d9 ct_d9 cd_d9 oc_d10 kV_d10 dc_d10 pm_d10 ct_d10 cd_d10 oc_d11 kV_d11 dc_d11 pm_d11 ct_d11 cd_d11 oc_d12 kV_d12 dc_d12 pm_d12 ct_d12 cd_d12 oc_d13 kV_d13 dc_d13 pm_d13 ct_d13 cd_d13 oc_d14 kV_d14 dc_d14 pm_d14 ct_d14 cd_d14 oc_d15 kV_d15 dc_d15 pm_d15 ct_d15 cd_d15 oc_d16 kV_d16 dc_d16 pm_d16 ct_d16 cd_d16 oc_d17 kV_d17 dc_d17 pm_d17 ct_d17 cd_d17 : Value}
    (a_d0 : PySem.W.nsIn K mainGlobals "check_place" = some (some (.ref f_p_check_place))) (l_d0 : K.lookup f_p_check_place = some ⟨oc_d0, od_d0, .func (PySem.W.fnOf "check_place" "check_place" (defArgs s_p_check_place) (defBody s_p_check_place) (defScope s_p_check_place) .none kV_d0 dc_d0 pm_d0 an_d0 cd_d0 ct_d0), sl_d0⟩) (c_d0 : PySem.W.codeIn K cd_d0 "check_place" = true) (k_d0 : PySem.W.keepIn K (.ref f_p_check_place) = true)
    (a_d1 : PySem.W.nsIn K mainGlobals "number_in" = some (some (.ref f_p_number_in))) (l_d1 : K.lookup f_p_number_in = some ⟨oc_d1, od_d1, .func (PySem.W.fnOf "number_in" "number_in" (defArgs s_p_number_in) (defBody s_p_number_in) (defScope s_p_number_in) .none kV_d1 dc_d1 pm_d1 an_d1 cd_d1 ct_d1), sl_d1⟩) (c_d1 : PySem.W.codeIn K cd_d1 "number_in" = true) (k_d1 : PySem.W.keepIn K (.ref f_p_number_in) = true)
    (a_d2 : PySem.W.nsIn K mainGlobals "runs_of" = some (some (.ref f_p_runs_of))) (l_d2 : K.lookup f_p_runs_of = some ⟨oc_d2, od_d2, .func (PySem.W.fnOf "runs_of" "runs_of" (defArgs s_p_runs_of) (defBody s_p_runs_of) (defScope s_p_runs_of) .none kV_d2 dc_d2 pm_d2 an_d2 cd_d2 ct_d2), sl_d2⟩) (c_d2 : PySem.W.codeIn K cd_d2 "runs_of" = true) (k_d2 : PySem.W.keepIn K (.ref f_p_runs_of) = true)
    (a_d3 : PySem.W.nsIn K mainGlobals "packed" = some (some (.ref f_p_packed))) (l_d3 : K.lookup f_p_packed = some ⟨oc_d3, od_d3, .func (PySem.W.fnOf "packed" "packed" (defArgs s_p_packed) (defBody s_p_packed) (defScope s_p_packed) .none kV_d3 dc_d3 pm_d3 an_d3 cd_d3 ct_d3), sl_d3⟩) (c_d3 : PySem.W.codeIn K cd_d3 "packed" = true) (k_d3 : PySem.W.keepIn K (.ref f_p_packed) = true)
    (a_d4 : PySem.W.nsIn K mainGlobals "read_runs" = some (some (.ref f_p_read_runs))) (l_d4 : K.lookup f_p_read_runs = some ⟨oc_d4, od_d4, .func (PySem.W.fnOf "read_runs" "read_runs" (defArgs s_p_read_runs) (defBody s_p_read_runs) (defScope s_p_read_runs) .none kV_d4 dc_d4 pm_d4 an_d4 cd_d4 ct_d4), sl_d4⟩) (c_d4 : PySem.W.codeIn K cd_d4 "read_runs" = true) (k_d4 : PySem.W.keepIn K (.ref f_p_read_runs) = true)
    (a_d5 : PySem.W.nsIn K mainGlobals "unpacked" = some (some (.ref f_p_unpacked))) (l_d5 : K.lookup f_p_unpacked = some ⟨oc_d5, od_d5, .func (PySem.W.fnOf "unpacked" "unpacked" (defArgs s_p_unpacked) (defBody s_p_unpacked) (defScope s_p_unpacked) .none kV_d5 dc_d5 pm_d5 an_d5 cd_d5 ct_d5), sl_d5⟩) (c_d5 : PySem.W.codeIn K cd_d5 "unpacked" = true) (k_d5 : PySem.W.keepIn K (.ref f_p_unpacked) = true)
    (a_d6 : PySem.W.nsIn K mainGlobals "_law_cell_at" = some (some (.ref f_w_cell_at))) (l_d6 : K.lookup f_w_cell_at = some ⟨oc_d6, od_d6, .func (PySem.W.fnOf "_law_cell_at" "_law_cell_at" (defArgs s_w_cell_at) (defBody s_w_cell_at) (defScope s_w_cell_at) .none kV_d6 dc_d6 pm_d6 an_d6 cd_d6 ct_d6), sl_d6⟩) (c_d6 : PySem.W.codeIn K cd_d6 "_law_cell_at" = true) (k_d6 : PySem.W.keepIn K (.ref f_w_cell_at) = true)
    (a_d7 : PySem.W.nsIn K mainGlobals "_law_stream" = some (some (.ref f_w_stream))) (l_d7 : K.lookup f_w_stream = some ⟨oc_d7, od_d7, .func (PySem.W.fnOf "_law_stream" "_law_stream" (defArgs s_w_stream) (defBody s_w_stream) (defScope s_w_stream) .none kV_d7 dc_d7 pm_d7 an_d7 cd_d7 ct_d7), sl_d7⟩) (c_d7 : PySem.W.codeIn K cd_d7 "_law_stream" = true) (k_d7 : PySem.W.keepIn K (.ref f_w_stream) = true)
    (a_d8 : PySem.W.nsIn K mainGlobals "_law_sign" = some (some (.ref f_w_sign))) (l_d8 : K.lookup f_w_sign = some ⟨oc_d8, od_d8, .func (PySem.W.fnOf "_law_sign" "_law_sign" (defArgs s_w_sign) (defBody s_w_sign) (defScope s_w_sign) .none kV_d8 dc_d8 pm_d8 an_d8 cd_d8 ct_d8), sl_d8⟩) (c_d8 : PySem.W.codeIn K cd_d8 "_law_sign" = true) (k_d8 : PySem.W.keepIn K (.ref f_w_sign) = true)
    (a_d9 : PySem.W.nsIn K mainGlobals "_law_whole" = some (some (.ref f_w_whole))) (l_d9 : K.lookup f_w_whole = some ⟨oc_d9, od_d9, .func (PySem.W.fnOf "_law_whole" "_law_whole" (defArgs s_w_whole) (defBody s_w_whole) (defScope s_w_whole) .none kV_d9 dc_d9 pm_d9 an_d9 cd_d9 ct_d9), sl_d9⟩) (c_d9 : PySem.W.codeIn K cd_d9 "_law_whole" = true) (k_d9 : PySem.W.keepIn K (.ref f_w_whole) = true)
    (a_d10 : PySem.W.nsIn K mainGlobals "_law_runs_by" = some (some (.ref f_w_runs_by))) (l_d10 : K.lookup f_w_runs_by = some ⟨oc_d10, od_d10, .func (PySem.W.fnOf "_law_runs_by" "_law_runs_by" (defArgs s_w_runs_by) (defBody s_w_runs_by) (defScope s_w_runs_by) .none kV_d10 dc_d10 pm_d10 an_d10 cd_d10 ct_d10), sl_d10⟩) (c_d10 : PySem.W.codeIn K cd_d10 "_law_runs_by" = true) (k_d10 : PySem.W.keepIn K (.ref f_w_runs_by) = true)
    (a_d11 : PySem.W.nsIn K mainGlobals "_law_fitted" = some (some (.ref f_w_fitted))) (l_d11 : K.lookup f_w_fitted = some ⟨oc_d11, od_d11, .func (PySem.W.fnOf "_law_fitted" "_law_fitted" (defArgs s_w_fitted) (defBody s_w_fitted) (defScope s_w_fitted) .none kV_d11 dc_d11 pm_d11 an_d11 cd_d11 ct_d11), sl_d11⟩) (c_d11 : PySem.W.codeIn K cd_d11 "_law_fitted" = true) (k_d11 : PySem.W.keepIn K (.ref f_w_fitted) = true)
    (a_d12 : PySem.W.nsIn K mainGlobals "_law_written" = some (some (.ref f_w_written))) (l_d12 : K.lookup f_w_written = some ⟨oc_d12, od_d12, .func (PySem.W.fnOf "_law_written" "_law_written" (defArgs s_w_written) (defBody s_w_written) (defScope s_w_written) .none kV_d12 dc_d12 pm_d12 an_d12 cd_d12 ct_d12), sl_d12⟩) (c_d12 : PySem.W.codeIn K cd_d12 "_law_written" = true) (k_d12 : PySem.W.keepIn K (.ref f_w_written) = true)
    (a_d13 : PySem.W.nsIn K mainGlobals "_law_spoilt" = some (some (.ref f_w_spoilt))) (l_d13 : K.lookup f_w_spoilt = some ⟨oc_d13, od_d13, .func (PySem.W.fnOf "_law_spoilt" "_law_spoilt" (defArgs s_w_spoilt) (defBody s_w_spoilt) (defScope s_w_spoilt) .none kV_d13 dc_d13 pm_d13 an_d13 cd_d13 ct_d13), sl_d13⟩) (c_d13 : PySem.W.codeIn K cd_d13 "_law_spoilt" = true) (k_d13 : PySem.W.keepIn K (.ref f_w_spoilt) = true)
    (a_d14 : PySem.W.nsIn K mainGlobals "_law_number" = some (some (.ref f_w_number))) (l_d14 : K.lookup f_w_number = some ⟨oc_d14, od_d14, .func (PySem.W.fnOf "_law_number" "_law_number" (defArgs s_w_number) (defBody s_w_number) (defScope s_w_number) .none kV_d14 dc_d14 pm_d14 an_d14 cd_d14 ct_d14), sl_d14⟩) (c_d14 : PySem.W.codeIn K cd_d14 "_law_number" = true) (k_d14 : PySem.W.keepIn K (.ref f_w_number) = true)
    (a_d15 : PySem.W.nsIn K mainGlobals "_law_due" = some (some (.ref f_w_due))) (l_d15 : K.lookup f_w_due = some ⟨oc_d15, od_d15, .func (PySem.W.fnOf "_law_due" "_law_due" (defArgs s_w_due) (defBody s_w_due) (defScope s_w_due) .none kV_d15 dc_d15 pm_d15 an_d15 cd_d15 ct_d15), sl_d15⟩) (c_d15 : PySem.W.codeIn K cd_d15 "_law_due" = true) (k_d15 : PySem.W.keepIn K (.ref f_w_due) = true)
    (a_d16 : PySem.W.nsIn K mainGlobals "_law_refused" = some (some (.ref f_w_refused))) (l_d16 : K.lookup f_w_refused = some ⟨oc_d16, od_d16, .func (PySem.W.fnOf "_law_refused" "_law_refused" (defArgs s_w_refused) (defBody s_w_refused) (defScope s_w_refused) .none kV_d16 dc_d16 pm_d16 an_d16 cd_d16 ct_d16), sl_d16⟩) (c_d16 : PySem.W.codeIn K cd_d16 "_law_refused" = true) (k_d16 : PySem.W.keepIn K (.ref f_w_refused) = true)
    (a_d17 : PySem.W.nsIn K mainGlobals "law" = some (some (.ref f_law))) (l_d17 : K.lookup f_law = some ⟨oc_d17, od_d17, .func (PySem.W.fnOf "law" "law" (defArgs s_law) (defBody s_law) (defScope s_law) .none kV_d17 dc_d17 pm_d17 an_d17 cd_d17 ct_d17), sl_d17⟩) (c_d17 : PySem.W.codeIn K cd_d17 "law" = true) (k_d17 : PySem.W.keepIn K (.ref f_law) = true)
    (m_BackError : PySem.W.nsIn K mainGlobals "BackError" = some (some (.ref e_BackError)))
    (x_BackError : PySem.W.excIn K e_BackError VE "ValueError.__new__" = true)
    (m_NoPlace : PySem.W.nsIn K mainGlobals "NoPlace" = some (some (.ref e_NoPlace)))
    (x_NoPlace : PySem.W.excIn K e_NoPlace VE "ValueError.__new__" = true)
    (m_NoText : PySem.W.nsIn K mainGlobals "NoText" = some (some (.ref e_NoText)))
    (m_NoName : PySem.W.nsIn K mainGlobals "NoName" = some (some (.ref e_NoName)))
    (m_NoRow : PySem.W.nsIn K mainGlobals "NoRow" = some (some (.ref e_NoRow)))
    (x_NoRow : PySem.W.excIn K e_NoRow VE "ValueError.__new__" = true)
    (g1_NoRow : PySem.W.findIn K (.ref e_NoRow) "__getattribute__" = some (some (.builtin "BaseException.__getattribute__"))) (g2_NoRow : PySem.W.findIn K (.ref e_NoRow) "__getattr__" = some none) (g3_NoRow : PySem.W.findIn K (.ref e_NoRow) "__class__" = some (some (.builtin "object.__class__")))
    (g4_NoRow : PySem.W.specialIn K (.builtin "object.__class__") "__get__" = some (some (.builtin "getset_descriptor.__get__"))) (g5_NoRow : PySem.W.takesIn K (.builtin "object.__class__") = some true) (g6_NoRow : PySem.W.mroIn K e_NoRow (.type "object") = some true) (g7_NoRow : PySem.W.mroIn K e_NoRow (.type "BaseException") = some true)
    (v_NoRow : PySem.W.kitOne K (.ref e_NoRow) (.type "ValueError") = some true)
    (r_NoRow_BackError : PySem.W.mroIn K e_NoRow (.ref e_BackError) = some true)
    (t_NoRow_NoText : PySem.W.kitOne K (.ref e_NoRow) (.ref e_NoText) = some false)
    (t_NoRow_NoName : PySem.W.kitOne K (.ref e_NoRow) (.ref e_NoName) = some false)
    (t_NoRow_NoRow : PySem.W.kitOne K (.ref e_NoRow) (.ref e_NoRow) = some true)
    {tk_MOST_SIGNS : Tok} (gc_MOST_SIGNS : PySem.W.nsIn K mainGlobals "MOST_SIGNS" = some (some (.int 300 tk_MOST_SIGNS)))
    (z_ValueError : PySem.W.nsIn K mainGlobals "ValueError" = some none)
    (z_bool : PySem.W.nsIn K mainGlobals "bool" = some none)
    (z_int : PySem.W.nsIn K mainGlobals "int" = some none)
    (z_isinstance : PySem.W.nsIn K mainGlobals "isinstance" = some none)
    (z_len : PySem.W.nsIn K mainGlobals "len" = some none)
    (z_max : PySem.W.nsIn K mainGlobals "max" = some none)
    (z_min : PySem.W.nsIn K mainGlobals "min" = some none)
    (z_range : PySem.W.nsIn K mainGlobals "range" = some none)
    (z_str : PySem.W.nsIn K mainGlobals "str" = some none)
    (z_sum : PySem.W.nsIn K mainGlobals "sum" = some none)
    (z_tuple : PySem.W.nsIn K mainGlobals "tuple" = some none)
    : ∃ fd : FuncData, (∀ (s : Shared) (v : Value), BindsTo s fd ⟨[v], []⟩ [("_law_script", v)]) ∧ ∀ base : Heap, K.In base → base.Ns mainGlobals mg → FnOk l.prog w K mg base CX0 5 fa fd P_law (sp_law K) := by
  have e := hfa.symm.trans (PySem.W.mg_of X G a_d17)
  cases e
  have B : Bn mg := ⟨PySem.W.mg_none_of X G z_ValueError, PySem.W.mg_none_of X G z_bool, PySem.W.mg_none_of X G z_int, PySem.W.mg_none_of X G z_isinstance, PySem.W.mg_none_of X G z_len, PySem.W.mg_none_of X G z_max, PySem.W.mg_none_of X G z_min, PySem.W.mg_none_of X G z_range, PySem.W.mg_none_of X G z_str, PySem.W.mg_none_of X G z_sum, PySem.W.mg_none_of X G z_tuple⟩
  have ER : Er K mg ⟨e_BackError, e_NoPlace, e_NoText, e_NoName, e_NoRow⟩ := ⟨PySem.W.mg_of X G m_BackError, x_BackError, PySem.W.mg_of X G m_NoPlace, x_NoPlace, PySem.W.mg_of X G m_NoText, PySem.W.mg_of X G m_NoName, PySem.W.mg_of X G m_NoRow, x_NoRow, ⟨g1_NoRow, g2_NoRow, g3_NoRow, g4_NoRow, g5_NoRow, g6_NoRow, g7_NoRow⟩, v_NoRow, mro_at r_NoRow_BackError, t_NoRow_NoText, t_NoRow_NoName, t_NoRow_NoRow⟩
  have GC : Gc mg := ⟨⟨_, PySem.W.mg_of X G gc_MOST_SIGNS⟩⟩
  have F_d0 := fun_mk (st := s_p_check_place) l_d0 c_d0 k_d0
  have F_d1 := fun_mk (st := s_p_number_in) l_d1 c_d1 k_d1
  have F_d2 := fun_mk (st := s_p_runs_of) l_d2 c_d2 k_d2
  have F_d3 := fun_mk (st := s_p_packed) l_d3 c_d3 k_d3
  have F_d4 := fun_mk (st := s_p_read_runs) l_d4 c_d4 k_d4
  have F_d5 := fun_mk (st := s_p_unpacked) l_d5 c_d5 k_d5
  have F_d6 := fun_mk (st := s_w_cell_at) l_d6 c_d6 k_d6
  have F_d7 := fun_mk (st := s_w_stream) l_d7 c_d7 k_d7
  have F_d8 := fun_mk (st := s_w_sign) l_d8 c_d8 k_d8
  have F_d9 := fun_mk (st := s_w_whole) l_d9 c_d9 k_d9
  have F_d10 := fun_mk (st := s_w_runs_by) l_d10 c_d10 k_d10
  have F_d11 := fun_mk (st := s_w_fitted) l_d11 c_d11 k_d11
  have F_d12 := fun_mk (st := s_w_written) l_d12 c_d12 k_d12
  have F_d13 := fun_mk (st := s_w_spoilt) l_d13 c_d13 k_d13
  have F_d14 := fun_mk (st := s_w_number) l_d14 c_d14 k_d14
  have F_d15 := fun_mk (st := s_w_due) l_d15 c_d15 k_d15
  have F_d16 := fun_mk (st := s_w_refused) l_d16 c_d16 k_d16
  have F_d17 := fun_mk (st := s_law) l_d17 c_d17 k_d17
  refine ⟨PySem.W.fnOf "law" "law" (defArgs s_law) (defBody s_law) (defScope s_law) .none kV_d17 dc_d17 pm_d17 an_d17 cd_d17 ct_d17, fun s v => .of_eq rfl, fun base kb nb => ?_⟩
  have b_d1 := F_d1.binds (ps := P_p_number_in) fun _ _ _ _ _ _ us hl => match us, hl with | [_], _ => rfl
  have G_p_number_in : FnX l.prog w K mg base 1 "number_in" P_p_number_in (sp_p_number_in K ⟨e_BackError, e_NoPlace, e_NoText, e_NoName, e_NoRow⟩) := ⟨⟨f_p_number_in, _, ok_p_number_in F_d1 B ER GC , PySem.W.mg_of X G a_d1, k_d1, b_d1⟩⟩
  have b_d0 := F_d0.binds (ps := P_p_check_place) fun _ _ _ _ _ _ us hl => match us, hl with | [_, _], _ => rfl
  have G_p_check_place : FnX l.prog w K mg base 1 "check_place" P_p_check_place (sp_p_check_place K ⟨e_BackError, e_NoPlace, e_NoText, e_NoName, e_NoRow⟩) := ⟨⟨f_p_check_place, _, ok_p_check_place F_d0 B ER GC , PySem.W.mg_of X G a_d0, k_d0, b_d0⟩⟩
  have b_d2 := F_d2.binds (ps := P_p_runs_of) fun _ _ _ _ _ _ us hl => match us, hl with | [_], _ => rfl
  have G_p_runs_of : Fn l.prog w K mg base 1 "runs_of" P_p_runs_of (sp_p_runs_of K) := ⟨⟨f_p_runs_of, _, ok_p_runs_of F_d2 B ER GC , PySem.W.mg_of X G a_d2, k_d2, b_d2⟩⟩
  have b_d3 := F_d3.binds (ps := P_p_packed) fun _ _ _ _ _ _ us hl => match us, hl with | [_, _], _ => rfl
  have G_p_packed : FnX l.prog w K mg base 2 "packed" P_p_packed (sp_p_packed K ⟨e_BackError, e_NoPlace, e_NoText, e_NoName, e_NoRow⟩) := ⟨⟨f_p_packed, _, ok_p_packed F_d3 B ER GC G_p_check_place G_p_runs_of, PySem.W.mg_of X G a_d3, k_d3, b_d3⟩⟩
  have b_d4 := F_d4.binds (ps := P_p_read_runs) fun _ _ _ _ _ _ us hl => match us, hl with | [_], _ => rfl
  have G_p_read_runs : FnX l.prog w K mg base 2 "read_runs" P_p_read_runs (sp_p_read_runs K ⟨e_BackError, e_NoPlace, e_NoText, e_NoName, e_NoRow⟩) := ⟨⟨f_p_read_runs, _, ok_p_read_runs F_d4 B ER GC G_p_number_in, PySem.W.mg_of X G a_d4, k_d4, b_d4⟩⟩
  have b_d5 := F_d5.binds (ps := P_p_unpacked) fun _ _ _ _ _ _ us hl => match us, hl with | [_], _ => rfl
  have G_p_unpacked : FnX l.prog w K mg base 3 "unpacked" P_p_unpacked (sp_p_unpacked K ⟨e_BackError, e_NoPlace, e_NoText, e_NoName, e_NoRow⟩) := ⟨⟨f_p_unpacked, _, ok_p_unpacked F_d5 B ER GC G_p_number_in G_p_packed G_p_read_runs, PySem.W.mg_of X G a_d5, k_d5, b_d5⟩⟩
  have b_d6 := F_d6.binds (ps := P_w_cell_at) fun _ _ _ _ _ _ us hl => match us, hl with | [_, _], _ => rfl
  have G_w_cell_at : Fn l.prog w K mg base 1 "_law_cell_at" P_w_cell_at (sp_w_cell_at K) := ⟨⟨f_w_cell_at, _, ok_w_cell_at F_d6 B ER GC , PySem.W.mg_of X G a_d6, k_d6, b_d6⟩⟩
  have b_d7 := F_d7.binds (ps := P_w_stream) fun _ _ _ _ _ _ us hl => match us, hl with | [_, _], _ => rfl
  have G_w_stream : Fn l.prog w K mg base 1 "_law_stream" P_w_stream (sp_w_stream K) := ⟨⟨f_w_stream, _, ok_w_stream F_d7 B ER GC , PySem.W.mg_of X G a_d7, k_d7, b_d7⟩⟩
  have b_d9 := F_d9.binds (ps := P_w_whole) fun _ _ _ _ _ _ us hl => match us, hl with | [_], _ => rfl
  have G_w_whole : Fn l.prog w K mg base 1 "_law_whole" P_w_whole (sp_w_whole K) := ⟨⟨f_w_whole, _, ok_w_whole F_d9 B ER GC , PySem.W.mg_of X G a_d9, k_d9, b_d9⟩⟩
  have b_d8 := F_d8.binds (ps := P_w_sign) fun _ _ _ _ _ _ us hl => match us, hl with | [_], _ => rfl
  have G_w_sign : Fn l.prog w K mg base 1 "_law_sign" P_w_sign (sp_w_sign K) := ⟨⟨f_w_sign, _, ok_w_sign F_d8 B ER GC , PySem.W.mg_of X G a_d8, k_d8, b_d8⟩⟩
  have b_d10 := F_d10.binds (ps := P_w_runs_by) fun _ _ _ _ _ _ us hl => match us, hl with | [_, _], _ => rfl
  have G_w_runs_by : Fn l.prog w K mg base 2 "_law_runs_by" P_w_runs_by (sp_w_runs_by K) := ⟨⟨f_w_runs_by, _, ok_w_runs_by F_d10 B ER GC G_w_stream G_w_sign, PySem.W.mg_of X G a_d10, k_d10, b_d10⟩⟩
  have b_d11 := F_d11.binds (ps := P_w_fitted) fun _ _ _ _ _ _ us hl => match us, hl with | [_, _], _ => rfl
  have G_w_fitted : Fn l.prog w K mg base 1 "_law_fitted" P_w_fitted (sp_w_fitted K) := ⟨⟨f_w_fitted, _, ok_w_fitted F_d11 B ER GC , PySem.W.mg_of X G a_d11, k_d11, b_d11⟩⟩
  have b_d12 := F_d12.binds (ps := P_w_written) fun _ _ _ _ _ _ us hl => match us, hl with | [_, _], _ => rfl
  have G_w_written : Fn l.prog w K mg base 1 "_law_written" P_w_written (sp_w_written K) := ⟨⟨f_w_written, _, ok_w_written F_d12 B ER GC , PySem.W.mg_of X G a_d12, k_d12, b_d12⟩⟩
  have b_d13 := F_d13.binds (ps := P_w_spoilt) fun _ _ _ _ _ _ us hl => match us, hl with | [_, _, _, _, _], _ => rfl
  have G_w_spoilt : Fn l.prog w K mg base 2 "_law_spoilt" P_w_spoilt (sp_w_spoilt K) := ⟨⟨f_w_spoilt, _, ok_w_spoilt F_d13 B ER GC G_w_sign G_w_written, PySem.W.mg_of X G a_d13, k_d13, b_d13⟩⟩
  have b_d14 := F_d14.binds (ps := P_w_number) fun _ _ _ _ _ _ us hl => match us, hl with | [_], _ => rfl
  have G_w_number : Fn l.prog w K mg base 1 "_law_number" P_w_number (sp_w_number K) := ⟨⟨f_w_number, _, ok_w_number F_d14 B ER GC , PySem.W.mg_of X G a_d14, k_d14, b_d14⟩⟩
  have b_d15 := F_d15.binds (ps := P_w_due) fun _ _ _ _ _ _ us hl => match us, hl with | [_], _ => rfl
  have G_w_due : Fn l.prog w K mg base 2 "_law_due" P_w_due (sp_w_due K) := ⟨⟨f_w_due, _, ok_w_due F_d15 B ER GC G_w_number, PySem.W.mg_of X G a_d15, k_d15, b_d15⟩⟩
  have b_d16 := F_d16.binds (ps := P_w_refused) fun _ _ _ _ _ _ us hl => match us, hl with | [_], _ => rfl
  have G_w_refused : Fn l.prog w K mg base 4 "_law_refused" P_w_refused (sp_w_refused K) := ⟨⟨f_w_refused, _, ok_w_refused F_d16 B ER GC G_p_unpacked, PySem.W.mg_of X G a_d16, k_d16, b_d16⟩⟩
  exact ok_law F_d17 B ER GC G_p_unpacked G_w_cell_at G_w_stream G_w_whole G_w_runs_by G_w_fitted G_w_spoilt G_w_due G_w_refused
theorem walk {l : PySem.W.OpenLaw} {q : Program} {loose : List Str} {XP : (Str → Option Value) → Heap → Prop} {YP : World → Heap → Prop} {d : DefRec} {K : Params → PySem.W.Frag} (hn : l.most = some 63) (hdf : d.params.defaults = [])
    (hY : ∀ (w : World) (h : Heap), YP w h → (K w.params).In h)
    (F : ∀ (w : World) (mg : Str → Option Value) (fa : Addr) (h : Heap), (K w.params).In h → h.Ns mainGlobals mg → mg d.name = some (.ref fa) →
      ∃ fd : FuncData, (∀ (s : Shared) (u : Value), BindsTo s fd ⟨[u], []⟩ [("_law_script", u)]) ∧ ∀ base : Heap, (K w.params).In base → base.Ns mainGlobals mg → FnOk l.prog w (K w.params) mg base CX0 5 fa fd P_law (sp_law (K w.params))) :
    PySem.W.WalkO q loose XP YP l.row.toRowW d [] (fun f vs => PySem.call f vs) :=
  L2.walk_of (n := 63) (k := 5) (x := "_law_script") (CX := fun _ => CX0) (sp := fun w => sp_law (K w.params)) hn (by decide) hdf ⟨rfl, by decide, by decide⟩ hY F (fun _ _ a ns hl _ hS => ⟨a, ns, rfl, hS, hl, fun _ => rfl⟩) fun _ _ _ _ _ z => z
end My
open PySem PySem.W PyProof.Rows
set_option maxRecDepth 100000 in
set_option maxHeartbeats 0 in
theorem PySem.Challenge.cw_backindex_k82_texts_unpacked_holds : PySem.Challenge.rw_backindex_k82_texts_unpacked.Holds := by
  w_on; o_law; k_head; (case hw => w_witness2)
  k_fill
  refine My.walk (l := PySem.Challenge.rw_backindex_k82_texts_unpacked) rfl rfl (fun w h Y => PySem.W.kIn_of Y) ?F
  case F =>
    intro w mg fa h KX G hmg
    refine' My.all_mk KX G hmg ?a_d0 ?l_d0 ?c_d0 ?k_d0 ?a_d1 ?l_d1 ?c_d1 ?k_d1 ?a_d2 ?l_d2 ?c_d2 ?k_d2 ?a_d3 ?l_d3 ?c_d3 ?k_d3 ?a_d4 ?l_d4 ?c_d4 ?k_d4 ?a_d5 ?l_d5 ?c_d5 ?k_d5 ?a_d6 ?l_d6 ?c_d6 ?k_d6 ?a_d7 ?l_d7 ?c_d7 ?k_d7 ?a_d8 ?l_d8 ?c_d8 ?k_d8 ?a_d9 ?l_d9 ?c_d9 ?k_d9 ?a_d10 ?l_d10 ?c_d10 ?k_d10 ?a_d11 ?l_d11 ?c_d11 ?k_d11 ?a_d12 ?l_d12 ?c_d12 ?k_d12 ?a_d13 ?l_d13 ?c_d13 ?k_d13 ?a_d14 ?l_d14 ?c_d14 ?k_d14 ?a_d15 ?l_d15 ?c_d15 ?k_d15 ?a_d16 ?l_d16 ?c_d16 ?k_d16 ?a_d17 ?l_d17 ?c_d17 ?k_d17 ?m_BackError ?x_BackError ?m_NoPlace ?x_NoPlace ?m_NoText ?m_NoName ?m_NoRow ?x_NoRow ?g1_NoRow ?g2_NoRow ?g3_NoRow ?g4_NoRow ?g5_NoRow ?g6_NoRow ?g7_NoRow ?v_NoRow ?r_NoRow_BackError ?t_NoRow_NoText ?t_NoRow_NoName ?t_NoRow_NoRow ?gc_MOST_SIGNS ?z_ValueError ?z_bool ?z_int ?z_isinstance ?z_len ?z_max ?z_min ?z_range ?z_str ?z_sum ?z_tuple
    (case a_d0 => k_is)
    (case l_d0 => k_is)
    (case c_d0 => k_is)
    (case k_d0 => k_is)
    (case a_d1 => k_is)
    (case l_d1 => k_is)
    (case c_d1 => k_is)
    (case k_d1 => k_is)
    (case a_d2 => k_is)
    (case l_d2 => k_is)
    (case c_d2 => k_is)
    (case k_d2 => k_is)
    (case a_d3 => k_is)
    (case l_d3 => k_is)
    (case c_d3 => k_is)
    (case k_d3 => k_is)
    (case a_d4 => k_is)
    (case l_d4 => k_is)
    (case c_d4 => k_is)
    (case k_d4 => k_is)
    (case a_d5 => k_is)
    (case l_d5 => k_is)
    (case c_d5 => k_is)
    (case k_d5 => k_is)
    (case a_d6 => k_is)
    (case l_d6 => k_is)
    (case c_d6 => k_is)
    (case k_d6 => k_is)
    (case a_d7 => k_is)
    (case l_d7 => k_is)
    (case c_d7 => k_is)
    (case k_d7 => k_is)
    (case a_d8 => k_is)
    (case l_d8 => k_is)
    (case c_d8 => k_is)
    (case k_d8 => k_is)
    (case a_d9 => k_is)
    (case l_d9 => k_is)
    (case c_d9 => k_is)
    (case k_d9 => k_is)
    (case a_d10 => k_is)
    (case l_d10 => k_is)
    (case c_d10 => k_is)
    (case k_d10 => k_is)
    (case a_d11 => k_is)
    (case l_d11 => k_is)
    (case c_d11 => k_is)
    (case k_d11 => k_is)
    (case a_d12 => k_is)
    (case l_d12 => k_is)
    (case c_d12 => k_is)
    (case k_d12 => k_is)
    (case a_d13 => k_is)
    (case l_d13 => k_is)
    (case c_d13 => k_is)
    (case k_d13 => k_is)
    (case a_d14 => k_is)
    (case l_d14 => k_is)
    (case c_d14 => k_is)
    (case k_d14 => k_is)
    (case a_d15 => k_is)
    (case l_d15 => k_is)
    (case c_d15 => k_is)
    (case k_d15 => k_is)
    (case a_d16 => k_is)
    (case l_d16 => k_is)
    (case c_d16 => k_is)
    (case k_d16 => k_is)
    (case a_d17 => k_is)
    (case l_d17 => k_is)
    (case c_d17 => k_is)
    (case k_d17 => k_is)
    (case m_BackError => k_is)
    (case x_BackError => k_exc)
    (case m_NoPlace => k_is)
    (case x_NoPlace => k_exc)
    (case m_NoText => k_is)
    (case m_NoName => k_is)
    (case m_NoRow => k_is)
    (case x_NoRow => k_exc)
    (case g1_NoRow => k_is)
    (case g2_NoRow => k_is)
    (case g3_NoRow => k_is)
    (case g4_NoRow => k_is)
    (case g5_NoRow => k_is)
    (case g6_NoRow => k_is)
    (case g7_NoRow => k_is)
    (case v_NoRow => kit_is)
    (case r_NoRow_BackError => k_is)
    (case t_NoRow_NoText => kit_is)
    (case t_NoRow_NoName => kit_is)
    (case t_NoRow_NoRow => kit_is)
    (case gc_MOST_SIGNS => k_is)
    (case z_ValueError => k_is)
    (case z_bool => k_is)
    (case z_int => k_is)
    (case z_isinstance => k_is)
    (case z_len => k_is)
    (case z_max => k_is)
    (case z_min => k_is)
    (case z_range => k_is)
    (case z_str => k_is)
    (case z_sum => k_is)
    (case z_tuple => k_is)