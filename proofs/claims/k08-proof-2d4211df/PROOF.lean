import PyProof.Rows.All
import Wide.All
import OpenK.AllK
import Wide.FinOn
import PyProof.EqAt
import PyProof.EqKinds
import HandS.Base
import HandS.Comp
import HandS.Dict
import HandS.DictTup
import HandS.DictComp
import PyProof.DictMoreH
import HandS.TupLe
import HandS.TupAny
import HandS.SortOrd
import PyProof.Rows.SortKeyStr
import KE.KSortTup
import KE.KDictList
import KE.KDictSum
import HandS.Iter
import PyProof.DictCompW
import HandS.ForMost
import HandS.Exc
import HandS.ExcOwn
import HandS.ExcValue
import HandS.IsInst
import PyProof.ReprReads
import PyProof.ReprRoads
import PyProof.ExcRepr
import KE.KExcStr
import HandS.ExcIs
import HandS.Evl
import HandS.TryMany
import HandS.WordsExc
import HandS.Small
import HandS.Walk
import HandS.Deep
import HandS.Wide
import HandS.Steps
import HandS.More
import HandS.CallLocal
import HandS.Zip
import HandS.SortRule
import HandS.NoneIn
import KE.KStrOpen
import KE.KDictPairs
import PyProof.Rows.SortStr
import HandS.Style
import PySem.Challenge.RW_homeshold_k08_whole_mends_join_in_any_or
set_option Elab.async false
set_option linter.all false
set_option maxRecDepth 100000
/-! a dict comprehension with tuples as keys; d.pop(k) of such a dict -/
namespace Hk
open PySem PySem.Spec PyProof.Rows L2
section
variable {X : Cx} {pins : List (Addr × Obj)} {σ : L2.St} {H : Hp} {s : Shared}
/-- a block of a comprehension writes the key and the value -/
theorem dt_set {E : Value → Shared → Prop} {D b : Addr} {kvs : List (List L2.Key × V)} {k : List L2.Key} {v : V} {r : Value} {Q : Unit → Shared → Prop} (hu : X.A.units + 1 < cLine) (J : Inv X pins σ H s) (eD : H D = some (.dT kvs)) (lz : kvs.length < sizeLine)
    (eb : H b = some (.tup (k.map kV))) (rv : RelV v r) (h : ∀ s', Inv X pins σ (upd H D (.dT (putK kvs k v))) s' → Q () s') : wpAny (model X.prog X.w) X.A (dictSet D (.ref b) r) Q E s := by
  obtain ⟨lk, hd, xs, pr, at_⟩ := dt_of J.hok eD
  have lx : xs.length ≤ sizeLine := by have := Paired.length pr; omega
  have lp : (putK kvs k v).length ≤ sizeLine := by have := length_putK kvs k v; omega
  refine wpAny_dictSet_heap (hsz := lx) (show X.A.units < cLine from Nat.lt_of_succ_lt hu) (key_of J.hok eb) at_ fun hp' at' sb => h _ ?_
  obtain ⟨ob, es, ep, g1, g2, g3, g4, _, g5⟩ := at'
  exact d_write J (by rw [eD]; exact True.intro) sb ⟨ob, g1⟩ ⟨lp, hd, _, (pr.put k eb rv).keeps (fun c ys ec => by rw [upd_ne (ne_of ec eD (fun z => nomatch z))]; exact ec), ob, es, ep, g1, g2, g3, g4, g5⟩
/-- the parts of such a comprehension, read in each block -/
structure DtP (X : Cx) (kx vx tg : Expr) (ifs : List Expr) (scope : Scope) (g : TG) (tt : TT) (tk tv : TE) : Prop where
  g : ∀ (s : Shared) (H : Hp) (C : Addr) (cl : List (Str × Addr)) (fp : List Addr), PG (X.blk s H scope (compEnvC scope cl C X.env) fp) tg g
  t : ∀ (s : Shared) (H : Hp) (C : Addr) (cl : List (Str × Addr)) (fp : List Addr), PTs (X.blk s H scope (compEnvC scope cl C X.env) fp) ifs tt
  k : ∀ (s : Shared) (H : Hp) (C : Addr) (cl : List (Str × Addr)) (fp : List Addr), PE (X.blk s H scope (compEnvC scope cl C X.env) fp) kx tk
  v : ∀ (s : Shared) (H : Hp) (C : Addr) (cl : List (Str × Addr)) (fp : List Addr), PE (X.blk s H scope (compEnvC scope cl C X.env) fp) vx tv
end
end Hk
/-! tuples of integers and texts: which is less -/
namespace Hk
open PySem PySem.Spec PyProof.Rows L2
/-- two keys of one kind -/
def kin : L2.Key → L2.Key → Bool
  | .inl _, .inl _ => true
  | .inr _, .inr _ => true
  | _, _ => false
def kEq : L2.Key → L2.Key → Bool
  | .inl i, .inl j => i == j
  | .inr x, .inr y => x == y
  | _, _ => false
def kLt : L2.Key → L2.Key → Bool
  | .inl i, .inl j => decide (i < j)
  | .inr x, .inr y => decide (x.cps.toList < y.cps.toList)
  | _, _ => false
/-- by the first pair that differs -/
def ltK : List L2.Key → List L2.Key → Bool
  | [], [] => false
  | [], _ :: _ => true
  | _ :: _, [] => false
  | k :: ks, l :: ls => if kEq k l = true then ltK ks ls else kLt k l
def kinds : List L2.Key → List L2.Key → Bool
  | k :: ks, l :: ls => kin k l && kinds ks ls
  | _, _ => true
theorem kEq_iff {k l : L2.Key} : kEq k l = true ↔ k = l := by
  cases k with
  | inl i => cases l with
    | inl j => simp [kEq]
    | inr y => simp [kEq]
  | inr x => cases l with
    | inl j => simp [kEq]
    | inr y => simp [kEq]
def d0 : L2.Key := .inl 0
theorem lexAt_is : ∀ (ks ls : List L2.Key) (i : Nat) (e r : Nat → Bool), (∀ j, e (i + j) = kEq (ks.getD j d0) (ls.getD j d0)) → (∀ j, r (i + j) = kLt (ks.getD j d0) (ls.getD j d0)) →
    Ob.lexAt e r (decide (ks.length < ls.length)) i (min ks.length ls.length) = ltK ks ls
  | [], [], i, e, r, _, _ => rfl
  | [], _ :: _, i, e, r, _, _ => by
    show Ob.lexAt e r _ i 0 = true
    rw [Ob.lexAt_zero]
    simp
  | _ :: _, [], i, e, r, _, _ => by
    show Ob.lexAt e r _ i 0 = false
    rw [Ob.lexAt_zero]
    simp
  | k :: ks, l :: ls, i, e, r, he, hr => by
    have h0 := he 0
    have h1 := hr 0
    rw [Nat.add_zero] at h0 h1
    have ih := lexAt_is ks ls (i + 1) e r (fun j => by
      have := he (j + 1)
      rw [show i + 1 + j = i + (j + 1) from by omega, this]
      rfl) (fun j => by
      have := hr (j + 1)
      rw [show i + 1 + j = i + (j + 1) from by omega, this]
      rfl)
    have el : decide ((k :: ks).length < (l :: ls).length) = decide (ks.length < ls.length) := by
      rw [List.length_cons, List.length_cons]
      by_cases q : ks.length < ls.length
      · rw [decide_eq_true q, decide_eq_true (by omega)]
      · rw [decide_eq_false q, decide_eq_false (by omega)]
    have em : min (k :: ks).length (l :: ls).length = min ks.length ls.length + 1 := by
      rw [List.length_cons, List.length_cons]
      omega
    rw [el, em, Ob.lexAt_succ, ih, h0, h1]
    rfl
section
variable {X : Cx}
def rLtK (K : PySem.W.Frag) : R2 := fun x y H Q => ∃ (a b : Addr) (ks ls : List L2.Key), x = .ref a ∧ y = .ref b ∧ SqT K H a (ks.map kV) ∧ SqT K H b (ls.map kV) ∧ kinds ks ls = true ∧ Q (.bl (ltK ks ls)) H
theorem rel_at : ∀ {ks : List L2.Key} {us : List Value}, Vals (ks.map kV) us → ∀ j (h : j < us.length), RelV (kV (ks.getD j d0)) us[j]
  | [], us, r, j, h => by
    cases r
    exact absurd h (Nat.not_lt_zero _)
  | k :: ks, us, r, j, h => by
    rw [List.map_cons] at r
    cases r with
    | cons r1 r2 =>
      cases j with
      | zero => exact r1
      | succ j => exact rel_at r2 j (Nat.lt_of_succ_lt_succ h)
theorem kinds_at : ∀ {ks ls : List L2.Key}, kinds ks ls = true → ∀ j, j < ks.length → j < ls.length → kin (ks.getD j d0) (ls.getD j d0) = true
  | [], _, _, j, h, _ => absurd h (Nat.not_lt_zero _)
  | _ :: _, [], _, j, _, h => absurd h (Nat.not_lt_zero _)
  | k :: ks, l :: ls, q, j, h1, h2 => by
    unfold kinds at q
    rw [Bool.and_eq_true] at q
    cases j with
    | zero => exact q.1
    | succ j => exact kinds_at q.2 j (Nat.lt_of_succ_lt_succ h1) (Nat.lt_of_succ_lt_succ h2)
theorem op_ltK (hu : X.A.units < cLine) : OpR X (compareOp .Lt) (rLtK X.K) := by
  intro pins s σ H x y v u Q I rx ry h
  obtain ⟨a, b, ks, ls, rfl, rfl, ha, hb, hk, q⟩ := h
  cases rx
  cases ry
  obtain ⟨xs, r1, p1, _⟩ := I.tuple ha
  obtain ⟨ys, r2, p2, _⟩ := I.tuple hb
  have l1 : xs.toArray.size = ks.length := by
    have := r1.length
    rw [List.length_map] at this
    rw [List.size_toArray, this]
  have l2 : ys.toArray.size = ls.length := by
    have := r2.length
    rw [List.length_map] at this
    rw [List.size_toArray, this]
  have main := Ob.RcOp.tuples_lt (A := X.A) (s := s) (e := fun j => kEq (ks.getD j d0) (ls.getD j d0)) (r := fun j => kLt (ks.getD j d0) (ls.getD j d0)) p1 p2 hu (fun j h1 h2 => by
    have v1 := rel_at r1 j (by simpa using h1)
    have v2 := rel_at r2 j (by simpa using h2)
    have kk := kinds_at hk j (l1 ▸ h1) (l2 ▸ h2)
    have g1 : xs.toArray[j] = xs[j]'(by simpa using h1) := by simp
    have g2 : ys.toArray[j] = ys[j]'(by simpa using h2) := by simp
    rw [g1, g2]
    generalize ks.getD j d0 = k at v1 kk ⊢
    generalize ls.getD j d0 = l at v2 kk ⊢
    cases k with
    | inl i => cases l with
      | inl j =>
        obtain ⟨t, e1⟩ := v1
        obtain ⟨t', e2⟩ := v2
        rw [e1, e2]
        exact SeqAt.EqAt.int_int _ _ _ _
      | inr y => cases kk
    | inr z => cases l with
      | inl j => cases kk
      | inr y =>
        obtain ⟨t, e1⟩ := v1
        obtain ⟨t', e2⟩ := v2
        rw [e1, e2]
        exact SeqAt.EqAt.str_str _ _ _ _) (fun j h1 h2 _ => by
    have v1 := rel_at r1 j (by simpa using h1)
    have v2 := rel_at r2 j (by simpa using h2)
    have kk := kinds_at hk j (l1 ▸ h1) (l2 ▸ h2)
    have g1 : xs.toArray[j] = xs[j]'(by simpa using h1) := by simp
    have g2 : ys.toArray[j] = ys[j]'(by simpa using h2) := by simp
    rw [g1, g2]
    generalize ks.getD j d0 = k at v1 kk ⊢
    generalize ls.getD j d0 = l at v2 kk ⊢
    cases k with
    | inl i => cases l with
      | inl j =>
        obtain ⟨t, e1⟩ := v1
        obtain ⟨t', e2⟩ := v2
        rw [e1, e2]
        exact Ob.RcOp.lt_int _ _ _ _
      | inr y => cases kk
    | inr z => cases l with
      | inl j => cases kk
      | inr y =>
        obtain ⟨t, e1⟩ := v1
        obtain ⟨t', e2⟩ := v2
        rw [e1, e2]
        exact fun prog w E Q h => PyProof.Rows.lt_str h)
  rw [l1, l2, lexAt_is ks ls 0 _ _ (fun j => by rw [Nat.zero_add]) (fun j => by rw [Nat.zero_add])] at main
  exact main X.prog X.w X.xe (EP X pins σ Q) ⟨.bl (ltK ks ls), H, I, rfl, q⟩
end
/-! ### a strict order -/
end Hk
/-! sorted(d.items()), the keys pairs of integers, the values texts -/
namespace Hk
open PySem PySem.Spec PyProof.Rows L2
abbrev PZ : Type := (Int × Int) × Str
def ltPZ (x y : PZ) : Bool := decide (x.1.1 < y.1.1) || (decide (x.1.1 = y.1.1) && decide (x.1.2 < y.1.2))
theorem ltPZ_iff {x y : PZ} : ltPZ x y = true ↔ x.1.1 < y.1.1 ∨ (x.1.1 = y.1.1 ∧ x.1.2 < y.1.2) := by
  unfold ltPZ
  rw [Bool.or_eq_true, Bool.and_eq_true, decide_eq_true_eq, decide_eq_true_eq, decide_eq_true_eq]
theorem ltPZ_no {x y : PZ} : ltPZ x y = false ↔ ¬ (x.1.1 < y.1.1 ∨ (x.1.1 = y.1.1 ∧ x.1.2 < y.1.2)) := by
  rw [← ltPZ_iff]
  cases ltPZ x y <;> simp
theorem swo_pz {α : Type} (k : α → PZ) : SrtO.Swo fun v u => ltPZ (k v) (k u) := by
  refine ⟨fun x y h => ?_, fun x y z h1 h2 => ?_⟩
  · rw [ltPZ_iff] at h
    rw [ltPZ_no]
    omega
  · rw [ltPZ_no] at *
    omega
/-- a pair: a tuple of two integers, a text -/
def IsPZ (h : Heap) (v : Value) (x : PZ) : Prop := ∃ (a k : Addr) (o ok : Obj) (t u c : Tok) (n m : Nat), v = .ref a ∧ h.get? a = some o ∧ o.cls = .type "tuple" ∧ o.data = .seq #[.ref k, .str x.2 c] n ∧ h.get? k = some ok ∧ ok.cls = .type "tuple" ∧ ok.data = .seq #[.int x.1.1 t, .int x.1.2 u] m
theorem IsPZ.keeps {h h' : Heap} {v : Value} {x : PZ} (y : IsPZ h v x) (k : ∀ b o, h.get? b = some o → o.cls = .type "tuple" → h'.get? b = some o) : IsPZ h' v x := by
  obtain ⟨a, q, o, ok, t, u, c, n, m, e, h1, h2, h3, h4, h5, h6⟩ := y
  exact ⟨a, q, o, ok, t, u, c, n, m, e, k _ _ h1 h2, h2, h3, k _ _ h4 h5, h5, h6⟩
def two0 (h : Heap) (k : Addr) : Int × Int := match h.get? k with
  | some o => match o.data with
    | .seq xs _ => match xs.toList with
      | [.int i _, .int j _] => (i, j)
      | _ => default
    | _ => default
  | none => default
def pzOf (h : Heap) (v : Value) : PZ := match v with
  | .ref a => match h.get? a with
    | some o => match o.data with
      | .seq xs _ => match xs.toList with
        | [.ref k, .str z _] => (two0 h k, z)
        | _ => default
      | _ => default
    | none => default
  | _ => default
theorem IsPZ.of {h : Heap} {v : Value} {x : PZ} (y : IsPZ h v x) : pzOf h v = x := by
  obtain ⟨a, q, o, ok, t, u, c, n, m, rfl, h1, h2, h3, h4, h5, h6⟩ := y
  simp only [pzOf, two0, h1, h3, h4, h6]
section
variable {prog : Program} {w : World} {A : Around} {s : Shared}
/-- (i, j) < (k, l) -/
theorem lt_two {a b : Addr} {x y : PZ} {t u t' u' : Tok} {E : Value → Shared → Prop} {Q : Value → Shared → Prop} (ha : s.heap.IsTuple a #[.int x.1.1 t, .int x.1.2 u]) (hb : s.heap.IsTuple b #[.int y.1.1 t', .int y.1.2 u']) (hu : A.units < cLine)
    (h : Q (.bool (ltPZ x y)) s) : wpAny (model prog w) A (compareOp .Lt (.ref a) (.ref b)) Q E s := by
  have main := Ob.RcOp.tuples_lt (A := A) (s := s) (e := fun j => if j = 0 then x.1.1 == y.1.1 else x.1.2 == y.1.2) (r := fun j => if j = 0 then decide (x.1.1 < y.1.1) else decide (x.1.2 < y.1.2)) ha hb hu (fun j h1 h2 => by
    have h1' : j < 2 := h1
    rcases (show j = 0 ∨ j = 1 by omega) with rfl | rfl
    · exact SeqAt.EqAt.int_int _ _ _ _
    · exact SeqAt.EqAt.int_int _ _ _ _) (fun j h1 h2 _ => by
    have h1' : j < 2 := h1
    rcases (show j = 0 ∨ j = 1 by omega) with rfl | rfl
    · exact Ob.RcOp.lt_int _ _ _ _
    · exact Ob.RcOp.lt_int _ _ _ _)
  have e : Ob.lexAt (fun j => if j = 0 then x.1.1 == y.1.1 else x.1.2 == y.1.2) (fun j => if j = 0 then decide (x.1.1 < y.1.1) else decide (x.1.2 < y.1.2)) (decide ((#[Value.int x.1.1 t, .int x.1.2 u] : Array Value).size < (#[Value.int y.1.1 t', .int y.1.2 u'] : Array Value).size)) 0 (min (#[Value.int x.1.1 t, .int x.1.2 u] : Array Value).size (#[Value.int y.1.1 t', .int y.1.2 u'] : Array Value).size) = ltPZ x y := by
    show Ob.lexAt _ _ (decide (2 < 2)) 0 2 = _
    rw [Ob.lexAt_succ, Ob.lexAt_succ, Ob.lexAt_zero]
    unfold ltPZ
    by_cases q : x.1.1 = y.1.1
    · simp [q]
      by_cases q2 : x.1.2 = y.1.2
      · simp [q2]
      · simp [q2]
    · simp [q]
  rw [e] at main
  exact main prog w E Q h
theorem pz_cmp {vs : List Value} {k : Value → PZ} (hp : ∀ v ∈ vs, IsPZ s.heap v (k v)) (inj : ∀ v ∈ vs, ∀ u ∈ vs, (k v).1 = (k u).1 → k v = k u) (hu : A.units < cLine) : SrtO.Cmp prog w A s (tuples' false) (fun p => p.1 ∈ vs) (SrtO.lt2 fun v u => ltPZ (k v) (k u)) := by
  intro p q hm hm'
  have h1 := hp _ hm
  have h2 := hp _ hm'
  have hi := inj _ hm _ hm'
  show wpAny (model prog w) A (keyLt' (tuples' false) p.1 q.1) (fun r s' => s' = s ∧ r = ltPZ (k p.1) (k q.1)) (fun _ _ => False) s
  generalize k p.1 = x at h1 hi ⊢
  generalize k q.1 = y at h2 hi ⊢
  obtain ⟨a, b, o, ok, t, u, c, n, m, e, ho, hc, hd, hk, hkc, hkd⟩ := h1
  obtain ⟨a', b', o', ok', t', u', c', n', m', e', ho', hc', hd', hk', hkc', hkd'⟩ := h2
  rw [e, e']
  refine PySem.W.kat_lt ho hd ho' hd' ?_
  show PySem.W.KatLex prog w A false (decide (2 < 2)) _ [(.ref b, .ref b'), (.str x.2 c, .str y.2 c')] 0 s
  have k1 : IsTupleKey (L2.mixKind prog w) s.heap [Sum.inl x.1.1, Sum.inl x.1.2] b := ⟨ok, _, m, hk, hkc, hkd, .cons (L2.mixKind_int prog w _ t) (.cons (L2.mixKind_int prog w _ u) .nil)⟩
  have k2 : IsTupleKey (L2.mixKind prog w) s.heap [Sum.inl y.1.1, Sum.inl y.1.2] b' := ⟨ok', _, m', hk', hkc', hkd', .cons (L2.mixKind_int prog w _ t') (.cons (L2.mixKind_int prog w _ u') .nil)⟩
  refine PySem.W.kat_cons (wpAny_eqBool_tuple hu k1 k2 ?_)
  refine PySem.W.kat_go (fun e1 => ?_) (fun e1 => ?_)
  · have ex : x.1 = y.1 := by
      have := of_decide_eq_true e1
      injection this with q1 q2
      injection q2 with q3 _
      exact Prod.ext (Sum.inl.inj q1) (Sum.inl.inj q3)
    have exy := hi ex
    subst exy
    refine PySem.W.kat_yes (PySem.W.kat_cons (SeqAt.EqAt.str_str x.2 c x.2 c' prog w _ _ ?_))
    refine PySem.W.kat_go (fun _ => ?_) (fun e2 => ?_)
    · refine PySem.W.kat_yes (PySem.W.kat_nil ⟨rfl, ?_⟩)
      symm
      show ltPZ x x = false
      rw [ltPZ_no]
      omega
    · simp at e2
  · refine PySem.W.kat_no ?_
    show wpAny _ _ (oneLt' false _ _) _ _ _
    exact PySem.W.kat_one _ _ (lt_two (x := x) (y := y) ⟨ok, hk, hkc, m, hkd⟩ ⟨ok', hk', hkc', m', hkd'⟩ hu (show s = s ∧ ltPZ x y = ltPZ x y from ⟨rfl, rfl⟩))
end
end Hk
/-! dicts with pairs of a text and an integer as keys, sorted -/
namespace Hk
open PySem PySem.Spec PyProof.Rows L2
abbrev SI : Type := Str × Int
/-- by the text, then by the integer -/
def ltSI (p q : SI) : Bool := if p.1 = q.1 then decide (p.2 < q.2) else decide (p.1.cps.toList < q.1.cps.toList)
theorem str_ext {x y : Str} (h : x.cps.toList = y.cps.toList) : x = y := by
  cases x with
  | mk a => cases y with
    | mk b =>
      congr 1
      exact Array.toList_inj.mp h
theorem lt_tri (a b : List Nat) : a < b ∨ a = b ∨ b < a := by
  rcases Classical.em (a < b) with h | h
  · exact .inl h
  · rcases Classical.em (b < a) with h2 | h2
    · exact .inr (.inr h2)
    · exact .inr (.inl (List.le_antisymm (List.not_lt.mp h2) (List.not_lt.mp h)))
/-- a tuple of a text and an integer -/
def IsSI (h : Heap) (v : Value) (p : SI) : Prop := ∃ (a : Addr) (o : Obj) (t u : Tok) (n : Nat), v = .ref a ∧ h.get? a = some o ∧ o.cls = .type "tuple" ∧ o.data = .seq #[.str p.1 t, .int p.2 u] n
theorem IsSI.keeps {h h' : Heap} {v : Value} {p : SI} (x : IsSI h v p) (k : ∀ b o, h.get? b = some o → o.cls = .type "tuple" → h'.get? b = some o) : IsSI h' v p := by
  obtain ⟨a, o, t, u, n, e, ho, hc, hd⟩ := x
  exact ⟨a, o, t, u, n, e, k a o ho hc, hc, hd⟩
/-- what pair stands there -/
def siOf (h : Heap) (v : Value) : SI := match v with
  | .ref a => match h.get? a with
    | some o => match o.data with
      | .seq xs _ => match xs.toList with
        | [.str z _, .int i _] => (z, i)
        | _ => default
      | _ => default
    | none => default
  | _ => default
theorem IsSI.of {h : Heap} {v : Value} {p : SI} (x : IsSI h v p) : siOf h v = p := by
  obtain ⟨a, o, t, u, n, rfl, ho, hc, hd⟩ := x
  simp only [siOf, ho, hd]
/-! ### the keys of a dict, in a row -/
section
variable {prog : Program} {w : World} {d : Addr} {o : Obj} {es : Array DictEntry} {ep : Nat}
theorem walks_dt {A : Around} (hh : A.handled = none) (I : Addr) (hne : d ≠ I) (hdat : o.data = .dict es ep) :
    Walks prog w A I [I, d] [I] es.size (fun i v => ∃ en, es[i]? = some en ∧ v = en.key) (fun i h => h.IsKeyIter I d i es.size ep ∧ h.get? d = some o) where
  sub := fun b hb => by simp at hb; simp [hb]
  frame := fun _ _ _ st hk => ⟨st.1.at fun o e => hk I (by simp) o e, hk d (by simp) _ st.2⟩
  item := fun i s Q E hi st hQ => by
    have hx : es[i]? = some es[i] := Array.getElem?_eq_getElem hi
    exact next_key_item st.1 st.2 hdat rfl hx fun h' hit hs => hQ _ h' s.toks ⟨_, hx, rfl⟩ ⟨hit, hs.2 d hne ▸ st.2⟩ fun b o hb e => (hs.2 b (fun h => hb (by simp [h]))).trans e
  done := fun s Q E st hQ => next_key_end hh st.1 st.2 hdat rfl (Nat.le_refl _) fun h' he => hQ h' s.toks fun b o hb e => he b o (fun h => hb (by simp [h])) e
  self := fun _ _ _ _ st hQ => wpAny_pyIter_keyiter st.1 hQ
theorem kdl_dt (lo : (d == sysModules) = false) (hx : o.ExactDict) (hdat : o.data = .dict es ep) :
    PySem.W.KdlSrc prog w "dict" d d es.size (fun i v => ∃ en, es[i]? = some en ∧ v = en.key) (fun h => h.get? d = some o) where
  type := fun _ hm => ⟨o, hm, hx.1⟩
  there := fun _ hm => ⟨Heap.lt_size hm, Heap.lt_size hm⟩
  keep := fun _ _ hm hk => hk d (.inl rfl) o hm
  notList := by decide
  notTuple := by decide
  hint := fun _ _ _ _ hm hq => PySem.W.kdl_hint_dict ⟨o, hm, hx.1⟩ hq
  iter := fun _ _ hh hm => ⟨_, _, (fun _ _ hq => iter_keys lo hm hx hdat hq), walks_dt hh _ (Nat.ne_of_lt (Heap.lt_size hm)) hdat, ⟨⟨_, Heap.get?_push_size _ rfl, rfl, rfl⟩, Heap.get?_push_of_some _ hm⟩⟩
end
abbrev keySI (p : SI) : List L2.Key := [Sum.inr p.1, Sum.inl p.2]
def adOf : Value → Addr
  | .ref a => a
  | _ => 0
end Hk
/-! sorted(d.items()): the rule -/
namespace Hk
open PySem PySem.Spec PyProof.Rows L2
open L2.DX (itemsO)
section
variable {prog : Program} {w : World} {A : Around} {s : Shared}
theorem pz_firsts {h : Heap} {k : Value → PZ} : ∀ vs : List Value, (∀ v ∈ vs, IsPZ h v (k v)) → ∃ fs : List Value, PySem.W.KatTups h vs fs ∧ fs.length = vs.length ∧ ∀ f ∈ fs, ∃ (q : Addr) (o : Obj), f = Value.ref q ∧ h.get? q = some o ∧ o.cls = .type "tuple"
  | [], _ => ⟨[], PySem.W.KatTups.nil, rfl, fun f hf => nomatch hf⟩
  | v :: vs, x => by
    obtain ⟨fs, g, hl, hi⟩ := pz_firsts vs fun u hu => x u (List.mem_cons_of_mem _ hu)
    obtain ⟨a, q, o, ok, t, u, c, n, m, e, h1, h2, h3, h4, h5, h6⟩ := x v (List.mem_cons_self ..)
    refine ⟨.ref q :: fs, ⟨⟨a, o, _, n, e, h1, h2, h3, rfl⟩, g⟩, by rw [List.length_cons, List.length_cons, hl], fun f hf => ?_⟩
    rcases List.mem_cons.mp hf with rfl | hf
    · exact ⟨q, ok, rfl, h4, h5⟩
    · exact hi f hf
theorem pz_sortable {a : Addr} {vs : List Value} {k : Value → PZ} (h0 : 0 < vs.length) (hp : ∀ v ∈ vs, IsPZ s.heap v (k v)) (inj : ∀ v ∈ vs, ∀ u ∈ vs, (k v).1 = (k u).1 → k v = k u) (hu : A.units < cLine) (ha : ∀ o, s.heap.get? a = some o → o.cls ≠ .type "tuple") : SrtO.SortableO prog w A s a vs fun v u => ltPZ (k v) (k u) := by
  intro h' keep
  have hp' : ∀ v ∈ vs, IsPZ h' v (k v) := fun v hm => (hp v hm).keeps fun b o e c => keep b o (fun z => by subst z; exact ha o e c) e
  obtain ⟨fs, h1, h2, h3⟩ := pz_firsts vs hp'
  refine ⟨tuples' false, fun Q E hq => ?_, pz_cmp hp' inj hu⟩
  refine PySem.W.kat_kind (T := .type "tuple") h1 (by omega) (fun f hm => ?_) (by rfl) ?_
  · obtain ⟨q, o, rfl, ho, hc⟩ := h3 f hm
    have z : PySem.W.Looks (model prog w) h' (typeOf (.ref q)) o.cls := (PySem.W.Looks.ld ho).andThen .now
    rw [hc] at z
    exact z
  · have e : (Value.type "tuple" != Value.type "tuple") = false := by first | decide +kernel | rfl | decide
    rw [e]
    exact hq
end
abbrev keyII (p : Int × Int) : List L2.Key := [Sum.inl p.1, Sum.inl p.2]
abbrev entZ (x : PZ) : List L2.Key × V := (keyII x.1, V.str x.2)
section
variable {X : Cx}
/-- sorted(d.items()): new pairs, in a new list -/
def rSortDI : List V → Hp → VK → Prop := fun xs H Q => ∃ (p a : Addr) (ks : List PZ), xs = [.ref p] ∧ H p = some (itemsO p a) ∧ H a = some (.dT (ks.map entZ)) ∧ (ks.map (·.1)).Nodup ∧
  ∀ (H' : Hp) (l : Addr) (zs : List (Addr × PZ)), H l = none → (∀ b o, H b = some o → H' b = some o) → (zs.map (·.2)).Perm ks → (zs.map (·.2)).Pairwise (fun x y => ltPZ y x = false) → H' l = some (.lst (zs.map fun z => V.ref z.1)) →
    (∀ z ∈ zs, H z.1 = none ∧ ∃ q, H' z.1 = some (.tup [.ref q, .str z.2.2]) ∧ H' q = some (.tup [.int z.2.1.1, .int z.2.1.2])) → Q (.ref l) H'
theorem vals_refZ : ∀ zs : List (Addr × PZ), Vals (zs.map fun z => V.ref z.1) (zs.map fun z => Value.ref z.1)
  | [] => .nil
  | z :: zs => .cons rfl (vals_refZ zs)
theorem cr_sortDI (hc : X.calm = true) (hu : X.A.units + 64 < cLine) : CallR X (.builtin "sorted") rSortDI := by
  intro pins s σ H xs us Q I r h
  obtain ⟨p, a, ks, rfl, hp, ha, hnd, q⟩ := h
  obtain rfl := Vals.ref1 r
  have view : s.heap.IsItemsView p a := (show ObjOk X.prog X.w H s.heap p (itemsO p a) from I.hok p _ hp).1
  obtain ⟨z, lo, xs', rel, o, es, ep, ho, hx, hdat, hes, his, hn⟩ := dt_of I.hok ha
  have l1 : (ks.map entZ).length = xs'.length := Paired.length rel
  rw [List.length_map] at l1 z
  have l2 : es.size = xs'.length := size_of_entries hes
  have h16 : es.size ≤ sizeLine := by omega
  refine DT.sortedI (es := es) (ep := ep) (I.ok.hd hc) view ⟨o, ho, hx, hdat⟩ h16 fun h' tk as hk hlt hl hG => ?_
  have lak : as.length = ks.length := by omega
  have nd : as.Nodup := List.Pairwise.imp (fun h => Nat.ne_of_lt h) hG.rise
  have pr : ∀ (j : Nat) (b : Addr), as[j]? = some b → ∃ (x : PZ) (kq : Addr) (c : Tok), ks[j]? = some x ∧ H kq = some (.tup [.int x.1.1, .int x.1.2]) ∧ h'.get? b = some { cls := .type "tuple", data := .seq #[Value.ref kq, Value.str x.2 c] } := by
    intro j b hj
    obtain ⟨en, he, hg⟩ := hG.pairs j b hj
    rw [entry_at hes j] at he
    cases hxj : xs'[j]? with
    | none =>
      rw [hxj] at he
      exact nomatch (show (none : Option DictEntry) = some en from he)
    | some x =>
      rw [hxj] at he
      have een : entryOfKey (tupleKind (mixKind X.prog X.w)) x = en := Option.some.inj he
      obtain ⟨e0, he0, r1, r2, r3⟩ := L2.DX.pget rel hxj
      rw [List.getElem?_map] at he0
      cases hkj : ks[j]? with
      | none =>
        rw [hkj] at he0
        exact nomatch (show (none : Option (List L2.Key × V)) = some e0 from he0)
      | some y =>
        rw [hkj] at he0
        have ee : entZ y = e0 := Option.some.inj he0
        rw [← ee] at r2 r3
        obtain ⟨c, r4⟩ : ∃ c, x.2.2 = Value.str y.2 c := r3
        refine ⟨y, x.2.1, c, rfl, r2, ?_⟩
        rw [hg, ← een, ← r4]
        all_goals rfl
  have hob : (h'.push { cls := .type "list", data := .seq (as.map Value.ref).toArray }).get? h'.objs.size = some (seqObj "list" (as.map Value.ref).toArray 0) := Heap.get?_push_size _ rfl
  have kb : ∀ b o, s.heap.get? b = some o → (h'.push { cls := .type "list", data := .seq (as.map Value.ref).toArray }).get? b = some o := fun b o e => Heap.get?_push_of_some _ (hk b o e)
  have ne0 : ∀ b o, h'.get? b = some o → b ≠ h'.objs.size := fun b o e => Nat.ne_of_lt (Heap.lt_size e)
  generalize hh2 : h'.push { cls := .type "list", data := .seq (as.map Value.ref).toArray } = h2 at hob kb ⊢
  have ka : ∀ b o, h'.get? b = some o → h2.get? b = some o := fun b o e => by rw [← hh2]; exact Heap.get?_push_of_some _ e
  have pin : ∀ (j : Nat) (b : Addr), as[j]? = some b → ∃ x : PZ, ks[j]? = some x ∧ IsPZ h2 (.ref b) x := by
    intro j b hj
    obtain ⟨x, kq, c, hx, hkq, hg⟩ := pr j b hj
    obtain ⟨_, its, rv, ot, hot, hct, nt, hdt⟩ := (show ObjOk X.prog X.w H s.heap kq (.tup [.int x.1.1, .int x.1.2]) from I.hok kq _ hkq)
    obtain ⟨u1, u2, rfl, ⟨t1, rfl⟩, ⟨t2, rfl⟩⟩ := vals2 rv
    exact ⟨x, hx, b, kq, _, ot, t1, t2, c, 0, nt, rfl, ka _ _ hg, rfl, rfl, kb _ _ hot, hct, hdt⟩
  have at_ : ∀ v ∈ as.map Value.ref, ∃ (j : Nat) (b : Addr) (x : PZ), v = .ref b ∧ as[j]? = some b ∧ ks[j]? = some x ∧ IsPZ h2 v x := by
    intro v hv'
    obtain ⟨b, hb, rfl⟩ := List.mem_map.mp hv'
    obtain ⟨j, hj⟩ := List.mem_iff_getElem?.mp hb
    obtain ⟨x, hx, hp'⟩ := pin j b hj
    exact ⟨j, b, x, rfl, hj, hx, hp'⟩
  have hz : (as.map Value.ref).length ≤ sizeLine := by rw [List.length_map]; omega
  have inj : ∀ v ∈ as.map Value.ref, ∀ u ∈ as.map Value.ref, (pzOf h2 v).1 = (pzOf h2 u).1 → pzOf h2 v = pzOf h2 u := by
    intro v hv u hu' e
    obtain ⟨j, b, x, rfl, hj, hx, px⟩ := at_ v hv
    obtain ⟨i, b2, y, rfl, hi, hy, py⟩ := at_ u hu'
    rw [px.of, py.of] at e ⊢
    have e1 : (ks.map (·.1))[j]? = some x.1 := by rw [List.getElem?_map, hx]; rfl
    have e2 : (ks.map (·.1))[i]? = some x.1 := by rw [List.getElem?_map, hy, e]; rfl
    have : j = i := (List.getElem?_inj (List.getElem?_eq_some_iff.mp e1).1 hnd).mp (e1.trans e2.symm)
    subst this
    exact Option.some.inj (hx.symm.trans hy)
  refine wpAny_call_entry PyProof.Rows.slot_list_sort ⟨_, hob, rfl⟩ PyProof.Rows.entry_list_sort
    (SrtO.list_sort_ord (s := { s with heap := h2, toks := tk }) (swo_pz (pzOf h2)) hob hz (fun hl2 => pz_sortable (by omega) (fun v hv => ?_) inj (by show X.A.units + 1 + 1 < cLine; omega) fun ob e c => ?_) fun out hs hb => ⟨.none, rfl, ?_⟩)
    (PyProof.Rows.args_list_sort _)
  · obtain ⟨j, b, x, _, _, _, px⟩ := at_ v hv
    rw [px.of]
    exact px
  · have e' : some ob = some (seqObj "list" (as.map Value.ref).toArray 0) := e.symm.trans hob
    cases e'
    exact absurd (Value.type.inj c) (by decide)
  show EP X pins σ Q (.ref h'.objs.size) { s with heap := sortedHeap h2 h'.objs.size (as.map Value.ref) out.toArray, toks := tk }
  obtain ⟨eF, heF⟩ := PyProof.Rows.sortedHeap_at (vs := as.map Value.ref) (out := out.toArray) hob
  have ho3 : ∀ v ∈ out, ∃ (j : Nat) (b : Addr) (x : PZ), v = .ref b ∧ as[j]? = some b ∧ ks[j]? = some x ∧ IsPZ h2 v x := fun v hv => at_ v (hb.perm.mem_iff.mp hv)
  have hout : (out.map fun v => (adOf v, pzOf h2 v)).map (fun z => Value.ref z.1) = out := by
    rw [List.map_map]
    refine (List.map_congr_left fun v hv => ?_).trans (List.map_id _)
    obtain ⟨j, b, x, rfl, _⟩ := ho3 v hv
    rfl
  have hks2 : (as.map Value.ref).map (pzOf h2) = ks := by
    refine List.ext_getElem? fun j => ?_
    rw [List.getElem?_map, List.getElem?_map]
    cases hj : as[j]? with
    | none =>
      have e1 := List.getElem?_eq_none_iff.mp hj
      rw [List.getElem?_eq_none (by omega)]
      rfl
    | some b =>
      obtain ⟨x, hx, px⟩ := pin j b hj
      rw [hx]
      exact congrArg some px.of
  have kF : ∀ b o, b ≠ h'.objs.size → h2.get? b = some o → (sortedHeap h2 h'.objs.size (as.map Value.ref) out.toArray).get? b = some o := fun b o hb e => (PyProof.Rows.sortedHeap_old hb (Heap.lt_size e)).trans e
  have kS : ∀ b o, s.heap.get? b = some o → (sortedHeap h2 h'.objs.size (as.map Value.ref) out.toArray).get? b = some o := fun b o e => kF b o (ne0 _ _ (hk b o e)) (kb b o e)
  have I1 : Inv X pins σ H { s with heap := sortedHeap h2 h'.objs.size (as.map Value.ref) out.toArray, toks := tk } := I.kept (t' := tk) kS
  have hn0 : H h'.objs.size = none := I.hok.fresh (Nat.le_of_lt hlt)
  have hlen : ((out.map fun v => (adOf v, pzOf h2 v)).map fun z => V.ref z.1).length ≤ sizeLine := by
    rw [List.length_map, List.length_map, hb.perm.length_eq]
    exact hz
  have rv : Vals ((out.map fun v => (adOf v, pzOf h2 v)).map fun z => V.ref z.1) out := by
    have := vals_refZ (out.map fun v => (adOf v, pzOf h2 v))
    rw [hout] at this
    exact this
  have I2 : Inv X pins σ (upd H h'.objs.size (.lst ((out.map fun v => (adOf v, pzOf h2 v)).map fun z => V.ref z.1))) { s with heap := sortedHeap h2 h'.objs.size (as.map Value.ref) out.toArray, toks := tk } :=
    I1.take (h' := sortedHeap h2 h'.objs.size (as.map Value.ref) out.toArray) (t' := tk) (fun b ob _ e => e) (I.fpOk (Nat.le_of_lt hlt) hn0) ⟨hlen, out, eF, rv, heF⟩
  obtain ⟨H2, I3, g, qt⟩ := L2.DX.takeT (P := fun b vs => ∃ (j : Nat) (x : PZ) (kq : Addr), as[j]? = some b ∧ ks[j]? = some x ∧ vs = [.ref kq, .str x.2] ∧ H kq = some (.tup [.int x.1.1, .int x.1.2])) I as _ I2 nd fun b hb => by
    obtain ⟨j, hj⟩ := List.mem_iff_getElem?.mp hb
    obtain ⟨x, kq, c, hx, hkq, hg⟩ := pr j b hj
    have hbl : s.heap.objs.size ≤ b := Nat.le_of_lt (hG.above b hb)
    refine ⟨hbl, ?_, [.ref kq, .str x.2], ⟨j, x, kq, hj, hx, rfl, hkq⟩, fun H3 => ⟨(by rw [sizeLine_eq]; show 2 ≤ 16777216; omega), [Value.ref kq, Value.str x.2 c], .cons rfl (.cons ⟨_, rfl⟩ .nil), ⟨_, kF _ _ (ne0 _ _ hg) (ka _ _ hg), rfl, 0, rfl⟩⟩⟩
    rw [upd_ne (ne0 _ _ hg)]
    exact I.hok.fresh hbl
  have gr : ∀ b o, H b = some o → H2 b = some o := fun b o e => g b o (by rw [upd_ne (ne_of_none e hn0)]; exact e)
  refine ⟨.ref h'.objs.size, H2, I3, rfl, q H2 h'.objs.size (out.map fun v => (adOf v, pzOf h2 v)) hn0 gr ?_ ?_ (g _ _ upd_same) fun z' hz' => ?_⟩
  · rw [List.map_map, ← hks2]
    exact hb.perm.map _
  · rw [List.map_map, List.pairwise_map]
    exact hs
  · obtain ⟨v, hv, rfl⟩ := List.mem_map.mp hz'
    obtain ⟨j, b, x, rfl, hj, hx, px⟩ := ho3 v hv
    have hbm := List.mem_of_getElem? hj
    obtain ⟨vs, ⟨i, y, kq, i1, i2, ev, hkq⟩, hH⟩ := qt b hbm
    have eij : j = i := (List.getElem?_inj (List.getElem?_eq_some_iff.mp hj).1 nd).mp (hj.trans i1.symm)
    subst eij
    cases Option.some.inj (i2.symm.trans hx)
    rw [ev] at hH
    rw [px.of]
    exact ⟨I.hok.fresh (Nat.le_of_lt (hG.above b hbm)), kq, hH, gr _ _ hkq⟩
end
end Hk
/-! a dict comprehension of two clauses, tuples as keys -/
namespace Hk
open PySem PySem.Spec PyProof.Rows L2
abbrev dcc (kx vx ta ia tb ib : Expr) (fa fb : List Expr) (sc : Scope) (p : Pos) : Expr := .DictComp kx vx [⟨ta, ia, fa, 0⟩, ⟨tb, ib, fb, 0⟩] sc p
theorem turn_far (kx vx ta ia tb ib : Expr) (fa fb : List Expr) (sc : Scope) (p : Pos) (it acc : Value) (env : Env) :
    compTurn (dcc kx vx ta ia tb ib fa fb sc p) 0 it acc env = (do
      standAt ia.pos
      match ← pyNext it with
      | none => pure (.done .next)
      | some v =>
        letOwnedTupleGo ta it v
        assign ta env v
        let mut good := true
        for c in fa do
          if good then good ← isTrue c env (eval c env)
        if good then
          let y ← eval ib env
          standAt ib.pos
          let y ← foldedSetIterable ib env y
          let _ ← runOwn (.compStart (dcc kx vx ta ia tb ib fa fb sc p) 1 (← holding [y] (pyIter y)) acc env) env
        again (.compLoop (dcc kx vx ta ia tb ib fa fb sc p) 0 it acc env)) := by rfl
theorem turn_near (kx vx ta ia tb ib : Expr) (fa fb : List Expr) (sc : Scope) (p : Pos) (it : Value) (D : Addr) (env : Env) :
    compTurn (dcc kx vx ta ia tb ib fa fb sc p) 1 it (.ref D) env = (do
      standAt ib.pos
      match ← pyNext it with
      | none => pure (.done .next)
      | some v =>
        letOwnedTupleGo tb it v
        assign tb env v
        let mut good := true
        for c in fb do
          if good then good ← isTrue c env (eval c env)
        if good then
          (do
            let y ← eval kx env
            let z ← holding [y] (eval vx env)
            standAt { kx.pos with endLine := vx.pos.endLine, endCol := vx.pos.endCol }
            holding [y, z] (dictSet D y z))
        again (.compLoop (dcc kx vx ta ia tb ib fa fb sc p) 1 it (.ref D) env)) := by rfl
section
variable {prog : Program} {wd : World} {A : Around} {R : Result → Shared → Prop} {s : Shared} {kx vx ta ia tb ib : Expr} {fa fb : List Expr} {sc : Scope} {p : Pos} {it acc : Value} {D : Addr} {env : Env}
abbrev eR (prog : Program) (wd : World) (A : Around) (env : Env) (R : Result → Shared → Prop) : Value → Shared → Prop := notedBy (model prog wd) A env fun e u => R (.error e) u
abbrev fW (fs : List Expr) (env : Env) : Sem Bool := forIn fs true fun c r => if r = true then do let ok ← isTrue c env (eval c env); pure (ForInStep.yield ok) else pure (ForInStep.yield r)
/-- the far loop -/
theorem loop_far (hs : ∀ x, foldedSetIterable ib env x = pure x) (I : Nat → Shared → Prop)
    (turn : ∀ n s, I n s → wpAny (model prog wd) A (pyNext it) (fun r s1 => match r with
      | none => R (.ok .next) s1
      | some v => wpAny (model prog wd) A (letOwnedTupleGo ta it v) (fun _ s2 => wpAny (model prog wd) A (assign ta env v) (fun _ s3 =>
          wpAny (model prog wd) A (fW fa env) (fun ok s4 =>
            if ok = true then wpAny (model prog wd) A (eval ib env) (fun x s5 => wpAny (model prog wd) A (pyIter x) (fun jt s6 =>
              codeAny (model prog wd) A (.compStart (dcc kx vx ta ia tb ib fa fb sc p) 1 jt acc env) (fun r u => match r with
                | .ok _ => ∃ m, m < n ∧ I m u
                | .error _ => False) s6) (eR prog wd A env R) s5) (eR prog wd A env R) s4
            else ∃ m, m < n ∧ I m s4) (eR prog wd A env R) s3) (eR prog wd A env R) s2) (eR prog wd A env R) s1) (eR prog wd A env R) s)
    (n : Nat) (h : I n s) : codeAny (model prog wd) A (.compLoop (dcc kx vx ta ia tb ib fa fb sc p) 0 it acc env) R s := by
  refine codeAny_loop rfl I (fun n s hI => ?_) n h
  show wpAny _ A ((compTurn (dcc kx vx ta ia tb ib fa fb sc p) 0 it acc env).onRaise (fun e => do noteFrame e env; theTreesLotGoes e)) _ _ s
  refine wpAny_noted ?_
  rw [turn_far]
  refine wpAny_bind (wpAny_standAt (wpAny_bind (wpAny_mono (turn n s hI) (fun r s1 h1 => ?_) fun _ _ z => z)))
  cases r with
  | none => exact wpAny_pure h1
  | some v =>
    refine wpAny_bind (wpAny_mono h1 (fun _ s2 h2 => ?_) fun _ _ z => z)
    refine wpAny_bind (wpAny_mono h2 (fun _ s3 h3 => wpAny_bind (wpAny_mono h3 (fun ok s4 h4 => ?_) fun _ _ z => z)) fun _ _ z => z)
    cases ok with
    | false => exact wpAny_pure ⟨rfl, h4⟩
    | true =>
      refine wpAny_bind (wpAny_mono h4 (fun x s5 h5 => ?_) fun _ _ z => z)
      refine wpAny_bind (wpAny_standAt (wpAny_bind (wpAny_of_eq (hs x) (wpAny_bind (wpAny_holding (wpAny_mono h5 (fun jt s6 h6 => ?_) fun _ _ z => z))))))
      refine wpAny_bind (wpAny_runOwn ?_)
      rw [Around.mark_none]
      refine codeAny_mono h6 fun r u hr => ?_
      cases r with
      | error e => exact hr.elim
      | ok f =>
        first
          | exact wpAny_pure ⟨rfl, hr⟩
          | exact wpAny_bind (wpAny_pure (wpAny_pure ⟨rfl, hr⟩))
/-- the near loop -/
theorem loop_near (I : Nat → Shared → Prop)
    (turn : ∀ n s, I n s → wpAny (model prog wd) A (pyNext it) (fun r s1 => match r with
      | none => R (.ok .next) s1
      | some v => wpAny (model prog wd) A (letOwnedTupleGo tb it v) (fun _ s2 => wpAny (model prog wd) A (assign tb env v) (fun _ s3 =>
          wpAny (model prog wd) A (fW fb env) (fun ok s4 =>
            if ok = true then wpAny (model prog wd) A (eval kx env) (fun y s5 => wpAny (model prog wd) A (eval vx env) (fun z s6 =>
              wpAny (model prog wd) A (dictSet D y z) (fun _ s7 => ∃ m, m < n ∧ I m s7) (eR prog wd A env R) s6) (eR prog wd A env R) s5) (eR prog wd A env R) s4
            else ∃ m, m < n ∧ I m s4) (eR prog wd A env R) s3) (eR prog wd A env R) s2) (eR prog wd A env R) s1) (eR prog wd A env R) s)
    (n : Nat) (h : I n s) : codeAny (model prog wd) A (.compLoop (dcc kx vx ta ia tb ib fa fb sc p) 1 it (.ref D) env) R s := by
  refine codeAny_loop rfl I (fun n s hI => ?_) n h
  show wpAny _ A ((compTurn (dcc kx vx ta ia tb ib fa fb sc p) 1 it (.ref D) env).onRaise (fun e => do noteFrame e env; theTreesLotGoes e)) _ _ s
  refine wpAny_noted ?_
  rw [turn_near]
  refine wpAny_bind (wpAny_standAt (wpAny_bind (wpAny_mono (turn n s hI) (fun r s1 h1 => ?_) fun _ _ z => z)))
  cases r with
  | none => exact wpAny_pure h1
  | some v =>
    refine wpAny_bind (wpAny_mono h1 (fun _ s2 h2 => ?_) fun _ _ z => z)
    refine wpAny_bind (wpAny_mono h2 (fun _ s3 h3 => wpAny_bind (wpAny_mono h3 (fun ok s4 h4 => ?_) fun _ _ z => z)) fun _ _ z => z)
    cases ok with
    | false => exact wpAny_pure ⟨rfl, h4⟩
    | true =>
      exact wpAny_bind (wpAny_bind (wpAny_mono h4 (fun y s5 h5 => wpAny_bind (wpAny_holding (wpAny_mono h5 (fun z s6 h6 => wpAny_bind (wpAny_standAt (wpAny_holding (wpAny_mono h6 (fun _ s7 h7 => wpAny_pure ⟨rfl, h7⟩) fun _ _ z => z)))) fun _ _ z => z))) fun _ _ z => z))
theorem start_near (h0 : codeAny (model prog wd) A (.compLoop (dcc kx vx ta ia tb ib fa fb sc p) 1 it acc env) R s)
    (h : wpAny (model prog wd) A (pyIter it) (fun jt u => codeAny (model prog wd) A (.compLoop (dcc kx vx ta ia tb ib fa fb sc p) 1 jt acc env) R u) (eR prog wd A env R) s) :
    codeAny (model prog wd) A (.compStart (dcc kx vx ta ia tb ib fa fb sc p) 1 it acc env) R s := by
  refine codeAny_of_tree ?_
  show wpAny _ _ ((compStart (dcc kx vx ta ia tb ib fa fb sc p) 1 it acc env).onRaise (fun e => do noteFrame e env; standAt theWindowsPlace)) _ _ s
  refine wpAny_notedAt ?_
  unfold compStart
  show wpAny _ _ (ask >>= _) _ _ s
  refine wpAny_bind (wpAny_askSetting (wpAny_ite ?_))
  split
  · first
      | exact wpAny_bind (wpAny_pure (wpAny_pure ⟨rfl, h0⟩))
      | exact wpAny_pure ⟨rfl, h0⟩
  · first
      | exact wpAny_bind (wpAny_rule (wpAny_bind (wpAny_standAt (wpAny_bind (wpAny_mono h (fun jt u hu => wpAny_pure ⟨rfl, hu⟩) fun _ _ z => z)))))
      | (refine wpAny_bind (wpAny_rule ?_); show wpAny _ _ (standAt ib.pos >>= _) _ _ s; exact wpAny_bind (wpAny_standAt (wpAny_bind (wpAny_mono h (fun jt u hu => wpAny_pure ⟨rfl, hu⟩) fun _ _ z => z))))
end
section
variable {X : Cx} {pins : List (Addr × Obj)} {σ : L2.St} {H : Hp} {s : Shared}
/-- what the near clause does from a heap on: `Nx` behind it -/
def nearOk (D : Addr) (J1 : It) (g1 : TG) (tt1 : TT) (tk tv : TE) (vs1 : List Nat) (τ : L2.St) (Nx : Hp → Prop) (G : Hp) : Prop := ∃ W1 : Nat → Nat → Hp → Prop, (∃ m, W1 0 m G) ∧ ∀ j k G, W1 j k G →
  (J1.stop j G ∧ Nx G) ∨ (J1.go j G ∧ ∃ Nx1 : Hp → Prop, (∀ G', Nx1 G' → ∃ k', k' < k ∧ W1 (j + 1) k' G') ∧ ∀ x G', J1.yld j G x G' → g1 x (wipe τ vs1) G' fun τ3 G5 => wipe τ3 vs1 = wipe τ vs1 ∧ tt1 τ3 G5 fun ok G6 =>
    if ok = true then tk τ3 G6 fun y G7 => tv τ3 G7 fun z G8 => ∃ b kvs k, y = .ref b ∧ G8 b = some (.tup (k.map kV)) ∧ G8 D = some (.dT kvs) ∧ kvs.length < sizeLine ∧ Nx1 (upd G8 D (.dT (putK kvs k z))) else Nx1 G6)
def tD2 (wi : TI) (g : TG) (tt : TT) (wi1 : TI) (g1 : TG) (tt1 : TT) (tk tv : TE) (vs vs1 : List Nat) : TE := fun σ H Q => wi σ H fun It G => ∀ D, G D = none → ∃ W : Nat → Nat → Hp → Prop, (∃ m, W 0 m (upd G D (.dT []))) ∧ ∀ i m H, W i m H →
  (It.stop i H ∧ Q (.ref D) H) ∨ (It.go i H ∧ ∃ Nx : Hp → Prop, (∀ H', Nx H' → ∃ m', m' < m ∧ W (i + 1) m' H') ∧ ∀ x H', It.yld i H x H' → g x (wipe σ vs) H' fun τ H2 => wipe τ vs = wipe σ vs ∧ tt τ H2 fun ok H3 =>
    if ok = true then wi1 τ H3 fun J1 H4 => nearOk D J1 g1 tt1 tk tv vs1 τ Nx H4 else Nx H3)
structure NearP (X : Cx) (tb ib : Expr) (fb : List Expr) (scope : Scope) (wi1 : TI) (g1 : TG) (tt1 : TT) : Prop where
  i : ∀ (s : Shared) (H : Hp) (C : Addr) (cl : List (Str × Addr)) (fp : List Addr), PI (X.blk s H scope (compEnvC scope cl C X.env) fp) tb ib wi1
  g : ∀ (s : Shared) (H : Hp) (C : Addr) (cl : List (Str × Addr)) (fp : List Addr), PG (X.blk s H scope (compEnvC scope cl C X.env) fp) tb g1
  t : ∀ (s : Shared) (H : Hp) (C : Addr) (cl : List (Str × Addr)) (fp : List Addr), PTs (X.blk s H scope (compEnvC scope cl C X.env) fp) fb tt1
  f : ∀ env x, foldedSetIterable ib env x = pure x
theorem d2_core {Q : VK} {kx vx ta ia tb ib : Expr} {fa fb : List Expr} {scope : Scope} {own : List (Str × Nat)} {vs1 : List Nat} {pos pos' : Pos} {wi wi1 : TI} {g g1 : TG} {tt tt1 : TT} {tk tv : TE} {use : Option (Value → Sem Unit)} {Qf : Value → Shared → Prop}
    (hu : X.A.units + 1 < cLine) (hc : X.calm = true) (nd : X.N.Nodup) (J : Inv X pins σ H s) (pi : PI X ta ia wi) (ok : BlkOk X.N X.env.scope scope own) (hv : ∀ i ∈ vs1, i ∈ own.map (·.2)) (P : DtP X kx vx ta fa scope g tt tk tv) (P1 : NearP X tb ib fb scope wi1 g1 tt1)
    (fl : ∀ x, foldedSetIterable ia X.env x = pure x) (h : tD2 wi g tt wi1 g1 tt1 tk tv (own.map (·.2)) vs1 σ H Q)
    (back : ∀ D C s' m H', Inv X pins σ H' s' → Q (.ref D) H' → s'.heap.Ns C m → FpOk X pins H' C → compPost (model X.prog X.w) X.A X.xe use Qf (.ref D) C (.ok .next) s') :
    wpAny (model X.prog X.w) X.A (comprehension (dcc kx vx ta ia tb ib fa fb scope pos) scope X.env pos' newDict false (eval ia X.env) use) Qf X.xe s := by
  have frees : ∀ y ∈ scope.names, y.2 = .free → ∃ c, X.env.cells.lookup y.1 = some c := fun y hy e => by
    rcases ok.free y hy e with k | k
    all_goals exact J.ok.has _ (by first | exact .inl k | exact .inr k)
  refine wpAny_comprehension_free (use := use) rfl fl (closure_ok frees) ok.kind (fun y hy e => by rw [ok.uniq y hy, e]) (thn (pi.run pins s σ H _ J h) fun xv t1 hx => thn hx fun itv t2 got => ?_)
  obtain ⟨it, fp, tn, It, G2, rfl, J2, T, st2, f2, q⟩ := got
  refine wpAny_newObj_type (newEnv_comp ?_)
  generalize eD : t2.heap.objs.size = D
  obtain ⟨W, ⟨m0, w0⟩, turn⟩ := q D (J2.hok.fresh (Nat.le_of_eq eD))
  generalize e3 : ({ t2 with heap := t2.heap.push { cls := .type "dict", data := .dict #[] } } : Shared) = t3
  have q3 : t3.heap = t2.heap.push { cls := .type "dict", data := .dict #[] } := by rw [← e3]
  have J3 : Inv X pins σ (upd G2 D (.dT [])) t3 := by
    rw [← e3]
    exact J2.laid (t' := t2.toks) (fun b o e => Heap.get?_push_of_some _ e) (Nat.le_of_eq eD) (by rw [← eD]; exact dt_empty t2.heap J2.big)
  have below : ∀ b ∈ fp, b < t2.heap.objs.size := fun b hb => (T.obj _ _ st2 b hb).elim fun o z => Heap.lt_size z.1
  have f3 : ∀ b ∈ fp, FpOk X pins (upd G2 D (.dT [])) b ∧ b < t3.heap.objs.size := fun b hb => ⟨⟨by rw [upd_ne (by rw [← eD]; exact Nat.ne_of_lt (below b hb))]; exact (f2 b hb).1, (f2 b hb).2⟩, by rw [q3, Heap.size_push]; exact Nat.lt_succ_of_lt (below b hb)⟩
  have st3 : tn 0 t3.heap := T.keep _ _ _ st2 fun b _ o e => by rw [q3]; exact Heap.get?_push_of_some _ e
  have J4 := block_start J3 ok nd f3
  have pg := P.g t3 (upd G2 D (.dT [])) t3.heap.objs.size (cellsFrom (t3.heap.objs.size + 1) scope.names (cloFrom X.env.cells scope.names [])) fp
  have pt := P.t t3 (upd G2 D (.dT [])) t3.heap.objs.size (cellsFrom (t3.heap.objs.size + 1) scope.names (cloFrom X.env.cells scope.names [])) fp
  have pk := P.k t3 (upd G2 D (.dT [])) t3.heap.objs.size (cellsFrom (t3.heap.objs.size + 1) scope.names (cloFrom X.env.cells scope.names [])) fp
  have pv := P.v t3 (upd G2 D (.dT [])) t3.heap.objs.size (cellsFrom (t3.heap.objs.size + 1) scope.names (cloFrom X.env.cells scope.names [])) fp
  have pi1 := P1.i t3 (upd G2 D (.dT [])) t3.heap.objs.size (cellsFrom (t3.heap.objs.size + 1) scope.names (cloFrom X.env.cells scope.names [])) fp
  have pg1 := P1.g t3 (upd G2 D (.dT [])) t3.heap.objs.size (cellsFrom (t3.heap.objs.size + 1) scope.names (cloFrom X.env.cells scope.names [])) fp
  have pt1 := P1.t t3 (upd G2 D (.dT [])) t3.heap.objs.size (cellsFrom (t3.heap.objs.size + 1) scope.names (cloFrom X.env.cells scope.names [])) fp
  show codeAny _ _ (.compStart (dcc kx vx ta ia tb ib fa fb scope pos) 0 (.ref it) (.ref D) (compEnvC scope (cellsFrom (t3.heap.objs.size + 1) scope.names (cloFrom X.env.cells scope.names [])) t3.heap.objs.size X.env)) (compPost (model X.prog X.w) X.A X.xe use Qf (.ref D) t3.heap.objs.size) { t3 with heap := pushCells (t3.heap.push { cls := .type "dict", data := .dict #[] }) scope.names }
  have nofp : ∀ b ∈ fp, (upd G2 D (.dT [])) b = none := fun b hb => (f3 b hb).1.1
  generalize ec : compEnvC scope (cellsFrom (t3.heap.objs.size + 1) scope.names (cloFrom X.env.cells scope.names [])) t3.heap.objs.size X.env = ce at J4 pg pt pk pv pi1 pg1 pt1 ⊢
  have eloc : ce.locals = t3.heap.objs.size := by rw [← ec]; rfl
  generalize eG3 : upd G2 D (.dT []) = G3 at J3 J4 pg pt pk pv pi1 pg1 pt1 w0 nofp f3
  generalize e4 : ({ t3 with heap := pushCells (t3.heap.push { cls := .type "dict", data := .dict #[] }) scope.names } : Shared) = t4 at J4 ⊢
  have st4 : tn 0 t4.heap := T.keep _ _ _ st3 fun b _ o e => by rw [← e4]; exact pushCells_keeps _ _ _ _ (Heap.get?_push_of_some _ e)
  have stay : ∀ {τ : L2.St} {G : Hp} {u : Shared}, Inv (X.blk t3 G3 scope ce fp) [] τ G u → (∀ b ∈ fp, G b = none) → ∀ b ∈ fp, FpOk (X.blk t3 G3 scope ce fp) [] G b := fun {τ G u} J' hn b hb =>
    ⟨hn b hb, (J'.ok.exf b hb).1, J'.ok.exfs b hb, .inl hb, fun x c e => (J'.ok.exf b hb).2 x c e, fun p hp => absurd (show p ∈ ([] : List (Addr × Obj)) ++ [] from hp) (by simp)⟩
  have lp : codeAny (model X.prog X.w) X.A (.compLoop (dcc kx vx ta ia tb ib fa fb scope pos) 0 (.ref it) (.ref D) ce) (compPost (model X.prog X.w) X.A X.xe use Qf (.ref D) t3.heap.objs.size) t4 := by
    refine loop_far (P1.f ce) (fun n u => ∃ i G, Inv (X.blk t3 G3 scope ce fp) [] (wipe σ (own.map (·.2))) G u ∧ tn i u.heap ∧ (∀ b ∈ fp, G b = none) ∧ W i n G) (fun n t5 => ?_) m0 ⟨0, G3, J4, st4, nofp, w0⟩
    rintro ⟨i, G5, J5, st5, n5, w5⟩
    rcases turn i n G5 w5 with ⟨stop, qq⟩ | ⟨go, Nx, hNx, step⟩
    · refine thnF (T.done (X.blk t3 G3 scope ce fp) rfl rfl rfl hc i [] t5 _ G5 (fun _ _ => False) J5 (stay J5 n5) st5 stop) fun r t6 ⟨hr, J6⟩ => ?_
      subst hr
      have J7 : Inv X pins σ G5 t6 := J3.call' (ch := fp) J6.os J6.base J6.hok J6.bare fun b hb => ⟨(f3 b hb).1.2.2.2.1, (f3 b hb).1.2.1, (f3 b hb).1.2.2.2.2.1, (f3 b hb).1.2.2.2.2.2⟩
      obtain ⟨m, hm, _⟩ := J6.loc
      have hm : t6.heap.Ns ce.locals m := hm
      have nC : G5 ce.locals = none := J6.free
      rw [eloc] at hm nC
      exact back D t3.heap.objs.size t6 m G5 J7 qq hm (J3.fpOk (Nat.le_refl _) nC)
    · refine thnF (T.item (X.blk t3 G3 scope ce fp) rfl rfl rfl hc i [] t5 _ G5 (fun _ _ => False) J5 (stay J5 n5) st5 go) fun r t6 ⟨u, hr, h6⟩ => ?_
      subst hr
      refine thnF h6 fun _ t7 ⟨x, G7, J7, r7, y7, st7, n7⟩ => ?_
      have J7' := J7.pinned (stay J7 n7) (T.obj _ _ st7)
      refine thnF (pg.run _ t7 _ G7 x u _ J7' r7 (step x G7 y7)) fun _ t8 ⟨τ, G8, J8, w8, q8⟩ => ?_
      refine thnF (pt.run _ t8 τ G8 _ J8 q8) fun b t9 ⟨G9, J9, q9⟩ => ?_
      have knows : ∀ (j : Nat) v, (wipe σ (own.map (·.2)))[j]? = some (some v) → τ[j]? = some (some v) := fun j v e => by
        rw [← w8] at e
        exact (wipe_some e).1
      have fin : ∀ {τ' : L2.St} {u : Shared} {G : Hp}, Inv (X.blk t3 G3 scope ce fp) ([] ++ pinsAt fp t7.heap) τ' G u → (wipe σ (own.map (·.2))).length = τ'.length → (∀ (j : Nat) v, (wipe σ (own.map (·.2)))[j]? = some (some v) → τ'[j]? = some (some v)) → Nx G → ∃ m, m < n ∧ ∃ i G, Inv (X.blk t3 G3 scope ce fp) [] (wipe σ (own.map (·.2))) G u ∧ tn i u.heap ∧ (∀ b ∈ fp, G b = none) ∧ W i m G := fun {τ' u G} J' l1 l2 nx => by
        obtain ⟨m', hm, w'⟩ := hNx G nx
        have pin : ∀ b ∈ fp, ∀ o, t7.heap.get? b = some o → u.heap.get? b = some o ∧ G b = none := fun b hb o e => (J'.pin (b, o) (List.mem_append_right _ (List.mem_append_right _ (mem_pinsAt hb e)))).elim fun z1 z2 => ⟨z1, z2.1⟩
        exact ⟨m', hm, i + 1, G, (J'.unpinned (pins := [])).weak l1 l2, T.keep _ _ _ st7 fun b hb o e => (pin b hb o e).1, fun b hb => (T.obj _ _ st7 b hb).elim fun o z => (pin b hb o z.1).2, w'⟩
      cases b
      · simp only [Bool.false_eq_true, if_false] at q9 ⊢
        exact fin J9 (by rw [← w8, wipe_length]) knows q9
      · simp only [if_true] at q9 ⊢
        refine thnF (pi1.run _ t9 τ G9 _ J9 q9) fun xv t10 hx => thnF hx fun itv t11 h11 => ?_
        obtain ⟨it1, fp1, tn1, J1, G11, rfl, J11, T1, st11, f11, W1, ⟨m1, w1⟩, turn1⟩ := h11
        have stay1 : ∀ {G : Hp}, (∀ b ∈ fp1, G b = none) → ∀ b ∈ fp1, FpOk (X.blk t3 G3 scope ce fp) ([] ++ pinsAt fp t7.heap) G b := fun hn b hb => ⟨hn b hb, (f11 b hb).2⟩
        have lp1 : codeAny (model X.prog X.w) X.A (.compLoop (dcc kx vx ta ia tb ib fa fb scope pos) 1 (.ref it1) (.ref D) ce) (fun r u => match r with
              | .ok _ => ∃ m, m < n ∧ ∃ i G, Inv (X.blk t3 G3 scope ce fp) [] (wipe σ (own.map (·.2))) G u ∧ tn i u.heap ∧ (∀ b ∈ fp, G b = none) ∧ W i m G
              | .error _ => False) t11 := by
          refine loop_near (fun k u => ∃ j G, Inv (X.blk t3 G3 scope ce fp) ([] ++ pinsAt fp t7.heap) (wipe τ vs1) G u ∧ tn1 j u.heap ∧ (∀ b ∈ fp1, G b = none) ∧ W1 j k G) (fun k t12 => ?_) m1 ⟨0, G11, J11.weak (wipe_length _ _) (fun j v e => (wipe_some e).1), st11, fun b hb => (f11 b hb).1, w1⟩
          rintro ⟨j, G12, J12, st12, n12, w12⟩
          rcases turn1 j k G12 w12 with ⟨stop1, nx1⟩ | ⟨go1, Nx1, hNx1, step1⟩
          · refine thnF (T1.done (X.blk t3 G3 scope ce fp) rfl rfl rfl hc j _ t12 (wipe τ vs1) G12 (fun _ _ => False) J12 (stay1 n12) st12 stop1) fun r t13 ⟨hr, J13⟩ => ?_
            subst hr
            refine fin J13 (by rw [← w8, wipe_length, wipe_length]) (fun j v e => ?_) nx1
            rw [← w8] at e
            obtain ⟨e1, e2⟩ := wipe_some e
            rw [wipe_out fun z => e2 (hv j z)]
            exact e1
          · refine thnF (T1.item (X.blk t3 G3 scope ce fp) rfl rfl rfl hc j _ t12 (wipe τ vs1) G12 (fun _ _ => False) J12 (stay1 n12) st12 go1) fun r t13 ⟨u1, hr, h13⟩ => ?_
            subst hr
            refine thnF h13 fun _ t14 ⟨x1, G14, J14, r14, y14, st14, n14⟩ => ?_
            have J14' := J14.pinned (stay1 n14) (T1.obj _ _ st14)
            refine thnF (pg1.run _ t14 (wipe τ vs1) G14 x1 u1 _ J14' r14 (step1 x1 G14 y14)) fun _ t15 ⟨τ15, G15, J15, w15, q15⟩ => ?_
            refine thnF (pt1.run _ t15 τ15 G15 _ J15 q15) fun b1 t16 ⟨G16, J16, q16⟩ => ?_
            have fin1 : ∀ {u : Shared} {G : Hp}, Inv (X.blk t3 G3 scope ce fp) (([] ++ pinsAt fp t7.heap) ++ pinsAt fp1 t14.heap) τ15 G u → Nx1 G → ∃ m, m < k ∧ ∃ j G, Inv (X.blk t3 G3 scope ce fp) ([] ++ pinsAt fp t7.heap) (wipe τ vs1) G u ∧ tn1 j u.heap ∧ (∀ b ∈ fp1, G b = none) ∧ W1 j m G := fun {u G} J' nx => by
              obtain ⟨m', hm, w'⟩ := hNx1 G nx
              have pin : ∀ b ∈ fp1, ∀ o, t14.heap.get? b = some o → u.heap.get? b = some o ∧ G b = none := fun b hb o e => (J'.pin (b, o) (List.mem_append_right _ (List.mem_append_right _ (mem_pinsAt hb e)))).elim fun z1 z2 => ⟨z1, z2.1⟩
              exact ⟨m', hm, j + 1, G, J'.unpinned.weak (by rw [← w15, wipe_length]) (fun j v e => by rw [← w15] at e; exact (wipe_some e).1), T1.keep _ _ _ st14 fun b hb o e => (pin b hb o e).1, fun b hb => (T1.obj _ _ st14 b hb).elim fun o z => (pin b hb o z.1).2, w'⟩
            cases b1
            · simp only [Bool.false_eq_true, if_false] at q16 ⊢
              exact fin1 J16 q16
            · simp only [if_true] at q16 ⊢
              refine thnF (pk.run _ t16 τ15 G16 _ J16 q16) fun z t17 ⟨yk, G17, J17, r17, q17⟩ => ?_
              refine thnF (pv.run _ t17 τ15 G17 _ J17 q17) fun z2 t18 ⟨yv, G18, J18, r18, b, kvs, k, eb, hb, hD, lz, nx⟩ => ?_
              subst eb
              cases (show z = Value.ref b from r17)
              exact dt_set (X := X.blk t3 G3 scope ce fp) hu J18 hD lz hb r18 fun t19 J19 => fin1 J19 nx
        exact start_near lp1 (T1.self X.A 0 _ _ _ st11 lp1)
  exact codeAny_compStart_dict lp (T.self X.A 0 _ _ _ st4 lp)
theorem pe_d2 {kx vx ta ia tb ib : Expr} {fa fb : List Expr} {scope : Scope} {own : List (Str × Nat)} (vs1 : List Nat) {pos : Pos} {wi wi1 : TI} {g g1 : TG} {tt tt1 : TT} {tk tv : TE} (hu : X.A.units + 1 < cLine) (hc : X.calm = true) (nd : X.N.Nodup) (pi : PI X ta ia wi) (ok : BlkOk X.N X.env.scope scope own) (hv : ∀ i ∈ vs1, i ∈ own.map (·.2))
    (P : DtP X kx vx ta fa scope g tt tk tv) (P1 : NearP X tb ib fb scope wi1 g1 tt1) (fl : ∀ x, foldedSetIterable ia X.env x = pure x := by intro _; rfl) : PE X (dcc kx vx ta ia tb ib fa fb scope pos) (tD2 wi g tt wi1 g1 tt1 tk tv (own.map (·.2)) vs1) := by
  refine ⟨fun pins s σ H Q J h => ?_⟩
  rw [arm_eval_DictComp]
  refine d2_core hu hc nd J pi ok hv P P1 fl h fun D C s' m H' J' q hn f => ⟨m, hn, fun h'' sb => ?_⟩
  exact ⟨.ref D, H', J'.turned (t' := s'.toks) (fun b o hb e => (sb.2 b hb).trans e) f.1 f.2.1 f.2.2.2.1 f.2.2.2.2.1 f.2.2.2.2.2, rfl, q⟩
end
end Hk
namespace PySem
open Sem (wp)
open Builtin Builtin.Str Builtin.BaseException Builtin.Exceptions
open PySem.W (Looks Frag findIn subIn looks_findIn looks_subIn)
section
variable {prog : Program} {w : World} {K : Frag} {C e t0 : Addr} {h₀ : Heap}
/-- an exception of the class C without arguments -/
def HxExc (C e t0 : Addr) (h : Heap) : Prop := (∃ o vs, h.get? e = some o ∧ o.cls = .ref C ∧ o.data = .fields vs ∧ vs[0]? = some (.ref t0) ∧ o.dict = none) ∧ ∃ o n, h.get? t0 = some o ∧ o.cls = .type "tuple" ∧ o.data = .seq #[] n
theorem HxExc.mono {h h' : Heap} (x : HxExc C e t0 h) (k : ∀ b o, h.get? b = some o → h'.get? b = some o) : HxExc C e t0 h' := by
  obtain ⟨⟨o, vs, h1, h2⟩, o', n, h3, h4⟩ := x
  exact ⟨⟨o, vs, k _ _ h1, h2⟩, o', n, k _ _ h3, h4⟩
/-- the class's name -/
def HxName (K : Frag) (C : Addr) (nm : Str) : Prop := ∃ o cd, K.lookup C = some o ∧ o.data = .cls cd ∧ Str.ofString ((cd.name.toString.cutAt '.').getLastD "") = nm
/-- where the class's repr is the base's -/
structure HxRepr (K : Frag) (C : Addr) (nm : Str) : Prop where
  name : HxName K C nm
  find : findIn K (.ref C) "__repr__" = some (some (.builtin "BaseException.__repr__"))
  sub : subIn K (.ref C) (.type "BaseException") = some true
end
end PySem
/-! any value of the law's: what it is as data, where it stands, its repr -/
namespace Hu
open PySem PySem.Spec PyProof.Rows L2
/-- data: dct us is {'a': [us], 1: None}, exc an error of the one class -/
inductive U where
  | non | bl (b : Bool) | int (i : Int) | str (z : Str) | tup (us : List U) | lst (us : List U) | dct (us : List U) | exc
/-- an error of the class C as it stands at a, its arguments at t -/
def ExN (C t a : Addr) : HO := .ext fun h => ∃ o vs, h.get? a = some o ∧ o.cls = .ref C ∧ o.data = .fields vs ∧ vs[0]? = some (.ref t) ∧ o.dict = none
/-- a block's row -/
def blkS : U → Bool
  | .tup [.tup [.int _, .int _], .str _] => true
  | _ => false
/-- what may be told as blocks: these stand locked, so that a dict can be made of them -/
def isB (us : List U) : Bool := us.all blkS
/-- how a tuple of this data stands at a -/
def Tu (H : Hp) (a : Addr) (xs : List V) (us : List U) : Prop := if isB us = true then ∃ o : Obj, o.dict = none ∧ H a = some (.frz o (.tup xs)) else H a = some (.tup xs)
theorem Tu.got {H : Hp} {a : Addr} {xs : List V} {us : List U} (h : Tu H a xs us) : ∃ o, H a = some o ∧ (o = .tup xs ∨ ∃ b, o = .frz b (.tup xs)) := by
  unfold Tu at h
  split at h
  · obtain ⟨o, _, h⟩ := h
    exact ⟨_, h, .inr ⟨o, rfl⟩⟩
  · exact ⟨_, h, .inl rfl⟩
theorem Tu.mv {H H' : Hp} {a : Addr} {xs : List V} {us : List U} (k : ∀ o, H a = some o → H' a = some o) (h : Tu H a xs us) : Tu H' a xs us := by
  unfold Tu at h ⊢
  split at h
  · rename_i q
    obtain ⟨o, d, h⟩ := h
    rw [if_pos q]
    exact ⟨o, d, k _ h⟩
  · rename_i q
    rw [if_neg q]
    exact k _ h
theorem Tu.one {H : Hp} {a : Addr} {xs xs' : List V} {us us' : List U} (h : Tu H a xs us) (h' : Tu H a xs' us') : xs = xs' := by
  obtain ⟨o, e, q⟩ := h.got
  obtain ⟨o', e', q'⟩ := h'.got
  rw [e] at e'
  cases e'
  rcases q with rfl | ⟨b, rfl⟩
  · rcases q' with q' | ⟨b, q'⟩ <;> cases q'
    rfl
  · rcases q' with q' | ⟨b', q'⟩ <;> cases q'
    rfl
theorem Tu.ne {H : Hp} {a : Addr} {xs : List V} {us : List U} {u : HO} (h : Tu H a xs us) (e : H a = .some u) (n : u ≠ .tup xs) (n' : ∀ b, u ≠ .frz b (.tup xs)) : False := by
  obtain ⟨o, e', q⟩ := h.got
  rw [e'] at e
  cases e
  rcases q with q | ⟨b, q⟩
  · exact n q
  · exact n' b q
theorem Tu.st {K : PySem.W.Frag} {H : Hp} {a : Addr} {xs : List V} {us : List U} (h : Tu H a xs us) : SqT K H a xs := by
  obtain ⟨o, e, q⟩ := h.got
  rcases q with rfl | ⟨b, rfl⟩
  · exact .inl (.inl e)
  · exact .inl (.inr ⟨b, e⟩)
theorem Tu.ok {P : Program} {wd : World} {h₀ : Heap} {H : Hp} {a : Addr} {xs : List V} {us : List U} (h : Tu H a xs us) (ok : HOk P wd H h₀) : ObjOk P wd H h₀ a (.tup xs) := by
  obtain ⟨ho, e, q⟩ := h.got
  have := ok a _ e
  rcases q with rfl | ⟨b, rfl⟩
  · exact this
  · exact this.2
theorem Tu.plain {H : Hp} {a : Addr} {xs : List V} {us : List U} (h : Tu H a xs us) (q : isB us = false) : H a = .some (.tup xs) := by
  unfold Tu at h
  rwa [if_neg (by rw [q]; decide)] at h
theorem Tu.of {H : Hp} {a : Addr} {xs : List V} {us : List U} (h : H a = .some (.tup xs)) (q : isB us = false) : Tu H a xs us := by
  unfold Tu
  rwa [if_neg (by rw [q]; decide)]
theorem Tu.lock {H : Hp} {a : Addr} {xs : List V} {us : List U} (h : Tu H a xs us) (q : isB us = true) : ∃ o : Obj, o.dict = none ∧ H a = .some (.frz o (.tup xs)) := by
  unfold Tu at h
  rwa [if_pos q] at h
mutual
/-- the value v is the data u; all that it stands in is tracked, and isn't w -/
inductive At (w C : Addr) (H : Hp) : V → U → Prop
  | non : At w C H .non .non
  | bl (b : Bool) : At w C H (.bl b) (.bl b)
  | int (i : Int) : At w C H (.int i) (.int i)
  | str (z : Str) : At w C H (.str z) (.str z)
  | tup {a : Addr} {xs : List V} {us : List U} : Tu H a xs us → a ≠ w → AtL w C H xs us → At w C H (.ref a) (.tup us)
  | lst {a : Addr} {xs : List V} {us : List U} : H a = some (.lst xs) → a ≠ w → AtL w C H xs us → At w C H (.ref a) (.lst us)
  | dct {a b : Addr} {xs : List V} {us : List U} : H a = some (.dK [(.inr "a", .ref b), (.inl 1, .non)]) → a ≠ w → H b = some (.lst xs) → b ≠ w → AtL w C H xs us → At w C H (.ref a) (.dct us)
  | exc {a t : Addr} : H a = some (ExN C t a) → a ≠ w → H t = some (.tup []) → t ≠ w → At w C H (.ref a) .exc
inductive AtL (w C : Addr) (H : Hp) : List V → List U → Prop
  | nil : AtL w C H [] []
  | cons {v : V} {u : U} {vs : List V} {us : List U} : At w C H v u → AtL w C H vs us → AtL w C H (v :: vs) (u :: us)
end
section
variable {w C : Addr} {H H' : Hp}
mutual
theorem At.keep (k : ∀ b o, b ≠ w → H b = some o → H' b = some o) : ∀ {u : U} {v : V}, At w C H v u → At w C H' v u
  | _, _, .non => .non
  | _, _, .bl b => .bl b
  | _, _, .int i => .int i
  | _, _, .str z => .str z
  | _, _, .tup h n l => .tup (Tu.mv (fun o e => k _ o n e) h) n (AtL.keep k l)
  | _, _, .lst h n l => .lst (k _ _ n h) n (AtL.keep k l)
  | _, _, .dct h n h2 n2 l => .dct (k _ _ n h) n (k _ _ n2 h2) n2 (AtL.keep k l)
  | _, _, .exc h n h2 n2 => .exc (k _ _ n h) n (k _ _ n2 h2) n2
theorem AtL.keep (k : ∀ b o, b ≠ w → H b = some o → H' b = some o) : ∀ {us : List U} {vs : List V}, AtL w C H vs us → AtL w C H' vs us
  | _, _, .nil => .nil
  | _, _, .cons x l => .cons (x.keep k) (AtL.keep k l)
end
mutual
theorem At.one : ∀ {u u' : U} {v : V}, At w C H v u → At w C H v u' → u = u'
  | _, _, _, .non, y => by cases y; rfl
  | _, _, _, .bl b, y => by cases y; rfl
  | _, _, _, .int i, y => by cases y; rfl
  | _, _, _, .str z, y => by cases y; rfl
  | _, _, _, .tup h n l, y => by
    cases y with
    | tup h' _ l' => have := h.one h'; subst this; rw [AtL.one l l']
    | lst h' _ _ => exact (h.ne h' (fun z => by cases z) (fun _ z => by cases z)).elim
    | dct h' _ _ _ _ => exact (h.ne h' (fun z => by cases z) (fun _ z => by cases z)).elim
    | exc h' _ _ _ => exact (h.ne h' (fun z => by cases z) (fun _ z => by cases z)).elim
  | _, _, _, .lst h n l, y => by
    cases y with
    | tup h' _ l' => exact (h'.ne h (fun z => by cases z) (fun _ z => by cases z)).elim
    | lst h' _ l' => rw [h] at h'; cases h'; rw [AtL.one l l']
    | dct h' _ _ _ _ => rw [h] at h'; cases h'
    | exc h' _ _ _ => rw [h] at h'; cases h'
  | _, _, _, .dct h n h2 n2 l, y => by
    cases y with
    | tup h' _ l' => exact (h'.ne h (fun z => by cases z) (fun _ z => by cases z)).elim
    | lst h' _ l' => rw [h] at h'; cases h'
    | dct h' _ h2' _ l' =>
      rw [h] at h'
      cases h'
      rw [h2] at h2'
      cases h2'
      rw [AtL.one l l']
    | exc h' _ _ _ => rw [h] at h'; cases h'
  | _, _, _, .exc h n _ _, y => by
    cases y with
    | tup h' _ l' => exact (h'.ne h (fun z => by cases z) (fun _ z => by cases z)).elim
    | lst h' _ l' => rw [h] at h'; cases h'
    | dct h' _ _ _ _ => rw [h] at h'; cases h'
    | exc h' _ _ _ => rfl
theorem AtL.one : ∀ {us us' : List U} {vs : List V}, AtL w C H vs us → AtL w C H vs us' → us = us'
  | _, _, _, .nil, y => by cases y; rfl
  | _, _, _, .cons x l, y => by
    cases y with
    | cons x' l' => rw [At.one x x', AtL.one l l']
end
theorem AtL.length : ∀ {us : List U} {vs : List V}, AtL w C H vs us → vs.length = us.length
  | _, _, .nil => rfl
  | _, _, .cons x l => by rw [List.length_cons, List.length_cons, AtL.length l]
theorem AtL.get : ∀ {us : List U} {vs : List V} {i : Nat} {u : U}, AtL w C H vs us → us[i]? = some u → ∃ v, vs[i]? = some v ∧ At w C H v u
  | _, _, _, _, .nil, e => by simp at e
  | _, _, 0, _, .cons x l, e => by
    have := Option.some.inj e
    subst this
    exact ⟨_, rfl, x⟩
  | _, _, i + 1, _, .cons x l, e => AtL.get (i := i) l e
theorem AtL.append : ∀ {us us' : List U} {vs vs' : List V}, AtL w C H vs us → AtL w C H vs' us' → AtL w C H (vs ++ vs') (us ++ us')
  | _, _, _, _, .nil, y => y
  | _, _, _, _, .cons x l, y => .cons x (AtL.append l y)
theorem AtL.take : ∀ {us : List U} {vs : List V} (n : Nat), AtL w C H vs us → AtL w C H (vs.take n) (us.take n)
  | _, _, 0, _ => .nil
  | _, _, _ + 1, .nil => .nil
  | _, _, n + 1, .cons x l => .cons x (AtL.take n l)
theorem AtL.drop : ∀ {us : List U} {vs : List V} (n : Nat), AtL w C H vs us → AtL w C H (vs.drop n) (us.drop n)
  | _, _, 0, l => l
  | _, _, _ + 1, .nil => .nil
  | _, _, n + 1, .cons x l => AtL.drop n l
end
/-! ### its repr -/
mutual
def dep : U → Nat
  | .tup us | .lst us => depL us + 1
  | .dct us => depL us + 2
  | .exc => 3
  | _ => 0
def depL : List U → Nat
  | [] => 0
  | u :: us => max (dep u) (depL us)
end
end Hu
namespace Hu
open PySem PySem.Spec PyProof.Rows L2
section
variable {P : Program} {wd : World} {K : PySem.W.Frag} {w C : Addr} {H : Hp} {h₀ : Heap} {nm : Str}
/-- an empty tuple -/
def Emp (h : Heap) (b : Addr) : Prop := ∃ o m, h.get? b = some o ∧ o.cls = .type "tuple" ∧ o.data = .seq #[] m
def Inn (w C : Addr) (H : Hp) (h : Heap) (n : Nat) (bs : List Addr) : Prop := ∀ b ∈ bs, (∃ u, At w C H (.ref b) u ∧ dep u ≤ n) ∨ Emp h b
theorem Inn.mono {n m : Nat} {bs : List Addr} (x : Inn w C H h₀ n bs) (l : n ≤ m) : Inn w C H h₀ m bs := fun b hb => by
  rcases x b hb with ⟨u, a, d⟩ | e
  · exact .inl ⟨u, a, Nat.le_trans d l⟩
  · exact .inr e
theorem Inn.append {n : Nat} {bs cs : List Addr} (x : Inn w C H h₀ n bs) (y : Inn w C H h₀ n cs) : Inn w C H h₀ n (bs ++ cs) := fun b hb =>
  (List.mem_append.mp hb).elim (x b) (y b)
theorem Inn.cons {n : Nat} {bs : List Addr} {a : Addr} {u : U} (x : Inn w C H h₀ n bs) (y : At w C H (.ref a) u) (l : n ≤ dep u) : Inn w C H h₀ (dep u) (a :: bs) := fun b hb => by
  rcases List.mem_cons.mp hb with e | hb
  · subst e
    exact .inl ⟨u, y, Nat.le_refl _⟩
  · exact (x.mono l) b hb
end
end Hu
/-! a def run where the guards around it are known to be none: for what asks for a repr -/
namespace Hu
open PySem PySem.Spec PyProof.Rows L2
end Hu
/-! isinstance of any value of the law's, and the error that it may be -/
namespace Hu
open PySem PySem.Spec PyProof.Rows L2
/-- the class of the errors among the values: how isinstance asks them, what repr tells -/
structure Xc (K : PySem.W.Frag) (mg : Str → Option Value) (x : Str) (C : Addr) (nm : Str) : Prop where
  g : mg x = some (.ref C)
  x : PySem.W.excIn K C [.type "ValueError", .type "Exception", .type "BaseException", .type "object"] "ValueError.__new__" = true
  k : PySem.W.keepIn K (.ref C) = true
  c : L2.ExcC K C
  r : HxRepr K C nm
  ki : PySem.W.kitOne K (.ref C) (.type "int") = some false
  kb : PySem.W.kitOne K (.ref C) (.type "bool") = some false
  ks : PySem.W.kitOne K (.ref C) (.type "str") = some false
  kt : PySem.W.kitOne K (.ref C) (.type "tuple") = some false
def tyU : U → String
  | .non => "NoneType"
  | .bl _ => "bool"
  | .int _ => "int"
  | .str _ => "str"
  | .tup _ => "tuple"
  | .lst _ => "list"
  | .dct _ => "dict"
  | .exc => "?"
def isS (S T : String) : Bool := S == T || (S == "bool" && T == "int")
/-- isinstance(u, T), T one of int, bool, str, tuple -/
def isT (u : U) (T : String) : Bool := isS (tyU u) T
theorem kit_is {S T : String} (hS : S ∈ ["NoneType", "bool", "int", "str", "tuple", "list", "dict"]) (hT : T ∈ ["int", "bool", "str", "tuple"]) : kitB S T = some (isS S T) := by
  have : (["NoneType", "bool", "int", "str", "tuple", "list", "dict"].all fun S => ["int", "bool", "str", "tuple"].all fun T => decide (kitB S T = some (isS S T))) = true := by decide +kernel
  exact of_decide_eq_true (List.all_eq_true.mp (List.all_eq_true.mp this S hS) T hT)
theorem ExN.inst {P : Program} {wd : World} {H : Hp} {h : Heap} {C a t : Addr} (ok : HOk P wd H h) (e : H a = some (ExN C t a)) : ∃ o, PySem.W.InstAt h a o C none := by
  obtain ⟨⟨o, vs, h1, h2, h3, _, h5⟩, _, _⟩ := ok a _ e
  refine ⟨o, ?_⟩
  obtain ⟨oc, od, oda, osl⟩ := o
  dsimp only at h2 h3 h5
  subst h2 h3 h5
  exact ⟨h1, rfl, rfl, trivial⟩
section
variable {X : Cx} {w C : Addr} {nm x : Str}
/-- isinstance(v, T) -/
theorem call_isiU (T : String) (E : Xc X.K X.mg x C nm) (hT : T ∈ ["int", "bool", "str", "tuple"]) :
    CallR X (.builtin "isinstance") (fun xs H Q => ∃ (v : V) (u : U) (w : Addr), xs = [v, .ty T] ∧ At w C H v u ∧ Q (.bl (isT u T)) H) := by
  intro pins s σ H xs us Q I r h
  obtain ⟨v, u, w, rfl, hat, q⟩ := h
  have plain : ∀ S, TyX X.K H v (.type S) → kitB S T = some (isT u T) → wpAny (model X.prog X.w) X.A (call (.builtin "isinstance") us) (EP X pins σ Q) X.xe s := fun S ty kb =>
    call_isi pins s σ H _ us Q I r ⟨v, .ty T, .type S, .type T, isT u T, rfl, .ty T, ty, kit_ty kb, q⟩
  cases hat with
  | non => exact plain _ (.base .non) (kit_is (by simp) hT)
  | bl b => exact plain _ (.base (.bl b)) (kit_is (by simp) hT)
  | int i => exact plain _ (.base (.int i)) (kit_is (by simp) hT)
  | str z => exact plain _ (.base (.str z)) (kit_is (by simp) hT)
  | tup h _ _ =>
    obtain ⟨ho, e, q⟩ := h.got
    rcases q with rfl | ⟨b, rfl⟩
    · exact plain _ (.base (.tup e)) (kit_is (by simp) hT)
    · exact plain _ (.fTuple e) (kit_is (by simp) hT)
  | lst h _ _ => exact plain _ (.base (.lst h)) (kit_is (by simp) hT)
  | dct h _ _ _ _ => exact plain _ (.base (.dK h)) (kit_is (by simp) hT)
  | exc h n _ _ =>
    obtain ⟨u1, u2, rfl, r1, r2⟩ := vals2 r
    cases r1
    cases r2
    obtain ⟨o, J⟩ := ExN.inst I.hok h
    have c := E.c
    have e : PySem.W.kitOne X.K (.ref C) (.type T) = some false ∧ isT .exc T = false := by
      simp only [List.mem_cons, List.not_mem_nil, or_false] at hT
      rcases hT with rfl | rfl | rfl | rfl
      · exact ⟨E.ki, by decide +kernel⟩
      · exact ⟨E.kb, by decide +kernel⟩
      · exact ⟨E.ks, by decide +kernel⟩
      · exact ⟨E.kt, by decide +kernel⟩
    rw [e.2] at q
    exact PySem.W.kia_one (PySem.W.handS_kitx_exc c.hg c.hk c.hs c.hd c.ha c.hn c.ht c.hm) I.kIn J e.1 (fun z => nomatch z) fun tk => ⟨.bl false, H, I.tok tk, rfl, q⟩
end
end Hu
namespace Hs
open PySem PySem.Spec PyProof.Rows L2
def topS (i : Nat) : Stmt := PySem.Challenge.pw_homeshold_k08_whole_mends_join_in_any_or.main.body.getD i (.Pass ⟨0, 0, 0, 0⟩)
abbrev sMixed : Stmt := topS 92
abbrev sWell : Stmt := topS 93
abbrev sFilled : Stmt := topS 94
abbrev sDraw : Stmt := topS 95
/-! ### heaps -/
/-- all that was tracked stands as it was, but for what stands at w -/
def Keep (w : Addr) (H H' : Hp) : Prop := ∀ b o, b ≠ w → H b = some o → H' b = some o
theorem Keep.refl (w : Addr) (H : Hp) : Keep w H H := fun _ _ _ h => h
theorem Keep.trans {w : Addr} {H H1 H2 : Hp} (a : Keep w H H1) (b : Keep w H1 H2) : Keep w H H2 := fun c o n h => b c o n (a c o n h)
theorem Keep.of_same {w : Addr} {H H' : Hp} (s : Same H H') : Keep w H H' := fun b o _ h => s b o h
theorem Keep.updw {w : Addr} {H : Hp} {o : HO} : Keep w H (upd H w o) := fun b u n h => by
  rw [upd_ne n]
  exact h
theorem same_upd {H : Hp} {p : Addr} {o : HO} (h : H p = none) : Same H (upd H p o) := fun b x e => by
  rw [upd_ne (ne_of_none e h)]
  exact e
theorem Keep.new {w : Addr} {H : Hp} {p : Addr} {o : HO} (h : H p = none) : Keep w H (upd H p o) := .of_same (same_upd h)
/-- where a well stands: w the well, c its cells -/
structure WA where
  (w c : Addr)
/-- a well: a list of the cells, how many were taken, what is left of a cell, the mix -/
structure Well (H : Hp) (a : WA) : Prop where
  ex : ∃ (cells : List Int) (pos : Nat) (rest mix : Int), H a.w = some (.lst [.ref a.c, .int (pos : Int), .int rest, .int mix]) ∧ H a.c = some (.lst (cells.map V.int)) ∧ a.c ≠ a.w ∧ (cells.length ≤ 63)
/-- what a draw leaves -/
structure Drawn (a : WA) (H H' : Hp) : Prop where
  keep : Keep a.w H H'
  well : Well H' a
variable {a : WA} {H H' H1 H2 : Hp} {p : Addr} {o : HO}
theorem Drawn.refl (h : Well H a) : Drawn a H H := ⟨.refl _ _, h⟩
theorem Drawn.trans (x : Drawn a H H1) (y : Drawn a H1 H2) : Drawn a H H2 := ⟨x.keep.trans y.keep, y.well⟩
theorem Well.same (h : Well H a) (s : Same H H') : Well H' a := by
  obtain ⟨cells, pos, rest, mix, h1, h2, n, l⟩ := h.ex
  exact ⟨cells, pos, rest, mix, s _ _ h1, s _ _ h2, n, l⟩
theorem Drawn.same (x : Drawn a H H1) (y : Same H1 H2) : Drawn a H H2 := ⟨x.keep.trans (.of_same y), x.well.same y⟩
theorem Drawn.new (x : Drawn a H H1) (h : H1 p = none) : Drawn a H (upd H1 p o) := x.same (same_upd h)
theorem Well.at (h : Well H a) : ∃ o, H a.w = some o := by
  obtain ⟨cells, pos, rest, mix, h1, _⟩ := h.ex
  exact ⟨_, h1⟩
theorem Well.ne (h : Well H a) (n : H p = none) : p ≠ a.w ∧ p ≠ a.c := by
  obtain ⟨cells, pos, rest, mix, h1, h2, _⟩ := h.ex
  exact ⟨(ne_of_none h1 n).symm, (ne_of_none h2 n).symm⟩
theorem Drawn.free (e : Drawn a H H') (hw : Well H a) (h : H' p = Option.none) : H p = Option.none := by
  by_cases q : p = a.w
  · subst q
    obtain ⟨o, h1⟩ := e.well.at
    rw [h1] at h
    cases h
  · cases z : H p with
    | none => rfl
    | some o =>
      rw [e.keep p o q z] at h
      cases h
/-- what is new since H is written -/
theorem Drawn.put (x : Drawn a H H1) (hw : Well H a) (n : H p = none) : Drawn a H (upd H1 p o) := by
  obtain ⟨n1, n2⟩ := hw.ne n
  refine ⟨fun b u nb e => ?_, ?_⟩
  · rw [upd_ne (ne_of_none e n)]
    exact x.keep b u nb e
  · obtain ⟨cells, pos, rest, mix, h1, h2, n, l⟩ := x.well.ex
    exact ⟨cells, pos, rest, mix, by rw [upd_ne n1.symm]; exact h1, by rw [upd_ne n2.symm]; exact h2, n, l⟩
/-- the names of the built-ins that the text leaves alone -/
structure Bt (mg : Str → Option Value) : Prop where
  int : mg "int" = none
  len : mg "len" = none
  range : mg "range" = none
  all : mg "all" = none
  isi : mg "isinstance" = none
  tup : mg "tuple" = none
  lst : mg "list" = none
  str : mg "str" = none
  max : mg "max" = none
  boo : mg "bool" = none
  sum : mg "sum" = none
  rep : mg "repr" = none
section
variable {P : Program} {w : World} {K : PySem.W.Frag} {mg : Str → Option Value} {base : Heap}
/-! ### the draws -/
def spMixed : Sp := fun vs H Q _ => ∃ n : Int, vs = [.int n] ∧ ∀ r : Int, Q (.int r) H
theorem scMixed : FnScope ["number"] ["number"] (defScope sMixed) := ⟨rfl, rfl, rfl, by decide +kernel, rfl, by decide +kernel, by decide +kernel⟩
theorem fmod_lt {a b : Int} (h : 0 < b) : 0 ≤ a.fmod b ∧ a.fmod b < b := by
  rw [Int.fmod_eq_emod_of_nonneg _ (Int.le_of_lt h)]
  exact ⟨Int.emod_nonneg _ (by omega), Int.emod_lt_of_pos _ h⟩
theorem nz {j : Int} (h : decide (j = 0) = false) : j ≠ 0 := of_decide_eq_false h
theorem ok_mixed {f : Addr} {fd : FuncData} (F : Fun K "_law_mixed" "_law_mixed" sMixed f fd) (B : Bt mg) : FnOk P w K mg base CX0 1 f fd ["number"] spMixed := by
  refine F.ok scMixed (fun vs H Q E h => ?_) (fun cdv A outer s H vs Q E hr h => ?_)
  · obtain ⟨n, rfl, _⟩ := h
    rfl
  · obtain ⟨n, rfl, k⟩ := h
    have hI := B.int
    refine ⟨_, pss_cons (ps_set (i := 0) scMixed.nd rfl (.inl rfl) (pe_op op_modN (pe_callTy call_int1 (by rfl) hI boot_int (pa_cons (pe_op op_add (pe_op op_mul (pv 0) pe_int) pe_int) pa_nil)) pe_int))
      (pss_cons (ps_set (i := 0) scMixed.nd rfl (.inl rfl) (pe_op op_modN (pe_callTy call_int1 (by rfl) hI boot_int (pa_cons (pe_op op_add (pe_op op_mul (pv 0) (pe_op op_add (pe_op op_fdivN (pv 0) pe_int) pe_int)) pe_int) pa_nil)) pe_int))
      (pss_one (ps_ret (pe_op op_add (pe_op op_mul (pv 0) pe_int) (pe_op op_modN (pe_callTy call_int1 (by rfl) hI boot_int (pa_cons (pe_op op_add (pe_op op_mul (pv 0) (pe_op op_add (pe_op op_fdivN (pv 0) pe_int) pe_int)) pe_int) pa_nil)) pe_int))))), ?_⟩
    refine ⟨_, rfl, _, _, rfl, rfl, .inr (by decide), _, _, rfl, rfl, .inl ⟨_, rfl, _, _, rfl, rfl, nz rfl, ?_⟩⟩
    have b1 := fmod_lt (a := n * 48271 + 11) (b := 2147483647) (by decide)
    refine ⟨_, rfl, _, rfl, _, _, rfl, rfl, ⟨by decide, by decide⟩, _, _, rfl, rfl, _, _, rfl, rfl, .inl ⟨by omega, by omega⟩, _, _, rfl, rfl, .inl ⟨_, rfl, _, _, rfl, rfl, nz rfl, ?_⟩⟩
    have b2 := fmod_lt (a := (n * 48271 + 11).fmod 2147483647 * (((n * 48271 + 11).fmod 2147483647).fdiv 1009 + 69621) + 7919) (b := 2147483647) (by decide)
    refine ⟨_, rfl, _, _, rfl, rfl, .inl ⟨by omega, by omega⟩, _, rfl, _, rfl, _, _, rfl, rfl, ⟨by decide, by decide⟩, _, _, rfl, rfl, _, _, rfl, rfl, .inl ⟨by omega, by omega⟩, _, _, rfl, rfl, .inl ⟨_, rfl, _, _, rfl, rfl, nz rfl, ?_⟩⟩
    exact ⟨_, _, rfl, rfl, k _⟩
/-- a def of the text, found by its name -/
structure Df (K : PySem.W.Frag) (mg : Str → Option Value) (x : Str) (st : Stmt) (ps : List Str) (f : Addr) (fd : FuncData) : Prop where
  F : Fun K x x st f fd
  b : Binds K fd ps []
  g : mg x = some (.ref f)
def spFilled : Sp := fun vs H Q _ => ∃ wl : WA, vs = [.ref wl.w] ∧ Well H wl ∧ ∀ (r : Int) (H' : Hp), Drawn wl H H' → Q (.int r) H'
theorem scFilled : FnScope ["well", "cell"] ["well"] (defScope sFilled) := ⟨rfl, rfl, rfl, by decide +kernel, rfl, by decide +kernel, by decide +kernel⟩
theorem ok_filled {f fM : Addr} {fd fdM : FuncData} (F : Fun K "_law_filled" "_law_filled" sFilled f fd) (B : Bt mg) (DM : Df K mg "_law_mixed" sMixed ["number"] fM fdM) : FnOk P w K mg base CX0 2 f fd ["well"] spFilled := by
  have GM : FnOk P w K mg base CX0 1 fM fdM ["number"] spMixed := ok_mixed DM.F B
  refine F.ok scFilled (fun vs H Q E h => ?_) (fun cdv A outer s H vs Q E hr h => ?_)
  · obtain ⟨n, rfl, _⟩ := h
    rfl
  · obtain ⟨wl, rfl, W, k⟩ := h
    have hI := B.int
    have hL := B.len
    refine ⟨_, pss_cons (ps_asg (pe_op op_add (pe_ix ix_list (pv 0) pe_int (fun _ _ => rfl)) pe_int) (pg_sub (pv 0) pe_int set_list))
      (pss_cons (ps_if (pt_cmpR op_le (pe_ix ix_list (pv 0) pe_int (fun _ _ => rfl)) (pe_callB call_len_seq (by rfl) hL PySem.boot_len (pa_cons (pe_ix ix_list (pv 0) pe_int (fun _ _ => rfl)) pa_nil)) (nomark _))
        (pss_cons (ps_set (i := 1) scFilled.nd rfl (.inl rfl) (pe_ix ix_list (pe_ix ix_list (pv 0) pe_int (fun _ _ => rfl)) (pe_op op_sub (pe_ix ix_list (pv 0) pe_int (fun _ _ => rfl)) pe_int) (fun _ _ => rfl)))
          (pss_cons (ps_asg (pe_op op_modN (pe_callTy call_int1 (by rfl) hI boot_int (pa_cons (pe_op op_add (pe_op op_add (pe_op op_mul (pe_ix ix_list (pv 0) pe_int (fun _ _ => rfl)) pe_int) (pv 1)) pe_int) pa_nil)) pe_int) (pg_sub (pv 0) pe_int set_list))
            (pss_cons (ps_if (pt_cmpR op_ge (pv 1) (pe_op op_pow pe_int pe_int) (nomark _)) (pss_one (ps_ret (pv 1))) pss_nil)
              (pss_one (ps_ret (pe_call GM hr (by rfl) DM.g DM.F.kp DM.b .nil pass0 (pa_cons (pe_op op_add (pv 1) (pe_op op_mul pe_int (pe_ix ix_list (pv 0) pe_int (fun _ _ => rfl)))) pa_nil))))))) pss_nil)
      (pss_one (ps_ret (pe_call GM hr (by rfl) DM.g DM.F.kp DM.b .nil pass0 (pa_cons (pe_op op_add (pe_ix ix_list (pv 0) pe_int (fun _ _ => rfl)) (pe_op op_mul pe_int (pe_ix ix_list (pv 0) pe_int (fun _ _ => rfl)))) pa_nil))))), ?_⟩
    obtain ⟨wl, c⟩ := wl
    obtain ⟨cells, pos, rest, mix, h1, h2, n, l⟩ := W.ex
    dsimp only at h1 h2 n
    refine ⟨_, rfl, wl, _, _, _, rfl, rfl, SqL.of h1, atI_nat (j := 1) rfl, _, _, rfl, rfl, ?_⟩
    refine ⟨_, rfl, wl, _, _, _, rfl, rfl, h1, rfl, ?_⟩
    have u1 := upd_same (H := H) (a := wl) (o := .lst [.ref c, .int ((pos : Int) + 1), .int rest, .int mix])
    have u2 : upd H wl (.lst [.ref c, .int ((pos : Int) + 1), .int rest, .int mix]) c = some (.lst (cells.map V.int)) := by
      rw [upd_ne n]
      exact h2
    refine ⟨_, rfl, wl, _, _, _, rfl, rfl, SqL.of u1, atI_nat (j := 1) rfl, _, rfl, wl, _, _, _, rfl, rfl, SqL.of u1, atI_nat (j := 0) rfl, c, _, rfl, .inl (SqL.of u2), _, _, rfl, rfl, _, rfl, ?_⟩
    refine ite2 (fun q => ?_) (fun q => ?_)
    · have q1 : (pos : Int) + 1 ≤ ((cells.map V.int).length : Int) := of_decide_eq_true q
      rw [List.length_map] at q1
      have q2 : pos < cells.length := by omega
      have e1 : (cells.map V.int)[pos]? = some (.int cells[pos]) := by
        rw [List.getElem?_map, List.getElem?_eq_getElem q2]
        rfl
      refine ⟨_, rfl, wl, _, _, _, rfl, rfl, SqL.of u1, atI_nat (j := 0) rfl, _, rfl, wl, _, _, _, rfl, rfl, SqL.of u1, atI_nat (j := 1) rfl, _, _, rfl, rfl, c, _, _, _, rfl, rfl, SqL.of u2, at_of (by omega) e1, ?_⟩
      refine ⟨_, rfl, wl, _, _, _, rfl, rfl, SqL.of u1, atI_nat (j := 3) rfl, _, _, rfl, rfl, .inr (by decide), _, rfl, _, _, rfl, rfl, _, _, rfl, rfl, .inl ⟨_, rfl, _, _, rfl, rfl, nz rfl, ?_⟩⟩
      refine ⟨_, rfl, wl, _, _, _, rfl, rfl, u1, rfl, ?_⟩
      have D : ∀ z : Int, Drawn ⟨wl, c⟩ H (upd (upd H wl (.lst [.ref c, .int ((pos : Int) + 1), .int rest, .int mix])) wl (.lst [.ref c, .int ((pos : Int) + 1), .int rest, .int z])) := fun z => by
        rw [upd_upd]
        refine ⟨.updw, ⟨cells, pos + 1, rest, z, ?_, ?_, n, l⟩⟩
        · exact upd_same
        · rw [upd_ne n]
          exact h2
      refine ⟨_, rfl, _, _, rfl, rfl, ⟨by decide, by decide, by decide⟩, _, _, rfl, rfl, _, rfl, ite2 (fun q => ?_) (fun q => ?_)⟩
      · exact ⟨_, rfl, k _ _ (D _)⟩
      · refine ⟨_, rfl, _, rfl, wl, _, _, _, rfl, rfl, SqL.of upd_same, atI_nat (j := 1) rfl, _, _, rfl, rfl, .inl (by decide), _, _, rfl, rfl, ?_⟩
        exact ⟨_, rfl, fun r => k _ _ (D _)⟩
    · have D : Drawn ⟨wl, c⟩ H (upd H wl (.lst [.ref c, .int ((pos : Int) + 1), .int rest, .int mix])) := ⟨.updw, ⟨cells, pos + 1, rest, mix, upd_same, u2, n, l⟩⟩
      refine ⟨_, rfl, wl, _, _, _, rfl, rfl, SqL.of u1, atI_nat (j := 3) rfl, _, rfl, wl, _, _, _, rfl, rfl, SqL.of u1, atI_nat (j := 1) rfl, _, _, rfl, rfl, .inl (by decide), _, _, rfl, rfl, ?_⟩
      exact ⟨_, rfl, fun r => k _ _ D⟩
def spDraw : Sp := fun vs H Q _ => ∃ (wl : WA) (m : Int), vs = [.ref wl.w, .int m] ∧ Well H wl ∧ 0 < m ∧ m < 2 ^ 62 ∧ ∀ (d : Int) (H' : Hp), 0 ≤ d → d < m → Drawn wl H H' → Q (.int d) H'
theorem scDraw : FnScope ["well", "many", "told"] ["well", "many"] (defScope sDraw) := ⟨rfl, rfl, rfl, by decide +kernel, rfl, by decide +kernel, by decide +kernel⟩
theorem ok_draw {f fM fF : Addr} {fd fdM fdF : FuncData} (F : Fun K "_law_draw" "_law_draw" sDraw f fd) (B : Bt mg) (DM : Df K mg "_law_mixed" sMixed ["number"] fM fdM) (DF : Df K mg "_law_filled" sFilled ["well"] fF fdF) : FnOk P w K mg base CX0 3 f fd ["well", "many"] spDraw := by
  have GF : FnOk P w K mg base CX0 2 fF fdF ["well"] spFilled := ok_filled DF.F B DM
  refine F.ok scDraw (fun vs H Q E h => ?_) (fun cdv A outer s H vs Q E hr h => ?_)
  · obtain ⟨n, m, rfl, _⟩ := h
    rfl
  · obtain ⟨wl, m, rfl, W, m0, m1, k⟩ := h
    have hI := B.int
    refine ⟨_, Evl.pss_cut (ps_if (pt_cmpR op_eq (pe_ix ix_list (pv 0) pe_int (fun _ _ => rfl)) pe_int (nomark _)) (pss_one (ps_asg (pe_call GF hr (by rfl) DF.g DF.F.kp DF.b .nil pass0 (pa_cons (pv 0) pa_nil)) (pg_sub (pv 0) pe_int set_list))) pss_nil)
      (pss_cons (ps_set (i := 2) scDraw.nd rfl (.inl rfl) (pe_op op_modN (pe_callTy call_int1 (by rfl) hI boot_int (pa_cons (pe_ix ix_list (pv 0) pe_int (fun _ _ => rfl)) pa_nil)) (pv 1)))
      (pss_cons (ps_asg (pe_op op_fdivW (pe_callTy call_int1 (by rfl) hI boot_int (pa_cons (pe_ix ix_list (pv 0) pe_int (fun _ _ => rfl)) pa_nil)) (pv 1)) (pg_sub (pv 0) pe_int set_list))
      (pss_one (ps_ret (pv 2))))), ?_⟩
    refine ⟨fun σ' H' => σ' = [some (.ref wl.w), some (.int m), none] ∧ Drawn wl H H', ?_, ?_⟩
    · obtain ⟨cells, pos, rest, mix, h1, h2, n, l⟩ := W.ex
      refine ⟨_, rfl, wl.w, _, _, _, rfl, rfl, SqL.of h1, atI_nat (j := 2) rfl, rfl, _, rfl, ite2 (fun q => ?_) (fun q => ⟨rfl, .refl W⟩)⟩
      refine ⟨_, rfl, wl, rfl, W, fun r H1 D => ?_⟩
      obtain ⟨cells, pos, rest, mix, h1, h2, n, l⟩ := D.well.ex
      refine ⟨_, rfl, wl.w, _, _, _, rfl, rfl, h1, rfl, rfl, D.keep.trans .updw, cells, pos, r, mix, upd_same, ?_, n, l⟩
      rw [upd_ne n]
      exact h2
    · rintro σ' H1 ⟨rfl, D⟩
      obtain ⟨cells, pos, rest, mix, h1, h2, n, l⟩ := D.well.ex
      have b1 := fmod_lt (a := rest) m0
      refine ⟨_, rfl, wl.w, _, _, _, rfl, rfl, SqL.of h1, atI_nat (j := 2) rfl, .inl ⟨_, rfl, _, rfl, _, _, rfl, rfl, (by show m ≠ 0; omega), ?_⟩⟩
      refine ⟨_, rfl, wl.w, _, _, _, rfl, rfl, SqL.of h1, atI_nat (j := 2) rfl, .inl ⟨_, rfl, _, rfl, _, _, rfl, rfl, wide_div m0 (b := 62) (by omega) (by decide) (by decide), ?_⟩⟩
      refine ⟨_, rfl, wl.w, _, _, _, rfl, rfl, h1, rfl, ?_⟩
      refine ⟨_, rfl, k _ _ b1.1 b1.2 ⟨D.keep.trans .updw, cells, pos, _, mix, upd_same, ?_, n, l⟩⟩
      rw [upd_ne n]
      exact h2
end
end Hs
namespace Hs
open PySem PySem.Spec PyProof.Rows L2
abbrev sIsInt : Stmt := topS 11
abbrev sFromOne : Stmt := topS 13
abbrev sPair : Stmt := topS 14
abbrev sIsSigns : Stmt := topS 15
abbrev sAscending : Stmt := topS 16
abbrev sHome : Stmt := topS 17
abbrev sHand : Stmt := topS 18
abbrev sName : Stmt := topS 19
abbrev sPiece : Stmt := topS 20
abbrev sBlockId : Stmt := topS 21
abbrev sRow : Stmt := topS 22
abbrev sStamp : Stmt := topS 23
abbrev sMembers : Stmt := topS 24
abbrev lNumber : Stmt := topS 96
abbrev sSigns : Stmt := topS 97
abbrev sString : Stmt := topS 98
abbrev lName : Stmt := topS 99
abbrev lId : Stmt := topS 101
abbrev lStamp : Stmt := topS 102
abbrev lRow : Stmt := topS 103
abbrev lMembers : Stmt := topS 104
/-- an own error class without an __init__, over ValueError -/
structure Ec (K : PySem.W.Frag) (mg : Str → Option Value) (x : Str) (C : Addr) : Prop where
  g : mg x = some (.ref C)
  x : PySem.W.excIn K C [.type "ValueError", .type "Exception", .type "BaseException", .type "object"] "ValueError.__new__" = true
  k : PySem.W.keepIn K (.ref C) = true
  b : PySem.W.subIn K (.ref C) (.type "BaseException") = some true
  t : PySem.W.typeIn K (.ref C) = some (.type "type")
  e : PySem.W.exmOne K (.ref C) (.ref C) = some true
section
variable {X : Cx} {C : Addr} {bmB : List Value} {B newId initId : String}
/-- X() -/
theorem pmk_own0 {x : Str} {p pos : Pos} (F : ExcBaseFacts B newId initId bmB) (q : PySem.W.excIn X.K C bmB newId = true) (gC : X.mg x = some (.ref C)) (kC : PySem.W.keepIn X.K (.ref C) = true) (r : Raises X (.ref C)) (hg : Gl X x)
    (hdb : (x == ("__debug__" : Str)) = false := by decide) : PMk X (.Call (.Name x p) [] [] pos) (fun _ H Q => Q (.ref C) none H) := by
  intro pins s σ H Q I h
  refine wpAny_Call_Name_kw (ld_glob I hg gC ?_ hdb)
  refine PySem.W.callWith_K0 I.kIn kC ?_
  show wpAny _ _ (call (.ref C) []) _ _ _
  obtain ⟨bm, N, nm, qn, bs, hdct, sn, sub, ab, col, dd, k0, k1, k2, k3, k5, mN, hC, hN, hni, T⟩ := exc_obj I.kIn q
  refine wpAny_call_exc_subT F T hC hN hni (fun h' e hm => ?_) (Nat.zero_le _)
  exact mk_of I hm r h (I.hok.gone hm.new)
end
/-! ### signs -/
def okc (c : Nat) : Bool := decide (32 ≤ c) && decide (c ≤ 126)
def okz (z : Str) : Bool := (TL.tl z).all okc
theorem lt1 (a b : Nat) : decide (([a] : List Nat) < [b]) = decide (a < b) := by
  by_cases h : a < b
  · rw [decide_eq_true h]
    exact decide_eq_true (List.cons_lt_cons_iff.mpr (.inl h))
  · rw [decide_eq_false h]
    refine decide_eq_false fun q => ?_
    rcases List.cons_lt_cons_iff.mp q with q | ⟨_, q⟩
    · exact h q
    · exact absurd q (List.not_lt_nil _)
theorem not_lt1 (a b : Nat) : (!decide (([b] : List Nat) < [a])) = decide (a ≤ b) := by
  rw [lt1]
  by_cases h : b < a
  · rw [decide_eq_true h, decide_eq_false (by omega)]
    rfl
  · rw [decide_eq_false h, decide_eq_true (by omega)]
    rfl
def bit : Nat := 1000000
theorem bit_line : bit < sizeLine := by
  rw [sizeLine_eq]
  decide
theorem boot_str : bootBuiltins "str" = some (.type "str") := by decide +kernel
theorem boot_tuple' : bootBuiltins "tuple" = some (.type "tuple") := by decide +kernel
theorem boot_isi : bootBuiltins "isinstance" = some (.builtin "isinstance") := by decide +kernel
theorem boot_all' : bootBuiltins "all" = some (.builtin "all") := by decide +kernel
theorem codes_get {z : Str} {i c : Nat} (h : z.cps[i]? = some c) : (TL.tl z)[i]? = some c := by
  show z.cps.toList[i]? = some c
  rw [Array.getElem?_toList]
  exact h
section
variable {P : Program} {w : World} {K : PySem.W.Frag} {mg : Str → Option Value} {base : Heap}
/-! ### the law's signs -/
def signsZ : Str := (" !\"#$&'()*+,-./0123456789:;<=>?@ABCDEFGHIJKLMNOPQRSTUVWXYZ[\\]^_`" : Str) ++ ("abcdefghijklmnopqrstuvwxyz{|}~" : Str)
def okS (c : Nat) : Bool := okc c && decide (c ≠ 37)
theorem signs_len : (TL.tl signsZ).length = 94 := by decide +kernel
theorem signs_ok : (TL.tl signsZ).all okS = true := by decide +kernel
theorem scSigns : FnScope ["signs"] [] (defScope sSigns) := ⟨rfl, rfl, rfl, by decide +kernel, rfl, by decide +kernel, by decide +kernel⟩
def spSigns : Sp := fun vs H Q _ => vs = [] ∧ Q (.str signsZ) H
theorem ok_signs {f : Addr} {fd : FuncData} (F : Fun K "_law_signs" "_law_signs" sSigns f fd) : FnOk P w K mg base CX0 1 f fd [] spSigns := by
  refine F.ok scSigns (fun vs H Q E h => ?_) (fun cdv A outer s H vs Q E hr h => ?_)
  · rw [h.1]
    rfl
  · obtain ⟨rfl, k⟩ := h
    refine ⟨_, pss_cons (ps_set (i := 0) scSigns.nd rfl (.inl rfl) pe_str) (pss_one (ps_ret (pe_op op_add_str (pv 0) pe_str))), ?_⟩
    exact ⟨_, rfl, _, _, rfl, rfl, (by rw [sizeLine_eq]; decide +kernel), k⟩
/-- a text of signs but the percent sign -/
def lawz (z : Str) : Prop := ∀ c ∈ TL.tl z, okS c = true
theorem lawz.ok {z : Str} (h : lawz z) : okz z = true := List.all_eq_true.mpr fun c hc => by
  have := h c hc
  unfold okS at this
  rw [Bool.and_eq_true] at this
  exact this.1
theorem sgn_tl (c : Nat) : TL.tl (⟨#[c]⟩ : Str) = [c] := rfl
theorem join_tl (zs : List Str) : TL.tl (Txt.join ("" : Str) zs) = (zs.map TL.tl).flatten := by
  rw [TL.join_eq, TL.tl_join]
  have e : TL.tl ("" : Str) = [] := rfl
  rw [e]
  generalize zs.map TL.tl = l
  induction l with
  | nil => rfl
  | cons p r ih =>
    cases r with
    | nil => simp [TL.joinL]
    | cons q r =>
      show p ++ ([] ++ TL.joinL [] (q :: r)) = _
      rw [ih]
      rfl
def spString : Sp := fun vs H Q _ => ∃ (wl : WA) (m : Int), vs = [.ref wl.w, .int m] ∧ Well H wl ∧ m ≤ 1000 ∧ -1000 ≤ m ∧ ∀ (z : Str) (H' : Hp), z.length = m.toNat → lawz z → Drawn wl H H' → Q (.str z) H'
theorem scString : FnScope ["well", "many", "signs", "k"] ["well", "many"] (defScope sString) := ⟨rfl, rfl, rfl, by decide +kernel, rfl, by decide +kernel, by decide +kernel⟩
/-- the defs that draw -/
structure Dr (P : Program) (w : World) (K : PySem.W.Frag) (mg : Str → Option Value) (base : Heap) (fM fF fD fG fT : Addr) (dM dF dD dG dT : FuncData) : Prop where
  M : Df K mg "_law_mixed" sMixed ["number"] fM dM
  F : Df K mg "_law_filled" sFilled ["well"] fF dF
  D : Df K mg "_law_draw" sDraw ["well", "many"] fD dD
  G : Df K mg "_law_signs" sSigns [] fG dG
  T : Df K mg "_law_string" sString ["well", "many"] fT dT
  B : Bt mg
theorem ok_string {fM fF fD fG fT : Addr} {dM dF dD dG dT : FuncData} (R : Dr P w K mg base fM fF fD fG fT dM dF dD dG dT) : FnOk P w K mg base CX0 4 fT dT ["well", "many"] spString := by
  have GD : FnOk P w K mg base CX0 3 fD dD ["well", "many"] spDraw := ok_draw R.D.F R.B R.M R.F
  have GG : FnOk P w K mg base CX0 3 fG dG [] spSigns := (ok_signs R.G.F).mono (by decide)
  refine R.T.F.ok scString (fun vs H Q E h => ?_) (fun cdv A outer s H vs Q E hr h => ?_)
  · obtain ⟨n, m, rfl, _⟩ := h
    rfl
  · obtain ⟨wl, m, rfl, W, m1, m2, k⟩ := h
    have hR := R.B.range
    refine ⟨_, pss_cons (ps_set (i := 2) scString.nd rfl (.inr rfl) (pe_call0 GG hr (by rfl) R.G.g R.G.F.kp R.G.b .nil pass0))
      (pss_one (ps_ret (pe_join pe_str (pe_lc (own := [("k", 3)]) (g := gName 3) (tt := tYes) rfl scString.nd (pi_range1 (by rfl) hR (pa_cons (pv 1) pa_nil)) (blkOk_by (N := ["well", "many", "signs", "k"]) (sc := defScope sString) (by decide +kernel))
        (fun _ _ _ _ _ => pg_name (i := 3) scString.nd rfl (Or.inl rfl)) (fun _ _ _ _ _ => pts_nil)
        (fun _ _ _ _ _ => pe_ix ix_str (pv 2) (pe_call GD hr (by rfl) R.D.g R.D.F.kp R.D.b .nil pass0 (pa_cons (pv 0) (pa_cons pe_int pa_nil))) (fun _ _ => rfl)))))), ?_⟩
    refine ⟨rfl, ⟨_, rfl⟩, _, rfl, m, rfl, by omega, by omega, fun D hD => ?_⟩
    refine lc_range (lo := 0) (n := m.toNat) (fun i H' => Drawn wl H H' ∧ ∃ zs : List Str, H' D = some (.lst (zs.map V.str)) ∧ zs.length = i ∧ ∀ z ∈ zs, ∃ c, z = ⟨#[c]⟩ ∧ okS c = true)
      ⟨(Drawn.refl W).new hD, [], upd_same, rfl, fun z hz => by cases hz⟩ ?_ ?_
    · rintro i H1 hi ⟨D1, zs, hz, hl, hc⟩
      have nD := (W.ne hD).1
      refine ⟨rfl, _, rfl, _, rfl, wl, 94, rfl, D1.well, by decide, by decide, fun d H2 d0 d1 D2 => ?_⟩
      have hd : d.toNat < (TL.tl signsZ).length := by
        rw [signs_len]
        omega
      have ho : okS (TL.tl signsZ)[d.toNat] = true := List.all_eq_true.mp signs_ok _ (List.getElem_mem hd)
      refine ⟨signsZ, d, (TL.tl signsZ)[d.toNat], rfl, rfl, ?_, ?_, zs.map V.str, D2.keep D _ nD hz, ?_, ?_⟩
      · rw [TL.len_tl, signs_len, sizeLine_eq]
        decide
      · have e : d = ((d.toNat : Nat) : Int) := by omega
        have hg : (TL.tl signsZ)[d.toNat]? = some (TL.tl signsZ)[d.toNat] := List.getElem?_eq_getElem hd
        have := atI_nat hg
        rw [← e] at this
        exact this
      · rw [List.length_map]
        have := bit_line
        unfold bit at this
        omega
      · refine ⟨(D1.trans D2).put W hD, zs ++ [⟨#[(TL.tl signsZ)[d.toNat]]⟩], ?_, ?_, ?_⟩
        · rw [upd_same, List.map_append]
          rfl
        · rw [List.length_append, hl]
          rfl
        · intro z hz
          rcases List.mem_append.mp hz with hz | hz
          · exact hc z hz
          · exact ⟨_, List.mem_singleton.mp hz, ho⟩
    · rintro H1 ⟨D1, zs, hz, hl, hc⟩
      have hs : ∀ l : List Str, (∀ z ∈ l, ∃ c, z = ⟨#[c]⟩ ∧ okS c = true) → (l.map (·.length)).sum = l.length ∧ ((l.map TL.tl).flatten).length = l.length ∧ ∀ c ∈ (l.map TL.tl).flatten, okS c = true := by
        intro l
        induction l with
        | nil => exact fun _ => ⟨rfl, rfl, fun c hc => by cases hc⟩
        | cons a r ih =>
          intro h
          obtain ⟨i1, i2, i3⟩ := ih fun z hz => h z (List.mem_cons_of_mem _ hz)
          obtain ⟨c, ec, oc⟩ := h a List.mem_cons_self
          subst ec
          refine ⟨?_, ?_, ?_⟩
          · rw [List.map_cons, List.sum_cons, i1, List.length_cons]
            show 1 + r.length = r.length + 1
            omega
          · show (TL.tl (⟨#[c]⟩ : Str) ++ (r.map TL.tl).flatten).length = _
            rw [sgn_tl, List.length_append, i2, List.length_cons]
            show 1 + r.length = r.length + 1
            omega
          · intro b hb
            have hb' : b ∈ TL.tl (⟨#[c]⟩ : Str) ++ (r.map TL.tl).flatten := hb
            rcases List.mem_append.mp hb' with hb | hb
            · rw [sgn_tl] at hb
              rw [List.mem_singleton.mp hb]
              exact oc
            · exact i3 b hb
      obtain ⟨h1, h2, h3⟩ := hs zs hc
      refine ⟨_, D, zs, rfl, rfl, .inl (SqL.of hz), ?_, k _ _ ?_ ?_ D1⟩
      · show (zs.map (·.length)).sum + zs.length * 0 ≤ 16777216
        omega
      · rw [TL.len_tl, join_tl, h2, hl]
      · intro c hc
        rw [join_tl] at hc
        exact h3 c hc
/-! ### the well -/
def spWell (K : PySem.W.Frag) : Sp := fun vs H Q _ => ∃ (a : Addr) (ns : List Int), vs = [.ref a] ∧ SqL K H a (ns.map V.int) ∧ ∀ (wl : WA) (H' : Hp), Same H H' → Well H' wl → Q (.ref wl.w) H'
theorem scWell : FnScope ["script", "cell"] ["script"] (defScope sWell) := ⟨rfl, rfl, rfl, by decide +kernel, rfl, by decide +kernel, by decide +kernel⟩
theorem ok_well {f : Addr} {fd : FuncData} (F : Fun K "_law_well" "_law_well" sWell f fd) (B : Bt mg) : FnOk P w K mg base CX0 1 f fd ["script"] (spWell K) := by
  refine F.ok scWell (fun vs H Q E h => ?_) (fun cdv A outer s H vs Q E hr h => ?_)
  · obtain ⟨n, m, rfl, _⟩ := h
    rfl
  · obtain ⟨a, ns, rfl, hS, k⟩ := h
    have hI := B.int
    refine ⟨_, pss_one (ps_ret (pe_lst (pa_cons (pe_lc (own := [("cell", 1)]) (g := gName 1) (tt := tYes) rfl scWell.nd (pi_list (pe_slice sl_list (pv 0) po_none (po_some pe_int))) (blkOk_by (N := ["script", "cell"]) (sc := defScope sWell) (by decide +kernel))
        (fun _ _ _ _ _ => pg_name (i := 1) scWell.nd rfl (Or.inl rfl)) (fun _ _ _ _ _ => pts_nil) (fun _ _ _ _ _ => pe_callTy call_int1 (by rfl) hI boot_int (pa_cons (pv 1) pa_nil)))
      (pa_cons pe_int (pa_cons pe_int (pa_cons pe_int pa_nil)))))), ?_⟩
    refine ⟨_, rfl, _, rfl, a, _, rfl, hS, fun p hp => ?_⟩
    have ec : cutV (ns.map V.int) none (some 63) = (ns.take 63).map V.int := by
      unfold cutV
      rw [HT.sIx_none, show HT.sIx (ns.map V.int).length (ns.map V.int).length (some 63) = min 63 (ns.map V.int).length from HT.sIx_nat _ _ 63]
      show List.take (min 63 (ns.map V.int).length - 0) (List.drop 0 (ns.map V.int)) = _
      rw [List.drop_zero, Nat.sub_zero, List.map_take, List.take_eq_take_iff]
      omega
    rw [ec]
    have l63 : (ns.take 63).length ≤ 63 := by
      rw [List.length_take]
      omega
    clear ec
    generalize ns.take 63 = cs at l63
    have s1 : Same H (upd H p (.lst (cs.map V.int))) := same_upd hp
    refine ⟨p, rfl, ⟨_, SqL.of upd_same⟩, fun D hD => ?_⟩
    have nDp : p ≠ D := ne_of_none upd_same hD
    refine lc_list (K := K) (a := p) (xs := cs.map V.int) (fun i H' => Same H H' ∧ H' p = some (.lst (cs.map V.int)) ∧ H' D = some (.lst ((cs.take i).map V.int)))
      ⟨s1.trans (same_upd hD), by rw [upd_ne nDp, upd_same], upd_same⟩ (fun i H' _ p => SqL.of p.2.1) ?_ ?_
    · rintro i x H1 hi ⟨sm, h1, h2⟩
      rw [List.getElem?_map] at hi
      cases e : cs[i]? with
      | none =>
        rw [e] at hi
        cases hi
      | some n =>
        rw [e] at hi
        have ex := Option.some.inj hi
        subst ex
        have hl := (List.getElem?_eq_some_iff.mp e).1
        refine ⟨rfl, _, rfl, .inl ⟨_, rfl, _, h2, ?_, fun b o hb => ?_, ?_, ?_⟩⟩
        · rw [List.length_map, List.length_take]
          have := bit_line
          unfold bit at this
          omega
        · rw [upd_ne (ne_of_none hb (s1.free hD))]
          exact sm _ _ hb
        · rw [upd_ne nDp]
          exact h1
        · rw [upd_same, List.take_add_one, e, List.map_append]
          rfl
    · rintro H1 ⟨sm, h1, h2⟩
      rw [List.length_map, List.take_length] at h2
      refine ⟨by show 4 ≤ sizeLine; decide, fun q hq => ?_⟩
      have nDq : D ≠ q := ne_of_none h2 hq
      refine k ⟨q, D⟩ _ (sm.trans (same_upd hq)) ⟨cs, 0, 0, 1, ?_, ?_, nDq, l63⟩
      · exact upd_same
      · rw [upd_ne nDq]
        exact h2
end
end Hs
/-! what is true of any value: read as values -/
namespace Hu
open PySem
mutual
/-- how long it is when shown, at most -/
def wt : U → Nat
  | .non => 4
  | .bl _ => 5
  | .int _ => 80
  | .str z => 2 * z.length + 2
  | .tup us => wtL us + 3
  | .lst us => wtL us + 2
  | .dct us => wtL us + 30
  | .exc => 30
def wtL : List U → Nat
  | [] => 0
  | u :: us => wt u + 2 + wtL us
end
mutual
/-- its signs are a text's or line feeds, its integers small -/
def clean : U → Prop
  | .int i => i.natAbs < 2 ^ 65
  | .str z => ∀ c ∈ TL.tl z, Hs.okS c = true ∨ c = 10
  | .tup us | .lst us | .dct us => cleanL us
  | _ => True
def cleanL : List U → Prop
  | [] => True
  | u :: us => clean u ∧ cleanL us
end
structure Fine (u : U) : Prop where
  w : wt u ≤ 1000000
  c : clean u
theorem wt_mem : ∀ {us : List U} {u : U}, u ∈ us → wt u ≤ wtL us
  | _ :: us, _, .head _ => by simp only [wtL]; omega
  | _ :: us, _, .tail _ h => by have := wt_mem h; simp only [wtL]; omega
theorem wt_len : ∀ us : List U, 2 * us.length ≤ wtL us
  | [] => Nat.zero_le _
  | u :: us => by have := wt_len us; simp only [wtL, List.length_cons]; omega
theorem clean_mem : ∀ {us : List U} {u : U}, cleanL us → u ∈ us → clean u
  | _ :: _, _, h, .head _ => h.1
  | _ :: _, _, h, .tail _ q => clean_mem h.2 q
theorem Fine.tup {us : List U} (h : Fine (.tup us)) : ∀ u ∈ us, Fine u := fun u hu => ⟨by have := h.w; have := wt_mem hu; simp only [wt] at *; omega, clean_mem (by simpa only [clean] using h.c) hu⟩
theorem Fine.len {us : List U} (h : Fine (.tup us)) : us.length ≤ 500000 := by
  have := h.w
  have := wt_len us
  simp only [wt] at *
  omega
theorem Fine.str {z : Str} (h : Fine (.str z)) : z.length ≤ 500000 := by
  have := h.w
  simp only [wt] at *
  omega
theorem isT_str {u : U} (h : isT u "str" = true) : ∃ z, u = .str z := by
  cases u with
  | str z => exact ⟨z, rfl⟩
  | _ => simp [isT, isS, tyU] at h
theorem isT_tup {u : U} (h : isT u "tuple" = true) : ∃ us, u = .tup us := by
  cases u with
  | tup us => exact ⟨us, rfl⟩
  | _ => simp [isT, isS, tyU] at h
end Hu
namespace Hs
open PySem PySem.Spec PyProof.Rows L2 Hu
section
variable {K : PySem.W.Frag} {σ : L2.St} {H H' : Hp} {ta tb tc te tl : TE} {r r' : R2} {x y z v : V} {w C : Addr} {u : U} {us : List U} {xs : List V}
open Evl
theorem ex_at (e : Ex H H') (h : At w C H v u) : At w C H' v u := h.keep fun b o _ q => e b o q
theorem ex_atl (e : Ex H H') (h : AtL w C H xs us) : AtL w C H' xs us := h.keep fun b o _ q => e b o q
theorem _root_.Hu.Tu.ex {a : Addr} (e : Ex H H') (h : Tu H a xs us) : Tu H' a xs us := Tu.mv (fun o q => e _ o q) h
theorem ev_chain {a b : Bool} (ha : Ev ta σ H x) (hb : Ev tb σ H y) (hc : Ev tc σ H z) (h1 : RV r x y H (.bl a)) (h2 : a = true → RV r' y z H (.bl b)) : Ev (tChain r r' ta tb tc) σ H (.bl (a && b)) := fun H1 e Q q =>
  ha H1 e _ fun H2 e2 => hb H2 (e.trans e2) _ fun H3 e3 => h1 H3 ((e.trans e2).trans e3) _ fun H4 e4 => ⟨a, rfl, by
    cases a with
    | false => exact q H4 ((e2.trans e3).trans e4)
    | true => exact hc H4 (((e.trans e2).trans e3).trans e4) _ fun H5 e5 => h2 rfl H5 ((((e.trans e2).trans e3).trans e4).trans e5) _ fun H6 e6 => q H6 ((((e2.trans e3).trans e4).trans e5).trans e6)⟩
abbrev rIsi (C : Addr) (T : String) : List V → Hp → VK → Prop := fun xs H Q => ∃ (v : V) (u : U) (w : Addr), xs = [v, .ty T] ∧ At w C H v u ∧ Q (.bl (isT u T)) H
theorem ev_isi {T : String} (h : Ev te σ H v) (hat : At w C H v u) : Ev (tCB (rIsi C T) (tCons te (tCons (tC (.ty T)) tNil))) σ H (.bl (isT u T)) :=
  ev_cb (ea_cons h (ea_cons ev_c ea_nil)) fun H1 e Q q => ⟨v, u, w, rfl, ex_at e hat, q H1 (Ex.refl H1)⟩
abbrev rLenQ (K : PySem.W.Frag) : List V → Hp → VK → Prop := fun xs H Q => ∃ p ys, xs = [.ref p] ∧ (SqL K H p ys ∨ SqT K H p ys) ∧ Q (.int ys.length) H
theorem ev_lenT {a : Addr} (h : Ev te σ H (.ref a)) (hx : Tu H a xs us) : Ev (tCB (rLenQ K) (tCons te tNil)) σ H (.int (xs.length : Int)) :=
  ev_cb (ea_cons h ea_nil) fun H1 e Q q => ⟨a, xs, rfl, .inr (Tu.st (Tu.ex e hx)), q H1 (Ex.refl H1)⟩
abbrev rLenZ : List V → Hp → VK → Prop := fun xs H Q => ∃ z : Str, xs = [.str z] ∧ z.length ≤ sizeLine ∧ Q (.int z.length) H
theorem ev_lenS {z : Str} (h : Ev te σ H (.str z)) (hz : z.length ≤ sizeLine) : Ev (tCB rLenZ (tCons te tNil)) σ H (.int (z.length : Int)) :=
  ev_cb (ea_cons h ea_nil) fun H1 e Q q => ⟨z, rfl, hz, q H1 (Ex.refl H1)⟩
theorem ev_ixT {a : Addr} {j : Nat} (h : Ev te σ H (.ref a)) (hx : Tu H a xs us) (hj : xs[j]? = some v) : Ev (tOp (rIxT K) te (tC (.int (j : Int)))) σ H v :=
  ev_op h ev_c (rv_ixT (Tu.st hx) (atI_nat hj))
theorem ev_lenP {a : Addr} (h : Ev te σ H (.ref a)) (hx : H a = some (.tup xs)) : Ev (tCB (rLenQ K) (tCons te tNil)) σ H (.int (xs.length : Int)) :=
  ev_cb (ea_cons h ea_nil) fun H1 e Q q => ⟨a, xs, rfl, .inr (st_of (e _ _ hx)), q H1 (Ex.refl H1)⟩
theorem ev_ixP {a : Addr} {j : Nat} (h : Ev te σ H (.ref a)) (hx : H a = some (.tup xs)) (hj : xs[j]? = some v) : Ev (tOp (rIxT K) te (tC (.int (j : Int)))) σ H v :=
  ev_op h ev_c (rv_ixT (st_of hx) (atI_nat hj))
theorem et_yes : EvT tYes σ H true := fun H1 _ Q q => q H1 (Ex.refl H1)
theorem len_fine {n : Nat} (h : n ≤ 1000000) : n ≤ sizeLine := Nat.le_trans h (Nat.le_of_lt bit_line)
/-- all([f(x) for x in a tuple]) -/
theorem ev_allT {a : Addr} {j : Nat} {vs : List Nat} {g : U → Bool} (h : Ev tl σ H (.ref a)) (hx : Tu H a xs us) (hz : us.length ≤ 500000) (hl : AtL w C H xs us) (hw : ∀ x, wipe ((wipe σ vs).set j (some x)) vs = wipe σ vs)
    (he : ∀ (x : V) (u : U), u ∈ us → At w C H x u → Ev te ((wipe σ vs).set j (some x)) H (.bl (g u))) :
    Ev (tCB (rAll K) (tCons (tLc (iTup K tl) (gName j) tYes te vs) tNil)) σ H (.bl (us.all g)) := fun H0 e Q q => h H0 e _ fun H1 e1 => ⟨a, rfl, ⟨xs, Tu.st (Tu.ex (e.trans e1) hx)⟩, fun Dl hD =>
  lc_tup (xs := xs) (fun i H' => Ex H1 H' ∧ H' Dl = some (.lst ((us.take i).map fun u => V.bl (g u)))) ⟨Ex.new hD, upd_same⟩ (fun i H' _ p => Tu.st (Tu.ex ((e.trans e1).trans p.1) hx)) (fun i x H2 hi p => by
    obtain ⟨p1, p2⟩ := p
    have hlen := AtL.length hl
    have hu : i < us.length := by
      have := (List.getElem?_eq_some_iff.mp hi).1
      omega
    obtain ⟨x', hx', hax⟩ := AtL.get hl (List.getElem?_eq_getElem hu)
    rw [hi] at hx'
    cases hx'
    refine ⟨hw x, he x us[i] (List.getElem_mem hu) hax H2 ((e.trans e1).trans p1) _ fun H3 e3 => ⟨_, e3 _ _ p2, ?_, fun q o hq => ?_, ?_⟩⟩
    · rw [List.length_map, List.length_take]
      have := bit_line
      unfold bit at this
      omega
    · rw [upd_ne (ne_of_none hq hD)]
      exact e3 _ _ (p1 _ _ hq)
    · rw [upd_same, List.take_add_one, List.getElem?_eq_getElem hu, List.map_append]
      rfl) (fun H' p => ⟨Dl, us.map g, rfl, sq_of (by
        rw [p.2, AtL.length hl, List.take_length, List.map_map]
        rfl), by
        have e2 : (us.map g).all id = us.all g := by
          rw [List.all_map]
          rfl
        rw [e2]
        exact q _ (e1.trans p.1)⟩)⟩
/-- all([f(c) for c in a string]) -/
theorem ev_allS {z : Str} {j : Nat} {vs : List Nat} {g : Nat → Bool} (h : Ev tl σ H (.str z)) (hz : z.length ≤ 500000) (hw : ∀ x, wipe ((wipe σ vs).set j (some x)) vs = wipe σ vs)
    (he : ∀ c ∈ TL.tl z, Ev te ((wipe σ vs).set j (some (.str ⟨#[c]⟩))) H (.bl (g c))) :
    Ev (tCB (rAll K) (tCons (tLc (iStr tl) (gName j) tYes te vs) tNil)) σ H (.bl ((TL.tl z).all g)) := fun H0 e Q q => h H0 e _ fun H1 e1 => ⟨z, rfl, fun Dl hD =>
  lc_it walk_str (fun i H' => Ex H1 H' ∧ H' Dl = some (.lst (((TL.tl z).take i).map fun u => V.bl (g u)))) ⟨Ex.new hD, upd_same⟩ (fun _ _ _ _ => True.intro) (fun i x H2 H2' hi p y => by
    obtain ⟨p1, p2⟩ := p
    obtain ⟨rfl, c, hc, rfl⟩ := y
    have hc' := codes_get hc
    have hl : i < (TL.tl z).length := (List.getElem?_eq_some_iff.mp hc').1
    refine ⟨hw _, he c (List.mem_of_getElem? hc') H2' ((e.trans e1).trans p1) _ fun H3 e3 => ⟨_, e3 _ _ p2, ?_, fun q o hq => ?_, ?_⟩⟩
    · rw [List.length_map, List.length_take]
      have := bit_line
      unfold bit at this
      have hq := TL.len_tl z
      omega
    · rw [upd_ne (ne_of_none hq hD)]
      exact e3 _ _ (p1 _ _ hq)
    · rw [upd_same, List.take_add_one, hc', List.map_append]
      rfl) (fun H' p => ⟨Dl, (TL.tl z).map g, rfl, sq_of (by
        rw [p.2, show z.cps.size = (TL.tl z).length from (TL.len_tl z).symm, List.take_length, List.map_map]
        rfl), by
        have e2 : ((TL.tl z).map g).all id = (TL.tl z).all g := by
          rw [List.all_map]
          rfl
        rw [e2]
        exact q _ (e1.trans p.1)⟩)⟩
end
/-! ### judges: a flag of any value, nothing is changed -/
def spJ (C : Addr) (g : U → Bool) : Sp := fun vs H Q _ => ∃ (v : V) (u : U) (w : Addr), vs = [v] ∧ At w C H v u ∧ Fine u ∧ ∀ H', Same H H' → Q (.bl (g u)) H'
structure Jd (P : Program) (w : World) (K : PySem.W.Frag) (mg : Str → Option Value) (base : Heap) (C : Addr) (k : Nat) (x : Str) (p : Str) (f : Addr) (fd : FuncData) (g : U → Bool) : Prop where
  ok : FnOk P w K mg base CX0 k f fd [p] (spJ C g)
  g : mg x = some (.ref f)
  kp : PySem.W.keepIn K (.ref f) = true
  b : Binds K fd [p] []
section
variable {P : Program} {wd : World} {K : PySem.W.Frag} {mg : Str → Option Value} {base : Heap} {C : Addr}
theorem Jd.imp {x p : Str} {k : Nat} {f : Addr} {fd : FuncData} {g g' : U → Bool} (J : Jd P wd K mg base C k x p f fd g) (h : ∀ u, Fine u → g u = g' u) : Jd P wd K mg base C k x p f fd g' :=
  ⟨J.ok.imp fun vs H Q E ⟨v, u, w, e, a, fi, q⟩ => ⟨v, u, w, e, a, fi, fun H' s => by rw [h u fi]; exact q H' s⟩, J.g, J.kp, J.b⟩
theorem spv_J {g : U → Bool} {H : Hp} {v : V} {u : U} {w : Addr} (hat : At w C H v u) (fi : Fine u) : Evl.SpV (spJ C g) [v] H (.bl (g u)) := fun H1 e Q q E => ⟨v, u, w, rfl, ex_at e hat, fi, q⟩
theorem ev_J {g : U → Bool} {H : Hp} {v : V} {u : U} {w : Addr} {σ : L2.St} {te : TE} {E : XK} (h : Evl.Ev te σ H v) (hat : At w C H v u) (fi : Fine u) : Evl.Ev (tCall (spJ C g) [] E (tCons te tNil)) σ H (.bl (g u)) :=
  Evl.ev_call (Evl.ea_cons h Evl.ea_nil) (spv_J hat fi)
theorem lenJ {g : U → Bool} {p : Str} : ∀ vs H Q E, spJ C g vs H Q E → vs.length = [p].length := fun vs H Q E h => by
  obtain ⟨v, u, w, rfl, _⟩ := h
  rfl
end
section
variable {X : Cx} {C : Addr} {CX : CXT} {E : XK}
theorem pe_J {x p : Str} {k j : Nat} {f : Addr} {fd : FuncData} {g : U → Bool} {e : Expr} {te : TE} {ps pos : Pos} (J : Jd X.prog X.w X.K X.mg X.base C k x p f fd g) (hr : Room j X.A) (h : k ≤ j) (hg : Gl X x) (hx : Passes CX0 X E) (he : PE X e te) (hdb : (x == ("__debug__" : Str)) = false := by decide)
    (hst : starEach [e] X.env = (false, eval e X.env) :: starEach [] X.env := by rfl) (hpl : (backTo pos (starEach [] X.env)).any (·.1) = false := by rfl) :
    PE X (.Call (.Name x ps) [e] [] pos) (tCall (spJ C g) [] E (tCons te tNil)) :=
  pe_call J.ok (hr.mono h) hg J.g J.kp J.b .nil hx (pa_cons he pa_nil hst) hdb hst hpl
end
end Hs
/-! the program's flags of any value -/
namespace Hs
open PySem PySem.Spec PyProof.Rows L2 Hu Evl
/-- an error's class: without an __eq__ of its own, no tuple's -/
structure Eqx (K : PySem.W.Frag) (C : Addr) : Prop where
  m : PySem.W.mroIn K C (.type "object") = some true
  e : PySem.W.findIn K (.ref C) "__eq__" = some (some (.builtin "object.__eq__"))
  t : PySem.W.subIn K (.ref C) (.type "tuple") = some false
/-- what the text leaves to the built-ins, and its errors -/
structure Bs (K : PySem.W.Frag) (mg : Str → Option Value) (C : Addr) : Prop where
  B : Bt mg
  E : Xc K mg "NoTable" C "NoTable"
  q : Eqx K C
/-- the numbers that the text names -/
structure Cn (mg : Str → Option Value) : Prop where
  homes : ∃ t, mg "MOST_HOMES" = some (.int 9 t)
  hands : ∃ t, mg "MOST_HANDS" = some (.int 99 t)
  pieces : ∃ t, mg "MOST_PIECES" = some (.int 12 t)
  signs : ∃ t, mg "PIECE_SIGNS" = some (.int 8 t)
  names : ∃ t, mg "NAME_SIGNS" = some (.int 8 t)
theorem boot_bool' : bootBuiltins "bool" = some (.type "bool") := by decide +kernel
theorem boot_int' : bootBuiltins "int" = some (.type "int") := by decide +kernel
section
variable {X : Cx} {C : Addr} {e : Expr} {te : TE} {p p2 pos : Pos}
theorem pe_isiX {T : String} {T' : Str} (S : Bs X.K X.mg C) (hg : Gl X "isinstance") (hgT : Gl X T') (hT : X.mg T' = none) (bT : bootBuiltins T' = some (.type T)) (hm : T ∈ ["int", "bool", "str", "tuple"]) (he : PE X e te) (hn : T' ≠ "__name__") (hd : (T' == ("__debug__" : Str)) = false)
    (hst : starEach [e] X.env = (false, eval e X.env) :: starEach [] X.env := by rfl) (hst2 : starEach [e, .Name T' p2] X.env = (false, eval e X.env) :: starEach [.Name T' p2] X.env := by rfl) (hpl : (backTo pos (starEach [.Name T' p2] X.env)).any (·.1) = false := by rfl)
    (hst3 : starEach [.Name T' p2] X.env = (false, eval (.Name T' p2) X.env) :: starEach [] X.env := by rfl) :
    PE X (.Call (.Name "isinstance" p) [e, .Name T' p2] [] pos) (tCB (rIsi C T) (tCons te (tCons (tC (.ty T)) tNil))) :=
  pe_callB (call_isiU T S.E hm) hg S.B.isi boot_isi (pa_cons he (pa_cons (pe_bltn hgT hT bT (show RelV (.ty T) (.type T) from rfl) hn hd) pa_nil hst3) hst2) (by decide) (by decide) hst2 hpl
end
def iv (u : U) (p : Int → Bool) : Bool := match u with | .int i => p i | _ => false
def sv (u : U) (p : Str → Bool) : Bool := match u with | .str z => p z | _ => false
def tv (u : U) (p : List U → Bool) : Bool := match u with | .tup us => p us | _ => false
def gInt (u : U) : Bool := iv u fun _ => true
def gFrom (u : U) : Bool := iv u fun i => decide (1 ≤ i)
def gHome (u : U) : Bool := iv u fun i => decide (0 ≤ i) && decide (i < 9)
def gHand (u : U) : Bool := iv u fun i => decide (1 ≤ i) && decide (i ≤ 99)
def gPair (u : U) : Bool := tv u fun us => decide (us.length = 2)
def gSigns (u : U) : Bool := sv u okz
def lowc (c : Nat) : Bool := decide (97 ≤ c) && decide (c ≤ 122)
def gNam (u : U) : Bool := sv u fun z => (decide (1 ≤ z.length) && decide (z.length ≤ 8)) && (TL.tl z).all lowc
def gPiece (u : U) : Bool := sv u fun z => okz z && (decide (1 ≤ z.length) && decide (z.length ≤ 8))
def two (us : List U) (p : U → U → Bool) : Bool := match us with | [a, b] => p a b | _ => false
def gId (u : U) : Bool := tv u fun us => two us fun a b => gHand a && gFrom b
def gRow (u : U) : Bool := match u with | .non => true | .tup us => decide (us.length ≤ 12) && us.all gId | _ => false
def gStamp (u : U) : Bool := tv u fun us => two us fun a b => iv a fun i => iv b fun j => (decide (i = 0) && decide (j = 0)) || (decide (1 ≤ i) && (decide (1 ≤ j) && decide (j ≤ 99)))
def intU (u : U) : Int := match u with | .int i => i | _ => 0
def ascI (ns : List Int) : Bool := (List.range (ns.length - 1)).all fun k => decide (ns.getD k 0 < ns.getD (k + 1) 0)
def gMembers (u : U) : Bool := tv u fun us => ((decide (1 ≤ us.length) && decide (us.length ≤ 9)) && us.all gHome) && ascI (us.map intU)
section
variable {P : Program} {wd : World} {K : PySem.W.Frag} {mg : Str → Option Value} {base : Heap} {C : Addr}
theorem scIsInt : FnScope ["thing"] ["thing"] (defScope sIsInt) := ⟨rfl, rfl, rfl, by decide +kernel, rfl, by decide +kernel, by decide +kernel⟩
theorem gInt_is (u : U) : (isT u "int" && !isT u "bool") = gInt u := by
  cases u <;> simp [isT, isS, tyU, gInt, iv]
theorem jd_int {f : Addr} {fd : FuncData} (D : Df K mg "is_integer" sIsInt ["thing"] f fd) (S : Bs K mg C) : Jd P wd K mg base C 1 "is_integer" "thing" f fd gInt := by
  refine ⟨D.F.ok scIsInt lenJ (fun cdv A outer s H vs Q E hr h => ?_), D.g, D.F.kp, D.b⟩
  obtain ⟨v, u, w, rfl, hat, fi, k⟩ := h
  refine ⟨_, pss_one (ps_ret (pe_and (pe_isiX S (by rfl) (by rfl) S.B.int boot_int' (by decide) (pv 0) (by decide) (by decide)) (pe_one (pe_not (pe_isiX S (by rfl) (by rfl) S.B.boo boot_bool' (by decide) (pv 0) (by decide) (by decide)))))), ?_⟩
  refine s_ret (ev_andV (ev_isi (ev_var rfl) hat) fun _ => ev_notV (ev_isi (ev_var rfl) hat)) fun H1 e => ?_
  rw [gInt_is]
  exact k H1 e
theorem scFrom : FnScope ["thing"] ["thing"] (defScope sFromOne) := ⟨rfl, rfl, rfl, by decide +kernel, rfl, by decide +kernel, by decide +kernel⟩
theorem gInt_int {u : U} (h : gInt u = true) : ∃ i, u = .int i := by
  cases u with
  | int i => exact ⟨i, rfl⟩
  | _ => cases h
theorem at_int {w : Addr} {H : Hp} {v : V} {i : Int} (h : At w C H v (.int i)) : v = .int i := by
  cases h
  rfl
theorem at_str {w : Addr} {H : Hp} {v : V} {z : Str} (h : At w C H v (.str z)) : v = .str z := by
  cases h
  rfl
theorem at_tup {w : Addr} {H : Hp} {v : V} {us : List U} (h : At w C H v (.tup us)) : ∃ a xs, v = .ref a ∧ Tu H a xs us ∧ a ≠ w ∧ AtL w C H xs us := by
  cases h with
  | tup h n l => exact ⟨_, _, rfl, h, n, l⟩
/-- one more test of an integer -/
theorem iv_and (u : U) (p : Int → Bool) : (gInt u && iv u p) = iv u p := by
  cases u <;> rfl
theorem jd_from {f fI : Addr} {fd fdI : FuncData} (D : Df K mg "is_from_one" sFromOne ["thing"] f fd) (S : Bs K mg C) (J : Jd P wd K mg base C 1 "is_integer" "thing" fI fdI gInt) : Jd P wd K mg base C 2 "is_from_one" "thing" f fd gFrom := by
  refine ⟨D.F.ok scFrom lenJ (fun cdv A outer s H vs Q E hr h => ?_), D.g, D.F.kp, D.b⟩
  obtain ⟨v, u, w, rfl, hat, fi, k⟩ := h
  refine ⟨_, pss_one (ps_ret (pe_and (pe_J J hr (by decide) (by rfl) pass0 (pv 0)) (pe_one (pe_cmpR op_ge (pv 0) pe_int (nomark _))))), ?_⟩
  refine s_ret (ev_andV (b := gFrom u) (ev_J (ev_var rfl) hat fi) fun q => ?_) fun H1 e => ?_
  · obtain ⟨i, rfl⟩ := gInt_int q
    cases at_int hat
    exact ev_op (ev_var rfl) ev_c rv_I0
  · unfold gFrom
    rw [iv_and]
    exact k H1 e
theorem scHome : FnScope ["thing"] ["thing"] (defScope sHome) := ⟨rfl, rfl, rfl, by decide +kernel, rfl, by decide +kernel, by decide +kernel⟩
theorem jd_home {f fI : Addr} {fd fdI : FuncData} (D : Df K mg "is_home" sHome ["thing"] f fd) (S : Bs K mg C) (N : Cn mg) (J : Jd P wd K mg base C 1 "is_integer" "thing" fI fdI gInt) : Jd P wd K mg base C 2 "is_home" "thing" f fd gHome := by
  refine ⟨D.F.ok scHome lenJ (fun cdv A outer s H vs Q E hr h => ?_), D.g, D.F.kp, D.b⟩
  obtain ⟨v, u, w, rfl, hat, fi, k⟩ := h
  obtain ⟨t, h9⟩ := N.homes
  refine ⟨_, pss_one (ps_ret (pe_and (pe_J J hr (by decide) (by rfl) pass0 (pv 0)) (pe_one (pe_chain op_le op_lt pe_int (pv 0) (pe_glob (v := .int 9) rfl h9 ⟨_, rfl⟩))))), ?_⟩
  refine s_ret (ev_andV (b := gHome u) (ev_J (ev_var rfl) hat fi) fun q => ?_) fun H1 e => ?_
  · obtain ⟨i, rfl⟩ := gInt_int q
    cases at_int hat
    exact ev_chain ev_c (ev_var rfl) ev_c rv_I0 fun _ => rv_I0
  · unfold gHome
    rw [iv_and]
    exact k H1 e
theorem scHand : FnScope ["thing"] ["thing"] (defScope sHand) := ⟨rfl, rfl, rfl, by decide +kernel, rfl, by decide +kernel, by decide +kernel⟩
theorem jd_hand {f fI : Addr} {fd fdI : FuncData} (D : Df K mg "is_hand" sHand ["thing"] f fd) (S : Bs K mg C) (N : Cn mg) (J : Jd P wd K mg base C 1 "is_integer" "thing" fI fdI gInt) : Jd P wd K mg base C 2 "is_hand" "thing" f fd gHand := by
  refine ⟨D.F.ok scHand lenJ (fun cdv A outer s H vs Q E hr h => ?_), D.g, D.F.kp, D.b⟩
  obtain ⟨v, u, w, rfl, hat, fi, k⟩ := h
  obtain ⟨t, h9⟩ := N.hands
  refine ⟨_, pss_one (ps_ret (pe_and (pe_J J hr (by decide) (by rfl) pass0 (pv 0)) (pe_one (pe_chain op_le op_le pe_int (pv 0) (pe_glob (v := .int 99) rfl h9 ⟨_, rfl⟩))))), ?_⟩
  refine s_ret (ev_andV (b := gHand u) (ev_J (ev_var rfl) hat fi) fun q => ?_) fun H1 e => ?_
  · obtain ⟨i, rfl⟩ := gInt_int q
    cases at_int hat
    exact ev_chain ev_c (ev_var rfl) ev_c rv_I0 fun _ => rv_I0
  · unfold gHand
    rw [iv_and]
    exact k H1 e
theorem scPair : FnScope ["thing"] ["thing"] (defScope sPair) := ⟨rfl, rfl, rfl, by decide +kernel, rfl, by decide +kernel, by decide +kernel⟩
theorem tv_and (u : U) (p : List U → Bool) : (isT u "tuple" && tv u p) = tv u p := by
  cases u <;> simp [isT, isS, tyU, tv]
theorem sv_and (u : U) (p : Str → Bool) : (isT u "str" && sv u p) = sv u p := by
  cases u <;> simp [isT, isS, tyU, sv]
theorem dec_eq {n m : Nat} : decide (V.int (n : Int) = V.int (m : Int)) = decide (n = m) := by
  by_cases h : n = m
  · rw [decide_eq_true h, h, decide_eq_true rfl]
  · rw [decide_eq_false h, decide_eq_false]
    intro e
    have := V.int.inj e
    omega
theorem jd_pair {f : Addr} {fd : FuncData} (D : Df K mg "is_pair" sPair ["thing"] f fd) (S : Bs K mg C) : Jd P wd K mg base C 1 "is_pair" "thing" f fd gPair := by
  refine ⟨D.F.ok scPair lenJ (fun cdv A outer s H vs Q E hr h => ?_), D.g, D.F.kp, D.b⟩
  obtain ⟨v, u, w, rfl, hat, fi, k⟩ := h
  refine ⟨_, pss_one (ps_ret (pe_and (pe_isiX S (by rfl) (by rfl) S.B.tup boot_tuple' (by decide) (pv 0) (by decide) (by decide)) (pe_one (pe_cmpR op_eq (pe_callB call_len_seq (by rfl) S.B.len PySem.boot_len (pa_cons (pv 0) pa_nil)) pe_int (nomark _))))), ?_⟩
  refine s_ret (ev_andV (b := gPair u) (ev_isi (ev_var rfl) hat) fun q => ?_) fun H1 e => ?_
  · obtain ⟨us, rfl⟩ := isT_tup q
    obtain ⟨a, xs, rfl, ha, _, hl⟩ := at_tup hat
    have := ev_op (r := rEq) (σ := [some (V.ref a)]) (ev_lenT (K := K) (te := tVar 0) (ev_var rfl) ha) (ev_c (v := .int 2)) (rv_eq rfl)
    rw [show (2 : Int) = ((2 : Nat) : Int) from rfl, dec_eq, AtL.length hl] at this
    exact this
  · unfold gPair
    rw [tv_and]
    exact k H1 e
theorem scSig : FnScope ["thing", "sign"] ["thing"] (defScope sIsSigns) := ⟨rfl, rfl, rfl, by decide +kernel, rfl, by decide +kernel, by decide +kernel⟩
abbrev rLeS : R2 := fun x y H Q => ∃ i j : Str, x = .str i ∧ y = .str j ∧ Q (.bl (!decide (j.cps.toList < i.cps.toList))) H
theorem rv_leS {a b : Nat} {H : Hp} : RV rLeS (.str ⟨#[a]⟩) (.str ⟨#[b]⟩) H (.bl (decide (a ≤ b))) := fun H1 _ Q q => ⟨_, _, rfl, rfl, by
  show Q (.bl (!decide (([b] : List Nat) < [a]))) H1
  rw [not_lt1]
  exact q H1 (Ex.refl H1)⟩
theorem jd_signs {f : Addr} {fd : FuncData} (D : Df K mg "is_signs" sIsSigns ["thing"] f fd) (S : Bs K mg C) : Jd P wd K mg base C 1 "is_signs" "thing" f fd gSigns := by
  refine ⟨D.F.ok scSig lenJ (fun cdv A outer s H vs Q E hr h => ?_), D.g, D.F.kp, D.b⟩
  obtain ⟨v, u, w, rfl, hat, fi, k⟩ := h
  refine ⟨_, pss_one (ps_ret (pe_and (pe_isiX S (by rfl) (by rfl) S.B.str boot_str (by decide) (pv 0) (by decide) (by decide))
    (pe_one (pe_callB (cr_all rfl) (by rfl) S.B.all boot_all' (pa_cons (pe_lc (own := [("sign", 1)]) (g := gName 1) (tt := tYes) rfl scSig.nd (pi_str (pv 0)) (blkOk_by (N := ["thing", "sign"]) (sc := defScope sIsSigns) (by decide +kernel))
      (fun _ _ _ _ _ => pg_name (i := 1) scSig.nd rfl (Or.inl rfl)) (fun _ _ _ _ _ => pts_nil) (fun _ _ _ _ _ => pe_chain op_le_str op_le_str pe_str (pv 1) pe_str)) pa_nil))))), ?_⟩
  refine s_ret (ev_andV (b := gSigns u) (ev_isi (ev_var rfl) hat) fun q => ?_) fun H1 e => ?_
  · obtain ⟨z, rfl⟩ := isT_str q
    cases at_str hat
    exact ev_allS (ev_var rfl) fi.str (fun _ => rfl) fun c _ => ev_chain ev_c (ev_var rfl) ev_c rv_leS fun _ => rv_leS
  · unfold gSigns
    rw [sv_and]
    exact k H1 e
end
end Hs
namespace Hs
open PySem PySem.Spec PyProof.Rows L2 Hu Evl
section
variable {P : Program} {wd : World} {K : PySem.W.Frag} {mg : Str → Option Value} {base : Heap} {C : Addr}
theorem dec_le {n m : Nat} : decide ((n : Int) ≤ (m : Int)) = decide (n ≤ m) := by
  by_cases h : n ≤ m
  · rw [decide_eq_true h, decide_eq_true (by omega)]
  · rw [decide_eq_false h, decide_eq_false (by omega)]
theorem _root_.Hu.Fine.line {z : Str} (h : Fine (.str z)) : z.length ≤ sizeLine := len_fine (by have := h.str; omega)
theorem gSigns_str {u : U} (h : gSigns u = true) : ∃ z, u = .str z := by
  cases u with
  | str z => exact ⟨z, rfl⟩
  | _ => cases h
def lenIn (lo hi : Nat) (u : U) : Bool := sv u fun z => decide (lo ≤ z.length) && decide (z.length ≤ hi)
theorem scIsPiece : FnScope ["thing"] ["thing"] (defScope sPiece) := ⟨rfl, rfl, rfl, by decide +kernel, rfl, by decide +kernel, by decide +kernel⟩
theorem jd_piece {f fI : Addr} {fd fdI : FuncData} (D : Df K mg "is_piece" sPiece ["thing"] f fd) (S : Bs K mg C) (N : Cn mg) (J : Jd P wd K mg base C 1 "is_signs" "thing" fI fdI gSigns) : Jd P wd K mg base C 2 "is_piece" "thing" f fd gPiece := by
  refine ⟨D.F.ok scIsPiece lenJ (fun cdv A outer s H vs Q E hr h => ?_), D.g, D.F.kp, D.b⟩
  obtain ⟨v, u, w, rfl, hat, fi, k⟩ := h
  obtain ⟨t, h9⟩ := N.signs
  refine ⟨_, pss_one (ps_ret (pe_and (pe_J J hr (by decide) (by rfl) pass0 (pv 0)) (pe_one (pe_chain op_le op_le pe_int (pe_callB call_len_str (by rfl) S.B.len PySem.boot_len (pa_cons (pv 0) pa_nil)) (pe_glob (v := .int 8) rfl h9 ⟨_, rfl⟩))))), ?_⟩
  refine s_ret (ev_andV (b := lenIn 1 8 u) (ev_J (ev_var rfl) hat fi) fun q => ?_) fun H1 e => ?_
  · obtain ⟨z, rfl⟩ := gSigns_str q
    cases at_str hat
    exact ev_is (ev_chain ev_c (ev_lenS (ev_var rfl) fi.line) ev_c rv_I0 fun _ => rv_I0) (by rw [show (8 : Int) = ((8 : Nat) : Int) from rfl, show (1 : Int) = ((1 : Nat) : Int) from rfl, dec_le, dec_le]; rfl)
  · have e2 : (gSigns u && lenIn 1 8 u) = gPiece u := by cases u <;> rfl
    rw [e2]
    exact k H1 e
theorem scIsName : FnScope ["thing", "sign"] ["thing"] (defScope sName) := ⟨rfl, rfl, rfl, by decide +kernel, rfl, by decide +kernel, by decide +kernel⟩
theorem jd_name {f : Addr} {fd : FuncData} (D : Df K mg "is_name" sName ["thing"] f fd) (S : Bs K mg C) (N : Cn mg) : Jd P wd K mg base C 2 "is_name" "thing" f fd gNam := by
  refine ⟨D.F.ok scIsName lenJ (fun cdv A outer s H vs Q E hr h => ?_), D.g, D.F.kp, D.b⟩
  obtain ⟨v, u, w, rfl, hat, fi, k⟩ := h
  obtain ⟨t, h8⟩ := N.names
  refine ⟨_, pss_cons (ps_if (PW.pt (pw_or (pt_not (pt_val (pe_isiX S (by rfl) (by rfl) S.B.str boot_str (by decide) (pv 0) (by decide) (by decide))))
      (pw_or1 (pt_not (pt_chain op_le op_le pe_int (pe_callB call_len_str (by rfl) S.B.len PySem.boot_len (pa_cons (pv 0) pa_nil)) (pe_glob (v := .int 8) rfl h8 ⟨_, rfl⟩))))))
      (pss_one (ps_ret pe_bl)) pss_nil)
    (pss_one (ps_ret (pe_callB (cr_all rfl) (by rfl) S.B.all boot_all' (pa_cons (pe_lc (own := [("sign", 1)]) (g := gName 1) (tt := tYes) rfl scIsName.nd (pi_str (pv 0)) (blkOk_by (N := ["thing", "sign"]) (sc := defScope sName) (by decide +kernel))
      (fun _ _ _ _ _ => pg_name (i := 1) scIsName.nd rfl (Or.inl rfl)) (fun _ _ _ _ _ => pts_nil) (fun _ _ _ _ _ => pe_chain op_le_str op_le_str pe_str (pv 1) pe_str)) pa_nil)))), ?_⟩
  refine s_if (b := !isT u "str" || !lenIn 1 8 u) (et_or (et_not (et_B (ev_isi (ev_var rfl) hat))) fun q => ?_) (fun q H1 e => ?_) (fun q H1 e => ?_)
  · rw [Bool.not_eq_false'] at q
    obtain ⟨z, rfl⟩ := isT_str q
    cases at_str hat
    exact et_not (et_test (ev_is (ev_chain ev_c (ev_lenS (ev_var rfl) fi.line) ev_c rv_I0 fun _ => rv_I0) (by rw [show (8 : Int) = ((8 : Nat) : Int) from rfl, show (1 : Int) = ((1 : Nat) : Int) from rfl, dec_le, dec_le]; rfl)))
  · refine s_ret ev_c fun H2 e2 => ?_
    have e3 : gNam u = false := by
      cases u with
      | str z =>
        simp [isT, isS, tyU] at q
        show (lenIn 1 8 (.str z) && _) = false
        rw [q]
        rfl
      | _ => rfl
    rw [← e3]
    exact k H2 (e.trans e2)
  · rw [Bool.or_eq_false_iff, Bool.not_eq_false', Bool.not_eq_false'] at q
    obtain ⟨z, rfl⟩ := isT_str q.1
    cases at_str hat
    refine s_ret (ev_allS (g := lowc) (ev_var rfl) fi.str (fun _ => rfl) fun c _ => ev_chain ev_c (ev_var rfl) ev_c rv_leS fun _ => rv_leS) fun H2 e2 => ?_
    have e3 : gNam (.str z) = (TL.tl z).all lowc := by
      show (lenIn 1 8 (.str z) && _) = _
      rw [q.2]
      rfl
    rw [← e3]
    exact k H2 (e.trans e2)
theorem two_of {us : List U} (h : us.length = 2) : ∃ a b, us = [a, b] := by
  match us, h with
  | [a, b], _ => exact ⟨a, b, rfl⟩
theorem atl_two {w : Addr} {H : Hp} {xs : List V} {a b : U} (h : AtL w C H xs [a, b]) : ∃ x y, xs = [x, y] ∧ At w C H x a ∧ At w C H y b := by
  cases h with
  | cons h1 h => cases h with
    | cons h2 h => cases h with
      | nil => exact ⟨_, _, rfl, h1, h2⟩
theorem gPair_two {u : U} (h : gPair u = true) : ∃ a b, u = .tup [a, b] := by
  cases u with
  | tup us =>
    obtain ⟨a, b, rfl⟩ := two_of (of_decide_eq_true h)
    exact ⟨a, b, rfl⟩
  | _ => cases h
theorem pair_at {w : Addr} {H : Hp} {v : V} {a b : U} (h : At w C H v (.tup [a, b])) : ∃ p x y, v = .ref p ∧ Tu H p [x, y] [a, b] ∧ At w C H x a ∧ At w C H y b := by
  obtain ⟨p, xs, rfl, hp, _, hl⟩ := at_tup h
  obtain ⟨x, y, rfl, h1, h2⟩ := atl_two hl
  exact ⟨p, x, y, rfl, hp, h1, h2⟩
theorem pair_and (u : U) (p : U → U → Bool) : (gPair u && tv u fun us => two us p) = tv u fun us => two us p := by
  cases u with
  | tup us =>
    match us with
    | [] => rfl
    | [a] => rfl
    | [a, b] => rfl
    | a :: b :: c :: r => simp [gPair, tv, two]
  | _ => rfl
theorem _root_.Hu.Fine.fst {a b : U} (h : Fine (.tup [a, b])) : Fine a := h.tup a (by simp)
theorem _root_.Hu.Fine.snd {a b : U} (h : Fine (.tup [a, b])) : Fine b := h.tup b (by simp)
theorem scId : FnScope ["thing"] ["thing"] (defScope sBlockId) := ⟨rfl, rfl, rfl, by decide +kernel, rfl, by decide +kernel, by decide +kernel⟩
theorem jd_id {f f1 f2 f3 : Addr} {fd d1 d2 d3 : FuncData} (D : Df K mg "is_block_id" sBlockId ["thing"] f fd) (S : Bs K mg C) (JP : Jd P wd K mg base C 1 "is_pair" "thing" f1 d1 gPair) (JH : Jd P wd K mg base C 2 "is_hand" "thing" f2 d2 gHand) (JF : Jd P wd K mg base C 2 "is_from_one" "thing" f3 d3 gFrom) :
    Jd P wd K mg base C 3 "is_block_id" "thing" f fd gId := by
  refine ⟨D.F.ok scId lenJ (fun cdv A outer s H vs Q E hr h => ?_), D.g, D.F.kp, D.b⟩
  obtain ⟨v, u, w, rfl, hat, fi, k⟩ := h
  refine ⟨_, pss_one (ps_ret (pe_and (pe_J JP hr (by decide) (by rfl) pass0 (pv 0)) (pe_and (pe_J JH hr (by decide) (by rfl) pass0 (pe_ix ix_tup (pv 0) pe_int (fun _ _ => rfl))) (pe_one (pe_J JF hr (by decide) (by rfl) pass0 (pe_ix ix_tup (pv 0) pe_int (fun _ _ => rfl))))))), ?_⟩
  refine s_ret (ev_andV (b := gId u) (ev_J (ev_var rfl) hat fi) fun q => ?_) fun H1 e => ?_
  · obtain ⟨a, b, rfl⟩ := gPair_two q
    obtain ⟨p, x, y, rfl, hp, ha, hb⟩ := pair_at hat
    exact ev_andV (ev_J (ev_ixT (j := 0) (ev_var rfl) hp rfl) ha fi.fst) fun _ => ev_J (ev_ixT (j := 1) (ev_var rfl) hp rfl) hb fi.snd
  · unfold gId
    rw [pair_and]
    exact k H1 e
theorem scRow : FnScope ["thing", "item"] ["thing"] (defScope sRow) := ⟨rfl, rfl, rfl, by decide +kernel, rfl, by decide +kernel, by decide +kernel⟩
theorem ev_isN {σ : L2.St} {H : Hp} {te : TE} {v : V} (h : Ev te σ H v) : Ev (tOp rIsN te (tC .non)) σ H (.bl (decide (v = .non))) := ev_op h ev_c fun H1 _ Q q => ⟨rfl, q H1 (Ex.refl H1)⟩
def isNon (u : U) : Bool := match u with | .non => true | _ => false
theorem at_non {w : Addr} {H : Hp} {v : V} {u : U} (h : At w C H v u) : decide (v = .non) = isNon u := by
  cases h <;> rfl
def lenT (hi : Nat) (u : U) : Bool := tv u fun us => decide (us.length ≤ hi)
theorem ev_lenTU {w : Addr} {σ : L2.St} {H : Hp} {te : TE} {a : Addr} {xs : List V} {us : List U} (h : Ev te σ H (.ref a)) (hx : Tu H a xs us) (hl : AtL w C H xs us) : Ev (tCB (rLenQ K) (tCons te tNil)) σ H (.int (us.length : Int)) :=
  ev_is (ev_lenT h hx) (by rw [AtL.length hl])
theorem not_le' {n m : Nat} : decide ((m : Int) < (n : Int)) = !decide (n ≤ m) := by
  by_cases h : n ≤ m
  · rw [decide_eq_true h, decide_eq_false (by omega)]
    rfl
  · rw [decide_eq_false h, decide_eq_true (by omega)]
    rfl
theorem jd_row {f f1 : Addr} {fd d1 : FuncData} (D : Df K mg "is_row" sRow ["thing"] f fd) (S : Bs K mg C) (N : Cn mg) (J : Jd P wd K mg base C 3 "is_block_id" "thing" f1 d1 gId) :
    Jd P wd K mg base C 4 "is_row" "thing" f fd gRow := by
  refine ⟨D.F.ok scRow lenJ (fun cdv A outer s H vs Q E hr h => ?_), D.g, D.F.kp, D.b⟩
  obtain ⟨v, u, w, rfl, hat, fi, k⟩ := h
  obtain ⟨t, h12⟩ := N.pieces
  refine ⟨_, pss_cons (ps_if (pt_cmpR op_isN1 (pv 0) pe_non (nomark _)) (pss_one (ps_ret pe_bl)) pss_nil)
    (pss_cons (ps_if (PW.pt (pw_or (pt_not (pt_val (pe_isiX S (by rfl) (by rfl) S.B.tup boot_tuple' (by decide) (pv 0) (by decide) (by decide))))
      (pw_or1 (pt_cmpR op_gt (pe_callB call_len_seq (by rfl) S.B.len PySem.boot_len (pa_cons (pv 0) pa_nil)) (pe_glob (v := .int 12) rfl h12 ⟨_, rfl⟩) (nomark _)))))
      (pss_one (ps_ret pe_bl)) pss_nil)
    (pss_one (ps_ret (pe_callB (cr_all rfl) (by rfl) S.B.all boot_all' (pa_cons (pe_lc (own := [("item", 1)]) (g := gName 1) (tt := tYes) rfl scRow.nd (pi_tup (pv 0)) (blkOk_by (N := ["thing", "item"]) (sc := defScope sRow) (by decide +kernel))
      (fun _ _ _ _ _ => pg_name (i := 1) scRow.nd rfl (Or.inl rfl)) (fun _ _ _ _ _ => pts_nil) (fun _ _ _ _ _ => pe_J J hr (by decide) (by rfl) pass0 (pv 1))) pa_nil))))), ?_⟩
  refine s_if (b := isNon u) (et_test (ev_is (ev_isN (ev_var rfl)) (by rw [at_non hat]))) (fun q H1 e => ?_) (fun q H1 e => ?_)
  · refine s_ret ev_c fun H2 e2 => ?_
    have := k H2 (e.trans e2)
    cases u with
    | non => exact this
    | _ => cases q
  · have hat1 := ex_at e hat
    refine s_if (b := !isT u "tuple" || !lenT 12 u) (et_or (et_not (et_B (ev_isi (ev_var rfl) hat1))) fun q => ?_) (fun q H2 e2 => ?_) (fun q H2 e2 => ?_)
    · rw [Bool.not_eq_false'] at q
      obtain ⟨us, rfl⟩ := isT_tup q
      obtain ⟨a, xs, rfl, ha, _, hl⟩ := at_tup hat1
      exact et_test (ev_is (ev_op (ev_lenTU (K := K) (ev_var rfl) ha hl) ev_c rv_I0) (by rw [show (12 : Int) = ((12 : Nat) : Int) from rfl, not_le']; rfl))
    · refine s_ret ev_c fun H3 e3 => ?_
      have e4 : gRow u = false := by
        cases u with
        | tup us =>
          simp [isT, isS, tyU] at q
          show (lenT 12 (.tup us) && _) = false
          rw [q]
          rfl
        | non => cases (show true = false from by assumption)
        | _ => rfl
      rw [← e4]
      exact k H3 ((e.trans e2).trans e3)
    · rw [Bool.or_eq_false_iff, Bool.not_eq_false', Bool.not_eq_false'] at q
      obtain ⟨us, rfl⟩ := isT_tup q.1
      obtain ⟨a, xs, rfl, ha, _, hl⟩ := at_tup (ex_at e2 hat1)
      refine s_ret (ev_allT (g := gId) (ev_var rfl) ha fi.len hl (fun _ => rfl) fun x u hu hx => ev_J (ev_var rfl) hx (fi.tup u hu)) fun H3 e3 => ?_
      have e4 : gRow (.tup us) = us.all gId := by
        show (lenT 12 (.tup us) && _) = _
        rw [q.2]
        rfl
      rw [← e4]
      exact k H3 ((e.trans e2).trans e3)
end
end Hs
namespace Hs
open PySem PySem.Spec PyProof.Rows L2 Hu Evl
section
variable {P : Program} {wd : World} {K : PySem.W.Frag} {mg : Str → Option Value} {base : Heap} {C : Addr}
theorem scStamp : FnScope ["thing"] ["thing"] (defScope sStamp) := ⟨rfl, rfl, rfl, by decide +kernel, rfl, by decide +kernel, by decide +kernel⟩
theorem shp2 (i j : Int) : SeqAt.shaped (.tuple [.int i, .int j]) = true := by
  show ((PyData.tuple [.int i, .int j]).canLay0 && decide ((PyData.tuple [.int i, .int j]).depth ≤ 64)) = true
  simp [PyData.canLay0, PyData.canLayAll0, PyData.depth, PyData.depthAll]
theorem eqv2 (i j k l : Int) : PyData.eqv (.tuple [.int i, .int j]) (.tuple [.int k, .int l]) = (decide (i = k) && decide (j = l)) := by
  simp only [PyData.eqv, PyData.eqvAll, Bool.and_true]
  congr 1
theorem dp2 {H : Hp} {p : Addr} {i j : Int} (h : H p = some (.tup [.int i, .int j])) : Dp K H (.ref p) (.tuple [.int i, .int j]) := .tup (st_of h) (.cons (.int i) (.cons (.int j) .nil))
theorem rv_eq2 {H : Hp} {p q : Addr} {i j k l : Int} (hp : H p = some (.tup [.int i, .int j])) (hq : H q = some (.tup [.int k, .int l])) : RV (rEqD K) (.ref p) (.ref q) H (.bl (decide (i = k) && decide (j = l))) := fun H1 e Q f =>
  ⟨_, _, dp2 (e _ _ hp), dp2 (e _ _ hq), shp2 _ _, shp2 _ _, by rw [eqv2]; exact f H1 (Ex.refl H1)⟩
theorem room_hu {k : Nat} {A : Around} (r : Room k A) : A.units + 64 < cLine := r.units
/-- a pair of integers -/
def ints2 (u : U) : Bool := tv u fun us => two us fun a b => gInt a && gInt b
theorem ints2_two {u : U} (h : ints2 u = true) : ∃ i j, u = .tup [.int i, .int j] := by
  cases u with
  | tup us =>
    match us, h with
    | [a, b], h =>
      have h1 : (gInt a && gInt b) = true := h
      rw [Bool.and_eq_true] at h1
      obtain ⟨i, rfl⟩ := gInt_int h1.1
      obtain ⟨j, rfl⟩ := gInt_int h1.2
      exact ⟨i, j, rfl⟩
  | _ => cases h
theorem jd_stamp {f f1 f2 f3 f4 : Addr} {fd d1 d2 d3 d4 : FuncData} (D : Df K mg "is_stamp" sStamp ["thing"] f fd) (S : Bs K mg C) (JP : Jd P wd K mg base C 1 "is_pair" "thing" f1 d1 gPair) (JI : Jd P wd K mg base C 1 "is_integer" "thing" f2 d2 gInt)
    (JF : Jd P wd K mg base C 2 "is_from_one" "thing" f3 d3 gFrom) (JH : Jd P wd K mg base C 2 "is_hand" "thing" f4 d4 gHand) : Jd P wd K mg base C 3 "is_stamp" "thing" f fd gStamp := by
  refine ⟨D.F.ok scStamp lenJ (fun cdv A outer s H vs Q E hr h => ?_), D.g, D.F.kp, D.b⟩
  obtain ⟨v, u, w, rfl, hat, fi, k⟩ := h
  refine ⟨_, pss_cons (ps_if (PW.pt (pw_or (pt_not (pt_val (pe_J JP hr (by decide) (by rfl) pass0 (pv 0)))) (pw_or (pt_not (pt_val (pe_J JI hr (by decide) (by rfl) pass0 (pe_ix ix_tup (pv 0) pe_int (fun _ _ => rfl)))))
      (pw_or1 (pt_not (pt_val (pe_J JI hr (by decide) (by rfl) pass0 (pe_ix ix_tup (pv 0) pe_int (fun _ _ => rfl)))))))))
      (pss_one (ps_ret pe_bl)) pss_nil)
    (pss_one (ps_ret (pe_or (pe_cmpR (op_eqD (room_hu hr)) (pv 0) (pe_tup (pa_cons pe_int (pa_cons pe_int pa_nil))) (nomark _)) (pe_one (pe_and (pe_J JF hr (by decide) (by rfl) pass0 (pe_ix ix_tup (pv 0) pe_int (fun _ _ => rfl)))
      (pe_one (pe_J JH hr (by decide) (by rfl) pass0 (pe_ix ix_tup (pv 0) pe_int (fun _ _ => rfl))))))))), ?_⟩
  have e0 : (!gPair u || (!(tv u fun us => two us fun a b => gInt a) || !ints2 u)) = !ints2 u := by
    cases u with
    | tup us =>
      match us with
      | [] => rfl
      | [a] => rfl
      | [a, b] =>
        show (!true || (!gInt a || !(gInt a && gInt b))) = !(gInt a && gInt b)
        cases gInt a <;> cases gInt b <;> rfl
      | a :: b :: c :: r => simp [gPair, tv, two, ints2]
    | _ => rfl
  refine s_if (b := !gPair u || (!(tv u fun us => two us fun a b => gInt a) || !ints2 u)) (et_or (et_not (et_B (ev_J (ev_var rfl) hat fi))) fun q => ?_) (fun q H1 e => ?_) (fun q H1 e => ?_)
  · rw [Bool.not_eq_false'] at q
    obtain ⟨a, b, rfl⟩ := gPair_two q
    obtain ⟨p, x, y, rfl, hp, ha, hb⟩ := pair_at hat
    refine et_or (et_not (et_B (ev_J (g := gInt) (u := a) (ev_ixT (j := 0) (ev_var rfl) hp rfl) ha fi.fst))) fun q2 => et_is (et_not (et_B (ev_J (g := gInt) (u := b) (ev_ixT (j := 1) (ev_var rfl) hp rfl) hb fi.snd))) ?_
    have q3 : (!gInt a) = false := q2
    rw [Bool.not_eq_false'] at q3
    show (!gInt b) = !(gInt a && gInt b)
    rw [q3]
    rfl
  · refine s_ret ev_c fun H2 e2 => ?_
    rw [e0] at q
    have e4 : gStamp u = false := by
      cases u with
      | tup us =>
        match us with
        | [] => rfl
        | [a] => rfl
        | [a, b] =>
          have q' : (!(gInt a && gInt b)) = true := q
          show (iv a fun i => iv b fun j => _) = false
          cases a <;> try rfl
          cases b <;> first | rfl | cases q'
        | a :: b :: c :: r => rfl
      | _ => rfl
    rw [← e4]
    exact k H2 (e.trans e2)
  · rw [e0, Bool.not_eq_false'] at q
    obtain ⟨i, j, rfl⟩ := ints2_two q
    obtain ⟨p, x, y, rfl, hp, ha, hb⟩ := pair_at (ex_at e hat)
    have hx := at_int ha
    have hy := at_int hb
    subst hx hy
    refine s_ret (ev_orV (ev_opU (ev_var rfl) (eu_tup (ea_cons ev_c (ea_cons ev_c ea_nil)) (by decide)) fun q H1 hq e1 => rv_eq2 (Tu.ex e1 hp) hq) fun _ => ev_andV (ev_J (ev_ixT (j := 0) (ev_var rfl) hp rfl) ha fi.fst) fun _ => ev_J (ev_ixT (j := 1) (ev_var rfl) hp rfl) hb fi.snd) fun H2 e2 => ?_
    exact k H2 (e.trans e2)
/-! ### rising -/
def spAsc : Sp := fun vs H Q _ => ∃ (a : Addr) (ns : List Int), vs = [.ref a] ∧ H a = some (.tup (ns.map V.int)) ∧ 1 ≤ ns.length ∧ ns.length ≤ 1000 ∧ ∀ H', Same H H' → Q (.bl (ascI ns)) H'
theorem scAsc : FnScope ["things", "k"] ["things"] (defScope sAscending) := ⟨rfl, rfl, rfl, by decide +kernel, rfl, by decide +kernel, by decide +kernel⟩
theorem given_all (n : Nat) (v : Nat → V) : given n (fun _ => true) v = (List.range n).map v := by
  unfold given
  rw [List.filter_eq_self.mpr fun _ _ => rfl]
theorem getD_at {ns : List Int} {i : Nat} (h : i < ns.length) : (ns.map V.int)[i]? = some (.int (ns.getD i 0)) := by
  rw [List.getElem?_map, List.getD_eq_getElem?_getD, List.getElem?_eq_getElem h]
  rfl
theorem ev_cb1 {r : List V → Hp → VK → Prop} {σ : L2.St} {H : Hp} {te : TE} {xs : List V} {z : V} (h : EvL te σ H xs) (hr : ∀ p H1, H1 p = some (.lst xs) → Ex H H1 → ∀ Q : VK, (∀ H2, Ex H1 H2 → Q z H2) → r [.ref p] H1 Q) : Ev (tCB r (tCons te tNil)) σ H z :=
  fun H0 e Q q => h H0 e _ fun p H1 hp e1 h1 => hr p H1 h1 (e.trans e1) Q fun H2 e2 => q H2 (e1.trans e2)
theorem asc_reads {σ : L2.St} {H : Hp} {a : Addr} {ns : List Int} (h0 : σ = [some (.ref a), none]) (ha : H a = some (.tup (ns.map V.int))) (h1 : 1 ≤ ns.length) (h2 : ns.length ≤ 1000) :
    Ev (tCB (rAll K) (tCons (tLc (iRng1 (tCons (tOp (rI0 fun i j => .int (i - j)) (tCB (rLenQ K) (tCons (tVar 0) tNil)) (tC (.int 1))) tNil)) (gName 1) tYes (tOp (rI0 fun i j => .bl (decide (i < j))) (tOp (rIxT K) (tVar 0) (tVar 1)) (tOp (rIxT K) (tVar 0) (tOp (rI0 fun i j => .int (i + j)) (tVar 1) (tC (.int 1))))) [1]) tNil)) σ H (.bl (ascI ns)) := by
  subst h0
  have hl : (ns.map V.int).length = ns.length := List.length_map ..
  have hn : (((ns.map V.int).length : Nat) : Int) - 1 = ((ns.length - 1 : Nat) : Int) := by
    rw [hl]
    omega
  have main : EvL (tLc (iRng1 (tCons (tOp (rI0 fun i j => .int (i - j)) (tCB (rLenQ K) (tCons (tVar 0) tNil)) (tC (.int 1))) tNil)) (gName 1) tYes (tOp (rI0 fun i j => .bl (decide (i < j))) (tOp (rIxT K) (tVar 0) (tVar 1)) (tOp (rIxT K) (tVar 0) (tOp (rI0 fun i j => .int (i + j)) (tVar 1) (tC (.int 1))))) [1]) [some (.ref a), none] H
      (given ((((ns.map V.int).length : Nat) : Int) - 1).toNat (fun _ => true) fun k => .bl (decide (ns.getD k 0 < ns.getD (k + 1) 0))) :=
    el_lcR1 (σ := [some (.ref a), none]) (j := 1) (vs := [1]) (n := (((ns.map V.int).length : Nat) : Int) - 1) (fun _ => true) (fun k => .bl (decide (ns.getD k 0 < ns.getD (k + 1) 0))) (ea_cons (ev_op (ev_lenP (ev_var rfl) ha) ev_c rv_I0) ea_nil) (by omega) (fun _ => rfl) (fun _ _ _ _ => et_yes) (fun i H2 e2 hi _ => by
      have hi' : i + 1 < ns.length := by omega
      have i1 : atI (ns.map V.int) (i : Int) = some (.int (ns.getD i 0)) := atI_nat (getD_at (by omega))
      have i2 : atI (ns.map V.int) ((i : Int) + 1) = some (.int (ns.getD (i + 1) 0)) := atI_nat (j := i + 1) (getD_at hi')
      exact ev_op (ev_op (ev_var rfl) (ev_var rfl) (rv_ixT (st_of (e2 _ _ ha)) i1)) (ev_op (ev_var rfl) (ev_op (ev_var rfl) ev_c rv_I0) (rv_ixT (st_of (e2 _ _ ha)) i2)) rv_I0)
  refine ev_cb1 main fun p H2 h2 e2 Q q => ⟨p, (List.range (ns.length - 1)).map fun k => decide (ns.getD k 0 < ns.getD (k + 1) 0), rfl, sq_of ?_, ?_⟩
  · rw [h2, hn, given_all, Int.toNat_natCast, List.map_map]
    rfl
  · have e : ((List.range (ns.length - 1)).map fun k => decide (ns.getD k 0 < ns.getD (k + 1) 0)).all id = ascI ns := by
      rw [List.all_map]
      rfl
    rw [e]
    exact q H2 (Ex.refl H2)
theorem ok_asc {f : Addr} {fd : FuncData} (F : Fun K "is_ascending" "is_ascending" sAscending f fd) (B : Bt mg) : FnOk P wd K mg base CX0 1 f fd ["things"] spAsc := by
  refine F.ok scAsc (fun vs H Q E h => ?_) (fun cdv A outer s H vs Q E hr h => ?_)
  · obtain ⟨n, m, rfl, _⟩ := h
    rfl
  · obtain ⟨a, ns, rfl, ha, h1, h2, k⟩ := h
    refine ⟨_, pss_one (ps_ret (pe_callB (cr_all rfl) (by rfl) B.all boot_all' (pa_cons (pe_lc (own := [("k", 1)]) (g := gName 1) (tt := tYes) rfl scAsc.nd (pi_range1 (by rfl) B.range (pa_cons (pe_op op_sub (pe_callB call_len_seq (by rfl) B.len PySem.boot_len (pa_cons (pv 0) pa_nil)) pe_int) pa_nil)) (blkOk_by (N := ["things", "k"]) (sc := defScope sAscending) (by decide +kernel))
      (fun _ _ _ _ _ => pg_name (i := 1) scAsc.nd rfl (Or.inl rfl)) (fun _ _ _ _ _ => pts_nil) (fun _ _ _ _ _ => pe_cmpR op_lt (pe_ix (show IxR _ (rIxT K) from ix_tup) (pv 0) (pv 1) (fun _ _ => rfl)) (pe_ix (show IxR _ (rIxT K) from ix_tup) (pv 0) (pe_op op_add (pv 1) pe_int) (fun _ _ => rfl)) (nomark _))) pa_nil))), ?_⟩
    exact s_ret (asc_reads rfl ha h1 h2) k
/-! ### members -/
theorem ints_of {w : Addr} {H : Hp} : ∀ {us : List U} {xs : List V}, AtL w C H xs us → us.all gInt = true → xs = (us.map intU).map V.int
  | _, _, .nil, _ => rfl
  | u :: us, _, .cons h l, q => by
    rw [List.all_cons, Bool.and_eq_true] at q
    obtain ⟨i, rfl⟩ := gInt_int q.1
    rw [ints_of l q.2, at_int h]
    rfl
theorem home_int {u : U} (h : gHome u = true) : gInt u = true := by
  cases u with
  | int i => rfl
  | _ => cases h
theorem homes_ints {us : List U} (h : us.all gHome = true) : us.all gInt = true := List.all_eq_true.mpr fun u hu => home_int (List.all_eq_true.mp h u hu)
theorem isB_first {u : U} {us : List U} (h : blkS u = false) : isB (u :: us) = false := by
  unfold isB
  rw [List.all_cons, h, Bool.false_and]
theorem isB_homes {us : List U} (h : us.all gHome = true) (h1 : 1 ≤ us.length) : isB us = false := by
  cases us with
  | nil => simp at h1
  | cons u us =>
    rw [List.all_cons, Bool.and_eq_true] at h
    obtain ⟨i, rfl⟩ := gInt_int (home_int h.1)
    exact isB_first rfl
theorem scMembers : FnScope ["thing", "item"] ["thing"] (defScope sMembers) := ⟨rfl, rfl, rfl, by decide +kernel, rfl, by decide +kernel, by decide +kernel⟩
def lenB (lo hi : Nat) (u : U) : Bool := tv u fun us => decide (lo ≤ us.length) && decide (us.length ≤ hi)
theorem spv_asc {H : Hp} {a : Addr} {ns : List Int} (ha : H a = some (.tup (ns.map V.int))) (h1 : 1 ≤ ns.length) (h2 : ns.length ≤ 1000) : SpV spAsc [.ref a] H (.bl (ascI ns)) := fun H1 e Q q E => ⟨a, ns, rfl, e _ _ ha, h1, h2, q⟩
theorem jd_members {f f1 f2 : Addr} {fd d1 d2 : FuncData} (D : Df K mg "is_members" sMembers ["thing"] f fd) (S : Bs K mg C) (N : Cn mg) (J : Jd P wd K mg base C 2 "is_home" "thing" f1 d1 gHome) (DA : Df K mg "is_ascending" sAscending ["things"] f2 d2) :
    Jd P wd K mg base C 4 "is_members" "thing" f fd gMembers := by
  refine ⟨D.F.ok scMembers lenJ (fun cdv A outer s H vs Q E hr h => ?_), D.g, D.F.kp, D.b⟩
  obtain ⟨v, u, w, rfl, hat, fi, k⟩ := h
  obtain ⟨t, h9⟩ := N.homes
  have GA : FnOk P wd K mg base CX0 3 f2 d2 ["things"] spAsc := (ok_asc DA.F S.B).mono (by decide)
  refine ⟨_, pss_cons (ps_if (PW.pt (pw_or (pt_not (pt_val (pe_isiX S (by rfl) (by rfl) S.B.tup boot_tuple' (by decide) (pv 0) (by decide) (by decide))))
      (pw_or1 (pt_not (pt_chain op_le op_le pe_int (pe_callB call_len_seq (by rfl) S.B.len PySem.boot_len (pa_cons (pv 0) pa_nil)) (pe_glob (v := .int 9) rfl h9 ⟨_, rfl⟩))))))
      (pss_one (ps_ret pe_bl)) pss_nil)
    (pss_one (ps_ret (pe_and (pe_callB (cr_all rfl) (by rfl) S.B.all boot_all' (pa_cons (pe_lc (own := [("item", 1)]) (g := gName 1) (tt := tYes) rfl scMembers.nd (pi_tup (pv 0)) (blkOk_by (N := ["thing", "item"]) (sc := defScope sMembers) (by decide +kernel))
      (fun _ _ _ _ _ => pg_name (i := 1) scMembers.nd rfl (Or.inl rfl)) (fun _ _ _ _ _ => pts_nil) (fun _ _ _ _ _ => pe_J J hr (by decide) (by rfl) pass0 (pv 1))) pa_nil))
      (pe_one (pe_call GA hr (by rfl) DA.g DA.F.kp DA.b .nil pass0 (pa_cons (pv 0) pa_nil)))))), ?_⟩
  refine s_if (b := !isT u "tuple" || !lenB 1 9 u) (et_or (et_not (et_B (ev_isi (ev_var rfl) hat))) fun q => ?_) (fun q H1 e => ?_) (fun q H1 e => ?_)
  · rw [Bool.not_eq_false'] at q
    obtain ⟨us, rfl⟩ := isT_tup q
    obtain ⟨a, xs, rfl, ha, _, hl⟩ := at_tup hat
    exact et_not (et_test (ev_is (ev_chain ev_c (ev_lenTU (K := K) (ev_var rfl) ha hl) ev_c rv_I0 fun _ => rv_I0) (by rw [show (9 : Int) = ((9 : Nat) : Int) from rfl, show (1 : Int) = ((1 : Nat) : Int) from rfl, dec_le, dec_le]; rfl)))
  · refine s_ret ev_c fun H2 e2 => ?_
    have e3 : gMembers u = false := by
      cases u with
      | tup us =>
        simp [isT, isS, tyU] at q
        show ((lenB 1 9 (.tup us) && _) && _) = false
        rw [q]
        rfl
      | _ => rfl
    rw [← e3]
    exact k H2 (e.trans e2)
  · rw [Bool.or_eq_false_iff, Bool.not_eq_false', Bool.not_eq_false'] at q
    obtain ⟨us, rfl⟩ := isT_tup q.1
    obtain ⟨a, xs, rfl, ha, _, hl⟩ := at_tup (ex_at e hat)
    have hb : (decide (1 ≤ us.length) && decide (us.length ≤ 9)) = true := q.2
    rw [Bool.and_eq_true] at hb
    have b1 : 1 ≤ us.length := of_decide_eq_true hb.1
    have b2 : us.length ≤ 9 := of_decide_eq_true hb.2
    refine s_ret (ev_andV (b := ascI (us.map intU)) (ev_allT (g := gHome) (ev_var rfl) ha fi.len hl (fun _ => rfl) fun x u hu hx => ev_J (ev_var rfl) hx (fi.tup u hu)) fun q2 => ?_) fun H2 e2 => ?_
    · have hx := ints_of hl (homes_ints q2)
      rw [hx] at ha
      exact ev_call (ea_cons (ev_var rfl) ea_nil) (spv_asc (ha.plain (isB_homes q2 b1)) (by rw [List.length_map]; exact b1) (by rw [List.length_map]; omega))
    · have e3 : gMembers (.tup us) = (us.all gHome && ascI (us.map intU)) := by
        show ((lenB 1 9 (.tup us) && us.all gHome) && _) = _
        rw [q.2]
        rfl
      rw [← e3]
      exact k H2 (e.trans e2)
end
end Hs
namespace PySem.SeqAt
open PySem PySem.Spec PyProof.Rows
theorem dict_eq_declines_tuple (l b : Addr) (es : Array DictEntry) (items2 : Array Value) (n n2 : Nat) (dd dd2 : Option Addr) (sl sl2 : Array (Option Value)) :
    Meets (Builtin.«dict.__eq__» ⟨[.ref l, .ref b], []⟩) (fun _ R s => s.heap.get? l = some { cls := .type "dict", dict := dd, data := .dict es n, slots := sl } ∧ s.heap.get? b = some { cls := .type "tuple", dict := dd2, data := .seq items2 n2, slots := sl2 } ∧ R (.ok (.ret .notImplemented)) s) :=
  .of_wp fun prog w A R s h => by obtain ⟨hp, g, d, tk, os⟩ := s; obtain ⟨hl, hb, h⟩ := h; have f1 := F.sub_tuple_dict; wp_walk using wpAny_loadPart' hl, wpAny_loadPart' hb; exact ⟨_, rfl, h⟩
theorem tuple_eq_declines_dict (l b : Addr) (items : Array Value) (es : Array DictEntry) (n n2 : Nat) (dd dd2 : Option Addr) (sl sl2 : Array (Option Value)) :
    Meets (Builtin.«tuple.__eq__» ⟨[.ref l, .ref b], []⟩) (fun _ R s => s.heap.get? l = some { cls := .type "tuple", dict := dd, data := .seq items n, slots := sl } ∧ s.heap.get? b = some { cls := .type "dict", dict := dd2, data := .dict es n2, slots := sl2 } ∧ R (.ok (.ret .notImplemented)) s) :=
  .of_wp fun prog w A R s h => by obtain ⟨hp, g, d, tk, os⟩ := s; obtain ⟨hl, hb, h⟩ := h; have f1 := F.sub_dict_tuple; wp_walk using wpAny_loadPart' hl, wpAny_loadPart' hb; exact ⟨_, rfl, h⟩
theorem dict_eq_declines_int (l : Addr) (es : Array DictEntry) (n : Nat) (dd : Option Addr) (sl : Array (Option Value)) (b : Int) (u : Tok) :
    Meets (Builtin.«dict.__eq__» ⟨[.ref l, .int b u], []⟩) (fun _ R s => s.heap.get? l = some { cls := .type "dict", dict := dd, data := .dict es n, slots := sl } ∧ R (.ok (.ret .notImplemented)) s) :=
  .of_wp fun prog w A R s h => by obtain ⟨hp, g, d, tk, os⟩ := s; obtain ⟨hl, h⟩ := h; have f1 := F.sub_int_dict; wp_walk using wpAny_loadPart' hl; exact ⟨_, rfl, h⟩
theorem int_eq_declines_dict (b : Int) (u : Tok) (l : Addr) (es : Array DictEntry) (n : Nat) (dd : Option Addr) (sl : Array (Option Value)) :
    Meets (Builtin.«int.__eq__» ⟨[.int b u, .ref l], []⟩) (fun _ R s => s.heap.get? l = some { cls := .type "dict", dict := dd, data := .dict es n, slots := sl } ∧ R (.ok (.ret .notImplemented)) s) :=
  .of_wp fun prog w A R s h => by obtain ⟨hp, g, d, tk, os⟩ := s; obtain ⟨hl, h⟩ := h; wp_walk using wpAny_loadPart' hl, wpAny_load hl; exact ⟨_, rfl, h⟩
section
variable {A : Around} {s : Shared}
theorem RcAt.dict_int {l : Addr} {es : Array DictEntry} {n : Nat} {dd : Option Addr} {sl : Array (Option Value)} (b : Int) (u : Tok) (ho : s.heap.get? l = some { cls := .type "dict", dict := dd, data := .dict es n, slots := sl }) (hu : A.units < cLine) : RcAt A s (.ref l) (.int b u) false := fun prog w E Q h =>
  rc_eq_decline_or (k := false) ⟨_, ho, rfl⟩ (typeIs_int s b u) (by decide) F.sub_int_dict F.slot_dict_eq F.slot_int_eq_refl
    (fun _ hq => call_meets F.slot_dict_eq ⟨_, ho, rfl⟩ F.entry_dict_eq (F.args_dict_eq_2 _ _) (dict_eq_declines_int l es n dd sl b u) ⟨ho, hq⟩)
    (fun _ hq => call_meets F.slot_int_eq_refl (typeIs_int s b u) F.entry_int_eq (F.args_int_eq_2 _ _) (int_eq_declines_dict b u l es n dd sl) ⟨ho, hq⟩)
    (fun _ hq => wpAny_of_eq (rfl : isSame (.ref l) (.int b u) = pure false) hq) (.inr hu) h
theorem RcAt.dict_tuple {l b : Addr} {es : Array DictEntry} {n : Nat} {dd : Option Addr} {sl : Array (Option Value)} {items2 : Array Value} (ho : s.heap.get? l = some { cls := .type "dict", dict := dd, data := .dict es n, slots := sl }) (hb : s.heap.IsTuple b items2) (hu : A.units < cLine) : RcAt A s (.ref l) (.ref b) false := by
  obtain ⟨⟨cls2, dd2, data2, sl2⟩, ho2, hc2, n2, hd2⟩ := id hb
  simp only at hc2 hd2
  subst hc2 hd2
  have hne : l ≠ b := fun e => by
    subst e
    have e1 := congrArg (Option.map Obj.data) (ho.symm.trans ho2)
    cases e1
  exact fun prog w E Q h => rc_eq_decline_or (k := false) ⟨_, ho, rfl⟩ ⟨_, ho2, rfl⟩ (by decide) F.sub_tuple_dict F.slot_dict_eq F.slot_tuple_eq_refl
    (fun _ hq => call_meets F.slot_dict_eq ⟨_, ho, rfl⟩ F.entry_dict_eq (F.args_dict_eq_2 _ _) (dict_eq_declines_tuple l b es items2 n n2 dd dd2 sl sl2) ⟨ho, ho2, hq⟩)
    (fun _ hq => call_meets F.slot_tuple_eq_refl ⟨_, ho2, rfl⟩ F.entry_tuple_eq (F.args_tuple_eq_2 _ _) (tuple_eq_declines_dict b l items2 es n2 n dd2 dd sl2 sl) ⟨ho2, ho, hq⟩)
    (fun _ hq => wpAny_isSame_ref_other hne ho ho2 (by simp) hq) (.inr hu) h
theorem EqAt.dict_tuple {l b : Addr} {es : Array DictEntry} {n : Nat} {dd : Option Addr} {sl : Array (Option Value)} {items2 : Array Value} (ho : s.heap.get? l = some { cls := .type "dict", dict := dd, data := .dict es n, slots := sl }) (hb : s.heap.IsTuple b items2) (hu : A.units < cLine) : EqAt A s (.ref l) (.ref b) false := by
  have hne : l ≠ b := fun e => by
    obtain ⟨o2, ho2, hc2, n2, hd2⟩ := hb
    subst e
    have e1 := congrArg (Option.map Obj.data) (ho.symm.trans ho2)
    have e2 : some (Data.dict es n) = some o2.data := e1
    rw [hd2] at e2
    cases e2
  exact .of_refs hne (RcAt.dict_tuple ho hb hu)
end
end PySem.SeqAt
namespace HX
open PySem PySem.Spec PyProof.Rows PySem.SeqAt
section
variable {prog : Program} {w : World} {A : Around} {E : Value → Shared → Prop} {s : Shared} {K : PySem.W.Frag} {x C : Addr} {ox : Obj} {od : Option Obj}
/-- what compares with an instance without an __eq__ of its own -/
theorem entry_other {M : Model} {y : Value} {Q : Fin → Shared → Prop} (hs : ∀ Q' : Bool → Shared → Prop, Q' false s → wpAny M A (isSame (.ref x) y) Q' E s) (hq : Q (.done (.ret .notImplemented)) s) : wpAny M A (Builtin.«object.__eq__» ⟨[.ref x, y], []⟩) Q E s := by
  unfold Builtin.«object.__eq__»
  repeat (first | with_reducible refine hs _ ?_ | wp_step)
  exact hq
theorem rc_other {y : Value} {T : String} (hu : A.units < cLine) (X : K.In s.heap) (I : PySem.W.InstAt s.heap x ox C od) (hm : PySem.W.mroIn K C (.type "object") = some true) (hs : PySem.W.findIn K (.ref C) "__eq__" = some (some (.builtin "object.__eq__")))
    (hy : s.TypeIs y T) (hsame : ∀ (M : Model) (A' : Around) (E' : Value → Shared → Prop) (Q' : Bool → Shared → Prop), Q' false s → wpAny M A' (isSame (.ref x) y) Q' E' s) (sub : PySem.W.subIn K (.type T) (.ref C) = some false)
    (two : ∀ (prog : Program) (w : World) (E : Value → Shared → Prop), wpAny (model prog w) A (tryCompare y "__eq__" (.ref x)) (fun r s' => r = none ∧ s' = s) E s) :
    RcAt A s (.ref x) y false := fun prog w E Q h => by
  have callObj : ∀ Q : Value → Shared → Prop, Q .notImplemented s → wpAny (model prog w) A (call (.builtin "object.__eq__") [.ref x, y]) Q E s := fun Q hq =>
    wpAny_call (codeAny_call_builtin F.cmp_object.eq.plain F.cmpEntry_eq (PySem.W.check_slot F.cmpKind_eq F.cmpSplit_eq (I.type.andThen (PySem.W.looks_mroIn X hm)) (F.cmpArgs_eq _ _) (entry_other (fun Q' q => hsame _ _ _ Q' q) hq)))
  have one : wpAny (model prog w) A (tryCompare (.ref x) "__eq__" y) (fun r s' => r = none ∧ s' = s) E s := by
    unfold tryCompare
    exact wpAny_bind (HN.ifBound_objEq X I hs (callObj _ (wpAny_pure ⟨rfl, rfl⟩)))
  simp only [richCompare, cmpInfo_Eq, oneThing_ref]
  refine wpAny_holding (wpAny_bind (wpAny_cRoomFor hu ?_))
  refine wpAny_bind (I.type.here ?_)
  refine wpAny_bind (wpAny_typeOf hy ?_)
  split
  · refine wpAny_bind ((PySem.W.looks_subIn X sub).here ?_)
    simp only [Bool.false_eq_true, if_false, Bool.not_false, if_true]
    refine wpAny_bind (m := tryCompare (.ref x) _ y) (wpAny_mono one (fun r s1 z => ?_) fun _ _ e => e)
    obtain ⟨z1, z2⟩ := z
    subst z1
    subst z2
    refine wpAny_bind (m := tryCompare y _ (.ref x)) (wpAny_mono (two prog w E) (fun r s2 z => ?_) fun _ _ e => e)
    obtain ⟨z1, z2⟩ := z
    subst z1
    subst z2
    exact wpAny_bind (wpAny_rule (wpAny_bind (hsame _ _ _ _ (wpAny_pure h))))
  · rename_i q
    exact absurd (by simp) q
theorem sub_of {T : String} (e : fastBuiltinMro T = some [.type T, .type "object"]) : PySem.W.subIn K (.type T) (.ref C) = some false := by
  show (fastBuiltinMro T).map (·.contains (.ref C)) = some false
  rw [e]
  first
    | rfl
    | simp
/-- an instance is no tuple -/
theorem isi_tup {M : Model} {R : Bool → Shared → Prop} (X : K.In s.heap) (I : PySem.W.InstAt s.heap x ox C od) (st : PySem.W.subIn K (.ref C) (.type "tuple") = some false) (h : R false s) : wpAny M A (isInstance (.ref x) (.type "tuple")) R E s := by
  simp only [isInstance]
  exact wpAny_bind (I.type.here ((PySem.W.looks_subIn X st).here h))
theorem rcAt_tup {b : Addr} {items : Array Value} (hu : A.units < cLine) (X : K.In s.heap) (I : PySem.W.InstAt s.heap x ox C od) (hm : PySem.W.mroIn K C (.type "object") = some true) (hs : PySem.W.findIn K (.ref C) "__eq__" = some (some (.builtin "object.__eq__"))) (st : PySem.W.subIn K (.ref C) (.type "tuple") = some false)
    (hb : s.heap.IsTuple b items) : RcAt A s (.ref x) (.ref b) false := by
  obtain ⟨⟨cls2, dd2, data2, sl2⟩, ho2, hc2, n2, hd2⟩ := id hb
  simp only at hc2 hd2
  subst hc2 hd2
  have hne : x ≠ b := fun e => by
    subst e
    have e1 := congrArg (Option.map Obj.cls) (I.at_.symm.trans ho2)
    have e2 : some ox.cls = some (Value.type "tuple") := e1
    rw [I.cls] at e2
    cases e2
  refine rc_other (T := "tuple") hu X I hm hs ⟨_, ho2, rfl⟩ (fun M A' E' Q' q => wpAny_isSame_ref_other hne I.at_ ho2 (by simp; rw [I.cls]; exact fun e => by cases e) q) (sub_of (by decide +kernel)) fun prog w E => ?_
  refine wpAny_tryCompare_declines ⟨_, ho2, rfl⟩ F.slot_tuple_eq_refl (wpAny_call_entry F.slot_tuple_eq_refl ⟨_, ho2, rfl⟩ F.entry_tuple_eq ?_ (F.args_tuple_eq_2 _ _))
  unfold Builtin.«tuple.__eq__»
  wp_walk using isi_tup X I st
  exact ⟨_, rfl, rfl, rfl, rfl⟩
theorem rcAt_int {vs : Array Value} (b : Int) (u : Tok) (hu : A.units < cLine) (X : K.In s.heap) (I : PySem.W.InstAt s.heap x ox C od) (hm : PySem.W.mroIn K C (.type "object") = some true) (hs : PySem.W.findIn K (.ref C) "__eq__" = some (some (.builtin "object.__eq__"))) (hd : ox.data = .fields vs) :
    RcAt A s (.ref x) (.int b u) false := by
  obtain ⟨cls, dd, data, sl⟩ := ox
  simp only at hd
  subst hd
  have ho := I.at_
  exact rc_other (T := "int") hu X I hm hs (typeIs_int s b u) (fun M A' E' Q' q => wpAny_of_eq (rfl : isSame (.ref x) (.int b u) = pure false) q) (sub_of (by decide +kernel)) fun prog w E => by
    refine wpAny_tryCompare_declines (typeIs_int s b u) F.slot_int_eq_refl (wpAny_call_entry F.slot_int_eq_refl (typeIs_int s b u) F.entry_int_eq ?_ (F.args_int_eq_2 _ _))
    obtain ⟨hp, g, d, tk, os⟩ := s
    unfold Builtin.«int.__eq__»
    wp_walk using wpAny_loadPart' ho, wpAny_load ho
    exact ⟨_, rfl, rfl, rfl, rfl⟩
theorem eqAt_tup {b : Addr} {items : Array Value} (hu : A.units < cLine) (X : K.In s.heap) (I : PySem.W.InstAt s.heap x ox C od) (hm : PySem.W.mroIn K C (.type "object") = some true) (hs : PySem.W.findIn K (.ref C) "__eq__" = some (some (.builtin "object.__eq__"))) (st : PySem.W.subIn K (.ref C) (.type "tuple") = some false)
    (hb : s.heap.IsTuple b items) : EqAt A s (.ref x) (.ref b) false := by
  have hne : x ≠ b := fun e => by
    obtain ⟨o2, ho2, hc2, _⟩ := hb
    subst e
    have e1 := congrArg (Option.map Obj.cls) (I.at_.symm.trans ho2)
    have e2 : some ox.cls = some o2.cls := e1
    rw [I.cls, hc2] at e2
    cases e2
  exact .of_refs hne (rcAt_tup hu X I hm hs st hb)
end
end HX
/-! any value against an empty tuple; a tuple of such against four empty ones; is_ascending of anything that compares -/
namespace Hs
open PySem PySem.Spec PyProof.Rows L2 Hu Evl
/-- compared with (): nothing, a flag, an integer, a text, a tuple, a list -/
inductive Nc (K : PySem.W.Frag) (H : Hp) : V → Bool → Prop
  | non : Nc K H .non false
  | bl (b : Bool) : Nc K H (.bl b) false
  | int (i : Int) : Nc K H (.int i) false
  | str (z : Str) : Nc K H (.str z) false
  | tup {a : Addr} {xs : List V} : SqT K H a xs → Nc K H (.ref a) xs.isEmpty
  | lst {a : Addr} {xs : List V} : SqL K H a xs → Nc K H (.ref a) false
  | dct {a : Addr} {kvs : List (L2.Key × V)} : H a = some (.dK kvs) → Nc K H (.ref a) false
  | exc {a t C : Addr} : Eqx K C → H a = some (ExN C t a) → Nc K H (.ref a) false
/-- compared with an integer -/
inductive Ni (K : PySem.W.Frag) (H : Hp) (i : Int) : V → Bool → Prop
  | non : Ni K H i .non false
  | bl (b : Bool) : Ni K H i (.bl b) ((if b then 1 else 0) == i)
  | int (j : Int) : Ni K H i (.int j) (j == i)
  | str (z : Str) : Ni K H i (.str z) false
  | tup {a : Addr} {xs : List V} : SqT K H a xs → Ni K H i (.ref a) false
  | lst {a : Addr} {xs : List V} : SqL K H a xs → Ni K H i (.ref a) false
  | dct {a : Addr} {kvs : List (L2.Key × V)} : H a = some (.dK kvs) → Ni K H i (.ref a) false
  | exc {a t C : Addr} : Eqx K C → H a = some (ExN C t a) → Ni K H i (.ref a) false
theorem inst_exn {prog : Program} {w : World} {H : Hp} {h : Heap} {a t C : Addr} (ok : HOk prog w H h) (e : H a = some (ExN C t a)) : ∃ o vs, PySem.W.InstAt h a o C none ∧ o.data = .fields vs := by
  obtain ⟨⟨o, vs, q1, q2, q3, q4, q5⟩, _, _⟩ := ok a _ e
  obtain ⟨cls, dd, data, sl⟩ := o
  simp only at q2 q3 q5
  subst q2 q3 q5
  exact ⟨_, vs, ⟨q1, rfl, rfl, True.intro⟩, rfl⟩
theorem dict_dk {prog : Program} {w : World} {H : Hp} {h : Heap} {a : Addr} {kvs : List (L2.Key × V)} (ok : HOk prog w H h) (e : H a = some (.dK kvs)) : ∃ dd es ep sl, h.get? a = some { cls := .type "dict", dict := dd, data := .dict es ep, slots := sl } := by
  obtain ⟨_, hsys, vs, kv, o, es, ep, g1, g2, g3, _⟩ := ok a _ e
  obtain ⟨cls, dd, data, sl⟩ := o
  have g2' : cls = .type "dict" := g2.1
  simp only at g3
  subst g2' g3
  exact ⟨dd, es, ep, sl, g1⟩
section
variable {X : Cx} {pins : List (Addr × Obj)} {σ : L2.St} {H : Hp} {s : Shared} {x : V} {u : Value} {e : Bool} {c : Addr}
theorem empty_arr {α : Type} {xs : List V} {its : List Value} (h : Vals xs its) : (its.toArray.size == 0) = xs.isEmpty := by
  rw [List.size_toArray, ← h.length]
  cases xs <;> rfl
theorem vals_nil {its : List Value} (h : Vals [] its) : its = [] := by
  cases h
  rfl
theorem Nc.rc {A : Around} (n : Nc X.K H x e) (I : Inv X pins σ H s) (r : RelV x u) (hc : SqT X.K H c []) (hu2 : A.units < cLine) : SeqAt.EqAt A s u (.ref c) e := by
  obtain ⟨cs, rc, pc, _⟩ := I.tuple hc
  have ec := vals_nil rc
  subst ec
  cases n with
  | non =>
    cases r
    exact SeqAt.EqAt.none_tuple pc hu2
  | bl b =>
    cases r
    exact SeqAt.EqAt.bool_tuple b pc hu2
  | int i =>
    obtain ⟨t, rfl⟩ := r
    exact SeqAt.EqAt.int_tuple i t pc hu2
  | str z =>
    obtain ⟨t, rfl⟩ := r
    exact SeqAt.EqAt.str_tuple z t pc hu2
  | @tup a xs h =>
    cases r
    obtain ⟨its, r1, p1, _⟩ := I.tuple h
    by_cases q : a = c
    · subst q
      have := I.tuple_inj h hc
      subst this
      exact SeqAt.EqAt.same _
    · have m := SeqAt.RcAt.tuples (A := A) (s := s) (e := fun _ => true) p1 pc hu2 (fun j h1 h2 => absurd h2 (by simp))
      have e1 : ((List.range (min its.toArray.size (#[] : Array Value).size)).all (fun _ => true) && its.toArray.size == (#[] : Array Value).size) = xs.isEmpty := by
        rw [← empty_arr (α := Unit) r1]
        simp
      rw [show ([] : List Value).toArray = #[] from rfl, e1] at m
      exact SeqAt.EqAt.of_refs q m
  | @lst a xs h =>
    cases r
    obtain ⟨its, r1, p1, _⟩ := I.list h
    exact SeqAt.EqAt.list_tuple p1.isList pc hu2
  | @dct a kvs h =>
    cases r
    obtain ⟨dd, es, ep, sl, g⟩ := dict_dk I.hok h
    exact SeqAt.EqAt.dict_tuple g pc hu2
  | @exc a t C q h =>
    cases r
    obtain ⟨o, vs, i, _⟩ := inst_exn I.hok h
    exact HX.eqAt_tup hu2 I.kIn i q.m q.e q.t pc
/-- x == () -/
def rEqN (K : PySem.W.Frag) : R2 := fun x y H Q => ∃ c e, y = .ref c ∧ SqT K H c [] ∧ Nc K H x e ∧ Q (.bl e) H
theorem op_eqN (hu : X.A.units + 64 < cLine) : OpR X (compareOp .Eq) (rEqN X.K) := by
  intro pins s σ H x y v u Q I rx ry h
  obtain ⟨c, e, rfl, hc, n, q⟩ := h
  cases ry
  obtain ⟨cs, rc, pc, _⟩ := I.tuple hc
  have ec := vals_nil rc
  subst ec
  have hu2 : X.A.units < cLine := by omega
  have done : EP X pins σ Q (.bool e) s := ⟨.bl e, H, I, rfl, q⟩
  cases n with
  | non =>
    cases rx
    exact SeqAt.RcAt.none_tuple pc hu2 X.prog X.w X.xe _ done
  | bl b =>
    cases rx
    exact SeqAt.RcAt.bool_tuple b pc hu2 X.prog X.w X.xe _ done
  | int i =>
    obtain ⟨t, rfl⟩ := rx
    exact SeqAt.RcAt.int_tuple i t pc hu2 X.prog X.w X.xe _ done
  | str z =>
    obtain ⟨t, rfl⟩ := rx
    exact SeqAt.RcAt.str_tuple z t pc hu2 X.prog X.w X.xe _ done
  | @tup a xs h =>
    cases rx
    obtain ⟨its, r1, p1, _⟩ := I.tuple h
    have m := SeqAt.RcAt.tuples (A := X.A) (s := s) (e := fun _ => true) p1 pc hu2 (fun j h1 h2 => absurd h2 (by simp))
    have e1 : ((List.range (min its.toArray.size (#[] : Array Value).size)).all (fun _ => true) && its.toArray.size == (#[] : Array Value).size) = xs.isEmpty := by
      rw [← empty_arr (α := Unit) r1]
      simp
    rw [show ([] : List Value).toArray = #[] from rfl, e1] at m
    exact m X.prog X.w X.xe _ done
  | @lst a xs h =>
    cases rx
    obtain ⟨its, r1, p1, _⟩ := I.list h
    exact SeqAt.RcAt.list_tuple p1.isList pc hu2 X.prog X.w X.xe _ done
  | @dct a kvs h =>
    cases rx
    obtain ⟨dd, es, ep, sl, g⟩ := dict_dk I.hok h
    exact SeqAt.RcAt.dict_tuple g pc hu2 X.prog X.w X.xe _ done
  | @exc a t C q' h =>
    cases rx
    obtain ⟨o, vs, i, _⟩ := inst_exn I.hok h
    exact HX.rcAt_tup hu2 I.kIn i q'.m q'.e q'.t pc X.prog X.w X.xe _ done
/-- x == an integer -/
def rEqI (K : PySem.W.Frag) : R2 := fun x y H Q => ∃ i e, y = .int i ∧ Ni K H i x e ∧ Q (.bl e) H
theorem op_eqI (hu : X.A.units + 64 < cLine) : OpR X (compareOp .Eq) (rEqI X.K) := by
  intro pins s σ H x y v u Q I rx ry h
  obtain ⟨i, e, rfl, n, q⟩ := h
  obtain ⟨ty, rfl⟩ := ry
  have hu2 : X.A.units < cLine := by omega
  have done : EP X pins σ Q (.bool e) s := ⟨.bl e, H, I, rfl, q⟩
  cases n with
  | non =>
    cases rx
    exact SeqAt.RcAt.none_int i ty X.prog X.w X.xe _ done
  | bl b =>
    cases rx
    exact SeqAt.RcAt.bool_int b i ty X.prog X.w X.xe _ done
  | int j =>
    obtain ⟨t, rfl⟩ := rx
    exact SeqAt.RcAt.int_int j t i ty X.prog X.w X.xe _ done
  | str z =>
    obtain ⟨t, rfl⟩ := rx
    exact SeqAt.RcAt.str_int z t i ty X.prog X.w X.xe _ done
  | @tup a xs h =>
    cases rx
    obtain ⟨its, r1, p1, _⟩ := I.tuple h
    exact SeqAt.RcAt.tuple_int i ty p1 hu2 X.prog X.w X.xe _ done
  | @lst a xs h =>
    cases rx
    obtain ⟨its, r1, p1, _⟩ := I.list h
    exact SeqAt.RcAt.list_int i ty p1.isList hu2 X.prog X.w X.xe _ done
  | @dct a kvs h =>
    cases rx
    obtain ⟨dd, es, ep, sl, g⟩ := dict_dk I.hok h
    exact SeqAt.RcAt.dict_int i ty g hu2 X.prog X.w X.xe _ done
  | @exc a t C q' h =>
    cases rx
    obtain ⟨o, vs, i', hd⟩ := inst_exn I.hok h
    exact HX.rcAt_int i ty hu2 I.kIn i' q'.m q'.e hd X.prog X.w X.xe _ done
end
end Hs
namespace Hs
open PySem PySem.Spec PyProof.Rows L2 Hu Evl
/-! ### a tuple against empty ones -/
inductive NcL (K : PySem.W.Frag) (H : Hp) : List V → List Bool → Prop
  | nil : NcL K H [] []
  | cons {x : V} {e : Bool} {xs : List V} {es : List Bool} : Nc K H x e → NcL K H xs es → NcL K H (x :: xs) (e :: es)
theorem NcL.len {K : PySem.W.Frag} {H : Hp} {xs : List V} {es : List Bool} (h : NcL K H xs es) : xs.length = es.length := by
  induction h with
  | nil => rfl
  | cons _ _ ih => rw [List.length_cons, List.length_cons, ih]
theorem NcL.at {K : PySem.W.Frag} {H : Hp} {xs : List V} {es : List Bool} (h : NcL K H xs es) : ∀ (j : Nat) (x : V), xs[j]? = some x → Nc K H x (es.getD j true) := by
  induction h with
  | nil => exact fun j x e => by simp at e
  | cons h1 _ ih =>
    refine fun j x e => ?_
    cases j with
    | zero =>
      cases e
      exact h1
    | succ j => exact ih j x e
theorem range_all : ∀ es : List Bool, (List.range es.length).all (fun j => es.getD j true) = es.all id
  | [] => rfl
  | e :: es => by
    rw [List.length_cons, List.range_succ_eq_map, List.all_cons, List.all_map, List.all_cons, ← range_all es]
    rfl
section
variable {X : Cx}
theorem valsGet {xs : List V} {us : List Value} (h : Vals xs us) (j : Nat) (hj : j < us.length) : ∃ x, xs[j]? = some x ∧ RelV x us[j] := by
  induction h generalizing j with
  | nil => exact absurd hj (Nat.not_lt_zero _)
  | cons h1 h2 ih =>
    cases j with
    | zero => exact ⟨_, rfl, h1⟩
    | succ j => exact ih j (Nat.lt_of_succ_lt_succ hj)
/-- x == ((), .., ()) -/
def rEqNs (K : PySem.W.Frag) : R2 := fun x y H Q => ∃ (a b : Addr) (xs : List V) (cs : List Addr) (es : List Bool), x = .ref a ∧ y = .ref b ∧ SqT K H a xs ∧ SqT K H b (cs.map V.ref) ∧ (∀ c ∈ cs, SqT K H c []) ∧ cs.length = xs.length ∧ NcL K H xs es ∧ Q (.bl (es.all id)) H
theorem op_eqNs (hu : X.A.units + 64 < cLine) : OpR X (compareOp .Eq) (rEqNs X.K) := by
  intro pins s σ H x y v u Q I rx ry h
  obtain ⟨a, b, xs, cs, es, rfl, rfl, ha, hb, hc, hl, n, q⟩ := h
  cases rx
  cases ry
  obtain ⟨its, r1, p1, _⟩ := I.tuple ha
  obtain ⟨its2, r2, p2, _⟩ := I.tuple hb
  have l1 := r1.length
  have l2 := r2.length
  rw [List.length_map] at l2
  have m := SeqAt.RcAt.tuples (A := X.A) (s := s) (e := fun j => es.getD j true) p1 p2 (by omega) (fun j h1 h2 => by
    have g1 : its.toArray[j] = its[j]'(by simpa using h1) := by simp
    have g2 : its2.toArray[j] = its2[j]'(by simpa using h2) := by simp
    rw [g1, g2]
    obtain ⟨x, e1, rx⟩ := valsGet r1 j (by simpa using h1)
    obtain ⟨y, e2, ry⟩ := valsGet r2 j (by simpa using h2)
    rw [List.getElem?_map] at e2
    cases e3 : cs[j]? with
    | none =>
      rw [e3] at e2
      cases e2
    | some c =>
      rw [e3] at e2
      have e4 : V.ref c = y := Option.some.inj e2
      subst e4
      have e5 : its2[j]'(by simpa using h2) = Value.ref c := ry
      rw [e5]
      exact (n.at j x e1).rc (A := X.A.in1) I rx (hc c (List.mem_of_getElem? e3)) (show X.A.units + 1 < cLine by omega))
  have e1 : ((List.range (min its.toArray.size its2.toArray.size)).all (fun j => es.getD j true) && its.toArray.size == its2.toArray.size) = es.all id := by
    have z1 : its.toArray.size = es.length := by rw [List.size_toArray, ← l1, n.len]
    have z2 : its2.toArray.size = es.length := by rw [List.size_toArray, ← l2, hl, n.len]
    rw [z1, z2, Nat.min_self, range_all]
    simp
  rw [e1] at m
  exact m X.prog X.w X.xe (EP X pins σ Q) ⟨.bl _, H, I, rfl, q⟩
end
/-! ### is_ascending -/
section
variable {K : PySem.W.Frag} {σ : L2.St} {H : Hp} {t te : TE}
theorem el_rngM {ta : TA} {te : TE} {j : Nat} {vs : List Nat} {n : Int} (v : Nat → V) (h : EvA ta σ H [.int n]) (hn : -1 ≤ n ∧ n ≤ 40000) (hw : ∀ x, wipe ((wipe σ vs).set j (some x)) vs = wipe σ vs)
    (he : ∀ (i : Nat), (i : Int) < n → Ev te ((wipe σ vs).set j (some (.int (i : Int)))) H (v i)) :
    EvL (tLc (iRng1 ta) (gName j) tYes te vs) σ H ((List.range n.toNat).map v) := fun H0 e Q q => h H0 e _ fun H1 e1 => ⟨n, rfl, by omega, by omega, fun Dl hD =>
  lc_range (lo := 0) (n := n.toNat) (Cw H1 (fun _ => true) v Dl) ⟨hD, Ex.new hD, upd_same⟩ (fun i H' hi p => by
    have e0 : (0 : Int) + (i : Int) = (i : Int) := Int.zero_add _
    show wipe ((wipe σ vs).set j (some (.int ((0 : Int) + (i : Int))))) vs = wipe σ vs ∧ tYes ((wipe σ vs).set j (some (.int ((0 : Int) + (i : Int))))) H' fun b H3 => if b = true then te ((wipe σ vs).set j (some (.int ((0 : Int) + (i : Int))))) H3 fun y H4 => ∃ acc, H4 Dl = some (.lst acc) ∧ acc.length < sizeLine ∧ Cw H1 (fun _ => true) v Dl (i + 1) (upd H4 Dl (.lst (acc ++ [y]))) else Cw H1 (fun _ => true) v Dl (i + 1) H3
    rw [e0]
    exact ⟨hw _, cw_turn p (by omega) et_yes (fun _ => (he i (by omega)).mono (e.trans e1))⟩) (fun H' p => q Dl H' (fresh_back e1 p.1) (e1.trans p.2.1) (by rw [← given_all]; exact p.2.2))⟩
end
def ascN (n : Nat) (lt : Nat → Bool) : Bool := (List.range (n - 1)).all lt
/-- is_ascending: ri how an item is taken, r how two compare -/
def spAscG (K : PySem.W.Frag) (ri r : R2) : Sp := fun vs H Q _ => ∃ (a : Addr) (xs : List V) (lt : Nat → Bool), vs = [.ref a] ∧ (SqL K H a xs ∨ SqT K H a xs) ∧ xs.length ≤ 40000 ∧
  (∀ (k : Nat) x, xs[k]? = some x → RV ri (.ref a) (.int (k : Int)) H x) ∧ (∀ (k : Nat) x y, xs[k]? = some x → xs[k + 1]? = some y → RV r x y H (.bl (lt k))) ∧ ∀ H', Same H H' → Q (.bl (ascN xs.length lt)) H'
section
variable {P : Program} {wd : World} {K : PySem.W.Frag} {mg : Str → Option Value} {base : Heap} {C : Addr}
theorem sq_ex {H H' : Hp} {a : Addr} {xs : List V} (e : Ex H H') (h : SqL K H a xs ∨ SqT K H a xs) : SqL K H' a xs ∨ SqT K H' a xs := h.elim (fun h => .inl (ex_l e h)) (fun h => .inr (ex_t e h))
theorem ascG_reads {σ : L2.St} {H : Hp} {a : Addr} {xs : List V} {lt : Nat → Bool} {ri r : R2} (h0 : σ = [some (.ref a), none]) (ha : SqL K H a xs ∨ SqT K H a xs) (hz : xs.length ≤ 40000)
    (hi : ∀ (k : Nat) x, xs[k]? = some x → RV ri (.ref a) (.int (k : Int)) H x) (hr : ∀ (k : Nat) x y, xs[k]? = some x → xs[k + 1]? = some y → RV r x y H (.bl (lt k))) :
    Ev (tCB (rAll K) (tCons (tLc (iRng1 (tCons (tOp (rI0 fun i j => .int (i - j)) (tCB (rLenQ K) (tCons (tVar 0) tNil)) (tC (.int 1))) tNil)) (gName 1) tYes (tOp r (tOp ri (tVar 0) (tVar 1)) (tOp ri (tVar 0) (tOp (rI0 fun i j => .int (i + j)) (tVar 1) (tC (.int 1))))) [1]) tNil)) σ H (.bl (ascN xs.length lt)) := by
  subst h0
  have main : EvL (tLc (iRng1 (tCons (tOp (rI0 fun i j => .int (i - j)) (tCB (rLenQ K) (tCons (tVar 0) tNil)) (tC (.int 1))) tNil)) (gName 1) tYes (tOp r (tOp ri (tVar 0) (tVar 1)) (tOp ri (tVar 0) (tOp (rI0 fun i j => .int (i + j)) (tVar 1) (tC (.int 1))))) [1]) [some (.ref a), none] H
      ((List.range ((xs.length : Int) - 1).toNat).map fun k => .bl (lt k)) :=
    el_rngM (n := (xs.length : Int) - 1) (fun k => .bl (lt k)) (ea_cons (ev_op (ev_cb (ea_cons (ev_var rfl) ea_nil) fun H1 e Q q => ⟨a, xs, rfl, sq_ex e ha, q H1 (Ex.refl H1)⟩) ev_c rv_I0) ea_nil) (by omega) (fun _ => rfl) (fun i hi' => by
      have h1 : i + 1 < xs.length := by omega
      exact ev_op (ev_op (ev_var rfl) (ev_var rfl) (hi i _ (List.getElem?_eq_getElem (by omega)))) (ev_op (ev_var rfl) (ev_op (z := .int ((i + 1 : Nat) : Int)) (ev_var rfl) ev_c rv_I0) (hi (i + 1) _ (List.getElem?_eq_getElem h1))) (hr i _ _ (List.getElem?_eq_getElem (by omega)) (List.getElem?_eq_getElem h1)))
  refine ev_cb1 main fun p H2 h2 e2 Q q => ⟨p, (List.range (xs.length - 1)).map lt, rfl, sq_of ?_, ?_⟩
  · rw [h2, show ((xs.length : Int) - 1).toNat = xs.length - 1 from by omega, List.map_map]
    rfl
  · have e : ((List.range (xs.length - 1)).map lt).all id = ascN xs.length lt := by
      rw [List.all_map]
      rfl
    rw [e]
    exact q H2 (Ex.refl H2)
theorem ok_ascG {ri r : R2} {f : Addr} {fd : FuncData} (F : Fun K "is_ascending" "is_ascending" sAscending f fd) (B : Bt mg) (hix : ∀ X : Cx, X.K = K → IxR X ri) (hop : ∀ X : Cx, X.K = K → X.A.units + 64 < cLine → OpR X (compareOp .Lt) r) :
    FnOk P wd K mg base CX0 1 f fd ["things"] (spAscG K ri r) := by
  refine F.ok scAsc (fun vs H Q E h => ?_) (fun cdv A outer s H vs Q E hr h => ?_)
  · obtain ⟨n, m, _, rfl, _⟩ := h
    rfl
  · obtain ⟨a, xs, lt, rfl, ha, hz, hi, hl, k⟩ := h
    refine ⟨_, pss_one (ps_ret (pe_callB (cr_all rfl) (by rfl) B.all boot_all' (pa_cons (pe_lc (own := [("k", 1)]) (g := gName 1) (tt := tYes) rfl scAsc.nd (pi_range1 (by rfl) B.range (pa_cons (pe_op op_sub (pe_callB call_len_seq (by rfl) B.len PySem.boot_len (pa_cons (pv 0) pa_nil)) pe_int) pa_nil)) (blkOk_by (N := ["things", "k"]) (sc := defScope sAscending) (by decide +kernel))
      (fun _ _ _ _ _ => pg_name (i := 1) scAsc.nd rfl (Or.inl rfl)) (fun _ _ _ _ _ => pts_nil) (fun _ _ _ _ _ => pe_cmpR (hop _ rfl (room_hu hr)) (pe_ix (hix _ rfl) (pv 0) (pv 1) (fun _ _ => rfl)) (pe_ix (hix _ rfl) (pv 0) (pe_op op_add (pv 1) pe_int) (fun _ _ => rfl)) (nomark _))) pa_nil))), ?_⟩
    exact s_ret (ascG_reads rfl ha hz hi hl) k
end
end Hs
namespace Hs
open PySem PySem.Spec PyProof.Rows L2 Hu Evl
abbrev sCount : Stmt := topS 12
abbrev sTO : Stmt := topS 27
abbrev sAhead : Stmt := topS 28
abbrev sVote : Stmt := topS 29
abbrev sHeads : Stmt := topS 30
abbrev sNamed : Stmt := topS 31
abbrev sBlocks : Stmt := topS 32
abbrev sBlk : Stmt := topS 33
/-! ### judges of some values -/
def spJw (C : Addr) (S : U → Prop) (g : U → Bool) : Sp := fun vs H Q _ => ∃ (v : V) (u : U) (w : Addr), vs = [v] ∧ At w C H v u ∧ Fine u ∧ S u ∧ (∃ o, H w = some o) ∧ ∀ H', Same H H' → Q (.bl (g u)) H'
structure Jw (P : Program) (w : World) (K : PySem.W.Frag) (mg : Str → Option Value) (base : Heap) (C : Addr) (k : Nat) (x : Str) (p : Str) (f : Addr) (fd : FuncData) (S : U → Prop) (g : U → Bool) : Prop where
  ok : FnOk P w K mg base CX0 k f fd [p] (spJw C S g)
  g : mg x = some (.ref f)
  kp : PySem.W.keepIn K (.ref f) = true
  b : Binds K fd [p] []
theorem lenJw {C : Addr} {S : U → Prop} {g : U → Bool} {p : Str} : ∀ vs H Q E, spJw C S g vs H Q E → vs.length = [p].length := fun vs H Q E h => by
  obtain ⟨v, u, w, rfl, _⟩ := h
  rfl
theorem ev_Jw {C : Addr} {S : U → Prop} {g : U → Bool} {H : Hp} {v : V} {u : U} {w : Addr} {σ : L2.St} {te : TE} {E : XK} (h : Evl.Ev te σ H v) (hat : At w C H v u) (fi : Fine u) (hs : S u) (hw : ∃ o, H w = some o) : Evl.Ev (tCall (spJw C S g) [] E (tCons te tNil)) σ H (.bl (g u)) :=
  Evl.ev_call (Evl.ea_cons h Evl.ea_nil) fun H1 e Q q E => ⟨v, u, w, rfl, ex_at e hat, fi, hs, hw.imp fun o z => e _ _ z, q⟩
section
variable {X : Cx} {C : Addr} {CX : CXT} {E : XK}
theorem pe_Jw {x p : Str} {k j : Nat} {f : Addr} {fd : FuncData} {S : U → Prop} {g : U → Bool} {e : Expr} {te : TE} {ps pos : Pos} (J : Jw X.prog X.w X.K X.mg X.base C k x p f fd S g) (hr : Room j X.A) (h : k ≤ j) (hg : Gl X x) (hx : Passes CX0 X E) (he : PE X e te) (hdb : (x == ("__debug__" : Str)) = false := by decide)
    (hst : starEach [e] X.env = (false, eval e X.env) :: starEach [] X.env := by rfl) (hpl : (backTo pos (starEach [] X.env)).any (·.1) = false := by rfl) :
    PE X (.Call (.Name x ps) [e] [] pos) (tCall (spJw C S g) [] E (tCons te tNil)) :=
  pe_call J.ok (hr.mono h) hg J.g J.kp J.b .nil hx (pa_cons he pa_nil hst) hdb hst hpl
end
def nilU (u : U) : Bool := match u with | .tup us => us.isEmpty | _ => false
abbrev okN (_ : U) : Prop := True
theorem nc_at {K : PySem.W.Frag} {w C : Addr} {H : Hp} {v : V} {u : U} (hx : Eqx K C) (h : At w C H v u) : Nc K H v (nilU u) := by
  cases h with
  | non => exact .non
  | bl b => exact .bl b
  | int i => exact .int i
  | str z => exact .str z
  | @tup a xs us ha _ hl =>
    have : us.isEmpty = xs.isEmpty := by cases hl <;> rfl
    show Nc K H (.ref a) us.isEmpty
    rw [this]
    exact .tup (Tu.st ha)
  | lst ha _ hl => exact .lst (sq_of ha)
  | dct ha _ _ _ _ => exact .dct ha
  | exc ha _ _ _ => exact .exc hx ha
/-- an integer by == -/
def isI (i : Int) (u : U) : Bool := match u with | .bl b => (if b then 1 else 0) == i | .int j => j == i | _ => false
theorem ni_at {K : PySem.W.Frag} {w C : Addr} {H : Hp} {v : V} {u : U} (i : Int) (hx : Eqx K C) (h : At w C H v u) : Ni K H i v (isI i u) := by
  cases h with
  | non => exact .non
  | bl b => exact .bl b
  | int i => exact .int i
  | str z => exact .str z
  | tup ha _ hl => exact .tup (Tu.st ha)
  | lst ha _ hl => exact .lst (sq_of ha)
  | dct ha _ _ _ _ => exact .dct ha
  | exc ha _ _ _ => exact .exc hx ha
theorem Ni.ex {K : PySem.W.Frag} {H H' : Hp} {i : Int} {v : V} {e : Bool} (x : Ex H H') (h : Ni K H i v e) : Ni K H' i v e := by
  cases h with
  | non => exact .non
  | bl b => exact .bl b
  | int i => exact .int i
  | str z => exact .str z
  | tup h => exact .tup (ex_t x h)
  | lst h => exact .lst (ex_l x h)
  | dct h => exact .dct (x _ _ h)
  | exc q h => exact .exc q (x _ _ h)
theorem rv_eqI {K : PySem.W.Frag} {H : Hp} {i : Int} {v : V} {e : Bool} (h : Ni K H i v e) : RV (rEqI K) v (.int i) H (.bl e) := fun H1 x Q q => ⟨i, e, rfl, h.ex x, q H1 (Ex.refl H1)⟩
theorem Nc.ex {K : PySem.W.Frag} {H H' : Hp} {v : V} {e : Bool} (x : Ex H H') (h : Nc K H v e) : Nc K H' v e := by
  cases h with
  | non => exact .non
  | bl b => exact .bl b
  | int i => exact .int i
  | str z => exact .str z
  | tup h => exact .tup (ex_t x h)
  | lst h => exact .lst (ex_l x h)
  | dct h => exact .dct (x _ _ h)
  | exc q h => exact .exc q (x _ _ h)
theorem rv_eqN {K : PySem.W.Frag} {H : Hp} {v : V} {e : Bool} {c : Addr} (h : Nc K H v e) (hc : H c = some (.tup [])) : RV (rEqN K) v (.ref c) H (.bl e) := fun H1 x Q q => ⟨c, e, rfl, ex_t x (st_of hc), h.ex x, q H1 (Ex.refl H1)⟩
/-! ### lists of tuples of keys -/
inductive TkL (H : Hp) : List V → List (List L2.Key) → Prop
  | nil : TkL H [] []
  | cons {p : Addr} {ks : List L2.Key} {vs : List V} {kss : List (List L2.Key)} : H p = some (.tup (ks.map kV)) → TkL H vs kss → TkL H (.ref p :: vs) (ks :: kss)
theorem TkL.ex {H H' : Hp} {vs : List V} {kss : List (List L2.Key)} (e : Ex H H') (h : TkL H vs kss) : TkL H' vs kss := by
  induction h with
  | nil => exact .nil
  | cons h _ ih => exact .cons (e _ _ h) ih
theorem TkL.tups {H H' : Hp} {vs : List V} {kss : List (List L2.Key)} (e : ∀ b zs, H b = some (.tup zs) → H' b = some (.tup zs)) (h : TkL H vs kss) : TkL H' vs kss := by
  induction h with
  | nil => exact .nil
  | cons h _ ih => exact .cons (e _ _ h) ih
theorem TkL.len {H : Hp} {vs : List V} {kss : List (List L2.Key)} (h : TkL H vs kss) : vs.length = kss.length := by
  induction h with
  | nil => rfl
  | cons _ _ ih => rw [List.length_cons, List.length_cons, ih]
theorem TkL.snoc {H : Hp} {vs : List V} {kss : List (List L2.Key)} {p : Addr} {ks : List L2.Key} (h : TkL H vs kss) (hp : H p = some (.tup (ks.map kV))) : TkL H (vs ++ [.ref p]) (kss ++ [ks]) := by
  induction h with
  | nil => exact .cons hp .nil
  | cons h _ ih => exact .cons h ih
theorem TkL.get {H : Hp} {vs : List V} {kss : List (List L2.Key)} (h : TkL H vs kss) : ∀ {j : Nat} {v : V}, vs[j]? = some v → ∃ p ks, v = .ref p ∧ kss[j]? = some ks ∧ H p = some (.tup (ks.map kV)) := by
  induction h with
  | nil => exact fun e => by simp at e
  | cons h _ ih =>
    intro j v e
    cases j with
    | zero =>
      cases e
      exact ⟨_, _, rfl, rfl, h⟩
    | succ j => exact ih e
/-- tuples of keys in a row -/
def ascK (kss : List (List L2.Key)) : Bool := ascN kss.length fun k => Hk.ltK (kss.getD k []) (kss.getD (k + 1) [])
def kinK (kss : List (List L2.Key)) : Prop := ∀ ks ∈ kss, ∀ ls ∈ kss, Hk.kinds ks ls = true
section
variable {K : PySem.W.Frag} {σ : L2.St} {H : Hp} {tl te : TE} {xs : List V} {us : List U} {w C : Addr}
theorem ev_callL1 {sp : Sp} {E : XK} {z : V} (h : EvL te σ H xs) (hs : ∀ p H1, H1 p = some (.lst xs) → Ex H H1 → ∀ Q : VK, (∀ H2, Ex H1 H2 → Q z H2) → ∀ E, sp [.ref p] H1 Q E) : Ev (tCall sp [] E (tCons te tNil)) σ H z :=
  fun H0 e Q q => h H0 e _ fun p H1 hp e1 h1 => hs p H1 h1 (e.trans e1) Q (fun H2 e2 => q H2 (e1.trans e2)) _
/-- [f(x) for x in a tuple], each a tuple of keys -/
theorem lc_newK {a : Addr} {j : Nat} {vs : List Nat} {f : U → List L2.Key} (h : Ev tl σ H (.ref a)) (hx : Tu H a xs us) (hz : us.length ≤ 40000) (hl : AtL w C H xs us) (hw : ∀ x, wipe ((wipe σ vs).set j (some x)) vs = wipe σ vs)
    (he : ∀ (x : V) (u : U) G, u ∈ us → Ex H G → At w C G x u → ∀ Q : VK, (∀ p G', Ex G G' → G' p = some (.tup ((f u).map kV)) → Q (.ref p) G') → te ((wipe σ vs).set j (some x)) G Q) :
    ∀ H0, Ex H H0 → ∀ Q : VK, (∀ p ys H', H0 p = none → Ex H0 H' → H' p = some (.lst ys) → TkL H' ys (us.map f) → Q (.ref p) H') → tLc (iTup K tl) (gName j) tYes te vs σ H0 Q := fun H0 e Q q => h H0 e _ fun H1 e1 => ⟨a, rfl, ⟨xs, Tu.st (Tu.ex (e.trans e1) hx)⟩, fun Dl hD =>
  lc_tup (xs := xs) (fun i H' => Ex H1 H' ∧ ∃ ys, H' Dl = some (.lst ys) ∧ TkL H' ys ((us.take i).map f)) ⟨Ex.new hD, [], upd_same, .nil⟩ (fun i H' _ p => Tu.st (Tu.ex ((e.trans e1).trans p.1) hx)) (fun i x H2 hi p => by
    obtain ⟨p1, ys, p2, p3⟩ := p
    have hlen := AtL.length hl
    have hu : i < us.length := by
      have := (List.getElem?_eq_some_iff.mp hi).1
      omega
    obtain ⟨x', hx', hax⟩ := AtL.get hl (List.getElem?_eq_getElem hu)
    rw [hi] at hx'
    cases hx'
    have e2 := (e.trans e1).trans p1
    refine ⟨hw x, he x us[i] H2 (List.getElem_mem hu) e2 (ex_at e2 hax) _ fun b H3 e3 o3 => ⟨ys, e3 _ _ p2, ?_, fun q o hq => ?_, ys ++ [.ref b], upd_same, ?_⟩⟩
    · have hyl := p3.len
      rw [List.length_map, List.length_take] at hyl
      have := bit_line
      unfold bit at this
      omega
    · rw [upd_ne (ne_of_none hq hD)]
      exact e3 _ _ (p1 _ _ hq)
    · have nt : ∀ b' zs, H3 b' = some (.tup zs) → upd H3 Dl (.lst (ys ++ [.ref b])) b' = some (.tup zs) := fun b' zs hb' => by
        rw [upd_ne (fun z => by rw [z, e3 _ _ p2] at hb'; cases hb')]
        exact hb'
      have t3 := (p3.ex e3).tups nt
      rw [List.take_add_one, List.getElem?_eq_getElem hu, List.map_append]
      exact t3.snoc (nt _ _ o3)) (fun H' p => by
    obtain ⟨p1, ys, p2, p3⟩ := p
    rw [AtL.length hl, List.take_length] at p3
    exact q Dl ys H' (fresh_back e1 hD) (e1.trans p1) p2 p3)⟩
/-- [v(x) for x in a tuple], the values found -/
theorem el_mapX {us : List U} {a : Addr} {j : Nat} {vs : List Nat} (v : Nat → V) (h : Ev tl σ H (.ref a)) (hx : Tu H a xs us) (hz : xs.length ≤ 40000) (hw : ∀ x, wipe ((wipe σ vs).set j (some x)) vs = wipe σ vs)
    (he : ∀ (i : Nat) (x : V), xs[i]? = some x → Ev te ((wipe σ vs).set j (some x)) H (v i)) :
    EvL (tLc (iTup K tl) (gName j) tYes te vs) σ H ((List.range xs.length).map v) := fun H0 e Q q => h H0 e _ fun H1 e1 => ⟨a, rfl, ⟨xs, Tu.st (Tu.ex (e.trans e1) hx)⟩, fun Dl hD =>
  lc_tup (xs := xs) (Cw H1 (fun _ => true) v Dl) ⟨hD, Ex.new hD, upd_same⟩ (fun i H' _ p => Tu.st (Tu.ex ((e.trans e1).trans p.2.1) hx)) (fun i x H' hi p => ⟨hw x, cw_turn p (by have := (List.getElem?_eq_some_iff.mp hi).1; omega) et_yes (fun _ => (he i x hi).mono (e.trans e1))⟩)
    (fun H' p => q Dl H' (fresh_back e1 p.1) (e1.trans p.2.1) (by rw [← given_all]; exact p.2.2))⟩
end
/-! ### is_ascending of texts, of tuples of keys -/
abbrev rLtS : R2 := fun x y H Q => ∃ i j, x = .str i ∧ y = .str j ∧ Q (.bl (decide (i.cps.toList < j.cps.toList))) H
def e0z : Str := ⟨#[]⟩
def ascZ (zs : List Str) : Bool := ascN zs.length fun k => decide ((zs.getD k e0z).cps.toList < (zs.getD (k + 1) e0z).cps.toList)
theorem getD_some {α : Type} {xs : List α} {k : Nat} {x d : α} (h : xs[k]? = some x) : xs.getD k d = x := by
  rw [List.getD_eq_getElem?_getD, h]
  rfl
section
variable {P : Program} {wd : World} {K : PySem.W.Frag} {mg : Str → Option Value} {base : Heap} {C : Addr}
theorem asc_strL {H : Hp} {a : Addr} {zs : List Str} (ha : H a = some (.lst (zs.map V.str))) (hz : zs.length ≤ 40000) (Q : VK) (q : ∀ H2, Ex H H2 → Q (.bl (ascZ zs)) H2) (E : XK) : spAscG K (rIxL K) rLtS [.ref a] H Q E := by
  refine ⟨a, zs.map V.str, (fun k => decide ((zs.getD k e0z).cps.toList < (zs.getD (k + 1) e0z).cps.toList)), rfl, .inl (sq_of ha), (by rw [List.length_map]; exact hz), fun k x hx => rv_ixL (sq_of ha) (atI_nat hx), fun k x y hx hy => ?_, ?_⟩
  · rw [List.getElem?_map] at hx hy
    cases h1 : zs[k]? with
    | none => rw [h1] at hx; cases hx
    | some z => cases h2 : zs[k + 1]? with
      | none => rw [h2] at hy; cases hy
      | some z2 =>
        rw [h1] at hx
        rw [h2] at hy
        cases hx
        cases hy
        dsimp only
        rw [getD_some h1, getD_some h2]
        exact fun H1 e Q q => ⟨z, z2, rfl, rfl, q H1 (Ex.refl H1)⟩
  · rw [List.length_map]
    exact q
theorem asc_tkL {H : Hp} {a : Addr} {ys : List V} {kss : List (List L2.Key)} (ha : H a = some (.lst ys)) (ht : TkL H ys kss) (hk : kinK kss) (hz : kss.length ≤ 40000) (Q : VK) (q : ∀ H2, Ex H H2 → Q (.bl (ascK kss)) H2) (E : XK) : spAscG K (rIxL K) (Hk.rLtK K) [.ref a] H Q E := by
  refine ⟨a, ys, (fun k => Hk.ltK (kss.getD k []) (kss.getD (k + 1) [])), rfl, .inl (sq_of ha), (by rw [ht.len]; exact hz), fun k x hx => rv_ixL (sq_of ha) (atI_nat hx), fun k x y hx hy => ?_, ?_⟩
  · obtain ⟨p, ks, rfl, h1, hp⟩ := ht.get hx
    obtain ⟨p2, ls, rfl, h2, hp2⟩ := ht.get hy
    dsimp only
    rw [getD_some h1, getD_some h2]
    exact fun H1 e Q q => ⟨p, p2, ks, ls, rfl, rfl, st_of (e _ _ hp), st_of (e _ _ hp2), hk _ (List.mem_of_getElem? h1) _ (List.mem_of_getElem? h2), q H1 (Ex.refl H1)⟩
  · rw [ht.len]
    exact q
theorem ok_ascZ {f : Addr} {fd : FuncData} (F : Fun K "is_ascending" "is_ascending" sAscending f fd) (B : Bt mg) : FnOk P wd K mg base CX0 1 f fd ["things"] (spAscG K (rIxL K) rLtS) :=
  ok_ascG F B (fun X e => e ▸ ix_list) (fun X e _ => op_lt_str)
theorem ok_ascK {f : Addr} {fd : FuncData} (F : Fun K "is_ascending" "is_ascending" sAscending f fd) (B : Bt mg) : FnOk P wd K mg base CX0 1 f fd ["things"] (spAscG K (rIxL K) (Hk.rLtK K)) :=
  ok_ascG F B (fun X e => e ▸ ix_list) (fun X e h => e ▸ Hk.op_ltK (by omega))
end
end Hs
namespace Hs
open PySem PySem.Spec PyProof.Rows L2 Hu Evl
/-! ### heads, blocks, votes -/
def gCnt (u : U) : Bool := iv u fun i => decide (0 ≤ i)
def gTO (m : Nat) (u : U) : Bool := tv u fun us => decide (us.length = m)
def gAhead (u : U) : Bool := nilU u || gMembers u
def gVote (u : U) : Bool := isNon u || tv u fun us => two us fun a b => gStamp a && gMembers b
def nth (u : U) (k : Nat) : U := match u with | .tup us => us.getD k .non | _ => .non
def gNamed (u : U) : Bool := gTO 3 u && (gNam (nth u 0) && (gStamp (nth u 1) && gRow (nth u 2)))
def strU (u : U) : Str := match u with | .str z => z | _ => e0z
def gHeads (u : U) : Bool := tv u fun us => us.all gNamed && ascZ (us.map fun u => strU (nth u 0))
def gBlk (u : U) : Bool := gPair u && (gId (nth u 0) && gPiece (nth u 1))
def keyU (u : U) : L2.Key := match u with | .str z => .inr z | .int i => .inl i | _ => .inl 0
def keysU (u : U) : List L2.Key := match u with | .tup us => us.map keyU | _ => []
def gBlocks (u : U) : Bool := tv u fun us => us.all gBlk && ascK (us.map fun u => keysU (nth u 0))
/-- small enough for its rows to be looked through -/
def Sm (u : U) : Prop := wt u ≤ 160000
theorem wt_two (u : U) : 2 ≤ wt u := by
  cases u <;> simp only [wt] <;> omega
theorem wt_len4 : ∀ us : List U, 4 * us.length ≤ wtL us
  | [] => Nat.zero_le _
  | u :: us => by have := wt_len4 us; have := wt_two u; simp only [wtL, List.length_cons]; omega
theorem Sm.len {us : List U} (h : Sm (.tup us)) : us.length ≤ 40000 := by
  have := wt_len4 us
  unfold Sm at h
  simp only [wt] at h
  omega
section
variable {P : Program} {wd : World} {K : PySem.W.Frag} {mg : Str → Option Value} {base : Heap} {C : Addr}
theorem scCnt : FnScope ["thing"] ["thing"] (defScope sCount) := ⟨rfl, rfl, rfl, by decide +kernel, rfl, by decide +kernel, by decide +kernel⟩
theorem jd_cnt {f fI : Addr} {fd fdI : FuncData} (D : Df K mg "is_count" sCount ["thing"] f fd) (S : Bs K mg C) (J : Jd P wd K mg base C 1 "is_integer" "thing" fI fdI gInt) : Jd P wd K mg base C 2 "is_count" "thing" f fd gCnt := by
  refine ⟨D.F.ok scCnt lenJ (fun cdv A outer s H vs Q E hr h => ?_), D.g, D.F.kp, D.b⟩
  obtain ⟨v, u, w, rfl, hat, fi, k⟩ := h
  refine ⟨_, pss_one (ps_ret (pe_and (pe_J J hr (by decide) (by rfl) pass0 (pv 0)) (pe_one (pe_cmpR op_ge (pv 0) pe_int (nomark _))))), ?_⟩
  refine s_ret (ev_andV (b := gCnt u) (ev_J (ev_var rfl) hat fi) fun q => ?_) fun H1 e => ?_
  · obtain ⟨i, rfl⟩ := gInt_int q
    cases at_int hat
    exact ev_op (ev_var rfl) ev_c rv_I0
  · unfold gCnt
    rw [iv_and]
    exact k H1 e
/-! is_tuple_of -/
theorem scTO : FnScope ["many", "thing"] ["many", "thing"] (defScope sTO) := ⟨rfl, rfl, rfl, by decide +kernel, rfl, by decide +kernel, by decide +kernel⟩
def spTO (C : Addr) : Sp := fun vs H Q _ => ∃ (m : Nat) (v : V) (u : U) (w : Addr), vs = [.int (m : Int), v] ∧ At w C H v u ∧ ∀ H', Same H H' → Q (.bl (gTO m u)) H'
theorem ok_TO {f : Addr} {fd : FuncData} (D : Df K mg "is_tuple_of" sTO ["many", "thing"] f fd) (S : Bs K mg C) : FnOk P wd K mg base CX0 1 f fd ["many", "thing"] (spTO C) := by
  refine D.F.ok scTO (fun vs H Q E h => ?_) (fun cdv A outer s H vs Q E hr h => ?_)
  · obtain ⟨m, v, u, w, rfl, _⟩ := h
    rfl
  · obtain ⟨m, v, u, w, rfl, hat, k⟩ := h
    refine ⟨_, pss_one (ps_ret (pe_and (pe_isiX S (by rfl) (by rfl) S.B.tup boot_tuple' (by decide) (pv 1) (by decide) (by decide)) (pe_one (pe_cmpR op_eq (pe_callB call_len_seq (by rfl) S.B.len PySem.boot_len (pa_cons (pv 1) pa_nil)) (pv 0) (nomark _))))), ?_⟩
    refine s_ret (ev_andV (b := gTO m u) (ev_isi (ev_var rfl) hat) fun q => ?_) fun H1 e => ?_
    · obtain ⟨us, rfl⟩ := isT_tup q
      obtain ⟨a, xs, rfl, ha, _, hl⟩ := at_tup hat
      have := ev_op (r := rEq) (σ := [some (V.int (m : Int)), some (V.ref a)]) (ev_lenT (K := K) (te := tVar 1) (ev_var rfl) ha) (ev_var (i := 0) rfl) (rv_eq rfl)
      rw [dec_eq, AtL.length hl] at this
      exact this
    · unfold gTO
      rw [tv_and]
      exact k H1 e
structure JTO (P : Program) (wd : World) (K : PySem.W.Frag) (mg : Str → Option Value) (base : Heap) (C : Addr) (f : Addr) (fd : FuncData) : Prop where
  D : Df K mg "is_tuple_of" sTO ["many", "thing"] f fd
  ok : FnOk P wd K mg base CX0 1 f fd ["many", "thing"] (spTO C)
theorem ev_TO {σ : L2.St} {H : Hp} {tm te : TE} {E : XK} {m : Nat} {v : V} {u : U} {w : Addr} (hm : Ev tm σ H (.int (m : Int))) (h : Ev te σ H v) (hat : At w C H v u) : Ev (tCall (spTO C) [] E (tCons tm (tCons te tNil))) σ H (.bl (gTO m u)) :=
  ev_call (ea_cons hm (ea_cons h ea_nil)) fun H1 e Q q E => ⟨m, v, u, w, rfl, ex_at e hat, q⟩
theorem gTO_of {m : Nat} {u : U} (h : gTO m u = true) : ∃ us, u = .tup us ∧ us.length = m := by
  cases u with
  | tup us => exact ⟨us, rfl, of_decide_eq_true h⟩
  | _ => cases h
theorem atl_get {w : Addr} {H : Hp} {xs : List V} {us : List U} (h : AtL w C H xs us) {k : Nat} (hk : k < us.length) : ∃ x, xs[k]? = some x ∧ At w C H x (us.getD k .non) := by
  obtain ⟨x, hx, ha⟩ := AtL.get h (List.getElem?_eq_getElem hk)
  refine ⟨x, hx, ?_⟩
  rw [getD_some (List.getElem?_eq_getElem hk)]
  exact ha
/-- an item of a tuple, with its data -/
theorem ev_nth {σ : L2.St} {H : Hp} {te : TE} {v : V} {u : U} {w : Addr} {m k : Nat} (h : Ev te σ H v) (hat : At w C H v u) (hm : gTO m u = true) (hk : k < m) : ∃ x, Ev (tOp (rIxT K) te (tC (.int (k : Int)))) σ H x ∧ At w C H x (nth u k) := by
  obtain ⟨us, rfl, rfl⟩ := gTO_of hm
  obtain ⟨a, xs, rfl, ha, _, hl⟩ := at_tup hat
  obtain ⟨x, hx, hax⟩ := atl_get hl hk
  exact ⟨x, ev_ixT h ha hx, hax⟩
theorem fine_nth {m k : Nat} {u : U} (hm : gTO m u = true) (hk : k < m) (fi : Fine u) : Fine (nth u k) := by
  obtain ⟨us, rfl, rfl⟩ := gTO_of hm
  show Fine (us.getD k .non)
  rw [getD_some (List.getElem?_eq_getElem hk)]
  exact fi.tup _ (List.getElem_mem hk)
/-! is_ahead -/
theorem scAhead : FnScope ["thing"] ["thing"] (defScope sAhead) := ⟨rfl, rfl, rfl, by decide +kernel, rfl, by decide +kernel, by decide +kernel⟩
theorem jw_ahead {f f1 : Addr} {fd d1 : FuncData} (D : Df K mg "is_ahead" sAhead ["thing"] f fd) (S : Bs K mg C) (J : Jd P wd K mg base C 4 "is_members" "thing" f1 d1 gMembers) : Jw P wd K mg base C 5 "is_ahead" "thing" f fd okN gAhead := by
  refine ⟨D.F.ok scAhead lenJw (fun cdv A outer s H vs Q E hr h => ?_), D.g, D.F.kp, D.b⟩
  obtain ⟨v, u, w, rfl, hat, fi, hs, hw, k⟩ := h
  refine ⟨_, pss_one (ps_ret (pe_or (pe_cmpR (op_eqN (room_hu hr)) (pv 0) (pe_tup pa_nil) (nomark _)) (pe_one (pe_J J hr (by decide) (by rfl) pass0 (pv 0))))), ?_⟩
  exact s_ret (ev_orV (ev_opU (ev_var rfl) (eu_tup ea_nil (by decide)) fun q H1 hq e1 => rv_eqN ((nc_at S.q hat).ex e1) hq) fun _ => ev_J (ev_var rfl) hat fi) fun H1 e => k H1 e
/-! is_vote -/
theorem scVote : FnScope ["thing"] ["thing"] (defScope sVote) := ⟨rfl, rfl, rfl, by decide +kernel, rfl, by decide +kernel, by decide +kernel⟩
theorem jd_vote {f f1 f2 f3 : Addr} {fd d1 d2 d3 : FuncData} (D : Df K mg "is_vote" sVote ["thing"] f fd) (S : Bs K mg C) (JP : Jd P wd K mg base C 1 "is_pair" "thing" f1 d1 gPair) (JS : Jd P wd K mg base C 3 "is_stamp" "thing" f2 d2 gStamp)
    (JM : Jd P wd K mg base C 4 "is_members" "thing" f3 d3 gMembers) : Jd P wd K mg base C 5 "is_vote" "thing" f fd gVote := by
  refine ⟨D.F.ok scVote lenJ (fun cdv A outer s H vs Q E hr h => ?_), D.g, D.F.kp, D.b⟩
  obtain ⟨v, u, w, rfl, hat, fi, k⟩ := h
  refine ⟨_, pss_one (ps_ret (pe_or (pe_cmpR op_isN1 (pv 0) pe_non (nomark _)) (pe_one (pe_and (pe_J JP hr (by decide) (by rfl) pass0 (pv 0)) (pe_and (pe_J JS hr (by decide) (by rfl) pass0 (pe_ix ix_tup (pv 0) pe_int (fun _ _ => rfl))) (pe_one (pe_J JM hr (by decide) (by rfl) pass0 (pe_ix ix_tup (pv 0) pe_int (fun _ _ => rfl))))))))), ?_⟩
  refine s_ret (ev_orV (a := isNon u) (ev_is (ev_isN (ev_var rfl)) (by rw [at_non hat])) fun _ => ev_andV (b := tv u fun us => two us fun a b => gStamp a && gMembers b) (ev_J (ev_var rfl) hat fi) fun q => ?_) fun H1 e => ?_
  · obtain ⟨a, b, rfl⟩ := gPair_two q
    obtain ⟨p, x, y, rfl, hp, ha, hb⟩ := pair_at hat
    exact ev_andV (ev_J (ev_ixT (j := 0) (ev_var rfl) hp rfl) ha fi.fst) fun _ => ev_J (ev_ixT (j := 1) (ev_var rfl) hp rfl) hb fi.snd
  · rw [pair_and]
    exact k H1 e
/-! _is_named_head -/
theorem scNamed : FnScope ["thing"] ["thing"] (defScope sNamed) := ⟨rfl, rfl, rfl, by decide +kernel, rfl, by decide +kernel, by decide +kernel⟩
theorem jd_named {f f1 f2 f3 f4 : Addr} {fd d1 d2 d3 d4 : FuncData} (D : Df K mg "_is_named_head" sNamed ["thing"] f fd) (S : Bs K mg C) (JT : JTO P wd K mg base C f1 d1) (JN : Jd P wd K mg base C 2 "is_name" "thing" f2 d2 gNam)
    (JS : Jd P wd K mg base C 3 "is_stamp" "thing" f3 d3 gStamp) (JR : Jd P wd K mg base C 4 "is_row" "thing" f4 d4 gRow) : Jd P wd K mg base C 5 "_is_named_head" "thing" f fd gNamed := by
  refine ⟨D.F.ok scNamed lenJ (fun cdv A outer s H vs Q E hr h => ?_), D.g, D.F.kp, D.b⟩
  obtain ⟨v, u, w, rfl, hat, fi, k⟩ := h
  refine ⟨_, pss_one (ps_ret (pe_and (pe_call JT.ok (hr.mono (by decide)) (by rfl) JT.D.g JT.D.F.kp JT.D.b .nil pass0 (pa_cons pe_int (pa_cons (pv 0) pa_nil))) (pe_and (pe_J JN hr (by decide) (by rfl) pass0 (pe_ix ix_tup (pv 0) pe_int (fun _ _ => rfl)))
    (pe_and (pe_J JS hr (by decide) (by rfl) pass0 (pe_ix ix_tup (pv 0) pe_int (fun _ _ => rfl))) (pe_one (pe_J JR hr (by decide) (by rfl) pass0 (pe_ix ix_tup (pv 0) pe_int (fun _ _ => rfl)))))))), ?_⟩
  refine s_ret (ev_andV (a := gTO 3 u) (ev_TO (m := 3) ev_c (ev_var rfl) hat) fun q => ?_) fun H1 e => k H1 e
  obtain ⟨x0, e0, h0⟩ := ev_nth (K := K) (σ := [some v]) (te := tVar 0) (k := 0) (ev_var rfl) hat q (by decide)
  obtain ⟨x1, e1, h1⟩ := ev_nth (K := K) (σ := [some v]) (te := tVar 0) (k := 1) (ev_var rfl) hat q (by decide)
  obtain ⟨x2, e2, h2⟩ := ev_nth (K := K) (σ := [some v]) (te := tVar 0) (k := 2) (ev_var rfl) hat q (by decide)
  exact ev_andV (ev_J e0 h0 (fine_nth q (by decide) fi)) fun _ => ev_andV (ev_J e1 h1 (fine_nth q (by decide) fi)) fun _ => ev_J e2 h2 (fine_nth q (by decide) fi)
/-! _is_block -/
theorem scBlk : FnScope ["thing"] ["thing"] (defScope sBlk) := ⟨rfl, rfl, rfl, by decide +kernel, rfl, by decide +kernel, by decide +kernel⟩
theorem jd_blk {f f1 f2 f3 : Addr} {fd d1 d2 d3 : FuncData} (D : Df K mg "_is_block" sBlk ["thing"] f fd) (S : Bs K mg C) (JP : Jd P wd K mg base C 1 "is_pair" "thing" f1 d1 gPair) (JI : Jd P wd K mg base C 3 "is_block_id" "thing" f2 d2 gId)
    (JC : Jd P wd K mg base C 2 "is_piece" "thing" f3 d3 gPiece) : Jd P wd K mg base C 5 "_is_block" "thing" f fd gBlk := by
  refine ⟨D.F.ok scBlk lenJ (fun cdv A outer s H vs Q E hr h => ?_), D.g, D.F.kp, D.b⟩
  obtain ⟨v, u, w, rfl, hat, fi, k⟩ := h
  refine ⟨_, pss_one (ps_ret (pe_and (pe_J JP hr (by decide) (by rfl) pass0 (pv 0)) (pe_and (pe_J JI hr (by decide) (by rfl) pass0 (pe_ix ix_tup (pv 0) pe_int (fun _ _ => rfl))) (pe_one (pe_J JC hr (by decide) (by rfl) pass0 (pe_ix ix_tup (pv 0) pe_int (fun _ _ => rfl))))))), ?_⟩
  refine s_ret (ev_andV (ev_J (ev_var rfl) hat fi) fun q => ?_) fun H1 e => k H1 e
  obtain ⟨a, b, rfl⟩ := gPair_two q
  obtain ⟨p, x, y, rfl, hp, ha, hb⟩ := pair_at hat
  exact ev_andV (ev_J (ev_ixT (j := 0) (ev_var rfl) hp rfl) ha fi.fst) fun _ => ev_J (ev_ixT (j := 1) (ev_var rfl) hp rfl) hb fi.snd
end
end Hs
namespace Hs
open PySem PySem.Spec PyProof.Rows L2 Hu Evl
abbrev sTable : Stmt := topS 58
abbrev sKept : Stmt := topS 59
abbrev sLeases : Stmt := topS 60
abbrev sLease : Stmt := topS 61
def gLease (u : U) : Bool := gTO 4 u && (gNam (nth u 0) && gHand (nth u 1)) && (gCnt (nth u 2) && gCnt (nth u 3))
def keyL (u : U) : List L2.Key := [keyU (nth u 0), keyU (nth u 1)]
def gLeases (u : U) : Bool := tv u fun us => us.all gLease && ascK (us.map keyL)
theorem gNam_str {u : U} (h : gNam u = true) : ∃ z, u = .str z := by
  cases u with
  | str z => exact ⟨z, rfl⟩
  | _ => cases h
theorem and3 {a b c : Bool} (h : (a && (b && c)) = true) : a = true ∧ b = true ∧ c = true := by
  rw [Bool.and_eq_true, Bool.and_eq_true] at h
  exact h
theorem and2 {a b : Bool} (h : (a && b) = true) : a = true ∧ b = true := by
  rw [Bool.and_eq_true] at h
  exact h
section
variable {P : Program} {wd : World} {K : PySem.W.Frag} {mg : Str → Option Value} {base : Heap} {C : Addr}
theorem isB_str {vs : List U} {z : Str} (h : vs.getD 0 .non = .str z) : isB vs = false := by
  cases vs with
  | nil => cases h
  | cons v r =>
    have h' : v = .str z := h
    rw [h']
    exact isB_first rfl
theorem names_at {w : Addr} {H : Hp} : ∀ {us : List U} {xs : List V}, AtL w C H xs us → us.all gNamed = true → ∀ (i : Nat) (x : V), xs[i]? = some x → ∃ p ys, x = .ref p ∧ H p = some (.tup ys) ∧ ys[0]? = some (.str ((us.map fun u => strU (nth u 0)).getD i e0z))
  | [], _, .nil, _, i, x, h => by simp at h
  | u :: us, _, .cons hu l, q, i, x, h => by
    rw [List.all_cons] at q
    obtain ⟨q1, q2⟩ := and2 q
    cases i with
    | zero =>
      cases h
      obtain ⟨a1, a2, _⟩ := and3 (a := gTO 3 u) (b := gNam (nth u 0)) (c := gStamp (nth u 1) && gRow (nth u 2)) q1
      obtain ⟨vs, rfl, hl⟩ := gTO_of a1
      obtain ⟨p, ys, rfl, hp, _, hys⟩ := at_tup hu
      obtain ⟨y, hy, hay⟩ := atl_get hys (k := 0) (by omega)
      obtain ⟨z, hz⟩ := gNam_str a2
      have hz' : vs.getD 0 .non = .str z := hz
      rw [hz'] at hay
      rw [at_str hay] at hy
      refine ⟨p, ys, rfl, hp.plain (isB_str hz'), ?_⟩
      rw [hy]
      show some (V.str z) = some (V.str (strU (vs.getD 0 .non)))
      rw [hz']
      rfl
    | succ i => exact names_at l q2 i x h
theorem scHeads : FnScope ["thing", "item"] ["thing"] (defScope sHeads) := ⟨rfl, rfl, rfl, by decide +kernel, rfl, by decide +kernel, by decide +kernel⟩
theorem range_names (zs : List Str) (n : Nat) (h : n = zs.length) : (List.range n).map (fun i => V.str (zs.getD i e0z)) = zs.map V.str := by
  subst h
  refine List.ext_getElem? fun j => ?_
  rw [List.getElem?_map, List.getElem?_map]
  by_cases q : j < zs.length
  · rw [List.getElem?_range q, List.getElem?_eq_getElem q]
    show some (V.str (zs.getD j e0z)) = _
    rw [getD_some (List.getElem?_eq_getElem q)]
    rfl
  · rw [List.getElem?_eq_none (by simpa using q), List.getElem?_eq_none (by simpa using q)]
    rfl
theorem jw_heads {f f1 f2 : Addr} {fd d1 d2 : FuncData} (D : Df K mg "is_heads" sHeads ["thing"] f fd) (S : Bs K mg C) (J : Jd P wd K mg base C 5 "_is_named_head" "thing" f1 d1 gNamed) (DA : Df K mg "is_ascending" sAscending ["things"] f2 d2) :
    Jw P wd K mg base C 6 "is_heads" "thing" f fd Sm gHeads := by
  refine ⟨D.F.ok scHeads lenJw (fun cdv A outer s H vs Q E hr h => ?_), D.g, D.F.kp, D.b⟩
  obtain ⟨v, u, w, rfl, hat, fi, hs, hw, k⟩ := h
  have GA : FnOk P wd K mg base CX0 5 f2 d2 ["things"] (spAscG K (rIxL K) rLtS) := (ok_ascZ DA.F S.B).mono (by decide)
  refine ⟨_, pss_cons (ps_if (PW.pt (pw_or (pt_not (pt_val (pe_isiX S (by rfl) (by rfl) S.B.tup boot_tuple' (by decide) (pv 0) (by decide) (by decide))))
      (pw_or1 (pt_not (pt_val (pe_callB (cr_all rfl) (by rfl) S.B.all boot_all' (pa_cons (pe_lc (own := [("item", 1)]) (g := gName 1) (tt := tYes) rfl scHeads.nd (pi_tup (pv 0)) (blkOk_by (N := ["thing", "item"]) (sc := defScope sHeads) (by decide +kernel))
        (fun _ _ _ _ _ => pg_name (i := 1) scHeads.nd rfl (Or.inl rfl)) (fun _ _ _ _ _ => pts_nil) (fun _ _ _ _ _ => pe_J J hr (by decide) (by rfl) pass0 (pv 1))) pa_nil)))))))
      (pss_one (ps_ret pe_bl)) pss_nil)
    (pss_one (ps_ret (pe_call GA (hr.mono (by decide)) (by rfl) DA.g DA.F.kp DA.b .nil pass0 (pa_cons (pe_lc (own := [("item", 1)]) (g := gName 1) (tt := tYes) rfl scHeads.nd (pi_tup (pv 0)) (blkOk_by (N := ["thing", "item"]) (sc := defScope sHeads) (by decide +kernel))
        (fun _ _ _ _ _ => pg_name (i := 1) scHeads.nd rfl (Or.inl rfl)) (fun _ _ _ _ _ => pts_nil) (fun _ _ _ _ _ => pe_ix (show IxR _ (rIxT K) from ix_tup) (pv 1) pe_int (fun _ _ => rfl))) pa_nil)))), ?_⟩
  refine s_if (b := !isT u "tuple" || !(tv u fun us => us.all gNamed)) (et_or (et_not (et_B (ev_isi (ev_var rfl) hat))) fun q => ?_) (fun q H1 e => ?_) (fun q H1 e => ?_)
  · rw [Bool.not_eq_false'] at q
    obtain ⟨us, rfl⟩ := isT_tup q
    obtain ⟨a, xs, rfl, ha, _, hl⟩ := at_tup hat
    exact et_not (et_B (ev_allT (g := gNamed) (ev_var rfl) ha fi.len hl (fun _ => rfl) fun x u hu hx => ev_J (ev_var rfl) hx (fi.tup u hu)))
  · refine s_ret ev_c fun H2 e2 => ?_
    have e3 : gHeads u = false := by
      cases u with
      | tup us =>
        simp [isT, isS, tyU, tv] at q
        show (us.all gNamed && _) = false
        rw [Bool.and_eq_false_iff]
        exact .inl (by simpa using q)
      | _ => rfl
    rw [← e3]
    exact k H2 (e.trans e2)
  · rw [Bool.or_eq_false_iff, Bool.not_eq_false', Bool.not_eq_false'] at q
    obtain ⟨us, rfl⟩ := isT_tup q.1
    have q2 : us.all gNamed = true := q.2
    obtain ⟨a, xs, rfl, ha, _, hl⟩ := at_tup (ex_at e hat)
    have hlen := AtL.length hl
    dsimp only [tNext]
    refine s_ret (ev_callL1 (xs := (us.map fun u => strU (nth u 0)).map V.str) (z := .bl (ascZ (us.map fun u => strU (nth u 0)))) ?_ fun p H2 h2 e2 Q q E => asc_strL h2 (by rw [List.length_map]; exact Sm.len hs) Q q E) fun H2 e2 => ?_
    · rw [← range_names _ xs.length (by rw [List.length_map]; exact hlen)]
      exact el_mapX _ (ev_var rfl) ha (by rw [hlen]; exact Sm.len hs) (fun _ => rfl) fun i x hx => by
        obtain ⟨p, ys, rfl, hp, hy⟩ := names_at hl q2 i x hx
        exact ev_ixP (j := 0) (ev_var rfl) hp hy
    · have e3 : gHeads (.tup us) = ascZ (us.map fun u => strU (nth u 0)) := by
        show (us.all gNamed && _) = _
        rw [q2]
        rfl
      rw [← e3]
      exact k H2 (e.trans e2)
/-- a call with a new list of which something is known -/
theorem ev_callX {sp : Sp} {E : XK} {z : V} {te : TE} {σ : L2.St} {H : Hp} {R : List V → Hp → Prop} (h : ∀ H0, Ex H H0 → ∀ Q : VK, (∀ p ys H', H0 p = none → Ex H0 H' → H' p = some (.lst ys) → R ys H' → Q (.ref p) H') → te σ H0 Q)
    (hs : ∀ p ys H1, H1 p = some (.lst ys) → R ys H1 → ∀ Q : VK, (∀ H2, Ex H1 H2 → Q z H2) → ∀ E, sp [.ref p] H1 Q E) : Ev (tCall sp [] E (tCons te tNil)) σ H z :=
  fun H0 e Q q => h H0 e _ fun p ys H1 hp e1 h1 r => hs p ys H1 h1 r Q (fun H2 e2 => q H2 (e1.trans e2)) _
/-! is_blocks -/
theorem scBlocks : FnScope ["thing", "item"] ["thing"] (defScope sBlocks) := ⟨rfl, rfl, rfl, by decide +kernel, rfl, by decide +kernel, by decide +kernel⟩
theorem gHand_int {u : U} (h : gHand u = true) : ∃ i, u = .int i := by
  cases u with
  | int i => exact ⟨i, rfl⟩
  | _ => cases h
theorem gFrom_int {u : U} (h : gFrom u = true) : ∃ i, u = .int i := by
  cases u with
  | int i => exact ⟨i, rfl⟩
  | _ => cases h
theorem gId_two {u : U} (h : gId u = true) : ∃ i j, u = .tup [.int i, .int j] := by
  cases u with
  | tup us =>
    match us, h with
    | [a, b], h =>
      obtain ⟨h1, h2⟩ := and2 (a := gHand a) (b := gFrom b) h
      obtain ⟨i, rfl⟩ := gHand_int h1
      obtain ⟨j, rfl⟩ := gFrom_int h2
      exact ⟨i, j, rfl⟩
  | _ => cases h
theorem two_ints {w : Addr} {H : Hp} {v : V} {i j : Int} (h : At w C H v (.tup [.int i, .int j])) : ∃ p, v = .ref p ∧ H p = some (.tup [.int i, .int j]) := by
  obtain ⟨p, x, y, rfl, hp, hx, hy⟩ := pair_at h
  rw [at_int hx, at_int hy] at hp
  exact ⟨p, rfl, hp⟩
theorem gBlk_is {u : U} (h : gBlk u = true) : ∃ i j b, u = .tup [.tup [.int i, .int j], b] := by
  obtain ⟨h1, h2, _⟩ := and3 h
  obtain ⟨a, b, rfl⟩ := gPair_two h1
  obtain ⟨i, j, e⟩ := gId_two h2
  have e' : a = .tup [.int i, .int j] := e
  exact ⟨i, j, b, by rw [e']⟩
theorem kin_blks {us : List U} (h : us.all gBlk = true) : kinK (us.map fun u => keysU (nth u 0)) := fun ks h1 ls h2 => by
  obtain ⟨u, hu, rfl⟩ := List.mem_map.mp h1
  obtain ⟨x, hx, rfl⟩ := List.mem_map.mp h2
  obtain ⟨i, j, b, rfl⟩ := gBlk_is (List.all_eq_true.mp h u hu)
  obtain ⟨i', j', b', rfl⟩ := gBlk_is (List.all_eq_true.mp h x hx)
  rfl
theorem jw_blocks {f f1 f2 : Addr} {fd d1 d2 : FuncData} (D : Df K mg "is_blocks" sBlocks ["thing"] f fd) (S : Bs K mg C) (J : Jd P wd K mg base C 5 "_is_block" "thing" f1 d1 gBlk) (DA : Df K mg "is_ascending" sAscending ["things"] f2 d2) :
    Jw P wd K mg base C 6 "is_blocks" "thing" f fd Sm gBlocks := by
  refine ⟨D.F.ok scBlocks lenJw (fun cdv A outer s H vs Q E hr h => ?_), D.g, D.F.kp, D.b⟩
  obtain ⟨v, u, w, rfl, hat, fi, hs, hw, k⟩ := h
  have GA : FnOk P wd K mg base CX0 5 f2 d2 ["things"] (spAscG K (rIxL K) (Hk.rLtK K)) := (ok_ascK DA.F S.B).mono (by decide)
  refine ⟨_, pss_cons (ps_if (PW.pt (pw_or (pt_not (pt_val (pe_isiX S (by rfl) (by rfl) S.B.tup boot_tuple' (by decide) (pv 0) (by decide) (by decide))))
      (pw_or1 (pt_not (pt_val (pe_callB (cr_all rfl) (by rfl) S.B.all boot_all' (pa_cons (pe_lc (own := [("item", 1)]) (g := gName 1) (tt := tYes) rfl scBlocks.nd (pi_tup (pv 0)) (blkOk_by (N := ["thing", "item"]) (sc := defScope sBlocks) (by decide +kernel))
        (fun _ _ _ _ _ => pg_name (i := 1) scBlocks.nd rfl (Or.inl rfl)) (fun _ _ _ _ _ => pts_nil) (fun _ _ _ _ _ => pe_J J hr (by decide) (by rfl) pass0 (pv 1))) pa_nil)))))))
      (pss_one (ps_ret pe_bl)) pss_nil)
    (pss_one (ps_ret (pe_call GA (hr.mono (by decide)) (by rfl) DA.g DA.F.kp DA.b .nil pass0 (pa_cons (pe_lc (own := [("item", 1)]) (g := gName 1) (tt := tYes) rfl scBlocks.nd (pi_tup (pv 0)) (blkOk_by (N := ["thing", "item"]) (sc := defScope sBlocks) (by decide +kernel))
        (fun _ _ _ _ _ => pg_name (i := 1) scBlocks.nd rfl (Or.inl rfl)) (fun _ _ _ _ _ => pts_nil) (fun _ _ _ _ _ => pe_ix (show IxR _ (rIxT K) from ix_tup) (pv 1) pe_int (fun _ _ => rfl))) pa_nil)))), ?_⟩
  refine s_if (b := !isT u "tuple" || !(tv u fun us => us.all gBlk)) (et_or (et_not (et_B (ev_isi (ev_var rfl) hat))) fun q => ?_) (fun q H1 e => ?_) (fun q H1 e => ?_)
  · rw [Bool.not_eq_false'] at q
    obtain ⟨us, rfl⟩ := isT_tup q
    obtain ⟨a, xs, rfl, ha, _, hl⟩ := at_tup hat
    exact et_not (et_B (ev_allT (g := gBlk) (ev_var rfl) ha fi.len hl (fun _ => rfl) fun x u hu hx => ev_J (ev_var rfl) hx (fi.tup u hu)))
  · refine s_ret ev_c fun H2 e2 => ?_
    have e3 : gBlocks u = false := by
      cases u with
      | tup us =>
        simp [isT, isS, tyU, tv] at q
        show (us.all gBlk && _) = false
        rw [Bool.and_eq_false_iff]
        exact .inl (by simpa using q)
      | _ => rfl
    rw [← e3]
    exact k H2 (e.trans e2)
  · rw [Bool.or_eq_false_iff, Bool.not_eq_false', Bool.not_eq_false'] at q
    obtain ⟨us, rfl⟩ := isT_tup q.1
    have q2 : us.all gBlk = true := q.2
    obtain ⟨a, xs, rfl, ha, _, hl⟩ := at_tup (ex_at e hat)
    dsimp only [tNext]
    refine s_ret (v := .bl (ascK (us.map fun u => keysU (nth u 0)))) (ev_callX (R := fun ys G => TkL G ys (us.map fun u => keysU (nth u 0))) (lc_newK (K := K) (tl := tVar 0) (j := 1) (vs := [1]) (σ := [some (.ref a), none]) (f := fun u => keysU (nth u 0)) (ev_var rfl) ha (Sm.len hs) hl (fun _ => rfl) (fun x u G hu eg hx Q q => ?_)) fun p ys H3 h3 ht Q q E =>
      asc_tkL h3 ht (kin_blks q2) (by rw [List.length_map]; exact Sm.len hs) Q q E) fun H2 e2 => ?_
    · obtain ⟨i, j, b, rfl⟩ := gBlk_is (List.all_eq_true.mp q2 u hu)
      obtain ⟨p, x1, y1, rfl, hp, hx1, _⟩ := pair_at hx
      obtain ⟨p1, rfl, hp1⟩ := two_ints hx1
      exact ev_ixT (K := K) (j := 0) (te := tVar 1) (ev_var rfl) hp rfl G (Ex.refl G) Q fun H5 e5 => q p1 H5 e5 (e5 _ _ hp1)
    · have e3 : gBlocks (.tup us) = ascK (us.map fun u => keysU (nth u 0)) := by
        show (us.all gBlk && _) = _
        rw [q2]
        rfl
      rw [← e3]
      exact k H2 (e.trans e2)
end
end Hs
namespace Hs
open PySem PySem.Spec PyProof.Rows L2 Hu Evl
section
variable {P : Program} {wd : World} {K : PySem.W.Frag} {mg : Str → Option Value} {base : Heap} {C : Addr}
/-! _is_lease -/
theorem scLease : FnScope ["thing"] ["thing"] (defScope sLease) := ⟨rfl, rfl, rfl, by decide +kernel, rfl, by decide +kernel, by decide +kernel⟩
theorem jd_lease {f f1 f2 f3 f4 : Addr} {fd d1 d2 d3 d4 : FuncData} (D : Df K mg "_is_lease" sLease ["thing"] f fd) (S : Bs K mg C) (JT : JTO P wd K mg base C f1 d1) (JN : Jd P wd K mg base C 2 "is_name" "thing" f2 d2 gNam)
    (JH : Jd P wd K mg base C 2 "is_hand" "thing" f3 d3 gHand) (JC : Jd P wd K mg base C 2 "is_count" "thing" f4 d4 gCnt) : Jd P wd K mg base C 3 "_is_lease" "thing" f fd gLease := by
  refine ⟨D.F.ok scLease lenJ (fun cdv A outer s H vs Q E hr h => ?_), D.g, D.F.kp, D.b⟩
  obtain ⟨v, u, w, rfl, hat, fi, k⟩ := h
  refine ⟨_, pss_cons (ps_if (PW.pt (pw_or (pt_not (pt_val (pe_call JT.ok (hr.mono (by decide)) (by rfl) JT.D.g JT.D.F.kp JT.D.b .nil pass0 (pa_cons pe_int (pa_cons (pv 0) pa_nil)))))
      (pw_or (pt_not (pt_val (pe_J JN hr (by decide) (by rfl) pass0 (pe_ix ix_tup (pv 0) pe_int (fun _ _ => rfl))))) (pw_or1 (pt_not (pt_val (pe_J JH hr (by decide) (by rfl) pass0 (pe_ix ix_tup (pv 0) pe_int (fun _ _ => rfl)))))))))
      (pss_one (ps_ret pe_bl)) pss_nil)
    (pss_one (ps_ret (pe_and (pe_J JC hr (by decide) (by rfl) pass0 (pe_ix ix_tup (pv 0) pe_int (fun _ _ => rfl))) (pe_one (pe_J JC hr (by decide) (by rfl) pass0 (pe_ix ix_tup (pv 0) pe_int (fun _ _ => rfl))))))), ?_⟩
  refine s_if (b := !gTO 4 u || (!gNam (nth u 0) || !gHand (nth u 1))) (et_or (et_not (et_B (ev_TO (m := 4) ev_c (ev_var rfl) hat))) fun q => ?_) (fun q H1 e => ?_) (fun q H1 e => ?_)
  · rw [Bool.not_eq_false'] at q
    obtain ⟨x0, e0, h0⟩ := ev_nth (K := K) (σ := [some v]) (te := tVar 0) (k := 0) (ev_var rfl) hat q (by decide)
    obtain ⟨x1, e1, h1⟩ := ev_nth (K := K) (σ := [some v]) (te := tVar 0) (k := 1) (ev_var rfl) hat q (by decide)
    exact et_or (et_not (et_B (ev_J e0 h0 (fine_nth q (by decide) fi)))) fun _ => et_not (et_B (ev_J e1 h1 (fine_nth q (by decide) fi)))
  · refine s_ret ev_c fun H2 e2 => ?_
    have e4 : gLease u = false := by
      unfold gLease
      revert q
      cases gTO 4 u <;> cases gNam (nth u 0) <;> cases gHand (nth u 1) <;> simp
    rw [← e4]
    exact k H2 (e.trans e2)
  · have q' : gTO 4 u = true ∧ gNam (nth u 0) = true ∧ gHand (nth u 1) = true := by
      revert q
      cases gTO 4 u <;> cases gNam (nth u 0) <;> cases gHand (nth u 1) <;> simp
    obtain ⟨q1, q2, q3⟩ := q'
    have hat1 := ex_at e hat
    obtain ⟨x2, e2, h2⟩ := ev_nth (K := K) (σ := [some v]) (te := tVar 0) (k := 2) (ev_var rfl) hat1 q1 (by decide)
    obtain ⟨x3, e3, h3⟩ := ev_nth (K := K) (σ := [some v]) (te := tVar 0) (k := 3) (ev_var rfl) hat1 q1 (by decide)
    dsimp only [tNext]
    refine s_ret (ev_andV (ev_J e2 h2 (fine_nth q1 (by decide) fi)) fun _ => ev_J e3 h3 (fine_nth q1 (by decide) fi)) fun H2 e2 => ?_
    have e4 : gLease u = (gCnt (nth u 2) && gCnt (nth u 3)) := by
      unfold gLease
      rw [q1, q2, q3]
      rfl
    rw [← e4]
    exact k H2 (e.trans e2)
/-! _are_leases -/
theorem gLease_is {u : U} (h : gLease u = true) : ∃ z i t n, u = .tup [.str z, .int i, .int t, .int n] := by
  obtain ⟨h1, h2⟩ := and2 (a := gTO 4 u && (gNam (nth u 0) && gHand (nth u 1))) h
  obtain ⟨h3, h4, h5⟩ := and3 h1
  obtain ⟨h6, h7⟩ := and2 h2
  obtain ⟨us, rfl, hl⟩ := gTO_of h3
  match us, hl with
  | [a, b, c, d], _ =>
    obtain ⟨z, rfl⟩ := gNam_str (u := a) h4
    obtain ⟨i, rfl⟩ := gHand_int (u := b) h5
    cases c <;> cases d <;> first | exact ⟨_, _, _, _, rfl⟩ | cases h6 | cases h7
theorem kin_leases {us : List U} (h : us.all gLease = true) : kinK (us.map keyL) := fun ks h1 ls h2 => by
  obtain ⟨u, hu, rfl⟩ := List.mem_map.mp h1
  obtain ⟨x, hx, rfl⟩ := List.mem_map.mp h2
  obtain ⟨z, i, t, n, rfl⟩ := gLease_is (List.all_eq_true.mp h u hu)
  obtain ⟨z', i', t', n', rfl⟩ := gLease_is (List.all_eq_true.mp h x hx)
  rfl
theorem four_at {w : Addr} {H : Hp} {v : V} {z : Str} {i t n : Int} (h : At w C H v (.tup [.str z, .int i, .int t, .int n])) : ∃ p, v = .ref p ∧ H p = some (.tup [.str z, .int i, .int t, .int n]) := by
  obtain ⟨p, xs, rfl, hp, _, hl⟩ := at_tup h
  cases hl with
  | cons h1 hl => cases hl with
    | cons h2 hl => cases hl with
      | cons h3 hl => cases hl with
        | cons h4 hl => cases hl with
          | nil =>
            rw [at_str h1, at_int h2, at_int h3, at_int h4] at hp
            exact ⟨p, rfl, hp⟩
theorem scLeases : FnScope ["thing", "item"] ["thing"] (defScope sLeases) := ⟨rfl, rfl, rfl, by decide +kernel, rfl, by decide +kernel, by decide +kernel⟩
theorem jw_leases {f f1 f2 : Addr} {fd d1 d2 : FuncData} (D : Df K mg "_are_leases" sLeases ["thing"] f fd) (S : Bs K mg C) (J : Jd P wd K mg base C 3 "_is_lease" "thing" f1 d1 gLease) (DA : Df K mg "is_ascending" sAscending ["things"] f2 d2) :
    Jw P wd K mg base C 6 "_are_leases" "thing" f fd Sm gLeases := by
  refine ⟨D.F.ok scLeases lenJw (fun cdv A outer s H vs Q E hr h => ?_), D.g, D.F.kp, D.b⟩
  obtain ⟨v, u, w, rfl, hat, fi, hs, hw, k⟩ := h
  have GA : FnOk P wd K mg base CX0 5 f2 d2 ["things"] (spAscG K (rIxL K) (Hk.rLtK K)) := (ok_ascK DA.F S.B).mono (by decide)
  refine ⟨_, pss_cons (ps_if (PW.pt (pw_or (pt_not (pt_val (pe_isiX S (by rfl) (by rfl) S.B.tup boot_tuple' (by decide) (pv 0) (by decide) (by decide))))
      (pw_or1 (pt_not (pt_val (pe_callB (cr_all rfl) (by rfl) S.B.all boot_all' (pa_cons (pe_lc (own := [("item", 1)]) (g := gName 1) (tt := tYes) rfl scLeases.nd (pi_tup (pv 0)) (blkOk_by (N := ["thing", "item"]) (sc := defScope sLeases) (by decide +kernel))
        (fun _ _ _ _ _ => pg_name (i := 1) scLeases.nd rfl (Or.inl rfl)) (fun _ _ _ _ _ => pts_nil) (fun _ _ _ _ _ => pe_J J hr (by decide) (by rfl) pass0 (pv 1))) pa_nil)))))))
      (pss_one (ps_ret pe_bl)) pss_nil)
    (pss_one (ps_ret (pe_call GA (hr.mono (by decide)) (by rfl) DA.g DA.F.kp DA.b .nil pass0 (pa_cons (pe_lc (own := [("item", 1)]) (g := gName 1) (tt := tYes) rfl scLeases.nd (pi_tup (pv 0)) (blkOk_by (N := ["thing", "item"]) (sc := defScope sLeases) (by decide +kernel))
        (fun _ _ _ _ _ => pg_name (i := 1) scLeases.nd rfl (Or.inl rfl)) (fun _ _ _ _ _ => pts_nil) (fun _ _ _ _ _ => pe_slice (show SlR _ (rSlA K) from sl_tupA) (pv 1) po_none (po_some pe_int))) pa_nil)))), ?_⟩
  refine s_if (b := !isT u "tuple" || !(tv u fun us => us.all gLease)) (et_or (et_not (et_B (ev_isi (ev_var rfl) hat))) fun q => ?_) (fun q H1 e => ?_) (fun q H1 e => ?_)
  · rw [Bool.not_eq_false'] at q
    obtain ⟨us, rfl⟩ := isT_tup q
    obtain ⟨a, xs, rfl, ha, _, hl⟩ := at_tup hat
    exact et_not (et_B (ev_allT (g := gLease) (ev_var rfl) ha fi.len hl (fun _ => rfl) fun x u hu hx => ev_J (ev_var rfl) hx (fi.tup u hu)))
  · refine s_ret ev_c fun H2 e2 => ?_
    have e3 : gLeases u = false := by
      cases u with
      | tup us =>
        simp [isT, isS, tyU, tv] at q
        show (us.all gLease && _) = false
        rw [Bool.and_eq_false_iff]
        exact .inl (by simpa using q)
      | _ => rfl
    rw [← e3]
    exact k H2 (e.trans e2)
  · rw [Bool.or_eq_false_iff, Bool.not_eq_false', Bool.not_eq_false'] at q
    obtain ⟨us, rfl⟩ := isT_tup q.1
    have q2 : us.all gLease = true := q.2
    obtain ⟨a, xs, rfl, ha, _, hl⟩ := at_tup (ex_at e hat)
    dsimp only [tNext]
    refine s_ret (v := .bl (ascK (us.map keyL))) (ev_callX (R := fun ys G => TkL G ys (us.map keyL)) (lc_newK (K := K) (tl := tVar 0) (j := 1) (vs := [1]) (σ := [some (.ref a), none]) (f := keyL) (ev_var rfl) ha (Sm.len hs) hl (fun _ => rfl) (fun x u G hu eg hx Q q => ?_)) fun p ys H3 h3 ht Q q E =>
      asc_tkL h3 ht (kin_leases q2) (by rw [List.length_map]; exact Sm.len hs) Q q E) fun H2 e2 => ?_
    · obtain ⟨z, i, t, n, rfl⟩ := gLease_is (List.all_eq_true.mp q2 u hu)
      obtain ⟨p, rfl, hp⟩ := four_at hx
      refine ⟨_, rfl, 2, rfl, p, _, rfl, st_of hp, fun h => absurd h.2 (show ¬ (HT.sIx 4 4 (some 2) = 4) from by decide), fun _ p' hp' => q p' _ (Ex.new hp') ?_⟩
      rw [upd_same]
      rfl
    · have e3 : gLeases (.tup us) = ascK (us.map keyL) := by
        show (us.all gLease && _) = _
        rw [q2]
        rfl
      rw [← e3]
      exact k H2 (e.trans e2)
end
end Hs
namespace Hs
open PySem PySem.Spec PyProof.Rows L2 Hu Evl
def gKept (u : U) : Bool := gMembers (nth u 0) && (gAhead (nth u 1) && (gHeads (nth u 2) && gBlocks (nth u 3)))
structure OkK (u : U) : Prop where
  t : gTO 4 u = true
  a : okN (nth u 1)
  h : Sm (nth u 2)
  b : Sm (nth u 3)
section
variable {P : Program} {wd : World} {K : PySem.W.Frag} {mg : Str → Option Value} {base : Heap} {C : Addr}
theorem four_of {u : U} (h : gTO 4 u = true) : ∃ a b c d, u = .tup [a, b, c, d] := by
  obtain ⟨us, rfl, hl⟩ := gTO_of h
  match us, hl with
  | [a, b, c, d], _ => exact ⟨a, b, c, d, rfl⟩
theorem atl_four {w : Addr} {H : Hp} {xs : List V} {a b c d : U} (h : AtL w C H xs [a, b, c, d]) : ∃ x y z t, xs = [x, y, z, t] ∧ At w C H x a ∧ At w C H y b ∧ At w C H z c ∧ At w C H t d := by
  cases h with
  | cons h1 h => cases h with
    | cons h2 h => cases h with
      | cons h3 h => cases h with
        | cons h4 h => cases h with
          | nil => exact ⟨_, _, _, _, rfl, h1, h2, h3, h4⟩
theorem scKept : FnScope ["parts", "members", "ahead", "heads", "blocks"] ["parts"] (defScope sKept) := ⟨rfl, rfl, rfl, by decide +kernel, rfl, by decide +kernel, by decide +kernel⟩
theorem jw_kept {f f1 f2 f3 f4 : Addr} {fd d1 d2 d3 d4 : FuncData} (D : Df K mg "_are_kept" sKept ["parts"] f fd) (S : Bs K mg C) (JM : Jd P wd K mg base C 4 "is_members" "thing" f1 d1 gMembers) (JA : Jw P wd K mg base C 5 "is_ahead" "thing" f2 d2 okN gAhead)
    (JH : Jw P wd K mg base C 6 "is_heads" "thing" f3 d3 Sm gHeads) (JB : Jw P wd K mg base C 6 "is_blocks" "thing" f4 d4 Sm gBlocks) : Jw P wd K mg base C 7 "_are_kept" "parts" f fd OkK gKept := by
  refine ⟨D.F.ok scKept lenJw (fun cdv A outer s H vs Q E hr h => ?_), D.g, D.F.kp, D.b⟩
  obtain ⟨v, u, w, rfl, hat, fi, hs, hw, k⟩ := h
  refine ⟨_, pss_cons (ps_asg (pv 0) (pg_tup rfl (pgs_cons (pg_name (i := 1) scKept.nd rfl (.inl rfl)) (pgs_cons (pg_name (i := 2) scKept.nd rfl (.inl rfl)) (pgs_cons (pg_name (i := 3) scKept.nd rfl (.inl rfl)) (pgs_cons (pg_name (i := 4) scKept.nd rfl (.inl rfl)) pgs_nil))))))
    (pss_one (ps_ret (pe_and (pe_J JM hr (by decide) (by rfl) pass0 (pv 1)) (pe_and (pe_Jw JA hr (by decide) (by rfl) pass0 (pv 2)) (pe_and (pe_Jw JH hr (by decide) (by rfl) pass0 (pv 3)) (pe_one (pe_Jw JB hr (by decide) (by rfl) pass0 (pv 4)))))))), ?_⟩
  obtain ⟨a, b, c, d, rfl⟩ := four_of hs.t
  obtain ⟨p, xs, rfl, hp, _, hl⟩ := at_tup hat
  obtain ⟨x, y, z, t, rfl, h1, h2, h3, h4⟩ := atl_four hl
  refine ⟨_, rfl, p, _, rfl, Tu.st hp, rfl, x, _, rfl, y, _, rfl, z, _, rfl, t, _, rfl, rfl, ?_⟩
  dsimp only [gName]
  exact s_ret (ev_andV (ev_J (ev_var rfl) h1 (fi.tup a (by simp))) fun _ => ev_andV (ev_Jw (ev_var rfl) h2 (fi.tup b (by simp)) hs.a hw) fun _ => ev_andV (ev_Jw (ev_var rfl) h3 (fi.tup c (by simp)) hs.h hw) fun _ => ev_Jw (ev_var rfl) h4 (fi.tup d (by simp)) hs.b hw) k
end
end Hs
/-! new tuples, of which it is known that nothing is added to them: they may stand locked -/
namespace Hu
open PySem PySem.Spec PyProof.Rows L2
/-- a new tuple of xs, as it pleases: open, or locked -/
def NewT (H : Hp) (xs : List V) (Q : VK) : Prop := ∀ p, H p = none → Q (.ref p) (upd H p (.tup xs)) ∨ ∀ o : Obj, o.dict = none → Q (.ref p) (upd H p (.frz o (.tup xs)))
section
variable {X : Cx} {pins : List (Addr × Obj)} {σ : L2.St} {H : Hp} {s : Shared} {Q : VK} {xs : List V} {its : List Value}
theorem newT_at (I : Inv X pins σ H s) (z : xs.length ≤ sizeLine) (r : Vals xs its) (n : NewT H xs Q) :
    EP X pins σ Q (.ref s.heap.objs.size) { s with heap := s.heap.push { cls := .type "tuple", data := .seq its.toArray } } := by
  have new : s.heap.objs.size ≤ s.heap.objs.size := Nat.le_refl _
  have got : (s.heap.push { cls := .type "tuple", data := .seq its.toArray }).get? s.heap.objs.size = some { cls := .type "tuple", data := .seq its.toArray } := Heap.get?_push_size _ rfl
  have it : IsTup (s.heap.push { cls := .type "tuple", data := .seq its.toArray }) s.heap.objs.size its.toArray := IsTup.new _ _
  have keep : ∀ (b : Addr) (u : Obj), s.heap.get? b = some u → (s.heap.push { cls := .type "tuple", data := .seq its.toArray }).get? b = some u := fun b u e => Heap.get?_push_of_some _ e
  rcases n _ (I.hok.fresh new) with q | q
  · exact ⟨.ref _, _, I.laid (t' := s.toks) (o := .tup xs) keep new ⟨z, its, r, it⟩, rfl, q⟩
  · exact ⟨.ref _, _, I.laid (t' := s.toks) (o := .frz _ (.tup xs)) keep new ⟨got, z, its, r, it⟩, rfl, q _ rfl⟩
variable {es : List Expr} {t : TA} {pos : Pos}
/-- (a, b) -/
def tTupF (t : TA) : TE := fun σ H Q => t σ H fun xs H1 => xs.length ≤ sizeLine ∧ NewT H1 xs Q
theorem pe_tupF {x1} (h : PA X es t) : PE X (.Tuple es x1 pos) (tTupF t) := by
  constructor
  intro pins s σ H Q I hq
  refine wpAny_Tuple_spliced (thn (h.run pos pins s σ H _ I hq) fun us s1 ⟨xs, H1, I1, r, z, q⟩ => ⟨by rw [← r.length]; exact z, ?_⟩)
  exact newT_at I1 z r q
/-- t + u -/
def rCatF (K : PySem.W.Frag) : R2 := fun x y H Q => ∃ a b xs ys, x = .ref a ∧ y = .ref b ∧ SqT K H a xs ∧ SqT K H b ys ∧ xs.length + ys.length ≤ sizeLine ∧
  (xs = [] → Q (.ref b) H) ∧ (xs ≠ [] → ys = [] → Q (.ref a) H) ∧ (xs ≠ [] → ys ≠ [] → NewT H (xs ++ ys) Q)
theorem op_catF : OpR X (binaryOp .Add) (rCatF X.K) := by
  intro pins s σ H x y v u Q I rx ry h
  obtain ⟨a, b, xs, ys, rfl, rfl, ha, hb, hz, q0, q1, q2⟩ := h
  cases rx
  cases ry
  obtain ⟨i1, r1, p1, _⟩ := I.tuple ha
  obtain ⟨i2, r2, p2, _⟩ := I.tuple hb
  by_cases hx : xs = []
  · subst hx
    cases r1
    exact cat_tup0 p1 p2 ⟨.ref b, H, I, rfl, q0 rfl⟩
  · refine HT.cat_tup p1 p2 (fun z => hx (r1.nil_iff.mp z)) (fun z => ⟨.ref a, H, I, rfl, q1 hx (r2.nil_iff.mp z)⟩) (fun z => ?_) (by rw [← r1.length, ← r2.length]; exact hz)
    exact newT_at (its := i1 ++ i2) I (by rw [List.length_append]; exact hz) (r1.append r2) (q2 hx fun w => z (r2.nil_iff.mpr w))
/-- t[lo:hi] -/
def rSlF (K : PySem.W.Frag) : V → Option Int → Option Int → Hp → VK → Prop := fun x lo hi H Q => ∃ a xs, x = .ref a ∧ SqT K H a xs ∧
  (HT.sIx xs.length 0 lo = 0 ∧ HT.sIx xs.length xs.length hi = xs.length → Q (.ref a) H) ∧ (¬ (HT.sIx xs.length 0 lo = 0 ∧ HT.sIx xs.length xs.length hi = xs.length) → NewT H (cutV xs lo hi) Q)
theorem sl_tupF : SlR X (rSlF X.K) := by
  intro pins s σ H x v vl vu lo hi sl Q I rx hs pl pu h
  obtain ⟨a, xs, rfl, hx, q1, q2⟩ := h
  cases rx
  obtain ⟨i1, r, ht, hz⟩ := I.tuple hx
  have hlen : i1.toArray.size = xs.length := by rw [List.size_toArray]; exact r.length.symm
  refine ⟨"tuple", _, PyProof.Rows.slot_tuple_getitem.lookup, ht.typeIs, ?_⟩
  by_cases hw : HT.sIx xs.length 0 lo = 0 ∧ HT.sIx xs.length xs.length hi = xs.length
  · exact getItem_tuple_whole ht hs pl pu (by rw [hlen]; exact hw) ⟨.ref a, H, I, rfl, q1 hw⟩
  · refine HT.getItem_tuple_cut ht hs pl pu (by rw [hlen]; exact hw) ?_ (by rw [hlen]; exact hz)
    rw [hlen]
    exact newT_at I (Nat.le_trans (cutV_length xs lo hi) hz) ((r.drop (HT.sIx xs.length 0 lo)).take (HT.sIx xs.length xs.length hi - HT.sIx xs.length 0 lo)) (q2 hw)
/-- tuple(a list), tuple(a tuple) -/
abbrev rTupF (K : PySem.W.Frag) : List V → Hp → VK → Prop := fun xs H Q => ∃ p ys, xs = [.ref p] ∧ ((SqL K H p ys ∧ NewT H ys Q) ∨ (SqT K H p ys ∧ Q (.ref p) H))
theorem call_tupF : CallR X (.type "tuple") (rTupF X.K) := by
  intro pins s σ H xs us Q I r h
  obtain ⟨p, ys, rfl, h⟩ := h
  obtain ⟨u, rfl, rx⟩ := vals1 r
  cases rx
  rcases h with ⟨hq, q⟩ | ⟨hq, q⟩
  · obtain ⟨i1, r', pl, hz⟩ := I.list hq
    have hlen := r'.length
    refine call_tuple_list pl.isList (fun h' kp => ?_) (by simp only [List.size_toArray] <;> omega)
    have I1 : Inv X pins σ H { s with heap := h' } := I.kept (t' := s.toks) kp
    exact newT_at I1 hz r' q
  · obtain ⟨i1, r', pl, hz⟩ := I.tuple hq
    exact call_tuple_same pl ⟨.ref p, H, I, rfl, q⟩
end
open Evl in
/-- a new tuple of data -/
theorem newT {H : Hp} {xs : List V} {us : List U} {Q : VK} (q : ∀ p H', H p = none → Ex H H' → Tu H' p xs us → Q (.ref p) H') : NewT H xs Q := fun p hp => by
  cases c : isB us with
  | false => exact .inl (q p _ hp (Ex.new hp) (Tu.of upd_same c))
  | true =>
    refine .inr fun o ho => q p _ hp (Ex.new hp) ?_
    unfold Tu
    rw [if_pos c]
    exact ⟨o, ho, upd_same⟩
open Evl in
theorem newT_data {w C : Addr} {H : Hp} {xs : List V} {us : List U} {Q : VK} (hw : ∃ o, H w = some o) (l : AtL w C H xs us) (q : ∀ v H', Ex H H' → At w C H' v (.tup us) → Q v H') : NewT H xs Q :=
  newT (us := us) fun p H' hp e t => q _ H' e (.tup t (fun z => by
    obtain ⟨o, ho⟩ := hw
    rw [← z, hp] at ho
    cases ho) (l.keep fun b o _ h => e b o h))
end Hu
namespace Hs
open PySem PySem.Spec PyProof.Rows L2 Hu Evl
/-- the places of a table's parts -/
structure Ct (mg : Str → Option Value) : Prop where
  p0 : ∃ t, mg "EPOCH" = some (.int 0 t)
  p1 : ∃ t, mg "MEMBERS" = some (.int 1 t)
  p2 : ∃ t, mg "AHEAD" = some (.int 2 t)
  p3 : ∃ t, mg "CLOCK" = some (.int 3 t)
  p4 : ∃ t, mg "HEADS" = some (.int 4 t)
  p5 : ∃ t, mg "BLOCKS" = some (.int 5 t)
  p6 : ∃ t, mg "LEASES" = some (.int 6 t)
  p7 : ∃ t, mg "PROMISE" = some (.int 7 t)
  p8 : ∃ t, mg "VOTED" = some (.int 8 t)
  p9 : ∃ t, mg "NEXT" = some (.int 9 t)
  many : ∃ t, mg "MANY_PARTS" = some (.int 10 t)
  ticks : ∃ t, mg "LEASE_TICKS" = some (.int 8 t)
abbrev isM1 (u : U) : Bool := isI (-1) u
structure OkT (u : U) : Prop where
  s : Sm u
def keptU (u : U) : U := .tup [nth u 1, nth u 2, nth u 4, nth u 5]
def gTable (u : U) : Bool := gTO 10 u && ((gCnt (nth u 3) && gLeases (nth u 6)) && ((gStamp (nth u 7) && gVote (nth u 8)) && ((isNon (nth u 9) || gMembers (nth u 9)) &&
  (if isM1 (nth u 0) = true then nilU (nth u 1) && (nilU (nth u 2) && (nilU (nth u 4) && nilU (nth u 5))) else gCnt (nth u 0) && gKept (keptU u)))))
theorem Sm.nth {u : U} (h : Sm u) (k : Nat) : Sm (nth u k) := by
  cases u with
  | tup us =>
    show wt (us.getD k .non) ≤ 160000
    rw [List.getD_eq_getElem?_getD]
    cases e : us[k]? with
    | none => simp [wt]
    | some x =>
      have h1 := wt_mem (List.mem_of_getElem? e)
      have h2 : wt (.tup us) ≤ 160000 := h
      simp only [wt] at h2
      show wt x ≤ 160000
      omega
  | _ => show wt U.non ≤ 160000; simp [wt]
section
variable {P : Program} {wd : World} {K : PySem.W.Frag} {mg : Str → Option Value} {base : Heap} {C : Addr}
theorem pe_gi {X : Cx} {x : Str} {i : Int} {p : Pos} (hg : Gl X x) (h : ∃ t, X.mg x = some (.int i t)) (hd : (x == ("__debug__" : Str)) = false := by decide) : PE X (.Name x p) (tC (.int i)) := by
  obtain ⟨t, h⟩ := h
  exact pe_glob (v := .int i) hg h ⟨_, rfl⟩ hd
theorem rv_m1 {w : Addr} {H : Hp} {v : V} {u : U} (q : Eqx K C) (h : At w C H v u) : RV (rEqI K) v (.int (-1)) H (.bl (isM1 u)) := rv_eqI (ni_at (-1) q h)
theorem four_nils {σ : L2.St} {H G : Hp} (eg : Ex H G) {Q : VK} (q : ∀ (p c1 c2 c3 c4 : Addr) G', Ex G G' → G' p = some (.tup ([c1, c2, c3, c4].map V.ref)) → (∀ c ∈ [c1, c2, c3, c4], G' c = some (.tup [])) → Q (.ref p) G') :
    tTup (tCons (tTup tNil) (tCons (tTup tNil) (tCons (tTup tNil) (tCons (tTup tNil) tNil)))) σ G Q := by
  have nil : ∀ G : Hp, EvU (tTup tNil) σ G [] := fun G => eu_tup ea_nil (by decide)
  have step : ∀ (r : TA) (G : Hp) (Q : List V → Hp → Prop), (∀ c G1, Ex G G1 → G1 c = some (.tup []) → r σ G1 (fun vs H2 => Q (.ref c :: vs) H2)) → tCons (tTup tNil) r σ G Q := fun r G Q h => nil G G (Ex.refl G) _ fun c G1 _ e k => h c G1 e k
  refine step _ G _ fun c1 G1 e1 k1 => ?_
  refine step _ G1 _ fun c2 G2 e2 k2 => ?_
  refine step _ G2 _ fun c3 G3 e3 k3 => ?_
  refine step _ G3 _ fun c4 G4 e4 k4 => ?_
  refine ⟨sz_of (by show (4 : Nat) ≤ 100000; decide), fun p hp => ?_⟩
  have n := Ex.new (o := HO.tup [.ref c1, .ref c2, .ref c3, .ref c4]) hp
  refine q p c1 c2 c3 c4 _ ((((e1.trans e2).trans e3).trans e4).trans n) upd_same fun c hc => ?_
  rcases List.mem_cons.mp hc with rfl | hc
  · exact n _ _ (e4 _ _ (e3 _ _ (e2 _ _ k1)))
  rcases List.mem_cons.mp hc with rfl | hc
  · exact n _ _ (e4 _ _ (e3 _ _ k2))
  rcases List.mem_cons.mp hc with rfl | hc
  · exact n _ _ (e4 _ _ k3)
  rcases List.mem_cons.mp hc with rfl | hc
  · exact n _ _ k4
  · cases hc
theorem q_asgF {σ : L2.St} {H : Hp} {ta : TA} {tz : TS} {D : Ends} {i : Nat} {xs : List V} {us : List U} (h : EvA ta σ H xs) (hz : xs.length ≤ 100000) (k : ∀ p H1, H p = none → Ex H H1 → Tu H1 p xs us → tz D (σ.set i (some (.ref p))) H1) : tSeq (tAsg (tTupF ta) (gName i)) tz D σ H :=
  h H (Ex.refl H) _ fun H1 e1 => ⟨sz_of hz, newT (us := us) fun p H2 hp e2 t => k p H2 (by
    cases q : H p with
    | none => rfl
    | some o => rw [e1 _ _ q] at hp; cases hp) (e1.trans e2) t⟩
theorem scTable : FnScope ["thing", "kept"] ["thing"] (defScope sTable) := ⟨rfl, rfl, rfl, by decide +kernel, rfl, by decide +kernel, by decide +kernel⟩
theorem jw_table {f f1 f2 f3 f4 f5 f6 f7 : Addr} {fd d1 d2 d3 d4 d5 d6 d7 : FuncData} (D : Df K mg "is_table" sTable ["thing"] f fd) (S : Bs K mg C) (N : Ct mg) (JT : JTO P wd K mg base C f1 d1) (JC : Jd P wd K mg base C 2 "is_count" "thing" f2 d2 gCnt)
    (JL : Jw P wd K mg base C 6 "_are_leases" "thing" f3 d3 Sm gLeases) (JS : Jd P wd K mg base C 3 "is_stamp" "thing" f4 d4 gStamp) (JV : Jd P wd K mg base C 5 "is_vote" "thing" f5 d5 gVote) (JM : Jd P wd K mg base C 4 "is_members" "thing" f6 d6 gMembers)
    (JK : Jw P wd K mg base C 7 "_are_kept" "parts" f7 d7 OkK gKept) : Jw P wd K mg base C 8 "is_table" "thing" f fd OkT gTable := by
  refine ⟨D.F.ok scTable lenJw (fun cdv A outer s H vs Q E hr h => ?_), D.g, D.F.kp, D.b⟩
  obtain ⟨v, u, w, rfl, hat, fi, hs, hw, k⟩ := h
  refine ⟨_, pss_cons (ps_if (pt_not (pt_val (pe_call JT.ok (hr.mono (by decide)) (by rfl) JT.D.g JT.D.F.kp JT.D.b .nil pass0 (pa_cons (pe_gi (by rfl) N.many) (pa_cons (pv 0) pa_nil))))) (pss_one (ps_ret pe_bl)) pss_nil)
    (pss_cons (ps_if (PW.pt (pw_or (pt_not (pt_val (pe_J JC hr (by decide) (by rfl) pass0 (pe_ix ix_tup (pv 0) (pe_gi (by rfl) N.p3) (fun _ _ => rfl))))) (pw_or1 (pt_not (pt_val (pe_Jw JL hr (by decide) (by rfl) pass0 (pe_ix ix_tup (pv 0) (pe_gi (by rfl) N.p6) (fun _ _ => rfl)))))))) (pss_one (ps_ret pe_bl)) pss_nil)
    (pss_cons (ps_if (PW.pt (pw_or (pt_not (pt_val (pe_J JS hr (by decide) (by rfl) pass0 (pe_ix ix_tup (pv 0) (pe_gi (by rfl) N.p7) (fun _ _ => rfl))))) (pw_or1 (pt_not (pt_val (pe_J JV hr (by decide) (by rfl) pass0 (pe_ix ix_tup (pv 0) (pe_gi (by rfl) N.p8) (fun _ _ => rfl)))))))) (pss_one (ps_ret pe_bl)) pss_nil)
    (pss_cons (ps_if (PW.pt (pw_and (pt_cmpR op_notN1 (pe_ix ix_tup (pv 0) (pe_gi (by rfl) N.p9) (fun _ _ => rfl)) pe_non (nomark _)) (pw_and1 (pt_not (pt_val (pe_J JM hr (by decide) (by rfl) pass0 (pe_ix ix_tup (pv 0) (pe_gi (by rfl) N.p9) (fun _ _ => rfl)))))))) (pss_one (ps_ret pe_bl)) pss_nil)
    (pss_cons (ps_set (i := 1) scTable.nd rfl (.inl rfl) (pe_tupF (pa_cons (pe_ix ix_tup (pv 0) (pe_gi (by rfl) N.p1) (fun _ _ => rfl)) (pa_cons (pe_ix ix_tup (pv 0) (pe_gi (by rfl) N.p2) (fun _ _ => rfl)) (pa_cons (pe_ix ix_tup (pv 0) (pe_gi (by rfl) N.p4) (fun _ _ => rfl)) (pa_cons (pe_ix ix_tup (pv 0) (pe_gi (by rfl) N.p5) (fun _ _ => rfl)) pa_nil))))))
    (pss_cons (ps_if (pt_cmpR (op_eqI (room_hu hr)) (pe_ix ix_tup (pv 0) (pe_gi (by rfl) N.p0) (fun _ _ => rfl)) (pe_un un_neg pe_int) (nomark _)) (pss_one (ps_ret (pe_cmpR (op_eqNs (room_hu hr)) (pv 1) (pe_tup (pa_cons (pe_tup pa_nil) (pa_cons (pe_tup pa_nil) (pa_cons (pe_tup pa_nil) (pa_cons (pe_tup pa_nil) pa_nil))))) (nomark _)))) pss_nil)
    (pss_one (ps_ret (pe_and (pe_J JC hr (by decide) (by rfl) pass0 (pe_ix ix_tup (pv 0) (pe_gi (by rfl) N.p0) (fun _ _ => rfl))) (pe_one (pe_Jw JK hr (by decide) (by rfl) pass0 (pv 1))))))))))), ?_⟩
  refine q_when (b := !gTO 10 u) (et_not (et_B (ev_TO (m := 10) ev_c (ev_var rfl) hat))) (fun q H1 e => ?_) (fun q H1 e => ?_)
  · refine s_ret ev_c fun H2 e2 => ?_
    have e4 : gTable u = false := by
      unfold gTable
      rw [Bool.not_eq_true'] at q
      rw [q]
      rfl
    rw [← e4]
    exact k H2 (e.trans e2)
  rw [Bool.not_eq_false'] at q
  have nt : ∀ (G : Hp), Ex H G → ∀ (τ : L2.St) (i : Nat), τ[0]? = some (some v) → i < 10 → ∃ x, Ev (tOp (rIxT K) (tVar 0) (tC (.int (i : Int)))) τ G x ∧ At w C G x (nth u i) := fun G eg τ i hi hk => ev_nth (ev_var hi) (ex_at eg hat) q hk
  have fn : ∀ i, i < 10 → Fine (nth u i) := fun i hi => fine_nth q hi fi
  have g0 : gTable u = ((gCnt (nth u 3) && gLeases (nth u 6)) && ((gStamp (nth u 7) && gVote (nth u 8)) && ((isNon (nth u 9) || gMembers (nth u 9)) &&
    (if isM1 (nth u 0) = true then nilU (nth u 1) && (nilU (nth u 2) && (nilU (nth u 4) && nilU (nth u 5))) else gCnt (nth u 0) && gKept (keptU u))))) := by
    unfold gTable
    rw [q, Bool.true_and]
  obtain ⟨x3, e3, h3⟩ := nt H1 e [some v, none] 3 rfl (by decide)
  obtain ⟨x6, e6, h6⟩ := nt H1 e [some v, none] 6 rfl (by decide)
  refine q_when (b := !gCnt (nth u 3) || !gLeases (nth u 6)) (et_or (et_not (et_B (ev_J e3 h3 (fn 3 (by decide))))) fun _ => et_not (et_B (ev_Jw e6 h6 (fn 6 (by decide)) (hs.s.nth 6) (hw.imp fun o z => e _ _ z)))) (fun q2 H2 e2 => ?_) (fun q2 H2 e2 => ?_)
  · refine s_ret ev_c fun H3 e3 => ?_
    have e4 : gTable u = false := by
      rw [g0]
      revert q2
      cases gCnt (nth u 3) <;> cases gLeases (nth u 6) <;> simp
    rw [← e4]
    exact k H3 ((e.trans e2).trans e3)
  have q2' : (gCnt (nth u 3) && gLeases (nth u 6)) = true := by
    revert q2
    cases gCnt (nth u 3) <;> cases gLeases (nth u 6) <;> simp
  rw [q2', Bool.true_and] at g0
  have e12 := e.trans e2
  obtain ⟨x7, e7, h7⟩ := nt H2 e12 [some v, none] 7 rfl (by decide)
  obtain ⟨x8, e8, h8⟩ := nt H2 e12 [some v, none] 8 rfl (by decide)
  refine q_when (b := !gStamp (nth u 7) || !gVote (nth u 8)) (et_or (et_not (et_B (ev_J e7 h7 (fn 7 (by decide))))) fun _ => et_not (et_B (ev_J e8 h8 (fn 8 (by decide))))) (fun q3 H3 e3 => ?_) (fun q3 H3 e3 => ?_)
  · refine s_ret ev_c fun H4 e4 => ?_
    have e4' : gTable u = false := by
      rw [g0]
      revert q3
      cases gStamp (nth u 7) <;> cases gVote (nth u 8) <;> simp
    rw [← e4']
    exact k H4 ((e12.trans e3).trans e4)
  have q3' : (gStamp (nth u 7) && gVote (nth u 8)) = true := by
    revert q3
    cases gStamp (nth u 7) <;> cases gVote (nth u 8) <;> simp
  rw [q3', Bool.true_and] at g0
  have e13 := e12.trans e3
  obtain ⟨x9, e9, h9⟩ := nt H3 e13 [some v, none] 9 rfl (by decide)
  refine q_when (b := !isNon (nth u 9) && !gMembers (nth u 9)) (et_and (et_test (ev_is (ev_op e9 ev_c fun G eg Q q => ⟨rfl, q G (Ex.refl G)⟩) (by rw [at_non h9]))) fun _ => et_not (et_B (ev_J e9 h9 (fn 9 (by decide))))) (fun q4 H4 e4 => ?_) (fun q4 H4 e4 => ?_)
  · refine s_ret ev_c fun H5 e5 => ?_
    have e4' : gTable u = false := by
      rw [g0]
      revert q4
      cases isNon (nth u 9) <;> cases gMembers (nth u 9) <;> simp
    rw [← e4']
    exact k H5 ((e13.trans e4).trans e5)
  have q4' : (isNon (nth u 9) || gMembers (nth u 9)) = true := by
    revert q4
    cases isNon (nth u 9) <;> cases gMembers (nth u 9) <;> simp
  rw [q4', Bool.true_and] at g0
  have e14 := e13.trans e4
  obtain ⟨x1, e1', h1⟩ := nt H4 e14 [some v, none] 1 rfl (by decide)
  obtain ⟨x2, e2', h2⟩ := nt H4 e14 [some v, none] 2 rfl (by decide)
  obtain ⟨x4, e4', h4⟩ := nt H4 e14 [some v, none] 4 rfl (by decide)
  obtain ⟨x5, e5', h5⟩ := nt H4 e14 [some v, none] 5 rfl (by decide)
  refine q_asgF (us := [nth u 1, nth u 2, nth u 4, nth u 5]) (ea_cons e1' (ea_cons e2' (ea_cons e4' (ea_cons e5' ea_nil)))) (by show (4 : Nat) ≤ 100000; decide) fun pk H5 hpk e5 hk => ?_
  have e15 := e14.trans e5
  obtain ⟨x0, e0', h0⟩ := nt H5 e15 [some v, some (.ref pk)] 0 rfl (by decide)
  have a1 := ex_at e5 h1
  have a2 := ex_at e5 h2
  have a4 := ex_at e5 h4
  have a5 := ex_at e5 h5
  refine q_when (b := isM1 (nth u 0)) (et_test (ev_op e0' (ev_un ev_c ru_neg) (rv_m1 S.q h0))) (fun q5 H6 e6 => ?_) (fun q5 H6 e6 => ?_)
  · refine s_ret (v := .bl (nilU (nth u 1) && (nilU (nth u 2) && (nilU (nth u 4) && nilU (nth u 5))))) (fun G eg Q q => ⟨_, rfl, four_nils (Ex.refl G) fun p c1 c2 c3 c4 G' e7 hp hc => ?_⟩) fun H7 e7 => ?_
    · have ee := (e6.trans eg).trans e7
      refine ⟨pk, p, _, [c1, c2, c3, c4], [nilU (nth u 1), nilU (nth u 2), nilU (nth u 4), nilU (nth u 5)], rfl, rfl, Tu.st (Tu.ex ee hk), st_of hp, fun c hc' => st_of (hc c hc'), rfl,
        .cons (nc_at S.q (ex_at ee a1)) (.cons (nc_at S.q (ex_at ee a2)) (.cons (nc_at S.q (ex_at ee a4)) (.cons (nc_at S.q (ex_at ee a5)) .nil))), ?_⟩
      have ea : [nilU (nth u 1), nilU (nth u 2), nilU (nth u 4), nilU (nth u 5)].all id = (nilU (nth u 1) && (nilU (nth u 2) && (nilU (nth u 4) && nilU (nth u 5)))) := by
        simp
      rw [ea]
      exact q G' e7
    · have e4' : gTable u = (nilU (nth u 1) && (nilU (nth u 2) && (nilU (nth u 4) && nilU (nth u 5)))) := by rw [g0, if_pos q5]
      rw [← e4']
      exact k H7 ((e15.trans e6).trans e7)
  · have fk : Fine (keptU u) := by
      obtain ⟨us, rfl, hl⟩ := gTO_of q
      refine ⟨?_, ?_⟩
      · have w1 : wt (nth (.tup us) 1) ≤ 160000 := hs.s.nth 1
        have w2 : wt (nth (.tup us) 2) ≤ 160000 := hs.s.nth 2
        have w4 : wt (nth (.tup us) 4) ≤ 160000 := hs.s.nth 4
        have w5 : wt (nth (.tup us) 5) ≤ 160000 := hs.s.nth 5
        unfold keptU
        simp only [wt, wtL]
        omega
      · unfold keptU
        simp only [clean, cleanL]
        exact ⟨(fn 1 (by decide)).c, (fn 2 (by decide)).c, (fn 4 (by decide)).c, (fn 5 (by decide)).c, trivial⟩
    have hkw : pk ≠ w := fun z => by
      obtain ⟨o, ho⟩ := hw
      have := e14 _ _ ho
      rw [← z, hpk] at this
      cases this
    have ak : At w C H6 (.ref pk) (keptU u) := .tup (Tu.ex e6 hk) hkw (.cons (ex_at e6 a1) (.cons (ex_at e6 a2) (.cons (ex_at e6 a4) (.cons (ex_at e6 a5) .nil))))
    have a0 := ex_at e6 h0
    dsimp only [tNext]
    refine s_ret (ev_andV (ev_J (e0'.mono e6) a0 (fn 0 (by decide))) fun _ => ev_Jw (ev_var rfl) ak fk ⟨rfl, trivial, hs.s.nth 4, hs.s.nth 5⟩ (hw.imp fun o z => (e15.trans e6) _ _ z)) fun H7 e7 => ?_
    have e4' : gTable u = (gCnt (nth u 0) && gKept (keptU u)) := by rw [g0, if_neg (by rw [q5]; decide)]
    rw [← e4']
    exact k H7 ((e15.trans e6).trans e7)
end
end Hs
/-! leases: rows of holder, talk, until; what each deed does to them -/
namespace Hs
open PySem PySem.Spec PyProof.Rows L2 Hu Evl
open Hk (SI ltSI)
abbrev Ls : Type := SI × (Int × Int)
def getL : List Ls → SI → Option (Int × Int)
  | [], _ => none
  | l :: r, k => if l.1 = k then some l.2 else getL r k
def putL : List Ls → SI → Int × Int → List Ls
  | [], k, v => [(k, v)]
  | l :: r, k, v => if l.1 = k then (k, v) :: r else l :: putL r k v
def dropL (L : List Ls) (k : SI) : List Ls := L.filter fun l => decide (l.1 ≠ k)
def ndK (L : List Ls) : Prop := (L.map (·.1)).Nodup
def srt (L : List Ls) : Prop := (L.map (·.1)).Pairwise fun a b => ltSI a b = true
theorem getL_cons (l : Ls) (r : List Ls) (k : SI) : getL (l :: r) k = if l.1 = k then some l.2 else getL r k := rfl
theorem put_new {L : List Ls} {k : SI} {v : Int × Int} (h : getL L k = none) : putL L k v = L ++ [(k, v)] := by
  induction L with
  | nil => rfl
  | cons l r ih =>
    unfold getL at h
    by_cases q : l.1 = k
    · rw [if_pos q] at h
      cases h
    · rw [if_neg q] at h
      unfold putL
      rw [if_neg q, ih h]
      rfl
/-! ### deeds -/
inductive Deed where
  | lease (k : SI) (t : Int)
  | free (k : SI) (t : Int)
  | tick
  | rise
def Deed.isTick : Deed → Bool
  | .tick => true
  | _ => false
/-- what stands at a holder behind a deed; c the clock behind it -/
def fD (D : Deed) (c : Int) (k : SI) (o : Option (Int × Int)) : Option (Int × Int) := match D with
  | .lease j t => if k = j then some (match o with | some v => max t v.1 | none => t, c + 8) else o
  | .free j t => if k = j then o.filter fun v => decide (t ≤ v.1) else o
  | .tick => o.filter fun v => decide (c < v.2)
  | .rise => o.map fun v => (v.1, c + 8)
end Hs
/-! values made anew, known by their data -/
namespace Hu
open PySem
mutual
/-- nothing, integers, texts, tuples of such -/
def pln : U → Prop
  | .tup us => plnL us
  | .lst _ | .dct _ | .exc | .bl _ => False
  | _ => True
def plnL : List U → Prop
  | [] => True
  | u :: us => pln u ∧ plnL us
end
theorem plnL_all {us : List U} : plnL us ↔ ∀ u ∈ us, pln u := by
  induction us with
  | nil => simp [plnL]
  | cons u us ih => simp [plnL, ih]
end Hu
namespace Hs
open PySem PySem.Spec PyProof.Rows L2 Hu Evl
section
variable {w C : Addr} {H H' : Hp}
/-- a tuple, open or locked -/
def TQ (o : HO) : Prop := ∃ zs, o = .tup zs ∨ ∃ b, o = .frz b (.tup zs)
theorem tq_upd {l : Addr} {xs : List V} {x : HO} (hl : H l = some (.lst xs)) : ∀ b o, b ≠ w → TQ o → H b = some o → upd H l x b = some o := fun b o _ q e => by
  rw [upd_ne (fun z => by
    rw [z, hl] at e
    cases e
    obtain ⟨zs, q | ⟨c, q⟩⟩ := q <;> cases q)]
  exact e
theorem tu_tups {a : Addr} {xs : List V} {us : List U} (k : ∀ b o, b ≠ w → TQ o → H b = some o → H' b = some o) (n : a ≠ w) (h : Tu H a xs us) : Tu H' a xs us := by
  cases c : isB us with
  | false => exact Tu.of (k _ _ n ⟨xs, .inl rfl⟩ (h.plain c)) c
  | true =>
    obtain ⟨o, d, e⟩ := h.lock c
    unfold Tu
    rw [if_pos c]
    exact ⟨o, d, k _ _ n ⟨xs, .inr ⟨o, rfl⟩⟩ e⟩
mutual
theorem at_tups (k : ∀ b o, b ≠ w → TQ o → H b = some o → H' b = some o) : ∀ {u : U} {v : V}, pln u → At w C H v u → At w C H' v u
  | _, _, _, .non => .non
  | .bl _, _, p, _ => p.elim
  | _, _, _, .int i => .int i
  | _, _, _, .str z => .str z
  | _, _, p, .tup h n l => .tup (tu_tups k n h) n (atl_tups k p l)
  | _, _, p, .lst _ _ _ => p.elim
  | _, _, p, .dct _ _ _ _ _ => p.elim
  | _, _, p, .exc _ _ _ _ => p.elim
theorem atl_tups (k : ∀ b o, b ≠ w → TQ o → H b = some o → H' b = some o) : ∀ {us : List U} {vs : List V}, plnL us → AtL w C H vs us → AtL w C H' vs us
  | _, _, _, .nil => .nil
  | _, _, p, .cons x l => .cons (at_tups k p.1 x) (atl_tups k p.2 l)
end
/-- evaluates to a value of this data -/
def EvD (w C : Addr) (te : TE) (σ : L2.St) (H : Hp) (u : U) : Prop := ∀ H1, Ex H H1 → ∀ Q : VK, (∀ v H2, Ex H1 H2 → At w C H2 v u → Q v H2) → te σ H1 Q
def EvDs (w C : Addr) (ta : TA) (σ : L2.St) (H : Hp) (us : List U) : Prop := ∀ H1, Ex H H1 → ∀ Q : List V → Hp → Prop, (∀ vs H2, Ex H1 H2 → AtL w C H2 vs us → Q vs H2) → ta σ H1 Q
/-- to a new list of this data -/
def EvLD (w C : Addr) (te : TE) (σ : L2.St) (H : Hp) (us : List U) : Prop := ∀ H1, Ex H H1 → ∀ Q : VK, (∀ p ys H2, H1 p = none → Ex H1 H2 → H2 p = some (.lst ys) → AtL w C H2 ys us → Q (.ref p) H2) → te σ H1 Q
theorem EvD.mono {te : TE} {σ : L2.St} {u : U} (e : Ex H H') (h : EvD w C te σ H u) : EvD w C te σ H' u := fun H1 e1 Q q => h H1 (e.trans e1) Q q
theorem EvLD.mono {te : TE} {σ : L2.St} {us : List U} (e : Ex H H') (h : EvLD w C te σ H us) : EvLD w C te σ H' us := fun H1 e1 Q q => h H1 (e.trans e1) Q q
section
variable {K : PySem.W.Frag} {σ : L2.St} {te tb tl : TE} {t : TT} {ta tr : TA} {v : V} {u : U} {us us1 us2 : List U} {xs : List V}
theorem ed_ev (h : Ev te σ H v) (hat : At w C H v u) : EvD w C te σ H u := fun H1 e Q q => h H1 e _ fun H2 e2 => q v H2 e2 (ex_at (e.trans e2) hat)
theorem eds_nil : EvDs w C tNil σ H [] := fun H1 e Q q => q [] H1 (Ex.refl H1) .nil
theorem eds_cons (h : EvD w C te σ H u) (hr : EvDs w C tr σ H us) : EvDs w C (tCons te tr) σ H (u :: us) := fun H1 e Q q =>
  h H1 e _ fun v H2 e2 a => hr H2 (e.trans e2) _ fun vs H3 e3 l => q (v :: vs) H3 (e2.trans e3) (.cons (ex_at e3 a) l)
theorem ed_tup (hw : ∃ o, H w = some o) (h : EvDs w C ta σ H us) (hz : us.length ≤ 100000) : EvD w C (tTupF ta) σ H (.tup us) := fun H1 e Q q =>
  h H1 e _ fun vs H2 e2 l => ⟨sz_of (by rw [AtL.length l]; exact hz), newT_data (hw.imp fun o z => (e.trans e2) _ _ z) l fun v H3 e3 a => q v H3 (e2.trans e3) a⟩
def cutU (us : List U) (lo hi : Option Int) : List U := (us.drop (HT.sIx us.length 0 lo)).take (HT.sIx us.length us.length hi - HT.sIx us.length 0 lo)
theorem atl_cut {lo hi : Option Int} (l : AtL w C H xs us) : AtL w C H (cutV xs lo hi) (cutU us lo hi) := by
  unfold cutV cutU
  rw [AtL.length l]
  exact AtL.take _ (AtL.drop _ l)
theorem ed_slice {a : Addr} {tl th : TO} {lo hi : Option Int} (hw : ∃ o, H w = some o) (h : Ev te σ H (.ref a)) (hx : Tu H a xs us) (na : a ≠ w) (l : AtL w C H xs us) (h1 : EvO tl σ H lo) (h2 : EvO th σ H hi) : EvD w C (tSl (rSlF K) te tl th) σ H (.tup (cutU us lo hi)) := fun H1 e Q q =>
  h H1 e _ fun H2 e2 => h1 H2 (e.trans e2) _ fun H3 e3 => h2 H3 ((e.trans e2).trans e3) _ fun H4 e4 => by
    have e5 := ((e.trans e2).trans e3).trans e4
    refine ⟨a, xs, rfl, Tu.st (Tu.ex e5 hx), fun hh => ?_, fun _ => newT_data (hw.imp fun o z => e5 _ _ z) (atl_cut (ex_atl e5 l)) fun v H5 e6 a => q v H5 (((e2.trans e3).trans e4).trans e6) a⟩
    have eu : cutU us lo hi = us := by
      unfold cutU
      rw [← AtL.length l, hh.1, hh.2, AtL.length l, List.drop_zero, Nat.sub_zero, List.take_length]
    exact q _ H4 ((e2.trans e3).trans e4) (by rw [eu]; exact .tup (Tu.ex e5 hx) na (ex_atl e5 l))
theorem ed_cat (hw : ∃ o, H w = some o) (h1 : EvD w C te σ H (.tup us1)) (h2 : EvD w C tb σ H (.tup us2)) (hz : us1.length + us2.length ≤ 100000) : EvD w C (tOp (rCatF K) te tb) σ H (.tup (us1 ++ us2)) := fun H1 e Q q =>
  h1 H1 e _ fun v1 H2 e2 a1 => h2 H2 (e.trans e2) _ fun v2 H3 e3 a2 => by
    obtain ⟨p1, x1, rfl, g1, n1, t1⟩ := at_tup (ex_at e3 a1)
    obtain ⟨p2, x2, rfl, g2, n2, t2⟩ := at_tup a2
    refine ⟨p1, p2, x1, x2, rfl, rfl, Tu.st g1, Tu.st g2, sz_of (by rw [AtL.length t1, AtL.length t2]; exact hz), fun z => ?_, fun _ z => ?_, fun _ _ => newT_data (hw.imp fun o z => ((e.trans e2).trans e3) _ _ z) (AtL.append t1 t2) fun v H5 e6 a => q v H5 ((e2.trans e3).trans e6) a⟩
    · subst z
      cases t1
      exact q _ H3 (e2.trans e3) a2
    · subst z
      cases t2
      rw [List.append_nil] at q
      exact q _ H3 (e2.trans e3) (ex_at e3 a1)
/-- tuple(a new list) -/
abbrev rTupO (K : PySem.W.Frag) : List V → Hp → VK → Prop := rTupF K
theorem ed_tupL (hw : ∃ o, H w = some o) (h : EvLD w C te σ H us) : EvD w C (tCB (rTupO K) (tCons te tNil)) σ H (.tup us) := fun H1 e Q q =>
  h H1 e _ fun p ys H2 hp e2 h2 l => ⟨p, ys, rfl, .inl ⟨sq_of h2, newT_data (hw.imp fun o z => (e.trans e2) _ _ z) l fun v H3 e3 a => q v H3 (e2.trans e3) a⟩⟩
theorem take_filter {us : List U} {i : Nat} {u : U} (g : U → Bool) (h : us[i]? = some u) : (us.take (i + 1)).filter g = (us.take i).filter g ++ if g u = true then [u] else [] := by
  rw [List.take_add_one, h, List.filter_append]
  congr 1
  by_cases q : g u = true
  · rw [if_pos q]
    show List.filter g [u] = _
    rw [List.filter_cons_of_pos q]
    rfl
  · rw [if_neg q]
    show List.filter g [u] = _
    rw [List.filter_cons_of_neg q]
    rfl
/-- [f(x) for x in a tuple if g(x)] -/
theorem lc_D {a : Addr} {j : Nat} {vs : List Nat} {g : U → Bool} {f : U → U} (h : Ev tl σ H (.ref a)) (hx : Tu H a xs us) (hl : AtL w C H xs us) (hz : us.length ≤ 40000) (hp : ∀ u ∈ us, pln (f u)) (hw : ∀ x, wipe ((wipe σ vs).set j (some x)) vs = wipe σ vs)
    (ht : ∀ (x : V) (u : U) G, u ∈ us → Ex H G → At w C G x u → EvT t ((wipe σ vs).set j (some x)) G (g u)) (he : ∀ (x : V) (u : U) G, u ∈ us → g u = true → Ex H G → At w C G x u → EvD w C te ((wipe σ vs).set j (some x)) G (f u)) :
    EvLD w C (tLc (iTup K tl) (gName j) t te vs) σ H ((us.filter g).map f) := fun H0 e Q q => h H0 e _ fun H1 e1 => ⟨a, rfl, ⟨xs, Tu.st (Tu.ex (e.trans e1) hx)⟩, fun Dl hD =>
  lc_tup (xs := xs) (fun i H' => Ex H1 H' ∧ ∃ ys, H' Dl = some (.lst ys) ∧ ys.length ≤ i ∧ AtL w C H' ys (((us.take i).filter g).map f)) ⟨Ex.new hD, [], upd_same, Nat.le_refl _, .nil⟩ (fun i H' _ p => Tu.st (Tu.ex ((e.trans e1).trans p.1) hx)) (fun i x H2 hi p => by
    obtain ⟨p1, ys, p2, p3, p4⟩ := p
    have hlen := AtL.length hl
    have hu : i < us.length := by
      have := (List.getElem?_eq_some_iff.mp hi).1
      omega
    obtain ⟨x', hx', hax⟩ := AtL.get hl (List.getElem?_eq_getElem hu)
    rw [hi] at hx'
    cases hx'
    have e2 := (e.trans e1).trans p1
    refine ⟨hw x, ht x us[i] H2 (List.getElem_mem hu) e2 (ex_at e2 hax) H2 (Ex.refl H2) _ fun H3 e3 => ?_⟩
    have eg := take_filter g (List.getElem?_eq_getElem hu)
    cases hg : g us[i] with
    | false =>
      rw [hg] at eg
      rw [if_neg Bool.false_ne_true, List.append_nil] at eg
      rw [if_neg Bool.false_ne_true]
      exact ⟨p1.trans e3, ys, e3 _ _ p2, by omega, by rw [eg]; exact ex_atl e3 p4⟩
    | true =>
      rw [hg, if_pos rfl] at eg
      rw [if_pos rfl]
      refine he x us[i] H3 (List.getElem_mem hu) hg (e2.trans e3) (ex_at (e2.trans e3) hax) H3 (Ex.refl H3) _ fun v H4 e4 a4 => ⟨ys, e4 _ _ (e3 _ _ p2), ?_, fun q o hq => ?_, ys ++ [v], upd_same, ?_, ?_⟩
      · have := bit_line
        unfold bit at this
        omega
      · rw [upd_ne (ne_of_none hq hD)]
        exact e4 _ _ (e3 _ _ (p1 _ _ hq))
      · rw [List.length_append]
        show ys.length + 1 ≤ i + 1
        omega
      · have nt := tq_upd (w := w) (x := .lst (ys ++ [v])) (e4 _ _ (e3 _ _ p2))
        rw [eg, List.map_append]
        refine AtL.append (atl_tups nt (plnL_all.mpr fun y hy => ?_) (ex_atl (e3.trans e4) p4)) (.cons (at_tups nt (hp _ (List.getElem_mem hu)) a4) .nil)
        obtain ⟨z, hz', rfl⟩ := List.mem_map.mp hy
        exact hp z (List.mem_of_mem_take (List.mem_filter.mp hz').1)) (fun H' p => by
    obtain ⟨p1, ys, p2, p3, p4⟩ := p
    rw [AtL.length hl, List.take_length] at p4
    exact q Dl ys H' (fresh_back e1 hD) (e1.trans p1) p2 p4)⟩
end
end
end Hs
namespace Hs
open PySem PySem.Spec PyProof.Rows L2 Hu Evl
open Hk (SI ltSI)
abbrev sChanged : Stmt := topS 63
abbrev sBehind : Stmt := topS 84
abbrev sLets : Stmt := topS 85
abbrev sDone : Stmt := topS 86
/-- a table, its clock and leases open -/
structure Tb where
  (e m a : U)
  clock : Int
  (h b : U)
  ls : List Ls
  (p v n : U)
def lsU (l : Ls) : U := .tup [.str l.1.1, .int l.1.2, .int l.2.1, .int l.2.2]
def tabU (T : Tb) : U := .tup [T.e, T.m, T.a, .int T.clock, T.h, T.b, .tup (T.ls.map lsU), T.p, T.v, T.n]
section
variable {P : Program} {wd : World} {K : PySem.W.Frag} {mg : Str → Option Value} {base : Heap} {C : Addr}
/-! ### changed -/
theorem scChanged : FnScope ["table", "at", "part"] ["table", "at", "part"] (defScope sChanged) := ⟨rfl, rfl, rfl, by decide +kernel, rfl, by decide +kernel, by decide +kernel⟩
def spCh (C : Addr) : Sp := fun vs H Q _ => ∃ (x y : V) (k : Nat) (us : List U) (u : U) (w : Addr), vs = [x, .int (k : Int), y] ∧ At w C H x (.tup us) ∧ At w C H y u ∧ (∃ o, H w = some o) ∧ k < us.length ∧ us.length ≤ 1000 ∧
  ∀ v H', Same H H' → At w C H' v (.tup (us.set k u)) → Q v H'
theorem set_cut (us : List U) (k : Nat) (u : U) (h : k < us.length) : cutU us none (some (k : Int)) ++ [u] ++ cutU us (some ((k : Int) + 1)) none = us.set k u := by
  have e1 : cutU us none (some (k : Int)) = us.take k := by
    unfold cutU
    have z1 : HT.sIx us.length 0 none = 0 := rfl
    have z2 : HT.sIx us.length us.length (some (k : Int)) = k := by
      simp only [HT.sIx]
      rw [if_neg (by omega)]
      omega
    rw [z1, z2]
    simp
  have e2 : cutU us (some ((k : Int) + 1)) none = us.drop (k + 1) := by
    unfold cutU
    have z1 : HT.sIx us.length 0 (some ((k : Int) + 1)) = k + 1 := by
      simp only [HT.sIx]
      rw [if_neg (by omega)]
      omega
    have z2 : HT.sIx us.length us.length none = us.length := rfl
    rw [z1, z2, List.take_of_length_le (by rw [List.length_drop]; omega)]
  rw [e1, e2, List.set_eq_take_append_cons_drop, if_pos h]
  simp
theorem ok_changed {f : Addr} {fd : FuncData} (D : Df K mg "changed" sChanged ["table", "at", "part"] f fd) : FnOk P wd K mg base CX0 1 f fd ["table", "at", "part"] (spCh C) := by
  refine D.F.ok scChanged (fun vs H Q E h => ?_) (fun cdv A outer s H vs Q E hr h => ?_)
  · obtain ⟨x, y, k, us, u, w, rfl, _⟩ := h
    rfl
  obtain ⟨x, y, j, us, u, w, rfl, hx, hy, hw, hj, hz, k⟩ := h
  refine ⟨_, pss_one (ps_ret (pe_op op_catF (pe_op op_catF (pe_slice sl_tupF (pv 0) po_none (po_some (pv 1))) (pe_tupF (pa_cons (pv 2) pa_nil))) (pe_slice sl_tupF (pv 0) (po_some (pe_op op_add (pv 1) pe_int)) po_none))), ?_⟩
  obtain ⟨a, xs, rfl, ha, na, hl⟩ := at_tup hx
  have main : EvD w C (tOp (rCatF K) (tOp (rCatF K) (tSl (rSlF K) (tVar 0) tNoPart (tPart (tVar 1))) (tTupF (tCons (tVar 2) tNil))) (tSl (rSlF K) (tVar 0) (tPart (tOp (rI0 fun i j => .int (i + j)) (tVar 1) (tC (.int 1)))) tNoPart)) [some (.ref a), some (.int (j : Int)), some y] H (.tup (us.set j u)) := by
    rw [← set_cut us j u hj]
    have l1 : (cutU us none (some (j : Int))).length ≤ 1000 := by
      unfold cutU
      rw [List.length_take, List.length_drop]
      omega
    have l2 : (cutU us (some ((j : Int) + 1)) none).length ≤ 1000 := by
      unfold cutU
      rw [List.length_take, List.length_drop]
      omega
    refine ed_cat hw (ed_cat hw (ed_slice hw (ev_var rfl) ha na hl eo_none (eo_some (ev_var rfl))) (ed_tup hw (eds_cons (ed_ev (ev_var rfl) hy) eds_nil) (by show (1 : Nat) ≤ 100000; decide)) ?_) (ed_slice hw (ev_var rfl) ha na hl (eo_some (ev_op (ev_var rfl) ev_c rv_I0)) eo_none) ?_
    · show _ + 1 ≤ 100000
      omega
    · rw [List.length_append]
      show _ + 1 + _ ≤ 100000
      omega
  exact main H (Ex.refl H) _ fun v H1 e a => k v H1 e a
/-! ### dicts of leases -/
inductive Dl (H : Hp) : List (List L2.Key × V) → List Ls → Prop
  | nil : Dl H [] []
  | cons {p : Addr} {l : Ls} {kvs : List (List L2.Key × V)} {L : List Ls} : H p = some (.tup [.int l.2.1, .int l.2.2]) → Dl H kvs L → Dl H ((Hk.keySI l.1, .ref p) :: kvs) (l :: L)
theorem Dl.tups {H H' : Hp} {kvs : List (List L2.Key × V)} {L : List Ls} (e : ∀ b zs, H b = some (.tup zs) → H' b = some (.tup zs)) (h : Dl H kvs L) : Dl H' kvs L := by
  induction h with
  | nil => exact .nil
  | cons h _ ih => exact .cons (e _ _ h) ih
theorem Dl.len {H : Hp} {kvs : List (List L2.Key × V)} {L : List Ls} (h : Dl H kvs L) : kvs.length = L.length := by
  induction h with
  | nil => rfl
  | cons _ _ ih => rw [List.length_cons, List.length_cons, ih]
theorem Dl.keys {H : Hp} {kvs : List (List L2.Key × V)} {L : List Ls} (h : Dl H kvs L) : kvs.map (·.1) = (L.map (·.1)).map Hk.keySI := by
  induction h with
  | nil => rfl
  | cons _ _ ih => rw [List.map_cons, List.map_cons, List.map_cons, ih]
theorem keySI_inj {a b : SI} (h : Hk.keySI a = Hk.keySI b) : a = b := by
  injection h with h1 h2
  injection h2 with h3 h4
  exact Prod.ext (Sum.inr.inj h1) (Sum.inl.inj h3)
theorem Dl.vnone {H : Hp} {kvs : List (List L2.Key × V)} {L : List Ls} (h : Dl H kvs L) {k : SI} (g : getL L k = none) : valV kvs (Hk.keySI k) = none := by
  induction h with
  | nil => rfl
  | @cons p l kvs L _ _ ih =>
    rw [getL_cons] at g
    by_cases q : l.1 = k
    · rw [if_pos q] at g
      cases g
    · rw [if_neg q] at g
      rw [valV_neg fun e => q (keySI_inj e)]
      exact ih g
theorem Dl.vsome {H : Hp} {kvs : List (List L2.Key × V)} {L : List Ls} (h : Dl H kvs L) {k : SI} {v : Int × Int} (g : getL L k = some v) : ∃ p, valV kvs (Hk.keySI k) = some (.ref p) ∧ H p = some (.tup [.int v.1, .int v.2]) := by
  induction h with
  | nil => cases g
  | @cons p l kvs L hp _ ih =>
    rw [getL_cons] at g
    by_cases q : l.1 = k
    · rw [if_pos q] at g
      cases g
      rw [valV_pos (congrArg Hk.keySI q)]
      exact ⟨p, rfl, hp⟩
    · rw [if_neg q] at g
      rw [valV_neg fun e => q (keySI_inj e)]
      exact ih g
theorem Dl.append {H : Hp} {kvs kvs2 : List (List L2.Key × V)} {L L2 : List Ls} (h : Dl H kvs L) (h2 : Dl H kvs2 L2) : Dl H (kvs ++ kvs2) (L ++ L2) := by
  induction h with
  | nil => exact h2
  | cons hp _ ih => exact .cons hp ih
theorem Dl.repl {H : Hp} {kvs : List (List L2.Key × V)} {L : List Ls} {k : SI} {p : Addr} {v : Int × Int} (hp : H p = some (.tup [.int v.1, .int v.2])) (h : Dl H kvs L) :
    Dl H (kvs.map fun kv => if kv.1 = Hk.keySI k then (kv.1, V.ref p) else kv) (L.map fun l => if l.1 = k then (k, v) else l) := by
  induction h with
  | nil => exact .nil
  | @cons p' l kvs L hp' _ ih =>
    rw [List.map_cons, List.map_cons]
    by_cases q : l.1 = k
    · rw [if_pos q, if_pos (congrArg Hk.keySI q)]
      have : (Hk.keySI l.1, V.ref p) = (Hk.keySI ((k, v) : Ls).1, V.ref p) := by rw [q]
      rw [this]
      exact .cons hp ih
    · rw [if_neg q, if_neg fun e => q (keySI_inj e)]
      exact .cons hp' ih
theorem putL_map {L : List Ls} {k : SI} {v : Int × Int} (n : ndK L) (g : (getL L k).isSome = true) : putL L k v = L.map fun l => if l.1 = k then (k, v) else l := by
  induction L with
  | nil => cases g
  | cons l r ih =>
    unfold ndK at n
    rw [List.map_cons, List.nodup_cons] at n
    unfold putL
    rw [getL_cons] at g
    rw [List.map_cons]
    by_cases q : l.1 = k
    · rw [if_pos q, if_pos q]
      congr 1
      refine ((List.map_congr_left fun x hx => ?_).trans (List.map_id _)).symm
      exact if_neg fun e => n.1 (by rw [q, ← e]; exact List.mem_map.mpr ⟨x, hx, rfl⟩)
    · rw [if_neg q] at g
      rw [if_neg q, if_neg q, ih n.2 g]
theorem Dl.put {H : Hp} {kvs : List (List L2.Key × V)} {L : List Ls} (n : ndK L) {k : SI} {p : Addr} {v : Int × Int} (h : Dl H kvs L) (hp : H p = some (.tup [.int v.1, .int v.2])) : Dl H (putK kvs (Hk.keySI k) (.ref p)) (putL L k v) := by
  cases g : getL L k with
  | none =>
    rw [putK_new _ (h.vnone g), put_new g]
    exact h.append (.cons (l := (k, v)) hp .nil)
  | some x =>
    obtain ⟨q, hq, _⟩ := h.vsome g
    have ha : (kvs.any fun kv => decide (kv.1 = Hk.keySI k)) = true := by
      rw [valV_any, hq]
      rfl
    rw [putL_map n (by rw [g]; rfl)]
    unfold putK
    rw [if_pos ha]
    exact h.repl hp
theorem Dl.drop {H : Hp} {kvs : List (List L2.Key × V)} {L : List Ls} (k : SI) (h : Dl H kvs L) : Dl H (dropK kvs (Hk.keySI k)) (dropL L k) := by
  induction h with
  | nil => exact .nil
  | @cons p l kvs L hp _ ih =>
    unfold dropK dropL at *
    by_cases q : l.1 = k
    · rw [List.filter_cons_of_neg (by rw [q]; simp), List.filter_cons_of_neg (by simp [q])]
      exact ih
    · rw [List.filter_cons_of_pos (p := fun kv : List L2.Key × V => decide (kv.1 ≠ Hk.keySI k)) (decide_eq_true fun e => q (keySI_inj e)), List.filter_cons_of_pos (p := fun l : Ls => decide (l.1 ≠ k)) (decide_eq_true q)]
      exact .cons hp ih
end
end Hs
namespace Hs
open PySem PySem.Spec PyProof.Rows L2 Hu Evl
open Hk (SI ltSI)
/-- the built-ins that k03 has more than k01 -/
structure Bz (mg : Str → Option Value) : Prop where
  sort : mg "sorted" = none
  zip : mg "zip" = none
theorem boot_sorted' : bootBuiltins "sorted" = some (.builtin "sorted") := by decide +kernel
section
variable {K : PySem.W.Frag} {w C : Addr} {σ : L2.St} {H : Hp} {tl te : TE}
/-- [f(x) for x in a list], each known by its data -/
theorem lc_DL {Rx : List V → Hp → Prop} {fs : List U} {j : Nat} {vs : List Nat} (hT : ∀ H0, Ex H H0 → ∀ Q : VK, (∀ p xs H1, Ex H0 H1 → H1 p = some (.lst xs) → Rx xs H1 → Q (.ref p) H1) → tl σ H0 Q) (hz : fs.length ≤ 40000) (hp : ∀ u ∈ fs, pln u) (hw : ∀ x, wipe ((wipe σ vs).set j (some x)) vs = wipe σ vs)
    (he : ∀ xs G0, Ex H G0 → Rx xs G0 → fs.length = xs.length ∧ ∀ (i : Nat) (x : V) (u : U) (G : Hp), xs[i]? = some x → fs[i]? = some u → Ex G0 G → EvD w C te ((wipe σ vs).set j (some x)) G u) :
    EvLD w C (tLc (iList K tl) (gName j) tYes te vs) σ H fs := fun H0 e Q q => hT H0 e _ fun a xs H1 e1 ha hR => ⟨a, rfl, ⟨xs, sq_of ha⟩, fun Dd hD => by
    obtain ⟨hlen, he'⟩ := he xs H1 (e.trans e1) hR
    exact lc_list (xs := xs) (fun i H' => Ex H1 H' ∧ ∃ ys, H' Dd = some (.lst ys) ∧ ys.length ≤ i ∧ AtL w C H' ys (fs.take i)) ⟨Ex.new hD, [], upd_same, Nat.le_refl _, .nil⟩ (fun i H' _ p => sq_of (p.1 _ _ ha)) (fun i x H2 hi p => by
      obtain ⟨p1, ys, p2, p3, p4⟩ := p
      have hu : i < fs.length := by
        have := (List.getElem?_eq_some_iff.mp hi).1
        omega
      refine ⟨hw x, et_yes H2 (Ex.refl H2) _ fun H3 e3 => ?_⟩
      rw [if_pos rfl]
      refine he' i x fs[i] H3 hi (List.getElem?_eq_getElem hu) (p1.trans e3) H3 (Ex.refl H3) _ fun v H4 e4 a4 => ⟨ys, e4 _ _ (e3 _ _ p2), ?_, fun q o hq => ?_, ys ++ [v], upd_same, ?_, ?_⟩
      · have := bit_line
        unfold bit at this
        omega
      · rw [upd_ne (ne_of_none hq hD)]
        exact e4 _ _ (e3 _ _ (p1 _ _ hq))
      · rw [List.length_append]
        show ys.length + 1 ≤ i + 1
        omega
      · have nt := tq_upd (w := w) (x := .lst (ys ++ [v])) (e4 _ _ (e3 _ _ p2))
        rw [List.take_add_one, List.getElem?_eq_getElem hu]
        exact AtL.append (atl_tups nt (plnL_all.mpr fun y hy => hp y (List.mem_of_mem_take hy)) (ex_atl (e3.trans e4) p4)) (.cons (at_tups nt (hp _ (List.getElem_mem hu)) a4) .nil)) (fun H' p => by
      obtain ⟨p1, ys, p2, p3, p4⟩ := p
      rw [← hlen, List.take_length] at p4
      exact q Dd ys H' (fresh_back e1 hD) (e1.trans p1) p2 p4)⟩
end
end Hs
namespace Hs
open PySem PySem.Spec PyProof.Rows L2 Hu Evl
open Hk (SI ltSI)
/-! ### rows in order with one more -/
/-! ### what a deed makes of a table -/
structure Nx (D : Deed) (T T' : Tb) : Prop where
  e : T'.e = T.e
  m : T'.m = T.m
  a : T'.a = T.a
  h : T'.h = T.h
  b : T'.b = T.b
  p : T'.p = T.p
  v : T'.v = T.v
  n : T'.n = T.n
  c : T'.clock = T.clock + if D.isTick = true then 1 else 0
  s : srt T'.ls
  g : ∀ k, getL T'.ls k = fD D T'.clock k (getL T.ls k)
section
variable {P : Program} {wd : World} {K : PySem.W.Frag} {mg : Str → Option Value} {base : Heap} {C : Addr}
theorem room_h1 {k : Nat} {A : Around} (r : Room k A) : A.units + 1 < cLine := Nat.lt_of_le_of_lt (Nat.add_le_add_left (by decide : 1 ≤ 64) _) (room_hu r)
/-- changed(..) in a reading -/
theorem ed_changed {w : Addr} {σ : L2.St} {H : Hp} {t1 t2 t3 : TE} {E : XK} {us : List U} {u : U} {k : Nat} (hw : ∃ o, H w = some o) (h1 : EvD w C t1 σ H (.tup us)) (h2 : Ev t2 σ H (.int (k : Int))) (h3 : EvD w C t3 σ H u) (hk : k < us.length) (hz : us.length ≤ 1000) :
    EvD w C (tCall (spCh C) [] E (tCons t1 (tCons t2 (tCons t3 tNil)))) σ H (.tup (us.set k u)) := fun G e Q q =>
  h1 G e _ fun v1 G1 e1 a1 => h2 G1 (e.trans e1) _ fun G2 e2 => h3 G2 ((e.trans e1).trans e2) _ fun v3 G3 e3 a3 =>
    ⟨v1, v3, k, us, u, w, rfl, ex_at (e2.trans e3) a1, a3, hw.imp fun o z => (((e.trans e1).trans e2).trans e3) _ _ z, hk, hz, fun v H' s a => q v H' (((e1.trans e2).trans e3).trans s) a⟩
/-! ### _leased -/
end
end Hs
namespace Hs
open PySem PySem.Spec PyProof.Rows L2 Hu Evl
open Hk (SI ltSI)
def Deed.word : Deed → Str
  | .lease _ _ => "lease"
  | .free _ _ => "free"
  | .tick => "tick"
  | .rise => "rise"
theorem FnOk.ex {α : Type} {P : Program} {w : World} {K : PySem.W.Frag} {mg : Str → Option Value} {base : Heap} {CX : CXT} {k : Nat} {f : Addr} {fd : FuncData} {ps : List Str} {sp : α → Sp} (p : α → Prop) (F : ∀ i, p i → FnOk P w K mg base CX k f fd ps (sp i)) :
    FnOk P w K mg base CX k f fd ps (fun vs H Q E => ∃ i, p i ∧ sp i vs H Q E) :=
  ⟨fun vs H Q E ⟨i, hp, h⟩ => (F i hp).len vs H Q E h, fun A outer s H args us vs Q E hr h0 hb hv ⟨i, hp, h⟩ => (F i hp).run A outer s H args us vs Q E hr h0 hb hv h⟩
end Hs
namespace Hs
open PySem PySem.Spec PyProof.Rows L2 Hu Evl
open Hk (SI ltSI)
abbrev sPart : Stmt := topS 37
abbrev sParts : Stmt := topS 39
abbrev sDeed : Stmt := topS 62
theorem pss_dead {X : Cx} {l : List Stmt} : PSs X l (fun _ _ _ => False) := ⟨fun _ _ _ _ _ _ h => h.elim⟩
theorem pe_dead {X : Cx} {e : Expr} : PE X e (fun _ _ _ => False) := ⟨fun _ _ _ _ _ _ h => h.elim⟩
/-- the lists of words that the text names -/
def TupK (K : PySem.W.Frag) (a : Addr) (zs : List Str) : Prop := ∀ H, SqT K H a (zs.map V.str)
/-- the forms of deeds -/
structure Dds (K : PySem.W.Frag) (w : World) (mg : Str → Option Value) (a : Addr) (es : Array DictEntry) (n : Nat) : Prop where
  g : mg "DEEDS" = some (.ref a)
  kd : KDict K w a es n
  lease : ∃ p, PySem.W.nsIn K a "lease" = some (some (.ref p)) ∧ TupK K p ["name", "hand", "talk"]
  free : ∃ p, PySem.W.nsIn K a "free" = some (some (.ref p)) ∧ TupK K p ["name", "hand", "talk"]
  tick : ∃ p, PySem.W.nsIn K a "tick" = some (some (.ref p)) ∧ TupK K p []
  rise : ∃ p, PySem.W.nsIn K a "rise" = some (some (.ref p)) ∧ TupK K p []
def Deed.kinds : Deed → List Str
  | .lease _ _ => ["name", "hand", "talk"]
  | .free _ _ => ["name", "hand", "talk"]
  | _ => []
theorem Dds.at {K : PySem.W.Frag} {w : World} {mg : Str → Option Value} {a : Addr} {es : Array DictEntry} {n : Nat} (d : Dds K w mg a es n) (D : Deed) : ∃ p, PySem.W.nsIn K a D.word = some (some (.ref p)) ∧ TupK K p D.kinds := by
  cases D with
  | lease k t => exact d.lease
  | free k t => exact d.free
  | tick => exact d.tick
  | rise => exact d.rise
/-- a deed of a right form -/
def Deed.ok : Deed → Prop
  | .lease k t => gNam (.str k.1) = true ∧ gHand (.int k.2) = true ∧ 0 ≤ t
  | .free k t => gNam (.str k.1) = true ∧ gHand (.int k.2) = true ∧ 0 ≤ t
  | _ => True
end Hs
namespace Hs
open PySem PySem.Spec PyProof.Rows L2 Hu Evl
open Hk (SI ltSI)
theorem walk_zipT {K : PySem.W.Frag} {a b : Addr} {xs ys : List V} (hl : xs.length = ys.length) : Walk (RZ.ItzT K a b) xs.length (fun H => SqT K H a xs ∧ SqT K H b ys) (fun i H v H' => ∃ T x y, v = .ref T ∧ H T = none ∧ H' = upd H T (.tup [x, y]) ∧ xs[i]? = some x ∧ ys[i]? = some y) :=
  ⟨fun i H hi q => ⟨xs, ys, xs[i], ys[i]'(by omega), q.1, q.2, List.getElem?_eq_getElem hi, List.getElem?_eq_getElem (by omega)⟩, fun H q => ⟨xs, ys, q.1, q.2, .inl (Nat.le_refl _)⟩, fun i H v H' hi q ⟨T, x, y, e1, e2, e3, e4, e5⟩ => ⟨T, x, y, e1, e2, e3, e4 _ q.1, e5 _ q.2⟩⟩
section
variable {P : Program} {wd : World} {K : PySem.W.Frag} {mg : Str → Option Value} {base : Heap} {C : Addr}
/-! ### are_parts -/
/-! ### is_deed -/
theorem cut_one (u : U) (us : List U) : cutU (u :: us) (some 1) none = us := by
  unfold cutU
  have z1 : HT.sIx (u :: us).length 0 (some 1) = 1 := by
    simp only [HT.sIx]
    rw [if_neg (by decide), List.length_cons]
    show min 1 (us.length + 1) = 1
    omega
  have z2 : HT.sIx (u :: us).length (u :: us).length none = (u :: us).length := rfl
  rw [z1, z2]
  simp
end
end Hs
namespace Hs
open PySem PySem.Spec PyProof.Rows L2 Hu Evl
open Hk (SI ltSI)
section
variable {P : Program} {wd : World} {K : PySem.W.Frag} {mg : Str → Option Value} {base : Heap} {C : Addr}
/-! ### lets -/
theorem scLets : FnScope ["table", "deed"] ["table", "deed"] (defScope sLets) := ⟨rfl, rfl, rfl, by decide +kernel, rfl, by decide +kernel, by decide +kernel⟩
/-! ### done -/
theorem scDone : FnScope ["table", "deed", "doing"] ["table", "deed"] (defScope sDone) := ⟨rfl, rfl, rfl, by decide +kernel, rfl, by decide +kernel, by decide +kernel⟩
/-! ### behind -/
theorem scBehind : FnScope ["table", "deed"] ["table", "deed"] (defScope sBehind) := ⟨rfl, rfl, rfl, by decide +kernel, rfl, by decide +kernel, by decide +kernel⟩
end
end Hs
/-! the law's own flags -/
namespace Hs
open PySem PySem.Spec PyProof.Rows L2 Hu Evl
section
variable {P : Program} {wd : World} {K : PySem.W.Frag} {mg : Str → Option Value} {base : Heap} {C : Addr}
def gCount (u : U) : Bool := iv u fun i => decide (0 ≤ i)
/-! signs in texts that are written down -/
def lettersZ : Str := "abcdefghijklmnopqrstuvwxyz"
/-! ### texts -/
end
end Hs
/-! the law's own judges of a table's parts -/
namespace Hs
open PySem PySem.Spec PyProof.Rows L2 Hu Evl
section
variable {P : Program} {wd : World} {K : PySem.W.Frag} {mg : Str → Option Value} {base : Heap} {C : Addr}
/-! heads -/
def g3 (u : U) : Prop := gTO 3 u = true
def gH3 (u : U) : Bool := gNam (nth u 0) && (gStamp (nth u 1) && gRow (nth u 2))
/-! blocks -/
theorem pair_TO (u : U) : gTO 2 u = gPair u := by
  cases u <;> rfl
/-! leases -/
end
end Hs
/-! the law's own judge of a table -/
namespace Hs
open PySem PySem.Spec PyProof.Rows L2 Hu Evl
section
variable {P : Program} {wd : World} {K : PySem.W.Frag} {mg : Str → Option Value} {base : Heap} {C : Addr}
def gV2 (u : U) : Bool := tv u fun us => two us fun a b => gStamp a && gMembers b
theorem heads_tup {u : U} (h : gHeads u = true) : ∃ us, u = .tup us := by
  cases u with
  | tup us => exact ⟨us, rfl⟩
  | _ => cases h
theorem blocks_tup {u : U} (h : gBlocks u = true) : ∃ us, u = .tup us := by
  cases u with
  | tup us => exact ⟨us, rfl⟩
  | _ => cases h
theorem nil_is {u : U} (h : nilU u = true) : u = .tup [] := by
  cases u with
  | tup us =>
    cases us with
    | nil => rfl
    | cons a r => cases h
  | _ => cases h
end
end Hs
/-! the law's drawn values -/
namespace Hs
open PySem PySem.Spec PyProof.Rows L2 Hu Evl
/-- what is tracked in H' at places that were free in H -/
def fresh (H H' : Hp) : Hp := fun b => match H b with | none => H' b | some _ => none
/-! its signs are a text's or line feeds, its integers below 2 ^ 64 + b -/
mutual
def tidy (b : Nat) : U → Prop
  | .int i => i.natAbs < 2 ^ 64 + b
  | .str z => ∀ c ∈ TL.tl z, okS c = true ∨ c = 10
  | .tup us | .lst us | .dct us => tidyL b us
  | _ => True
def tidyL (b : Nat) : List U → Prop
  | [] => True
  | u :: us => tidy b u ∧ tidyL b us
end
mutual
theorem tidy_clean {b : Nat} (hb : b ≤ 100) : ∀ u : U, tidy b u → clean u
  | .non, _ => trivial
  | .bl _, _ => trivial
  | .int i, h => by simp only [tidy] at h; simp only [clean]; omega
  | .str z, h => by simpa only [clean, tidy] using h
  | .tup us, h => by simp only [clean]; exact tidyL_clean hb us (by simpa only [tidy] using h)
  | .lst us, h => by simp only [clean]; exact tidyL_clean hb us (by simpa only [tidy] using h)
  | .dct us, h => by simp only [clean]; exact tidyL_clean hb us (by simpa only [tidy] using h)
  | .exc, _ => trivial
theorem tidyL_clean {b : Nat} (hb : b ≤ 100) : ∀ us : List U, tidyL b us → cleanL us
  | [], _ => trivial
  | u :: us, h => ⟨tidy_clean hb u h.1, tidyL_clean hb us h.2⟩
end
mutual
theorem tidy_mono {b b' : Nat} (hb : b ≤ b') : ∀ u : U, tidy b u → tidy b' u
  | .non, _ => trivial
  | .bl _, _ => trivial
  | .int i, h => by simp only [tidy] at *; omega
  | .str z, h => by simpa only [tidy] using h
  | .tup us, h => by simp only [tidy] at *; exact tidyL_mono hb us h
  | .lst us, h => by simp only [tidy] at *; exact tidyL_mono hb us h
  | .dct us, h => by simp only [tidy] at *; exact tidyL_mono hb us h
  | .exc, _ => trivial
theorem tidyL_mono {b b' : Nat} (hb : b ≤ b') : ∀ us : List U, tidyL b us → tidyL b' us
  | [], _ => trivial
  | u :: us, h => ⟨tidy_mono hb u h.1, tidyL_mono hb us h.2⟩
end
/-- bounds -/
structure Bd (u : U) (m d b : Nat) : Prop where
  w : wt u ≤ m
  d : dep u ≤ d
  c : tidy b u
theorem Bd.mono {u : U} {m d b m' d' b' : Nat} (h : Bd u m d b) (hm : m ≤ m') (hd : d ≤ d') (hb : b ≤ b') : Bd u m' d' b' := ⟨Nat.le_trans h.w hm, Nat.le_trans h.d hd, tidy_mono hb _ h.c⟩
theorem Bd.fine {u : U} {m d b : Nat} (h : Bd u m d b) (hm : m ≤ 1000000) (hb : b ≤ 100) : Fine u := ⟨Nat.le_trans h.w hm, tidy_clean hb _ h.c⟩
structure BdL (us : List U) (m d b : Nat) : Prop where
  w : wtL us ≤ m
  d : depL us ≤ d
  c : tidyL b us
theorem BdL.nil {d b : Nat} : BdL [] 0 d b := ⟨Nat.le_refl _, Nat.zero_le _, trivial⟩
theorem wtL_append : ∀ us us' : List U, wtL (us ++ us') = wtL us + wtL us'
  | [], us' => by simp [wtL]
  | u :: us, us' => by simp only [List.cons_append, wtL, wtL_append us us']; omega
theorem depL_append : ∀ us us' : List U, depL (us ++ us') = max (depL us) (depL us')
  | [], us' => by simp [depL]
  | u :: us, us' => by simp only [List.cons_append, depL, depL_append us us']; omega
theorem tidyL_append {b : Nat} : ∀ {us us' : List U}, tidyL b us → tidyL b us' → tidyL b (us ++ us')
  | [], _, _, h => h
  | _ :: _, _, h, h' => ⟨h.1, tidyL_append h.2 h'⟩
theorem BdL.append {us us' : List U} {m m' d b : Nat} (h : BdL us m d b) (h' : BdL us' m' d b) : BdL (us ++ us') (m + m') d b := by
  refine ⟨?_, ?_, tidyL_append h.c h'.c⟩
  · rw [wtL_append]
    have := h.w
    have := h'.w
    omega
  · rw [depL_append]
    have := h.d
    have := h'.d
    omega
theorem BdL.one {u : U} {m d b : Nat} (h : Bd u m d b) : BdL [u] (m + 2) d b := ⟨by have := h.w; simp only [wtL]; omega, by have := h.d; simp only [depL]; omega, ⟨h.c, trivial⟩⟩
theorem BdL.snoc {us : List U} {u : U} {m m' d b : Nat} (h : BdL us m d b) (q : Bd u m' d b) : BdL (us ++ [u]) (m + (m' + 2)) d b := h.append (.one q)
theorem BdL.mono {us : List U} {m d b m' d' b' : Nat} (h : BdL us m d b) (hm : m ≤ m') (hd : d ≤ d') (hb : b ≤ b') : BdL us m' d' b' := ⟨Nat.le_trans h.w hm, Nat.le_trans h.d hd, tidyL_mono hb _ h.c⟩
theorem BdL.take {us : List U} {m d b : Nat} : ∀ (n : Nat), BdL us m d b → BdL (us.take n) m d b := fun n h => by
  have e := List.take_append_drop n us
  refine ⟨?_, ?_, ?_⟩
  · have := h.w
    rw [← e, wtL_append] at this
    omega
  · have := h.d
    rw [← e, depL_append] at this
    omega
  · have := h.c
    clear e h
    induction us generalizing n with
    | nil => rw [List.take_nil]; trivial
    | cons u us ih => cases n with
      | zero => trivial
      | succ n => exact ⟨this.1, ih n this.2⟩
theorem BdL.drop {us : List U} {m d b : Nat} : ∀ (n : Nat), BdL us m d b → BdL (us.drop n) m d b := fun n h => by
  have e := List.take_append_drop n us
  refine ⟨?_, ?_, ?_⟩
  · have := h.w
    rw [← e, wtL_append] at this
    omega
  · have := h.d
    rw [← e, depL_append] at this
    omega
  · have := h.c
    clear e h
    induction us generalizing n with
    | nil => rw [List.drop_nil]; trivial
    | cons u us ih => cases n with
      | zero => exact this
      | succ n => exact ih n this.2
theorem BdL.get {us : List U} {m d b : Nat} {u : U} (h : BdL us m d b) (hu : u ∈ us) : Bd u m d b := by
  obtain ⟨w, dd, c⟩ := h
  refine ⟨Nat.le_trans (wt_mem hu) w, Nat.le_trans ?_ dd, ?_⟩
  · clear w c dd
    induction us with
    | nil => cases hu
    | cons a r ih =>
      simp only [depL]
      rcases List.mem_cons.mp hu with rfl | hu
      · omega
      · have := ih hu
        omega
  · clear w dd
    induction us with
    | nil => cases hu
    | cons a r ih =>
      rcases List.mem_cons.mp hu with rfl | hu
      · exact c.1
      · exact ih hu c.2
theorem Bd.tup {us : List U} {m d b : Nat} (h : BdL us m d b) : Bd (.tup us) (m + 3) (d + 1) b := ⟨by have := h.w; simp only [wt]; omega, by have := h.d; simp only [dep]; omega, by simpa only [tidy] using h.c⟩
theorem Bd.lst {us : List U} {m d b : Nat} (h : BdL us m d b) : Bd (.lst us) (m + 3) (d + 1) b := ⟨by have := h.w; simp only [wt]; omega, by have := h.d; simp only [dep]; omega, by simpa only [tidy] using h.c⟩
theorem AtL.snoc {w C : Addr} {H : Hp} {vs : List V} {us : List U} {v : V} {u : U} (l : AtL w C H vs us) (h : At w C H v u) : AtL w C H (vs ++ [v]) (us ++ [u]) := AtL.append l (.cons h .nil)
theorem vi_ne {i j : Int} (h : ¬ decide (V.int i = V.int j) = true) : i ≠ j := fun e => h (decide_eq_true (by rw [e]))
section
variable {P : Program} {wd : World} {K : PySem.W.Frag} {mg : Str → Option Value} {base : Heap} {C : Addr}
/-- the defs that draw, ready to be called -/
structure Dd (P : Program) (wd : World) (K : PySem.W.Frag) (mg : Str → Option Value) (base : Heap) (f : Addr) (d : FuncData) : Prop where
  ok : FnOk P wd K mg base CX0 3 f d ["well", "many"] spDraw
  g : mg "_law_draw" = some (.ref f)
  kp : PySem.W.keepIn K (.ref f) = true
  b : Binds K d ["well", "many"] []
end
section
variable {X : Cx} {fD : Addr} {dD : FuncData} {e1 e2 : Expr} {t1 t2 : TE} {ps pos : Pos} {k : Nat}
theorem pe_draw (D : Dd X.prog X.w X.K X.mg X.base fD dD) (hr : Room k X.A) (h : 3 ≤ k) (hg : Gl X "_law_draw") (h1 : PE X e1 t1) (h2 : PE X e2 t2) (hst : starEach [e1, e2] X.env = (false, eval e1 X.env) :: starEach [e2] X.env := by rfl) (hst2 : starEach [e2] X.env = (false, eval e2 X.env) :: starEach [] X.env := by rfl)
    (hpl : (backTo pos (starEach [e2] X.env)).any (·.1) = false := by rfl) : PE X (.Call (.Name "_law_draw" ps) [e1, e2] [] pos) (tCall spDraw [] E0 (tCons t1 (tCons t2 tNil))) :=
  pe_call (D.ok.mono h) hr hg D.g D.kp D.b .nil pass0 (pa_cons h1 (pa_cons h2 pa_nil hst2) hst) (by decide) hst hpl
end
section
variable {P : Program} {wd : World} {K : PySem.W.Frag} {mg : Str → Option Value} {base : Heap} {C : Addr} {fD : Addr} {dD : FuncData}
def spNumber : Sp := fun vs H Q _ => ∃ wl : WA, vs = [.ref wl.w] ∧ Well H wl ∧ ∀ (d : Int) (H' : Hp), 0 ≤ d → d < 10 ^ 11 → Drawn wl H H' → Q (.int d) H'
theorem scNumber : FnScope ["well", "kind"] ["well"] (defScope lNumber) := ⟨rfl, rfl, rfl, by decide +kernel, rfl, by decide +kernel, by decide +kernel⟩
theorem ev_pow {σ : L2.St} {H : Hp} {i j : Int} {ta tb : TE} (ha : Ev ta σ H (.int i)) (hb : Ev tb σ H (.int j)) (hc : CPow i j) : Ev (tOp (rI CPow fun i j => .int (i ^ j.toNat)) ta tb) σ H (.int (i ^ j.toNat)) := ev_op ha hb (rv_I hc)
theorem ev_pick {σ : L2.St} {H : Hp} {ta : TA} {tb : TE} {xs : List V} {i : Nat} {v : V} (hl : EvA ta σ H xs) (hz : xs.length ≤ 100000) (hb : Ev tb σ H (.int (i : Int))) (hv : xs[i]? = some v) : Ev (tOp (rIxL K) (tLst ta) tb) σ H v :=
  ev_opL1 (el_lst hl hz) (fun H1 e => hb.mono e) fun p H1 h e => rv_ixL (sq_of h) (atI_nat hv)
theorem ok_number {f : Addr} {fd : FuncData} (F : Fun K "_law_number" "_law_number" lNumber f fd) (D : Dd P wd K mg base fD dD) : FnOk P wd K mg base CX0 4 f fd ["well"] spNumber := by
  refine F.ok scNumber (fun vs H Q E h => ?_) (fun cdv A outer s H vs Q E hr h => ?_)
  · obtain ⟨wl, rfl, _⟩ := h
    rfl
  obtain ⟨wl, rfl, W, k⟩ := h
  refine ⟨_, pss_cons (ps_set (i := 1) scNumber.nd rfl (.inl rfl) (pe_draw D hr (by decide) (by rfl) (pv 0) pe_int))
    (pss_cons (ps_if (pt_cmpR op_eq (pv 1) pe_int (nomark _)) (pss_one (ps_ret (pe_draw D hr (by decide) (by rfl) (pv 0) (pe_op op_pow pe_int pe_int)))) pss_nil)
    (pss_one (ps_ret (pe_draw D hr (by decide) (by rfl) (pv 0) (pe_ix ix_list (pe_lst (pa_cons pe_int (pa_cons pe_int (pa_cons (pe_op op_pow pe_int pe_int) pa_nil)))) (pv 1) (fun _ _ => rfl)))))), ?_⟩
  refine ⟨_, rfl, wl, 4, rfl, W, by decide, by decide, fun d H1 d0 d1 D1 => ⟨_, rfl, rfl, _, rfl, ite2 (fun q => ?_) (fun q => ?_)⟩⟩
  · refine ⟨_, rfl, _, _, rfl, rfl, ⟨by decide, by decide, by decide⟩, wl, 10 ^ 11, rfl, D1.well, by decide, by decide, fun d2 H2 e0 e1 D2 => k d2 H2 e0 e1 (D1.trans D2)⟩
  · have q1 := vi_ne q
    have hd : d = 0 ∨ d = 1 ∨ d = 2 := by omega
    have go : ∀ (i : Nat) (m : Int), d = (i : Int) → ([V.int 3, .int 40, .int (10 ^ 9)] : List V)[i]? = some (.int m) → 0 < m → m ≤ 10 ^ 9 → tCall spDraw [] E0 (tCons (tVar 0) (tCons (tOp (rIxL K) (tLst (tCons (tC (.int 3)) (tCons (tC (.int 40)) (tCons (tOp (rI CPow fun i j => .int (i ^ j.toNat)) (tC (.int 10)) (tC (.int 9))) tNil)))) (tVar 1)) tNil)) [some (.ref wl.w), some (.int d)] H1 Q := fun i m ei hm m0 m9 => by
      refine ⟨_, rfl, ev_pick (K := K) (i := i) (ea_cons ev_c (ea_cons ev_c (ea_cons (ev_pow ev_c ev_c ⟨by decide, by decide, by decide⟩) ea_nil))) (show (3 : Nat) ≤ 100000 by decide) (ev_var (by rw [ei]; rfl)) hm H1 (Ex.refl H1) _ fun H2 e2 => ?_⟩
      exact ⟨wl, m, rfl, D1.well.same e2, m0, by omega, fun d2 H3 f0 f1 D2 => k d2 H3 f0 (by omega) ((D1.same e2).trans D2)⟩
    rcases hd with h | h | h
    · exact go 0 3 (by rw [h]; rfl) rfl (by decide) (by decide)
    · exact go 1 40 (by rw [h]; rfl) rfl (by decide) (by decide)
    · exact go 2 (10 ^ 9) (by rw [h]; rfl) rfl (by decide) (by decide)
end
end Hs
namespace Hs
open PySem PySem.Spec PyProof.Rows L2 Hu Evl
section
variable {P : Program} {wd : World} {K : PySem.W.Frag} {mg : Str → Option Value} {base : Heap} {C : Addr} {fD : Addr} {dD : FuncData}
/-! ### ids and stamps -/
theorem idOk {i j : Int} (h : 1 ≤ i ∧ i ≤ 99 ∧ 1 ≤ j) : gId (.tup [.int i, .int j]) = true := by
  show ((decide (1 ≤ i) && decide (i ≤ 99)) && decide (1 ≤ j)) = true
  rw [decide_eq_true h.1, decide_eq_true h.2.1, decide_eq_true h.2.2]
  rfl
theorem stampOk {i j : Int} (h : (i = 0 ∧ j = 0) ∨ (1 ≤ i ∧ 1 ≤ j ∧ j ≤ 99)) : gStamp (.tup [.int i, .int j]) = true := by
  show ((decide (i = 0) && decide (j = 0)) || (decide (1 ≤ i) && (decide (1 ≤ j) && decide (j ≤ 99)))) = true
  rcases h with ⟨h1, h2⟩ | ⟨h1, h2, h3⟩
  · rw [decide_eq_true h1, decide_eq_true h2]
    rfl
  · rw [decide_eq_true h1, decide_eq_true h2, decide_eq_true h3]
    simp
def spPair (R : Int → Int → Prop) : Sp := fun vs H Q _ => ∃ wl : WA, vs = [.ref wl.w] ∧ Well H wl ∧ ∀ (i j : Int) (p : Addr) (H' : Hp), i.natAbs < 2 ^ 60 → j.natAbs < 2 ^ 60 → R i j → H p = none → Drawn wl H H' → H' p = some (.tup [.int i, .int j]) → Q (.ref p) H'
theorem scIdL : FnScope ["well"] ["well"] (defScope lId) := ⟨rfl, rfl, rfl, by decide +kernel, rfl, by decide +kernel, by decide +kernel⟩
theorem ok_idL {f fN : Addr} {fd dN : FuncData} (F : Fun K "_law_id" "_law_id" lId f fd) (D : Dd P wd K mg base fD dD) (DN : Df K mg "_law_number" lNumber ["well"] fN dN) : FnOk P wd K mg base CX0 5 f fd ["well"] (spPair fun i j => 1 ≤ i ∧ i ≤ 99 ∧ 1 ≤ j) := by
  have GN : FnOk P wd K mg base CX0 4 fN dN ["well"] spNumber := ok_number DN.F D
  refine F.ok scIdL (fun vs H Q E h => ?_) (fun cdv A outer s H vs Q E hr h => ?_)
  · obtain ⟨wl, rfl, _⟩ := h
    rfl
  obtain ⟨wl, rfl, W, k⟩ := h
  refine ⟨_, pss_cons (ps_if (pt_cmpR op_eq (pe_draw D hr (by decide) (by rfl) (pv 0) pe_int) pe_int (nomark _))
      (pss_one (ps_ret (pe_tup (pa_cons (pe_op op_add pe_int (pe_draw D hr (by decide) (by rfl) (pv 0) pe_int)) (pa_cons (pe_op op_add pe_int (pe_call GN hr (by rfl) DN.g DN.F.kp DN.b .nil pass0 (pa_cons (pv 0) pa_nil))) pa_nil))))) pss_nil)
    (pss_one (ps_ret (pe_tup (pa_cons (pe_op op_add pe_int (pe_draw D hr (by decide) (by rfl) (pv 0) pe_int)) (pa_cons (pe_op op_add pe_int (pe_draw D hr (by decide) (by rfl) (pv 0) pe_int)) pa_nil))))), ?_⟩
  refine ⟨_, rfl, wl, 3, rfl, W, by decide, by decide, fun d H1 d0 d1 D1 => ⟨rfl, _, rfl, ite2 (fun q => ?_) (fun q => ?_)⟩⟩
  · refine ⟨_, rfl, wl, 99, rfl, D1.well, by decide, by decide, fun e H2 e0 e1 D2 => ⟨_, _, rfl, rfl, _, rfl, wl, rfl, D2.well, fun g H3 g0 g1 D3 => ⟨_, _, rfl, rfl, sz_of (show (2 : Nat) ≤ 100000 by decide), fun p hp => ?_⟩⟩⟩
    have DD := (D1.trans D2).trans D3
    exact k (1 + e) (1 + g) p _ (by omega) (by omega) (by omega) (DD.free W hp) (DD.new hp) upd_same
  · refine ⟨_, rfl, wl, 2, rfl, D1.well, by decide, by decide, fun e H2 e0 e1 D2 => ⟨_, _, rfl, rfl, _, rfl, wl, 3, rfl, D2.well, by decide, by decide, fun g H3 g0 g1 D3 => ⟨_, _, rfl, rfl, sz_of (show (2 : Nat) ≤ 100000 by decide), fun p hp => ?_⟩⟩⟩
    have DD := (D1.trans D2).trans D3
    exact k (1 + e) (1 + g) p _ (by omega) (by omega) (by omega) (DD.free W hp) (DD.new hp) upd_same
theorem scStampL : FnScope ["well", "kind"] ["well"] (defScope lStamp) := ⟨rfl, rfl, rfl, by decide +kernel, rfl, by decide +kernel, by decide +kernel⟩
theorem ok_stampL {f fN : Addr} {fd dN : FuncData} (F : Fun K "_law_stamp" "_law_stamp" lStamp f fd) (D : Dd P wd K mg base fD dD) (DN : Df K mg "_law_number" lNumber ["well"] fN dN) : FnOk P wd K mg base CX0 5 f fd ["well"] (spPair fun i j => (i = 0 ∧ j = 0) ∨ (1 ≤ i ∧ 1 ≤ j ∧ j ≤ 99)) := by
  have GN : FnOk P wd K mg base CX0 4 fN dN ["well"] spNumber := ok_number DN.F D
  refine F.ok scStampL (fun vs H Q E h => ?_) (fun cdv A outer s H vs Q E hr h => ?_)
  · obtain ⟨wl, rfl, _⟩ := h
    rfl
  obtain ⟨wl, rfl, W, k⟩ := h
  refine ⟨_, pss_cons (ps_set (i := 1) scStampL.nd rfl (.inl rfl) (pe_draw D hr (by decide) (by rfl) (pv 0) pe_int))
    (pss_cons (ps_if (pt_cmpR op_eq (pv 1) pe_int (nomark _)) (pss_one (ps_ret (pe_tup (pa_cons pe_int (pa_cons pe_int pa_nil))))) pss_nil)
    (pss_cons (ps_if (pt_cmpR op_eq (pv 1) pe_int (nomark _)) (pss_one (ps_ret (pe_tup (pa_cons (pe_op op_add pe_int (pe_call GN hr (by rfl) DN.g DN.F.kp DN.b .nil pass0 (pa_cons (pv 0) pa_nil))) (pa_cons (pe_op op_add pe_int (pe_draw D hr (by decide) (by rfl) (pv 0) pe_int)) pa_nil))))) pss_nil)
    (pss_one (ps_ret (pe_tup (pa_cons (pe_op op_add pe_int (pe_draw D hr (by decide) (by rfl) (pv 0) pe_int)) (pa_cons (pe_op op_add pe_int (pe_draw D hr (by decide) (by rfl) (pv 0) pe_int)) pa_nil))))))), ?_⟩
  refine ⟨_, rfl, wl, 5, rfl, W, by decide, by decide, fun d H1 d0 d1 D1 => ⟨_, rfl, rfl, _, rfl, ite2 (fun q => ?_) (fun q => ?_)⟩⟩
  · exact ⟨sz_of (show (2 : Nat) ≤ 100000 by decide), fun p hp => k 0 0 p _ (by decide) (by decide) (by omega) (D1.free W hp) (D1.new hp) upd_same⟩
  refine ⟨_, rfl, rfl, _, rfl, ite2 (fun q => ?_) (fun q => ?_)⟩
  · refine ⟨_, rfl, wl, rfl, D1.well, fun e H2 e0 e1 D2 => ⟨_, _, rfl, rfl, _, rfl, wl, 99, rfl, D2.well, by decide, by decide, fun g H3 g0 g1 D3 => ⟨_, _, rfl, rfl, sz_of (show (2 : Nat) ≤ 100000 by decide), fun p hp => ?_⟩⟩⟩
    have DD := (D1.trans D2).trans D3
    exact k (1 + e) (1 + g) p _ (by omega) (by omega) (by omega) (DD.free W hp) (DD.new hp) upd_same
  · refine ⟨_, rfl, wl, 4, rfl, D1.well, by decide, by decide, fun e H2 e0 e1 D2 => ⟨_, _, rfl, rfl, _, rfl, wl, 3, rfl, D2.well, by decide, by decide, fun g H3 g0 g1 D3 => ⟨_, _, rfl, rfl, sz_of (show (2 : Nat) ≤ 100000 by decide), fun p hp => ?_⟩⟩⟩
    have DD := (D1.trans D2).trans D3
    exact k (1 + e) (1 + g) p _ (by omega) (by omega) (by omega) (DD.free W hp) (DD.new hp) upd_same
/-! ### members -/
def spMem : Sp := fun vs H Q _ => ∃ wl : WA, vs = [.ref wl.w] ∧ Well H wl ∧ ∀ (f : Nat → Bool) (p : Addr) (H' : Hp), (∃ i, i < 9 ∧ f i = true) → H p = none → Drawn wl H H' → H' p = some (.tup (given 9 f fun i => V.int (i : Int))) → Q (.ref p) H'
theorem scMem : FnScope ["well", "bits", "k"] ["well"] (defScope lMembers) := ⟨rfl, rfl, rfl, by decide +kernel, rfl, by decide +kernel, by decide +kernel⟩
def pows : List V := [.int 1, .int 2, .int 4, .int 8, .int 16, .int 32, .int 64, .int 128, .int 256]
theorem pows_get {i : Nat} (h : i < 9) : pows[i]? = some (.int (2 ^ i : Int)) := by
  match i, h with
  | 0, _ | 1, _ | 2, _ | 3, _ | 4, _ | 5, _ | 6, _ | 7, _ | 8, _ => rfl
abbrev rTupQ (K : PySem.W.Frag) : List V → Hp → VK → Prop := fun xs H Q => ∃ p ys, xs = [.ref p] ∧ ((SqL K H p ys ∧ ∀ l, H l = none → Q (.ref l) (upd H l (.tup ys))) ∨ (SqT K H p ys ∧ Q (.ref p) H))
theorem s_retTL {σ : L2.St} {H : Hp} {te : TE} {xs : List V} {D : Ends} (h : EvL te σ H xs) (k : ∀ p H1, H p = none → Ex H H1 → H1 p = some (.tup xs) → D.rt (.ref p) H1) : tRet (tCB (rTupQ K) (tCons te tNil)) D σ H :=
  h H (Ex.refl H) _ fun D' H2 hD e2 h2 => ⟨D', _, rfl, .inl ⟨SqL.of h2, fun p hp => k p _ (fresh_back e2 hp) (e2.trans (Ex.new hp)) upd_same⟩⟩
theorem bits_some (d : Int) (d0 : 0 ≤ d) (d1 : d < 511) : ∃ i, i < 9 ∧ decide (V.int (((1 + d) / (2 ^ i : Int)).fmod 2) = V.int 1) = true := by
  have key : ∀ n : Fin 511, ∃ i : Fin 9, ((1 + (n.1 : Int)) / (2 ^ i.1 : Int)).fmod 2 = 1 := by decide +kernel
  obtain ⟨i, hi⟩ := key ⟨d.toNat, by omega⟩
  refine ⟨i.1, i.2, decide_eq_true ?_⟩
  have e : ((d.toNat : Nat) : Int) = d := by omega
  rw [← e]
  exact congrArg V.int hi
theorem ok_mem {f : Addr} {fd : FuncData} (F : Fun K "_law_members" "_law_members" lMembers f fd) (B : Bt mg) (D : Dd P wd K mg base fD dD) : FnOk P wd K mg base CX0 4 f fd ["well"] spMem := by
  refine F.ok scMem (fun vs H Q E h => ?_) (fun cdv A outer s H vs Q E hr h => ?_)
  · obtain ⟨wl, rfl, _⟩ := h
    rfl
  obtain ⟨wl, rfl, W, k⟩ := h
  refine ⟨_, pss_cons (ps_set (i := 1) scMem.nd rfl (.inr rfl) (pe_op op_add pe_int (pe_draw D hr (by decide) (by rfl) (pv 0) pe_int)))
    (pss_one (ps_ret (pe_callTy call_tuple_of (by rfl) B.tup boot_tuple' (pa_cons (pe_lc (own := [("k", 2)]) (g := gName 2) rfl scMem.nd (pi_range1 (by rfl) B.range (pa_cons pe_int pa_nil)) (blkOk_by (N := ["well", "bits", "k"]) (sc := defScope lMembers) (by decide +kernel))
      (fun _ _ _ _ _ => pg_name (i := 2) scMem.nd rfl (Or.inl rfl)) (fun _ _ _ _ _ => pts_one (pt_cmpR op_eq (pe_op op_modN (pe_callTy call_int1 (by rfl) B.int boot_int (pa_cons (pe_op op_fdivW (pv 1) (pe_ix (show IxR _ (rIxL K) from ix_list) (pe_lst (pa_cons pe_int (pa_cons pe_int (pa_cons pe_int (pa_cons pe_int (pa_cons pe_int (pa_cons pe_int (pa_cons pe_int (pa_cons pe_int (pa_cons pe_int pa_nil)))))))))) (pv 2) (fun _ _ => rfl))) pa_nil)) pe_int) pe_int (nomark _)))
      (fun _ _ _ _ _ => pv 2)) pa_nil)))), ?_⟩
  refine ⟨_, rfl, wl, 511, rfl, W, by decide, by decide, fun d H1 d0 d1 D1 => ⟨_, _, rfl, rfl, ?_⟩⟩
  have L := el_lcR1 (σ := [some (V.ref wl.w), some (.int (1 + d)), none]) (H := H1) (j := 2) (vs := [2]) (n := 9) (t := tTest (tOp rEq (tOp (rI (fun _ j => j ≠ 0) fun i j => .int (i.fmod j)) (tCB (fun xs H Q => (∃ i, xs = [V.int i] ∧ Q (.int i) H) ∨ ∃ k, xs = [.bl k] ∧ Q (.int (if k then 1 else 0)) H) (tCons (tOp (rI CDivW fun i j => .int (i / j)) (tVar 1) (tOp (rIxL K) (tLst (tCons (tC (.int 1)) (tCons (tC (.int 2)) (tCons (tC (.int 4)) (tCons (tC (.int 8)) (tCons (tC (.int 16)) (tCons (tC (.int 32)) (tCons (tC (.int 64)) (tCons (tC (.int 128)) (tCons (tC (.int 256)) tNil)))))))))) (tVar 2))) tNil)) (tC (.int 2))) (tC (.int 1)))) (te := tVar 2)
    (fun i => decide (V.int (((1 + d) / (2 ^ i : Int)).fmod 2) = V.int 1)) (fun i => .int (i : Int)) (ea_cons ev_c ea_nil) (by decide) (fun _ => rfl) (fun i H2 e2 hi => ?_) (fun i H2 e2 hi _ => ev_var rfl)
  · dsimp only [gName]
    exact s_retTL (K := K) L fun p H2 hp e2 h2 => k _ p _ (bits_some d d0 d1) (D1.free W hp) (D1.same e2) h2
  · have h2 : (0 : Int) < 2 ^ i := by
      have : (0 : Int) < 2 := by decide
      exact Int.pow_pos this
    refine et_test (ev_op (ev_op (ev_cb (ea_cons (ev_op (ev_var rfl) (ev_pick (K := K) (xs := pows) (i := i) (ea_cons ev_c (ea_cons ev_c (ea_cons ev_c (ea_cons ev_c (ea_cons ev_c (ea_cons ev_c (ea_cons ev_c (ea_cons ev_c (ea_cons ev_c ea_nil))))))))) (by decide) (ev_var rfl) (pows_get (by omega))) (rv_I ?_)) ea_nil) fun H3 e3 Q q => .inl ⟨_, rfl, q H3 (Ex.refl H3)⟩) ev_c (rv_I (show (2 : Int) ≠ 0 by decide))) ev_c (rv_eq rfl))
    refine wide_div h2 (b := 20) ?_ (by decide) (by decide)
    have hi9 : i < 9 := by omega
    rw [Int.natAbs_pow]
    exact Nat.pow_lt_pow_right (by decide) (by omega)
end
end Hs
namespace Hs
open PySem PySem.Spec PyProof.Rows L2 Hu Evl
section
variable {P : Program} {wd : World} {K : PySem.W.Frag} {mg : Str → Option Value} {base : Heap} {C : Addr} {fD : Addr} {dD : FuncData}
theorem letters_len : (TL.tl lettersZ).length = 26 := by decide +kernel
theorem letters_ok : (TL.tl lettersZ).all lowc = true := by decide +kernel
def spName : Sp := fun vs H Q _ => ∃ wl : WA, vs = [.ref wl.w] ∧ Well H wl ∧ ∀ (z : Str) (H' : Hp), gNam (.str z) = true → Drawn wl H H' → Q (.str z) H'
theorem scName : FnScope ["well", "many", "k"] ["well"] (defScope lName) := ⟨rfl, rfl, rfl, by decide +kernel, rfl, by decide +kernel, by decide +kernel⟩
theorem join_signs : ∀ l : List Str, (∀ z ∈ l, ∃ c, z = ⟨#[c]⟩ ∧ lowc c = true) → (l.map (·.length)).sum = l.length ∧ ((l.map TL.tl).flatten).length = l.length ∧ ∀ c ∈ (l.map TL.tl).flatten, lowc c = true := by
  intro l
  induction l with
  | nil => exact fun _ => ⟨rfl, rfl, fun c hc => by cases hc⟩
  | cons a r ih =>
    intro h
    obtain ⟨i1, i2, i3⟩ := ih fun z hz => h z (List.mem_cons_of_mem _ hz)
    obtain ⟨c, ec, oc⟩ := h a List.mem_cons_self
    subst ec
    refine ⟨?_, ?_, ?_⟩
    · rw [List.map_cons, List.sum_cons, i1, List.length_cons]
      show 1 + r.length = r.length + 1
      omega
    · show (TL.tl (⟨#[c]⟩ : Str) ++ (r.map TL.tl).flatten).length = _
      rw [sgn_tl, List.length_append, i2, List.length_cons]
      show 1 + r.length = r.length + 1
      omega
    · intro b hb
      have hb' : b ∈ TL.tl (⟨#[c]⟩ : Str) ++ (r.map TL.tl).flatten := hb
      rcases List.mem_append.mp hb' with hb | hb
      · rw [sgn_tl] at hb
        rw [List.mem_singleton.mp hb]
        exact oc
      · exact i3 b hb
theorem ok_name {f : Addr} {fd : FuncData} (F : Fun K "_law_name" "_law_name" lName f fd) (B : Bt mg) (D : Dd P wd K mg base fD dD) : FnOk P wd K mg base CX0 4 f fd ["well"] spName := by
  refine F.ok scName (fun vs H Q E h => ?_) (fun cdv A outer s H vs Q E hr h => ?_)
  · obtain ⟨wl, rfl, _⟩ := h
    rfl
  obtain ⟨wl, rfl, W, k⟩ := h
  have GD : FnOk P wd K mg base CX0 3 fD dD ["well", "many"] spDraw := D.ok
  refine ⟨_, pss_cons (ps_set (i := 1) scName.nd rfl (.inl rfl) (pe_op op_add pe_int (pe_draw D hr (by decide) (by rfl) (pv 0) pe_int)))
    (Evl.pss_cut (ps_if (pt_cmpR op_eq (pe_draw D hr (by decide) (by rfl) (pv 0) pe_int) pe_int (nomark _)) (pss_one (ps_set (i := 1) scName.nd rfl (.inl rfl) (pe_op op_add pe_int (pe_draw D hr (by decide) (by rfl) (pv 0) pe_int)))) pss_nil)
    (pss_one (ps_ret (pe_join pe_str (pe_lc (own := [("k", 2)]) (g := gName 2) (tt := tYes) rfl scName.nd (pi_range1 (by rfl) B.range (pa_cons (pv 1) pa_nil)) (blkOk_by (N := ["well", "many", "k"]) (sc := defScope lName) (by decide +kernel))
        (fun _ _ _ _ _ => pg_name (i := 2) scName.nd rfl (Or.inl rfl)) (fun _ _ _ _ _ => pts_nil)
        (fun _ _ _ _ _ => pe_ix ix_str pe_str (pe_call GD hr (by rfl) D.g D.kp D.b .nil pass0 (pa_cons (pv 0) (pa_cons pe_int pa_nil))) (fun _ _ => rfl))))))), ?_⟩
  refine ⟨_, rfl, wl, 2, rfl, W, by decide, by decide, fun d H1 d0 d1 D1 => ⟨_, _, rfl, rfl, ?_⟩⟩
  refine ⟨fun σ' H' => ∃ m : Int, σ' = [some (.ref wl.w), some (.int m), none] ∧ 1 ≤ m ∧ m ≤ 8 ∧ Drawn wl H H', ?_, ?_⟩
  · refine ⟨_, rfl, wl, 4, rfl, D1.well, by decide, by decide, fun d2 H2 e0 e1 D2 => ⟨rfl, _, rfl, ite2 (fun q => ?_) (fun q => ⟨1 + d, rfl, by omega, by omega, D1.trans D2⟩)⟩⟩
    exact ⟨_, rfl, wl, 8, rfl, D2.well, by decide, by decide, fun d3 H3 f0 f1 D3 => ⟨_, _, rfl, rfl, 1 + d3, rfl, by omega, by omega, (D1.trans D2).trans D3⟩⟩
  · rintro σ' H1 ⟨m, rfl, m1, m8, D1⟩
    refine ⟨⟨_, rfl⟩, _, rfl, m, rfl, by omega, by omega, fun D' hD => ?_⟩
    refine lc_range (lo := 0) (n := m.toNat) (fun i H' => Drawn wl H1 H' ∧ ∃ zs : List Str, H' D' = some (.lst (zs.map V.str)) ∧ zs.length = i ∧ ∀ z ∈ zs, ∃ c, z = ⟨#[c]⟩ ∧ lowc c = true)
      ⟨(Drawn.refl D1.well).new hD, [], upd_same, rfl, fun z hz => by cases hz⟩ ?_ ?_
    · rintro i H2 hi ⟨D2, zs, hz, hl, hc⟩
      have nD := (D1.well.ne hD).1
      refine ⟨rfl, _, rfl, wl, 26, rfl, D2.well, by decide, by decide, fun d H3 d0 d1 D3 => ?_⟩
      have hd : d.toNat < (TL.tl lettersZ).length := by
        rw [letters_len]
        omega
      have ho : lowc (TL.tl lettersZ)[d.toNat] = true := List.all_eq_true.mp letters_ok _ (List.getElem_mem hd)
      refine ⟨lettersZ, d, (TL.tl lettersZ)[d.toNat], rfl, rfl, ?_, ?_, zs.map V.str, D3.keep D' _ nD hz, ?_, ?_⟩
      · rw [TL.len_tl] at *
        exact len_fine (by decide +kernel)
      · have e : d = ((d.toNat : Nat) : Int) := by omega
        have hg : (TL.tl lettersZ)[d.toNat]? = some (TL.tl lettersZ)[d.toNat] := List.getElem?_eq_getElem hd
        have := atI_nat hg
        rw [← e] at this
        exact this
      · rw [List.length_map]
        have := bit_line
        unfold bit at this
        omega
      · refine ⟨(D2.trans D3).put D1.well hD, zs ++ [⟨#[(TL.tl lettersZ)[d.toNat]]⟩], ?_, ?_, ?_⟩
        · rw [upd_same, List.map_append]
          rfl
        · rw [List.length_append, hl]
          rfl
        · intro z hz
          rcases List.mem_append.mp hz with hz | hz
          · exact hc z hz
          · exact ⟨_, List.mem_singleton.mp hz, ho⟩
    · rintro H2 ⟨D2, zs, hz, hl, hc⟩
      obtain ⟨s1, s2, s3⟩ := join_signs zs hc
      refine ⟨_, D', zs, rfl, rfl, .inl (SqL.of hz), ?_, k _ _ ?_ (D1.trans D2)⟩
      · show (zs.map (·.length)).sum + zs.length * 0 ≤ 16777216
        omega
      · have e1 : (Txt.join ("" : Str) zs).length = m.toNat := by
          rw [TL.len_tl, join_tl, s2, hl]
        have e2 : (TL.tl (Txt.join ("" : Str) zs)).all lowc = true := by
          rw [join_tl]
          exact List.all_eq_true.mpr s3
        show ((decide (1 ≤ (Txt.join ("" : Str) zs).length) && decide ((Txt.join ("" : Str) zs).length ≤ 8)) && (TL.tl (Txt.join ("" : Str) zs)).all lowc) = true
        rw [e1, e2, decide_eq_true (by omega), decide_eq_true (by omega)]
        rfl
end
end Hs
namespace Hs
open PySem PySem.Spec PyProof.Rows L2 Hu Evl
open Hk (SI ltSI)
abbrev lUnlike : Stmt := topS 100
def ltZ (a b : Str) : Prop := a.cps.toList < b.cps.toList
theorem not_lt_of {a b : Str} (h : ltCps b.cps.toList a.cps.toList = false) : ¬ b.cps.toList < a.cps.toList := by
  rw [ltCps_eq] at h
  exact of_decide_eq_false h
theorem rising_pw : ∀ {l : List Str} {p : Str}, risingS p l = true → (p :: l).Pairwise fun a b => ¬ b.cps.toList < a.cps.toList
  | [], p, _ => List.pairwise_singleton _ _
  | x :: r, p, h => by
    have h' : (!ltCps x.cps.toList p.cps.toList && risingS x r) = true := h
    obtain ⟨h1, h2⟩ := and2 h'
    have n1 := not_lt_of (by simpa using h1)
    have ih := rising_pw h2
    rw [List.pairwise_cons]
    refine ⟨fun y hy => ?_, ih⟩
    rcases List.mem_cons.mp hy with e | hy
    · rw [e]
      exact n1
    · have n2 := (List.pairwise_cons.mp ih).1 y hy
      exact List.not_lt.mpr (List.le_trans (List.not_lt.mp n1) (List.not_lt.mp n2))
theorem sorted_lt {l : List Str} (h : sortedS l = true) (n : l.Nodup) : l.Pairwise ltZ := by
  cases l with
  | nil => exact .nil
  | cons x r =>
    refine ((rising_pw h).and n).imp fun {a b} q => ?_
    rcases Hk.lt_tri a.cps.toList b.cps.toList with z | z | z
    · exact z
    · exact absurd (Hk.str_ext z) q.2
    · exact absurd z q.1
/-- the pairs of integers of these values -/
inductive P2 (H : Hp) : List V → List (Int × Int) → Prop
  | nil : P2 H [] []
  | cons {p : Addr} {k : Int × Int} {vs : List V} {ks : List (Int × Int)} : H p = some (.tup [.int k.1, .int k.2]) → P2 H vs ks → P2 H (.ref p :: vs) (k :: ks)
theorem P2.tups {H H' : Hp} {vs : List V} {ks : List (Int × Int)} (e : ∀ b zs, H b = some (.tup zs) → H' b = some (.tup zs)) (h : P2 H vs ks) : P2 H' vs ks := by
  induction h with
  | nil => exact .nil
  | cons h _ ih => exact .cons (e _ _ h) ih
theorem P2.len {H : Hp} {vs : List V} {ks : List (Int × Int)} (h : P2 H vs ks) : vs.length = ks.length := by
  induction h with
  | nil => rfl
  | cons _ _ ih => rw [List.length_cons, List.length_cons, ih]
theorem P2.snoc {H : Hp} {vs : List V} {ks : List (Int × Int)} {p : Addr} {k : Int × Int} (h : P2 H vs ks) (hp : H p = some (.tup [.int k.1, .int k.2])) : P2 H (vs ++ [.ref p]) (ks ++ [k]) := by
  induction h with
  | nil => exact .cons hp .nil
  | cons h _ ih => exact .cons h ih
theorem P2.get {H : Hp} {vs : List V} {ks : List (Int × Int)} (h : P2 H vs ks) : ∀ {j : Nat} {v : V}, vs[j]? = some v → ∃ p k, v = .ref p ∧ ks[j]? = some k ∧ H p = some (.tup [.int k.1, .int k.2]) := by
  induction h with
  | nil => exact fun e => by simp at e
  | cons h _ ih =>
    intro j v e
    cases j with
    | zero =>
      cases e
      exact ⟨_, _, rfl, rfl, h⟩
    | succ j => exact ih e
def kf (H : Hp) (v : V) : Int × Int := match v with
  | .ref p => match H p with
    | some (.tup [.int i, .int j]) => (i, j)
    | _ => (0, 0)
  | _ => (0, 0)
theorem P2.kf {H : Hp} {vs : List V} {ks : List (Int × Int)} (h : P2 H vs ks) : ks = vs.map (kf H) := by
  induction h with
  | nil => rfl
  | cons h _ ih =>
    rw [List.map_cons, ← ih]
    congr 1
    show _ = match H _ with | some (.tup [.int i, .int j]) => (i, j) | _ => (0, 0)
    rw [h]
theorem P2.of {H : Hp} : ∀ {vs : List V}, (∀ v ∈ vs, ∃ p, v = .ref p ∧ H p = some (.tup [.int (Hs.kf H v).1, .int (Hs.kf H v).2])) → P2 H vs (vs.map (Hs.kf H))
  | [], _ => .nil
  | v :: vs, h => by
    obtain ⟨p, rfl, hp⟩ := h v (List.mem_cons_self ..)
    exact .cons hp (P2.of fun u hu => h u (List.mem_cons_of_mem _ hu))
theorem shp_list {ds : List PyData} (h : ∀ d ∈ ds, d.canLay0 = true ∧ d.depth ≤ 5) : SeqAt.shaped (.list ds) = true := by
  have h1 : PyData.canLayAll0 ds = true := by
    induction ds with
    | nil => rfl
    | cons d ds ih =>
      simp only [PyData.canLayAll0, Bool.and_eq_true]
      exact ⟨(h d (List.mem_cons_self ..)).1, ih fun x hx => h x (List.mem_cons_of_mem _ hx)⟩
  have h2 : PyData.depthAll ds ≤ 5 := by
    clear h1
    induction ds with
    | nil => simp [PyData.depthAll]
    | cons d ds ih =>
      simp only [PyData.depthAll]
      have := (h d (List.mem_cons_self ..)).2
      have := ih fun x hx => h x (List.mem_cons_of_mem _ hx)
      omega
  show ((PyData.list ds).canLay0 && decide ((PyData.list ds).depth ≤ 64)) = true
  have e1 : (PyData.list ds).canLay0 = true := by
    simp only [PyData.canLay0]
    exact h1
  have e2 : (PyData.list ds).depth ≤ 64 := by
    simp only [PyData.depth]
    omega
  rw [e1, decide_eq_true e2]
  rfl
section
variable {P : Program} {wd : World} {K : PySem.W.Frag} {mg : Str → Option Value} {base : Heap} {C : Addr}
theorem scUn : FnScope ["things", "found", "thing"] ["things"] (defScope lUnlike) := ⟨rfl, rfl, rfl, by decide +kernel, rfl, by decide +kernel, by decide +kernel⟩
/-! ### texts -/
theorem dp_strs {H : Hp} : ∀ zs : List Str, DpAll K H (zs.map V.str) (zs.map PyData.str)
  | [] => .nil
  | z :: zs => .cons (.str z) (dp_strs zs)
theorem any_strs (zs : List Str) (z : Str) : ((zs.map PyData.str).any fun d => PyData.eqv d (.str z)) = decide (z ∈ zs) := by
  induction zs with
  | nil => rfl
  | cons x zs ih =>
    rw [List.map_cons, List.any_cons, ih]
    have e : PyData.eqv (.str x) (.str z) = decide (x = z) := by
      simp only [PyData.eqv]
      by_cases q : x = z
      · rw [q]
        simp
      · rw [decide_eq_false q]
        exact beq_eq_false_iff_ne.mpr q
    rw [e]
    by_cases q : x = z
    · simp [q]
    · simp [q, Ne.symm q, fun e : z = x => q e.symm]
theorem rv_notStr {H : Hp} {l : Addr} {zs : List Str} {z : Str} (hl : H l = some (.lst (zs.map V.str))) (hz : ∀ x ∈ zs, PyData.strOk x = true) (h1 : PyData.strOk z = true) : RV (rNotInD K) (.str z) (.ref l) H (.bl (!decide (z ∈ zs))) := fun H1 e Q q =>
  ⟨_, _, .str z, .lst (sq_of (e _ _ hl)) (dp_strs zs), by
    show ((PyData.str z).canLay0 && decide ((PyData.str z).depth ≤ 64)) = true
    simp [PyData.canLay0, PyData.depth, h1], shp_list fun d hd => by
    obtain ⟨x, hx, rfl⟩ := List.mem_map.mp hd
    exact ⟨by simp [PyData.canLay0, hz x hx], by simp [PyData.depth]⟩, by
    rw [any_strs]
    exact q H1 (Ex.refl H1)⟩
def spUnS : Sp := fun vs H Q _ => ∃ (a : Addr) (zs : List Str), vs = [.ref a] ∧ H a = some (.lst (zs.map V.str)) ∧ 1 ≤ zs.length ∧ zs.length ≤ 50 ∧ (∀ z ∈ zs, PyData.strOk z = true) ∧
  ∀ (p : Addr) (ys : List Str) H', H p = none → Same H H' → H' p = some (.lst (ys.map V.str)) → 1 ≤ ys.length → ys.length ≤ zs.length → (∀ y ∈ ys, y ∈ zs) → ys.Pairwise ltZ → Q (.ref p) H'
theorem ok_unS {f : Addr} {fd : FuncData} (F : Fun K "_law_unlike" "_law_unlike" lUnlike f fd) (Z : Bz mg) : FnOk P wd K mg base CX0 2 f fd ["things"] spUnS := by
  refine F.ok scUn (fun vs H Q E h => ?_) (fun cdv A outer s H vs Q E hr h => ?_)
  · obtain ⟨a, zs, rfl, _⟩ := h
    rfl
  obtain ⟨a, zs, rfl, ha, z1, z50, hz, k⟩ := h
  have u65 : ∀ {k : Nat} {A : Around}, Room k A → A.units + 65 < cLine := fun {k A} r => by
    have := r.un
    omega
  refine ⟨_, pss_cons (ps_set (i := 1) scUn.nd rfl (.inl rfl) (pe_lst pa_nil))
    (pss_cons (ps_for PassesOwn.never rfl (pi_list (pv 0)) (pg_name (i := 2) scUn.nd rfl (Or.inl rfl))
      (pss_one (ps_if (pt_cmpR (show OpR _ _ (rNotInD K) from op_notInD (u65 hr)) (pv 2) (pv 1) (by rfl)) (pss_one (ps_expr (pe_bm PySem.F.plainAttrs_list PySem.F.slot_list_append PySem.F.type_list_append mt_append (pv 1) (pa_cons (pv 2) pa_nil)))) pss_nil)))
    (pss_one (ps_ret (pe_callB cr_sortedS (by rfl) Z.sort boot_sorted' (pa_cons (pv 1) pa_nil))))), ?_⟩
  refine q_asgL (el_lst ea_nil (by decide)) fun l H1 hl e1 h1 => ?_
  refine q_forL (ev_var rfl) (sq_of (e1 _ _ ha)) (fun i σ' H' => ∃ (x2 : Option V) (fs : List Str), σ' = [some (.ref a), some (.ref l), x2] ∧ Ex H H' ∧ H' l = some (.lst (fs.map V.str)) ∧ fs.length ≤ i ∧ (1 ≤ i → 1 ≤ fs.length) ∧ fs.Nodup ∧ ∀ y ∈ fs, y ∈ zs)
    (fun H2 e2 => ⟨_, [], rfl, e1.trans e2, e2 _ _ h1, Nat.le_refl _, fun h => absurd h (by decide), .nil, fun y hy => by cases hy⟩) (fun i σ' H' _ ⟨x2, fs, _, e, _⟩ => sq_of (e _ _ ha)) ?_ ?_
  · rintro i x σ' H2 hi ⟨x2, fs, rfl, e2, h2, l1, l2, nd, mem⟩
    rw [List.getElem?_map] at hi
    cases hzi : zs[i]? with
    | none => rw [hzi] at hi; cases hi
    | some z =>
      rw [hzi] at hi
      cases hi
      have hzm := List.mem_of_getElem? hzi
      show tIfS _ _ tNext _ [some (V.ref a), some (.ref l), some (.str z)] H2
      refine s_when (et_test (ev_op (ev_var rfl) (ev_var rfl) (rv_notStr h2 (fun y hy => hz y (mem y hy)) (hz z hzm)))) (fun q H3 e3 => ?_) (fun q H3 e3 => ?_)
      · have q' : z ∉ fs := by simpa using q
        refine s_app (K := K) (e3 _ _ h2) (ev_var rfl) (ev_var rfl) (by rw [List.length_map]; have := (List.getElem?_eq_some_iff.mp hzi).1; omega) fun H4 e4 => ⟨_, fs ++ [z], rfl, Ex.mut ((e2.trans e3).trans e4) hl, by rw [upd_same, List.map_append]; rfl, by rw [List.length_append]; show fs.length + 1 ≤ i + 1; omega, fun _ => by rw [List.length_append]; show 1 ≤ fs.length + 1; omega, ?_, ?_⟩
        · rw [List.nodup_append]
          refine ⟨nd, by simp, fun y hy c hc => ?_⟩
          rw [List.mem_singleton] at hc
          subst hc
          exact fun e => q' (e ▸ hy)
        · intro y hy
          rcases List.mem_append.mp hy with h | h
          · exact mem y h
          · rw [List.mem_singleton.mp h]
            exact hzm
      · have q' : z ∈ fs := by simpa using q
        exact ⟨_, fs, rfl, e2.trans e3, e3 _ _ h2, by omega, fun _ => List.length_pos_of_mem q', nd, mem⟩
  · rintro σ' H2 ⟨x2, fs, rfl, e2, h2, l1, l2, nd, mem⟩
    rw [List.length_map] at l1 l2
    refine ⟨.ref l, rfl, l, fs, rfl, sq_of h2, by omega, fun ys p perm hs hp => ?_⟩
    refine k p ys _ (fresh_back e2 hp) (e2.trans (Ex.new hp)) upd_same (by rw [perm.length_eq]; exact l2 z1) (by rw [perm.length_eq]; exact l1) (fun y hy => mem y (perm.mem_iff.mp hy)) (sorted_lt hs (perm.nodup_iff.mpr nd))
end
end Hs
namespace Hs
open PySem PySem.Spec PyProof.Rows L2 Hu Evl
open Hk (SI ltSI)
def ltI2 (a b : Int × Int) : Prop := a.1 < b.1 ∨ (a.1 = b.1 ∧ a.2 < b.2)
theorem P2.dp {K : PySem.W.Frag} {H : Hp} {vs : List V} {ks : List (Int × Int)} (h : P2 H vs ks) : DpAll K H vs (ks.map fun k => PyData.tuple [.int k.1, .int k.2]) := by
  induction h with
  | nil => exact .nil
  | cons h _ ih => exact .cons (dp2 h) ih
theorem any_p2 (ks : List (Int × Int)) (k : Int × Int) : ((ks.map fun k => PyData.tuple [.int k.1, .int k.2]).any fun d => PyData.eqv d (.tuple [.int k.1, .int k.2])) = decide (k ∈ ks) := by
  induction ks with
  | nil => rfl
  | cons x ks ih =>
    rw [List.map_cons, List.any_cons, ih, eqv2]
    have e : (decide (x.1 = k.1) && decide (x.2 = k.2)) = decide (x = k) := by
      by_cases q : x = k
      · rw [q]
        simp
      · rw [decide_eq_false q]
        by_cases q1 : x.1 = k.1
        · rw [decide_eq_true q1, decide_eq_false fun q2 => q (Prod.ext q1 q2)]
          rfl
        · rw [decide_eq_false q1]
          rfl
    rw [e]
    by_cases q : x = k
    · simp [q]
    · simp [q]
      exact fun e => absurd e.symm q
theorem rv_notP2 {K : PySem.W.Frag} {H : Hp} {l p : Addr} {vs : List V} {ks : List (Int × Int)} {k : Int × Int} (hl : H l = some (.lst vs)) (h : P2 H vs ks) (hp : H p = some (.tup [.int k.1, .int k.2])) : RV (rNotInD K) (.ref p) (.ref l) H (.bl (!decide (k ∈ ks))) := fun H1 e Q q =>
  ⟨_, _, dp2 (e _ _ hp), .lst (sq_of (e _ _ hl)) (P2.dp (h.tups fun b zs hb => e _ _ hb)), shp2 _ _, shp_list fun d hd => by
    obtain ⟨x, hx, rfl⟩ := List.mem_map.mp hd
    exact ⟨by simp [PyData.canLay0, PyData.canLayAll0], by simp [PyData.depth, PyData.depthAll]⟩, by
    rw [any_p2]
    exact q H1 (Ex.refl H1)⟩
section
variable {P : Program} {wd : World} {K : PySem.W.Frag} {mg : Str → Option Value} {base : Heap} {C : Addr}
def spUnP : Sp := fun vs H Q _ => ∃ (a : Addr) (xs : List V) (ks : List (Int × Int)), vs = [.ref a] ∧ H a = some (.lst xs) ∧ P2 H xs ks ∧ 1 ≤ ks.length ∧ ks.length ≤ 50 ∧
  ∀ (p : Addr) (ys : List V) (js : List (Int × Int)) H', H p = none → Same H H' → H' p = some (.lst ys) → P2 H' ys js → 1 ≤ js.length → js.length ≤ ks.length → (∀ y ∈ js, y ∈ ks) → js.Pairwise ltI2 → Q (.ref p) H'
theorem ok_unP {f : Addr} {fd : FuncData} (F : Fun K "_law_unlike" "_law_unlike" lUnlike f fd) (Z : Bz mg) : FnOk P wd K mg base CX0 2 f fd ["things"] spUnP := by
  refine F.ok scUn (fun vs H Q E h => ?_) (fun cdv A outer s H vs Q E hr h => ?_)
  · obtain ⟨a, xs, ks, rfl, _⟩ := h
    rfl
  obtain ⟨a, xs, ks, rfl, ha, hp2, z1, z50, k⟩ := h
  have u65 : ∀ {k : Nat} {A : Around}, Room k A → A.units + 65 < cLine := fun {k A} r => by
    have := r.un
    omega
  refine ⟨_, pss_cons (ps_set (i := 1) scUn.nd rfl (.inl rfl) (pe_lst pa_nil))
    (pss_cons (ps_for PassesOwn.never rfl (pi_list (pv 0)) (pg_name (i := 2) scUn.nd rfl (Or.inl rfl))
      (pss_one (ps_if (pt_cmpR (show OpR _ _ (rNotInD K) from op_notInD (u65 hr)) (pv 2) (pv 1) (by rfl)) (pss_one (ps_expr (pe_bm PySem.F.plainAttrs_list PySem.F.slot_list_append PySem.F.type_list_append mt_append (pv 1) (pa_cons (pv 2) pa_nil)))) pss_nil)))
    (pss_one (ps_ret (pe_callB cr_sortedPO (by rfl) Z.sort boot_sorted' (pa_cons (pv 1) pa_nil))))), ?_⟩
  have hlen := hp2.len
  refine q_asgL (el_lst ea_nil (by decide)) fun l H1 hl e1 h1 => ?_
  refine q_forL (ev_var rfl) (sq_of (e1 _ _ ha)) (fun i σ' H' => ∃ (x2 : Option V) (vs : List V) (js : List (Int × Int)), σ' = [some (.ref a), some (.ref l), x2] ∧ Ex H H' ∧ H' l = some (.lst vs) ∧ P2 H' vs js ∧ js.length ≤ i ∧ (1 ≤ i → 1 ≤ js.length) ∧ js.Nodup ∧ ∀ y ∈ js, y ∈ ks)
    (fun H2 e2 => ⟨_, [], [], rfl, e1.trans e2, e2 _ _ h1, .nil, Nat.le_refl _, fun h => absurd h (by decide), .nil, fun y hy => by cases hy⟩) (fun i σ' H' _ ⟨x2, vs, js, _, e, _⟩ => sq_of (e _ _ ha)) ?_ ?_
  · rintro i x σ' H2 hi ⟨x2, vs, js, rfl, e2, h2, p2, l1, l2, nd, mem⟩
    have hi' := (List.getElem?_eq_some_iff.mp hi).1
    obtain ⟨p, z, rfl, hz, hp⟩ := hp2.get hi
    have hzm := List.mem_of_getElem? hz
    have hpx := e2 _ _ hp
    show tIfS _ _ tNext _ [some (V.ref a), some (.ref l), some (.ref p)] H2
    refine s_when (et_test (ev_op (ev_var rfl) (ev_var rfl) (rv_notP2 h2 p2 hpx))) (fun q H3 e3 => ?_) (fun q H3 e3 => ?_)
    · have q' : z ∉ js := by simpa using q
      have lv := p2.len
      refine s_app (K := K) (e3 _ _ h2) (ev_var rfl) (ev_var rfl) (by omega) fun H4 e4 => ⟨_, vs ++ [.ref p], js ++ [z], rfl, Ex.mut ((e2.trans e3).trans e4) hl, upd_same, ?_, by rw [List.length_append]; show js.length + 1 ≤ i + 1; omega, fun _ => by rw [List.length_append]; show 1 ≤ js.length + 1; omega, ?_, ?_⟩
      · have nt : ∀ b zs, H4 b = some (.tup zs) → upd H4 l (.lst (vs ++ [.ref p])) b = some (.tup zs) := fun b zs hb => by
          rw [upd_ne (fun z => by rw [z, e4 _ _ (e3 _ _ h2)] at hb; cases hb)]
          exact hb
        exact ((p2.tups fun b zs hb => e4 _ _ (e3 _ _ hb)).snoc (e4 _ _ (e3 _ _ hpx))).tups nt
      · rw [List.nodup_append]
        refine ⟨nd, by simp, fun y hy c hc => ?_⟩
        rw [List.mem_singleton] at hc
        subst hc
        exact fun e => q' (e ▸ hy)
      · intro y hy
        rcases List.mem_append.mp hy with h | h
        · exact mem y h
        · rw [List.mem_singleton.mp h]
          exact hzm
    · have q' : z ∈ js := by simpa using q
      exact ⟨_, vs, js, rfl, e2.trans e3, e3 _ _ h2, p2.tups (fun b zs hb => e3 _ _ hb), by omega, fun _ => List.length_pos_of_mem q', nd, mem⟩
  · rintro σ' H2 ⟨x2, vs, js, rfl, e2, h2, p2, l1, l2, nd, mem⟩
    rw [hlen] at l1 l2
    have ek := p2.kf
    have hget : ∀ v ∈ vs, ∃ t, v = .ref t ∧ H2 t = some (.tup [.int (Hs.kf H2 v).1, .int (Hs.kf H2 v).2]) := fun v hv => by
      obtain ⟨j, hj⟩ := List.mem_iff_getElem?.mp hv
      obtain ⟨p, z, rfl, hz, hp⟩ := p2.get hj
      refine ⟨p, rfl, ?_⟩
      have : Hs.kf H2 (.ref p) = z := by
        show (match H2 p with | some (.tup [.int i, .int j]) => (i, j) | _ => (0, 0)) = z
        rw [hp]
      rw [this]
      exact hp
    refine ⟨.ref l, rfl, l, vs, Hs.kf H2, rfl, sq_of h2, hget, fun ys p hs hb hp => ?_⟩
    have perm := hb.perm
    have hget2 : ∀ v ∈ ys, ∃ t, v = .ref t ∧ H2 t = some (.tup [.int (Hs.kf H2 v).1, .int (Hs.kf H2 v).2]) := fun v hv => hget v (perm.mem_iff.mp hv)
    have pm : (ys.map (Hs.kf H2)).Perm js := by
      rw [ek]
      exact perm.map _
    have nd2 : (ys.map (Hs.kf H2)).Nodup := pm.nodup_iff.mpr nd
    refine k p ys (ys.map (Hs.kf H2)) _ (fresh_back e2 hp) (e2.trans (Ex.new hp)) upd_same ((P2.of hget2).tups fun b zs hb => Ex.new hp _ _ hb) (by rw [pm.length_eq]; exact l2 z1) (by rw [pm.length_eq]; exact l1) (fun y hy => mem y (pm.mem_iff.mp hy)) ?_
    rw [List.pairwise_map]
    have nd3 : ys.Pairwise fun a b => Hs.kf H2 a ≠ Hs.kf H2 b := List.pairwise_map.mp nd2
    refine (List.Pairwise.and hs nd3).imp fun {a b} q => ?_
    have q1 := SrtO.lexB_no.mp q.1
    by_cases h1 : (Hs.kf H2 a).1 = (Hs.kf H2 b).1
    · refine .inr ⟨h1, ?_⟩
      have : (Hs.kf H2 a).2 ≠ (Hs.kf H2 b).2 := fun h2 => q.2 (Prod.ext h1 h2)
      omega
    · refine .inl ?_
      omega
end
end Hs
namespace Hs
open PySem PySem.Spec PyProof.Rows L2 Hu Evl
section
variable {P : Program} {wd : World} {K : PySem.W.Frag} {mg : Str → Option Value} {base : Heap} {C : Addr} {fD : Addr} {dD : FuncData}
theorem At.drawn {wl : WA} {H H' : Hp} {v : V} {u : U} (D : Drawn wl H H') (h : At wl.w C H v u) : At wl.w C H' v u := h.keep fun b o nb q => D.keep b o nb q
theorem AtL.drawn {wl : WA} {H H' : Hp} {vs : List V} {us : List U} (D : Drawn wl H H') (h : AtL wl.w C H vs us) : AtL wl.w C H' vs us := h.keep fun b o nb q => D.keep b o nb q
/-! ### rows -/
end
end Hs
namespace Hs
open PySem PySem.Spec PyProof.Rows L2 Hu Evl
open Hk (SI ltSI)
/-! ### right things are plain -/
theorem gId_pln {u : U} (h : gId u = true) : pln u := by
  obtain ⟨i, j, rfl⟩ := gId_two h
  simp [pln, plnL]
theorem gRow_pln {u : U} (h : gRow u = true) : pln u := by
  cases u with
  | tup us =>
    have h2 : (decide (us.length ≤ 12) && us.all gId) = true := h
    exact plnL_all.mpr fun x hx => gId_pln (List.all_eq_true.mp (and2 h2).2 x hx)
  | non => trivial
  | _ => cases h
theorem gStamp_two {u : U} (h : gStamp u = true) : ∃ i j, u = .tup [.int i, .int j] := by
  cases u with
  | tup us =>
    match us, h with
    | [a, b], h =>
      cases a with
      | int i => cases b with
        | int j => exact ⟨i, j, rfl⟩
        | _ => cases h
      | _ => cases h
  | _ => cases h
theorem gStamp_pln {u : U} (h : gStamp u = true) : pln u := by
  obtain ⟨i, j, rfl⟩ := gStamp_two h
  simp [pln, plnL]
theorem gMembers_pln {u : U} (h : gMembers u = true) : pln u := by
  cases u with
  | tup us =>
    have h2 : (((decide (1 ≤ us.length) && decide (us.length ≤ 9)) && us.all gHome) && ascI (us.map intU)) = true := h
    refine plnL_all.mpr fun x hx => ?_
    have := List.all_eq_true.mp (and2 (and2 h2).1).2 x hx
    cases x with
    | int i => trivial
    | _ => cases this
  | _ => cases h
/-! ### rows in order -/
theorem ascN_all {n : Nat} {lt : Nat → Bool} (h : ∀ k, k + 1 < n → lt k = true) : ascN n lt = true := by
  unfold ascN
  rw [List.all_eq_true]
  intro k hk
  rw [List.mem_range] at hk
  exact h k (by omega)
theorem pw_at {α : Type} {R : α → α → Prop} {xs : List α} {d : α} (h : xs.Pairwise R) {k : Nat} (hk : k + 1 < xs.length) : R (xs.getD k d) (xs.getD (k + 1) d) := by
  rw [getD_some (List.getElem?_eq_getElem (show k < xs.length by omega)), getD_some (List.getElem?_eq_getElem hk)]
  exact List.pairwise_iff_getElem.mp h k (k + 1) (by omega) hk (by omega)
theorem ascZ_pw {zs : List Str} (h : zs.Pairwise ltZ) : ascZ zs = true := ascN_all fun k hk => decide_eq_true (pw_at h hk)
theorem ascK_pw {kss : List (List L2.Key)} (h : kss.Pairwise fun a b => Hk.ltK a b = true) : ascK kss = true := ascN_all fun k hk => pw_at h hk
theorem ltK_i2 {a b : Int × Int} (h : ltI2 a b) : Hk.ltK [.inl a.1, .inl a.2] [.inl b.1, .inl b.2] = true := by
  show (if Hk.kEq (.inl a.1) (.inl b.1) = true then (if Hk.kEq (.inl a.2) (.inl b.2) = true then Hk.ltK [] [] else Hk.kLt (.inl a.2) (.inl b.2)) else Hk.kLt (.inl a.1) (.inl b.1)) = true
  rcases h with h | ⟨h1, h2⟩
  · rw [if_neg (fun e => by have := Sum.inl.inj (Hk.kEq_iff.mp e); omega)]
    exact decide_eq_true h
  · rw [if_pos (Hk.kEq_iff.mpr (by rw [h1])), if_neg (fun e => by have := Sum.inl.inj (Hk.kEq_iff.mp e); omega)]
    exact decide_eq_true h2
/-! ### members -/
theorem mem9 : ∀ b0 b1 b2 b3 b4 b5 b6 b7 b8 : Bool, (b0 || b1 || b2 || b3 || b4 || b5 || b6 || b7 || b8) = true → gMembers (.tup (((List.range 9).filter fun i => [b0, b1, b2, b3, b4, b5, b6, b7, b8].getD i false).map fun i : Nat => U.int (i : Int))) = true := by
  decide +kernel
def memU (f : Nat → Bool) : U := .tup (((List.range 9).filter f).map fun i : Nat => U.int (i : Int))
theorem memU_ok {f : Nat → Bool} (h : ∃ i, i < 9 ∧ f i = true) : gMembers (memU f) = true := by
  have e : (List.range 9).filter f = (List.range 9).filter fun i => [f 0, f 1, f 2, f 3, f 4, f 5, f 6, f 7, f 8].getD i false := by
    refine List.filter_congr fun i hi => ?_
    rw [List.mem_range] at hi
    match i, hi with
    | 0, _ | 1, _ | 2, _ | 3, _ | 4, _ | 5, _ | 6, _ | 7, _ | 8, _ => rfl
  unfold memU
  rw [e]
  refine mem9 _ _ _ _ _ _ _ _ _ ?_
  obtain ⟨i, hi, hf⟩ := h
  match i, hi with
  | 0, _ | 1, _ | 2, _ | 3, _ | 4, _ | 5, _ | 6, _ | 7, _ | 8, _ => simp [hf]
theorem atl_ints {w C : Addr} {H : Hp} : ∀ ns : List Nat, AtL w C H (ns.map fun i : Nat => V.int (i : Int)) (ns.map fun i : Nat => U.int (i : Int))
  | [] => .nil
  | n :: ns => .cons (.int _) (atl_ints ns)
theorem isB_mem {f : Nat → Bool} (hf : ∃ i, i < 9 ∧ f i = true) : isB (((List.range 9).filter f).map fun i : Nat => U.int (i : Int)) = false := by
  cases q : (List.range 9).filter f with
  | nil =>
    obtain ⟨i, hi, hfi⟩ := hf
    have : i ∈ (List.range 9).filter f := List.mem_filter.mpr ⟨List.mem_range.mpr hi, hfi⟩
    rw [q] at this
    cases this
  | cons n r => exact isB_first rfl
theorem not_well {H : Hp} {wl : WA} {p : Addr} {xs : List V} (W : Well H wl) (h : H p = some (.tup xs)) : p ≠ wl.w := fun z => by
  obtain ⟨cells, pos, rest, mix, h1, _⟩ := W.ex
  rw [← z, h] at h1
  cases h1
theorem mem_at {C : Addr} {H : Hp} {wl : WA} {p : Addr} {f : Nat → Bool} (hf : ∃ i, i < 9 ∧ f i = true) (W : Well H wl) (h : H p = some (.tup (given 9 f fun i : Nat => V.int (i : Int)))) : At wl.w C H (.ref p) (memU f) := by
  refine .tup (Tu.of h (isB_mem hf)) (not_well W h) ?_
  unfold given
  exact atl_ints _
theorem tidy_int {i : Int} (h : i.natAbs < 2 ^ 60) : tidy 0 (.int i) := by
  simp only [tidy]
  omega
theorem memU_bd (f : Nat → Bool) : Bd (memU f) 800 1 0 := by
  have hl : ((List.range 9).filter f).length ≤ 9 := by
    have := List.length_filter_le f (List.range 9)
    rwa [List.length_range] at this
  have key : ∀ ns : List Nat, (∀ n ∈ ns, n < 9) → wtL (ns.map fun i : Nat => U.int (i : Int)) = 82 * ns.length ∧ depL (ns.map fun i : Nat => U.int (i : Int)) = 0 ∧ tidyL 0 (ns.map fun i : Nat => U.int (i : Int)) := by
    intro ns
    induction ns with
    | nil => exact fun _ => ⟨rfl, rfl, trivial⟩
    | cons n ns ih =>
      intro h
      obtain ⟨i1, i2, i3⟩ := ih fun x hx => h x (List.mem_cons_of_mem _ hx)
      have := h n (List.mem_cons_self ..)
      refine ⟨?_, ?_, ?_, i3⟩
      · simp only [List.map_cons, wtL, i1, List.length_cons, wt]
        omega
      · simp only [List.map_cons, depL, i2, dep]
        omega
      · exact tidy_int (by omega)
  obtain ⟨k1, k2, k3⟩ := key ((List.range 9).filter f) fun n hn => by
    have := (List.mem_filter.mp hn).1
    rwa [List.mem_range] at this
  unfold memU
  refine ⟨?_, ?_, ?_⟩
  · simp only [wt, k1]
    omega
  · simp only [dep, k2]
    omega
  · simpa only [tidy] using k3
theorem pair_bd {i j : Int} (h1 : i.natAbs < 2 ^ 60) (h2 : j.natAbs < 2 ^ 60) : Bd (.tup [.int i, .int j]) 200 1 0 := by
  refine ⟨?_, ?_, ?_⟩
  · simp only [wt, wtL]
    omega
  · simp only [dep, depL]
    omega
  · simp only [tidy, tidyL]
    exact ⟨by omega, by omega, trivial⟩
end Hs
namespace Hs
open PySem PySem.Spec PyProof.Rows L2 Hu Evl
open Hk (SI ltSI)
theorem gNamed_pln {u : U} (h : gNamed u = true) : pln u := by
  obtain ⟨h1, h2, h3⟩ := and3 (a := gTO 3 u) (b := gNam (nth u 0)) (c := gStamp (nth u 1) && gRow (nth u 2)) h
  obtain ⟨h4, h5⟩ := and2 h3
  obtain ⟨us, rfl, hl⟩ := gTO_of h1
  match us, hl with
  | [a, b, c], _ =>
    obtain ⟨z, rfl⟩ := gNam_str (u := a) h2
    exact ⟨trivial, gStamp_pln (u := b) h4, gRow_pln (u := c) h5, trivial⟩
theorem gBlk_pln {u : U} (h : gBlk u = true) : pln u := by
  obtain ⟨h1, h2, h3⟩ := and3 h
  obtain ⟨a, b, rfl⟩ := gPair_two h1
  have h3' : gPiece b = true := h3
  have pb : pln b := by
    cases b with
    | str z => trivial
    | _ => cases h3'
  exact ⟨gId_pln (u := a) h2, pb, trivial⟩
theorem take_snoc' {α : Type} {xs : List α} {i : Nat} {x : α} (h : xs[i]? = some x) : xs.take (i + 1) = xs.take i ++ [x] := by
  rw [List.take_add_one, h]
  rfl
theorem nam_bd {z : Str} (h : gNam (.str z) = true) : Bd (.str z) 20 0 0 := by
  have h' : ((decide (1 ≤ z.length) && decide (z.length ≤ 8)) && (TL.tl z).all lowc) = true := h
  obtain ⟨h1, h2⟩ := and2 h'
  have h3 := of_decide_eq_true (and2 h1).2
  refine ⟨?_, Nat.zero_le _, ?_⟩
  · simp only [wt]
    omega
  · simp only [tidy]
    intro c hc
    have := List.all_eq_true.mp h2 c hc
    unfold lowc at this
    have q := and2 this
    have q1 := of_decide_eq_true q.1
    have q2 := of_decide_eq_true q.2
    refine .inl ?_
    unfold okS okc
    rw [decide_eq_true (by omega), decide_eq_true (by omega), decide_eq_true (by omega)]
    rfl
theorem nam_ok {z : Str} (h : gNam (.str z) = true) : PyData.strOk z = true := by
  have h' : ((decide (1 ≤ z.length) && decide (z.length ≤ 8)) && (TL.tl z).all lowc) = true := h
  have h2 := List.all_eq_true.mp (and2 h').2
  show z.cps.all (· < 0x110000) = true
  rw [Array.all_eq_true_iff_forall_mem]
  intro c hc
  have := h2 c (Array.mem_toList_iff.mpr hc)
  unfold lowc at this
  have q2 := of_decide_eq_true (and2 this).2
  exact decide_eq_true (by omega)
section
variable {P : Program} {wd : World} {K : PySem.W.Frag} {mg : Str → Option Value} {base : Heap} {C : Addr} {fD : Addr} {dD : FuncData}
/-- the rows that were made stand as they were while the list of them grows -/
theorem atl_put {w : Addr} {H : Hp} {l : Addr} {xs : List V} {o : HO} {vs : List V} {us : List U} (hl : H l = some (.lst xs)) (hp : ∀ u ∈ us, pln u) (h : AtL w C H vs us) : AtL w C (upd H l o) vs us :=
  atl_tups (tq_upd hl) (plnL_all.mpr hp) h
/-! ### heads -/
/-- the ids that the law draws: a list of them -/
structure Ids (C : Addr) (wl : WA) (H : Hp) (I : Addr) (xs : List V) (js : List (Int × Int)) : Prop where
  h : H I = some (.lst xs)
  ne : I ≠ wl.w
  p : P2 H xs js
  n : 1 ≤ js.length ∧ js.length ≤ 10
  b : ∀ j ∈ js, 1 ≤ j.1 ∧ j.1 ≤ 99 ∧ 1 ≤ j.2 ∧ j.2 < 2 ^ 60
  st : js.Pairwise ltI2
def idV (k : Int × Int) : U := .tup [.int k.1, .int k.2]
theorem Ids.keep {wl : WA} {H H' : Hp} {I : Addr} {xs : List V} {js : List (Int × Int)} (x : Ids C wl H I xs js) (W : Well H wl) (D : Drawn wl H H') : Ids C wl H' I xs js :=
  ⟨D.keep _ _ x.ne x.h, x.ne, x.p.tups fun b zs hb => D.keep _ _ (not_well W hb) hb, x.n, x.b, x.st⟩
theorem Ids.atl {wl : WA} {H : Hp} {I : Addr} {xs : List V} {js : List (Int × Int)} (x : Ids C wl H I xs js) (W : Well H wl) : AtL wl.w C H xs (js.map idV) := by
  have p := x.p
  clear x
  induction p with
  | nil => exact .nil
  | cons h _ ih => exact .cons (.tup h (not_well W h) (.cons (.int _) (.cons (.int _) .nil))) ih
theorem idV_ok {k : Int × Int} (h : 1 ≤ k.1 ∧ k.1 ≤ 99 ∧ 1 ≤ k.2 ∧ k.2 < 2 ^ 60) : Bd (idV k) 200 1 0 ∧ gId (idV k) = true := ⟨pair_bd (by omega) (by omega), idOk ⟨h.1, h.2.1, h.2.2.1⟩⟩
end
end Hs
namespace Hs
open PySem PySem.Spec PyProof.Rows L2 Hu Evl
open Hk (SI ltSI)
section
variable {P : Program} {wd : World} {K : PySem.W.Frag} {mg : Str → Option Value} {base : Heap} {C : Addr} {fD : Addr} {dD : FuncData}
theorem P2.at_ {H : Hp} {xs : List V} {js : List (Int × Int)} (h : P2 H xs js) {i : Nat} {x : V} (hx : xs[i]? = some x) : ∃ p k, x = .ref p ∧ js[i]? = some k ∧ H p = some (.tup [.int k.1, .int k.2]) := h.get hx
end
end Hs
namespace Hs
open PySem PySem.Spec PyProof.Rows L2 Hu Evl
open Hk (SI ltSI)
section
variable {P : Program} {wd : World} {K : PySem.W.Frag} {mg : Str → Option Value} {base : Heap} {C : Addr} {fD : Addr} {dD : FuncData}
section
variable {σ : L2.St} {H : Hp} {tp : TE} {tu tz : TS} {D : Ends}
theorem q_forRX {j : Nat} {R : Nat → Hp → Prop} (made : ∀ Q : VK, (∀ n H', R n H' → Q (.int (n : Int)) H') → tp σ H Q) (hn : ∀ n H', R n H' → n ≤ 100000) (Pv : Nat → Nat → L2.St → Hp → Prop) (h0 : ∀ n H', R n H' → Pv n 0 σ H')
    (hs : ∀ n (i : Nat) σ' H', i < n → Pv n i σ' H' → tu { D with nx := Pv n (i + 1), ct := Pv n (i + 1), bk := tz D } (σ'.set j (some (.int (i : Int)))) H') (hd : ∀ n σ' H', Pv n n σ' H' → tz D σ' H') : tSeq (tFor (iRng1 (tCons tp tNil)) (gName j) tu) tz D σ H :=
  made (fun x H1 => tNil σ H1 fun xs H2 => ∃ j' : Int, x :: xs = [.int j'] ∧ -(2 ^ 62) ≤ j' ∧ j' < 2 ^ 62 ∧ _) fun n H1 r => by
    have hb := hn n H1 r
    refine ⟨(n : Int), rfl, by omega, by omega, for_range (D := { D with nx := tz D }) (lo := 0) (n := n) (Pv n) (h0 n H1 r) (fun i σ' H' hi p => ?_) (fun σ' H' p => hd n σ' H' p)⟩
    have e0 : (0 : Int) + (i : Int) = (i : Int) := Int.zero_add _
    show tu { D with nx := Pv n (i + 1), ct := Pv n (i + 1), bk := tz D } (σ'.set j (some (.int ((0 : Int) + (i : Int))))) H'
    rw [e0]
    exact hs n i σ' H' (by omega) p
end
theorem drawn_tups {wl : WA} {H H' : Hp} (W : Well H wl) (D : Drawn wl H H') : ∀ b zs, H b = some (.tup zs) → H' b = some (.tup zs) := fun b zs h => D.keep _ _ (not_well W h) h
/-- what the law's leases are at first -/
structure LsOk (zs : List Str) (l : Ls) : Prop where
  n : l.1.1 ∈ zs
  h : 1 ≤ l.1.2 ∧ l.1.2 ≤ 99
  t : 0 ≤ l.2.1 ∧ l.2.1 < 6
  u : 0 ≤ l.2.2 ∧ l.2.2 < 10 ^ 12
end
end Hs
namespace Hs
open PySem PySem.Spec PyProof.Rows L2 Hu Evl
open Hk (SI ltSI)
structure TabPre (zs : List Str) (T : Tb) : Prop where
  c : 0 ≤ T.clock ∧ T.clock < 10 ^ 11
  st : srt T.ls
  len : T.ls.length ≤ 4
  ls : ∀ l ∈ T.ls, LsOk zs l
  p : gStamp T.p = true
  v : gVote T.v = true
  n : (isNon T.n || gMembers T.n) = true
  kp : (T.e = .int (-1) ∧ T.m = .tup [] ∧ T.a = .tup [] ∧ T.h = .tup [] ∧ T.b = .tup []) ∨ (∃ e : Int, T.e = .int e ∧ 0 ≤ e ∧ e < 10 ^ 11 ∧ gMembers T.m = true ∧ gAhead T.a = true ∧ gHeads T.h = true ∧ gBlocks T.b = true)
  bm : Bd T.m 900 4 0
  ba : Bd T.a 900 4 0
  bh : Bd T.h 12400 4 0
  bb : Bd T.b 3000 4 0
  bp : Bd T.p 200 4 0
  bv : Bd T.v 1100 4 0
  bn : Bd T.n 900 4 0
  pl : pln T.m ∧ pln T.a ∧ pln T.h ∧ pln T.b ∧ pln T.p ∧ pln T.v ∧ pln T.n
end Hs
namespace Hu
open PySem
end Hu
/-! one step of change -/
/-! a table's weight; what is led to, what a head tells, by the law itself -/
namespace Hs
open PySem PySem.Spec PyProof.Rows L2 Hu Evl
open Hk (SI ltSI)
theorem bdl_rows {m d b : Nat} : ∀ {us : List U}, (∀ u ∈ us, Bd u m d b) → BdL us (us.length * (m + 2)) d b
  | [], _ => ⟨by simp [wtL], by simp [depL], trivial⟩
  | u :: us, h => by
    have h1 := h u (by simp)
    have h2 := bdl_rows fun x hx => h x (List.mem_cons_of_mem _ hx)
    have := BdL.append (.one h1) h2
    exact this.mono (by rw [List.length_cons, Nat.succ_mul]; omega) (Nat.le_refl _) (Nat.le_refl _)
theorem int_bd {i : Int} (h : i.natAbs < 2 ^ 60) : Bd (.int i) 80 0 0 := ⟨by simp [wt], by simp [dep], by simp only [tidy]; omega⟩
theorem ls_bd {zs : List Str} {l : Ls} (hz : ∀ z ∈ zs, gNam (.str z) = true) (h : LsOk zs l) : Bd (lsU l) 300 1 0 := by
  have h1 := nam_bd (hz _ h.n)
  have h2 := h.h.1
  have h3 := h.h.2
  have h4 := h.t.1
  have h5 := h.t.2
  have h6 := h.u.1
  have h7 := h.u.2
  have q := BdL.append (.one h1) (BdL.append (.one (int_bd (i := l.1.2) (by omega))) (BdL.append (.one (int_bd (i := l.2.1) (by omega))) (.one (int_bd (i := l.2.2) (by omega)))))
  exact (Bd.tup q).mono (by omega) (Nat.le_refl _) (Nat.le_refl _)
theorem TabPre.bd {zs : List Str} {T : Tb} (g : TabPre zs T) (hz : ∀ z ∈ zs, gNam (.str z) = true) : Bd (tabU T) 24000 5 0 := by
  have bl : Bd (.tup (T.ls.map lsU)) 1300 4 0 := (Bd.tup (bdl_rows (us := T.ls.map lsU) (m := 300) (d := 1) (b := 0) fun u hu => by
    obtain ⟨l, hl, rfl⟩ := List.mem_map.mp hu
    exact ls_bd hz (g.ls l hl))).mono (by rw [List.length_map]; have := g.len; omega) (by omega) (Nat.le_refl _)
  have be : Bd T.e 80 4 0 := by
    rcases g.kp with ⟨h, _⟩ | ⟨e, h, h0, h1, _⟩
    · rw [h]; exact (int_bd (by decide)).mono (Nat.le_refl _) (by omega) (Nat.le_refl _)
    · rw [h]; exact (int_bd (by omega)).mono (Nat.le_refl _) (by omega) (Nat.le_refl _)
  have bc : Bd (.int T.clock) 80 4 0 := (int_bd (by have := g.c.1; have := g.c.2; omega)).mono (Nat.le_refl _) (by omega) (Nat.le_refl _)
  have q := BdL.append (.one be) (BdL.append (.one g.bm) (BdL.append (.one g.ba) (BdL.append (.one bc) (BdL.append (.one g.bh) (BdL.append (.one g.bb) (BdL.append (.one bl) (BdL.append (.one g.bp) (BdL.append (.one g.bv) (.one g.bn)))))))))
  exact (Bd.tup q).mono (by omega) (Nat.le_refl _) (Nat.le_refl _)
section
variable {P : Program} {wd : World} {K : PySem.W.Frag} {mg : Str → Option Value} {base : Heap} {C : Addr}
/-- a right head, its name open -/
theorem gNamed_is {u : U} (h : gNamed u = true) : ∃ z a b, u = .tup [.str z, a, b] ∧ gStamp a = true ∧ gRow b = true := by
  obtain ⟨h1, h2, h3⟩ := and3 (a := gTO 3 u) (b := gNam (nth u 0)) (c := gStamp (nth u 1) && gRow (nth u 2)) h
  obtain ⟨us, rfl, hl⟩ := gTO_of h1
  match us, hl with
  | [x, a, b], _ =>
    obtain ⟨z, rfl⟩ := gNam_str (u := x) h2
    obtain ⟨h4, h5⟩ := and2 (a := gStamp a) (b := gRow b) h3
    exact ⟨z, a, b, rfl, h4, h5⟩
def named (z : Str) (u : U) : Bool := match nth u 0 with | .str y => decide (y = z) | _ => false
def firstU : U := .tup [.tup [.int 0, .int 0], .non]
def dueH (us : List U) (z : Str) : U := match us.find? (named z) with | some u => .tup [nth u 1, nth u 2] | none => firstU
end
end Hs
/-! a pair of integers in a list of such -/
/-! the ids to which heads lead, by the law itself -/
namespace Hs
open PySem PySem.Spec PyProof.Rows L2 Hu Evl
section
variable {K : PySem.W.Frag} {σ : L2.St} {H : Hp} {tl te : TE} {t : TT}
theorem take_filter2 {α : Type} {us : List α} {i : Nat} {u : α} (g : α → Bool) (h : us[i]? = some u) : (us.take (i + 1)).filter g = (us.take i).filter g ++ if g u = true then [u] else [] := by
  rw [List.take_add_one, h, List.filter_append]
  congr 1
  by_cases q : g u = true
  · rw [if_pos q]
    show List.filter g [u] = _
    rw [List.filter_cons_of_pos q]
    rfl
  · rw [if_neg q]
    show List.filter g [u] = _
    rw [List.filter_cons_of_neg q]
    rfl
theorem P2.append {H : Hp} {vs ws : List V} {ks ls : List (Int × Int)} (h : P2 H vs ks) (h2 : P2 H ws ls) : P2 H (vs ++ ws) (ks ++ ls) := by
  induction h with
  | nil => exact h2
  | cons h _ ih => exact .cons h ih
theorem P2.ex {H H' : Hp} {vs : List V} {ks : List (Int × Int)} (e : Ex H H') (h : P2 H vs ks) : P2 H' vs ks := h.tups fun b zs hb => e _ _ hb
end
section
variable {P : Program} {wd : World} {K : PySem.W.Frag} {mg : Str → Option Value} {base : Heap} {C : Addr}
def idP (u : U) : Int × Int := match u with | .tup [.int i, .int j] => (i, j) | _ => (0, 0)
def rowP (u : U) : List (Int × Int) := match u with | .tup us => us.map idP | _ => []
theorem row_p2 {w : Addr} {H : Hp} : ∀ {us : List U} {xs : List V}, AtL w C H xs us → us.all gId = true → P2 H xs (us.map idP)
  | [], _, .nil, _ => .nil
  | u :: us, _, .cons h t, hall => by
    rw [List.all_cons, Bool.and_eq_true] at hall
    obtain ⟨i, j, rfl⟩ := gId_two hall.1
    obtain ⟨p, rfl, hp⟩ := two_ints h
    exact .cons (k := (i, j)) hp (row_p2 t hall.2)
end
end Hs
/-! led_ids: the ids to which heads lead -/
namespace Hs
open PySem PySem.Spec PyProof.Rows L2 Hu Evl
open Hk (SI ltSI nearOk)
section
variable {K : PySem.W.Frag} {a : Addr} {xs : List V} {g g1 : TG} {tt tt1 : TT} {tk tv : TE} {wi1 : TI} {vs vs1 : List Nat} {σ : L2.St} {G : Hp} {D : Addr} {Qd : Hp → Prop}
theorem d2_tup (Pv : Nat → Hp → Prop) (h0 : Pv 0 (upd G D (.dT []))) (hl : ∀ i H, i ≤ xs.length → Pv i H → SqT K H a xs)
    (hs : ∀ i x H, xs[i]? = some x → Pv i H → g x (wipe σ vs) H fun τ H2 => wipe τ vs = wipe σ vs ∧ tt τ H2 fun ok H3 => if ok = true then wi1 τ H3 fun J1 H4 => nearOk D J1 g1 tt1 tk tv vs1 τ (Pv (i + 1)) H4 else Pv (i + 1) H3) (hd : ∀ H, Pv xs.length H → Qd H) :
    ∃ W : Nat → Nat → Hp → Prop, (∃ m, W 0 m (upd G D (.dT []))) ∧ ∀ i m H, W i m H →
      ((Itt K a).stop i H ∧ Qd H) ∨ ((Itt K a).go i H ∧ ∃ Nx : Hp → Prop, (∀ H', Nx H' → ∃ m', m' < m ∧ W (i + 1) m' H') ∧ ∀ x H', (Itt K a).yld i H x H' → g x (wipe σ vs) H' fun τ H2 => wipe τ vs = wipe σ vs ∧ tt τ H2 fun ok H3 =>
        if ok = true then wi1 τ H3 fun J1 H4 => nearOk D J1 g1 tt1 tk tv vs1 τ Nx H4 else Nx H3) := by
  refine ⟨fun i m H => m = xs.length - i ∧ i ≤ xs.length ∧ Pv i H, ⟨xs.length, (Nat.sub_zero _).symm, Nat.zero_le _, h0⟩, ?_⟩
  rintro i m H ⟨em, le, p⟩
  by_cases h : i < xs.length
  · exact .inr ⟨⟨xs, xs[i], hl i H le p, List.getElem?_eq_getElem h⟩, Pv (i + 1), fun H' p' => ⟨xs.length - (i + 1), by omega, rfl, h, p'⟩, fun x H' y => by
      have ex := y.2 xs (hl i H le p)
      rw [y.1]
      exact hs i x H ex p⟩
  · have e : i = xs.length := by omega
    exact .inl ⟨⟨xs, hl i H le p, by omega⟩, hd H (by rw [← e]; exact p)⟩
theorem near_tup {τ : L2.St} {Nx : Hp → Prop} (Pv : Nat → Hp → Prop) (h0 : Pv 0 G) (hl : ∀ i H, i ≤ xs.length → Pv i H → SqT K H a xs)
    (hs : ∀ i x H, xs[i]? = some x → Pv i H → g1 x (wipe τ vs1) H fun τ3 G5 => wipe τ3 vs1 = wipe τ vs1 ∧ tt1 τ3 G5 fun ok G6 =>
      if ok = true then tk τ3 G6 fun y G7 => tv τ3 G7 fun z G8 => ∃ b kvs k, y = .ref b ∧ G8 b = some (.tup (k.map kV)) ∧ G8 D = some (.dT kvs) ∧ kvs.length < sizeLine ∧ Pv (i + 1) (upd G8 D (.dT (putK kvs k z))) else Pv (i + 1) G6) (hd : ∀ H, Pv xs.length H → Nx H) :
    nearOk D (Itt K a) g1 tt1 tk tv vs1 τ Nx G := by
  refine ⟨fun i m H => m = xs.length - i ∧ i ≤ xs.length ∧ Pv i H, ⟨xs.length, (Nat.sub_zero _).symm, Nat.zero_le _, h0⟩, ?_⟩
  rintro i m H ⟨em, le, p⟩
  by_cases h : i < xs.length
  · exact .inr ⟨⟨xs, xs[i], hl i H le p, List.getElem?_eq_getElem h⟩, Pv (i + 1), fun H' p' => ⟨xs.length - (i + 1), by omega, rfl, h, p'⟩, fun x H' y => by
      have ex := y.2 xs (hl i H le p)
      rw [y.1]
      exact hs i x H ex p⟩
  · have e : i = xs.length := by omega
    exact .inl ⟨⟨xs, hl i H le p, by omega⟩, hd H (by rw [← e]; exact p)⟩
end
/-- a pair of integers as a key -/
def kP (q : Int × Int) : List L2.Key := [.inl q.1, .inl q.2]
theorem kP_inj {p q : Int × Int} (h : kP p = kP q) : p = q := by
  injection h with h1 h2
  injection h2 with h3 _
  exact Prod.ext (Sum.inl.inj h1) (Sum.inl.inj h3)
/-- the keys are just these pairs -/
structure Kys (kvs : List (List L2.Key × V)) (ps : List (Int × Int)) : Prop where
  all : ∀ k ∈ kvs.map (·.1), ∃ q ∈ ps, k = kP q
  has : ∀ q ∈ ps, kP q ∈ kvs.map (·.1)
  bl : ∀ p ∈ kvs, p.2 = .bl true
theorem putK_keys {kvs : List (List L2.Key × V)} {k : List L2.Key} {v : V} : ∀ x, x ∈ (putK kvs k v).map (·.1) ↔ x ∈ kvs.map (·.1) ∨ x = k := by
  intro x
  unfold putK
  split
  · rename_i h
    rw [List.map_map]
    have e : ((fun p : List L2.Key × V => p.1) ∘ fun kv => if kv.1 = k then (kv.1, v) else kv) = fun p => p.1 := by
      funext p
      show (if p.1 = k then (p.1, v) else p).1 = p.1
      split <;> rfl
    first
      | rw [e]
      | (have e2 : ((fun p : List L2.Key × V => p.1) ∘ fun kv => if kv.1 = k then (k, v) else kv) = fun p => p.1 := by
          funext p
          show (if p.1 = k then (k, v) else p).1 = p.1
          split
          · rename_i q; exact q.symm
          · rfl
         rw [e2])
    constructor
    · exact .inl
    · rintro (h1 | rfl)
      · exact h1
      · rw [List.any_eq_true] at h
        obtain ⟨p, hp, q⟩ := h
        exact List.mem_map.mpr ⟨p, hp, of_decide_eq_true q⟩
  · rw [List.map_append, List.mem_append]
    simp
theorem Kys.put {kvs : List (List L2.Key × V)} {ps : List (Int × Int)} (h : Kys kvs ps) (q : Int × Int) : Kys (putK kvs (kP q) (.bl true)) (ps ++ [q]) := by
  refine ⟨fun k hk => ?_, fun p hp => ?_, fun p hp => ?_⟩
  · rcases (putK_keys k).mp hk with h1 | rfl
    · obtain ⟨p, hp, e⟩ := h.all k h1
      exact ⟨p, List.mem_append_left _ hp, e⟩
    · exact ⟨q, by simp, rfl⟩
  · rw [putK_keys]
    rcases List.mem_append.mp hp with h1 | h1
    · exact .inl (h.has p h1)
    · rw [List.mem_singleton] at h1
      exact .inr (by rw [h1])
  · unfold putK at hp
    split at hp
    · obtain ⟨x, hx, e⟩ := List.mem_map.mp hp
      split at e <;> subst e
      · rfl
      · exact h.bl _ hx
    · rcases List.mem_append.mp hp with h1 | h1
      · exact h.bl p h1
      · rw [List.mem_singleton] at h1
        rw [h1]
abbrev sLedIds : Stmt := topS 68
section
variable {P : Program} {wd : World} {K : PySem.W.Frag} {mg : Str → Option Value} {base : Heap} {C : Addr}
theorem scLedIds : FnScope ["heads", "name", "stamp", "row", "block_id"] ["heads"] (defScope sLedIds) := ⟨rfl, rfl, rfl, by decide +kernel, rfl, by decide +kernel, by decide +kernel⟩
def spLI (C : Addr) : Sp := fun vs H Q _ => ∃ (x : V) (us : List U) (w : Addr), vs = [x] ∧ At w C H x (.tup us) ∧ us.all gNamed = true ∧ us.length ≤ 3000 ∧ ∀ d kvs H', H d = none → Same H H' → H' d = some (.dT kvs) → kvs.length ≤ 40000 → Kys kvs (us.flatMap fun h => rowP (nth h 2)) → Q (.ref d) H'
theorem ok_ledIds {f : Addr} {fd : FuncData} (D : Df K mg "led_ids" sLedIds ["heads"] f fd) : FnOk P wd K mg base CX0 1 f fd ["heads"] (spLI C) := by
  refine D.F.ok scLedIds (fun vs H Q E h => ?_) (fun cdv A outer s H vs Q E hr h => ?_)
  · obtain ⟨x, us, w, rfl, _⟩ := h
    rfl
  obtain ⟨x, us, w, rfl, hx, hall, hz, k⟩ := h
  refine ⟨_, pss_one (ps_ret (Hk.pe_d2 [4] (own := [("name", 1), ("stamp", 2), ("row", 3), ("block_id", 4)]) (g := gTup K 3 (gCons (gName 1) (gCons (gName 2) (gCons (gName 3) gNil)))) (g1 := gName 4) (wi1 := iTup K (tVar 3)) (tt := tTest (tOp rNotN (tVar 3) (tC .non))) (tt1 := tYes) (tk := tVar 4) (tv := tC (.bl true)) (Nat.lt_of_le_of_lt (Nat.add_le_add_left (by decide : 1 ≤ 64) _) (room_hu hr)) rfl scLedIds.nd (pi_tup (pv 0))
    (blkOk_by (N := ["heads", "name", "stamp", "row", "block_id"]) (sc := defScope sLedIds) (by decide +kernel)) (by decide)
    ⟨fun _ _ _ _ _ => pg_tup rfl (pgs_cons (pg_name (i := 1) scLedIds.nd rfl (.inl rfl)) (pgs_cons (pg_name (i := 2) scLedIds.nd rfl (.inl rfl)) (pgs_cons (pg_name (i := 3) scLedIds.nd rfl (.inl rfl)) pgs_nil))), fun _ _ _ _ _ => pts_one (pt_cmpR op_notN1 (pv 3) pe_non (nomark _)), fun _ _ _ _ _ => pv 4, fun _ _ _ _ _ => pe_bl⟩
    ⟨fun _ _ _ _ _ => pi_tup (pv 3), fun _ _ _ _ _ => pg_name (i := 4) scLedIds.nd rfl (.inl rfl), fun _ _ _ _ _ => pts_nil, fun _ _ => rfl⟩)), ?_⟩
  obtain ⟨a, xs, rfl, ha, na, hl⟩ := at_tup hx
  have hlen := AtL.length hl
  refine ⟨_, rfl, a, rfl, ⟨xs, Tu.st ha⟩, fun Dd hD => d2_tup (xs := xs) (fun i G => Ex H G ∧ ∃ kvs, G Dd = some (.dT kvs) ∧ kvs.length ≤ 12 * i ∧ Kys kvs ((us.take i).flatMap fun h => rowP (nth h 2))) ⟨Ex.new hD, [], upd_same, Nat.zero_le _, ⟨fun k h => (List.not_mem_nil h).elim, fun q h => (List.not_mem_nil h).elim, fun q h => (List.not_mem_nil h).elim⟩⟩ (fun i G _ p => Tu.st (Tu.ex p.1 ha)) (fun i x G hi p => ?_) (fun G p => ?_)⟩
  · obtain ⟨e1, kvs, p2, pl, p3⟩ := p
    have hi' : i < us.length := by
      have := (List.getElem?_eq_some_iff.mp hi).1
      omega
    obtain ⟨v', hv', av⟩ := AtL.get hl (List.getElem?_eq_getElem hi')
    rw [hi] at hv'
    cases hv'
    have hg : us[i]? = some us[i] := List.getElem?_eq_getElem hi'
    have tk : (us.take (i + 1)).flatMap (fun h => rowP (nth h 2)) = (us.take i).flatMap (fun h => rowP (nth h 2)) ++ rowP (nth us[i] 2) := by
      rw [List.take_add_one, hg, List.flatMap_append]
      simp
    have gn := List.all_eq_true.mp hall _ (List.getElem_mem hi')
    generalize us[i] = un at av tk gn
    obtain ⟨z, s1, r1, rfl, _, gr⟩ := gNamed_is gn
    obtain ⟨b, ys, rfl, hb, nb, hys⟩ := at_tup av
    obtain ⟨y0, y1, y2, rfl, ay2⟩ : ∃ y0 y1 y2, ys = [y0, y1, y2] ∧ At w C H y2 r1 := by
      cases hys with
      | cons h1 h2 => cases h2 with
        | cons h3 h4 => cases h4 with
          | cons h5 h6 => cases h6; exact ⟨_, _, _, rfl, h5⟩
    refine ⟨b, _, rfl, Tu.st (Tu.ex e1 hb), rfl, _, _, rfl, _, _, rfl, _, _, rfl, rfl, rfl, ?_⟩
    refine (et_test (b := !isNon r1) (ev_op (ev_var rfl) ev_c fun G' eg Q q => ⟨rfl, by rw [at_non ay2]; exact q G' (Ex.refl G')⟩)) G (Ex.refl G) _ fun G1 e2 => ?_
    have hrow : (rowP (nth (.tup [.str z, s1, r1]) 2)) = rowP r1 := rfl
    rw [hrow] at tk
    have e12 := e1.trans e2
    cases r1 with
    | non =>
      refine ⟨e12, kvs, e2 _ _ p2, by omega, ?_⟩
      rw [tk]
      show Kys kvs (_ ++ [])
      rw [List.append_nil]
      exact p3
    | tup ids =>
      obtain ⟨g1, g2⟩ := and2 (a := decide (ids.length ≤ 12)) (b := ids.all gId) gr
      have g1' := of_decide_eq_true g1
      obtain ⟨c, cs, rfl, hc, _, hcl⟩ := at_tup ay2
      have pr := row_p2 hcl g2
      have prl := pr.len
      rw [List.length_map] at prl
      show (if (true : Bool) = true then _ else _)
      rw [if_pos rfl]
      refine ⟨_, rfl, c, rfl, ⟨cs, Tu.st (Tu.ex e12 hc)⟩, near_tup (xs := cs) (fun j G => Ex H G ∧ ∃ kvs', G Dd = some (.dT kvs') ∧ kvs'.length ≤ 12 * i + j ∧ Kys kvs' ((us.take i).flatMap (fun h => rowP (nth h 2)) ++ (ids.map idP).take j)) ?_ (fun j G _ p => Tu.st (Tu.ex p.1 hc)) (fun j x G hj p => ?_) (fun G p => ?_)⟩
      · refine ⟨e12, kvs, e2 _ _ p2, by omega, ?_⟩
        rw [List.take_zero, List.append_nil]
        exact p3
      · obtain ⟨q1, kvs', q3, q4, q5⟩ := p
        have hj' : j < ids.length := by
          have := (List.getElem?_eq_some_iff.mp hj).1
          omega
        obtain ⟨c', q, rfl, hq, hc'⟩ := pr.get hj
        refine ⟨rfl, et_yes G (Ex.refl G) _ fun G2 e3 => ?_⟩
        rw [if_pos rfl]
        have kx : G2 c' = some (.tup [.int q.1, .int q.2]) := e3 _ _ (q1 _ _ hc')
        refine ⟨_, rfl, c', kvs', kP q, rfl, kx, e3 _ _ q3, sz_lt (by omega), Ex.mut (q1.trans e3) hD, _, upd_same, ?_, ?_⟩
        · have := length_putK kvs' (kP q) (.bl true)
          omega
        · rw [List.take_add_one, hq]
          show Kys _ (_ ++ ((ids.map idP).take j ++ [q]))
          rw [← List.append_assoc]
          exact q5.put q
      · obtain ⟨q1, kvs', q3, q4, q5⟩ := p
        refine ⟨q1, kvs', q3, by omega, ?_⟩
        rw [tk]
        have : cs.length = (ids.map idP).length := prl.trans (List.length_map (f := idP)).symm
        rw [this, List.take_length] at q5
        exact q5
    | bl b => cases gr
    | int j => cases gr
    | str z => cases gr
    | lst l => cases gr
    | dct l => cases gr
    | exc => cases gr
  · obtain ⟨p1, kvs, p2, pl, p3⟩ := p
    rw [hlen, List.take_length] at p3
    exact k Dd kvs G hD p1 p2 (by omega) p3
end
end Hs
/-! dict(t), t a locked tuple of pairs, the keys tuples of texts and integers -/
namespace Hu
open PySem PySem.Spec PyProof.Rows L2
/-- pairs of keys that are tuples, and of values -/
inductive Pq (K : PySem.W.Frag) (H : Hp) : List V → List (List L2.Key × V) → Prop
  | nil : Pq K H [] []
  | cons {p c : Addr} {k : List L2.Key} {x : V} {vs : List V} {kvs : List (List L2.Key × V)} : SqT K H p [.ref c, x] → H c = some (.tup (k.map kV)) → Pq K H vs kvs → Pq K H (.ref p :: vs) ((k, x) :: kvs)
theorem stored_all {K : Type} [DecidableEq K] : ∀ (ps xs : List (K × Addr × Value)), ((xs ++ ps).map (·.1)).Nodup → storedAllH xs ps = xs ++ ps
  | [], xs, _ => by rw [List.append_nil]; rfl
  | p :: ps, xs, n => by
    have e : atKey xs p.1 = none := by
      unfold atKey
      have : xs.find? (fun x => decide (x.1 = p.1)) = none := by
        rw [List.find?_eq_none]
        intro x hx
        rw [List.map_append, List.nodup_append] at n
        have := n.2.2 x.1 (List.mem_map.mpr ⟨x, hx, rfl⟩) p.1 (List.mem_map.mpr ⟨p, by simp, rfl⟩)
        simpa using this
      rw [this]
      rfl
    show storedAllH (storedH xs p.1 p.2.1 p.2.2) ps = xs ++ p :: ps
    rw [storedH_new e, stored_all ps _ (by simpa using n)]
    simp
section
variable {X : Cx} {pins : List (Addr × Obj)} {σ : L2.St} {H : Hp} {s : Shared}
theorem pq_of (I : Inv X pins σ H s) : ∀ {vs : List V} {kvs : List (List L2.Key × V)} {us : List Value}, Pq X.K H vs kvs → Vals vs us →
    ∃ (Ts : List Addr) (ts : List (List L2.Key × Addr × Value)), us = Ts.map Value.ref ∧ KT H kvs ts ∧ ts.length = us.length ∧ ∀ (j : Nat) (t : List L2.Key × Addr × Value), ts[j]? = some t → ∃ b, Ts[j]? = some b ∧ IsTup s.heap b #[.ref t.2.1, t.2.2] ∧ H t.2.1 = some (.tup (t.1.map kV))
  | _, _, _, .nil, r => by
    cases r
    exact ⟨[], [], rfl, .nil, rfl, fun j t e => by simp at e⟩
  | _, _, _, .cons (p := p) (c := c) (k := k) (x := x) h hc t, r => by
    cases r with
    | cons r1 r2 =>
      cases r1
      obtain ⟨Ts, ts, e1, e2, e3, e4⟩ := pq_of I t r2
      obtain ⟨its, rv, ht, _⟩ := I.tuple h
      obtain ⟨u, y, ei, ru, ry⟩ := vals2 rv
      subst ei
      cases ru
      subst e1
      refine ⟨p :: Ts, (k, c, y) :: ts, rfl, .cons ⟨rfl, hc, ry⟩ e2, by rw [List.length_cons, List.length_cons, e3], fun j q e => ?_⟩
      cases j with
      | zero =>
        have e' : (k, c, y) = q := Option.some.inj e
        subst e'
        exact ⟨p, rfl, ht, hc⟩
      | succ j =>
        obtain ⟨b, f1, f2, f3⟩ := e4 j q (by simpa using e)
        exact ⟨b, by simpa using f1, f2, f3⟩
def rDictT (K : PySem.W.Frag) : List V → Hp → VK → Prop := fun xs H Q => ∃ (a : Addr) (o : Obj) (vs : List V) (kvs : List (List L2.Key × V)), xs = [.ref a] ∧ o.dict = none ∧ H a = some (.frz o (.tup vs)) ∧ Pq K H vs kvs ∧ (kvs.map (·.1)).Nodup ∧ ∀ d, H d = none → Q (.ref d) (upd H d (.dT kvs))
theorem keys_same {kvs : List (List L2.Key × V)} {ts : List (List L2.Key × Addr × Value)} (h : KT H kvs ts) : kvs.map (·.1) = ts.map (·.1) := by
  induction h with
  | nil => rfl
  | cons h _ ih => rw [List.map_cons, List.map_cons, ih, h.1]
theorem call_dictT (hcalm : X.calm = true) (hu : X.A.units + 2 < cLine) : CallR X (.type "dict") (rDictT X.K) := by
  intro pins s σ H xs us Q I r q
  obtain ⟨a, o, vs, kvs, rfl, od, ha, hp, nd, q⟩ := q
  obtain ⟨u, rfl, rx⟩ := vals1 r
  cases rx
  obtain ⟨got, hz, its, rv, o', g1, g2, m, g3⟩ : ObjOk X.prog X.w H s.heap a (.frz o (.tup vs)) := I.hok a _ ha
  rw [got] at g1
  cases g1
  obtain ⟨Ts, ts, e1, e2, e3, e4⟩ := pq_of I hp rv
  have hlen : its.length = vs.length := rv.length.symm
  have ndt : (ts.map (·.1)).Nodup := by rw [← keys_same e2]; exact nd
  have all : storedAllH [] ts = ts := stored_all ts [] (by simpa using ndt)
  have hkey : ∀ (h' : Heap), (∀ b ob, s.heap.get? b = some ob → h'.get? b = some ob) → ∀ x ∈ ts, (tupleKind (mixKind X.prog X.w)).is h' x.1 x.2.1 := fun h' k x hx => by
    obtain ⟨j, hj⟩ := List.mem_iff_getElem?.mp hx
    obtain ⟨b, _, _, f3⟩ := e4 j x hj
    exact key_of (I.hok.kept k) f3
  refine call_dict_pairsH (knd := tupleKind (mixKind X.prog X.w)) (ps := ts) (PairArg.tuple a its.toArray (fun j => Ts.getD j 0) (ts.map fun t => (Value.ref t.2.1, t.2.2))) (I.ok.hd hcalm) ?_ ⟨⟨o, m, got, g2, od, g3⟩, ?_, ?_⟩ ⟨by rw [List.length_map], ?_⟩ ?_ ?_ ?_
  · show X.A.in1.in1.units < cLine
    exact hu
  · rw [List.length_map, List.size_toArray, e3]
  · intro j k v hj
    rw [List.getElem?_map] at hj
    cases ht : ts[j]? with
    | none => rw [ht] at hj; cases hj
    | some t =>
      rw [ht] at hj
      cases hj
      obtain ⟨b, f1, f2, f3⟩ := e4 j t ht
      have hg : Ts.getD j 0 = b := by rw [List.getD_eq_getElem?_getD, f1]; rfl
      refine ⟨?_, ?_⟩
      · dsimp only
        rw [hg, List.getElem?_toArray, e1, List.getElem?_map, f1]
        rfl
      · dsimp only
        rw [hg]
        exact .inl f2
  · intro i key v hi
    have hi : (ts.map fun t => (Value.ref t.2.1, t.2.2))[i]? = some (key, v) := hi
    rw [List.getElem?_map] at hi
    cases ht : ts[i]? with
    | none => rw [ht] at hi; cases hi
    | some t =>
      rw [ht] at hi
      cases hi
      exact ⟨t.1, t.2.1, rfl, rfl⟩
  · intro h' k x hx
    exact hkey h' (fun b ob e => k b ob (Nat.ne_of_lt (Heap.lt_size e)) (by simp) e) x hx
  · rw [List.length_map, e3, hlen]
    exact hz
  · intro h' tk hd' k
    rw [all] at hd'
    have k' : ∀ b ob, s.heap.get? b = some ob → h'.get? b = some ob := fun b ob e => k b ob (by simp) e
    obtain ⟨od', es, ep, d1, d2, d3, d4, _, d5⟩ := hd'
    have hm : (s.heap.objs.size == sysModules) = false := beq_eq_false_iff_ne.mpr (Nat.ne_of_gt I.big)
    have hf := I.hok.fresh (Nat.le_refl s.heap.objs.size)
    have hl : kvs.length ≤ sizeLine := by rw [e2.length, e3, hlen]; exact hz
    have kt : KT (upd H s.heap.objs.size (.dT kvs)) kvs ts := by
      have : ∀ {l : List (List L2.Key × V)} {m : List (List L2.Key × Addr × Value)}, KT H l m → KT (upd H s.heap.objs.size (.dT kvs)) l m := fun {l m} q => by
        induction q with
        | nil => exact .nil
        | cons h _ ih => exact .cons ⟨h.1, by rw [upd_ne (ne_of_none h.2.1 hf)]; exact h.2.1, h.2.2⟩ ih
      exact this e2
    exact ⟨.ref s.heap.objs.size, upd H s.heap.objs.size (.dT kvs), I.laid (t' := tk) k' (Nat.le_refl _) (show ObjOk X.prog X.w _ _ _ (.dT kvs) from ⟨hl, hm, ts, kt, od', es, ep, d1, d2, d3, d4, d5⟩), rfl, q _ hf⟩
end
end Hu
/-! right heads and blocks: each name and each id stands there once -/
namespace Hs
open PySem PySem.Spec PyProof.Rows L2 Hu Evl
open Hk (SI ltSI nearOk)
theorem chain_nodup {α : Type} {R : α → α → Prop} {xs : List α} (d : α) (tr : ∀ a b c, R a b → R b c → R a c) (ir : ∀ a, ¬ R a a) (h : ∀ k, k + 1 < xs.length → R (xs.getD k d) (xs.getD (k + 1) d)) : xs.Nodup := by
  have far : ∀ (m k : Nat), k + m + 1 < xs.length → R (xs.getD k d) (xs.getD (k + m + 1) d) := by
    intro m
    induction m with
    | zero => exact fun k hk => h k hk
    | succ m ih => exact fun k hk => tr _ _ _ (ih k (by omega)) (h (k + m + 1) hk)
  refine List.pairwise_iff_getElem.mpr fun i j hi hj lt e => ?_
  have := far (j - i - 1) i (by omega)
  rw [show i + (j - i - 1) + 1 = j by omega, getD_some (List.getElem?_eq_getElem hi), getD_some (List.getElem?_eq_getElem hj), e] at this
  exact ir _ this
theorem ascN_get {n : Nat} {lt : Nat → Bool} (h : ascN n lt = true) : ∀ k, k + 1 < n → lt k = true := fun k hk => by
  unfold ascN at h
  exact List.all_eq_true.mp h k (List.mem_range.mpr (by omega))
theorem ascZ_nodup {zs : List Str} (h : ascZ zs = true) : zs.Nodup :=
  chain_nodup (R := fun a b : Str => a.cps.toList < b.cps.toList) e0z (fun a b c => List.lt_trans) (fun a => List.lt_irrefl _) fun k hk => of_decide_eq_true (ascN_get h k hk)
theorem i2_ltK {a b : Int × Int} (h : Hk.ltK (kP a) (kP b) = true) : ltI2 a b := by
  have h : (if Hk.kEq (.inl a.1) (.inl b.1) = true then (if Hk.kEq (.inl a.2) (.inl b.2) = true then Hk.ltK [] [] else Hk.kLt (.inl a.2) (.inl b.2)) else Hk.kLt (.inl a.1) (.inl b.1)) = true := h
  split at h
  · rename_i q
    split at h
    · cases h
    · exact .inr ⟨Sum.inl.inj (Hk.kEq_iff.mp q), of_decide_eq_true h⟩
  · exact .inl (of_decide_eq_true h)
theorem blk_key {u : U} (h : gBlk u = true) : keysU (nth u 0) = kP (idP (nth u 0)) := by
  obtain ⟨i, j, b, rfl⟩ := gBlk_is h
  rfl
theorem blocks_keys {us : List U} (h : us.all gBlk = true) : (us.map fun u => keysU (nth u 0)) = us.map fun u => kP (idP (nth u 0)) := List.map_congr_left fun u hu => blk_key (List.all_eq_true.mp h u hu)
theorem ascK_nodup {us : List U} (ha : us.all gBlk = true) (h : ascK (us.map fun u => keysU (nth u 0)) = true) : (us.map fun u => kP (idP (nth u 0))).Nodup := by
  rw [blocks_keys ha] at h
  have e : us.map (fun u => kP (idP (nth u 0))) = (us.map fun u => idP (nth u 0)).map kP := by rw [List.map_map]; rfl
  rw [e] at h ⊢
  have nd : (us.map fun u => idP (nth u 0)).Nodup := by
    refine chain_nodup (R := ltI2) (0, 0) (fun a b c h1 h2 => ?_) (fun a h => ?_) fun k hk => ?_
    · unfold ltI2 at *
      omega
    · unfold ltI2 at h
      omega
    · have := ascN_get h k (by rw [List.length_map]; exact hk)
      generalize us.map (fun u => idP (nth u 0)) = ps at hk this
      have h1 : k < ps.length := by omega
      rw [getD_some (k := k) (by rw [List.getElem?_map, List.getElem?_eq_getElem h1]; rfl), getD_some (k := k + 1) (by rw [List.getElem?_map, List.getElem?_eq_getElem hk]; rfl)] at this
      rw [getD_some (List.getElem?_eq_getElem h1), getD_some (List.getElem?_eq_getElem hk)]
      exact i2_ltK this
  exact List.Pairwise.map _ (fun a b h e => h (kP_inj e)) nd
/-- what a right table has -/
structure TabU (u : U) (hs bs : List U) : Prop where
  t : gTO 10 u = true
  h : nth u 4 = .tup hs
  b : nth u 5 = .tup bs
  ha : hs.all gNamed = true
  ba : bs.all gBlk = true
  hn : (hs.map fun u => strU (nth u 0)).Nodup
  bn : (bs.map fun u => kP (idP (nth u 0))).Nodup
theorem gHeads_us {us : List U} (h : gHeads (.tup us) = true) : us.all gNamed = true ∧ (us.map fun u => strU (nth u 0)).Nodup := by
  obtain ⟨a, b⟩ := and2 (a := us.all gNamed) (b := ascZ (us.map fun u => strU (nth u 0))) h
  exact ⟨a, ascZ_nodup b⟩
theorem gBlocks_us {us : List U} (h : gBlocks (.tup us) = true) : us.all gBlk = true ∧ (us.map fun u => kP (idP (nth u 0))).Nodup := by
  obtain ⟨a, b⟩ := and2 (a := us.all gBlk) (b := ascK (us.map fun u => keysU (nth u 0))) h
  exact ⟨a, ascK_nodup a b⟩
theorem gTable_has {u : U} (h : gTable u = true) : ∃ hs bs, TabU u hs bs := by
  unfold gTable at h
  obtain ⟨h0, h⟩ := and2 h
  obtain ⟨_, h⟩ := and2 h
  obtain ⟨_, h⟩ := and2 h
  obtain ⟨_, h⟩ := and2 h
  have key : ∃ hs bs, nth u 4 = .tup hs ∧ nth u 5 = .tup bs ∧ gHeads (.tup hs) = true ∧ gBlocks (.tup bs) = true := by
    split at h
    · obtain ⟨_, h⟩ := and2 h
      obtain ⟨_, h⟩ := and2 h
      obtain ⟨h4, h5⟩ := and2 h
      exact ⟨[], [], nil_is h4, nil_is h5, rfl, rfl⟩
    · obtain ⟨_, h⟩ := and2 h
      unfold gKept at h
      obtain ⟨_, h⟩ := and2 h
      obtain ⟨_, h⟩ := and2 h
      obtain ⟨h4, h5⟩ := and2 h
      have e4 : nth (keptU u) 2 = nth u 4 := rfl
      have e5 : nth (keptU u) 3 = nth u 5 := rfl
      rw [e4] at h4
      rw [e5] at h5
      obtain ⟨hs, q4⟩ := heads_tup h4
      obtain ⟨bs, q5⟩ := blocks_tup h5
      rw [q4] at h4
      rw [q5] at h5
      exact ⟨hs, bs, q4, q5, h4, h5⟩
  obtain ⟨hs, bs, e4, e5, h4, h5⟩ := key
  obtain ⟨a1, a2⟩ := gHeads_us h4
  obtain ⟨b1, b2⟩ := gBlocks_us h5
  exact ⟨hs, bs, h0, e4, e5, a1, b1, a2, b2⟩
/-- its heads are few enough -/
theorem TabU.hlen {u : U} {hs bs : List U} (T : TabU u hs bs) (s : Sm u) : hs.length ≤ 3000 := by
  have h4 : wt (nth u 4) ≤ 160000 := s.nth 4
  rw [T.h] at h4
  have all := T.ha
  have : ∀ us : List U, us.all gNamed = true → 60 * us.length ≤ wtL us := by
    intro us
    induction us with
    | nil => intro _; exact Nat.zero_le _
    | cons v us ih =>
      intro h
      rw [List.all_cons, Bool.and_eq_true] at h
      have h1 := ih h.2
      obtain ⟨z, a, b, rfl, gs, _⟩ := gNamed_is h.1
      obtain ⟨i, j, rfl⟩ := gStamp_two gs
      simp only [wtL, wt, List.length_cons] at h1 ⊢
      omega
  have := this hs all
  simp only [wt] at h4
  omega
theorem TabU.blen {u : U} {hs bs : List U} (T : TabU u hs bs) (s : Sm u) : bs.length ≤ 40000 := by
  have h5 : wt (nth u 5) ≤ 160000 := s.nth 5
  rw [T.b] at h5
  have := wt_len4 bs
  simp only [wt] at h5
  omega
end Hs
/-! led_by; an expression's dict, locked -/
namespace Hs
open PySem PySem.Spec PyProof.Rows L2 Hu Evl
open Hk (SI ltSI nearOk)
/-- what an expression tells is locked behind it -/
def tFrz (t : TE) : TE := fun σ H Q => t σ H fun x H1 => ∃ d u, x = .ref d ∧ H1 d = some u ∧ Mut (some u) ∧ ∀ od, Q x (upd H1 d (.frz od u))
theorem pe_frz {X : Cx} {e : Expr} {t : TE} (h : PE X e t) : PE X e (tFrz t) := by
  refine ⟨fun pins s σ H Q I hw => thn (h.run pins s σ H _ I hw) fun v s1 ⟨x, H1, I1, r, d, u, ex, hd, mu, q⟩ => ?_⟩
  obtain ⟨od, I2⟩ := I1.lock hd mu
  exact ⟨x, _, I2, r, q od⟩
theorem Kys.get {kvs : List (List L2.Key × V)} {ps : List (Int × Int)} (h : Kys kvs ps) (q : Int × Int) : (valV kvs (kP q)).isSome = decide (q ∈ ps) := by
  rw [← valV_any]
  rw [Bool.eq_iff_iff, List.any_eq_true, decide_eq_true_eq]
  constructor
  · rintro ⟨p, hp, e⟩
    obtain ⟨q', h1, h2⟩ := h.all p.1 (List.mem_map.mpr ⟨p, hp, rfl⟩)
    rw [of_decide_eq_true e] at h2
    rw [kP_inj h2]
    exact h1
  · intro hq
    obtain ⟨p, hp, e⟩ := List.mem_map.mp (h.has q hq)
    exact ⟨p, hp, decide_eq_true e⟩
def hsOf (u : U) : List U := match nth u 4 with | .tup us => us | _ => []
def bsOf (u : U) : List U := match nth u 5 with | .tup us => us | _ => []
def ledPs (hs : List U) : List (Int × Int) := hs.flatMap fun h => rowP (nth h 2)
def inLed (hs : List U) (b : U) : Bool := decide (idP (nth b 0) ∈ ledPs hs)
def ledU (u : U) : U := .tup ((bsOf u).filter (inLed (hsOf u)))
theorem TabU.hs {u : U} {hs bs : List U} (T : TabU u hs bs) : hsOf u = hs := by
  unfold hsOf
  rw [T.h]
theorem TabU.bs {u : U} {hs bs : List U} (T : TabU u hs bs) : bsOf u = bs := by
  unfold bsOf
  rw [T.b]
section
variable {w C : Addr} {H : Hp} {K : PySem.W.Frag}
/-- a right block, as it stands -/
theorem blk_at {x : V} {u : U} (hx : At w C H x u) (g : gBlk u = true) : ∃ (p c : Addr) (z : Str) (q : Int × Int), x = .ref p ∧ Tu H p [.ref c, .str z] [.tup [.int q.1, .int q.2], .str z] ∧ H c = some (.tup ((kP q).map kV)) ∧ idP (nth u 0) = q := by
  have pl := gBlk_pln g
  have g' : (gPair u && (gId (nth u 0) && gPiece (nth u 1))) = true := g
  obtain ⟨i, j, b, rfl⟩ := gBlk_is g
  obtain ⟨_, h2⟩ := and2 g'
  obtain ⟨_, h3⟩ := and2 h2
  have hb : gPiece b = true := h3
  obtain ⟨z, rfl⟩ : ∃ z, b = .str z := by
    cases b with
    | str z => exact ⟨z, rfl⟩
    | _ => cases hb
  obtain ⟨p, xs, rfl, hp, _, hl⟩ := at_tup hx
  cases hl with
  | cons h1 h2 => cases h2 with
    | cons h3 h4 =>
      cases h4
      cases at_str h3
      obtain ⟨c, rfl, hc⟩ := two_ints h1
      exact ⟨p, c, z, (i, j), rfl, hp, hc, rfl⟩
theorem blk_isB {us : List U} (h : us.all gBlk = true) : isB us = true := by
  unfold isB
  rw [List.all_eq_true] at h ⊢
  intro u hu
  have g := h u hu
  have g' : (gPair u && (gId (nth u 0) && gPiece (nth u 1))) = true := g
  obtain ⟨i, j, b, rfl⟩ := gBlk_is g
  obtain ⟨_, h2⟩ := and2 g'
  obtain ⟨_, h3⟩ := and2 h2
  have hb : gPiece b = true := h3
  cases b with
  | str z => rfl
  | _ => cases hb
/-- right blocks as pairs of a dict -/
theorem blk_pq : ∀ {us : List U} {xs : List V}, AtL w C H xs us → us.all gBlk = true → ∃ kvs, Pq K H xs kvs ∧ kvs.map (·.1) = us.map fun u => kP (idP (nth u 0))
  | [], _, .nil, _ => ⟨[], .nil, rfl⟩
  | u :: us, _, .cons h l, g => by
    rw [List.all_cons, Bool.and_eq_true] at g
    obtain ⟨kvs, h1, h2⟩ := blk_pq l g.2
    obtain ⟨p, c, z, q, rfl, hp, hc, hq⟩ := blk_at h g.1
    exact ⟨(kP q, .str z) :: kvs, .cons (Tu.st hp) hc h1, by rw [List.map_cons, List.map_cons, h2, hq]⟩
end
abbrev sLedBy : Stmt := topS 69
section
variable {P : Program} {wd : World} {K : PySem.W.Frag} {mg : Str → Option Value} {base : Heap} {C : Addr}
theorem scLedBy : FnScope ["heads", "blocks", "led", "block"] ["heads", "blocks"] (defScope sLedBy) := ⟨rfl, rfl, rfl, by decide +kernel, rfl, by decide +kernel, by decide +kernel⟩
def spBy2 (C : Addr) : Sp := fun vs H Q _ => ∃ (x y : V) (hs bs : List U) (w : Addr), vs = [x, y] ∧ At w C H x (.tup hs) ∧ At w C H y (.tup bs) ∧ hs.all gNamed = true ∧ bs.all gBlk = true ∧ hs.length ≤ 3000 ∧ bs.length ≤ 40000 ∧ (∃ o, H w = some o) ∧
  ∀ v H', Same H H' → At w C H' v (.tup (bs.filter (inLed hs))) → Q v H'
theorem ok_ledBy {f f1 : Addr} {fd d1 : FuncData} (D : Df K mg "led_by" sLedBy ["heads", "blocks"] f fd) (B : Bt mg) (D1 : Df K mg "led_ids" sLedIds ["heads"] f1 d1) : FnOk P wd K mg base CX0 2 f fd ["heads", "blocks"] (spBy2 C) := by
  have G1 : FnOk P wd K mg base CX0 1 f1 d1 ["heads"] (spLI C) := ok_ledIds D1
  refine D.F.ok scLedBy (fun vs H Q E h => ?_) (fun cdv A outer s H vs Q E hr h => ?_)
  · obtain ⟨x, y, hs, bs, w, rfl, _⟩ := h
    rfl
  obtain ⟨x, y, hs, bs, w, rfl, hx, hy, ha, hb, hz, hz2, hw, k⟩ := h
  refine ⟨_, pss_cons (ps_set (i := 2) scLedBy.nd rfl (.inr rfl) (pe_call G1 hr (by rfl) D1.g D1.F.kp D1.b .nil pass0 (pa_cons (pv 0) pa_nil)))
    (pss_one (ps_ret (pe_callTy call_tupF (by rfl) B.tup boot_tuple' (pa_cons (pe_lc (own := [("block", 3)]) (g := gName 3) (tt := tTest (tDIn (tOp (rIxT K) (tVar 3) (tC (.int 0))) (tVar 2))) rfl scLedBy.nd (pi_tup (pv 1)) (blkOk_by (N := ["heads", "blocks", "led", "block"]) (sc := defScope sLedBy) (by decide +kernel))
      (fun _ _ _ _ _ => pg_name (i := 3) scLedBy.nd rfl (Or.inl rfl)) (fun _ _ _ _ _ => pts_one (pt_cmp (pc_din (room_h1 hr) (pe_ix (show IxR _ (rIxT K) from ix_tup) (pv 3) pe_int (fun _ _ => rfl)) (pv 2)) (by rfl))) (fun _ _ _ _ _ => pv 3)) pa_nil)))), ?_⟩
  refine ⟨_, rfl, x, hs, w, rfl, hx, ha, hz, fun d kvs H1 hd e1 hk _ ky => ?_⟩
  obtain ⟨a, xs, rfl, hta, na, hl⟩ := at_tup (ex_at e1 hy)
  have hw1 : ∃ o, H1 w = some o := hw.imp fun o q => e1 _ _ q
  refine (ed_tupL (K := K) (C := C) hw1 (us := (bs.filter (inLed hs)).map fun u => u) (lc_D (j := 3) (vs := [3]) (g := inLed hs) (f := fun u => u) (ev_var rfl) hta hl hz2 (fun u hu => gBlk_pln (List.all_eq_true.mp hb u hu)) (fun _ => rfl) (fun v u G hu eg hv => ?_) (fun v u G hu _ eg hv => ed_ev (ev_var rfl) hv))) H1 (Ex.refl H1) _ fun v H2 e2 a2 => ?_
  · obtain ⟨p, c, z, q, rfl, hp, hc, hq⟩ := blk_at hv (List.all_eq_true.mp hb u hu)
    refine fun G1 g1 Q qq => ?_
    refine (ev_ixT (K := K) (te := tVar 3) (j := 0) (ev_var rfl) hp rfl) G1 g1 _ fun G2 g2 => ⟨_, rfl, d, _, rfl, DGet.t (k := kP q) ((eg.trans (g1.trans g2)) _ _ hk) ((g1.trans g2) _ _ hc), _, rfl, ?_⟩
    rw [ky.get q]
    have : inLed hs u = decide (q ∈ ledPs hs) := by
      unfold inLed
      rw [hq]
    rw [this] at qq
    exact qq G2 g2
  · rw [List.map_id'] at a2
    exact k v H2 (e1.trans e2) a2
end
end Hs
/-! blocks as rows of pairs; the pairs of a dict, sorted, as data -/
namespace Hs
open PySem PySem.Spec PyProof.Rows L2 Hu Evl
open Hk (PZ ltPZ ltPZ_iff ltPZ_no entZ rSortDI)
open L2.DX (itemsO rItemsT mt_itemsT)
def bzU (x : PZ) : U := .tup [.tup [.int x.1.1, .int x.1.2], .str x.2]
theorem bzU_pln (x : PZ) : pln (bzU x) := by simp [bzU, pln, plnL]
section
variable {w C : Addr} {H : Hp} {K : PySem.W.Frag}
theorem at_bz {x : V} {p : PZ} (h : At w C H x (bzU p)) : ∃ a c, x = .ref a ∧ SqT K H a [.ref c, .str p.2] ∧ H c = some (.tup ((kP p.1).map kV)) := by
  obtain ⟨a, xs, rfl, ha, _, hl⟩ := at_tup h
  cases hl with
  | cons h1 h2 => cases h2 with
    | cons h3 h4 =>
      cases h4
      cases at_str h3
      obtain ⟨c, rfl, hc⟩ := two_ints h1
      exact ⟨a, c, rfl, Tu.st ha, hc⟩
theorem bz_pq : ∀ {ps : List PZ} {xs : List V}, AtL w C H xs (ps.map bzU) → Pq K H xs (ps.map entZ)
  | [], _, .nil => .nil
  | p :: ps, _, .cons h l => by
    obtain ⟨a, c, rfl, ha, hc⟩ := at_bz (K := K) h
    exact .cons ha hc (bz_pq l)
/-- the pairs of a dict in order, as a tuple: L -/
theorem ed_sortZ {σ : L2.St} {i : Nat} {d : Addr} {ks L : List PZ} (hl : ∃ l, H w = some (.lst l)) (hi : σ[i]? = some (some (.ref d))) (hd : H d = some (.dT (ks.map entZ))) (nd : (ks.map (·.1)).Nodup) (hp : L.Perm ks) (hs : L.Pairwise fun x y => ltPZ x y = true) :
    EvD w C (tCB (rTupF K) (tCons (tCB rSortDI (tCons (tBM0 K "dict" rItemsT (tVar i)) tNil)) tNil)) σ H (.tup (L.map bzU)) := fun H1 e Q q => by
  obtain ⟨lw, hw⟩ := hl
  have hd1 := e _ _ hd
  refine ⟨_, hi, ?_⟩
  refine ⟨?_, d, _, rfl, rfl, hd1, fun p hp0 => ?_⟩
  · exact .inr (.inr (.inl ⟨rfl, .inr ⟨_, hd1⟩⟩))
  have e2 : Ex H1 (upd H1 p (itemsO p d)) := Ex.new hp0
  refine ⟨p, d, ks, rfl, upd_same, e2 _ _ hd1, nd, fun H2 l zs hl0 e3 hperm hpw hl2 hz => ?_⟩
  have nd2 : ((zs.map (·.2)).map (·.1)).Nodup := (hperm.map _).nodup_iff.mpr nd
  have hst : (zs.map (·.2)).Pairwise fun x y => ltPZ x y = true := by
    have h1 : (zs.map (·.2)).Pairwise fun x y => x.1 ≠ y.1 := by
      unfold List.Nodup at nd2
      rw [List.pairwise_map] at nd2
      exact nd2
    refine (hpw.and h1).imp fun {x y} h => ?_
    obtain ⟨h2, h3⟩ := h
    rw [ltPZ_no] at h2
    rw [ltPZ_iff]
    have : ¬ (x.1.1 = y.1.1 ∧ x.1.2 = y.1.2) := fun h => h3 (Prod.ext h.1 h.2)
    omega
  have eL : zs.map (·.2) = L := List.Perm.eq_of_pairwise (le := fun x y => ltPZ x y = true) (fun a b _ _ h1 h2 => by
    rw [ltPZ_iff] at h1 h2
    omega) hst hs (hperm.trans hp.symm)
  have e13 : Ex H1 H2 := fun b o h => e3 b o (e2 b o h)
  have hwN : H2 w = some (.lst lw) := (e.trans e13) _ _ hw
  have al : AtL w C H2 (zs.map fun z => V.ref z.1) (L.map bzU) := by
    rw [← eL, List.map_map]
    have : ∀ l : List (Addr × PZ), (∀ z ∈ l, z ∈ zs) → AtL w C H2 (l.map fun z => V.ref z.1) (l.map (bzU ∘ fun z => z.2)) := fun l => by
      induction l with
      | nil => exact fun _ => .nil
      | cons z l ih =>
        intro h
        obtain ⟨_, c, h1, h2⟩ := hz z (h z (by simp))
        refine .cons ?_ (ih fun x hx => h x (List.mem_cons_of_mem _ hx))
        have n1 : z.1 ≠ w := fun x => by rw [x, hwN] at h1; cases h1
        have n2 : c ≠ w := fun x => by rw [x, hwN] at h2; cases h2
        exact .tup (Tu.of h1 rfl) n1 (.cons (.tup (Tu.of h2 rfl) n2 (.cons (.int _) (.cons (.int _) .nil))) (.cons (.str _) .nil))
    exact this zs fun z h => h
  exact ⟨l, _, rfl, .inl ⟨sq_of hl2, newT_data (w := w) (C := C) ⟨_, hwN⟩ al fun v H5 e6 a5 => q v H5 (e13.trans e6) a5⟩⟩
end
end Hs
/-! _put -/
namespace Hs
open PySem PySem.Spec PyProof.Rows L2 Hu Evl
open Hk (PZ ltPZ ltPZ_iff ltPZ_no entZ rSortDI cr_sortDI)
open L2.DX (itemsO rItemsT mt_itemsT)
/-- a row put among rows in order -/
def insZ (x : PZ) : List PZ → List PZ
  | [] => [x]
  | y :: r => if x.1 = y.1 then x :: r else if ltPZ x y = true then x :: y :: r else y :: insZ x r
def putZ (ps : List PZ) (x : PZ) : List PZ := if (ps.any fun y => decide (y.1 = x.1)) = true then ps.map fun y => if y.1 = x.1 then x else y else ps ++ [x]
abbrev srtZ (ps : List PZ) : Prop := ps.Pairwise fun x y => ltPZ x y = true
theorem lt_ne {x y : PZ} (h : ltPZ x y = true) : x.1 ≠ y.1 := fun e => by
  rw [ltPZ_iff, e] at h
  omega
theorem lt_trans' {x y z : PZ} (h1 : ltPZ x y = true) (h2 : ltPZ y z = true) : ltPZ x z = true := by
  rw [ltPZ_iff] at *
  omega
theorem ltPZ_key {x y z : PZ} (e : x.1 = y.1) (h : ltPZ y z = true) : ltPZ x z = true := by
  rw [ltPZ_iff] at *
  rw [e]
  exact h
theorem lt_tri {x y : PZ} (h : x.1 ≠ y.1) (h2 : ¬ ltPZ x y = true) : ltPZ y x = true := by
  rw [ltPZ_iff] at *
  have : ¬ (x.1.1 = y.1.1 ∧ x.1.2 = y.1.2) := fun q => h (Prod.ext q.1 q.2)
  omega
theorem insZ_all {x : PZ} {p : PZ → Prop} (hx : p x) : ∀ {ps : List PZ}, (∀ y ∈ ps, p y) → ∀ y ∈ insZ x ps, p y
  | [], _, y, h => by
    rw [show insZ x [] = [x] from rfl, List.mem_singleton] at h
    rw [h]; exact hx
  | a :: r, hp, y, h => by
    unfold insZ at h
    split at h
    · rcases List.mem_cons.mp h with h | h
      · rw [h]; exact hx
      · exact hp y (List.mem_cons_of_mem _ h)
    · split at h
      · rcases List.mem_cons.mp h with h | h
        · rw [h]; exact hx
        · exact hp y h
      · rcases List.mem_cons.mp h with h | h
        · rw [h]; exact hp a (by simp)
        · exact insZ_all hx (fun z hz => hp z (List.mem_cons_of_mem _ hz)) y h
theorem srt_insZ {x : PZ} : ∀ {ps : List PZ}, srtZ ps → srtZ (insZ x ps)
  | [], _ => List.pairwise_singleton _ _
  | a :: r, h => by
    have h' := List.pairwise_cons.mp h
    unfold insZ
    split
    · rename_i e
      exact List.pairwise_cons.mpr ⟨fun y hy => ltPZ_key e (h'.1 y hy), h'.2⟩
    · split
      · rename_i e l
        refine List.pairwise_cons.mpr ⟨fun y hy => ?_, h⟩
        rcases List.mem_cons.mp hy with rfl | hy
        · exact l
        · exact lt_trans' l (h'.1 y hy)
      · rename_i e l
        exact List.pairwise_cons.mpr ⟨insZ_all (lt_tri e l) h'.1, srt_insZ h'.2⟩
theorem srtZ_keys {ps : List PZ} (h : srtZ ps) : (ps.map (·.1)).Nodup := List.Pairwise.map _ (fun _ _ h => lt_ne h) h
theorem nd_keys {ps : List PZ} (h : (ps.map (·.1)).Nodup) : ps.Nodup := by
  unfold List.Nodup at h ⊢
  rw [List.pairwise_map] at h
  exact h.imp fun {a b} q e => q (by rw [e])
theorem mem_insZ {x y : PZ} : ∀ {ps : List PZ}, srtZ ps → (y ∈ insZ x ps ↔ y = x ∨ (y ∈ ps ∧ y.1 ≠ x.1))
  | [], _ => by simp [insZ]
  | a :: r, h => by
    have h' := List.pairwise_cons.mp h
    unfold insZ
    split
    · rename_i e
      rw [List.mem_cons, List.mem_cons]
      constructor
      · rintro (q | q)
        · exact .inl q
        · exact .inr ⟨.inr q, fun z => lt_ne (h'.1 y q) (by rw [z, e])⟩
      · rintro (q | ⟨q | q, n⟩)
        · exact .inl q
        · exact absurd (by rw [q, e]) n
        · exact .inr q
    · rename_i e
      split
      · rename_i l
        rw [List.mem_cons]
        constructor
        · rintro (q | q)
          · exact .inl q
          · refine .inr ⟨q, fun z => ?_⟩
            rcases List.mem_cons.mp q with rfl | q
            · exact e z.symm
            · exact lt_ne (lt_trans' l (h'.1 y q)) z.symm
        · rintro (q | ⟨q, _⟩)
          · exact .inl q
          · exact .inr q
      · rw [List.mem_cons, mem_insZ h'.2, List.mem_cons]
        constructor
        · rintro (q | q | ⟨q, n⟩)
          · exact .inr ⟨.inl q, fun z => e (by rw [← z, q])⟩
          · exact .inl q
          · exact .inr ⟨.inr q, n⟩
        · rintro (q | ⟨q | q, n⟩)
          · exact .inr (.inl q)
          · exact .inl q
          · exact .inr (.inr ⟨q, n⟩)
theorem mem_putZ {x y : PZ} {ps : List PZ} : y ∈ putZ ps x ↔ y = x ∨ (y ∈ ps ∧ y.1 ≠ x.1) := by
  unfold putZ
  split
  · rename_i h
    obtain ⟨a, ha, e⟩ := List.any_eq_true.mp h
    have e := of_decide_eq_true e
    rw [List.mem_map]
    constructor
    · rintro ⟨b, hb, q⟩
      split at q
      · exact .inl q.symm
      · rename_i n
        rw [← q]
        exact .inr ⟨hb, n⟩
    · rintro (q | ⟨q, n⟩)
      · exact ⟨a, ha, by rw [if_pos e, q]⟩
      · exact ⟨y, q, if_neg n⟩
  · rename_i h
    have no : ∀ a ∈ ps, a.1 ≠ x.1 := fun a ha e => h (List.any_eq_true.mpr ⟨a, ha, decide_eq_true e⟩)
    rw [List.mem_append, List.mem_singleton]
    constructor
    · rintro (q | q)
      · exact .inr ⟨q, no y q⟩
      · exact .inl q
    · rintro (q | ⟨q, _⟩)
      · exact .inr q
      · exact .inl q
theorem putZ_keys {x : PZ} {ps : List PZ} (h : (ps.map (·.1)).Nodup) : ((putZ ps x).map (·.1)).Nodup := by
  unfold putZ
  split
  · rw [List.map_map]
    have : ((fun y : PZ => y.1) ∘ fun y => if y.1 = x.1 then x else y) = fun y => y.1 := by
      funext y
      show (if y.1 = x.1 then x else y).1 = y.1
      split
      · rename_i e; exact e.symm
      · rfl
    rw [this]
    exact h
  · rename_i n
    rw [List.map_append, List.nodup_append]
    refine ⟨h, by simp, fun a ha b hb e => ?_⟩
    obtain ⟨y, hy, rfl⟩ := List.mem_map.mp ha
    have hb' : b = x.1 := by simpa using hb
    exact n (List.any_eq_true.mpr ⟨y, hy, decide_eq_true (e.trans hb')⟩)
theorem put_ent {x : PZ} {ps : List PZ} : putK (ps.map entZ) (kP x.1) (.str x.2) = (putZ ps x).map entZ := by
  have ke : ∀ y : PZ, (decide ((entZ y).1 = kP x.1) : Bool) = decide (y.1 = x.1) := fun y => decide_eq_decide.mpr ⟨fun h => kP_inj h, fun h => congrArg kP h⟩
  unfold putK putZ
  have e1 : ((ps.map entZ).any fun kv => decide (kv.1 = kP x.1)) = ps.any fun y => decide (y.1 = x.1) := by
    rw [List.any_map]
    congr 1
    funext y
    exact ke y
  rw [e1]
  split
  · rw [List.map_map, List.map_map]
    refine List.map_congr_left fun y _ => ?_
    show (if (entZ y).1 = kP x.1 then _ else _) = entZ (if y.1 = x.1 then x else y)
    by_cases q : y.1 = x.1
    · rw [if_pos q, if_pos (show (entZ y).1 = kP x.1 from congrArg kP q), show (entZ y).1 = kP x.1 from congrArg kP q]
      rfl
    · rw [if_neg q, if_neg (show ¬ (entZ y).1 = kP x.1 from fun h => q (kP_inj h))]
  · rw [List.map_append]
    rfl
/-- a doing with these parts: what it makes of a table's row -/
def spDg (C : Addr) (ok : List U → List U → Prop) (F : List U → List U → List U) : Sp := fun vs H Q _ => ∃ (x y : V) (us ps : List U) (w : Addr), vs = [x, y] ∧ At w C H x (.tup us) ∧ At w C H y (.tup ps) ∧ (∃ l, H w = some (.lst l)) ∧ us.length = 10 ∧ ok us ps ∧ ∀ v H', Same H H' → At w C H' v (.tup (F us ps)) → Q v H'
theorem lenDg {C : Addr} {ok : List U → List U → Prop} {F : List U → List U → List U} {a b : Str} : ∀ vs H Q E, spDg C ok F vs H Q E → vs.length = [a, b].length := fun vs H Q E h => by
  obtain ⟨x, y, us, ps, w, rfl, _⟩ := h
  rfl
def zU (u : U) : PZ := match u with | .tup [.tup [.int i, .int j], .str z] => ((i, j), z) | _ => default
def rowsOf (u : U) : List U := match u with | .tup us => us | _ => []
theorem zU_bz (x : PZ) : zU (bzU x) = x := rfl
theorem map_zU (ps : List PZ) : (ps.map bzU).map zU = ps := by
  rw [List.map_map]
  exact (List.map_congr_left fun x _ => zU_bz x).trans (List.map_id _)
/-- rows of right blocks in order -/
def okB (u : U) : Prop := ∃ ps : List PZ, u = .tup (ps.map bzU) ∧ srtZ ps ∧ ps.length ≤ 40000
theorem isB_bz (bs : List PZ) : isB (bs.map bzU) = true := by
  unfold isB
  rw [List.all_map]
  exact List.all_eq_true.mpr fun _ _ => rfl
theorem ent_keys (bs : List PZ) : (bs.map entZ).map (·.1) = (bs.map (·.1)).map kP := by
  rw [List.map_map, List.map_map]
  rfl
section
variable {σ : L2.St} {H : Hp} {te : TE} {ta : TA} {Q : VK} {D : Ends} {vs : List V} {r : List V → Hp → VK → Prop} {tz : TS} {i : Nat}
theorem asgQ (h : te σ H fun v H' => tz D (σ.set i (some v)) H') : tSeq (tAsg te (gName i)) tz D σ H := h
theorem cbQ (ha : EvA ta σ H vs) (k : ∀ H2, Ex H H2 → r vs H2 Q) : tCB r ta σ H Q := ha H (Ex.refl H) _ k
end
section
variable {P : Program} {wd : World} {K : PySem.W.Frag} {mg : Str → Option Value} {base : Heap} {C : Addr}
theorem boot_dict' : bootBuiltins "dict" = some (.type "dict") := by decide +kernel
end
end Hs
/-! sorted(d), the keys texts, any number of them -/
namespace Hk
open PySem PySem.Spec PyProof.Rows L2
def zv : Value → Str
  | .str z _ => z
  | _ => default
def ltZv (v u : Value) : Bool := decide ((zv v).cps.toList < (zv u).cps.toList)
theorem swo_str : SrtO.Swo ltZv := by
  refine ⟨fun x y h => ?_, fun x y z h1 h2 => ?_⟩
  · have a := of_decide_eq_true (p := (zv x).cps.toList < (zv y).cps.toList) h
    exact decide_eq_false fun b => List.lt_irrefl _ (List.lt_trans a b)
  · have a := of_decide_eq_false (p := (zv y).cps.toList < (zv x).cps.toList) h1
    have b := of_decide_eq_false (p := (zv z).cps.toList < (zv y).cps.toList) h2
    exact decide_eq_false fun c => by
      rcases lt_tri (zv x).cps.toList (zv y).cps.toList with q | q | q
      · exact b (List.lt_trans c q)
      · exact b (by rw [← q]; exact c)
      · exact a q
section
variable {prog : Program} {w : World} {A : Around} {s : Shared}
theorem strs_mem : ∀ {vs : List Value} {ss : List Str}, StrsAre vs ss → ∀ v ∈ vs, ∃ z t, v = Value.str z t
  | _, _, .nil, v, h => absurd h (by simp)
  | _, _, .cons z t r, v, h => by
    rcases List.mem_cons.mp h with e | h
    · exact ⟨z, t, e⟩
    · exact strs_mem r v h
theorem zv_strs : ∀ {vs : List Value} {ss : List Str}, StrsAre vs ss → vs.map zv = ss
  | _, _, .nil => rfl
  | _, _, .cons z t r => congrArg (z :: ·) (zv_strs r)
theorem str_cmp {vs : List Value} {ss : List Str} (hI : StrsAre vs ss) : SrtO.Cmp prog w A s oneType' (fun p => p.1 ∈ vs) (SrtO.lt2 ltZv) := by
  intro p q hm hm'
  obtain ⟨a, t, e⟩ := strs_mem hI _ hm
  obtain ⟨b, u, e'⟩ := strs_mem hI _ hm'
  show wpAny (model prog w) A (keyLt' oneType' p.1 q.1) (fun r s' => s' = s ∧ r = ltZv p.1 q.1) (fun _ _ => False) s
  rw [e, e', keyLt'_oneType]
  exact oneLt_str ⟨rfl, rfl⟩
theorem strs_sortable {a : Addr} {vs : List Value} {ss : List Str} (hI : StrsAre vs ss) (h2 : 2 ≤ vs.length) : SrtO.SortableO prog w A s a vs ltZv := by
  intro h' _
  refine ⟨oneType', fun Q E hq => ?_, str_cmp hI⟩
  match vs, hI, h2 with
  | v1 :: v2 :: rest, hI, _ =>
    rw [keyKind_strs hI]
    exact wpAny_pure hq
  | [], _, h => exact absurd h (by decide)
  | [v], _, h => exact absurd h (by simp)
end
/-- the keys of such a dict, as they stand -/
theorem pairs_at {prog : Program} {w : World} : ∀ {es : List DictEntry} {kvs : List (L2.Key × Value)} {j : Nat} {e : DictEntry}, Pairs (mixKind prog w) es kvs → es[j]? = some e → ∃ kv, kvs[j]? = some kv ∧ (mixKind prog w).is kv.1 e.key = true
  | _, _, _, _, .nil, h => by simp at h
  | _, _, 0, _, .cons (kv := kv) h _ _, q => by
    cases q
    exact ⟨kv, rfl, h⟩
  | _, _, j + 1, _, .cons _ _ r, q => by
    obtain ⟨kv, h1, h2⟩ := pairs_at r (by simpa using q)
    exact ⟨kv, by simpa using h1, h2⟩
theorem pairs_len {prog : Program} {w : World} : ∀ {es : List DictEntry} {kvs : List (L2.Key × Value)}, Pairs (mixKind prog w) es kvs → es.length = kvs.length
  | _, _, .nil => rfl
  | _, _, .cons _ _ r => by rw [List.length_cons, List.length_cons, pairs_len r]
theorem strs_by : ∀ {vs : List Value} {ss : List Str}, vs.length = ss.length → (∀ (j : Nat) (v : Value), vs[j]? = some v → ∃ z t, ss[j]? = some z ∧ v = .str z t) → StrsAre vs ss
  | [], [], _, _ => .nil
  | [], _ :: _, h, _ => by cases h
  | _ :: _, [], h, _ => by cases h
  | v :: vs, z :: ss, h, k => by
    obtain ⟨y, t, e, rfl⟩ := k 0 v rfl
    cases e
    exact .cons z t (strs_by (by simpa using h) fun j u q => k (j + 1) u (by simpa using q))
theorem strs_vals : ∀ {vs : List Value}, (∀ v ∈ vs, ∃ z t, v = Value.str z t) → Vals ((vs.map zv).map V.str) vs
  | [], _ => .nil
  | v :: vs, h => by
    obtain ⟨z, t, rfl⟩ := h v List.mem_cons_self
    exact .cons ⟨t, rfl⟩ (strs_vals fun u hu => h u (List.mem_cons_of_mem _ hu))
section
variable {X : Cx}
/-- sorted(d): the keys, in a new list -/
def rSortDZ : List V → Hp → VK → Prop := fun xs H Q => ∃ (a : Addr) (kvs : List (L2.Key × V)) (ks : List Str), xs = [.ref a] ∧ H a = some (.dK kvs) ∧ kvs.map (·.1) = ks.map Sum.inr ∧
  ∀ (zs : List Str) (p : Addr), zs.Perm ks → zs.Pairwise (fun x y => ¬ y.cps.toList < x.cps.toList) → H p = none → Q (.ref p) (upd H p (.lst (zs.map V.str)))
theorem cr_sortDZ (hc : X.calm = true) : CallR X (.builtin "sorted") rSortDZ := by
  intro pins s σ H xs us Q I r h
  obtain ⟨a, kvs, ks, rfl, ha, hks, q⟩ := h
  obtain rfl := Vals.ref1 r
  obtain ⟨z, lo, vs, rel, o, es, ep, ho, hx, hdat, _, hps, _⟩ := dk_of I.hok ha
  have l1 : kvs.length = vs.length := Paired.length rel
  have l2 : es.size = vs.length := by rw [← Array.length_toList]; exact pairs_len hps
  have l3 : kvs.length = ks.length := by
    have e := congrArg List.length hks
    rw [List.length_map, List.length_map] at e
    exact e
  have h16 : es.size ≤ sizeLine := by omega
  refine Calls.call_function_entry PyProof.Rows.kind_sorted PyProof.Rows.plain_sorted PyProof.Rows.entry_sorted (PyProof.Rows.args_sorted1 _) ?_
  unfold Builtin.«sorted»
  refine wpAny_bind (m := checkCount "sorted" 1 1 _) (wpAny_pure ?_)
  refine wpAny_bind (PySem.W.kdu_collect (A := X.A.in1) (kdl_dt lo hx hdat) (I.ok.hd hc) ho h16 fun h' tk acc hk hacc => ?_)
  have hI : StrsAre acc.toList ks := by
    refine strs_by (by rw [Array.length_toList, hacc.1]; omega) fun j v hj => ?_
    obtain ⟨en, he, rfl⟩ := hacc.2 j v (by rw [← Array.getElem?_toList]; exact hj)
    obtain ⟨kv, h1, h2⟩ := pairs_at hps (by rw [Array.getElem?_toList]; exact he)
    obtain ⟨e0, he0, r1, _⟩ := L2.DX.pget rel h1
    have k0 : (kvs.map (·.1))[j]? = some e0.1 := by rw [List.getElem?_map, he0]; rfl
    rw [hks, List.getElem?_map] at k0
    cases hkj : ks[j]? with
    | none => rw [hkj] at k0; cases k0
    | some y =>
      rw [hkj] at k0
      have k1 : (Sum.inr y : L2.Key) = e0.1 := Option.some.inj k0
      have h3 : L2.keyIs kv.1 en.key = true := h2
      rw [← r1, ← k1] at h3
      rcases L2.keyIs_shape h3 with ⟨i, t, e, _⟩ | ⟨x, t, e, e2⟩
      · cases e
      · cases e
        exact ⟨y, t, rfl, e2⟩
  have hz : acc.toList.length ≤ sizeLine := by rw [Array.length_toList, hacc.1]; exact h16
  have I1 : Inv X pins σ H { s with heap := h', toks := tk } := I.kept hk
  refine wpAny_bind (wpAny_newList ?_ hz)
  have hoL : (h'.push (seqObj "list" acc.toList.toArray 0)).get? h'.objs.size = some (seqObj "list" acc.toList.toArray 0) := Heap.get?_push_size _ rfl
  show wpAny _ _ _ _ _ { s with heap := h'.push (seqObj "list" acc.toList.toArray 0), toks := tk }
  refine wpAny_bind (wpAny_holding (wpAny_call_entry PyProof.Rows.slot_list_sort ⟨_, hoL, rfl⟩ PyProof.Rows.entry_list_sort
    (SrtO.list_sort_ord (s := { s with heap := h'.push (seqObj "list" acc.toList.toArray 0), toks := tk }) swo_str hoL hz (fun h2 => strs_sortable hI h2) fun out hs hb => ⟨_, rfl, ?_⟩)
    (PyProof.Rows.args_list_sort _)))
  obtain ⟨e', he'⟩ := PyProof.Rows.sortedHeap_at (vs := acc.toList) (out := out.toArray) hoL
  have hlen : ((out.map zv).map V.str).length ≤ sizeLine := by
    rw [List.length_map, List.length_map, hb.perm.length_eq]
    exact hz
  refine wpAny_pure ⟨_, rfl, .ref h'.objs.size, upd H h'.objs.size (.lst ((out.map zv).map V.str)), I1.laid (t' := tk) (fun b u e => ?_) (Nat.le_refl _)
    (show ObjOk X.prog X.w _ _ _ (.lst _) from ⟨hlen, out, e', strs_vals fun v hv => strs_mem hI v (hb.perm.mem_iff.mp hv), he'⟩), rfl, q _ _ ?_ ?_ (I1.hok.fresh (Nat.le_refl _))⟩
  · have hb : b < h'.objs.size := Heap.lt_size e
    rw [PyProof.Rows.sortedHeap_old (Nat.ne_of_lt hb) (by rw [size_push']; exact Nat.lt_succ_of_lt hb)]
    exact Heap.get?_push_of_some _ e
  · rw [← zv_strs hI]
    exact hb.perm.map _
  · rw [List.pairwise_map]
    exact hs.imp fun {x y} h => of_decide_eq_false (p := (zv y).cps.toList < (zv x).cps.toList) h
end
end Hk
/-! heads by name; what a head tells -/
namespace Hs
open PySem PySem.Spec PyProof.Rows L2 Hu Evl
open Hk (SI ltSI nearOk)
theorem dc_tup {K : PySem.W.Frag} {a : Addr} {xs : List V} {g : TG} {tt : TT} {tk tv : TE} {vs : List Nat} {σ : L2.St} {G : Hp} {D : Addr} {Qd : Hp → Prop} (Pv : Nat → Hp → Prop) (h0 : Pv 0 (upd G D (.dK []))) (hl : ∀ i H, i ≤ xs.length → Pv i H → SqT K H a xs)
    (hs : ∀ i x H, xs[i]? = some x → Pv i H → g x (wipe σ vs) H fun τ H2 => wipe τ vs = wipe σ vs ∧ tt τ H2 fun ok H3 =>
      if ok = true then tk τ H3 fun y H4 => tv τ H4 fun z H5 => ∃ kvs k, y = kV k ∧ H5 D = some (.dK kvs) ∧ kvs.length < sizeLine ∧ Pv (i + 1) (upd H5 D (.dK (putK kvs k z))) else Pv (i + 1) H3) (hd : ∀ H, Pv xs.length H → Qd H) :
    ∃ W : Nat → Nat → Hp → Prop, (∃ m, W 0 m (upd G D (.dK []))) ∧ ∀ i m H, W i m H →
      ((Itt K a).stop i H ∧ Qd H) ∨ ((Itt K a).go i H ∧ ∃ Nx : Hp → Prop, (∀ H', Nx H' → ∃ m', m' < m ∧ W (i + 1) m' H') ∧ ∀ x H', (Itt K a).yld i H x H' → g x (wipe σ vs) H' fun τ H2 => wipe τ vs = wipe σ vs ∧ tt τ H2 fun ok H3 =>
        if ok = true then tk τ H3 fun y H4 => tv τ H4 fun z H5 => ∃ kvs k, y = kV k ∧ H5 D = some (.dK kvs) ∧ kvs.length < sizeLine ∧ Nx (upd H5 D (.dK (putK kvs k z))) else Nx H3) := by
  refine ⟨fun i m H => m = xs.length - i ∧ i ≤ xs.length ∧ Pv i H, ⟨xs.length, (Nat.sub_zero _).symm, Nat.zero_le _, h0⟩, ?_⟩
  rintro i m H ⟨em, le, p⟩
  by_cases h : i < xs.length
  · exact .inr ⟨⟨xs, xs[i], hl i H le p, List.getElem?_eq_getElem h⟩, Pv (i + 1), fun H' p' => ⟨xs.length - (i + 1), by omega, rfl, h, p'⟩, fun x H' y => by
      have ex := y.2 xs (hl i H le p)
      rw [y.1]
      exact hs i x H ex p⟩
  · have e : i = xs.length := by omega
    exact .inl ⟨⟨xs, hl i H le p, by omega⟩, hd H (by rw [← e]; exact p)⟩
/-- the dict of right heads -/
inductive NV (w C : Addr) (H : Hp) : List (L2.Key × V) → List U → Prop
  | nil : NV w C H [] []
  | cons {z : Str} {s r : U} {v : V} {kvs : List (L2.Key × V)} {us : List U} : At w C H v (.tup [s, r]) → NV w C H kvs us → NV w C H ((.inr z, v) :: kvs) (.tup [.str z, s, r] :: us)
section
variable {w C : Addr} {H H' : Hp}
theorem NV.len {kvs : List (L2.Key × V)} {us : List U} (h : NV w C H kvs us) : kvs.length = us.length := by
  induction h with
  | nil => rfl
  | cons _ _ ih => rw [List.length_cons, List.length_cons, ih]
theorem NV.tups {kvs : List (L2.Key × V)} {us : List U} (k : ∀ b o, b ≠ w → TQ o → H b = some o → H' b = some o) (h : NV w C H kvs us) (g : us.all gNamed = true) : NV w C H' kvs us := by
  induction h with
  | nil => exact .nil
  | cons h _ ih =>
    rw [List.all_cons, Bool.and_eq_true] at g
    have p := gNamed_pln g.1
    exact .cons (at_tups k ⟨p.2.1, p.2.2.1, trivial⟩ h) (ih g.2)
theorem NV.append {kvs k2 : List (L2.Key × V)} {us u2 : List U} (h : NV w C H kvs us) (h2 : NV w C H k2 u2) : NV w C H (kvs ++ k2) (us ++ u2) := by
  induction h with
  | nil => exact h2
  | cons h _ ih => exact .cons h ih
theorem named_str {z y : Str} {s r : U} : named z (.tup [.str y, s, r]) = decide (y = z) := rfl
theorem NV.vnone {kvs : List (L2.Key × V)} {us : List U} (h : NV w C H kvs us) {z : Str} (g : us.find? (named z) = none) : valV kvs (.inr z) = none := by
  induction h with
  | nil => rfl
  | @cons y s r v kvs us h _ ih =>
    rw [List.find?_cons] at g
    by_cases q : y = z
    · rw [named_str, decide_eq_true q] at g
      cases g
    · rw [named_str, decide_eq_false q] at g
      rw [valV_neg fun e => q (Sum.inr.inj e)]
      exact ih g
theorem NV.vsome {kvs : List (L2.Key × V)} {us : List U} (h : NV w C H kvs us) {z : Str} {u : U} (g : us.find? (named z) = some u) : ∃ v, valV kvs (.inr z) = some v ∧ At w C H v (.tup [nth u 1, nth u 2]) := by
  induction h with
  | nil => cases g
  | @cons y s r v kvs us h _ ih =>
    rw [List.find?_cons] at g
    by_cases q : y = z
    · rw [named_str, decide_eq_true q] at g
      cases g
      rw [valV_pos (congrArg Sum.inr q)]
      exact ⟨v, rfl, h⟩
    · rw [named_str, decide_eq_false q] at g
      rw [valV_neg fun e => q (Sum.inr.inj e)]
      exact ih g
end
/-- told as data, in whatever it stands -/
inductive Lk (K : PySem.W.Frag) (H : Hp) : V → U → Prop
  | non : Lk K H .non .non
  | int (i : Int) : Lk K H (.int i) (.int i)
  | str (z : Str) : Lk K H (.str z) (.str z)
  | tup {a : Addr} {xs : List V} {us : List U} : SqT K H a xs → xs.length = us.length → (∀ (i : Nat) (x : V) (u : U), xs[i]? = some x → us[i]? = some u → Lk K H x u) → Lk K H (.ref a) (.tup us)
theorem sqt_ex {K : PySem.W.Frag} {H H' : Hp} {a : Addr} {xs : List V} (e : Ex H H') (h : SqT K H a xs) : SqT K H' a xs := by
  rcases h with h | h
  · refine .inl ?_
    rcases h with h | ⟨o, h⟩
    · exact .inl (e _ _ h)
    · exact .inr ⟨o, e _ _ h⟩
  · exact .inr h
theorem Lk.ex {K : PySem.W.Frag} {H H' : Hp} {v : V} {u : U} (e : Ex H H') (h : Lk K H v u) : Lk K H' v u := by
  induction h with
  | non => exact .non
  | int i => exact .int i
  | str z => exact .str z
  | tup h1 h2 _ ih => exact .tup (sqt_ex e h1) h2 fun i x u h3 h4 => ih i x u h3 h4
mutual
theorem lk_at {K : PySem.W.Frag} {w C : Addr} {H : Hp} : ∀ {u : U} {v : V}, pln u → At w C H v u → Lk K H v u
  | _, _, _, .non => .non
  | .bl _, _, p, _ => p.elim
  | _, _, _, .int i => .int i
  | _, _, _, .str z => .str z
  | _, _, p, .tup h n l => .tup (Tu.st h) (AtL.length l) (lk_atl p l)
  | _, _, p, .lst _ _ _ => p.elim
  | _, _, p, .dct _ _ _ _ _ => p.elim
  | _, _, p, .exc _ _ _ _ => p.elim
theorem lk_atl {K : PySem.W.Frag} {w C : Addr} {H : Hp} : ∀ {us : List U} {xs : List V}, plnL us → AtL w C H xs us → ∀ (i : Nat) (x : V) (u : U), xs[i]? = some x → us[i]? = some u → Lk K H x u
  | _, _, _, .nil => fun i x u h _ => by simp at h
  | _, _, p, .cons h l => fun i x u h1 h2 => by
    cases i with
    | zero =>
      cases h1
      cases h2
      exact lk_at p.1 h
    | succ i => exact lk_atl p.2 l i x u (by simpa using h1) (by simpa using h2)
end
abbrev sHeadsBy : Stmt := topS 64
section
variable {P : Program} {wd : World} {K : PySem.W.Frag} {mg : Str → Option Value} {base : Heap} {C : Addr}
theorem scHeadsBy : FnScope ["heads", "name", "stamp", "row"] ["heads"] (defScope sHeadsBy) := ⟨rfl, rfl, rfl, by decide +kernel, rfl, by decide +kernel, by decide +kernel⟩
def spHB (C : Addr) : Sp := fun vs H Q _ => ∃ (x : V) (hs : List U) (w : Addr), vs = [x] ∧ At w C H x (.tup hs) ∧ hs.all gNamed = true ∧ (hs.map fun u => strU (nth u 0)).Nodup ∧ hs.length ≤ 3000 ∧ (∃ o, H w = some o) ∧ ∀ d kvs H', H d = none → Same H H' → H' d = some (.dK kvs) → NV w C H' kvs hs → Q (.ref d) H'
theorem no_named {hs : List U} {z : Str} (g : hs.all gNamed = true) (h : z ∉ hs.map fun u => strU (nth u 0)) : hs.find? (named z) = none := by
  rw [List.find?_eq_none]
  intro u hu e
  obtain ⟨y, s, r, rfl, _⟩ := gNamed_is (List.all_eq_true.mp g u hu)
  rw [named_str] at e
  exact h (List.mem_map.mpr ⟨_, hu, of_decide_eq_true e⟩)
theorem ok_headsBy {f : Addr} {fd : FuncData} (D : Df K mg "heads_by_name" sHeadsBy ["heads"] f fd) : FnOk P wd K mg base CX0 1 f fd ["heads"] (spHB C) := by
  refine D.F.ok scHeadsBy (fun vs H Q E h => ?_) (fun cdv A outer s H vs Q E hr h => ?_)
  · obtain ⟨x, hs, w, rfl, _⟩ := h
    rfl
  obtain ⟨x, hs, w, rfl, hx, hall, hnd, hz, hw, k⟩ := h
  refine ⟨_, pss_one (ps_ret (pe_dc (own := [("name", 1), ("stamp", 2), ("row", 3)]) (g := gTup K 3 (gCons (gName 1) (gCons (gName 2) (gCons (gName 3) gNil)))) (tt := tYes) (tk := tVar 1) (tv := tTupF (tCons (tVar 2) (tCons (tVar 3) tNil))) rfl scHeadsBy.nd (pi_tup (pv 0))
    (blkOk_by (N := ["heads", "name", "stamp", "row"]) (sc := defScope sHeadsBy) (by decide +kernel))
    (fun _ _ _ _ _ => pg_tup rfl (pgs_cons (pg_name (i := 1) scHeadsBy.nd rfl (.inl rfl)) (pgs_cons (pg_name (i := 2) scHeadsBy.nd rfl (.inl rfl)) (pgs_cons (pg_name (i := 3) scHeadsBy.nd rfl (.inl rfl)) pgs_nil)))) (fun _ _ _ _ _ => pts_nil) (fun _ _ _ _ _ => pv 1) (fun _ _ _ _ _ => pe_tupF (pa_cons (pv 2) (pa_cons (pv 3) pa_nil))))), ?_⟩
  obtain ⟨a, xs, rfl, ha, na, hl⟩ := at_tup hx
  have hlen := AtL.length hl
  refine ⟨_, rfl, a, rfl, ⟨xs, Tu.st ha⟩, fun Dd hD => dc_tup (xs := xs) (fun i G => Ex H G ∧ ∃ kvs, G Dd = some (.dK kvs) ∧ NV w C G kvs (hs.take i)) ⟨Ex.new hD, [], upd_same, .nil⟩ (fun i G _ p => Tu.st (Tu.ex p.1 ha)) (fun i x G hi p => ?_) (fun G p => ?_)⟩
  · obtain ⟨e1, kvs, p2, p3⟩ := p
    have hi' : i < hs.length := by
      have := (List.getElem?_eq_some_iff.mp hi).1
      omega
    obtain ⟨v', hv', av⟩ := AtL.get hl (List.getElem?_eq_getElem hi')
    rw [hi] at hv'
    cases hv'
    have hg : hs[i]? = some hs[i] := List.getElem?_eq_getElem hi'
    have tk : hs.take (i + 1) = hs.take i ++ [hs[i]] := by rw [List.take_add_one, hg]; rfl
    have gn := List.all_eq_true.mp hall _ (List.getElem_mem hi')
    have gt : (hs.take (i + 1)).all gNamed = true := List.all_eq_true.mpr fun u hu => List.all_eq_true.mp hall u (List.mem_of_mem_take hu)
    have n1 : ((hs.take (i + 1)).map fun u => strU (nth u 0)).Nodup := List.Nodup.sublist (List.Sublist.map _ (List.take_sublist _ _)) hnd
    rw [tk] at gt n1 ⊢
    generalize hs[i] = un at av gn gt n1 ⊢
    obtain ⟨z, s1, r1, rfl, _, gr⟩ := gNamed_is gn
    rw [List.map_append, List.nodup_append] at n1
    rw [List.all_append, Bool.and_eq_true] at gt
    have nof : (hs.take i).find? (named z) = none := no_named gt.1 fun hm => n1.2.2 z hm z (by simp [nth, strU]) rfl
    obtain ⟨b, ys, rfl, hb, nb, hys⟩ := at_tup av
    obtain ⟨y1, y2, rfl, ay1, ay2⟩ : ∃ y1 y2, ys = [.str z, y1, y2] ∧ At w C H y1 s1 ∧ At w C H y2 r1 := by
      cases hys with
      | cons h1 h2 => cases h2 with
        | cons h3 h4 => cases h4 with
          | cons h5 h6 =>
            cases h6
            cases at_str h1
            exact ⟨_, _, rfl, h3, h5⟩
    refine ⟨b, _, rfl, Tu.st (Tu.ex e1 hb), rfl, _, _, rfl, _, _, rfl, _, _, rfl, rfl, rfl, ?_⟩
    refine et_yes G (Ex.refl G) _ fun G0 e0 => ?_
    rw [if_pos rfl]
    have e10 := e1.trans e0
    refine ⟨_, rfl, (ed_tup (C := C) (hw.imp fun o q => e10 _ _ q) (eds_cons (ed_ev (te := tVar 2) (ev_var rfl) (ex_at e10 ay1)) (eds_cons (ed_ev (te := tVar 3) (ev_var rfl) (ex_at e10 ay2)) eds_nil)) (by show (2 : Nat) ≤ 100000; decide)) G0 (Ex.refl G0) _ fun v G1 e11 a1 => ?_⟩
    have h2 := e11 _ _ (e0 _ _ p2)
    have nt : ∀ b o, b ≠ w → TQ o → G1 b = some o → upd G1 Dd (.dK (putK kvs (.inr z) v)) b = some o := fun b o _ q e => by
      rw [upd_ne (fun x => by
        rw [x, h2] at e
        cases e
        obtain ⟨zs, q | ⟨c, q⟩⟩ := q <;> cases q)]
      exact e
    refine ⟨kvs, .inr z, rfl, h2, ?_, Ex.mut (e10.trans e11) hD, _, upd_same, ?_⟩
    · have := p3.len
      rw [List.length_take] at this
      exact sz_lt (by omega)
    · rw [putK_new _ (p3.vnone nof)]
      have p4 : NV w C G1 kvs (hs.take i) := p3.tups (fun b o _ _ h => e11 _ _ (e0 _ _ h)) gt.1
      have := (p4.append (.cons (z := z) a1 .nil)).tups nt (by rw [List.all_append, gt.1, gt.2]; rfl)
      rw [putK_new _ (p3.vnone nof)] at this
      exact this
  · obtain ⟨p1, kvs, p2, p3⟩ := p
    rw [hlen, List.take_length] at p3
    exact k Dd kvs G hD p1 p2 p3
end
end Hs
/-! heads_in_order -/
namespace Hs
open PySem PySem.Spec PyProof.Rows L2 Hu Evl
open Hk (rSortDZ cr_sortDZ)
abbrev sHeadsIn : Stmt := topS 65
def nmU (u : U) : Str := strU (nth u 0)
abbrev srtH (us : List U) : Prop := us.Pairwise fun a b => (nmU a).cps.toList < (nmU b).cps.toList
theorem NV.keys {w C : Addr} {H : Hp} {kvs : List (L2.Key × V)} {us : List U} (h : NV w C H kvs us) : kvs.map (·.1) = (us.map nmU).map Sum.inr := by
  induction h with
  | nil => rfl
  | cons _ _ ih => rw [List.map_cons, List.map_cons, List.map_cons, ih]; rfl
theorem NV.get {w C : Addr} {H : Hp} {kvs : List (L2.Key × V)} {us : List U} (h : NV w C H kvs us) (nd : (us.map nmU).Nodup) {u : U} (hu : u ∈ us) : ∃ z s r v, u = .tup [.str z, s, r] ∧ valV kvs (.inr z) = some v ∧ At w C H v (.tup [s, r]) := by
  induction h with
  | nil => cases hu
  | @cons z s r v kvs us h1 h2 ih =>
    rw [List.map_cons, List.nodup_cons] at nd
    rcases List.mem_cons.mp hu with rfl | hu
    · exact ⟨z, s, r, v, rfl, valV_pos rfl, h1⟩
    · obtain ⟨y, a, b, x, e1, e2, e3⟩ := ih nd.2 hu
      refine ⟨y, a, b, x, e1, ?_, e3⟩
      rw [valV_neg]
      · exact e2
      · intro e
        refine nd.1 ?_
        have : nmU (.tup [.str z, s, r]) = nmU u := by
          rw [e1]
          exact Sum.inr.inj e
        rw [this]
        exact List.mem_map.mpr ⟨u, hu, rfl⟩
/-- names in order tell the heads in order -/
theorem names_tell {us L : List U} {zs : List Str} (nd : (us.map nmU).Nodup) (hp : L.Perm us) (hs : srtH L) (pz : zs.Perm (us.map nmU)) (sz : zs.Pairwise fun x y => ¬ y.cps.toList < x.cps.toList) : zs = L.map nmU := by
  refine List.Perm.eq_of_pairwise (le := fun x y : Str => ¬ y.cps.toList < x.cps.toList) (fun a b _ _ h1 h2 => ?_) sz ?_ (pz.trans (hp.map nmU).symm)
  · rcases Hk.lt_tri a.cps.toList b.cps.toList with q | q | q
    · exact absurd q h2
    · exact Hk.str_ext q
    · exact absurd q h1
  · rw [List.pairwise_map]
    exact hs.imp fun {a b} h q => List.lt_irrefl _ (List.lt_trans h q)
section
variable {P : Program} {wd : World} {K : PySem.W.Frag} {mg : Str → Option Value} {base : Heap} {C : Addr}
theorem scHeadsIn : FnScope ["found", "name"] ["found"] (defScope sHeadsIn) := ⟨rfl, rfl, rfl, by decide +kernel, rfl, by decide +kernel, by decide +kernel⟩
def spHIO (C : Addr) : Sp := fun vs H Q _ => ∃ (d : Addr) (kvs : List (L2.Key × V)) (us L : List U) (w : Addr), vs = [.ref d] ∧ H d = some (.dK kvs) ∧ NV w C H kvs us ∧ us.all gNamed = true ∧ (us.map nmU).Nodup ∧ L.Perm us ∧ srtH L ∧ us.length ≤ 40000 ∧ (∃ o, H w = some o) ∧ ∀ v H', Same H H' → At w C H' v (.tup L) → Q v H'
theorem ok_headsIn {f : Addr} {fd : FuncData} (D : Df K mg "heads_in_order" sHeadsIn ["found"] f fd) (B : Bt mg) (Z : Bz mg) : FnOk P wd K mg base CX0 1 f fd ["found"] (spHIO C) := by
  refine D.F.ok scHeadsIn (fun vs H Q E h => ?_) (fun cdv A outer s H vs Q E hr h => ?_)
  · obtain ⟨d, kvs, us, L, w, rfl, _⟩ := h
    rfl
  obtain ⟨d, kvs, us, L, w, rfl, hd, nv, hall, nd, hp, hs, hz, hw, k⟩ := h
  refine ⟨_, pss_one (ps_ret (pe_callTy call_tupF (by rfl) B.tup boot_tuple' (pa_cons (pe_lc (own := [("name", 1)]) (g := gName 1) (tt := tYes) (te := tTupF (tCons (tVar 1) (tCons (tOp (rIxT K) (tDGet (tVar 0) (tVar 1)) (tC (.int 0))) (tCons (tOp (rIxT K) (tDGet (tVar 0) (tVar 1)) (tC (.int 1))) tNil)))) rfl scHeadsIn.nd
    (pi_list (pe_callB (show CallR _ _ rSortDZ from cr_sortDZ rfl) (by rfl) Z.sort boot_sorted' (pa_cons (pv 0) pa_nil))) (blkOk_by (N := ["found", "name"]) (sc := defScope sHeadsIn) (by decide +kernel))
    (fun _ _ _ _ _ => pg_name (i := 1) scHeadsIn.nd rfl (Or.inl rfl)) (fun _ _ _ _ _ => pts_nil) (fun _ _ _ _ _ => pe_tupF (pa_cons (pv 1) (pa_cons (pe_ix (show IxR _ (rIxT K) from ix_tup) (pe_dget (room_h1 hr) (pv 0) (pv 1) (fun _ _ => rfl)) pe_int (fun _ _ => rfl)) (pa_cons (pe_ix (show IxR _ (rIxT K) from ix_tup) (pe_dget (room_h1 hr) (pv 0) (pv 1) (fun _ _ => rfl)) pe_int (fun _ _ => rfl)) pa_nil))))) pa_nil))), ?_⟩
  have gm : ∀ u ∈ L, gNamed u = true := fun u hu => List.all_eq_true.mp hall u (hp.mem_iff.mp hu)
  have main : EvLD w C (tLc (iList K (tCB rSortDZ (tCons (tVar 0) tNil))) (gName 1) tYes (tTupF (tCons (tVar 1) (tCons (tOp (rIxT K) (tDGet (tVar 0) (tVar 1)) (tC (.int 0))) (tCons (tOp (rIxT K) (tDGet (tVar 0) (tVar 1)) (tC (.int 1))) tNil)))) [1]) [some (.ref d), none] H L := by
    refine lc_DL (K := K) (Rx := fun xs G => xs = (L.map nmU).map V.str) (fun H0 e Q q => ?_) (by rw [hp.length_eq]; exact hz) (fun u hu => gNamed_pln (gm u hu)) (fun _ => rfl) fun xs G0 e0 hR => ?_
    · refine ⟨_, rfl, d, kvs, us.map nmU, rfl, e _ _ hd, nv.keys, fun zs p pz sz hp0 => ?_⟩
      exact q p _ _ (Ex.new hp0) upd_same (by rw [names_tell nd hp hs pz sz])
    · subst hR
      refine ⟨by rw [List.length_map, List.length_map], fun i x u G hx hu eg => ?_⟩
      rw [List.getElem?_map, List.getElem?_map, hu] at hx
      cases hx
      have hmem := hp.mem_iff.mp (List.mem_of_getElem? hu)
      obtain ⟨z, a, b, v, rfl, hv, hat⟩ := nv.get nd hmem
      have E1 := e0.trans eg
      have gd : Ev (tDGet (tVar 0) (tVar 1)) [some (.ref d), some (.str z)] G v := fun G1 g1 Q q => ⟨_, rfl, _, rfl, d, v, rfl, by
        have := DGet.k (k := .inr z) ((E1.trans g1) _ _ hd)
        rw [hv] at this
        exact this, q G1 (Ex.refl G1)⟩
      have hv2 := ex_at E1 hat
      obtain ⟨y0, f0, g0⟩ := ev_nth (K := K) (m := 2) (k := 0) gd hv2 rfl (by decide)
      obtain ⟨y1, f1, g1⟩ := ev_nth (K := K) (m := 2) (k := 1) gd hv2 rfl (by decide)
      exact ed_tup (hw.imp fun o q => E1 _ _ q) (eds_cons (ed_ev (te := tVar 1) (v := .str z) (ev_var rfl) (.str z)) (eds_cons (ed_ev f0 g0) (eds_cons (ed_ev f1 g1) eds_nil))) (by show (3 : Nat) ≤ 100000; decide)
  exact (ed_tupL hw main) H (Ex.refl H) _ fun v H2 e2 a2 => k v H2 e2 a2
end
end Hs
/-! _headed -/
namespace Hs
open PySem PySem.Spec PyProof.Rows L2 Hu Evl
open Hk (rSortDZ cr_sortDZ)
def ltN (x y : U) : Bool := decide ((nmU x).cps.toList < (nmU y).cps.toList)
/-- a row put among rows in order -/
def insH (x : U) : List U → List U
  | [] => [x]
  | y :: r => if nmU x = nmU y then x :: r else if ltN x y = true then x :: y :: r else y :: insH x r
def putH (ps : List U) (x : U) : List U := if (ps.any fun y => decide (nmU y = nmU x)) = true then ps.map fun y => if nmU y = nmU x then x else y else ps ++ [x]
abbrev srtN (ps : List U) : Prop := ps.Pairwise fun x y => ltN x y = true
theorem ltN_ne {x y : U} (h : ltN x y = true) : nmU x ≠ nmU y := fun e => by
  have h := of_decide_eq_true h
  rw [e] at h
  exact List.lt_irrefl _ h
theorem ltN_trans {x y z : U} (h1 : ltN x y = true) (h2 : ltN y z = true) : ltN x z = true := decide_eq_true (List.lt_trans (of_decide_eq_true h1) (of_decide_eq_true h2))
theorem ltN_key {x y z : U} (e : nmU x = nmU y) (h : ltN y z = true) : ltN x z = true := by
  unfold ltN at *
  rw [e]
  exact h
theorem ltN_tri {x y : U} (h : nmU x ≠ nmU y) (h2 : ¬ ltN x y = true) : ltN y x = true := by
  rcases Hk.lt_tri (nmU x).cps.toList (nmU y).cps.toList with q | q | q
  · exact absurd (decide_eq_true q) h2
  · exact absurd (Hk.str_ext q) h
  · exact decide_eq_true q
theorem insH_all {x : U} {p : U → Prop} (hx : p x) : ∀ {ps : List U}, (∀ y ∈ ps, p y) → ∀ y ∈ insH x ps, p y
  | [], _, y, h => by
    rw [show insH x [] = [x] from rfl, List.mem_singleton] at h
    rw [h]; exact hx
  | a :: r, hp, y, h => by
    unfold insH at h
    split at h
    · rcases List.mem_cons.mp h with h | h
      · rw [h]; exact hx
      · exact hp y (List.mem_cons_of_mem _ h)
    · split at h
      · rcases List.mem_cons.mp h with h | h
        · rw [h]; exact hx
        · exact hp y h
      · rcases List.mem_cons.mp h with h | h
        · rw [h]; exact hp a (by simp)
        · exact insH_all hx (fun z hz => hp z (List.mem_cons_of_mem _ hz)) y h
theorem srt_insH {x : U} : ∀ {ps : List U}, srtN ps → srtN (insH x ps)
  | [], _ => List.pairwise_singleton _ _
  | a :: r, h => by
    have h' := List.pairwise_cons.mp h
    unfold insH
    split
    · rename_i e
      exact List.pairwise_cons.mpr ⟨fun y hy => ltN_key e (h'.1 y hy), h'.2⟩
    · split
      · rename_i e l
        refine List.pairwise_cons.mpr ⟨fun y hy => ?_, h⟩
        rcases List.mem_cons.mp hy with rfl | hy
        · exact l
        · exact ltN_trans l (h'.1 y hy)
      · rename_i e l
        exact List.pairwise_cons.mpr ⟨insH_all (ltN_tri e l) h'.1, srt_insH h'.2⟩
theorem srtN_keys {ps : List U} (h : srtN ps) : (ps.map nmU).Nodup := List.Pairwise.map _ (fun _ _ h => ltN_ne h) h
theorem nd_keysH {ps : List U} (h : (ps.map nmU).Nodup) : ps.Nodup := by
  unfold List.Nodup at h ⊢
  rw [List.pairwise_map] at h
  exact h.imp fun {a b} q e => q (by rw [e])
theorem mem_insH {x y : U} : ∀ {ps : List U}, srtN ps → (y ∈ insH x ps ↔ y = x ∨ (y ∈ ps ∧ nmU y ≠ nmU x))
  | [], _ => by simp [insH]
  | a :: r, h => by
    have h' := List.pairwise_cons.mp h
    unfold insH
    split
    · rename_i e
      rw [List.mem_cons, List.mem_cons]
      constructor
      · rintro (q | q)
        · exact .inl q
        · exact .inr ⟨.inr q, fun z => ltN_ne (h'.1 y q) (by rw [z, e])⟩
      · rintro (q | ⟨q | q, n⟩)
        · exact .inl q
        · exact absurd (by rw [q, e]) n
        · exact .inr q
    · rename_i e
      split
      · rename_i l
        rw [List.mem_cons]
        constructor
        · rintro (q | q)
          · exact .inl q
          · refine .inr ⟨q, fun z => ?_⟩
            rcases List.mem_cons.mp q with rfl | q
            · exact e z.symm
            · exact ltN_ne (ltN_trans l (h'.1 y q)) z.symm
        · rintro (q | ⟨q, _⟩)
          · exact .inl q
          · exact .inr q
      · rw [List.mem_cons, mem_insH h'.2, List.mem_cons]
        constructor
        · rintro (q | q | ⟨q, n⟩)
          · exact .inr ⟨.inl q, fun z => e (by rw [← z, q])⟩
          · exact .inl q
          · exact .inr ⟨.inr q, n⟩
        · rintro (q | ⟨q | q, n⟩)
          · exact .inr (.inl q)
          · exact .inl q
          · exact .inr (.inr ⟨q, n⟩)
theorem mem_putH {x y : U} {ps : List U} : y ∈ putH ps x ↔ y = x ∨ (y ∈ ps ∧ nmU y ≠ nmU x) := by
  unfold putH
  split
  · rename_i h
    obtain ⟨a, ha, e⟩ := List.any_eq_true.mp h
    have e := of_decide_eq_true e
    rw [List.mem_map]
    constructor
    · rintro ⟨b, hb, q⟩
      split at q
      · exact .inl q.symm
      · rename_i n
        rw [← q]
        exact .inr ⟨hb, n⟩
    · rintro (q | ⟨q, n⟩)
      · exact ⟨a, ha, by rw [if_pos e, q]⟩
      · exact ⟨y, q, if_neg n⟩
  · rename_i h
    have no : ∀ a ∈ ps, nmU a ≠ nmU x := fun a ha e => h (List.any_eq_true.mpr ⟨a, ha, decide_eq_true e⟩)
    rw [List.mem_append, List.mem_singleton]
    constructor
    · rintro (q | q)
      · exact .inr ⟨q, no y q⟩
      · exact .inl q
    · rintro (q | ⟨q, _⟩)
      · exact .inr q
      · exact .inl q
theorem putH_keys {x : U} {ps : List U} (h : (ps.map nmU).Nodup) : ((putH ps x).map nmU).Nodup := by
  unfold putH
  split
  · rw [List.map_map]
    have : (nmU ∘ fun y => if nmU y = nmU x then x else y) = nmU := by
      funext y
      show nmU (if nmU y = nmU x then x else y) = nmU y
      split
      · rename_i e; exact e.symm
      · rfl
    rw [this]
    exact h
  · rename_i n
    rw [List.map_append, List.nodup_append]
    refine ⟨h, by simp, fun a ha b hb e => ?_⟩
    obtain ⟨y, hy, rfl⟩ := List.mem_map.mp ha
    have hb' : b = nmU x := by simpa using hb
    exact n (List.any_eq_true.mpr ⟨y, hy, decide_eq_true (e.trans hb')⟩)
theorem srtN_H {us : List U} (h : srtN us) : srtH us := h.imp fun {a b} q => of_decide_eq_true q
end Hs
/-! _headed -/
namespace Hs
open PySem PySem.Spec PyProof.Rows L2 Hu Evl
section
variable {σ : L2.St} {H : Hp} {ta : TA} {Q : VK} {vs : List V} {sp : Sp} {E : XK}
theorem callQ (ha : EvA ta σ H vs) (k : ∀ H2, Ex H H2 → sp (vs ++ []) H2 Q E) : tCall sp [] E ta σ H Q := ha H (Ex.refl H) _ k
end
section
variable {w C : Addr} {H : Hp}
theorem NV.repl {z : Str} {s r : U} {v : V} (hv : At w C H v (.tup [s, r])) {kvs : List (L2.Key × V)} {us : List U} (h : NV w C H kvs us) :
    NV w C H (kvs.map fun kv => if kv.1 = .inr z then (kv.1, v) else kv) (us.map fun y => if nmU y = nmU (.tup [.str z, s, r]) then .tup [.str z, s, r] else y) := by
  induction h with
  | nil => exact .nil
  | @cons y a b x kvs us h1 h2 ih =>
    rw [List.map_cons, List.map_cons]
    by_cases q : y = z
    · have e1 : nmU (.tup [.str y, a, b]) = nmU (.tup [.str z, s, r]) := q
      rw [if_pos e1, if_pos (congrArg Sum.inr q)]
      have : ((Sum.inr y : L2.Key), v) = (Sum.inr z, v) := by rw [q]
      rw [this]
      exact .cons hv ih
    · have e1 : ¬ nmU (.tup [.str y, a, b]) = nmU (.tup [.str z, s, r]) := q
      rw [if_neg e1, if_neg fun e => q (Sum.inr.inj e)]
      exact .cons h1 ih
theorem NV.put {z : Str} {s r : U} {v : V} (hv : At w C H v (.tup [s, r])) {kvs : List (L2.Key × V)} {us : List U} (h : NV w C H kvs us) : NV w C H (putK kvs (.inr z) v) (putH us (.tup [.str z, s, r])) := by
  have ea : (kvs.any fun kv => decide (kv.1 = .inr z)) = us.any fun y => decide (nmU y = nmU (.tup [.str z, s, r])) := by
    clear hv
    induction h with
    | nil => rfl
    | @cons y a b x kvs us _ _ ih =>
      rw [List.any_cons, List.any_cons, ih]
      congr 1
      exact decide_eq_decide.mpr ⟨fun e => Sum.inr.inj e, fun e => congrArg Sum.inr (show y = z from e)⟩
  unfold putK putH
  rw [ea]
  split
  · exact h.repl hv
  · exact h.append (.cons hv .nil)
end
/-- right heads in order -/
def okH (u : U) : Prop := ∃ hs : List U, u = .tup hs ∧ hs.all gNamed = true ∧ srtN hs ∧ hs.length ≤ 3000
theorem putH_all {x : U} {hs : List U} (hx : gNamed x = true) (h : hs.all gNamed = true) : (putH hs x).all gNamed = true := by
  refine List.all_eq_true.mpr fun y hy => ?_
  rcases mem_putH.mp hy with rfl | ⟨q, _⟩
  · exact hx
  · exact List.all_eq_true.mp h y q
theorem putH_len {x : U} {hs : List U} : (putH hs x).length ≤ hs.length + 1 := by
  unfold putH
  split
  · rw [List.length_map]; omega
  · rw [List.length_append]; exact Nat.le_refl _
end Hs
/-! the plain doings: install, promise, vote, seal, stand, collect -/
namespace Hs
open PySem PySem.Spec PyProof.Rows L2 Hu Evl
abbrev sInst5 : Stmt := topS 70
abbrev sColl5 : Stmt := topS 79
def fInst (us ps : List U) : List U := [ps.getD 0 .non, ps.getD 1 .non, ps.getD 2 .non, us.getD 3 .non, ps.getD 3 .non, ps.getD 4 .non, .tup [], .tup [.int 0, .int 0], .non, .non]
def fColl (us _ : List U) : List U := us.set 5 (.tup ((rowsOf (us.getD 5 .non)).filter (inLed (rowsOf (us.getD 4 .non)))))
section
variable {P : Program} {wd : World} {K : PySem.W.Frag} {mg : Str → Option Value} {base : Heap} {C : Addr}
section
variable {w : Addr} {H : Hp} {x : V} {us : List U} {σ : L2.St} {te : TE}
/-- an item of a row, as data -/
theorem ed_item (h : Ev te σ H x) (hat : At w C H x (.tup us)) (k : Nat) (hk : k < us.length) : EvD w C (tOp (rIxT K) te (tC (.int (k : Int)))) σ H (us.getD k .non) := by
  obtain ⟨y, ey, ay⟩ := ev_nth (K := K) (m := us.length) (u := .tup us) (te := te) (k := k) (σ := σ) h hat (decide_eq_true rfl) hk
  exact ed_ev ey ay
end
theorem scColl5 : FnScope ["table", "parts"] ["table", "parts"] (defScope sColl5) := ⟨rfl, rfl, rfl, by decide +kernel, rfl, by decide +kernel, by decide +kernel⟩
theorem ok_coll5 {f f1 f2 f3 : Addr} {fd d1 d2 d3 : FuncData} (D : Df K mg "_collected" sColl5 ["table", "parts"] f fd) (B : Bt mg) (N : Ct mg) (D1 : Df K mg "led_by" sLedBy ["heads", "blocks"] f1 d1) (D2 : Df K mg "led_ids" sLedIds ["heads"] f2 d2) (DC : Df K mg "changed" sChanged ["table", "at", "part"] f3 d3) :
    FnOk P wd K mg base CX0 3 f fd ["table", "parts"] (spDg C (fun us _ => okH (us.getD 4 .non) ∧ ∃ bs, us.getD 5 .non = .tup bs ∧ bs.all gBlk = true ∧ bs.length ≤ 40000) fColl) := by
  have GC : FnOk P wd K mg base CX0 2 f3 d3 ["table", "at", "part"] (spCh C) := (ok_changed DC).mono (by decide)
  have G1 : FnOk P wd K mg base CX0 2 f1 d1 ["heads", "blocks"] (spBy2 C) := ok_ledBy D1 B D2
  refine D.F.ok scColl5 lenDg (fun cdv A outer s H vs Q E hr h => ?_)
  obtain ⟨x, y, us, ps, w, rfl, hx, hy, hl, h10, ⟨⟨hs, eh, hh, hst, hz⟩, bs, eb, hb, hbz⟩, k⟩ := h
  have hw : ∃ o, H w = some o := hl.elim fun l h => ⟨_, h⟩
  refine ⟨_, pss_one (ps_ret (pe_call GC hr (by rfl) DC.g DC.F.kp DC.b .nil pass0 (pa_cons (pv 0) (pa_cons (pe_gi (by rfl) N.p5) (pa_cons (pe_call G1 hr (by rfl) D1.g D1.F.kp D1.b .nil pass0 (pa_cons (pe_ix ix_tup (pv 0) (pe_gi (by rfl) N.p4) (fun _ _ => rfl)) (pa_cons (pe_ix ix_tup (pv 0) (pe_gi (by rfl) N.p5) (fun _ _ => rfl)) pa_nil))) pa_nil))))), ?_⟩
  have i4 := ed_item (K := K) (te := tVar 0) (σ := [some x, some y]) (ev_var rfl) hx 4 (by omega)
  have i5 := ed_item (K := K) (te := tVar 0) (σ := [some x, some y]) (ev_var rfl) hx 5 (by omega)
  rw [eh] at i4
  rw [eb] at i5
  have led : EvD w C (tCall (spBy2 C) [] E0 (tCons (tOp (rIxT K) (tVar 0) (tC (.int ((4 : Nat) : Int)))) (tCons (tOp (rIxT K) (tVar 0) (tC (.int ((5 : Nat) : Int)))) tNil))) [some x, some y] H (.tup (bs.filter (inLed hs))) := fun G eg Q qq => by
    refine (eds_cons i4 (eds_cons i5 eds_nil)) G eg _ fun vs G1 g1 al => ?_
    cases al with
    | cons h1 h2 => cases h2 with
      | cons h3 h4 =>
        cases h4
        exact ⟨_, _, hs, bs, w, rfl, h1, h3, hh, hb, hz, hbz, hw.imp fun o q => (eg.trans g1) _ _ q, fun v H' s a => qq v H' (g1.trans s) a⟩
  have fe : fColl us ps = us.set 5 (.tup (bs.filter (inLed hs))) := by
    unfold fColl
    rw [eb, eh]
    rfl
  refine (ed_changed (w := w) (C := C) (us := us) (k := 5) (σ := [some x, some y]) hw (ed_ev (te := tVar 0) (ev_var rfl) hx) ev_c led (by omega) (by omega)) H (Ex.refl H) _ fun v H5 e5 a5 => k v H5 e5 ?_
  rw [fe]
  exact a5
theorem scInst5 : FnScope ["table", "parts", "epoch", "members", "ahead", "heads", "blocks"] ["table", "parts"] (defScope sInst5) := ⟨rfl, rfl, rfl, by decide +kernel, rfl, by decide +kernel, by decide +kernel⟩
end
end Hs
/-! _mended: what it makes of heads and blocks -/
namespace Hs
open PySem PySem.Spec PyProof.Rows L2 Hu Evl
open Hk (PZ ltPZ entZ)
def ltI (p q : Int × Int) : Bool := decide (p.1 < q.1) || (decide (p.1 = q.1) && decide (p.2 < q.2))
theorem ltK_ltI (p q : Int × Int) : Hk.ltK (kP p) (kP q) = ltI p q := by
  show (if Hk.kEq (.inl p.1) (.inl q.1) = true then (if Hk.kEq (.inl p.2) (.inl q.2) = true then Hk.ltK [] [] else Hk.kLt (.inl p.2) (.inl q.2)) else Hk.kLt (.inl p.1) (.inl q.1)) = _
  unfold ltI
  by_cases e : p.1 = q.1
  · rw [if_pos (Hk.kEq_iff.mpr (by rw [e])), decide_eq_false (show ¬ p.1 < q.1 by omega), decide_eq_true e, Bool.false_or, Bool.true_and]
    by_cases e2 : p.2 = q.2
    · rw [if_pos (Hk.kEq_iff.mpr (by rw [e2])), decide_eq_false (show ¬ p.2 < q.2 by omega)]
      rfl
    · rw [if_neg fun h => e2 (Sum.inl.inj (Hk.kEq_iff.mp h))]
      rfl
  · rw [if_neg fun h => e (Sum.inl.inj (Hk.kEq_iff.mp h)), decide_eq_false e, Bool.false_and, Bool.or_false]
    rfl
/-- the stamp that heads have for a name -/
def stOf (us : List U) (z : Str) : Int × Int := match us.find? (named z) with | some u => idP (nth u 1) | none => (0, 0)
def mendI (us : List U) (h : U) : List U := if ltI (stOf us (nmU h)) (idP (nth h 1)) = true then insH h us else us
theorem find_perm {A L : List U} {z : Str} (ga : A.all gNamed = true) (nd : (A.map nmU).Nodup) (hp : L.Perm A) : L.find? (named z) = A.find? (named z) := by
  have nl : (L.map nmU).Nodup := (hp.map nmU).nodup_iff.mpr nd
  have key : ∀ {A B : List U}, (∀ u ∈ A, gNamed u = true) → (A.map nmU).Nodup → (B.map nmU).Nodup → (∀ u, u ∈ A ↔ u ∈ B) → ∀ u, A.find? (named z) = some u → B.find? (named z) = some u := fun {A B} g n1 n2 m u h => by
    have hu := List.mem_of_find?_eq_some h
    have hz := List.find?_some h
    cases hb : B.find? (named z) with
    | none =>
      rw [List.find?_eq_none] at hb
      exact absurd hz (hb u ((m u).mp hu))
    | some v =>
      have hv := (m v).mpr (List.mem_of_find?_eq_some hb)
      have hz2 := List.find?_some hb
      obtain ⟨y, a, b, rfl, _⟩ := gNamed_is (g u hu)
      obtain ⟨y2, a2, b2, rfl, _⟩ := gNamed_is (g v hv)
      rw [named_str] at hz hz2
      have e1 := of_decide_eq_true hz
      have e2 := of_decide_eq_true hz2
      have e3 : nmU (.tup [.str y, a, b]) = nmU (.tup [.str y2, a2, b2]) := e1.trans e2.symm
      congr 1
      obtain ⟨i, hi⟩ := List.getElem?_of_mem hu
      obtain ⟨j, hj⟩ := List.getElem?_of_mem hv
      have f1 : (A.map nmU)[i]? = some (nmU (.tup [.str y, a, b])) := by rw [List.getElem?_map, hi]; rfl
      have f2 : (A.map nmU)[j]? = some (nmU (.tup [.str y, a, b])) := by rw [List.getElem?_map, hj, e3]; rfl
      have : i = j := (List.getElem?_inj (List.getElem?_eq_some_iff.mp f1).1 n1).mp (f1.trans f2.symm)
      subst this
      exact Option.some.inj (hj.symm.trans hi)
  have gl : ∀ u ∈ L, gNamed u = true := fun u hu => List.all_eq_true.mp ga u (hp.mem_iff.mp hu)
  cases h : L.find? (named z) with
  | some u => exact (key gl nl nd (fun u => hp.mem_iff) u h).symm
  | none =>
    cases h2 : A.find? (named z) with
    | none => rfl
    | some u =>
      have := key (List.all_eq_true.mp ga) nd nl (fun u => hp.symm.mem_iff) u h2
      rw [h] at this
      cases this
/-- the two rows, as the dict has them and in order -/
structure MdI (A L : List U) : Prop where
  g : A.all gNamed = true
  nd : (A.map nmU).Nodup
  p : L.Perm A
  s : srtN L
theorem MdI.put {A L : List U} {h : U} (m : MdI A L) (gh : gNamed h = true) : MdI (putH A h) (insH h L) := by
  refine ⟨putH_all gh m.g, putH_keys m.nd, ?_, srt_insH m.s⟩
  refine (List.perm_ext_iff_of_nodup (nd_keysH (srtN_keys (srt_insH m.s))) (nd_keysH (putH_keys m.nd))).mpr fun y => ?_
  rw [mem_insH m.s, mem_putH, m.p.mem_iff]
end Hs
/-! _mended -/
namespace Hs
open PySem PySem.Spec PyProof.Rows L2 Hu Evl
open Hk (PZ ltPZ entZ rSortDI cr_sortDI)
open L2.DX (itemsO rItemsT mt_itemsT)
abbrev sMended5 : Stmt := topS 82
/-- a head never written -/
structure Fh (K : PySem.W.Frag) (mg : Str → Option Value) (a : Addr) : Prop where
  g : mg "FIRST_HEAD" = some (.ref a)
  l : ∀ H, Lk K H (.ref a) firstU
theorem Fh.two {K : PySem.W.Frag} {mg : Str → Option Value} {a : Addr} (F : Fh K mg a) (H : Hp) : ∃ b x, SqT K H a [.ref b, x] ∧ SqT K H b ((kP (0, 0)).map kV) := by
  have h := F.l H
  cases h with
  | @tup _ xs _ h1 h2 h3 =>
    match xs, h2 with
    | [x, y], _ =>
      have q := h3 0 x (.tup [.int 0, .int 0]) rfl rfl
      cases q with
      | @tup b ys _ k1 k2 k3 =>
        match ys, k2 with
        | [i, j], _ =>
          have r1 := k3 0 i (.int 0) rfl rfl
          have r2 := k3 1 j (.int 0) rfl rfl
          cases r1
          cases r2
          exact ⟨b, y, h1, k1⟩
def fMend (us ps : List U) : List U := (us.set 4 (.tup ((rowsOf (ps.getD 0 .non)).foldl mendI (rowsOf (us.getD 4 .non))))).set 5 (.tup ((((rowsOf (us.getD 5 .non)).map zU).foldl (fun ps x => insZ x ps) ((rowsOf (ps.getD 1 .non)).map zU)).map bzU))
section
variable {P : Program} {wd : World} {K : PySem.W.Frag} {mg : Str → Option Value} {base : Heap} {C : Addr}
abbrev nmMd : List Str := ["table", "parts", "heads", "blocks", "found", "name", "stamp", "row", "pieces", "block_id", "piece"]
theorem scMended5 : FnScope nmMd ["table", "parts"] (defScope sMended5) := ⟨rfl, rfl, rfl, by decide +kernel, rfl, by decide +kernel, by decide +kernel⟩
/-- found.get(name, FIRST_HEAD)[0] < stamp -/
theorem et_older {w d aF c : Addr} {H : Hp} {σ : L2.St} {kvs : List (L2.Key × V)} {A L : List U} {z : Str} {q : Int × Int} (F : Fh K mg aF) (h4 : σ[4]? = some (some (.ref d))) (h5 : σ[5]? = some (some (.str z))) (h6 : σ[6]? = some (some (.ref c))) (hd : H d = some (.dK kvs)) (nv : NV w C H kvs A) (m : MdI A L) (hc : H c = some (.tup ((kP q).map kV))) :
    EvT (tTest (tOp (Hk.rLtK K) (tOp (rIxT K) (tDGet2 (tVar 4) (tVar 5) (tC (.ref aF))) (tC (.int 0))) (tVar 6))) σ H (ltI (stOf L z) q) := by
  have fin : ∀ (b : Addr) (p : Int × Int), stOf L z = p → Ev (tOp (rIxT K) (tDGet2 (tVar 4) (tVar 5) (tC (.ref aF))) (tC (.int 0))) σ H (.ref b) → SqT K H b ((kP p).map kV) → EvT (tTest (tOp (Hk.rLtK K) (tOp (rIxT K) (tDGet2 (tVar 4) (tVar 5) (tC (.ref aF))) (tC (.int 0))) (tVar 6))) σ H (ltI (stOf L z) q) := fun b p e h hb => by
    rw [e, ← ltK_ltI]
    exact et_test (ev_op h (ev_var h6) fun G g Q f => ⟨b, c, kP p, kP q, rfl, rfl, sqt_ex g hb, st_of (g _ _ hc), rfl, f G (Ex.refl G)⟩)
  have fp := find_perm (z := z) m.g m.nd m.p
  cases g : A.find? (named z) with
  | none =>
    have e : stOf L z = (0, 0) := by
      unfold stOf
      rw [fp, g]
    obtain ⟨b, x, s1, s2⟩ := F.two H
    refine fin b (0, 0) e (ev_op (x := .ref aF) (fun G1 g1 Q f => ⟨_, h4, d, rfl, .inl ⟨kvs, .inl (g1 _ _ hd)⟩, _, h5, none, ?_, f G1 (Ex.refl G1)⟩) ev_c (rv_ixT s1 (atI_nat (j := 0) rfl))) s2
    have := DGet.k (k := .inr z) (g1 _ _ hd)
    rwa [nv.vnone g] at this
  | some u =>
    obtain ⟨v, hv, hat⟩ := nv.vsome g
    obtain ⟨y, s1, r1, rfl, gs, _⟩ := gNamed_is (List.all_eq_true.mp m.g u (List.mem_of_find?_eq_some g))
    obtain ⟨i, j, es⟩ := gStamp_two gs
    have hat' : At w C H v (.tup [s1, r1]) := hat
    obtain ⟨pv, xs, rfl, hpv, _, hl⟩ := at_tup hat'
    cases hl with
    | @cons x0 _ xr _ h0 hr0 =>
      rw [es] at h0
      obtain ⟨b, rfl, hb⟩ := two_ints h0
      have e : stOf L z = (i, j) := by
        unfold stOf
        rw [fp, g]
        show idP s1 = _
        rw [es]
        rfl
      refine fin b (i, j) e (ev_op (x := .ref pv) (fun G1 g1 Q f => ⟨_, h4, d, rfl, .inl ⟨kvs, .inl (g1 _ _ hd)⟩, _, h5, some (.ref pv), ?_, f G1 (Ex.refl G1)⟩) ev_c (rv_ixT (Tu.st hpv) (atI_nat (j := 0) rfl))) (st_of hb)
      have := DGet.k (k := .inr z) (g1 _ _ hd)
      rwa [hv] at this
theorem ok_mended5 {f f1 f2 f3 aF : Addr} {fd d1 d2 d3 : FuncData} (D : Df K mg "_mended" sMended5 ["table", "parts"] f fd) (B : Bt mg) (Z : Bz mg) (N : Ct mg) (nd0 : mg "dict" = none) (F : Fh K mg aF) (D1 : Df K mg "heads_by_name" sHeadsBy ["heads"] f1 d1) (D2 : Df K mg "heads_in_order" sHeadsIn ["found"] f2 d2) (DC : Df K mg "changed" sChanged ["table", "at", "part"] f3 d3) :
    FnOk P wd K mg base CX0 2 f fd ["table", "parts"] (spDg C (fun us ps => okH (us.getD 4 .non) ∧ okB (us.getD 5 .non) ∧ ∃ hs bs, ps = [.tup hs, .tup (bs.map bzU)] ∧ hs.all gNamed = true ∧ hs.length ≤ 3000 ∧ srtZ bs ∧ bs.length ≤ 40000) fMend) := by
  have GC : FnOk P wd K mg base CX0 1 f3 d3 ["table", "at", "part"] (spCh C) := ok_changed DC
  have G1 : FnOk P wd K mg base CX0 1 f1 d1 ["heads"] (spHB C) := ok_headsBy D1
  have G2 : FnOk P wd K mg base CX0 1 f2 d2 ["found"] (spHIO C) := ok_headsIn D2 B Z
  refine D.F.ok scMended5 lenDg (fun cdv A outer s H vs Q E hr h => ?_)
  obtain ⟨x, y, us, ps, w, rfl, hx, hy, hl, h10, ⟨⟨hs0, eh, hall0, hst0, hz0⟩, ⟨bs0, eb, hsb0, hzb0⟩, hs1, bs1, rfl, hall1, hz1, hsb1, hzb1⟩, k⟩ := h
  have hw : ∃ o, H w = some o := hl.elim fun l h => ⟨_, h⟩
  refine ⟨_, pss_cons (ps_asg (pv 1) (pg_tup rfl (pgs_cons (pg_name (i := 2) scMended5.nd rfl (.inl rfl)) (pgs_cons (pg_name (i := 3) scMended5.nd rfl (.inl rfl)) pgs_nil))))
    (pss_cons (ps_set (i := 4) scMended5.nd rfl (.inl rfl) (pe_call G1 hr (by rfl) D1.g D1.F.kp D1.b .nil pass0 (pa_cons (pe_ix ix_tup (pv 0) (pe_gi (by rfl) N.p4) (fun _ _ => rfl)) pa_nil)))
    (pss_cons (ps_for PassesOwn.never rfl (pi_tup (pv 2)) (pg_tup rfl (pgs_cons (pg_name (i := 5) scMended5.nd rfl (.inl rfl)) (pgs_cons (pg_name (i := 6) scMended5.nd rfl (.inl rfl)) (pgs_cons (pg_name (i := 7) scMended5.nd rfl (.inl rfl)) pgs_nil))))
      (pss_one (ps_if (pt_cmpR (show OpR _ _ (Hk.rLtK K) from Hk.op_ltK (Nat.lt_of_le_of_lt (Nat.le_add_right _ 64) (room_hu hr))) (pe_ix (show IxR _ (rIxT K) from ix_tup) (pe_dget2 (room_h1 hr) (pv 4) (pv 5) (pe_glob (v := .ref aF) (by rfl) F.g rfl) ⟨rfl, rfl, rfl, rfl⟩) pe_int (fun _ _ => rfl)) (pv 6) (nomark _))
        (pss_one (ps_asg (pe_tupF (pa_cons (pv 6) (pa_cons (pv 7) pa_nil))) (pg_sub (pv 4) (pv 5) (set_dict (room_h1 hr))))) pss_nil)))
    (pss_cons (ps_set (i := 8) scMended5.nd rfl (.inl rfl) (pe_callTy (call_dictT rfl (Nat.lt_of_le_of_lt (Nat.add_le_add_left (by decide : 2 ≤ 64) _) (room_hu hr))) (by rfl) nd0 boot_dict' (pa_cons (pv 3) pa_nil)))
    (pss_cons (ps_for PassesOwn.never rfl (pi_tup (pe_ix ix_tup (pv 0) (pe_gi (by rfl) N.p5) (fun _ _ => rfl))) (pg_tup rfl (pgs_cons (pg_name (i := 9) scMended5.nd rfl (.inl rfl)) (pgs_cons (pg_name (i := 10) scMended5.nd rfl (.inl rfl)) pgs_nil)))
      (pss_one (ps_asg (pv 10) (pg_sub (pv 8) (pv 9) (set_dict (room_h1 hr))))))
    (pss_one (ps_ret (pe_call GC hr (by rfl) DC.g DC.F.kp DC.b .nil pass0 (pa_cons (pe_call GC hr (by rfl) DC.g DC.F.kp DC.b .nil pass0 (pa_cons (pv 0) (pa_cons (pe_gi (by rfl) N.p4) (pa_cons (pe_call G2 hr (by rfl) D2.g D2.F.kp D2.b .nil pass0 (pa_cons (pv 4) pa_nil)) pa_nil))))
      (pa_cons (pe_gi (by rfl) N.p5) (pa_cons (pe_callTy call_tupF (by rfl) B.tup boot_tuple' (pa_cons (pe_callB (show CallR _ _ rSortDI from cr_sortDI rfl (room_hu hr)) (by rfl) Z.sort boot_sorted' (pa_cons (pe_bm0 PySem.F.plainAttrs_dict PySem.F.slot_dict_items PySem.F.type_dict_items mt_itemsT (pv 8)) pa_nil)) pa_nil)) pa_nil)))))))))), ?_⟩
  obtain ⟨pa, ys, rfl, hpa, _, hys⟩ := at_tup hy
  match ys, hys with
  | [y0, y1], .cons a0 (.cons a1 .nil) =>
  refine ⟨_, rfl, pa, _, rfl, Tu.st hpa, rfl, _, _, rfl, _, _, rfl, rfl, ?_⟩
  dsimp only [gName]
  obtain ⟨y4, e4, a4⟩ := ev_nth (K := K) (m := 10) (u := .tup us) (te := tVar 0) (k := 4) (σ := [some x, some (.ref pa), some y0, some y1, none, none, none, none, none, none, none]) (ev_var rfl) hx (decide_eq_true h10) (by decide)
  have a4' : At w C H y4 (us.getD 4 .non) := a4
  rw [eh] at a4'
  refine asgQ ?_
  refine callQ (ea_cons e4 ea_nil) fun H1 e1 => ⟨y4, hs0, w, rfl, ex_at e1 a4', hall0, srtN_keys hst0, hz0, hw.imp fun o q => e1 _ _ q, fun d kvs H2 hd e2 hk nv => ?_⟩
  obtain ⟨ah, xs1, rfl, hah, _, hl1⟩ := at_tup a0
  have lh1 := AtL.length hl1
  -- the heads
  refine ⟨_, rfl, ah, rfl, ⟨xs1, Tu.st (Tu.ex (e1.trans e2) hah)⟩, ?_⟩
  refine for_it (walk_tup (K := K) (a := ah) (xs := xs1)) (fun i σ' G => ∃ (x5 x6 x7 : Option V) (kvs' : List (L2.Key × V)) (A' : List U), σ' = [some x, some (.ref pa), some (.ref ah), some y1, some (.ref d), x5, x6, x7, none, none, none] ∧ Ex H1 G ∧ G d = some (.dK kvs') ∧ NV w C G kvs' A' ∧ MdI A' ((hs1.take i).foldl mendI hs0) ∧ A'.length ≤ hs0.length + i)
    ⟨none, none, none, kvs, hs0, rfl, e2, hk, nv, ⟨hall0, srtN_keys hst0, List.Perm.refl _, hst0⟩, Nat.le_refl _⟩ (fun i σ' G _ ⟨_, _, _, _, _, _, e, _⟩ => Tu.st (Tu.ex (e1.trans e) hah)) ?_ ?_
  · rintro i v σ' H0' G hi ⟨x5, x6, x7, kvs', A', rfl, eG, hdG, nvG, mG, lnG⟩ ⟨rfl, hv⟩
    have hi' : i < hs1.length := by omega
    obtain ⟨v', hv', av⟩ := AtL.get hl1 (List.getElem?_eq_getElem hi')
    rw [hv] at hv'
    cases hv'
    have tk : (hs1.take (i + 1)).foldl mendI hs0 = mendI ((hs1.take i).foldl mendI hs0) hs1[i] := by
      rw [List.take_add_one, List.getElem?_eq_getElem hi', List.foldl_append]
      rfl
    have gn := List.all_eq_true.mp hall1 _ (List.getElem_mem hi')
    rw [tk]
    generalize hs1[i] = un at av gn
    generalize (hs1.take i).foldl mendI hs0 = L at mG
    obtain ⟨z, s1, r1, rfl, gs, gr⟩ := gNamed_is gn
    obtain ⟨i', j', rfl⟩ := gStamp_two gs
    obtain ⟨b, zs, rfl, hb, nb, hzs⟩ := at_tup av
    obtain ⟨c, y2, rfl, hc, ac, ay2⟩ : ∃ c y2, zs = [.str z, .ref c, y2] ∧ H c = some (.tup ((kP (i', j')).map kV)) ∧ At w C H (.ref c) (.tup [.int i', .int j']) ∧ At w C H y2 r1 := by
      cases hzs with
      | cons h1 h2 => cases h2 with
        | cons h3 h4 => cases h4 with
          | cons h5 h6 =>
            cases h6
            cases at_str h1
            obtain ⟨c, rfl, hc⟩ := two_ints h3
            exact ⟨c, _, rfl, hc, h3, h5⟩
    have eHG := e1.trans eG
    refine ⟨b, _, rfl, Tu.st (Tu.ex eHG hb), rfl, _, _, rfl, _, _, rfl, _, _, rfl, rfl, ?_⟩
    dsimp only [gName]
    refine s_if (b := ltI (stOf L z) (i', j')) (et_older (w := w) (C := C) (d := d) (c := c) (A := A') F rfl rfl rfl hdG nvG mG (eHG _ _ hc)) (fun q H3 e3 => ?_) (fun q H3 e3 => ?_)
    · have em : mendI L (.tup [.str z, .tup [.int i', .int j'], r1]) = insH (.tup [.str z, .tup [.int i', .int j'], r1]) L := if_pos q
      rw [em]
      have eH3 := eHG.trans e3
      refine (ed_tup (C := C) (w := w) (hw.imp fun o q => eH3 _ _ q) (eds_cons (ed_ev (te := tVar 6) (ev_var rfl) (ex_at eH3 ac)) (eds_cons (ed_ev (te := tVar 7) (ev_var rfl) (ex_at eH3 ay2)) eds_nil)) (by show (2 : Nat) ≤ 100000; decide)) H3 (Ex.refl H3) _ fun v H4 e4' av4 => ?_
      have hk4 := e4' _ _ (e3 _ _ hdG)
      have nv4 : NV w C H4 kvs' A' := nvG.tups (fun b o _ _ h => e4' _ _ (e3 _ _ h)) mG.g
      refine ⟨_, rfl, _, rfl, d, _, rfl, DPut.k (k := .inr z) hk4 (by have := nv4.len; exact sz_lt (by omega)), ?_⟩
      have nt : ∀ b o, b ≠ w → TQ o → H4 b = some o → upd H4 d (.dK (putK kvs' (.inr z) v)) b = some o := fun b o _ q e => by
        rw [upd_ne (fun x => by
          rw [x, hk4] at e
          cases e
          obtain ⟨zs, q | ⟨c, q⟩⟩ := q <;> cases q)]
        exact e
      exact ⟨_, _, _, _, putH A' (.tup [.str z, .tup [.int i', .int j'], r1]), rfl, Ex.mut ((eG.trans e3).trans e4') hd, upd_same, (nv4.put (z := z) av4).tups nt (putH_all gn mG.g), mG.put gn, by have := putH_len (x := .tup [.str z, .tup [.int i', .int j'], r1]) (hs := A'); omega⟩
    · have em : mendI L (.tup [.str z, .tup [.int i', .int j'], r1]) = L := if_neg (by rw [show ltI (stOf L (nmU (.tup [.str z, .tup [.int i', .int j'], r1]))) (idP (nth (.tup [.str z, .tup [.int i', .int j'], r1]) 1)) = ltI (stOf L z) (i', j') from rfl, q]; decide)
      rw [em]
      exact ⟨_, _, _, kvs', A', rfl, eG.trans e3, e3 _ _ hdG, nvG.tups (fun b o _ _ h => e3 _ _ h) mG.g, mG, by omega⟩
  · rintro σ' G ⟨x5, x6, x7, kvs', A', rfl, eG, hdG, nvG, mG, lnG⟩
    rw [lh1, List.take_length] at mG
    have eHG := e1.trans eG
    have lnA : A'.length ≤ 6000 := by omega
    generalize eLH : hs1.foldl mendI hs0 = LH at mG
    obtain ⟨ab, xsb, rfl, hab, _, hlb⟩ := at_tup a1
    dsimp only
    refine asgQ ?_
    refine cbQ (ea_cons (ev_var (i := 3) (v := .ref ab) rfl) ea_nil) fun H5 e5 => ?_
    have eH5 := eHG.trans e5
    obtain ⟨o, od, hlk⟩ := (Tu.ex eH5 hab).lock (isB_bz bs1)
    refine ⟨ab, o, xsb, bs1.map entZ, rfl, od, hlk, bz_pq (ex_atl eH5 hlb), by rw [ent_keys]; exact List.Pairwise.map _ (fun _ _ h e => h (kP_inj e)) (srtZ_keys hsb1), fun d2 hd2 => ?_⟩
    have e6 : Ex H5 (upd H5 d2 (.dT (bs1.map entZ))) := Ex.new hd2
    have h6 : upd H5 d2 (.dT (bs1.map entZ)) d2 = some (.dT (bs1.map entZ)) := upd_same
    generalize upd H5 d2 (.dT (bs1.map entZ)) = H6 at e6 h6
    have eH6 := eH5.trans e6
    obtain ⟨y5, e5', a5⟩ := ev_nth (K := K) (m := 10) (u := .tup us) (te := tVar 0) (k := 5) (σ := [some x, some (.ref pa), some (.ref ah), some (.ref ab), some (.ref d), x5, x6, x7, some (.ref d2), none, none]) (ev_var rfl) (ex_at eH6 hx) (decide_eq_true h10) (by decide)
    have a5' : At w C H6 y5 (us.getD 5 .non) := a5
    rw [eb] at a5'
    obtain ⟨a0', xs0, rfl, ha0, _, hl0⟩ := at_tup a5'
    have lb0 := AtL.length hl0
    rw [List.length_map] at lb0
    refine e5' H6 (Ex.refl H6) _ fun H7 e7 => ⟨a0', rfl, ⟨xs0, Tu.st (Tu.ex e7 ha0)⟩, ?_⟩
    refine for_it (walk_tup (K := K) (a := a0') (xs := xs0)) (fun i σ' G' => ∃ (x9 x10 : Option V) (qs : List PZ), σ' = [some x, some (.ref pa), some (.ref ah), some (.ref ab), some (.ref d), x5, x6, x7, some (.ref d2), x9, x10] ∧ Ex H5 G' ∧ (∀ b o, b ≠ d2 → H6 b = some o → G' b = some o) ∧ G' d2 = some (.dT (qs.map entZ)) ∧ (qs.map (·.1)).Nodup ∧ ((bs0.take i).foldl (fun ps x => insZ x ps) bs1).Perm qs ∧ srtZ ((bs0.take i).foldl (fun ps x => insZ x ps) bs1) ∧ qs.length ≤ 40000 + i)
      ⟨none, none, bs1, rfl, e6.trans e7, fun b o _ h => e7 _ _ h, e7 _ _ h6, srtZ_keys hsb1, List.Perm.refl _, hsb1, hzb1⟩ (fun i σ' G' _ ⟨_, _, _, _, _, kp, h2, _⟩ => by
        obtain ⟨o, ho, q⟩ := ha0.got
        have n : a0' ≠ d2 := fun z => by
          rw [z, h6] at ho
          cases ho
          rcases q with q | ⟨b, q⟩ <;> cases q
        exact Tu.st (tu_tups (w := d2) (H := H6) (fun b o nb _ h => kp b o nb h) n ha0)) ?_ ?_
    · rintro i v σ' H0' G' hi ⟨x9, x10, qs, rfl, eG', kp, hd2', ndq, pq, sq, lq⟩ ⟨rfl, hv⟩
      have hi' : i < bs0.length := by omega
      obtain ⟨v', hv', av⟩ := AtL.get hl0 (i := i) (by rw [List.getElem?_map, List.getElem?_eq_getElem hi']; rfl)
      rw [hv] at hv'
      cases hv'
      have tk : (bs0.take (i + 1)).foldl (fun ps x => insZ x ps) bs1 = insZ bs0[i] ((bs0.take i).foldl (fun ps x => insZ x ps) bs1) := by
        rw [List.take_add_one, List.getElem?_eq_getElem hi', List.foldl_append]
        rfl
      rw [tk]
      generalize bs0[i] = p at av
      generalize (bs0.take i).foldl (fun ps x => insZ x ps) bs1 = L at pq sq
      have av' : At w C G' v (bzU p) := at_tups (fun b o _ q h => kp b o (fun z => by
        rw [z, h6] at h
        cases h
        obtain ⟨zs, q | ⟨c, q⟩⟩ := q <;> cases q) h) (bzU_pln p) av
      obtain ⟨b, c, rfl, hb, hc⟩ := at_bz (K := K) av'
      refine ⟨b, _, rfl, hb, rfl, _, _, rfl, _, _, rfl, rfl, ?_⟩
      dsimp only [gName]
      refine ⟨_, rfl, _, rfl, _, rfl, d2, _, rfl, DPut.t (k := kP p.1) hd2' hc (by rw [List.length_map]; exact sz_lt (by omega)), ?_⟩
      rw [put_ent]
      refine ⟨_, _, putZ qs p, rfl, Ex.mut eG' hd2, fun b o nb h => by rw [upd_ne nb]; exact kp b o nb h, upd_same, putZ_keys ndq, ?_, srt_insZ sq, ?_⟩
      · refine (List.perm_ext_iff_of_nodup (nd_keys (srtZ_keys (srt_insZ sq))) (nd_keys (putZ_keys ndq))).mpr fun y => ?_
        rw [mem_insZ sq, mem_putZ, pq.mem_iff]
      · unfold putZ
        split
        · rw [List.length_map]; omega
        · rw [List.length_append]; show qs.length + 1 ≤ _; omega
    · rintro σ' G' ⟨x9, x10, qs, rfl, eG', kp, hd2', ndq, pq, sq, lq⟩
      rw [lb0, List.take_length] at pq sq
      have eF := eH5.trans eG'
      have hdF : G' d = some (.dK kvs') := eG' _ _ (e5 _ _ hdG)
      have nvF : NV w C G' kvs' A' := nvG.tups (fun b o _ _ h => eG' _ _ (e5 _ _ h)) mG.g
      have fe : fMend us [.tup hs1, .tup (bs1.map bzU)] = (us.set 4 (.tup LH)).set 5 (.tup ((bs0.foldl (fun ps x => insZ x ps) bs1).map bzU)) := by
        unfold fMend
        rw [eh, eb]
        show (us.set 4 (.tup (hs1.foldl mendI hs0))).set 5 (.tup ((((bs0.map bzU).map zU).foldl (fun ps x => insZ x ps) ((bs1.map bzU).map zU)).map bzU)) = _
        rw [map_zU, map_zU, eLH]
      have ev2 : EvD w C (tCall (spHIO C) [] E0 (tCons (tVar 4) tNil)) [some x, some (.ref pa), some (.ref ah), some (.ref ab), some (.ref d), x5, x6, x7, some (.ref d2), x9, x10] G' (.tup LH) := fun G eg Q qq => by
        refine callQ (ea_cons (ev_var rfl) ea_nil) fun G1 g1 => ⟨d, _, A', LH, w, rfl, (eg.trans g1) _ _ hdF, nvF.tups (fun b o _ _ h => (eg.trans g1) _ _ h) mG.g, mG.g, mG.nd, mG.p, srtN_H mG.s, by omega, hw.imp fun o q => (eF.trans (eg.trans g1)) _ _ q, fun v H' s a => qq v H' (g1.trans s) a⟩
      refine (ed_changed (w := w) (C := C) (us := us.set 4 (.tup LH)) (k := 5) (σ := [some x, some (.ref pa), some (.ref ah), some (.ref ab), some (.ref d), x5, x6, x7, some (.ref d2), x9, x10]) (hw.imp fun o z => eF _ _ z) (ed_changed (w := w) (C := C) (us := us) (k := 4) (hw.imp fun o z => eF _ _ z) (ed_ev (te := tVar 0) (ev_var rfl) (ex_at eF hx)) ev_c ev2 (by omega) (by omega)) ev_c (ed_sortZ (K := K) (i := 8) (hl.imp fun o z => eF _ _ z) rfl hd2' ndq pq sq) (by rw [List.length_set]; omega) (by rw [List.length_set]; omega)) G' (Ex.refl G') _ fun v H8 e8 a8 => k v H8 (eF.trans e8) ?_
      rw [fe]
      exact a8
end
end Hs
/-! right heads and blocks stay right -/
namespace Hs
open PySem PySem.Spec PyProof.Rows L2 Hu Evl
open Hk (PZ ltPZ ltPZ_iff entZ)
theorem chain_pw {α : Type} {R : α → α → Prop} {xs : List α} (d : α) (tr : ∀ a b c, R a b → R b c → R a c) (h : ∀ k, k + 1 < xs.length → R (xs.getD k d) (xs.getD (k + 1) d)) : xs.Pairwise R := by
  have far : ∀ (m k : Nat), k + m + 1 < xs.length → R (xs.getD k d) (xs.getD (k + m + 1) d) := by
    intro m
    induction m with
    | zero => exact fun k hk => h k hk
    | succ m ih => exact fun k hk => tr _ _ _ (ih k (by omega)) (h (k + m + 1) hk)
  refine List.pairwise_iff_getElem.mpr fun i j hi hj lt => ?_
  have := far (j - i - 1) i (by omega)
  rw [show i + (j - i - 1) + 1 = j by omega, getD_some (List.getElem?_eq_getElem hi), getD_some (List.getElem?_eq_getElem hj)] at this
  exact this
theorem ascZ_srt {hs : List U} (h : ascZ (hs.map fun u => strU (nth u 0)) = true) : srtN hs := by
  have p : (hs.map fun u => strU (nth u 0)).Pairwise fun a b : Str => a.cps.toList < b.cps.toList := chain_pw e0z (fun a b c => List.lt_trans) fun k hk => of_decide_eq_true (ascN_get h k hk)
  rw [List.pairwise_map] at p
  exact p.imp fun {a b} q => decide_eq_true q
theorem srt_ascZ {hs : List U} (h : srtN hs) : ascZ (hs.map fun u => strU (nth u 0)) = true := by
  refine ascZ_pw ?_
  rw [List.pairwise_map]
  exact h.imp fun {a b} q => of_decide_eq_true q
theorem gHeads_iff {hs : List U} : gHeads (.tup hs) = true ↔ hs.all gNamed = true ∧ srtN hs := by
  show (hs.all gNamed && ascZ (hs.map fun u => strU (nth u 0))) = true ↔ _
  rw [Bool.and_eq_true]
  exact ⟨fun h => ⟨h.1, ascZ_srt h.2⟩, fun h => ⟨h.1, srt_ascZ h.2⟩⟩
/-- a right row of a block -/
def okZ (x : PZ) : Prop := gPiece (.str x.2) = true ∧ gId (.tup [.int x.1.1, .int x.1.2]) = true
theorem gBlk_bz {x : PZ} : gBlk (bzU x) = true ↔ okZ x := by
  show (gPair (bzU x) && (gId (nth (bzU x) 0) && gPiece (nth (bzU x) 1))) = true ↔ _
  have e : gPair (bzU x) = true := rfl
  rw [e, Bool.true_and, Bool.and_eq_true]
  exact ⟨fun h => ⟨h.2, h.1⟩, fun h => ⟨h.2, h.1⟩⟩
theorem bz_keys {ps : List PZ} : ((ps.map bzU).map fun u => keysU (nth u 0)) = ps.map fun x => kP x.1 := by
  rw [List.map_map]
  rfl
theorem ltPZ_K {x y : PZ} : ltPZ x y = true ↔ Hk.ltK (kP x.1) (kP y.1) = true := by
  rw [ltPZ_iff]
  exact ⟨fun h => ltK_i2 h, fun h => i2_ltK h⟩
theorem gBlocks_iff {ps : List PZ} : gBlocks (.tup (ps.map bzU)) = true ↔ (∀ x ∈ ps, okZ x) ∧ srtZ ps := by
  show ((ps.map bzU).all gBlk && ascK ((ps.map bzU).map fun u => keysU (nth u 0))) = true ↔ _
  rw [Bool.and_eq_true, bz_keys, List.all_map, List.all_eq_true]
  constructor
  · rintro ⟨h1, h2⟩
    refine ⟨fun x hx => gBlk_bz.mp (h1 x hx), ?_⟩
    have p : (ps.map fun x => x.1).Pairwise ltI2 := by
      refine chain_pw (0, 0) (fun a b c q1 q2 => ?_) fun k hk => ?_
      · unfold ltI2 at *
        omega
      · have := ascN_get h2 k (by rw [List.length_map] at hk ⊢; exact hk)
        have e : ps.map (fun x => kP x.1) = (ps.map fun x => x.1).map kP := by rw [List.map_map]; rfl
        rw [e] at this
        generalize ps.map (fun x => x.1) = qs at hk this
        have h1 : k < qs.length := by omega
        rw [getD_some (k := k) (by rw [List.getElem?_map, List.getElem?_eq_getElem h1]; rfl), getD_some (k := k + 1) (by rw [List.getElem?_map, List.getElem?_eq_getElem hk]; rfl)] at this
        rw [getD_some (List.getElem?_eq_getElem h1), getD_some (List.getElem?_eq_getElem hk)]
        exact i2_ltK this
    rw [List.pairwise_map] at p
    exact p.imp fun {a b} q => ltPZ_iff.mpr q
  · rintro ⟨h1, h2⟩
    refine ⟨fun x hx => gBlk_bz.mpr (h1 x hx), ascK_pw ?_⟩
    rw [List.pairwise_map]
    exact h2.imp fun {a b} q => ltPZ_K.mp q
/-! what the doings make -/
end Hs
/-! what a right deed makes of a right table is a right table -/
namespace Hs
open PySem PySem.Spec PyProof.Rows L2 Hu Evl
open Hk (PZ ltPZ ltPZ_iff entZ)
/-- what is kept of a table: nothing, or all of it right -/
def Kept (e m a h b : U) : Prop := (isM1 e = true ∧ m = .tup [] ∧ a = .tup [] ∧ h = .tup [] ∧ b = .tup []) ∨ (isM1 e = false ∧ gCnt e = true ∧ gMembers m = true ∧ gAhead a = true ∧ gHeads h = true ∧ gBlocks b = true)
structure Rt (e m a c h b l p v n : U) : Prop where
  k : Kept e m a h b
  c : gCnt c = true
  l : gLeases l = true
  p : gStamp p = true
  v : gVote v = true
  n : (isNon n || gMembers n) = true
theorem gTable_rt {e m a c h b l p v n : U} : gTable (.tup [e, m, a, c, h, b, l, p, v, n]) = true ↔ Rt e m a c h b l p v n := by
  have g : gTable (.tup [e, m, a, c, h, b, l, p, v, n]) = (true && ((gCnt c && gLeases l) && ((gStamp p && gVote v) && ((isNon n || gMembers n) && (if isM1 e = true then nilU m && (nilU a && (nilU h && nilU b)) else gCnt e && (gMembers m && (gAhead a && (gHeads h && gBlocks b)))))))) := rfl
  rw [g]
  simp only [Bool.true_and, Bool.and_eq_true]
  constructor
  · rintro ⟨⟨h1, h2⟩, ⟨h3, h4⟩, h5, h6⟩
    refine ⟨?_, h1, h2, h3, h4, h5⟩
    by_cases q : isM1 e = true
    · rw [if_pos q] at h6
      simp only [Bool.and_eq_true] at h6
      exact .inl ⟨q, nil_is h6.1, nil_is h6.2.1, nil_is h6.2.2.1, nil_is h6.2.2.2⟩
    · rw [if_neg q] at h6
      simp only [Bool.and_eq_true] at h6
      exact .inr ⟨by simpa using q, h6⟩
  · rintro ⟨k, h1, h2, h3, h4, h5⟩
    refine ⟨⟨h1, h2⟩, ⟨h3, h4⟩, h5, ?_⟩
    rcases k with ⟨q, rfl, rfl, rfl, rfl⟩ | ⟨q, h6⟩
    · rw [if_pos q]
      rfl
    · rw [if_neg (by rw [q]; decide)]
      simp only [Bool.and_eq_true]
      exact h6
theorem rt_ok {e m a c h b l p v n : U} (r : Rt e m a c h b l p v n) : gTable (.tup [e, m, a, c, h, b, l, p, v, n]) = true := gTable_rt.mpr r
theorem gTable_ten {u : U} (h : gTable u = true) : ∃ e m a c hh b l p v n, u = .tup [e, m, a, c, hh, b, l, p, v, n] ∧ Rt e m a c hh b l p v n := by
  obtain ⟨h0, _⟩ := and2 (a := gTO 10 u) h
  obtain ⟨us, rfl, hl⟩ := gTO_of h0
  match us, hl with
  | [e, m, a, c, hh, b, l, p, v, n], _ => exact ⟨e, m, a, c, hh, b, l, p, v, n, rfl, gTable_rt.mp h⟩
section
variable {e m a c h b l p v n : U}
theorem rt_inst {e2 m2 a2 h2 b2 : U} (r : Rt e m a c h b l p v n) (h1 : gCnt e2 = true) (k2 : gMembers m2 = true) (k3 : gAhead a2 = true) (k4 : gHeads h2 = true) (k5 : gBlocks b2 = true) : gTable (.tup (fInst [e, m, a, c, h, b, l, p, v, n] [e2, m2, a2, h2, b2])) = true := by
  have ne : isM1 e2 = false := by
    cases e2 with
    | int i =>
      have h0 : 0 ≤ i := by
        have : decide (0 ≤ i) = true := by simpa [gCnt, iv] using h1
        exact of_decide_eq_true this
      show isI (-1) (.int i) = false
      simp [isI]
      omega
    | _ => cases h1
  exact rt_ok (e := e2) (m := m2) (a := a2) (c := c) (h := h2) (b := b2) (l := .tup []) (p := .tup [.int 0, .int 0]) (v := .non) (n := .non) ⟨.inr ⟨ne, h1, k2, k3, k4, k5⟩, r.c, rfl, by decide, rfl, rfl⟩
end
end Hs
/-! right leases as rows -/
/-! what lease, free, tick and rise make of a right table is a right table -/
namespace Hs
open PySem PySem.Spec PyProof.Rows L2 Hu Evl
open Hk (SI ltSI)
theorem cnt_of {i : Int} (h : 0 ≤ i) : gCnt (.int i) = true := by simpa [gCnt, iv] using h
end Hs
/-! _law_alike: what is told, in whatever it stands, and what is due -/
namespace Hs
open PySem PySem.Spec PyProof.Rows L2 Hu Evl
open Hk (SI ltSI nearOk)
abbrev lAlike : Stmt := topS 105
theorem depL_mem {u : U} : ∀ {us : List U}, u ∈ us → dep u ≤ depL us
  | _ :: us, .head _ => by simp only [depL]; omega
  | _ :: us, .tail _ h => by have := depL_mem h; simp only [depL]; omega
theorem tyx_tup {K : PySem.W.Frag} {H : Hp} {a : Addr} {xs : List V} (h : SqT K H a xs) : TyX K H (.ref a) (.type "tuple") := by
  rcases h with h | ⟨o, its, n, h1, h2, _⟩
  · rcases h with h | ⟨o, h⟩
    · exact .base (.tup h)
    · exact .fTuple h
  · exact .kTuple h1 h2
section
variable {X : Cx} {C : Addr} {e : Expr} {te : TE} {p p2 pos : Pos}
theorem pe_isiY {T : String} {T' : Str} (S : Bs X.K X.mg C) (hg : Gl X "isinstance") (hgT : Gl X T') (hT : X.mg T' = none) (bT : bootBuiltins T' = some (.type T)) (he : PE X e te) (hn : T' ≠ "__name__") (hd : (T' == ("__debug__" : Str)) = false)
    (hst : starEach [e] X.env = (false, eval e X.env) :: starEach [] X.env := by rfl) (hst2 : starEach [e, .Name T' p2] X.env = (false, eval e X.env) :: starEach [.Name T' p2] X.env := by rfl) (hpl : (backTo pos (starEach [.Name T' p2] X.env)).any (·.1) = false := by rfl)
    (hst3 : starEach [.Name T' p2] X.env = (false, eval (.Name T' p2) X.env) :: starEach [] X.env := by rfl) :
    PE X (.Call (.Name "isinstance" p) [e, .Name T' p2] [] pos) (tCB (L2.rIsi X.K) (tCons te (tCons (tC (.ty T)) tNil))) :=
  pe_callB call_isi hg S.B.isi boot_isi (pa_cons he (pa_cons (pe_bltn hgT hT bT (show RelV (.ty T) (.type T) from rfl) hn hd) pa_nil hst3) hst2) (by decide) (by decide) hst2 hpl
end
section
variable {K : PySem.W.Frag} {σ : L2.St} {H : Hp} {te : TE}
theorem ev_isiI {T : String} {b : Bool} {i : Int} (h : Ev te σ H (.int i)) (hk : kitB "int" T = some b) : Ev (tCB (L2.rIsi K) (tCons te (tCons (tC (.ty T)) tNil))) σ H (.bl b) :=
  ev_cb (ea_cons h (ea_cons ev_c ea_nil)) fun H1 e Q q => ⟨_, .ty T, _, .type T, _, rfl, .ty T, .base (.int i), kit_ty hk, q H1 (Ex.refl H1)⟩
theorem ev_isiS {T : String} {b : Bool} {s : Str} (h : Ev te σ H (.str s)) (hk : kitB "str" T = some b) : Ev (tCB (L2.rIsi K) (tCons te (tCons (tC (.ty T)) tNil))) σ H (.bl b) :=
  ev_cb (ea_cons h (ea_cons ev_c ea_nil)) fun H1 e Q q => ⟨_, .ty T, _, .type T, _, rfl, .ty T, .base (.str s), kit_ty hk, q H1 (Ex.refl H1)⟩
theorem ev_isiT {T : String} {b : Bool} {a : Addr} {xs : List V} (h : Ev te σ H (.ref a)) (hx : SqT K H a xs) (hk : kitB "tuple" T = some b) : Ev (tCB (L2.rIsi K) (tCons te (tCons (tC (.ty T)) tNil))) σ H (.bl b) :=
  ev_cb (ea_cons h (ea_cons ev_c ea_nil)) fun H1 e Q q => ⟨_, .ty T, _, .type T, _, rfl, .ty T, tyx_tup (sqt_ex e hx), kit_ty hk, q H1 (Ex.refl H1)⟩
theorem kitII : kitB "int" "int" = some true := by decide +kernel
theorem kitIB : kitB "int" "bool" = some false := by decide +kernel
theorem kitSS : kitB "str" "str" = some true := by decide +kernel
theorem kitTT : kitB "tuple" "tuple" = some true := by decide +kernel
theorem ev_lenSq {a : Addr} {xs : List V} (h : Ev te σ H (.ref a)) (hx : SqT K H a xs) : Ev (tCB (rLenQ K) (tCons te tNil)) σ H (.int (xs.length : Int)) :=
  ev_cb (ea_cons h ea_nil) fun H1 e Q q => ⟨a, xs, rfl, .inr (sqt_ex e hx), q H1 (Ex.refl H1)⟩
/-- all([f(k) for k in range(n)]), all true -/
theorem ev_allR {ta : TA} {j : Nat} {vs : List Nat} {n : Nat} (h : EvA ta σ H [.int (n : Int)]) (hn : n ≤ 40000) (hw : ∀ x, wipe ((wipe σ vs).set j (some x)) vs = wipe σ vs)
    (he : ∀ i : Nat, i < n → Ev te ((wipe σ vs).set j (some (.int (i : Int)))) H (.bl true)) : Ev (tCB (rAll K) (tCons (tLc (iRng1 ta) (gName j) tYes te vs) tNil)) σ H (.bl true) := by
  have main : EvL (tLc (iRng1 ta) (gName j) tYes te vs) σ H ((List.range ((n : Int)).toNat).map fun _ => V.bl true) := el_rngM (fun _ => .bl true) h (by omega) hw fun i hi => he i (by omega)
  refine ev_cb1 main fun p H2 h2 e2 Q q => ⟨p, List.replicate n true, rfl, sq_of ?_, ?_⟩
  · rw [h2, Int.toNat_natCast]
    congr 2
    rw [List.map_replicate]
    exact List.ext_getElem (by simp) fun i h1 h2 => by simp
  · have : (List.replicate n true).all id = true := by simp
    rw [this]
    exact q H2 (Ex.refl H2)
end
section
variable {P : Program} {wd : World} {K : PySem.W.Frag} {mg : Str → Option Value} {base : Heap} {C : Addr}
def spAl (K : PySem.W.Frag) (C : Addr) (n : Nat) : Sp := fun vs H Q _ => ∃ (x y : V) (u : U) (w : Addr), vs = [x, y] ∧ Lk K H x u ∧ At w C H y u ∧ wt u ≤ 160000 ∧ pln u ∧ dep u < n ∧ ∀ H', Same H H' → Q (.bl true) H'
theorem scAl : FnScope ["told", "due", "k"] ["told", "due"] (defScope lAlike) := ⟨rfl, rfl, rfl, by decide +kernel, rfl, by decide +kernel, by decide +kernel⟩
theorem lk_tup {H : Hp} {v : V} {us : List U} (h : Lk K H v (.tup us)) : ∃ a xs, v = .ref a ∧ SqT K H a xs ∧ xs.length = us.length ∧ ∀ (i : Nat) (x : V) (u : U), xs[i]? = some x → us[i]? = some u → Lk K H x u := by
  cases h with
  | tup h1 h2 h3 => exact ⟨_, _, rfl, h1, h2, h3⟩
theorem lk_non {H : Hp} {v : V} {u : U} (h : Lk K H v u) : decide (v = .non) = isNon u := by
  cases h <;> rfl
theorem ok_alike {f : Addr} {fd : FuncData} (DN : Df K mg "_law_alike" lAlike ["told", "due"] f fd) (S : Bs K mg C) : ∀ n : Nat, FnOk P wd K mg base CX0 n f fd ["told", "due"] (spAl K C n)
  | 0 => ⟨fun _ _ _ _ ⟨_, _, _, _, e, _⟩ => by rw [e]; rfl, fun _ _ _ _ _ _ _ _ _ _ _ _ _ ⟨_, _, _, _, _, _, _, _, _, h, _⟩ => absurd h (Nat.not_lt_zero _)⟩
  | n + 1 => by
    have G := ok_alike DN S n
    refine DN.F.ok scAl (fun vs H Q E h => ?_) (fun cdv A outer s H vs Q E hr h => ?_)
    · obtain ⟨x, y, u, w, rfl, _⟩ := h
      rfl
    obtain ⟨x, y, u, w, rfl, hx, hy, hs, hp, hd, k⟩ := h
    refine ⟨_, pss_cons (ps_if (pt_val (pe_isiX S (by rfl) (by rfl) S.B.tup boot_tuple' (by decide) (pv 1) (by decide) (by decide)))
        (pss_cons (ps_if (PW.pt (pw_or (pt_not (pt_val (pe_isiY S (by rfl) (by rfl) S.B.tup boot_tuple' (pv 0) (by decide) (by decide)))) (pw_or1 (pt_cmpR op_ne (pe_callB call_len_seq (by rfl) S.B.len PySem.boot_len (pa_cons (pv 0) pa_nil)) (pe_callB call_len_seq (by rfl) S.B.len PySem.boot_len (pa_cons (pv 1) pa_nil)) (nomark _))))) (pss_one (ps_ret pe_bl)) pss_nil)
        (pss_one (ps_ret (pe_callB (cr_all rfl) (by rfl) S.B.all boot_all' (pa_cons (pe_lc (own := [("k", 2)]) (g := gName 2) (tt := tYes) rfl scAl.nd (pi_range1 (by rfl) S.B.range (pa_cons (pe_callB call_len_seq (by rfl) S.B.len PySem.boot_len (pa_cons (pv 1) pa_nil)) pa_nil)) (blkOk_by (N := ["told", "due", "k"]) (sc := defScope lAlike) (by decide +kernel))
          (fun _ _ _ _ _ => pg_name (i := 2) scAl.nd rfl (Or.inl rfl)) (fun _ _ _ _ _ => pts_nil) (fun _ _ _ _ _ => pe_call G hr (by rfl) DN.g DN.F.kp DN.b .nil pass0 (pa_cons (pe_ix (show IxR _ (rIxT K) from ix_tup) (pv 0) (pv 2) (fun _ _ => rfl)) (pa_cons (pe_ix (show IxR _ (rIxT K) from ix_tup) (pv 1) (pv 2) (fun _ _ => rfl)) pa_nil)))) pa_nil))))) pss_nil)
      (pss_cons (ps_if (pt_cmpR op_isN1 (pv 1) pe_non (nomark _)) (pss_one (ps_ret (pe_cmpR op_isN1 (pv 0) pe_non (nomark _)))) pss_nil)
      (pss_cons (ps_if (pt_val (pe_isiX S (by rfl) (by rfl) S.B.str boot_str (by decide) (pv 1) (by decide) (by decide))) (pss_one (ps_ret (pe_and (pe_isiY S (by rfl) (by rfl) S.B.str boot_str (pv 0) (by decide) (by decide)) (pe_one (pe_cmpR op_eq (pv 0) (pv 1) (nomark _)))))) pss_nil)
      (pss_one (ps_ret (pe_and (pe_isiY S (by rfl) (by rfl) S.B.int boot_int' (pv 0) (by decide) (by decide)) (pe_and (pe_not (pe_isiY S (by rfl) (by rfl) S.B.boo boot_bool' (pv 0) (by decide) (by decide))) (pe_one (pe_cmpR op_eq (pv 0) (pv 1) (nomark _))))))))), ?_⟩
    refine q_when (b := isT u "tuple") (et_B (ev_isi (ev_var rfl) hy)) (fun q H1 e1 => ?_) (fun q H1 e1 => ?_)
    · obtain ⟨us, rfl⟩ := isT_tup q
      obtain ⟨a, xs, rfl, ha, l1, hl⟩ := lk_tup (hx.ex e1)
      obtain ⟨b, ys, rfl, hb, _, hm⟩ := at_tup (ex_at e1 hy)
      have l2 := AtL.length hm
      have hz : us.length ≤ 40000 := by
        have h1 := wt_len4 us
        simp only [wt] at hs
        omega
      refine q_when (b := !true || false) (et_or (et_not (et_B (ev_isiT (ev_var rfl) ha kitTT))) fun _ => et_test (ev_is (ev_op (ev_lenSq (K := K) (ev_var rfl) ha) (ev_lenT (K := K) (ev_var rfl) hb) (rv_ne rfl)) (by rw [l1, l2]; simp))) (fun q => by cases q) (fun _ H2 e2 => ?_)
      refine s_ret (ev_allR (K := K) (n := us.length) (ea_cons (ev_is (ev_lenT (K := K) (ev_var rfl) (Tu.ex e2 hb)) (by rw [l2])) ea_nil) hz (fun _ => rfl) fun i hi => ?_) fun H3 e3 => k H3 ((e1.trans e2).trans e3)
      have hx1 : xs[i]? = some (xs[i]'(by omega)) := List.getElem?_eq_getElem _
      generalize xs[i]'(by omega) = x1 at hx1
      have ax := hl i x1 us[i] hx1 (List.getElem?_eq_getElem hi)
      obtain ⟨y1, hy1, ay⟩ := AtL.get hm (List.getElem?_eq_getElem hi)
      have hpl : plnL us := hp
      have hdl : depL us + 1 < n + 1 := by simpa only [dep] using hd
      exact ev_call (ea_cons (ev_op (ev_var rfl) (ev_var rfl) (rv_ixT (sqt_ex e2 ha) (atI_nat hx1))) (ea_cons (ev_op (ev_var rfl) (ev_var rfl) (rv_ixT (Tu.st (Tu.ex e2 hb)) (atI_nat hy1))) ea_nil)) fun G eg Q q E =>
        ⟨x1, y1, us[i], w, rfl, ax.ex (e2.trans eg), ex_at (e2.trans eg) ay, by have := wt_mem (List.getElem_mem hi); simp only [wt] at hs; omega, plnL_all.mp hpl _ (List.getElem_mem hi), by have := depL_mem (List.getElem_mem hi); omega, q⟩
    · have hx1 := hx.ex e1
      have hy1 := ex_at e1 hy
      refine q_when (b := isNon u) (et_test (ev_is (ev_isN (ev_var rfl)) (by rw [at_non hy1]))) (fun q2 H2 e2 => ?_) (fun q2 H2 e2 => ?_)
      · exact s_ret (ev_is (ev_isN (ev_var rfl)) (by rw [lk_non (hx1.ex e2), q2])) fun H3 e3 => k H3 ((e1.trans e2).trans e3)
      · have hx2 := hx1.ex e2
        have hy2 := ex_at e2 hy1
        have e12 := e1.trans e2
        refine q_when (b := isT u "str") (et_B (ev_isi (ev_var rfl) hy2)) (fun q3 H3 e3 => ?_) (fun q3 H3 e3 => ?_)
        · obtain ⟨z, rfl⟩ := isT_str q3
          cases hx
          have ey := at_str (ex_at e3 hy2)
          subst ey
          exact s_ret (v := .bl (true && true)) (ev_andV (ev_isiS (ev_var rfl) kitSS) fun _ => ev_is (ev_op (ev_var rfl) (ev_var rfl) (rv_eq rfl)) (congrArg V.bl (decide_eq_true rfl))) fun H4 e4 => k H4 ((e12.trans e3).trans e4)
        · obtain ⟨i, rfl⟩ : ∃ i, u = .int i := by
            cases u with
            | int i => exact ⟨i, rfl⟩
            | non => cases q2
            | str z => simp [isT, isS, tyU] at q3
            | tup us => simp [isT, isS, tyU] at q
            | bl b => exact hp.elim
            | lst us => exact hp.elim
            | dct us => exact hp.elim
            | exc => exact hp.elim
          cases hx
          have ey := at_int (ex_at e3 hy2)
          subst ey
          exact s_ret (v := .bl (true && (!false && true))) (ev_andV (ev_isiI (ev_var rfl) kitII) fun _ => ev_andV (ev_notV (ev_isiI (ev_var rfl) kitIB)) fun _ => ev_is (ev_op (ev_var rfl) (ev_var rfl) (rv_eq rfl)) (congrArg V.bl (decide_eq_true rfl))) fun H4 e4 => k H4 ((e12.trans e3).trans e4)
end
end Hs
/-! _law_read_holds -/
namespace Hs
open PySem PySem.Spec PyProof.Rows L2 Hu Evl
open Hk (SI ltSI nearOk)
section
variable {P : Program} {w : World} {K : PySem.W.Frag} {mg : Str → Option Value} {base : Heap} {f : Addr} {fd : FuncData} {ps : List Str} {k : Nat} {sp : Sp}
/-- what may raise, where it doesn't -/
theorem lowerX (F : FnOk P w K mg base (L2.CX P w) k f fd ps sp) : FnOk P w K mg base CX0 k f fd ps (fun vs H Q _ => sp vs H Q E0) :=
  ⟨fun vs H Q E h => F.len _ _ _ _ h, fun A outer s H args us vs Q E hr he hb hv hs => codeAny_mono (F.run A outer s H args us vs Q E0 hr he hb hv hs) fun r s' hq => by
    cases r with
    | error e =>
      obtain ⟨_, _, _, _, _, _, _, _, _, _, _, _, h⟩ := hq
      exact h.elim
    | ok fl => cases fl <;> exact hq⟩
end
/-! ### how deep, how heavy -/
end Hs
/-! lots of names, ids, counts, judged -/
namespace Hs
open PySem PySem.Spec PyProof.Rows L2 Hu Evl
abbrev sNames : Stmt := topS 34
abbrev sIds : Stmt := topS 35
abbrev sCounts : Stmt := topS 36
abbrev sPartK : Stmt := topS 37
abbrev sLot : Stmt := topS 38
abbrev sPartsK : Stmt := topS 39
section
variable {P : Program} {wd : World} {K : PySem.W.Frag} {mg : Str → Option Value} {base : Heap} {C : Addr}
theorem asc_strT {H : Hp} {a : Addr} {zs : List Str} (ha : SqT K H a (zs.map V.str)) (hz : zs.length ≤ 40000) (Q : VK) (q : ∀ H2, Ex H H2 → Q (.bl (ascZ zs)) H2) (E : XK) : spAscG K (rIxT K) rLtS [.ref a] H Q E := by
  refine ⟨a, zs.map V.str, (fun k => decide ((zs.getD k e0z).cps.toList < (zs.getD (k + 1) e0z).cps.toList)), rfl, .inr ha, (by rw [List.length_map]; exact hz), fun k x hx => rv_ixT ha (atI_nat hx), fun k x y hx hy => ?_, ?_⟩
  · rw [List.getElem?_map] at hx hy
    cases h1 : zs[k]? with
    | none => rw [h1] at hx; cases hx
    | some z => cases h2 : zs[k + 1]? with
      | none => rw [h2] at hy; cases hy
      | some z2 =>
        rw [h1] at hx
        rw [h2] at hy
        cases hx
        cases hy
        dsimp only
        rw [getD_some h1, getD_some h2]
        exact fun H1 e Q q => ⟨z, z2, rfl, rfl, q H1 (Ex.refl H1)⟩
  · rw [List.length_map]
    exact q
theorem asc_tkT {H : Hp} {a : Addr} {ys : List V} {kss : List (List L2.Key)} (ha : SqT K H a ys) (ht : TkL H ys kss) (hk : kinK kss) (hz : kss.length ≤ 40000) (Q : VK) (q : ∀ H2, Ex H H2 → Q (.bl (ascK kss)) H2) (E : XK) : spAscG K (rIxT K) (Hk.rLtK K) [.ref a] H Q E := by
  refine ⟨a, ys, (fun k => Hk.ltK (kss.getD k []) (kss.getD (k + 1) [])), rfl, .inr ha, (by rw [ht.len]; exact hz), fun k x hx => rv_ixT ha (atI_nat hx), fun k x y hx hy => ?_, ?_⟩
  · obtain ⟨p, ks, rfl, h1, hp⟩ := ht.get hx
    obtain ⟨p2, ls, rfl, h2, hp2⟩ := ht.get hy
    dsimp only
    rw [getD_some h1, getD_some h2]
    exact fun H1 e Q q => ⟨p, p2, ks, ls, rfl, rfl, st_of (e _ _ hp), st_of (e _ _ hp2), hk _ (List.mem_of_getElem? h1) _ (List.mem_of_getElem? h2), q H1 (Ex.refl H1)⟩
  · rw [ht.len]
    exact q
theorem ok_ascZT {f : Addr} {fd : FuncData} (F : Fun K "is_ascending" "is_ascending" sAscending f fd) (B : Bt mg) : FnOk P wd K mg base CX0 1 f fd ["things"] (spAscG K (rIxT K) rLtS) :=
  ok_ascG F B (fun X e => e ▸ ix_tup) (fun X e _ => op_lt_str)
theorem ok_ascKT {f : Addr} {fd : FuncData} (F : Fun K "is_ascending" "is_ascending" sAscending f fd) (B : Bt mg) : FnOk P wd K mg base CX0 1 f fd ["things"] (spAscG K (rIxT K) (Hk.rLtK K)) :=
  ok_ascG F B (fun X e => e ▸ ix_tup) (fun X e h => e ▸ Hk.op_ltK (by omega))
def gNames (u : U) : Bool := tv u fun us => us.all gNam && ascZ (us.map strU)
def gIds (u : U) : Bool := tv u fun us => us.all gId && ascK (us.map keysU)
def gCounts (m : Nat) (u : U) : Bool := tv u fun us => decide (us.length ≤ m) && us.all gCnt
theorem names_str {w : Addr} {H : Hp} : ∀ {us : List U} {xs : List V}, AtL w C H xs us → us.all gNam = true → xs = (us.map strU).map V.str
  | [], _, .nil, _ => rfl
  | u :: us, _, .cons h t, hall => by
    rw [List.all_cons, Bool.and_eq_true] at hall
    obtain ⟨z, rfl⟩ := gNam_str hall.1
    rw [at_str h, names_str t hall.2]
    rfl
theorem ids_tk {w : Addr} {H : Hp} : ∀ {us : List U} {xs : List V}, AtL w C H xs us → us.all gId = true → TkL H xs (us.map keysU)
  | [], _, .nil, _ => .nil
  | u :: us, _, .cons h t, hall => by
    rw [List.all_cons, Bool.and_eq_true] at hall
    obtain ⟨i, j, rfl⟩ := gId_two hall.1
    obtain ⟨p, rfl, hp⟩ := two_ints h
    exact .cons (ks := [.inl i, .inl j]) hp (ids_tk t hall.2)
theorem kin_ids {us : List U} (h : us.all gId = true) : kinK (us.map keysU) := fun ks h1 ls h2 => by
  obtain ⟨u, hu, rfl⟩ := List.mem_map.mp h1
  obtain ⟨x, hx, rfl⟩ := List.mem_map.mp h2
  obtain ⟨i, j, rfl⟩ := gId_two (List.all_eq_true.mp h u hu)
  obtain ⟨i', j', rfl⟩ := gId_two (List.all_eq_true.mp h x hx)
  rfl
/-- a call with a value there of which something is known -/
theorem ev_callV {sp : Sp} {E : XK} {z v : V} {te : TE} {σ : L2.St} {H : Hp} (h : Ev te σ H v) (hs : ∀ H1, Ex H H1 → ∀ Q : VK, (∀ H2, Ex H1 H2 → Q z H2) → ∀ E, sp [v] H1 Q E) : Ev (tCall sp [] E (tCons te tNil)) σ H z :=
  ev_call (ea_cons h ea_nil) fun H1 e Q q E => hs H1 e Q q E
theorem scNames : FnScope ["thing", "item"] ["thing"] (defScope sNames) := ⟨rfl, rfl, rfl, by decide +kernel, rfl, by decide +kernel, by decide +kernel⟩
theorem jw_names {f f1 f2 : Addr} {fd d1 d2 : FuncData} (D : Df K mg "is_names" sNames ["thing"] f fd) (S : Bs K mg C) (J : Jd P wd K mg base C 2 "is_name" "thing" f1 d1 gNam) (DA : Df K mg "is_ascending" sAscending ["things"] f2 d2) : Jw P wd K mg base C 6 "is_names" "thing" f fd Sm gNames := by
  refine ⟨D.F.ok scNames lenJw (fun cdv A outer s H vs Q E hr h => ?_), D.g, D.F.kp, D.b⟩
  obtain ⟨v, u, w, rfl, hat, fi, hs, hw, k⟩ := h
  have GA : FnOk P wd K mg base CX0 5 f2 d2 ["things"] (spAscG K (rIxT K) rLtS) := (ok_ascZT DA.F S.B).mono (by decide)
  refine ⟨_, pss_one (ps_ret (pe_and (pe_isiX S (by rfl) (by rfl) S.B.tup boot_tuple' (by decide) (pv 0) (by decide) (by decide)) (pe_and (pe_callB (cr_all rfl) (by rfl) S.B.all boot_all' (pa_cons (pe_lc (own := [("item", 1)]) (g := gName 1) (tt := tYes) rfl scNames.nd (pi_tup (pv 0)) (blkOk_by (N := ["thing", "item"]) (sc := defScope sNames) (by decide +kernel))
        (fun _ _ _ _ _ => pg_name (i := 1) scNames.nd rfl (Or.inl rfl)) (fun _ _ _ _ _ => pts_nil) (fun _ _ _ _ _ => pe_J J hr (by decide) (by rfl) pass0 (pv 1))) pa_nil))
      (pe_one (pe_call GA hr (by rfl) DA.g DA.F.kp DA.b .nil pass0 (pa_cons (pv 0) pa_nil)))))), ?_⟩
  refine s_ret (ev_andV (b := gNames u) (ev_isi (ev_var rfl) hat) fun q => ?_) fun H1 e => ?_
  · obtain ⟨us, rfl⟩ := isT_tup q
    obtain ⟨a, xs, rfl, ha, _, hl⟩ := at_tup hat
    refine ev_andV (a := us.all gNam) (b := ascZ (us.map strU)) (ev_allT (g := gNam) (ev_var rfl) ha fi.len hl (fun _ => rfl) fun x u hu hx => ev_J (ev_var rfl) hx (fi.tup u hu)) fun q2 => ?_
    have hx := names_str hl q2
    exact ev_callV (ev_var rfl) fun H1 e Q f E => asc_strT (zs := us.map strU) (by rw [← hx]; exact Tu.st (Tu.ex e ha)) (by rw [List.length_map]; exact Sm.len hs) Q f E
  · have : (isT u "tuple" && gNames u) = gNames u := by
      cases u with
      | tup us => show (isT (.tup us) "tuple" && _) = _; rw [show isT (.tup us) "tuple" = true by simp [isT, isS, tyU], Bool.true_and]
      | _ => unfold gNames tv; rw [Bool.and_false]
    rw [this]
    exact k H1 e
theorem scIds : FnScope ["thing", "item"] ["thing"] (defScope sIds) := ⟨rfl, rfl, rfl, by decide +kernel, rfl, by decide +kernel, by decide +kernel⟩
theorem jw_ids {f f1 f2 : Addr} {fd d1 d2 : FuncData} (D : Df K mg "is_ids" sIds ["thing"] f fd) (S : Bs K mg C) (J : Jd P wd K mg base C 3 "is_block_id" "thing" f1 d1 gId) (DA : Df K mg "is_ascending" sAscending ["things"] f2 d2) : Jw P wd K mg base C 6 "is_ids" "thing" f fd Sm gIds := by
  refine ⟨D.F.ok scIds lenJw (fun cdv A outer s H vs Q E hr h => ?_), D.g, D.F.kp, D.b⟩
  obtain ⟨v, u, w, rfl, hat, fi, hs, hw, k⟩ := h
  have GA : FnOk P wd K mg base CX0 5 f2 d2 ["things"] (spAscG K (rIxT K) (Hk.rLtK K)) := (ok_ascKT DA.F S.B).mono (by decide)
  refine ⟨_, pss_one (ps_ret (pe_and (pe_isiX S (by rfl) (by rfl) S.B.tup boot_tuple' (by decide) (pv 0) (by decide) (by decide)) (pe_and (pe_callB (cr_all rfl) (by rfl) S.B.all boot_all' (pa_cons (pe_lc (own := [("item", 1)]) (g := gName 1) (tt := tYes) rfl scIds.nd (pi_tup (pv 0)) (blkOk_by (N := ["thing", "item"]) (sc := defScope sIds) (by decide +kernel))
        (fun _ _ _ _ _ => pg_name (i := 1) scIds.nd rfl (Or.inl rfl)) (fun _ _ _ _ _ => pts_nil) (fun _ _ _ _ _ => pe_J J hr (by decide) (by rfl) pass0 (pv 1))) pa_nil))
      (pe_one (pe_call GA hr (by rfl) DA.g DA.F.kp DA.b .nil pass0 (pa_cons (pv 0) pa_nil)))))), ?_⟩
  refine s_ret (ev_andV (b := gIds u) (ev_isi (ev_var rfl) hat) fun q => ?_) fun H1 e => ?_
  · obtain ⟨us, rfl⟩ := isT_tup q
    obtain ⟨a, xs, rfl, ha, _, hl⟩ := at_tup hat
    refine ev_andV (a := us.all gId) (b := ascK (us.map keysU)) (ev_allT (g := gId) (ev_var rfl) ha fi.len hl (fun _ => rfl) fun x u hu hx => ev_J (ev_var rfl) hx (fi.tup u hu)) fun q2 => ?_
    exact ev_callV (ev_var rfl) fun H1 e Q f E => asc_tkT (Tu.st (Tu.ex e ha)) (ids_tk (ex_atl e hl) q2) (kin_ids q2) (by rw [List.length_map]; exact Sm.len hs) Q f E
  · have : (isT u "tuple" && gIds u) = gIds u := by
      cases u with
      | tup us => show (isT (.tup us) "tuple" && _) = _; rw [show isT (.tup us) "tuple" = true by simp [isT, isS, tyU], Bool.true_and]
      | _ => unfold gIds tv; rw [Bool.and_false]
    rw [this]
    exact k H1 e
def spCts (C : Addr) : Sp := fun vs H Q _ => ∃ (v : V) (u : U) (w : Addr) (m : Nat), vs = [v, .int (m : Int)] ∧ At w C H v u ∧ Fine u ∧ ∀ H', Same H H' → Q (.bl (gCounts m u)) H'
theorem scCounts : FnScope ["thing", "most", "item"] ["thing", "most"] (defScope sCounts) := ⟨rfl, rfl, rfl, by decide +kernel, rfl, by decide +kernel, by decide +kernel⟩
theorem ok_counts {f f1 : Addr} {fd d1 : FuncData} (D : Df K mg "is_counts" sCounts ["thing", "most"] f fd) (S : Bs K mg C) (J : Jd P wd K mg base C 2 "is_count" "thing" f1 d1 gCnt) : FnOk P wd K mg base CX0 3 f fd ["thing", "most"] (spCts C) := by
  refine D.F.ok scCounts (fun vs H Q E h => ?_) (fun cdv A outer s H vs Q E hr h => ?_)
  · obtain ⟨v, u, w, m, rfl, _⟩ := h
    rfl
  obtain ⟨v, u, w, m, rfl, hat, fi, k⟩ := h
  refine ⟨_, pss_one (ps_ret (pe_and (pe_isiX S (by rfl) (by rfl) S.B.tup boot_tuple' (by decide) (pv 0) (by decide) (by decide)) (pe_and (pe_cmpR op_le (pe_callB call_len_seq (by rfl) S.B.len PySem.boot_len (pa_cons (pv 0) pa_nil)) (pv 1) (nomark _))
      (pe_one (pe_callB (cr_all rfl) (by rfl) S.B.all boot_all' (pa_cons (pe_lc (own := [("item", 2)]) (g := gName 2) (tt := tYes) rfl scCounts.nd (pi_tup (pv 0)) (blkOk_by (N := ["thing", "most", "item"]) (sc := defScope sCounts) (by decide +kernel))
        (fun _ _ _ _ _ => pg_name (i := 2) scCounts.nd rfl (Or.inl rfl)) (fun _ _ _ _ _ => pts_nil) (fun _ _ _ _ _ => pe_J J hr (by decide) (by rfl) pass0 (pv 2))) pa_nil)))))), ?_⟩
  refine s_ret (ev_andV (b := gCounts m u) (ev_isi (ev_var rfl) hat) fun q => ?_) fun H1 e => ?_
  · obtain ⟨us, rfl⟩ := isT_tup q
    obtain ⟨a, xs, rfl, ha, _, hl⟩ := at_tup hat
    refine ev_andV (a := decide (us.length ≤ m)) (b := us.all gCnt) (ev_is (ev_op (ev_lenTU (K := K) (ev_var rfl) ha hl) (ev_var rfl) rv_I0) ?_) fun q2 => ev_allT (g := gCnt) (ev_var rfl) ha fi.len hl (fun _ => rfl) fun x u hu hx => ev_J (ev_var rfl) hx (fi.tup u hu)
    congr 1
    exact decide_eq_decide.mpr (by omega)
  · have : (isT u "tuple" && gCounts m u) = gCounts m u := by
      cases u with
      | tup us => show (isT (.tup us) "tuple" && _) = _; rw [show isT (.tup us) "tuple" = true by simp [isT, isS, tyU], Bool.true_and]
      | _ => unfold gCounts tv; rw [Bool.and_false]
    rw [this]
    exact k H1 e
end
end Hs
/-! parts of any kind, judged -/
namespace Hs
open PySem PySem.Spec PyProof.Rows L2 Hu Evl
section
variable {P : Program} {wd : World} {K : PySem.W.Frag} {mg : Str → Option Value} {base : Heap} {C : Addr}
def eqZ (z y : Str) : Bool := decide (V.str z = V.str y)
def gLot (z : Str) (u : U) : Bool := if eqZ z "heads" = true then gHeads u else if eqZ z "blocks" = true then gBlocks u else if eqZ z "names" = true then gNames u else if eqZ z "ids" = true then gIds u else if eqZ z "sums" = true then gCounts 64 u else eqZ z "factor" && gCounts 65 u
def gMany (u : U) : Bool := iv u fun i => decide (1 ≤ i) && decide (i ≤ 64)
def gPart (z : Str) (u : U) : Bool := if inV (.str z) [.str "epoch", .str "talk", .str "size"] = true then gCnt u else if eqZ z "name" = true then gNam u else if eqZ z "hand" = true then gHand u else if inV (.str z) [.str "stamp", .str "ballot"] = true then gStamp u else if eqZ z "row" = true then gRow u else
  if eqZ z "id" = true then gId u else if eqZ z "piece" = true then gPiece u else if eqZ z "members" = true then gMembers u else if eqZ z "ahead" = true then gAhead u else if eqZ z "voted" = true then gVote u else if eqZ z "many" = true then gMany u else gLot z u
def spPk (C : Addr) (g : Str → U → Bool) : Sp := fun vs H Q _ => ∃ (z : Str) (v : V) (u : U) (w : Addr), vs = [.str z, v] ∧ At w C H v u ∧ Fine u ∧ Sm u ∧ (∃ o, H w = some o) ∧ ∀ H', Same H H' → Q (.bl (g z u)) H'
theorem lenPk {C : Addr} {g : Str → U → Bool} {a b : Str} : ∀ vs H Q E, spPk C g vs H Q E → vs.length = [a, b].length := fun vs H Q E h => by
  obtain ⟨z, v, u, w, rfl, _⟩ := h
  rfl
theorem pe_gi' {X : Cx} {x : Str} {i : Int} {p : Pos} (hg : Gl X x) (h : ∃ t, X.mg x = some (.int i t)) (hd : (x == ("__debug__" : Str)) = false := by decide) : PE X (.Name x p) (tC (.int i)) := by
  obtain ⟨t, h⟩ := h
  exact pe_glob (v := .int i) hg h ⟨_, rfl⟩ hd
theorem scLot : FnScope ["kind", "thing"] ["kind", "thing"] (defScope sLot) := ⟨rfl, rfl, rfl, by decide +kernel, rfl, by decide +kernel, by decide +kernel⟩
theorem ok_lot {f f1 f2 f3 f4 f5 : Addr} {fd d1 d2 d3 d4 d5 : FuncData} (D : Df K mg "_is_lot" sLot ["kind", "thing"] f fd) (N : ∃ t, mg "MOST_PLACES" = some (.int 64 t)) (J1 : Jw P wd K mg base C 6 "is_heads" "thing" f1 d1 Sm gHeads) (J2 : Jw P wd K mg base C 6 "is_blocks" "thing" f2 d2 Sm gBlocks) (J3 : Jw P wd K mg base C 6 "is_names" "thing" f3 d3 Sm gNames)
    (J4 : Jw P wd K mg base C 6 "is_ids" "thing" f4 d4 Sm gIds) (D5 : Df K mg "is_counts" sCounts ["thing", "most"] f5 d5) (G5 : FnOk P wd K mg base CX0 3 f5 d5 ["thing", "most"] (spCts C)) : FnOk P wd K mg base CX0 7 f fd ["kind", "thing"] (spPk C gLot) := by
  have G5' : FnOk P wd K mg base CX0 6 f5 d5 ["thing", "most"] (spCts C) := G5.mono (by decide)
  refine D.F.ok scLot lenPk (fun cdv A outer s H vs Q E hr h => ?_)
  obtain ⟨z, v, u, w, rfl, hat, fi, hs, hw, k⟩ := h
  refine ⟨_, pss_cons (ps_if (pt_cmpR op_eq (pv 0) pe_str (nomark _)) (pss_one (ps_ret (pe_Jw J1 hr (by decide) (by rfl) pass0 (pv 1)))) pss_nil)
    (pss_cons (ps_if (pt_cmpR op_eq (pv 0) pe_str (nomark _)) (pss_one (ps_ret (pe_Jw J2 hr (by decide) (by rfl) pass0 (pv 1)))) pss_nil)
    (pss_cons (ps_if (pt_cmpR op_eq (pv 0) pe_str (nomark _)) (pss_one (ps_ret (pe_Jw J3 hr (by decide) (by rfl) pass0 (pv 1)))) pss_nil)
    (pss_cons (ps_if (pt_cmpR op_eq (pv 0) pe_str (nomark _)) (pss_one (ps_ret (pe_Jw J4 hr (by decide) (by rfl) pass0 (pv 1)))) pss_nil)
    (pss_cons (ps_if (pt_cmpR op_eq (pv 0) pe_str (nomark _)) (pss_one (ps_ret (pe_call G5' hr (by rfl) D5.g D5.F.kp D5.b .nil pass0 (pa_cons (pv 1) (pa_cons (pe_gi' (by rfl) N) pa_nil))))) pss_nil)
    (pss_one (ps_ret (pe_and (pe_cmpR op_eq (pv 0) pe_str (nomark _)) (pe_one (pe_call G5' hr (by rfl) D5.g D5.F.kp D5.b .nil pass0 (pa_cons (pv 1) (pa_cons (pe_op op_add (pe_gi' (by rfl) N) pe_int) pa_nil))))))))))), ?_⟩
  unfold gLot at k
  refine q_when (b := eqZ z "heads") (et_test (ev_op (ev_var rfl) ev_c (rv_eq rfl))) (fun q H9 e9 => ?_) (fun q0 H1 e1 => ?_)
  · rw [if_pos q] at k
    have e10 := ((Ex.refl H)).trans e9
    exact s_ret (ev_Jw (ev_var rfl) (ex_at e10 hat) fi hs (hw.imp fun o z => e10 _ _ z)) fun H10 e11 => k H10 (e10.trans e11)
  rw [if_neg (by rw [q0]; decide)] at k
  have E1 := ((Ex.refl H)).trans e1
  refine q_when (b := eqZ z "blocks") (et_test (ev_op (ev_var rfl) ev_c (rv_eq rfl))) (fun q H9 e9 => ?_) (fun q1 H2 e2 => ?_)
  · rw [if_pos q] at k
    have e10 := (E1).trans e9
    exact s_ret (ev_Jw (ev_var rfl) (ex_at e10 hat) fi hs (hw.imp fun o z => e10 _ _ z)) fun H10 e11 => k H10 (e10.trans e11)
  rw [if_neg (by rw [q1]; decide)] at k
  have E2 := (E1).trans e2
  refine q_when (b := eqZ z "names") (et_test (ev_op (ev_var rfl) ev_c (rv_eq rfl))) (fun q H9 e9 => ?_) (fun q2 H3 e3 => ?_)
  · rw [if_pos q] at k
    have e10 := (E2).trans e9
    exact s_ret (ev_Jw (ev_var rfl) (ex_at e10 hat) fi hs (hw.imp fun o z => e10 _ _ z)) fun H10 e11 => k H10 (e10.trans e11)
  rw [if_neg (by rw [q2]; decide)] at k
  have E3 := (E2).trans e3
  refine q_when (b := eqZ z "ids") (et_test (ev_op (ev_var rfl) ev_c (rv_eq rfl))) (fun q H9 e9 => ?_) (fun q3 H4 e4 => ?_)
  · rw [if_pos q] at k
    have e10 := (E3).trans e9
    exact s_ret (ev_Jw (ev_var rfl) (ex_at e10 hat) fi hs (hw.imp fun o z => e10 _ _ z)) fun H10 e11 => k H10 (e10.trans e11)
  rw [if_neg (by rw [q3]; decide)] at k
  have E4 := (E3).trans e4
  refine q_when (b := eqZ z "sums") (et_test (ev_op (ev_var rfl) ev_c (rv_eq rfl))) (fun q H9 e9 => ?_) (fun q4 H5 e5 => ?_)
  · rw [if_pos q] at k
    have e10 := E4.trans e9
    exact s_ret (ev_call (ea_cons (ev_var rfl) (ea_cons ev_c ea_nil)) fun G eg Q q E => ⟨v, u, w, 64, rfl, ex_at (e10.trans eg) hat, fi, q⟩) fun H10 e11 => k H10 (e10.trans e11)
  rw [if_neg (by rw [q4]; decide)] at k
  have E5 := E4.trans e5
  exact s_ret (ev_andV (a := eqZ z "factor") (b := gCounts 65 u) (ev_op (ev_var rfl) ev_c (rv_eq rfl)) fun _ => ev_call (ea_cons (ev_var rfl) (ea_cons (ev_op ev_c ev_c rv_I0) ea_nil)) fun G eg Q q E => ⟨v, u, w, 65, rfl, ex_at (E5.trans eg) hat, fi, q⟩) fun H10 e11 => k H10 (E5.trans e11)
theorem scPartK : FnScope ["kind", "thing"] ["kind", "thing"] (defScope sPartK) := ⟨rfl, rfl, rfl, by decide +kernel, rfl, by decide +kernel, by decide +kernel⟩
theorem ok_partK {f g1 g2 g3 g4 g5 g6 g7 g8 g9 g10 g11 : Addr} {fd d1 d2 d3 d4 d5 d6 d7 d8 d9 d10 d11 : FuncData} (D : Df K mg "is_part" sPartK ["kind", "thing"] f fd) (N : ∃ t, mg "MOST_PLACES" = some (.int 64 t)) (JC : Jd P wd K mg base C 2 "is_count" "thing" g1 d1 gCnt) (JN : Jd P wd K mg base C 2 "is_name" "thing" g2 d2 gNam) (JH : Jd P wd K mg base C 2 "is_hand" "thing" g3 d3 gHand)
    (JS : Jd P wd K mg base C 3 "is_stamp" "thing" g4 d4 gStamp) (JR : Jd P wd K mg base C 4 "is_row" "thing" g5 d5 gRow) (JI : Jd P wd K mg base C 3 "is_block_id" "thing" g6 d6 gId) (JP : Jd P wd K mg base C 2 "is_piece" "thing" g7 d7 gPiece) (JM : Jd P wd K mg base C 4 "is_members" "thing" g8 d8 gMembers) (JA : Jw P wd K mg base C 5 "is_ahead" "thing" g9 d9 okN gAhead) (JV : Jd P wd K mg base C 5 "is_vote" "thing" g10 d10 gVote)
    (DL : Df K mg "_is_lot" sLot ["kind", "thing"] g11 d11) (GL : FnOk P wd K mg base CX0 7 g11 d11 ["kind", "thing"] (spPk C gLot)) : FnOk P wd K mg base CX0 8 f fd ["kind", "thing"] (spPk C gPart) := by
  refine D.F.ok scPartK lenPk (fun cdv A outer s H vs Q E hr h => ?_)
  obtain ⟨z, v, u, w, rfl, hat, fi, hs, hw, k⟩ := h
  refine ⟨_, pss_cons (ps_if (pt_cmpR (show OpR _ _ (rIn K false) from op_in_seq) (pv 0) (pe_tup (pa_cons pe_str (pa_cons pe_str (pa_cons pe_str pa_nil)))) (by rfl)) (pss_one (ps_ret (pe_J JC hr (by decide) (by rfl) pass0 (pv 1)))) pss_nil)
    (pss_cons (ps_if (pt_cmpR op_eq (pv 0) pe_str (nomark _)) (pss_one (ps_ret (pe_J JN hr (by decide) (by rfl) pass0 (pv 1)))) pss_nil)
    (pss_cons (ps_if (pt_cmpR op_eq (pv 0) pe_str (nomark _)) (pss_one (ps_ret (pe_J JH hr (by decide) (by rfl) pass0 (pv 1)))) pss_nil)
    (pss_cons (ps_if (pt_cmpR (show OpR _ _ (rIn K false) from op_in_seq) (pv 0) (pe_tup (pa_cons pe_str (pa_cons pe_str pa_nil))) (by rfl)) (pss_one (ps_ret (pe_J JS hr (by decide) (by rfl) pass0 (pv 1)))) pss_nil)
    (pss_cons (ps_if (pt_cmpR op_eq (pv 0) pe_str (nomark _)) (pss_one (ps_ret (pe_J JR hr (by decide) (by rfl) pass0 (pv 1)))) pss_nil)
    (pss_cons (ps_if (pt_cmpR op_eq (pv 0) pe_str (nomark _)) (pss_one (ps_ret (pe_J JI hr (by decide) (by rfl) pass0 (pv 1)))) pss_nil)
    (pss_cons (ps_if (pt_cmpR op_eq (pv 0) pe_str (nomark _)) (pss_one (ps_ret (pe_J JP hr (by decide) (by rfl) pass0 (pv 1)))) pss_nil)
    (pss_cons (ps_if (pt_cmpR op_eq (pv 0) pe_str (nomark _)) (pss_one (ps_ret (pe_J JM hr (by decide) (by rfl) pass0 (pv 1)))) pss_nil)
    (pss_cons (ps_if (pt_cmpR op_eq (pv 0) pe_str (nomark _)) (pss_one (ps_ret (pe_Jw JA hr (by decide) (by rfl) pass0 (pv 1)))) pss_nil)
    (pss_cons (ps_if (pt_cmpR op_eq (pv 0) pe_str (nomark _)) (pss_one (ps_ret (pe_J JV hr (by decide) (by rfl) pass0 (pv 1)))) pss_nil)
    (pss_cons (ps_if (pt_cmpR op_eq (pv 0) pe_str (nomark _)) (pss_one (ps_ret (pe_and (pe_J JC hr (by decide) (by rfl) pass0 (pv 1)) (pe_one (pe_chain op_le op_le pe_int (pv 1) (pe_gi' (by rfl) N)))))) pss_nil)
    (pss_one (ps_ret (pe_call GL hr (by rfl) DL.g DL.F.kp DL.b .nil pass0 (pa_cons (pv 0) (pa_cons (pv 1) pa_nil))))))))))))))), ?_⟩
  unfold gPart at k
  refine q_when (b := inV (.str z) [.str "epoch", .str "talk", .str "size"]) (et_test (ev_opU (ev_var rfl) (eu_tup (ea_cons ev_c (ea_cons ev_c (ea_cons ev_c (ea_nil)))) (by show (3 : Nat) ≤ 100000; decide)) fun q H1 hq e1 => rv_inT (neg := false) (st_of hq) rfl rfl)) (fun q H20 e9 => ?_) (fun q0 H1 e1 => ?_)
  · rw [if_pos q] at k
    have e10 := ((Ex.refl H)).trans e9
    exact s_ret (ev_J (ev_var rfl) (ex_at e10 hat) fi) fun H21 e11 => k H21 (e10.trans e11)
  rw [if_neg (by rw [q0]; decide)] at k
  have E1 := ((Ex.refl H)).trans e1
  refine q_when (b := eqZ z "name") (et_test (ev_op (ev_var rfl) ev_c (rv_eq rfl))) (fun q H20 e9 => ?_) (fun q1 H2 e2 => ?_)
  · rw [if_pos q] at k
    have e10 := (E1).trans e9
    exact s_ret (ev_J (ev_var rfl) (ex_at e10 hat) fi) fun H21 e11 => k H21 (e10.trans e11)
  rw [if_neg (by rw [q1]; decide)] at k
  have E2 := (E1).trans e2
  refine q_when (b := eqZ z "hand") (et_test (ev_op (ev_var rfl) ev_c (rv_eq rfl))) (fun q H20 e9 => ?_) (fun q2 H3 e3 => ?_)
  · rw [if_pos q] at k
    have e10 := (E2).trans e9
    exact s_ret (ev_J (ev_var rfl) (ex_at e10 hat) fi) fun H21 e11 => k H21 (e10.trans e11)
  rw [if_neg (by rw [q2]; decide)] at k
  have E3 := (E2).trans e3
  refine q_when (b := inV (.str z) [.str "stamp", .str "ballot"]) (et_test (ev_opU (ev_var rfl) (eu_tup (ea_cons ev_c (ea_cons ev_c (ea_nil))) (by show (2 : Nat) ≤ 100000; decide)) fun q H1 hq e1 => rv_inT (neg := false) (st_of hq) rfl rfl)) (fun q H20 e9 => ?_) (fun q3 H4 e4 => ?_)
  · rw [if_pos q] at k
    have e10 := (E3).trans e9
    exact s_ret (ev_J (ev_var rfl) (ex_at e10 hat) fi) fun H21 e11 => k H21 (e10.trans e11)
  rw [if_neg (by rw [q3]; decide)] at k
  have E4 := (E3).trans e4
  refine q_when (b := eqZ z "row") (et_test (ev_op (ev_var rfl) ev_c (rv_eq rfl))) (fun q H20 e9 => ?_) (fun q4 H5 e5 => ?_)
  · rw [if_pos q] at k
    have e10 := (E4).trans e9
    exact s_ret (ev_J (ev_var rfl) (ex_at e10 hat) fi) fun H21 e11 => k H21 (e10.trans e11)
  rw [if_neg (by rw [q4]; decide)] at k
  have E5 := (E4).trans e5
  refine q_when (b := eqZ z "id") (et_test (ev_op (ev_var rfl) ev_c (rv_eq rfl))) (fun q H20 e9 => ?_) (fun q5 H6 e6 => ?_)
  · rw [if_pos q] at k
    have e10 := (E5).trans e9
    exact s_ret (ev_J (ev_var rfl) (ex_at e10 hat) fi) fun H21 e11 => k H21 (e10.trans e11)
  rw [if_neg (by rw [q5]; decide)] at k
  have E6 := (E5).trans e6
  refine q_when (b := eqZ z "piece") (et_test (ev_op (ev_var rfl) ev_c (rv_eq rfl))) (fun q H20 e9 => ?_) (fun q6 H7 e7 => ?_)
  · rw [if_pos q] at k
    have e10 := (E6).trans e9
    exact s_ret (ev_J (ev_var rfl) (ex_at e10 hat) fi) fun H21 e11 => k H21 (e10.trans e11)
  rw [if_neg (by rw [q6]; decide)] at k
  have E7 := (E6).trans e7
  refine q_when (b := eqZ z "members") (et_test (ev_op (ev_var rfl) ev_c (rv_eq rfl))) (fun q H20 e9 => ?_) (fun q7 H8 e8 => ?_)
  · rw [if_pos q] at k
    have e10 := (E7).trans e9
    exact s_ret (ev_J (ev_var rfl) (ex_at e10 hat) fi) fun H21 e11 => k H21 (e10.trans e11)
  rw [if_neg (by rw [q7]; decide)] at k
  have E8 := (E7).trans e8
  refine q_when (b := eqZ z "ahead") (et_test (ev_op (ev_var rfl) ev_c (rv_eq rfl))) (fun q H20 e9 => ?_) (fun q8 H9 e9 => ?_)
  · rw [if_pos q] at k
    have e10 := (E8).trans e9
    exact s_ret (ev_Jw (ev_var rfl) (ex_at e10 hat) fi trivial (hw.imp fun o z => e10 _ _ z)) fun H21 e11 => k H21 (e10.trans e11)
  rw [if_neg (by rw [q8]; decide)] at k
  have E9 := (E8).trans e9
  refine q_when (b := eqZ z "voted") (et_test (ev_op (ev_var rfl) ev_c (rv_eq rfl))) (fun q H20 e9 => ?_) (fun q9 H10 e10 => ?_)
  · rw [if_pos q] at k
    have e10 := (E9).trans e9
    exact s_ret (ev_J (ev_var rfl) (ex_at e10 hat) fi) fun H21 e11 => k H21 (e10.trans e11)
  rw [if_neg (by rw [q9]; decide)] at k
  have E10 := (E9).trans e10
  refine q_when (b := eqZ z "many") (et_test (ev_op (ev_var rfl) ev_c (rv_eq rfl))) (fun q H20 e9 => ?_) (fun q10 H11 e11 => ?_)
  · rw [if_pos q] at k
    have e10 := E10.trans e9
    refine s_ret (ev_andV (b := gMany u) (ev_J (ev_var rfl) (ex_at e10 hat) fi) fun q2 => ?_) fun H21 e11 => ?_
    · cases u with
      | int i =>
        cases at_int (ex_at e10 hat)
        exact ev_chain ev_c (ev_var rfl) ev_c rv_I0 fun _ => rv_I0
      | _ => cases q2
    · have e3 : (gCnt u && gMany u) = gMany u := by
        cases u with
        | int i =>
          show (decide (0 ≤ i) && (decide (1 ≤ i) && decide (i ≤ 64))) = (decide (1 ≤ i) && decide (i ≤ 64))
          by_cases h : 1 ≤ i
          · rw [decide_eq_true h, decide_eq_true (show 0 ≤ i by omega)]
            rfl
          · rw [decide_eq_false h, Bool.false_and, Bool.and_false]
        | _ => rfl
      rw [e3]
      exact k H21 (e10.trans e11)
  rw [if_neg (by rw [q10]; decide)] at k
  have E11 := E10.trans e11
  exact s_ret (ev_call (ea_cons (ev_var rfl) (ea_cons (ev_var rfl) ea_nil)) fun G eg Q q E => ⟨z, v, u, w, rfl, ex_at (E11.trans eg) hat, fi, hs, hw.imp fun o z => (E11.trans eg) _ _ z, q⟩) fun H21 e12 => k H21 (E11.trans e12)
end
end Hs
/-! parts by their kinds -/
namespace Hs
open PySem PySem.Spec PyProof.Rows L2 Hu Evl
section
variable {P : Program} {wd : World} {K : PySem.W.Frag} {mg : Str → Option Value} {base : Heap} {C : Addr}
theorem ev_allZipG {σ : L2.St} {H : Hp} {ta tb te : TE} {a b : Addr} {xs ys : List V} {i j : Nat} {vs : List Nat} {g : Nat → Bool} (ha : Ev ta σ H (.ref a)) (hb : Ev tb σ H (.ref b)) (hx : ∀ G, Ex H G → SqT K G a xs) (hy : ∀ G, Ex H G → SqT K G b ys) (hl : xs.length = ys.length) (hz : xs.length ≤ 40000)
    (hw : ∀ x y, wipe (((wipe σ vs).set i (some x)).set j (some y)) vs = wipe σ vs) (he : ∀ (n : Nat) (x y : V), xs[n]? = some x → ys[n]? = some y → Ev te (((wipe σ vs).set i (some x)).set j (some y)) H (.bl (g n))) :
    Ev (tCB (rAll K) (tCons (tLc (RZ.iZipA K (tCons ta (tCons tb tNil))) (gTup K 2 (gCons (gName i) (gCons (gName j) gNil))) tYes te vs) tNil)) σ H (.bl ((List.range xs.length).all g)) := by
  have main : EvL (tLc (RZ.iZipA K (tCons ta (tCons tb tNil))) (gTup K 2 (gCons (gName i) (gCons (gName j) gNil))) tYes te vs) σ H ((List.range xs.length).map fun n => V.bl (g n)) := fun H0 e Q q =>
    ha H0 e _ fun Ha ea => hb Ha (e.trans ea) _ fun H1 eb => by
      have e1 := ea.trans eb
      have E1 := e.trans e1
      refine ⟨a, b, xs, ys, rfl, .inr ⟨hx _ E1, hy _ E1, fun Dl hD => ?_⟩⟩
      refine lc_it (walk_zipT hl) (fun k H' => Ex H1 H' ∧ H' Dl = some (.lst ((List.range k).map fun n => V.bl (g n)))) ⟨Ex.new hD, upd_same⟩ (fun k H' _ p => ⟨hx _ (E1.trans p.1), hy _ (E1.trans p.1)⟩) ?_ ?_
      · rintro k x H2 H2' hk ⟨p1, p2⟩ ⟨T, x1, y1, rfl, hT, rfl, hx1, hy1⟩
        have eT : Ex H2 (upd H2 T (.tup [x1, y1])) := Ex.new hT
        refine ⟨T, _, rfl, st_of upd_same, rfl, x1, _, rfl, y1, _, rfl, rfl, hw _ _, ?_⟩
        refine et_yes _ (Ex.refl _) _ fun H3 e3 => ?_
        rw [if_pos rfl]
        refine he k x1 y1 hx1 hy1 _ ((E1.trans p1).trans (eT.trans e3)) _ fun H4 e4 => ⟨_, e4 _ _ (e3 _ _ (eT _ _ p2)), ?_, Ex.mut (((p1.trans eT).trans e3).trans e4) hD, ?_⟩
        · rw [List.length_map, List.length_range]
          exact sz_lt (by omega)
        · rw [upd_same, List.range_succ, List.map_append]
          rfl
      · rintro H' ⟨p1, p2⟩
        exact q Dl H' (fresh_back e1 hD) (e1.trans p1) p2
  refine ev_cb1 main fun p H2 h2 e2 Q q => ⟨p, (List.range xs.length).map g, rfl, sq_of ?_, ?_⟩
  · rw [h2, List.map_map]
    rfl
  · have : ((List.range xs.length).map g).all id = (List.range xs.length).all g := by
      rw [List.all_map]
      rfl
    rw [this]
    exact q H2 (Ex.refl H2)
def partsAll (zs : List Str) (us : List U) : Bool := (List.range zs.length).all fun n => gPart (zs.getD n ⟨#[]⟩) (us.getD n .non)
def gParts (zs : List Str) (us : List U) : Bool := decide (us.length = zs.length) && partsAll zs us
def spPks (K : PySem.W.Frag) (C : Addr) : Sp := fun vs H Q _ => ∃ (p : Addr) (zs : List Str) (v : V) (us : List U) (w : Addr), vs = [.ref p, v] ∧ TupK K p zs ∧ At w C H v (.tup us) ∧ Fine (.tup us) ∧ Sm (.tup us) ∧ zs.length ≤ 1000 ∧ (∃ o, H w = some o) ∧ ∀ H', Same H H' → Q (.bl (gParts zs us)) H'
theorem scPartsK : FnScope ["kinds", "things", "kind", "thing"] ["kinds", "things"] (defScope sPartsK) := ⟨rfl, rfl, rfl, by decide +kernel, rfl, by decide +kernel, by decide +kernel⟩
theorem Sm.memK {us : List U} {u : U} (h : Sm (.tup us)) (hu : u ∈ us) : Sm u := by
  have h1 := wt_mem hu
  have h2 : wt (.tup us) ≤ 160000 := h
  simp only [wt] at h2
  show wt u ≤ 160000
  omega
theorem ok_partsK {f f1 : Addr} {fd d1 : FuncData} (D : Df K mg "are_parts" sPartsK ["kinds", "things"] f fd) (B : Bt mg) (hZ : mg "zip" = none) (D1 : Df K mg "is_part" sPartK ["kind", "thing"] f1 d1) (G : FnOk P wd K mg base CX0 8 f1 d1 ["kind", "thing"] (spPk C gPart)) : FnOk P wd K mg base CX0 9 f fd ["kinds", "things"] (spPks K C) := by
  refine D.F.ok scPartsK (fun vs H Q E h => ?_) (fun cdv A outer s H vs Q E hr h => ?_)
  · obtain ⟨p, zs, v, us, w, rfl, _⟩ := h
    rfl
  obtain ⟨p, zs, v, us, w, rfl, hp, hat, fi, hs, hz, hw, k⟩ := h
  refine ⟨_, pss_cons (ps_if (pt_cmpR op_ne (pe_callB call_len_seq (by rfl) B.len PySem.boot_len (pa_cons (pv 1) pa_nil)) (pe_callB call_len_seq (by rfl) B.len PySem.boot_len (pa_cons (pv 0) pa_nil)) (nomark _)) (pss_one (ps_ret pe_bl)) pss_nil)
    (pss_one (ps_ret (pe_callB (cr_all rfl) (by rfl) B.all boot_all' (pa_cons (pe_lc (own := [("kind", 2), ("thing", 3)]) (g := gTup K 2 (gCons (gName 2) (gCons (gName 3) gNil))) (tt := tYes) rfl scPartsK.nd (RZ.pi_zipA (by rfl) hZ (pa_cons (pv 0) (pa_cons (pv 1) pa_nil))) (blkOk_by (N := ["kinds", "things", "kind", "thing"]) (sc := defScope sPartsK) (by decide +kernel))
      (fun _ _ _ _ _ => pg_tup rfl (pgs_cons (pg_name (i := 2) scPartsK.nd rfl (Or.inl rfl)) (pgs_cons (pg_name (i := 3) scPartsK.nd rfl (Or.inl rfl)) pgs_nil))) (fun _ _ _ _ _ => pts_nil) (fun _ _ _ _ _ => pe_call G hr (by rfl) D1.g D1.F.kp D1.b .nil pass0 (pa_cons (pv 2) (pa_cons (pv 3) pa_nil)))) pa_nil)))), ?_⟩
  obtain ⟨a, xs, rfl, ha, _, hlx⟩ := at_tup hat
  have lx := AtL.length hlx
  have lenP : Ev (tCB (rLenQ K) (tCons (tVar 0) tNil)) [some (.ref p), some (.ref a), none, none] H (.int ((zs.map V.str).length : Int)) := ev_cb (ea_cons (ev_var rfl) ea_nil) fun H1 e Q q => ⟨p, _, rfl, .inr (hp H1), q H1 (Ex.refl H1)⟩
  refine q_when (b := !decide (us.length = zs.length)) (et_test (ev_is (ev_op (ev_lenTU (K := K) (ev_var rfl) ha hlx) lenP (rv_ne rfl)) ?_)) (fun q H1 e => ?_) (fun q H1 e => ?_)
  · rw [List.length_map, dec_eq]
  · refine s_ret ev_c fun H2 e2 => ?_
    have e3 : gParts zs us = false := by
      unfold gParts
      rw [Bool.not_eq_true'] at q
      rw [q]
      rfl
    rw [← e3]
    exact k H2 (e.trans e2)
  · rw [Bool.not_eq_false'] at q
    have hl := of_decide_eq_true q
    have e3 : gParts zs us = (List.range (zs.map V.str).length).all fun n => gPart (zs.getD n ⟨#[]⟩) (us.getD n .non) := by
      unfold gParts partsAll
      rw [q, List.length_map, Bool.true_and]
    rw [e3] at k
    refine s_ret (ev_allZipG (xs := zs.map V.str) (ys := xs) (ev_var rfl) (ev_var rfl) (fun G _ => hp G) (fun G eg => Tu.st (Tu.ex eg (Tu.ex e ha))) (by rw [List.length_map, lx, hl]) (by rw [List.length_map]; omega) (fun _ _ => rfl) fun n x y hx hy => ?_) fun H2 e2 => k H2 (e.trans e2)
    rw [List.getElem?_map] at hx
    cases hz1 : zs[n]? with
    | none => rw [hz1] at hx; cases hx
    | some z =>
      rw [hz1] at hx
      cases hx
      have hn : n < us.length := by
        have := (List.getElem?_eq_some_iff.mp hz1).1
        omega
      obtain ⟨y', hy', ay⟩ := AtL.get hlx (List.getElem?_eq_getElem hn)
      rw [hy] at hy'
      cases hy'
      have g1 : zs.getD n ⟨#[]⟩ = z := getD_some hz1
      have g2 : us.getD n .non = us[n] := getD_some (List.getElem?_eq_getElem hn)
      rw [g1, g2]
      have hm := List.getElem_mem hn
      exact ev_call (ea_cons (ev_var rfl) (ea_cons (ev_var rfl) ea_nil)) fun G eg Q q E => ⟨z, y, us[n], w, rfl, ex_at (e.trans eg) ay, fi.tup _ hm, hs.memK hm, hw.imp fun o z => (e.trans eg) _ _ z, q⟩
end
end Hs
/-! the words of letters, looked up in the text's dicts -/
namespace Hs
open PySem PySem.Spec PyProof.Rows L2 Hu Evl
/-- entries of a dict: words with the kinds of their parts -/
inductive Rws (K : PySem.W.Frag) : List DictEntry → List (Str × List Str) → Prop
  | nil : Rws K [] []
  | cons {e : DictEntry} {z : Str} {t : Tok} {p : Addr} {ks : List Str} {es : List DictEntry} {tab : List (Str × List Str)} : e.key = .str z t → e.val = .ref p → TupK K p ks → Rws K es tab → Rws K (e :: es) ((z, ks) :: tab)
def tabOf : List (Str × List Str) → Str → Option (List Str)
  | [], _ => none
  | r :: l, z => if r.1 = z then some r.2 else tabOf l z
theorem Rws.find {K : PySem.W.Frag} {es : List DictEntry} {tab : List (Str × List Str)} (h : Rws K es tab) (z : Str) :
    (∀ ks, tabOf tab z = some ks → ∃ e p, es.find? (·.key.isStr z) = some e ∧ e.val = .ref p ∧ TupK K p ks) ∧ (tabOf tab z = none → es.find? (·.key.isStr z) = none) ∧ es.any (·.refKey) = false := by
  induction h with
  | nil => exact ⟨fun ks e => (by cases e), fun _ => rfl, rfl⟩
  | @cons e y t p ks es tab hk hv hp _ ih =>
    obtain ⟨i1, i2, i3⟩ := ih
    have hr : e.refKey = false := by
      unfold DictEntry.refKey
      rw [hk]
    have hi : e.key.isStr z = decide (y = z) := by
      rw [hk, PySem.W.isStr_of]
      show (y == z) = decide (y = z)
      rw [Bool.eq_iff_iff]
      simp
    refine ⟨fun ls h => ?_, fun h => ?_, by rw [List.any_cons, hr, i3]; rfl⟩
    · have h' : (if y = z then some ks else tabOf tab z) = some ls := h
      by_cases q : y = z
      · rw [if_pos q] at h'
        cases h'
        exact ⟨e, p, List.find?_cons_of_pos (by rw [hi]; exact decide_eq_true q), hv, hp⟩
      · rw [if_neg q] at h'
        obtain ⟨e2, p2, h1, h2, h3⟩ := i1 ls h'
        exact ⟨e2, p2, by rw [List.find?_cons_of_neg (by rw [hi]; simpa using q)]; exact h1, h2, h3⟩
    · have h' : (if y = z then some ks else tabOf tab z) = none := h
      by_cases q : y = z
      · rw [if_pos q] at h'
        cases h'
      · rw [if_neg q] at h'
        rw [List.find?_cons_of_neg (by rw [hi]; simpa using q)]
        exact i2 h'
structure KTab (K : PySem.W.Frag) (w : World) (mg : Str → Option Value) (x : Str) (tab : List (Str × List Str)) (a : Addr) (es : Array DictEntry) (n : Nat) : Prop where
  g : mg x = some (.ref a)
  kd : KDict K w a es n
  r : Rws K es.toList tab
theorem KTab.ns {K : PySem.W.Frag} {w : World} {mg : Str → Option Value} {x : Str} {tab : List (Str × List Str)} {a : Addr} {es : Array DictEntry} {n : Nat} (h : KTab K w mg x tab a es n) (z : Str) :
    (∀ ks, tabOf tab z = some ks → ∃ p, PySem.W.nsIn K a z = some (some (.ref p)) ∧ TupK K p ks) ∧ (tabOf tab z = none → PySem.W.nsIn K a z = some none) := by
  obtain ⟨i1, i2, i3⟩ := h.r.find z
  refine ⟨fun ks q => ?_, fun q => ?_⟩
  · obtain ⟨e, p, h1, h2, h3⟩ := i1 ks q
    refine ⟨p, ?_, h3⟩
    unfold PySem.W.nsIn
    rw [h.kd.at_]
    dsimp only
    rw [h1]
    dsimp only
    rw [h2]
  · unfold PySem.W.nsIn
    rw [h.kd.at_]
    dsimp only
    rw [i2 q]
    dsimp only
    rw [i3]
    rfl
end Hs
/-! letters -/
namespace Hs
open PySem PySem.Spec PyProof.Rows L2 Hu Evl
section
variable {P : Program} {wd : World} {K : PySem.W.Frag} {mg : Str → Option Value} {base : Heap} {C : Addr}
def lookT (tab : List (Str × List Str)) (z : Str) (us : List U) : Bool := match tabOf tab z with | some ks => gParts ks us | none => false
end
end Hs
/-! is_deed of any value -/
namespace Hs
open PySem PySem.Spec PyProof.Rows L2 Hu Evl
open Hk (SI ltSI)
def gDeed (tab : List (Str × List Str)) (u : U) : Bool := match u with
  | .tup (.str z :: us) => if z = "stand" then (match us with | [t] => gTable t | _ => false) else lookT tab z us
  | _ => false
section
variable {σ : L2.St} {H : Hp} {te : TE} {ta : TA} {Q : VK} {sp : Sp} {E : XK} {R2 : List V → Hp → Prop}
theorem call1X (h : ta σ H fun vs H1 => sp (vs ++ []) H1 Q E) : tCall sp [] E ta σ H Q := h
theorem cons1 (h : te σ H fun v H1 => ta σ H1 fun vs H2 => R2 (v :: vs) H2) : tCons te ta σ H R2 := h
end
section
variable {P : Program} {wd : World} {K : PySem.W.Frag} {mg : Str → Option Value} {base : Heap} {C : Addr}
theorem tab_len {tab : List (Str × List Str)} {z : Str} {ks : List Str} (hl : ∀ r ∈ tab, r.2.length ≤ 1000) (h : tabOf tab z = some ks) : ks.length ≤ 1000 := by
  induction tab with
  | nil => cases h
  | cons r l ih =>
    have h' : (if r.1 = z then some r.2 else tabOf l z) = some ks := h
    by_cases c : r.1 = z
    · rw [if_pos c] at h'
      cases h'
      exact hl r (by simp)
    · rw [if_neg c] at h'
      exact ih (fun x hx => hl x (List.mem_cons_of_mem _ hx)) h'
theorem scDeed5 : FnScope ["thing"] ["thing"] (defScope sDeed) := ⟨rfl, rfl, rfl, by decide +kernel, rfl, by decide +kernel, by decide +kernel⟩
theorem jw_deed {f f1 f2 a : Addr} {fd d1 d2 : FuncData} {tab : List (Str × List Str)} {es : Array DictEntry} {n : Nat} (D : Df K mg "is_deed" sDeed ["thing"] f fd) (S : Bs K mg C) (T : KTab K wd mg "DEEDS" tab a es n) (tz : ∀ r ∈ tab, r.2.length ≤ 1000) (JT : Jw P wd K mg base C 8 "is_table" "thing" f1 d1 Sm gTable)
    (D2 : Df K mg "are_parts" sPartsK ["kinds", "things"] f2 d2) (G : FnOk P wd K mg base CX0 9 f2 d2 ["kinds", "things"] (spPks K C)) : Jw P wd K mg base C 10 "is_deed" "thing" f fd Sm (gDeed tab) := by
  refine ⟨D.F.ok scDeed5 lenJw (fun cdv A outer s H vs Q E hr h => ?_), D.g, D.F.kp, D.b⟩
  obtain ⟨v, u, w, rfl, hat, fi, hs, hw, k⟩ := h
  refine ⟨_, pss_cons (ps_if (PW.pt (pw_or (pt_not (pt_val (pe_isiX S (by rfl) (by rfl) S.B.tup boot_tuple' (by decide) (pv 0) (by decide) (by decide)))) (pw_or (pt_cmpR (op_eqN (room_hu hr)) (pv 0) (pe_tup pa_nil) (nomark _)) (pw_or1 (pt_not (pt_val (pe_isiX S (by rfl) (by rfl) S.B.str boot_str (by decide) (pe_ix ix_tup (pv 0) pe_int (fun _ _ => rfl)) (by decide) (by decide)))))))) (pss_one (ps_ret pe_bl)) pss_nil)
    (pss_cons (ps_if (pt_cmpR op_eq (pe_ix ix_tup (pv 0) pe_int (fun _ _ => rfl)) pe_str (nomark _)) (pss_one (ps_ret (pe_and (pe_cmpR op_eq (pe_callB call_len_seq (by rfl) S.B.len PySem.boot_len (pa_cons (pv 0) pa_nil)) pe_int (nomark _)) (pe_one (pe_Jw JT hr (by decide) (by rfl) pass0 (pe_ix ix_tup (pv 0) pe_int (fun _ _ => rfl))))))) pss_nil)
    (pss_one (ps_ret (pe_and (pe_cmpR (op_in_kd T.kd) (pe_ix ix_tup (pv 0) pe_int (fun _ _ => rfl)) (pe_glob (v := .ref a) (by rfl) T.g rfl) (by rfl)) (pe_one (pe_call G hr (by rfl) D2.g D2.F.kp D2.b .nil pass0 (pa_cons (pe_ix ix_kdict (pe_glob (v := .ref a) (by rfl) T.g rfl) (pe_ix ix_tup (pv 0) pe_int (fun _ _ => rfl)) (fun _ _ => rfl)) (pa_cons (pe_slice sl_tupF (pv 0) (po_some pe_int) po_none) pa_nil)))))))), ?_⟩
  have bad : gDeed tab u = false → ∀ H1 H2, Ex H H1 → Ex H1 H2 → Q (.bl false) H2 := fun g H1 H2 e e2 => by
    rw [g] at k
    exact k H2 (e.trans e2)
  by_cases hT' : isT u "tuple" = false
  · refine q_when (b := true) (et_is (et_or (b := true) (et_not (et_B (ev_isi (ev_var rfl) hat))) fun q => absurd q (by rw [hT']; decide)) (by rw [hT']; rfl)) (fun _ H1 e => s_ret ev_c fun H2 e2 => bad ?_ H1 H2 e e2) (fun q => by cases q)
    cases u with
    | tup us => simp [isT, isS, tyU] at hT'
    | _ => rfl
  have hT : isT u "tuple" = true := by simpa using hT'
  obtain ⟨us, rfl⟩ := isT_tup hT
  obtain ⟨x, xs, rfl, hx, nx, hl⟩ := at_tup hat
  cases us with
  | nil =>
    refine q_when (b := true) (et_is (et_or (et_not (et_B (ev_isi (ev_var rfl) hat))) fun _ => et_or (b := true) (et_test (ev_opU (ev_var rfl) (eu_tup ea_nil (by decide)) fun q H1 hq e1 => rv_eqN ((nc_at S.q hat).ex e1) hq)) fun q => absurd q (by decide)) (by simp [isT, isS, tyU, nilU])) (fun _ H1 e => s_ret ev_c fun H2 e2 => bad rfl H1 H2 e e2) (fun q => by cases q)
  | cons u0 ur =>
    cases hl with
    | @cons x0 _ xr _ h0 hr0 =>
    have i0 : ∀ {G : Hp}, Ex H G → Ev (tOp (rIxT K) (tVar 0) (tC (.int 0))) [some (.ref x)] G x0 := fun e => ev_ixT (K := K) (j := 0) (ev_var rfl) (Tu.ex e hx) rfl
    refine q_when (b := !isT u0 "str") (et_is (et_or (et_not (et_B (ev_isi (ev_var rfl) hat))) fun _ => et_or (et_test (ev_opU (ev_var rfl) (eu_tup ea_nil (by decide)) fun q H1 hq e1 => rv_eqN ((nc_at S.q hat).ex e1) hq)) fun _ => et_not (et_B (ev_isi (i0 (Ex.refl H)) h0))) (by simp [isT, isS, tyU, nilU])) (fun q H1 e => s_ret ev_c fun H2 e2 => bad ?_ H1 H2 e e2) (fun q H1 e => ?_)
    · cases u0 with
      | str z => simp [isT, isS, tyU] at q
      | _ => rfl
    rw [Bool.not_eq_false'] at q
    obtain ⟨z, rfl⟩ := isT_str q
    cases at_str h0
    have fr : Fine (.tup ur) := by
      have w1 := fi.w
      have c1 := fi.c
      simp only [wt, wtL] at w1
      refine ⟨by simp only [wt]; omega, ?_⟩
      simp only [clean, cleanL] at c1 ⊢
      exact c1.2
    have sr : Sm (.tup ur) := by
      have h2 : wt (.tup (.str z :: ur)) ≤ 160000 := hs
      simp only [wt, wtL] at h2
      show wt (.tup ur) ≤ 160000
      simp only [wt]
      omega
    refine q_when (b := decide (z = "stand")) (et_test (ev_is (ev_op (i0 e) ev_c (rv_eq rfl)) ?_)) (fun q2 H2 e2 => ?_) (fun q2 H2 e2 => ?_)
    · have : ∀ y : Str, decide (V.str z = V.str y) = decide (z = y) := fun y => decide_eq_decide.mpr ⟨fun h => V.str.inj h, fun h => by rw [h]⟩
      rw [this]
    · have q3 := of_decide_eq_true q2
      subst q3
      have e12 := e.trans e2
      cases hr0 with
      | nil =>
        refine s_ret (ev_andV (a := false) (b := true) (ev_is (ev_op (ev_lenT (K := K) (ev_var rfl) (Tu.ex e12 hx)) ev_c (rv_eq rfl)) (by decide)) fun q => Bool.noConfusion q) fun H3 e3 => bad rfl H2 H3 e12 e3
      | @cons y1 t xr ur h1 hr1 =>
        cases hr1 with
        | nil =>
          have g : gDeed tab (.tup [.str "stand", t]) = (true && gTable t) := rfl
          rw [g] at k
          exact s_ret (ev_andV (ev_is (ev_op (ev_lenT (K := K) (ev_var rfl) (Tu.ex e12 hx)) ev_c (rv_eq rfl)) (congrArg V.bl (decide_eq_true rfl))) fun _ => ev_Jw (ev_ixT (K := K) (j := 1) (ev_var rfl) (Tu.ex e12 hx) rfl) (ex_at e12 h1) (fi.tup t (by simp)) (hs.memK (by simp)) (hw.imp fun o z => e12 _ _ z)) fun H3 e3 => k H3 (e12.trans e3)
        | @cons y2 t2 xr ur h2 hr2 =>
          have lz := AtL.length hr2
          refine s_ret (ev_andV (a := false) (b := true) (ev_is (ev_op (ev_lenT (K := K) (ev_var rfl) (Tu.ex e12 hx)) ev_c (rv_eq rfl)) ?_) fun q => Bool.noConfusion q) fun H3 e3 => bad rfl H2 H3 e12 e3
          exact congrArg V.bl (decide_eq_false fun h => by
            have := V.int.inj h
            simp only [List.length_cons] at this
            omega)
    · have q3 := of_decide_eq_false q2
      have e12 := e.trans e2
      have g : gDeed tab (.tup (.str z :: ur)) = lookT tab z ur := if_neg q3
      rw [g] at k
      obtain ⟨n1, n2⟩ := T.ns z
      cases c : tabOf tab z with
      | none =>
        have e9 : lookT tab z ur = false := by unfold lookT; rw [c]
        rw [e9] at k
        exact s_ret (ev_andV (a := false) (b := true) (ev_op (i0 e12) ev_c fun G1 e Q f => ⟨z, none, rfl, rfl, n2 c, f G1 (Ex.refl G1)⟩) fun q => Bool.noConfusion q) fun H3 e3 => k H3 (e12.trans e3)
      | some ks =>
        obtain ⟨p, hp, tk⟩ := n1 ks c
        have e9 : lookT tab z ur = (true && gParts ks ur) := by unfold lookT; rw [c, Bool.true_and]
        rw [e9] at k
        refine s_ret (ev_andV (a := true) (b := gParts ks ur) (ev_op (i0 e12) ev_c fun G1 e Q f => ⟨z, some (.ref p), rfl, rfl, hp, f G1 (Ex.refl G1)⟩) fun _ => fun G eg Qf f => ?_) fun H3 e3 => k H3 (e12.trans e3)
        refine call1X ?_
        refine cons1 ?_
        refine (ev_op (ta := tC (.ref a)) ev_c (i0 (e12.trans eg)) fun G1 g1 Q f => ⟨a, z, .ref p, rfl, rfl, ⟨es, n, .ref p, T.kd.at_, T.kd.lit, hp, rfl⟩, f G1 (Ex.refl G1)⟩) G (Ex.refl G) _ fun G1 g1 => ?_
        refine cons1 ?_
        have E1 := (e12.trans eg).trans g1
        refine (ed_slice (K := K) (C := C) (w := w) (hw.imp fun o q => E1 _ _ q) (ev_var rfl) (Tu.ex E1 hx) nx (ex_atl E1 (.cons (.str _) hr0)) (eo_some ev_c) eo_none) G1 (Ex.refl G1) _ fun v2 G2 g2 a2 => ?_
        rw [cut_one] at a2
        exact ⟨p, ks, v2, ur, w, rfl, tk, a2, fr, sr, tab_len tz c, hw.imp fun o q => (E1.trans g2) _ _ q, fun G3 g3 => f G3 ((g1.trans g2).trans g3)⟩
end
end Hs
/-! the law's own judges of deeds, word by word -/
namespace Hs
open PySem PySem.Spec PyProof.Rows L2 Hu Evl
section
variable {P : Program} {wd : World} {K : PySem.W.Frag} {mg : Str → Option Value} {base : Heap} {C : Addr}
variable {σ : L2.St} {H : Hp} {te : TE} {v : V} {u : U} {w : Addr} {E : XK} {m k : Nat}
def addU (u : U) : U := match u with | .tup us => .tup (us ++ [.int 0]) | _ => u
end
section
variable {P : Program} {wd : World} {K : PySem.W.Frag} {mg : Str → Option Value} {base : Heap} {C : Addr}
def gRestL (z : Str) (u : U) : Bool := if eqZ z "install" = true then (if (!(gTO 5 u) || (!(gCount (nth u 0)) || (!(gMembers (nth u 1))))) = true then false else (gAhead (nth u 2) && (gHeads (nth u 3) && gBlocks (nth u 4)))) else if eqZ z "put" = true then gBlk u else if eqZ z "head" = true then (gTO 3 u && gH3 u) else if (eqZ z "lease" || eqZ z "free") = true then (gTO 3 u && gLease (addU u)) else if eqZ z "promise" = true then (gTO 1 u && gStamp (nth u 0)) else if eqZ z "vote" = true then gV2 u else if eqZ z "seal" = true then (gTO 1 u && gMembers (nth u 0)) else if eqZ z "stand" = true then (gTO 1 u && gTable (nth u 0)) else if eqZ z "mend" = true then (gTO 2 u && (gHeads (nth u 0) && gBlocks (nth u 1))) else (inV (.str z) [.str "tick", .str "collect", .str "rise"] && gTO 0 u)
end
end Hs
/-! the program's tables of words and the law's tests of words tell the same -/
namespace Hs
open PySem PySem.Spec PyProof.Rows L2 Hu Evl
def dT : List (Str × List Str) := [("install", ["epoch", "members", "ahead", "heads", "blocks"]), ("put", ["id", "piece"]), ("head", ["name", "stamp", "row"]), ("lease", ["name", "hand", "talk"]), ("free", ["name", "hand", "talk"]), ("promise", ["ballot"]), ("vote", ["ballot", "members"]), ("seal", ["members"]), ("tick", []), ("collect", []), ("rise", []), ("mend", ["heads", "blocks"])]
theorem gp_epoch (u : U) : gPart "epoch" u = gCnt u := by
  unfold gPart
  rw [if_pos (by decide +kernel)]
theorem gp_talk (u : U) : gPart "talk" u = gCnt u := by
  unfold gPart
  rw [if_pos (by decide +kernel)]
theorem gp_size (u : U) : gPart "size" u = gCnt u := by
  unfold gPart
  rw [if_pos (by decide +kernel)]
theorem gp_name (u : U) : gPart "name" u = gNam u := by
  unfold gPart
  rw [if_neg (by decide +kernel), if_pos (by decide +kernel)]
theorem gp_hand (u : U) : gPart "hand" u = gHand u := by
  unfold gPart
  rw [if_neg (by decide +kernel), if_neg (by decide +kernel), if_pos (by decide +kernel)]
theorem gp_stamp (u : U) : gPart "stamp" u = gStamp u := by
  unfold gPart
  rw [if_neg (by decide +kernel), if_neg (by decide +kernel), if_neg (by decide +kernel), if_pos (by decide +kernel)]
theorem gp_ballot (u : U) : gPart "ballot" u = gStamp u := by
  unfold gPart
  rw [if_neg (by decide +kernel), if_neg (by decide +kernel), if_neg (by decide +kernel), if_pos (by decide +kernel)]
theorem gp_row (u : U) : gPart "row" u = gRow u := by
  unfold gPart
  rw [if_neg (by decide +kernel), if_neg (by decide +kernel), if_neg (by decide +kernel), if_neg (by decide +kernel), if_pos (by decide +kernel)]
theorem gp_id (u : U) : gPart "id" u = gId u := by
  unfold gPart
  rw [if_neg (by decide +kernel), if_neg (by decide +kernel), if_neg (by decide +kernel), if_neg (by decide +kernel), if_neg (by decide +kernel), if_pos (by decide +kernel)]
theorem gp_piece (u : U) : gPart "piece" u = gPiece u := by
  unfold gPart
  rw [if_neg (by decide +kernel), if_neg (by decide +kernel), if_neg (by decide +kernel), if_neg (by decide +kernel), if_neg (by decide +kernel), if_neg (by decide +kernel), if_pos (by decide +kernel)]
theorem gp_members (u : U) : gPart "members" u = gMembers u := by
  unfold gPart
  rw [if_neg (by decide +kernel), if_neg (by decide +kernel), if_neg (by decide +kernel), if_neg (by decide +kernel), if_neg (by decide +kernel), if_neg (by decide +kernel), if_neg (by decide +kernel), if_pos (by decide +kernel)]
theorem gp_ahead (u : U) : gPart "ahead" u = gAhead u := by
  unfold gPart
  rw [if_neg (by decide +kernel), if_neg (by decide +kernel), if_neg (by decide +kernel), if_neg (by decide +kernel), if_neg (by decide +kernel), if_neg (by decide +kernel), if_neg (by decide +kernel), if_neg (by decide +kernel), if_pos (by decide +kernel)]
theorem gp_voted (u : U) : gPart "voted" u = gVote u := by
  unfold gPart
  rw [if_neg (by decide +kernel), if_neg (by decide +kernel), if_neg (by decide +kernel), if_neg (by decide +kernel), if_neg (by decide +kernel), if_neg (by decide +kernel), if_neg (by decide +kernel), if_neg (by decide +kernel), if_neg (by decide +kernel), if_pos (by decide +kernel)]
theorem gp_many (u : U) : gPart "many" u = gMany u := by
  unfold gPart
  rw [if_neg (by decide +kernel), if_neg (by decide +kernel), if_neg (by decide +kernel), if_neg (by decide +kernel), if_neg (by decide +kernel), if_neg (by decide +kernel), if_neg (by decide +kernel), if_neg (by decide +kernel), if_neg (by decide +kernel), if_neg (by decide +kernel), if_pos (by decide +kernel)]
theorem gp_heads (u : U) : gPart "heads" u = gHeads u := by
  unfold gPart
  rw [if_neg (by decide +kernel), if_neg (by decide +kernel), if_neg (by decide +kernel), if_neg (by decide +kernel), if_neg (by decide +kernel), if_neg (by decide +kernel), if_neg (by decide +kernel), if_neg (by decide +kernel), if_neg (by decide +kernel), if_neg (by decide +kernel), if_neg (by decide +kernel)]
  unfold gLot
  rw [if_pos (by decide +kernel)]
theorem gp_blocks (u : U) : gPart "blocks" u = gBlocks u := by
  unfold gPart
  rw [if_neg (by decide +kernel), if_neg (by decide +kernel), if_neg (by decide +kernel), if_neg (by decide +kernel), if_neg (by decide +kernel), if_neg (by decide +kernel), if_neg (by decide +kernel), if_neg (by decide +kernel), if_neg (by decide +kernel), if_neg (by decide +kernel), if_neg (by decide +kernel)]
  unfold gLot
  rw [if_neg (by decide +kernel), if_pos (by decide +kernel)]
theorem gp_names (u : U) : gPart "names" u = gNames u := by
  unfold gPart
  rw [if_neg (by decide +kernel), if_neg (by decide +kernel), if_neg (by decide +kernel), if_neg (by decide +kernel), if_neg (by decide +kernel), if_neg (by decide +kernel), if_neg (by decide +kernel), if_neg (by decide +kernel), if_neg (by decide +kernel), if_neg (by decide +kernel), if_neg (by decide +kernel)]
  unfold gLot
  rw [if_neg (by decide +kernel), if_neg (by decide +kernel), if_pos (by decide +kernel)]
theorem gp_ids (u : U) : gPart "ids" u = gIds u := by
  unfold gPart
  rw [if_neg (by decide +kernel), if_neg (by decide +kernel), if_neg (by decide +kernel), if_neg (by decide +kernel), if_neg (by decide +kernel), if_neg (by decide +kernel), if_neg (by decide +kernel), if_neg (by decide +kernel), if_neg (by decide +kernel), if_neg (by decide +kernel), if_neg (by decide +kernel)]
  unfold gLot
  rw [if_neg (by decide +kernel), if_neg (by decide +kernel), if_neg (by decide +kernel), if_pos (by decide +kernel)]
theorem gp_sums (u : U) : gPart "sums" u = gCounts 64 u := by
  unfold gPart
  rw [if_neg (by decide +kernel), if_neg (by decide +kernel), if_neg (by decide +kernel), if_neg (by decide +kernel), if_neg (by decide +kernel), if_neg (by decide +kernel), if_neg (by decide +kernel), if_neg (by decide +kernel), if_neg (by decide +kernel), if_neg (by decide +kernel), if_neg (by decide +kernel)]
  unfold gLot
  rw [if_neg (by decide +kernel), if_neg (by decide +kernel), if_neg (by decide +kernel), if_neg (by decide +kernel), if_pos (by decide +kernel)]
theorem gp_factor (u : U) : gPart "factor" u = gCounts 65 u := by
  unfold gPart
  rw [if_neg (by decide +kernel), if_neg (by decide +kernel), if_neg (by decide +kernel), if_neg (by decide +kernel), if_neg (by decide +kernel), if_neg (by decide +kernel), if_neg (by decide +kernel), if_neg (by decide +kernel), if_neg (by decide +kernel), if_neg (by decide +kernel), if_neg (by decide +kernel)]
  unfold gLot
  rw [if_neg (by decide +kernel), if_neg (by decide +kernel), if_neg (by decide +kernel), if_neg (by decide +kernel), if_neg (by decide +kernel)]
  have : eqZ "factor" "factor" = true := by decide +kernel
  rw [this, Bool.true_and]
theorem gParts_cons (a : Str) (as : List Str) (u : U) (us : List U) : gParts (a :: as) (u :: us) = (gPart a u && gParts as us) := by
  unfold gParts partsAll
  simp only [List.length_cons, List.range_succ_eq_map, List.all_cons, List.all_map, List.getD_cons_zero]
  have : (decide (us.length + 1 = as.length + 1) : Bool) = decide (us.length = as.length) := by simp
  rw [this, ← Bool.and_assoc, Bool.and_comm (decide _), Bool.and_assoc]
  congr 1
theorem gParts_nn : gParts [] [] = true := rfl
theorem gParts_nc (u : U) (us : List U) : gParts [] (u :: us) = false := by
  unfold gParts
  simp
theorem gParts_cn (a : Str) (as : List Str) : gParts (a :: as) [] = false := by
  unfold gParts
  simp
theorem gps0 (rs : List U) : gParts [] rs = gTO 0 (.tup rs) := by
  cases rs with
  | nil => rfl
  | cons a r => rw [gParts_nc]; rfl
theorem gps1 (a : Str) (rs : List U) : gParts [a] rs = (gTO 1 (.tup rs) && gPart a (nth (.tup rs) 0)) := by
  match rs with
  | [] => rw [gParts_cn]; rfl
  | [x] => rw [gParts_cons, gParts_nn, Bool.and_true]; exact (Bool.true_and _).symm
  | x :: y :: r =>
    rw [gParts_cons, gParts_nc, Bool.and_false]
    have : gTO 1 (.tup (x :: y :: r)) = false := by simp [gTO, tv]
    rw [this, Bool.false_and]
theorem gps2 (a b : Str) (rs : List U) : gParts [a, b] rs = (gTO 2 (.tup rs) && (gPart a (nth (.tup rs) 0) && gPart b (nth (.tup rs) 1))) := by
  match rs with
  | [] => rw [gParts_cn]; rfl
  | [x] =>
    rw [gParts_cons, gParts_cn, Bool.and_false]
    have : gTO 2 (.tup [x]) = false := by simp [gTO, tv]
    rw [this, Bool.false_and]
  | [x, y] => rw [gParts_cons, gParts_cons, gParts_nn, Bool.and_true]; exact (Bool.true_and _).symm
  | x :: y :: z :: r =>
    rw [gParts_cons, gParts_cons, gParts_nc, Bool.and_false, Bool.and_false]
    have : gTO 2 (.tup (x :: y :: z :: r)) = false := by simp [gTO, tv]
    rw [this, Bool.false_and]
theorem gps3 (a b c : Str) (rs : List U) : gParts [a, b, c] rs = (gTO 3 (.tup rs) && (gPart a (nth (.tup rs) 0) && (gPart b (nth (.tup rs) 1) && gPart c (nth (.tup rs) 2)))) := by
  match rs with
  | [] => rw [gParts_cn]; rfl
  | [x] =>
    rw [gParts_cons, gParts_cn, Bool.and_false]
    have : gTO 3 (.tup [x]) = false := by simp [gTO, tv]
    rw [this, Bool.false_and]
  | [x, y] =>
    rw [gParts_cons, gParts_cons, gParts_cn, Bool.and_false, Bool.and_false]
    have : gTO 3 (.tup [x, y]) = false := by simp [gTO, tv]
    rw [this, Bool.false_and]
  | [x, y, z] => rw [gParts_cons, gParts_cons, gParts_cons, gParts_nn, Bool.and_true]; exact (Bool.true_and _).symm
  | x :: y :: z :: w :: r =>
    rw [gParts_cons, gParts_cons, gParts_cons, gParts_nc, Bool.and_false, Bool.and_false, Bool.and_false]
    have : gTO 3 (.tup (x :: y :: z :: w :: r)) = false := by simp [gTO, tv]
    rw [this, Bool.false_and]
theorem gps4 (a b c d : Str) (rs : List U) : gParts [a, b, c, d] rs = (gTO 4 (.tup rs) && (gPart a (nth (.tup rs) 0) && (gPart b (nth (.tup rs) 1) && (gPart c (nth (.tup rs) 2) && gPart d (nth (.tup rs) 3))))) := by
  match rs with
  | [] => rw [gParts_cn]; rfl
  | [x] =>
    rw [gParts_cons, gParts_cn, Bool.and_false]
    have : gTO 4 (.tup [x]) = false := by simp [gTO, tv]
    rw [this, Bool.false_and]
  | [x, y] =>
    rw [gParts_cons, gParts_cons, gParts_cn, Bool.and_false, Bool.and_false]
    have : gTO 4 (.tup [x, y]) = false := by simp [gTO, tv]
    rw [this, Bool.false_and]
  | [x, y, z] =>
    rw [gParts_cons, gParts_cons, gParts_cons, gParts_cn, Bool.and_false, Bool.and_false, Bool.and_false]
    have : gTO 4 (.tup [x, y, z]) = false := by simp [gTO, tv]
    rw [this, Bool.false_and]
  | [x, y, z, w] => rw [gParts_cons, gParts_cons, gParts_cons, gParts_cons, gParts_nn, Bool.and_true]; exact (Bool.true_and _).symm
  | x :: y :: z :: w :: t :: r =>
    rw [gParts_cons, gParts_cons, gParts_cons, gParts_cons, gParts_nc, Bool.and_false, Bool.and_false, Bool.and_false, Bool.and_false]
    have : gTO 4 (.tup (x :: y :: z :: w :: t :: r)) = false := by simp [gTO, tv]
    rw [this, Bool.false_and]
theorem gV2_is (u : U) : gV2 u = (gTO 2 u && (gStamp (nth u 0) && gMembers (nth u 1))) := by
  cases u with
  | tup us =>
    match us with
    | [] => rfl
    | [a] => rfl
    | [a, b] => exact (Bool.true_and _).symm
    | a :: b :: c :: r =>
      have : gTO 2 (.tup (a :: b :: c :: r)) = false := by simp [gTO, tv]
      rw [this, Bool.false_and]
      rfl
  | _ => rfl
theorem gBlk_to (u : U) : gBlk u = (gTO 2 u && (gId (nth u 0) && gPiece (nth u 1))) := by
  rw [pair_TO]
  rfl
theorem gVote_is (u : U) : gVote u = (isNon u || gV2 u) := rfl
theorem gCnt_is (u : U) : gCnt u = gCount u := rfl
theorem inV_no {z : Str} : ∀ {ns : List Str}, (∀ n ∈ ns, n ≠ z) → inV (.str z) (ns.map V.str) = false
  | [], _ => rfl
  | n :: ns, h => by
    have ih := inV_no fun x hx => h x (List.mem_cons_of_mem _ hx)
    have e : eqV (.str n) (.str z) = false := by
      have := h n (by simp)
      simpa [eqV] using this
    show (eqV (.str n) (.str z) || inV (.str z) (ns.map V.str)) = false
    rw [e, ih]
    rfl
theorem eqZ_no {z y : Str} (h : y ≠ z) : eqZ z y = false := decide_eq_false fun e => h (V.str.inj e).symm
theorem lookT_pos {tab : List (Str × List Str)} {z : Str} {ks : List Str} (h : tabOf tab z = some ks) (us : List U) : lookT tab z us = gParts ks us := by
  unfold lookT
  rw [h]
theorem lookT_neg {tab : List (Str × List Str)} {z : Str} (h : tabOf tab z = none) (us : List U) : lookT tab z us = false := by
  unfold lookT
  rw [h]
theorem dT_no {z : Str} (h : (("install" : Str) ≠ z) ∧ (("put" : Str) ≠ z) ∧ (("head" : Str) ≠ z) ∧ (("lease" : Str) ≠ z) ∧ (("free" : Str) ≠ z) ∧ (("promise" : Str) ≠ z) ∧ (("vote" : Str) ≠ z) ∧ (("seal" : Str) ≠ z) ∧ (("tick" : Str) ≠ z) ∧ (("collect" : Str) ≠ z) ∧ (("rise" : Str) ≠ z) ∧ (("mend" : Str) ≠ z)) : tabOf dT z = none := by
  obtain ⟨h0, h1, h2, h3, h4, h5, h6, h7, h8, h9, h10, h11⟩ := h
  show (if ("install" : Str) = z then some _ else (if ("put" : Str) = z then some _ else (if ("head" : Str) = z then some _ else (if ("lease" : Str) = z then some _ else (if ("free" : Str) = z then some _ else (if ("promise" : Str) = z then some _ else (if ("vote" : Str) = z then some _ else (if ("seal" : Str) = z then some _ else (if ("tick" : Str) = z then some _ else (if ("collect" : Str) = z then some _ else (if ("rise" : Str) = z then some _ else (if ("mend" : Str) = z then some _ else none)))))))))))) = none
  rw [if_neg h0, if_neg h1, if_neg h2, if_neg h3, if_neg h4, if_neg h5, if_neg h6, if_neg h7, if_neg h8, if_neg h9, if_neg h10, if_neg h11]
theorem gps5 (a b c d e : Str) (rs : List U) : gParts [a, b, c, d, e] rs = (gTO 5 (.tup rs) && (gPart a (nth (.tup rs) 0) && (gPart b (nth (.tup rs) 1) && (gPart c (nth (.tup rs) 2) && (gPart d (nth (.tup rs) 3) && gPart e (nth (.tup rs) 4)))))) := by
  by_cases h : rs.length = 5
  · match rs, h with
    | [x, y, z, w, t], _ =>
      rw [gParts_cons, gParts_cons, gParts_cons, gParts_cons, gParts_cons, gParts_nn, Bool.and_true]
      exact (Bool.true_and _).symm
  · have e1 : gParts [a, b, c, d, e] rs = false := by
      unfold gParts
      rw [decide_eq_false (by simpa using h), Bool.false_and]
    have e2 : gTO 5 (.tup rs) = false := decide_eq_false h
    rw [e1, e2, Bool.false_and]
theorem lease_add (us : List U) : (gTO 3 (.tup us) && gLease (addU (.tup us))) = (gTO 3 (.tup us) && (gNam (nth (.tup us) 0) && (gHand (nth (.tup us) 1) && gCnt (nth (.tup us) 2)))) := by
  by_cases h : us.length = 3
  · match us, h with
    | [x, y, z], _ =>
      have e : gLease (.tup [x, y, z, .int 0]) = (gNam x && (gHand y && gCnt z)) := by
        simp [gLease, gTO, tv, nth, gCnt, gInt, iv, Bool.and_assoc]
      show (_ && gLease (.tup [x, y, z, .int 0])) = _
      rw [e]
      rfl
  · have e2 : gTO 3 (.tup us) = false := decide_eq_false h
    rw [e2, Bool.false_and, Bool.false_and]
theorem if_not3r : ∀ a b c d : Bool, (if (!a || (!b || !c)) = true then false else d) = (a && (b && (c && d))) := by decide
theorem look_deed (z : Str) (rs : List U) (hs : ("stand" : Str) ≠ z) : lookT dT z rs = gRestL z (.tup rs) := by
  by_cases h_install : ("install" : Str) = z
  · subst h_install
    rw [lookT_pos (ks := ["epoch", "members", "ahead", "heads", "blocks"]) (by decide +kernel)]
    unfold gRestL
    rw [if_pos (by decide +kernel)]
    simp only [gps0, gps1, gps2, gps3, gps4, gV2_is, gBlk_to, gVote_is, gCnt_is, gH3, Bool.and_assoc, gp_epoch, gp_talk, gp_size, gp_name, gp_hand, gp_stamp, gp_ballot, gp_row, gp_id, gp_piece, gp_members, gp_ahead, gp_voted, gp_many, gp_heads, gp_blocks, gp_names, gp_ids, gp_sums, gp_factor, gps5, if_not3r, lease_add, Bool.true_and]
  by_cases h_put : ("put" : Str) = z
  · subst h_put
    rw [lookT_pos (ks := ["id", "piece"]) (by decide +kernel)]
    unfold gRestL
    rw [if_neg (by decide +kernel), if_pos (by decide +kernel)]
    simp only [gps0, gps1, gps2, gps3, gps4, gV2_is, gBlk_to, gVote_is, gCnt_is, gH3, Bool.and_assoc, gp_epoch, gp_talk, gp_size, gp_name, gp_hand, gp_stamp, gp_ballot, gp_row, gp_id, gp_piece, gp_members, gp_ahead, gp_voted, gp_many, gp_heads, gp_blocks, gp_names, gp_ids, gp_sums, gp_factor, gps5, if_not3r, lease_add, Bool.true_and]
  by_cases h_head : ("head" : Str) = z
  · subst h_head
    rw [lookT_pos (ks := ["name", "stamp", "row"]) (by decide +kernel)]
    unfold gRestL
    rw [if_neg (by decide +kernel), if_neg (by decide +kernel), if_pos (by decide +kernel)]
    simp only [gps0, gps1, gps2, gps3, gps4, gV2_is, gBlk_to, gVote_is, gCnt_is, gH3, Bool.and_assoc, gp_epoch, gp_talk, gp_size, gp_name, gp_hand, gp_stamp, gp_ballot, gp_row, gp_id, gp_piece, gp_members, gp_ahead, gp_voted, gp_many, gp_heads, gp_blocks, gp_names, gp_ids, gp_sums, gp_factor, gps5, if_not3r, lease_add, Bool.true_and]
  by_cases h_lease : ("lease" : Str) = z
  · subst h_lease
    rw [lookT_pos (ks := ["name", "hand", "talk"]) (by decide +kernel)]
    unfold gRestL
    rw [if_neg (by decide +kernel), if_neg (by decide +kernel), if_neg (by decide +kernel), if_pos (by decide +kernel)]
    simp only [gps0, gps1, gps2, gps3, gps4, gV2_is, gBlk_to, gVote_is, gCnt_is, gH3, Bool.and_assoc, gp_epoch, gp_talk, gp_size, gp_name, gp_hand, gp_stamp, gp_ballot, gp_row, gp_id, gp_piece, gp_members, gp_ahead, gp_voted, gp_many, gp_heads, gp_blocks, gp_names, gp_ids, gp_sums, gp_factor, gps5, if_not3r, lease_add, Bool.true_and]
  by_cases h_free : ("free" : Str) = z
  · subst h_free
    rw [lookT_pos (ks := ["name", "hand", "talk"]) (by decide +kernel)]
    unfold gRestL
    rw [if_neg (by decide +kernel), if_neg (by decide +kernel), if_neg (by decide +kernel), if_pos (by decide +kernel)]
    simp only [gps0, gps1, gps2, gps3, gps4, gV2_is, gBlk_to, gVote_is, gCnt_is, gH3, Bool.and_assoc, gp_epoch, gp_talk, gp_size, gp_name, gp_hand, gp_stamp, gp_ballot, gp_row, gp_id, gp_piece, gp_members, gp_ahead, gp_voted, gp_many, gp_heads, gp_blocks, gp_names, gp_ids, gp_sums, gp_factor, gps5, if_not3r, lease_add, Bool.true_and]
  by_cases h_promise : ("promise" : Str) = z
  · subst h_promise
    rw [lookT_pos (ks := ["ballot"]) (by decide +kernel)]
    unfold gRestL
    rw [if_neg (by decide +kernel), if_neg (by decide +kernel), if_neg (by decide +kernel), if_neg (by decide +kernel), if_pos (by decide +kernel)]
    simp only [gps0, gps1, gps2, gps3, gps4, gV2_is, gBlk_to, gVote_is, gCnt_is, gH3, Bool.and_assoc, gp_epoch, gp_talk, gp_size, gp_name, gp_hand, gp_stamp, gp_ballot, gp_row, gp_id, gp_piece, gp_members, gp_ahead, gp_voted, gp_many, gp_heads, gp_blocks, gp_names, gp_ids, gp_sums, gp_factor, gps5, if_not3r, lease_add, Bool.true_and]
  by_cases h_vote : ("vote" : Str) = z
  · subst h_vote
    rw [lookT_pos (ks := ["ballot", "members"]) (by decide +kernel)]
    unfold gRestL
    rw [if_neg (by decide +kernel), if_neg (by decide +kernel), if_neg (by decide +kernel), if_neg (by decide +kernel), if_neg (by decide +kernel), if_pos (by decide +kernel)]
    simp only [gps0, gps1, gps2, gps3, gps4, gV2_is, gBlk_to, gVote_is, gCnt_is, gH3, Bool.and_assoc, gp_epoch, gp_talk, gp_size, gp_name, gp_hand, gp_stamp, gp_ballot, gp_row, gp_id, gp_piece, gp_members, gp_ahead, gp_voted, gp_many, gp_heads, gp_blocks, gp_names, gp_ids, gp_sums, gp_factor, gps5, if_not3r, lease_add, Bool.true_and]
  by_cases h_seal : ("seal" : Str) = z
  · subst h_seal
    rw [lookT_pos (ks := ["members"]) (by decide +kernel)]
    unfold gRestL
    rw [if_neg (by decide +kernel), if_neg (by decide +kernel), if_neg (by decide +kernel), if_neg (by decide +kernel), if_neg (by decide +kernel), if_neg (by decide +kernel), if_pos (by decide +kernel)]
    simp only [gps0, gps1, gps2, gps3, gps4, gV2_is, gBlk_to, gVote_is, gCnt_is, gH3, Bool.and_assoc, gp_epoch, gp_talk, gp_size, gp_name, gp_hand, gp_stamp, gp_ballot, gp_row, gp_id, gp_piece, gp_members, gp_ahead, gp_voted, gp_many, gp_heads, gp_blocks, gp_names, gp_ids, gp_sums, gp_factor, gps5, if_not3r, lease_add, Bool.true_and]
  by_cases h_mend : ("mend" : Str) = z
  · subst h_mend
    rw [lookT_pos (ks := ["heads", "blocks"]) (by decide +kernel)]
    unfold gRestL
    rw [if_neg (by decide +kernel), if_neg (by decide +kernel), if_neg (by decide +kernel), if_neg (by decide +kernel), if_neg (by decide +kernel), if_neg (by decide +kernel), if_neg (by decide +kernel), if_neg (by decide +kernel), if_pos (by decide +kernel)]
    simp only [gps0, gps1, gps2, gps3, gps4, gV2_is, gBlk_to, gVote_is, gCnt_is, gH3, Bool.and_assoc, gp_epoch, gp_talk, gp_size, gp_name, gp_hand, gp_stamp, gp_ballot, gp_row, gp_id, gp_piece, gp_members, gp_ahead, gp_voted, gp_many, gp_heads, gp_blocks, gp_names, gp_ids, gp_sums, gp_factor, gps5, if_not3r, lease_add, Bool.true_and]
  by_cases h_tick : ("tick" : Str) = z
  · subst h_tick
    rw [lookT_pos (ks := []) (by decide +kernel)]
    unfold gRestL
    rw [if_neg (by decide +kernel), if_neg (by decide +kernel), if_neg (by decide +kernel), if_neg (by decide +kernel), if_neg (by decide +kernel), if_neg (by decide +kernel), if_neg (by decide +kernel), if_neg (by decide +kernel), if_neg (by decide +kernel)]
    rw [show inV (.str "tick") [.str "tick", .str "collect", .str "rise"] = true by decide +kernel]
    simp only [gps0, gps1, gps2, gps3, gps4, gV2_is, gBlk_to, gVote_is, gCnt_is, gH3, Bool.and_assoc, gp_epoch, gp_talk, gp_size, gp_name, gp_hand, gp_stamp, gp_ballot, gp_row, gp_id, gp_piece, gp_members, gp_ahead, gp_voted, gp_many, gp_heads, gp_blocks, gp_names, gp_ids, gp_sums, gp_factor, gps5, if_not3r, lease_add, Bool.true_and]
  by_cases h_collect : ("collect" : Str) = z
  · subst h_collect
    rw [lookT_pos (ks := []) (by decide +kernel)]
    unfold gRestL
    rw [if_neg (by decide +kernel), if_neg (by decide +kernel), if_neg (by decide +kernel), if_neg (by decide +kernel), if_neg (by decide +kernel), if_neg (by decide +kernel), if_neg (by decide +kernel), if_neg (by decide +kernel), if_neg (by decide +kernel)]
    rw [show inV (.str "collect") [.str "tick", .str "collect", .str "rise"] = true by decide +kernel]
    simp only [gps0, gps1, gps2, gps3, gps4, gV2_is, gBlk_to, gVote_is, gCnt_is, gH3, Bool.and_assoc, gp_epoch, gp_talk, gp_size, gp_name, gp_hand, gp_stamp, gp_ballot, gp_row, gp_id, gp_piece, gp_members, gp_ahead, gp_voted, gp_many, gp_heads, gp_blocks, gp_names, gp_ids, gp_sums, gp_factor, gps5, if_not3r, lease_add, Bool.true_and]
  by_cases h_rise : ("rise" : Str) = z
  · subst h_rise
    rw [lookT_pos (ks := []) (by decide +kernel)]
    unfold gRestL
    rw [if_neg (by decide +kernel), if_neg (by decide +kernel), if_neg (by decide +kernel), if_neg (by decide +kernel), if_neg (by decide +kernel), if_neg (by decide +kernel), if_neg (by decide +kernel), if_neg (by decide +kernel), if_neg (by decide +kernel)]
    rw [show inV (.str "rise") [.str "tick", .str "collect", .str "rise"] = true by decide +kernel]
    simp only [gps0, gps1, gps2, gps3, gps4, gV2_is, gBlk_to, gVote_is, gCnt_is, gH3, Bool.and_assoc, gp_epoch, gp_talk, gp_size, gp_name, gp_hand, gp_stamp, gp_ballot, gp_row, gp_id, gp_piece, gp_members, gp_ahead, gp_voted, gp_many, gp_heads, gp_blocks, gp_names, gp_ids, gp_sums, gp_factor, gps5, if_not3r, lease_add, Bool.true_and]
  rw [lookT_neg (dT_no ⟨h_install, h_put, h_head, h_lease, h_free, h_promise, h_vote, h_seal, h_tick, h_collect, h_rise, h_mend⟩)]
  unfold gRestL
  rw [if_neg (by rw [eqZ_no h_install]; decide)]
  rw [if_neg (by rw [eqZ_no h_put]; decide)]
  rw [if_neg (by rw [eqZ_no h_head]; decide)]
  rw [if_neg (by rw [eqZ_no h_lease, eqZ_no h_free]; decide)]
  rw [if_neg (by rw [eqZ_no h_promise]; decide)]
  rw [if_neg (by rw [eqZ_no h_vote]; decide)]
  rw [if_neg (by rw [eqZ_no h_seal]; decide)]
  rw [if_neg (by rw [eqZ_no hs]; decide)]
  rw [if_neg (by rw [eqZ_no h_mend]; decide)]
  rw [show inV (.str z) [.str "tick", .str "collect", .str "rise"] = false from inV_no (ns := ["tick", "collect", "rise"]) (by simp only [List.forall_mem_cons, List.not_mem_nil, false_imp_iff, implies_true, and_true]; exact ⟨h_tick, h_collect, h_rise⟩), Bool.false_and]
def gDeedL (u : U) : Bool := match u with | .tup (.str z :: us) => gRestL z (.tup us) | _ => false
theorem gDeed_eq (u : U) : gDeed dT u = gDeedL u := by
  cases u with
  | tup us =>
    cases us with
    | nil => rfl
    | cons x us =>
      cases x with
      | str z =>
        by_cases h : z = "stand"
        · subst h
          show (if ("stand" : Str) = "stand" then (match us with | [t] => gTable t | _ => false) else lookT dT "stand" us) = gRestL "stand" (.tup us)
          rw [if_pos rfl]
          unfold gRestL
          rw [if_neg (by decide +kernel), if_neg (by decide +kernel), if_neg (by decide +kernel), if_neg (by decide +kernel), if_neg (by decide +kernel), if_neg (by decide +kernel), if_neg (by decide +kernel), if_pos (by decide +kernel)]
          match us with
          | [] => rfl
          | [t] => exact (Bool.true_and _).symm
          | a :: b :: r =>
            have : gTO 1 (.tup (a :: b :: r)) = false := by simp [gTO, tv]
            rw [this, Bool.false_and]
        · show (if z = "stand" then (match us with | [t] => gTable t | _ => false) else lookT dT z us) = gRestL z (.tup us)
          rw [if_neg h]
          exact look_deed z us fun e => h e.symm
      | _ => rfl
  | _ => rfl
end Hs
/-! how heavy is what deeds make of tables; what a right deed gives its doing -/
namespace Hs
open PySem PySem.Spec PyProof.Rows L2 Hu Evl
open Hk (SI ltSI PZ ltPZ)
/-- so heavy, tidy -/
structure Wl (us : List U) (m b : Nat) : Prop where
  w : wtL us ≤ m
  c : tidyL b us
structure Wu (u : U) (m b : Nat) : Prop where
  w : wt u ≤ m
  c : tidy b u
theorem Wl.mono {us : List U} {m b m' b' : Nat} (h : Wl us m b) (hm : m ≤ m') (hb : b ≤ b') : Wl us m' b' := ⟨Nat.le_trans h.w hm, tidyL_mono hb _ h.c⟩
theorem Wu.mono {u : U} {m b m' b' : Nat} (h : Wu u m b) (hm : m ≤ m') (hb : b ≤ b') : Wu u m' b' := ⟨Nat.le_trans h.w hm, tidy_mono hb _ h.c⟩
theorem Wl.nil {b : Nat} : Wl [] 0 b := ⟨Nat.le_refl _, trivial⟩
theorem Wl.cons {u : U} {us : List U} {m n b : Nat} (h : Wu u m b) (k : Wl us n b) : Wl (u :: us) (m + 2 + n) b := ⟨by have := h.w; have := k.w; simp only [wtL]; omega, ⟨h.c, k.c⟩⟩
theorem Wl.head {u : U} {us : List U} {m b : Nat} (h : Wl (u :: us) m b) : Wu u m b := ⟨by have := h.w; simp only [wtL] at this; omega, h.c.1⟩
theorem Wl.tail {u : U} {us : List U} {m b : Nat} (h : Wl (u :: us) m b) : Wl us m b := ⟨by have := h.w; simp only [wtL] at this; omega, h.c.2⟩
theorem Wl.tup {us : List U} {m b : Nat} (h : Wl us m b) : Wu (.tup us) (m + 3) b := ⟨by have := h.w; simp only [wt]; omega, by simp only [tidy]; exact h.c⟩
theorem Wu.rows {us : List U} {m b : Nat} (h : Wu (.tup us) m b) : Wl us m b := ⟨by have := h.w; simp only [wt] at this; omega, by simpa only [tidy] using h.c⟩
theorem wl_get {us : List U} {m b : Nat} (h : Wl us m b) (k : Nat) : wt (us.getD k .non) ≤ max m 4 ∧ tidy b (us.getD k .non) := by
  induction us generalizing k with
  | nil => rw [List.getD_nil]; exact ⟨by simp only [wt]; omega, trivial⟩
  | cons u us ih =>
    cases k with
    | zero => exact ⟨by have := h.head.w; show wt u ≤ _; omega, h.c.1⟩
    | succ k => exact ih h.tail k
/-! ### leases -/
def Deed.keys : Deed → List SI
  | .lease k _ => [k]
  | _ => []
end Hs
/-! word by word: what a right deed gives its doing; what is made is a right table -/
namespace Hs
open PySem PySem.Spec PyProof.Rows L2 Hu Evl
open Hk (SI ltSI PZ ltPZ)
structure TabR (u : U) : Prop where
  g : gTable u = true
  f : Fine u
  s : Sm u
theorem TabR.of {u : U} {m b : Nat} (g : gTable u = true) (w : Wu u m b) (hm : m ≤ 160000) (hb : b ≤ 100) : TabR u := ⟨g, ⟨Nat.le_trans w.w (by omega), tidy_clean hb _ w.c⟩, Nat.le_trans w.w hm⟩
theorem rest_install (u : U) : gRestL "install" u = (if (!(gTO 5 u) || (!(gCount (nth u 0)) || (!(gMembers (nth u 1))))) = true then false else (gAhead (nth u 2) && (gHeads (nth u 3) && gBlocks (nth u 4)))) := by
  unfold gRestL
  rw [if_pos (by decide +kernel)]
theorem rest_mend (u : U) : gRestL "mend" u = (gTO 2 u && (gHeads (nth u 0) && gBlocks (nth u 1))) := by
  unfold gRestL
  rw [if_neg (by decide +kernel), if_neg (by decide +kernel), if_neg (by decide +kernel), if_neg (by decide +kernel), if_neg (by decide +kernel), if_neg (by decide +kernel), if_neg (by decide +kernel), if_neg (by decide +kernel), if_pos (by decide +kernel)]
theorem to_five {us : List U} (h : gTO 5 (.tup us) = true) : ∃ a b c d e, us = [a, b, c, d, e] := by
  obtain ⟨ys, e, hl⟩ := gTO_of h
  cases e
  match us, hl with
  | [a, b, c, d, e], _ => exact ⟨a, b, c, d, e, rfl⟩
/-- the items of a table, bounded -/
theorem wu_item {us : List U} {m b : Nat} (h : Wu (.tup us) m b) (hm : 4 ≤ m) (k : Nat) : Wu (us.getD k .non) m b := by
  have := wl_get h.rows k
  exact ⟨by omega, this.2⟩
abbrev TM : Nat := 24200
abbrev DM : Nat := 100000
structure DgIn (us ps : List U) (z : Str) : Prop where
  g : gTable (.tup us) = true
  w : Wu (.tup us) TM 2
  r : gRestL z (.tup ps) = true
  q : Wu (.tup ps) DM 2
theorem dg_inst {us ps : List U} (x : DgIn us ps "install") : ps.length = 5 ∧ TabR (.tup (fInst us ps)) := by
  obtain ⟨e, m, a, c, h, b, l, p, v, n, q, r⟩ := gTable_ten x.g
  cases q
  have g := x.r
  rw [rest_install, if_not3r] at g
  obtain ⟨g1, g2, g3⟩ := and3 g
  obtain ⟨g4, g5, g6, g7⟩ : _ ∧ _ ∧ _ ∧ _ := by
    obtain ⟨g31, g32⟩ := and2 (b := gAhead (nth (.tup ps) 2) && (gHeads (nth (.tup ps) 3) && gBlocks (nth (.tup ps) 4))) g3
    obtain ⟨g33, g34, g35⟩ := and3 g32
    exact ⟨g31, g33, g34, g35⟩
  obtain ⟨e2, m2, a2, h2, b2, rfl⟩ := to_five g1
  refine ⟨rfl, TabR.of (m := DM + TM + 1000) (b := 2) (rt_inst r g2 g4 g5 g6 g7) ?_ (by decide) (by decide)⟩
  show Wu (.tup [e2, m2, a2, c, h2, b2, .tup [], .tup [.int 0, .int 0], .non, .non]) _ _
  have h1 := x.q.w
  have h3 := (wu_item x.w (by decide) 3).w
  have h3' : wt c ≤ TM := h3
  have q1 := x.q.c
  have q3 : tidy 2 c := (wu_item x.w (by decide) 3).c
  simp only [wt, wtL] at h1
  simp only [tidy, tidyL] at q1
  refine ⟨?_, ?_⟩
  · simp only [wt, wtL]
    omega
  · simp only [tidy, tidyL]
    exact ⟨q1.1, q1.2.1, q1.2.2.1, q3, q1.2.2.2.1, q1.2.2.2.2.1, trivial, ⟨by decide, by decide, trivial⟩, trivial, trivial, trivial⟩
end Hs
/-! lease, free, tick, rise: what a right deed gives; what is made is a right table -/
/-! _law_deed_fits -/
namespace Hs
open PySem PySem.Spec PyProof.Rows L2 Hu Evl
open Hk (SI ltSI)
section
variable {σ : L2.St} {H : Hp} {te : TE} {D : Ends}
theorem ret1' (h : te σ H fun v H' => D.rt v H') : tRet te D σ H := h
end
end Hs
/-! lets; done of a deed by its word -/
namespace Hs
open PySem PySem.Spec PyProof.Rows L2 Hu Evl
def bareDs : List Str := ["install", "stand", "tick", "rise", "collect"]
def letsB (e : Int) (z : Str) : Bool := decide (e ≥ 0) || inV (.str z) (bareDs.map V.str)
section
variable {P : Program} {wd : World} {K : PySem.W.Frag} {mg : Str → Option Value} {base : Heap} {C : Addr}
def spLets5 (K : PySem.W.Frag) : Sp := fun vs H Q _ => ∃ (a b : Addr) (xs ys : List V) (e : Int) (z : Str), vs = [.ref a, .ref b] ∧ SqT K H a xs ∧ xs[0]? = some (.int e) ∧ SqT K H b ys ∧ ys[0]? = some (.str z) ∧ ∀ H', Same H H' → Q (.bl (letsB e z)) H'
theorem ok_lets5 {f aB : Addr} {fd : FuncData} (D : Df K mg "lets" sLets ["table", "deed"] f fd) (N : Ct mg) (gB : mg "BARE_DEEDS" = some (.ref aB)) (tB : TupK K aB bareDs) : FnOk P wd K mg base CX0 1 f fd ["table", "deed"] (spLets5 K) := by
  refine D.F.ok scLets (fun vs H Q E h => ?_) (fun cdv A outer s H vs Q E hr h => ?_)
  · obtain ⟨a, b, xs, ys, e, z, rfl, _⟩ := h
    rfl
  obtain ⟨a, b, xs, ys, e, z, rfl, ha, h0, hb, h1, k⟩ := h
  refine ⟨_, pss_one (ps_ret (pe_or (pe_cmpR op_ge (pe_ix (show IxR _ (rIxT K) from ix_tup) (pv 0) (pe_gi (by rfl) N.p0) (fun _ _ => rfl)) pe_int (nomark _)) (pe_one (pe_cmpR (show OpR _ _ (rIn K false) from op_in_seq) (pe_ix (show IxR _ (rIxT K) from ix_tup) (pv 1) pe_int (fun _ _ => rfl)) (pe_glob (v := .ref aB) (by rfl) gB rfl) (by rfl))))), ?_⟩
  refine s_ret (ev_orV (ev_op (ev_op (ev_var rfl) ev_c (rv_ixT ha (atI_nat (j := 0) h0))) ev_c rv_I0) fun _ => ev_op (ev_op (ev_var rfl) ev_c (rv_ixT hb (atI_nat (j := 0) h1))) ev_c (rv_inT (neg := false) (tB H) rfl (by rfl))) fun H1 e => k H1 e
/-- done, by the word of the deed: the doing that the table of doings has for it -/
def spDone5 (C : Addr) (z : Str) (ok : List U → List U → Prop) (F : List U → List U → List U) : Sp := fun vs H Q _ => ∃ (x y : V) (us ps : List U) (w : Addr), vs = [x, y] ∧ At w C H x (.tup us) ∧ At w C H y (.tup (.str z :: ps)) ∧ (∃ l, H w = some (.lst l)) ∧ us.length = 10 ∧ ok us ps ∧ ∀ v H', Same H H' → At w C H' v (.tup (F us ps)) → Q v H'
theorem ok_done5 {f fG a : Addr} {fd dG : FuncData} {z : Str} {ok : List U → List U → Prop} {F : List U → List U → List U} (D : Df K mg "done" sDone ["table", "deed"] f fd) (hg : mg "DOINGS" = some (.ref a)) (hk : KDct K wd a z (.ref fG)) (kp : PySem.W.keepIn K (.ref fG) = true) (bG : Binds K dG ["table", "parts"] [])
    (G : FnOk P wd K mg base CX0 3 fG dG ["table", "parts"] (spDg C ok F)) : FnOk P wd K mg base CX0 4 f fd ["table", "deed"] (spDone5 C z ok F) := by
  refine D.F.ok scDone (fun vs H Q E h => ?_) (fun cdv A outer s H vs Q E hr h => ?_)
  · obtain ⟨x, y, us, ps, w, rfl, _⟩ := h
    rfl
  obtain ⟨x, y, us, ps, w, rfl, hx, hy, hl, h10, hok, q⟩ := h
  have hw : ∃ o, H w = some o := hl.elim fun l h => ⟨_, h⟩
  refine ⟨_, pss_cons (ps_set (i := 2) scDone.nd rfl (.inl rfl) (pe_ix ix_kdict (pe_glob (v := .ref a) (by rfl) hg rfl) (pe_ix ix_tup (pv 1) pe_int (fun _ _ => rfl)) (fun _ _ => rfl)))
    (pss_one (ps_ret (pe_callL (i := 2) G hr rfl (.inl rfl) kp bG .nil pass0 (pa_cons (pv 0) (pa_cons (pe_slice sl_tupF (pv 1) (po_some pe_int) po_none) pa_nil))))), ?_⟩
  obtain ⟨b, xs, rfl, hb, nb, hls⟩ := at_tup hy
  obtain ⟨x0, xr, rfl, h0⟩ : ∃ x0 xr, xs = x0 :: xr ∧ x0 = .str z := by
    cases hls with
    | cons h1 h2 => exact ⟨_, _, rfl, at_str h1⟩
  subst h0
  refine q_asg (v := .ref fG) (ev_op ev_c (ev_ixT (j := 0) (ev_var rfl) hb rfl) fun G1 e Q q => ⟨a, z, .ref fG, rfl, rfl, hk, q G1 (Ex.refl G1)⟩) fun H1 e1 => ?_
  refine ⟨rfl, x, rfl, ?_⟩
  refine (ed_slice (K := K) (hw.imp fun o z => e1 _ _ z) (ev_var rfl) (Tu.ex e1 hb) nb (ex_atl e1 hls) (eo_some ev_c) eo_none) H1 (Ex.refl H1) _ fun v2 H2 e2 a2 => ?_
  rw [cut_one] at a2
  exact ⟨x, v2, us, ps, w, rfl, ex_at (e1.trans e2) hx, a2, hl.imp fun l h => (e1.trans e2) _ _ h, h10, hok, fun v H' s a => q v H' ((e1.trans e2).trans s) a⟩
end
end Hs
/-! judges of tuples that stand in whatever: is_tuple_of, is_pair, is_stamp of (0, 0) -/
namespace Hs
open PySem PySem.Spec PyProof.Rows L2 Hu Evl
section
variable {P : Program} {wd : World} {K : PySem.W.Frag} {mg : Str → Option Value} {base : Heap} {C : Addr}
theorem len_dec {α : Type} {xs : List α} {m : Nat} : decide (V.int (xs.length : Int) = V.int (m : Int)) = decide (xs.length = m) := decide_eq_decide.mpr ⟨fun h => by
  have := V.int.inj h
  omega, fun h => by rw [h]⟩
def spTOq (K : PySem.W.Frag) : Sp := fun vs H Q _ => ∃ (m : Nat) (a : Addr) (xs : List V), vs = [.int (m : Int), .ref a] ∧ SqT K H a xs ∧ ∀ H', Same H H' → Q (.bl (decide (xs.length = m))) H'
theorem ok_TOq {f : Addr} {fd : FuncData} (D : Df K mg "is_tuple_of" sTO ["many", "thing"] f fd) (S : Bs K mg C) : FnOk P wd K mg base CX0 1 f fd ["many", "thing"] (spTOq K) := by
  refine D.F.ok scTO (fun vs H Q E h => ?_) (fun cdv A outer s H vs Q E hr h => ?_)
  · obtain ⟨m, a, xs, rfl, _⟩ := h
    rfl
  obtain ⟨m, a, xs, rfl, ha, k⟩ := h
  refine ⟨_, pss_one (ps_ret (pe_and (pe_isiY S (by rfl) (by rfl) S.B.tup boot_tuple' (pv 1) (by decide) (by decide)) (pe_one (pe_cmpR op_eq (pe_callB call_len_seq (by rfl) S.B.len PySem.boot_len (pa_cons (pv 1) pa_nil)) (pv 0) (nomark _))))), ?_⟩
  exact s_ret (v := .bl (true && decide (xs.length = m))) (ev_andV (ev_isiT (ev_var rfl) ha kitTT) fun _ => ev_is (ev_op (ev_lenSq (K := K) (ev_var rfl) ha) (ev_var rfl) (rv_eq rfl)) (congrArg V.bl len_dec)) fun H1 e => k H1 e
def spPairQ (K : PySem.W.Frag) : Sp := fun vs H Q _ => ∃ (a : Addr) (xs : List V), vs = [.ref a] ∧ SqT K H a xs ∧ ∀ H', Same H H' → Q (.bl (decide (xs.length = 2))) H'
theorem ok_pairQ {f : Addr} {fd : FuncData} (D : Df K mg "is_pair" sPair ["thing"] f fd) (S : Bs K mg C) : FnOk P wd K mg base CX0 1 f fd ["thing"] (spPairQ K) := by
  refine D.F.ok scPair (fun vs H Q E h => ?_) (fun cdv A outer s H vs Q E hr h => ?_)
  · obtain ⟨a, xs, rfl, _⟩ := h
    rfl
  obtain ⟨a, xs, rfl, ha, k⟩ := h
  refine ⟨_, pss_one (ps_ret (pe_and (pe_isiY S (by rfl) (by rfl) S.B.tup boot_tuple' (pv 0) (by decide) (by decide)) (pe_one (pe_cmpR op_eq (pe_callB call_len_seq (by rfl) S.B.len PySem.boot_len (pa_cons (pv 0) pa_nil)) pe_int (nomark _))))), ?_⟩
  exact s_ret (v := .bl (true && decide (xs.length = 2))) (ev_andV (ev_isiT (ev_var rfl) ha kitTT) fun _ => ev_is (ev_op (ev_lenSq (K := K) (ev_var rfl) ha) ev_c (rv_eq rfl)) (congrArg V.bl (len_dec (m := 2)))) fun H1 e => k H1 e
/-- the stamp (0, 0) in whatever it stands -/
def spSt0 (K : PySem.W.Frag) : Sp := fun vs H Q _ => ∃ (a : Addr), vs = [.ref a] ∧ SqT K H a [.int 0, .int 0] ∧ ∀ H', Same H H' → Q (.bl true) H'
theorem ok_st0 {f f1 f2 : Addr} {fd d1 d2 : FuncData} (D : Df K mg "is_stamp" sStamp ["thing"] f fd) (S : Bs K mg C) (D1 : Df K mg "is_pair" sPair ["thing"] f1 d1) (JI : Jd P wd K mg base C 1 "is_integer" "thing" f2 d2 gInt) : FnOk P wd K mg base CX0 3 f fd ["thing"] (spSt0 K) := by
  have G1 : FnOk P wd K mg base CX0 2 f1 d1 ["thing"] (spPairQ K) := (ok_pairQ D1 S).mono (by decide)
  refine D.F.ok scStamp (fun vs H Q E h => ?_) (fun cdv A outer s H vs Q E hr h => ?_)
  · obtain ⟨a, rfl, _⟩ := h
    rfl
  obtain ⟨a, rfl, ha, k⟩ := h
  refine ⟨_, pss_cons (ps_if (PW.pt (pw_or (pt_not (pt_val (pe_call G1 hr (by rfl) D1.g D1.F.kp D1.b .nil pass0 (pa_cons (pv 0) pa_nil)))) (pw_or (pt_not (pt_val (pe_J JI hr (by decide) (by rfl) pass0 (pe_ix (show IxR _ (rIxT K) from ix_tup) (pv 0) pe_int (fun _ _ => rfl)))))
      (pw_or1 (pt_not (pt_val (pe_J JI hr (by decide) (by rfl) pass0 (pe_ix (show IxR _ (rIxT K) from ix_tup) (pv 0) pe_int (fun _ _ => rfl)))))))))
      (pss_one (ps_ret pe_bl)) pss_nil)
    (pss_one (ps_ret (pe_or (pe_cmpR (show OpR _ _ (rEqD K) from op_eqD (room_hu hr)) (pv 0) (pe_tup (pa_cons pe_int (pa_cons pe_int pa_nil))) (nomark _)) (pe_one pe_dead)))), ?_⟩
  have i0 : ∀ {G : Hp}, Ex H G → Ev (tOp (rIxT K) (tVar 0) (tC (.int 0))) [some (.ref a)] G (.int 0) := fun e => ev_op (ev_var rfl) ev_c (rv_ixT (sqt_ex e ha) (atI_nat (j := 0) rfl))
  have i1 : ∀ {G : Hp}, Ex H G → Ev (tOp (rIxT K) (tVar 0) (tC (.int 1))) [some (.ref a)] G (.int 0) := fun e => ev_op (ev_var rfl) ev_c (rv_ixT (sqt_ex e ha) (atI_nat (j := 1) rfl))
  have fi0 : Fine (.int 0) := ⟨by simp [wt], by simp [clean]⟩
  refine q_when (b := !true || (!true || !true)) (et_or (et_not (et_B (ev_call (ea_cons (ev_var rfl) ea_nil) fun G e Q q E => ⟨a, _, rfl, sqt_ex e ha, q⟩))) fun _ => et_or (et_not (et_B (ev_J (C := C) (w := a) (g := gInt) (i0 (Ex.refl H)) (.int 0) fi0))) fun _ => et_not (et_B (ev_J (C := C) (w := a) (g := gInt) (i1 (Ex.refl H)) (.int 0) fi0))) (fun q => by cases q) (fun _ H1 e => ?_)
  refine s_ret (ev_orV (a := true) (b := true) (ev_opU (ev_var rfl) (eu_tup (ea_cons ev_c (ea_cons ev_c ea_nil)) (by show (2 : Nat) ≤ 100000; decide)) fun q H2 hq e2 => fun G g Q f => ⟨_, _, .tup (sqt_ex ((e.trans e2).trans g) ha) (.cons (.int 0) (.cons (.int 0) .nil)), .tup (st_of (g _ _ hq)) (.cons (.int 0) (.cons (.int 0) .nil)), by decide, by decide, f G (Ex.refl G)⟩) fun q => Bool.noConfusion q) fun H2 e2 => k H2 (e.trans e2)
end
end Hs
/-! the bare table, in whatever it stands: is_table -/
namespace Hs
open PySem PySem.Spec PyProof.Rows L2 Hu Evl
open Hk (SI ltSI nearOk)
/-- a bare row with this clock, as it stands -/
def Br (K : PySem.W.Frag) (H : Hp) (x : V) (c : Int) : Prop := ∃ a m h1 h2 b l p : Addr, x = .ref a ∧ SqT K H a [.int (-1), .ref m, .ref h1, .int c, .ref h2, .ref b, .ref l, .ref p, .non, .non] ∧ SqT K H m [] ∧ SqT K H h1 [] ∧ SqT K H h2 [] ∧ SqT K H b [] ∧ SqT K H l [] ∧ SqT K H p [.int 0, .int 0]
theorem Br.ex {K : PySem.W.Frag} {H H' : Hp} {x : V} {c : Int} (e : Ex H H') : Br K H x c → Br K H' x c := fun ⟨a, m, h1, h2, b, l, p, e0, s, k1, k2, k3, k4, k5, k6⟩ => ⟨a, m, h1, h2, b, l, p, e0, sqt_ex e s, sqt_ex e k1, sqt_ex e k2, sqt_ex e k3, sqt_ex e k4, sqt_ex e k5, sqt_ex e k6⟩
section
variable {P : Program} {wd : World} {K : PySem.W.Frag} {mg : Str → Option Value} {base : Heap} {C : Addr}
section
variable {σ : L2.St} {H : Hp} {te tl ta tb : TE} {g : TG} {tt : TT} {vs : List Nat} {a : Addr} {xs ys : List V}
/-- a comprehension over nothing -/
theorem lc_nil (h : Ev tl σ H (.ref a)) (ha : SqT K H a []) : EvL (tLc (iTup K tl) g tt te vs) σ H [] := fun H0 e Q q => h H0 e _ fun H1 e1 => ⟨a, rfl, ⟨[], sqt_ex (e.trans e1) ha⟩, fun Dl hD =>
  lc_tup (xs := []) (fun i H' => Ex H1 H' ∧ H' Dl = some (.lst [])) ⟨Ex.new hD, upd_same⟩ (fun i H' _ p => sqt_ex ((e.trans e1).trans p.1) ha) (fun i x H2 hi p => by cases hi) fun H' p => q Dl H' (fresh_back e1 hD) (e1.trans p.1) p.2⟩
end
/-! ### _are_leases of none -/
def spLs0 (K : PySem.W.Frag) : Sp := fun vs H Q _ => ∃ (a : Addr), vs = [.ref a] ∧ SqT K H a [] ∧ ∀ H', Same H H' → Q (.bl true) H'
theorem ok_ls0 {f f1 f2 : Addr} {fd d1 d2 : FuncData} (D : Df K mg "_are_leases" sLeases ["thing"] f fd) (S : Bs K mg C) (J : Jd P wd K mg base C 3 "_is_lease" "thing" f1 d1 gLease) (DA : Df K mg "is_ascending" sAscending ["things"] f2 d2) : FnOk P wd K mg base CX0 6 f fd ["thing"] (spLs0 K) := by
  have GA : FnOk P wd K mg base CX0 5 f2 d2 ["things"] (spAscG K (rIxL K) (Hk.rLtK K)) := (ok_ascK DA.F S.B).mono (by decide)
  refine D.F.ok scLeases (fun vs H Q E h => ?_) (fun cdv A outer s H vs Q E hr h => ?_)
  · obtain ⟨a, rfl, _⟩ := h
    rfl
  obtain ⟨a, rfl, ha, k⟩ := h
  refine ⟨_, pss_cons (ps_if (PW.pt (pw_or (pt_not (pt_val (pe_isiY S (by rfl) (by rfl) S.B.tup boot_tuple' (pv 0) (by decide) (by decide))))
      (pw_or1 (pt_not (pt_val (pe_callB (cr_all rfl) (by rfl) S.B.all boot_all' (pa_cons (pe_lc (own := [("item", 1)]) (g := gName 1) (tt := tYes) rfl scLeases.nd (pi_tup (pv 0)) (blkOk_by (N := ["thing", "item"]) (sc := defScope sLeases) (by decide +kernel))
        (fun _ _ _ _ _ => pg_name (i := 1) scLeases.nd rfl (Or.inl rfl)) (fun _ _ _ _ _ => pts_nil) (fun _ _ _ _ _ => pe_J J hr (by decide) (by rfl) pass0 (pv 1))) pa_nil)))))))
      (pss_one (ps_ret pe_bl)) pss_nil)
    (pss_one (ps_ret (pe_call GA (hr.mono (by decide)) (by rfl) DA.g DA.F.kp DA.b .nil pass0 (pa_cons (pe_lc (own := [("item", 1)]) (g := gName 1) (tt := tYes) rfl scLeases.nd (pi_tup (pv 0)) (blkOk_by (N := ["thing", "item"]) (sc := defScope sLeases) (by decide +kernel))
        (fun _ _ _ _ _ => pg_name (i := 1) scLeases.nd rfl (Or.inl rfl)) (fun _ _ _ _ _ => pts_nil) (fun _ _ _ _ _ => pe_slice (show SlR _ (rSlA K) from sl_tupA) (pv 1) po_none (po_some pe_int))) pa_nil)))), ?_⟩
  refine s_if (b := !true || !true) (et_or (et_not (et_B (ev_isiT (ev_var rfl) ha kitTT))) fun _ => et_not (et_B (ev_cb1 (lc_nil (ev_var rfl) ha) fun p H1 hp e Q q => ⟨p, [], rfl, sq_of hp, q H1 (Ex.refl H1)⟩))) (fun q => by cases q) (fun q H1 e => ?_)
  dsimp only [tNext]
  refine ret1' ?_
  refine call1X ?_
  refine cons1 ?_
  refine (lc_nil (σ := [some (.ref a), none]) (ev_var rfl) (sqt_ex e ha)) H1 (Ex.refl H1) _ fun p H2 hp e2 h2 => ?_
  exact asc_tkL (kss := []) h2 .nil (fun _ h => by cases h) (Nat.zero_le _) _ (fun H3 e3 => k H3 ((e.trans e2).trans e3)) E0
/-! ### is_table of a bare row -/
def spTabB (K : PySem.W.Frag) : Sp := fun vs H Q _ => ∃ (x : V) (c : Int), vs = [x] ∧ Br K H x c ∧ 0 ≤ c ∧ c ≤ 10 ∧ ∀ H', Same H H' → Q (.bl true) H'
theorem ok_tabB {f f1 f2 f3 f4 f5 f6 f7 : Addr} {fd d1 d2 d3 d4 d5 d6 d7 : FuncData} (D : Df K mg "is_table" sTable ["thing"] f fd) (S : Bs K mg C) (N : Ct mg) (D1 : Df K mg "is_tuple_of" sTO ["many", "thing"] f1 d1) (JC : Jd P wd K mg base C 2 "is_count" "thing" f2 d2 gCnt)
    (D3 : Df K mg "_are_leases" sLeases ["thing"] f3 d3) (G3 : FnOk P wd K mg base CX0 6 f3 d3 ["thing"] (spLs0 K)) (D4 : Df K mg "is_stamp" sStamp ["thing"] f4 d4) (G4 : FnOk P wd K mg base CX0 3 f4 d4 ["thing"] (spSt0 K)) (JV : Jd P wd K mg base C 5 "is_vote" "thing" f5 d5 gVote) (JM : Jd P wd K mg base C 4 "is_members" "thing" f6 d6 gMembers)
    (JK : Jw P wd K mg base C 7 "_are_kept" "parts" f7 d7 OkK gKept) : FnOk P wd K mg base CX0 8 f fd ["thing"] (spTabB K) := by
  have G1 : FnOk P wd K mg base CX0 1 f1 d1 ["many", "thing"] (spTOq K) := ok_TOq D1 S
  refine D.F.ok scTable (fun vs H Q E h => ?_) (fun cdv A outer s H vs Q E hr h => ?_)
  · obtain ⟨x, c, rfl, _⟩ := h
    rfl
  obtain ⟨x, c, rfl, ⟨a, m, h1, h2, b, l, p, rfl, ha, hm, hh1, hh2, hb, hl, hp⟩, hc, hc2, k⟩ := h
  refine ⟨_, pss_cons (ps_if (pt_not (pt_val (pe_call G1 (hr.mono (by decide)) (by rfl) D1.g D1.F.kp D1.b .nil pass0 (pa_cons (pe_gi (by rfl) N.many) (pa_cons (pv 0) pa_nil))))) (pss_one (ps_ret pe_bl)) pss_nil)
    (pss_cons (ps_if (PW.pt (pw_or (pt_not (pt_val (pe_J JC hr (by decide) (by rfl) pass0 (pe_ix (show IxR _ (rIxT K) from ix_tup) (pv 0) (pe_gi (by rfl) N.p3) (fun _ _ => rfl))))) (pw_or1 (pt_not (pt_val (pe_call G3 (hr.mono (by decide)) (by rfl) D3.g D3.F.kp D3.b .nil pass0 (pa_cons (pe_ix (show IxR _ (rIxT K) from ix_tup) (pv 0) (pe_gi (by rfl) N.p6) (fun _ _ => rfl)) pa_nil))))))) (pss_one (ps_ret pe_bl)) pss_nil)
    (pss_cons (ps_if (PW.pt (pw_or (pt_not (pt_val (pe_call G4 (hr.mono (by decide)) (by rfl) D4.g D4.F.kp D4.b .nil pass0 (pa_cons (pe_ix (show IxR _ (rIxT K) from ix_tup) (pv 0) (pe_gi (by rfl) N.p7) (fun _ _ => rfl)) pa_nil)))) (pw_or1 (pt_not (pt_val (pe_J JV hr (by decide) (by rfl) pass0 (pe_ix (show IxR _ (rIxT K) from ix_tup) (pv 0) (pe_gi (by rfl) N.p8) (fun _ _ => rfl)))))))) (pss_one (ps_ret pe_bl)) pss_nil)
    (pss_cons (ps_if (PW.pt (pw_and (pt_cmpR op_notN1 (pe_ix (show IxR _ (rIxT K) from ix_tup) (pv 0) (pe_gi (by rfl) N.p9) (fun _ _ => rfl)) pe_non (nomark _)) (pw_and1 (pt_not (pt_val (pe_J JM hr (by decide) (by rfl) pass0 (pe_ix (show IxR _ (rIxT K) from ix_tup) (pv 0) (pe_gi (by rfl) N.p9) (fun _ _ => rfl)))))))) (pss_one (ps_ret pe_bl)) pss_nil)
    (pss_cons (ps_set (i := 1) scTable.nd rfl (.inl rfl) (pe_tupF (pa_cons (pe_ix (show IxR _ (rIxT K) from ix_tup) (pv 0) (pe_gi (by rfl) N.p1) (fun _ _ => rfl)) (pa_cons (pe_ix (show IxR _ (rIxT K) from ix_tup) (pv 0) (pe_gi (by rfl) N.p2) (fun _ _ => rfl)) (pa_cons (pe_ix (show IxR _ (rIxT K) from ix_tup) (pv 0) (pe_gi (by rfl) N.p4) (fun _ _ => rfl)) (pa_cons (pe_ix (show IxR _ (rIxT K) from ix_tup) (pv 0) (pe_gi (by rfl) N.p5) (fun _ _ => rfl)) pa_nil))))))
    (pss_cons (ps_if (pt_cmpR (op_eqI (room_hu hr)) (pe_ix (show IxR _ (rIxT K) from ix_tup) (pv 0) (pe_gi (by rfl) N.p0) (fun _ _ => rfl)) (pe_un un_neg pe_int) (nomark _)) (pss_one (ps_ret (pe_cmpR (op_eqNs (room_hu hr)) (pv 1) (pe_tup (pa_cons (pe_tup pa_nil) (pa_cons (pe_tup pa_nil) (pa_cons (pe_tup pa_nil) (pa_cons (pe_tup pa_nil) pa_nil))))) (nomark _)))) pss_nil)
    (pss_one (ps_ret (pe_and (pe_J JC hr (by decide) (by rfl) pass0 (pe_ix (show IxR _ (rIxT K) from ix_tup) (pv 0) (pe_gi (by rfl) N.p0) (fun _ _ => rfl))) (pe_one (pe_Jw JK hr (by decide) (by rfl) pass0 (pv 1))))))))))), ?_⟩
  have it : ∀ {G : Hp} {τ : L2.St} (i : Nat) {y : V}, Ex H G → τ[0]? = some (some (.ref a)) → ([.int (-1), .ref m, .ref h1, .int c, .ref h2, .ref b, .ref l, .ref p, .non, .non] : List V)[i]? = some y → Ev (tOp (rIxT K) (tVar 0) (tC (.int (i : Int)))) τ G y := fun i y e h0 hy => ev_op (ev_var h0) ev_c (rv_ixT (sqt_ex e ha) (atI_nat (j := i) hy))
  refine q_when (b := !true) (et_not (et_B (ev_call (ea_cons ev_c (ea_cons (ev_var rfl) ea_nil)) fun G e Q q E => ⟨10, a, _, rfl, sqt_ex e ha, fun H' s => q H' s⟩))) (fun q => by cases q) (fun _ H1 e1 => ?_)
  have fc : Fine (.int c) := ⟨by simp [wt], by simp only [clean]; omega⟩
  have fn : Fine .non := ⟨by simp [wt], trivial⟩
  refine q_when (b := !gCnt (.int c) || !true) (et_or (et_not (et_B (ev_J (w := a) (it 3 e1 rfl rfl) (.int c) fc))) fun _ => et_not (et_B (ev_call (ea_cons (it 6 e1 rfl rfl) ea_nil) fun G e Q q E => ⟨l, rfl, sqt_ex (e1.trans e) hl, q⟩))) (fun q => by rw [cnt_of hc] at q; cases q) (fun _ H2 e2 => ?_)
  have e12 := e1.trans e2
  refine q_when (b := !true || !gVote .non) (et_or (et_not (et_B (ev_call (ea_cons (it 7 e12 rfl rfl) ea_nil) fun G e Q q E => ⟨p, rfl, sqt_ex (e12.trans e) hp, q⟩))) fun _ => et_not (et_B (ev_J (w := a) (it 8 e12 rfl rfl) .non fn))) (fun q => by cases q) (fun _ H3 e3 => ?_)
  have e13 := e12.trans e3
  refine q_when (b := false && !gMembers .non) (et_and (et_test (ev_is (ev_op (it 9 e13 rfl rfl) ev_c fun G eg Q q => ⟨rfl, q G (Ex.refl G)⟩) (by rfl))) fun q => Bool.noConfusion q) (fun q => by cases q) (fun _ H4 e4 => ?_)
  have e14 := e13.trans e4
  refine q_asgF (us := [.non]) (ea_cons (it 1 e14 rfl rfl) (ea_cons (it 2 e14 rfl rfl) (ea_cons (it 4 e14 rfl rfl) (ea_cons (it 5 e14 rfl rfl) ea_nil)))) (by show (4 : Nat) ≤ 100000; decide) fun pk H5 hpk e5 hk => ?_
  have e15 := e14.trans e5
  refine q_when (b := isM1 (.int (-1))) (et_test (ev_op (it 0 e15 rfl rfl) (ev_un ev_c ru_neg) (rv_m1 (C := C) (w := a) S.q (.int (-1))))) (fun q5 H6 e6 => ?_) (fun q => by cases q)
  refine s_ret (v := .bl true) (fun G eg Q q => ⟨_, rfl, four_nils (Ex.refl G) fun p c1 c2 c3 c4 G' e7 hp hc => ?_⟩) fun H7 e7 => k H7 ((e15.trans e6).trans e7)
  have ee := (e6.trans eg).trans e7
  have e0 := e15.trans ee
  exact ⟨pk, p, _, [c1, c2, c3, c4], [true, true, true, true], rfl, rfl, Tu.st (Tu.ex ee hk), st_of hp, fun c hc' => st_of (hc c hc'), rfl,
    .cons (.tup (sqt_ex e0 hm)) (.cons (.tup (sqt_ex e0 hh1)) (.cons (.tup (sqt_ex e0 hh2)) (.cons (.tup (sqt_ex e0 hb)) .nil))), q G' e7⟩
end
end Hs
/-! what install, stand, tick, rise, collect make of the bare table -/
namespace Hs
open PySem PySem.Spec PyProof.Rows L2 Hu Evl
open Hk (SI ltSI nearOk)
/-- a right table, in whatever it stands -/
def TabV (K : PySem.W.Frag) (C : Addr) (H : Hp) (v : V) : Prop := (∃ w u, At w C H v u ∧ TabR u ∧ ∃ o, H w = some o) ∨ (∃ c, 0 ≤ c ∧ c ≤ 10 ∧ Br K H v c)
theorem TabV.ex {K : PySem.W.Frag} {C : Addr} {H H' : Hp} {v : V} (e : Ex H H') : TabV K C H v → TabV K C H' v
  | .inl ⟨w, u, a, r, hw⟩ => .inl ⟨w, u, ex_at e a, r, hw.imp fun o z => e _ _ z⟩
  | .inr ⟨c, h1, h2, b⟩ => .inr ⟨c, h1, h2, b.ex e⟩
def bareL (c : Int) : List U := [.int (-1), .tup [], .tup [], .int c, .tup [], .tup [], .tup [], .tup [.int 0, .int 0], .non, .non]
section
variable {P : Program} {wd : World} {K : PySem.W.Frag} {mg : Str → Option Value} {base : Heap} {C : Addr}
/-- a doing of the bare table -/
def spDgR (K : PySem.W.Frag) (C : Addr) (z : Str) (R : Addr → List U → Hp → V → Prop) : Sp := fun vs H Q _ => ∃ (x y : V) (ps : List U) (w : Addr), vs = [x, y] ∧ Br K H x 0 ∧ At w C H y (.tup ps) ∧ (∃ l, H w = some (.lst l)) ∧ DgIn (bareL 0) ps z ∧ ∀ v H', Same H H' → R w ps H' v → Q v H'
abbrev RI (C : Addr) : Addr → List U → Hp → V → Prop := fun w ps H v => At w C H v (.tup (fInst (bareL 0) ps))
theorem lenDgB {z a b : Str} {R : Addr → List U → Hp → V → Prop} : ∀ vs H Q E, spDgR K C z R vs H Q E → vs.length = [a, b].length := fun vs H Q E h => by
  obtain ⟨x, y, ps, w, rfl, _⟩ := h
  rfl
theorem ok_instI {f : Addr} {fd : FuncData} (D : Df K mg "_installed" sInst5 ["table", "parts"] f fd) (N : Ct mg) : FnOk P wd K mg base CX0 2 f fd ["table", "parts"] (spDgR K C "install" (RI C)) := by
  refine D.F.ok scInst5 lenDgB (fun cdv A outer s H vs Q E hr h => ?_)
  obtain ⟨x, y, ps, w, rfl, ⟨a, m, h1, h2, b, l, p, rfl, ha, _⟩, hy, hl, hd, k⟩ := h
  have hw : ∃ o, H w = some o := hl.elim fun l h => ⟨_, h⟩
  refine ⟨_, pss_cons (ps_asg (pv 1) (pg_tup rfl (pgs_cons (pg_name (i := 2) scInst5.nd rfl (.inl rfl)) (pgs_cons (pg_name (i := 3) scInst5.nd rfl (.inl rfl)) (pgs_cons (pg_name (i := 4) scInst5.nd rfl (.inl rfl)) (pgs_cons (pg_name (i := 5) scInst5.nd rfl (.inl rfl)) (pgs_cons (pg_name (i := 6) scInst5.nd rfl (.inl rfl)) pgs_nil)))))))
    (pss_one (ps_ret (pe_tupF (pa_cons (pv 2) (pa_cons (pv 3) (pa_cons (pv 4) (pa_cons (pe_ix (show IxR _ (rIxT K) from ix_tup) (pv 0) (pe_gi (by rfl) N.p3) (fun _ _ => rfl)) (pa_cons (pv 5) (pa_cons (pv 6) (pa_cons (pe_tupF pa_nil) (pa_cons (pe_tupF (pa_cons pe_int (pa_cons pe_int pa_nil))) (pa_cons pe_non (pa_cons pe_non pa_nil))))))))))))), ?_⟩
  obtain ⟨hp, r⟩ := dg_inst hd
  obtain ⟨pa, ys, rfl, hpa, _, hys⟩ := at_tup hy
  obtain ⟨p0, p1, p2, p3, p4, rfl⟩ : ∃ p0 p1 p2 p3 p4, ps = [p0, p1, p2, p3, p4] := by
    clear r hd hys hpa hy
    match ps, hp with
    | [p0, p1, p2, p3, p4], _ => exact ⟨p0, p1, p2, p3, p4, rfl⟩
  clear r hd
  obtain ⟨y0, y1, y2, y3, y4, rfl, a0, a1, a2, a3, a4⟩ : ∃ y0 y1 y2 y3 y4, ys = [y0, y1, y2, y3, y4] ∧ At w C H y0 p0 ∧ At w C H y1 p1 ∧ At w C H y2 p2 ∧ At w C H y3 p3 ∧ At w C H y4 p4 := by
    cases hys with
    | cons a0 r => cases r with
      | cons a1 r => cases r with
        | cons a2 r => cases r with
          | cons a3 r => cases r with
            | cons a4 r =>
              cases r
              exact ⟨_, _, _, _, _, rfl, a0, a1, a2, a3, a4⟩
  refine ⟨_, rfl, pa, _, rfl, Tu.st hpa, rfl, _, _, rfl, _, _, rfl, _, _, rfl, _, _, rfl, _, _, rfl, rfl, ?_⟩
  dsimp only [gName]
  have i3 : Ev (tOp (rIxT K) (tVar 0) (tC (.int 3))) [some (.ref a), some (.ref pa), some y0, some y1, some y2, some y3, some y4] H (.int 0) := ev_op (ev_var rfl) ev_c (rv_ixT ha (atI_nat (j := 3) rfl))
  have main := ed_tup (C := C) (w := w) hw (eds_cons (ed_ev (te := tVar 2) (σ := [some (.ref a), some (.ref pa), some y0, some y1, some y2, some y3, some y4]) (ev_var rfl) a0) (eds_cons (ed_ev (te := tVar 3) (ev_var rfl) a1) (eds_cons (ed_ev (te := tVar 4) (ev_var rfl) a2) (eds_cons (ed_ev i3 (.int 0)) (eds_cons (ed_ev (te := tVar 5) (ev_var rfl) a3) (eds_cons (ed_ev (te := tVar 6) (ev_var rfl) a4) (eds_cons (ed_tup hw eds_nil (by decide)) (eds_cons (ed_tup hw (eds_cons (ed_ev (te := tC (.int 0)) ev_c (.int 0)) (eds_cons (ed_ev (te := tC (.int 0)) ev_c (.int 0)) eds_nil)) (by decide)) (eds_cons (ed_ev (te := tC .non) ev_c .non) (eds_cons (ed_ev (te := tC .non) ev_c .non) eds_nil)))))))))) (by show (10 : Nat) ≤ 100000; decide)
  exact main H (Ex.refl H) _ fun v H5 e5 a5 => k v H5 e5 a5
end
end Hs
/-! done of any right table and deed; behind -/
namespace Hs
open PySem PySem.Spec PyProof.Rows L2 Hu Evl
open Hk (SI ltSI nearOk PZ)
section
variable {P : Program} {w : World} {K : PySem.W.Frag} {mg : Str → Option Value} {base : Heap} {CX : CXT} {k : Nat} {f : Addr} {fd : FuncData} {ps : List Str} {sp : Sp}
theorem FnOk.cases (h : ∀ vs H Q E, sp vs H Q E → ∃ sp', FnOk P w K mg base CX k f fd ps sp' ∧ sp' vs H Q E) : FnOk P w K mg base CX k f fd ps sp :=
  ⟨fun vs H Q E q => (h vs H Q E q).elim fun _ q' => q'.1.len _ _ _ _ q'.2, fun A outer s H args us vs Q E hr he hb hv q => (h vs H Q E q).elim fun _ q' => q'.1.run A outer s H args us vs Q E hr he hb hv q'.2⟩
end
/-- a table, or what is none, in whatever it stands: whether right; whether bare -/
def TabIn (K : PySem.W.Frag) (w C : Addr) (H : Hp) (x : V) (r n : Bool) : Prop := (∃ u, At w C H x u ∧ Fine u ∧ Sm u ∧ gTable u = r ∧ (r = true → Wu u TM 2 ∧ n = isM1 (nth u 0))) ∨ (Br K H x 0 ∧ r = true ∧ n = true)
theorem TabIn.ex {K : PySem.W.Frag} {w C : Addr} {H H' : Hp} {x : V} {r n : Bool} (e : Ex H H') : TabIn K w C H x r n → TabIn K w C H' x r n
  | .inl ⟨u, a, h⟩ => .inl ⟨u, ex_at e a, h⟩
  | .inr ⟨b, h⟩ => .inr ⟨b.ex e, h⟩
section
variable {P : Program} {wd : World} {K : PySem.W.Frag} {mg : Str → Option Value} {base : Heap} {C : Addr}
def spTabC (K : PySem.W.Frag) (C : Addr) : Sp := fun vs H Q _ => ∃ (x : V) (r : Bool) (w : Addr), vs = [x] ∧ (∃ o, H w = some o) ∧ ((∃ u, At w C H x u ∧ Fine u ∧ Sm u ∧ gTable u = r) ∨ (r = true ∧ ∃ c, 0 ≤ c ∧ c ≤ 10 ∧ Br K H x c)) ∧ ∀ H', Same H H' → Q (.bl r) H'
theorem ok_tabC {f : Addr} {fd : FuncData} (J : Jw P wd K mg base C 8 "is_table" "thing" f fd Sm gTable) (G : FnOk P wd K mg base CX0 8 f fd ["thing"] (spTabB K)) : FnOk P wd K mg base CX0 8 f fd ["thing"] (spTabC K C) := FnOk.cases fun vs H Q E ⟨x, r, w, e, hw, h, k⟩ => by
  rcases h with ⟨u, a, fi, sm, g⟩ | ⟨g, c, h1, h2, b⟩
  · exact ⟨_, J.ok, x, u, w, e, a, fi, sm, hw, by rw [g]; exact k⟩
  · subst g
    exact ⟨_, G, x, c, e, b, h1, h2, k⟩
/-- done, of the bare table -/
def spDnR (K : PySem.W.Frag) (C : Addr) (z : Str) (R : Addr → List U → Hp → V → Prop) : Sp := fun vs H Q _ => ∃ (x y : V) (ps : List U) (w : Addr), vs = [x, y] ∧ Br K H x 0 ∧ At w C H y (.tup (.str z :: ps)) ∧ (∃ l, H w = some (.lst l)) ∧ DgIn (bareL 0) ps z ∧ ∀ v H', Same H H' → R w ps H' v → Q v H'
theorem ok_doneB {f fG a : Addr} {fd dG : FuncData} {z : Str} {R : Addr → List U → Hp → V → Prop} (D : Df K mg "done" sDone ["table", "deed"] f fd) (hg : mg "DOINGS" = some (.ref a)) (hk : KDct K wd a z (.ref fG)) (kp : PySem.W.keepIn K (.ref fG) = true) (bG : Binds K dG ["table", "parts"] [])
    (G : FnOk P wd K mg base CX0 3 fG dG ["table", "parts"] (spDgR K C z R)) : FnOk P wd K mg base CX0 4 f fd ["table", "deed"] (spDnR K C z R) := by
  refine D.F.ok scDone (fun vs H Q E h => ?_) (fun cdv A outer s H vs Q E hr h => ?_)
  · obtain ⟨x, y, ps, w, rfl, _⟩ := h
    rfl
  obtain ⟨x, y, ps, w, rfl, hx, hy, hl, hd, q⟩ := h
  have hw : ∃ o, H w = some o := hl.elim fun l h => ⟨_, h⟩
  refine ⟨_, pss_cons (ps_set (i := 2) scDone.nd rfl (.inl rfl) (pe_ix ix_kdict (pe_glob (v := .ref a) (by rfl) hg rfl) (pe_ix ix_tup (pv 1) pe_int (fun _ _ => rfl)) (fun _ _ => rfl)))
    (pss_one (ps_ret (pe_callL (i := 2) G hr rfl (.inl rfl) kp bG .nil pass0 (pa_cons (pv 0) (pa_cons (pe_slice sl_tupF (pv 1) (po_some pe_int) po_none) pa_nil))))), ?_⟩
  obtain ⟨b, xs, rfl, hb, nb, hls⟩ := at_tup hy
  obtain ⟨x0, xr, rfl, h0⟩ : ∃ x0 xr, xs = x0 :: xr ∧ x0 = .str z := by
    cases hls with
    | cons h1 h2 => exact ⟨_, _, rfl, at_str h1⟩
  subst h0
  refine q_asg (v := .ref fG) (ev_op ev_c (ev_ixT (j := 0) (ev_var rfl) hb rfl) fun G1 e Q q => ⟨a, z, .ref fG, rfl, rfl, hk, q G1 (Ex.refl G1)⟩) fun H1 e1 => ?_
  refine ⟨rfl, x, rfl, ?_⟩
  refine (ed_slice (K := K) (hw.imp fun o z => e1 _ _ z) (ev_var rfl) (Tu.ex e1 hb) nb (ex_atl e1 hls) (eo_some ev_c) eo_none) H1 (Ex.refl H1) _ fun v2 H2 e2 a2 => ?_
  rw [cut_one] at a2
  exact ⟨x, v2, ps, w, rfl, hx.ex (e1.trans e2), a2, hl.imp fun l h => (e1.trans e2) _ _ h, hd, fun v H' s a => q v H' ((e1.trans e2).trans s) a⟩
theorem bareL_wu : Wu (.tup (bareL 0)) TM 2 := ⟨by simp only [bareL, wt, wtL]; decide, by simp only [bareL, tidy, tidyL, and_true]; decide⟩
end
end Hs
/-! behind; told; holds -/
namespace Hs
open PySem PySem.Spec PyProof.Rows L2 Hu Evl
open Hk (SI ltSI nearOk PZ)
section
variable {P : Program} {wd : World} {K : PySem.W.Frag} {mg : Str → Option Value} {base : Heap} {C : Addr}
theorem Wu.fine {u : U} (h : Wu u DM 2) : Fine u := ⟨Nat.le_trans h.w (by decide), tidy_clean (by decide) _ h.c⟩
theorem Wu.sm {u : U} (h : Wu u DM 2) : Sm u := Nat.le_trans h.w (by decide)
/-! ### told -/
/-! ### holds -/
end
end Hs
/-! behind of the bare table and an install, just what it tells; bare_table -/
namespace Hs
open PySem PySem.Spec PyProof.Rows L2 Hu Evl
open Hk (SI ltSI nearOk PZ)
abbrev sBareT : Stmt := topS 57
section
variable {P : Program} {wd : World} {K : PySem.W.Frag} {mg : Str → Option Value} {base : Heap} {C : Addr}
/-- the bare table of the text -/
def BareK (K : PySem.W.Frag) (mg : Str → Option Value) (a : Addr) : Prop := mg "BARE" = some (.ref a) ∧ ∀ H, Br K H (.ref a) 0
def spBare (a : Addr) : Sp := fun vs H Q _ => vs = [] ∧ ∀ H', Same H H' → Q (.ref a) H'
theorem scBareT : FnScope [] [] (defScope sBareT) := ⟨rfl, rfl, rfl, by decide +kernel, rfl, by decide +kernel, by decide +kernel⟩
theorem ok_bare {f a : Addr} {fd : FuncData} (D : Df K mg "bare_table" sBareT [] f fd) (Bk : BareK K mg a) : FnOk P wd K mg base CX0 1 f fd [] (spBare a) := by
  refine D.F.ok scBareT (fun vs H Q E h => ?_) (fun cdv A outer s H vs Q E hr h => ?_)
  · obtain ⟨rfl, _⟩ := h
    rfl
  obtain ⟨rfl, k⟩ := h
  refine ⟨_, pss_one (ps_ret (pe_glob (v := .ref a) (by rfl) Bk.1 rfl)), ?_⟩
  exact k H fun _ _ h => h
def spBehI (K : PySem.W.Frag) (C : Addr) : Sp := fun vs H Q _ => ∃ (x y : V) (ps : List U) (w : Addr), vs = [x, y] ∧ Br K H x 0 ∧ At w C H y (.tup (.str "install" :: ps)) ∧ (∃ l, H w = some (.lst l)) ∧ gRestL "install" (.tup ps) = true ∧ Wu (.tup (.str "install" :: ps)) DM 2 ∧ ∀ v H', Same H H' → At w C H' v (.tup (fInst (bareL 0) ps)) → Q v H'
theorem ok_behI {f f1 f2 f3 f4 : Addr} {fd d1 d2 d3 d4 : FuncData} (D : Df K mg "behind" sBehind ["table", "deed"] f fd) (D1 : Df K mg "is_table" sTable ["thing"] f1 d1) (G1 : FnOk P wd K mg base CX0 8 f1 d1 ["thing"] (spTabC K C)) (JD : Jw P wd K mg base C 10 "is_deed" "thing" f2 d2 Sm (gDeed dT))
    (D3 : Df K mg "lets" sLets ["table", "deed"] f3 d3) (G3 : FnOk P wd K mg base CX0 1 f3 d3 ["table", "deed"] (spLets5 K)) (D4 : Df K mg "done" sDone ["table", "deed"] f4 d4) (G4 : FnOk P wd K mg base CX0 4 f4 d4 ["table", "deed"] (spDnR K C "install" (RI C))) :
    FnOk P wd K mg base CX0 11 f fd ["table", "deed"] (spBehI K C) := by
  refine D.F.ok scBehind (fun vs H Q E h => ?_) (fun cdv A outer s H vs Q E hr h => ?_)
  · obtain ⟨x, y, ps, w, rfl, _⟩ := h
    rfl
  obtain ⟨x, y, ps, w, rfl, hx, hy, hl, hr', wd', k⟩ := h
  have hw : ∃ o, H w = some o := hl.elim fun l h => ⟨_, h⟩
  refine ⟨_, pss_cons (ps_if (pt_not (pt_val (pe_call G1 (hr.mono (by decide)) (by rfl) D1.g D1.F.kp D1.b .nil pass0 (pa_cons (pv 0) pa_nil)))) pss_dead pss_nil)
    (pss_cons (ps_if (PW.pt (pw_or (pt_not (pt_val (pe_Jw JD hr (by decide) (by rfl) pass0 (pv 1)))) (pw_or1 (pt_not (pt_val (pe_call G3 (hr.mono (by decide)) (by rfl) D3.g D3.F.kp D3.b .nil pass0 (pa_cons (pv 0) (pa_cons (pv 1) pa_nil)))))))) pss_dead pss_nil)
    (pss_one (ps_ret (pe_call G4 (hr.mono (by decide)) (by rfl) D4.g D4.F.kp D4.b .nil pass0 (pa_cons (pv 0) (pa_cons (pv 1) pa_nil)))))), ?_⟩
  have tab : Ev (tCall (spTabC K C) [] E0 (tCons (tVar 0) tNil)) [some x, some y] H (.bl true) := ev_call (ea_cons (ev_var rfl) ea_nil) fun G e Q q E => ⟨x, true, w, rfl, hw.imp fun o z => e _ _ z, .inr ⟨rfl, 0, by decide, by decide, hx.ex e⟩, q⟩
  refine q_when (b := !true) (et_not (et_B tab)) (fun q => by cases q) (fun q H1 e1 => ?_)
  have gd : gDeed dT (.tup (.str "install" :: ps)) = true := by
    rw [gDeed_eq]
    exact hr'
  obtain ⟨a, m, h1, h2, b, l, p, rfl, ha, rest⟩ := id hx
  obtain ⟨pb, ys, rfl, hpb, _, hls⟩ := at_tup (ex_at e1 hy)
  obtain ⟨v0, hv0, a0⟩ := AtL.get (i := 0) hls rfl
  cases at_str a0
  refine q_when (b := !gDeed dT (.tup (.str "install" :: ps)) || !letsB (-1) "install") (et_or (et_not (et_B (ev_Jw (ev_var rfl) (ex_at e1 hy) wd'.fine wd'.sm (hw.imp fun o z => e1 _ _ z)))) fun _ => et_not (et_B (ev_call (ea_cons (ev_var rfl) (ea_cons (ev_var rfl) ea_nil)) fun G e Q q E => ⟨a, pb, _, ys, -1, "install", rfl, sqt_ex (e1.trans e) ha, rfl, Tu.st (Tu.ex e hpb), hv0, q⟩))) (fun q H2 e2 => ?_) (fun q H2 e2 => ?_)
  · rw [gd, show letsB (-1) "install" = true by decide +kernel] at q
    cases q
  · have e12 := e1.trans e2
    have wps : Wu (.tup ps) DM 2 := by
      have w1 := wd'.w
      have c1 := wd'.c
      simp only [wt, wtL] at w1
      simp only [tidy, tidyL] at c1
      exact ⟨by simp only [wt]; omega, by simp only [tidy]; exact c1.2⟩
    refine ret1' ?_
    exact callQ (ea_cons (ev_var rfl) (ea_cons (ev_var rfl) ea_nil)) fun H3 e3 => ⟨.ref a, _, ps, w, rfl, hx.ex (e12.trans e3), ex_at (e12.trans e3) hy, hl.imp fun l h => (e12.trans e3) _ _ h, ⟨by decide, bareL_wu, hr', wps⟩, fun v H' s av => k v H' ((e12.trans e3).trans s) av⟩
end
end Hs
/-! led_blocks, is_closed: NoTable of what is no table -/
namespace Hs
open PySem PySem.Spec PyProof.Rows L2 Hu Evl
open Hk (SI ltSI nearOk)
abbrev sLedBlocks : Stmt := topS 90
abbrev sClosed : Stmt := topS 87
def closedU (u : U) : Bool := (ledPs (hsOf u)).all fun q => decide (q ∈ (bsOf u).map fun b => idP (nth b 0))
def spLBl (C CT : Addr) : Sp := fun vs H Q E => ∃ (v : V) (u : U) (w : Addr), vs = [v] ∧ At w C H v u ∧ Fine u ∧ Sm u ∧ (∃ o, H w = some o) ∧ (gTable u = true → ∀ y H', Same H H' → At w C H' y (ledU u) → Q y H') ∧ (gTable u = false → ∀ H', Same H H' → E (.ref CT) none H')
def spCl (C CT : Addr) : Sp := fun vs H Q E => ∃ (v : V) (u : U) (w : Addr), vs = [v] ∧ At w C H v u ∧ Fine u ∧ Sm u ∧ (∃ o, H w = some o) ∧ (gTable u = true → ∀ H', Same H H' → Q (.bl (closedU u)) H') ∧ (gTable u = false → ∀ H', Same H H' → E (.ref CT) none H')
section
variable {σ : L2.St} {H : Hp} {te : TE} {ta : TA} {Q : VK} {D : Ends} {vs : List V} {sp : Sp} {E : XK} {r : List V → Hp → VK → Prop} {R : It → Hp → Prop} {R2 : List V → Hp → Prop} {tz : TS} {i : Nat}
theorem ret1 (h : te σ H fun v H' => D.rt v H') : tRet te D σ H := h
theorem cb1 (h : ta σ H fun vs H1 => r vs H1 Q) : tCB r ta σ H Q := h
theorem frz1 (h : te σ H fun x H1 => ∃ d u, x = .ref d ∧ H1 d = some u ∧ Mut (some u) ∧ ∀ od, Q x (upd H1 d (.frz od u))) : tFrz te σ H Q := h
theorem keys1 (h : te σ H fun x H1 => ∃ d o, x = .ref d ∧ ((∃ kvs, H1 d = some (.frz o (.dK kvs)) ∧ R (Itk d o kvs) H1) ∨ ∃ kvs, H1 d = some (.frz o (.dT kvs)) ∧ R (Itkt d o kvs) H1)) : iKeys te σ H R := h
theorem asg1 (h : te σ H fun v H' => tz D (σ.set i (some v)) H') : tSeq (tAsg te (gName i)) tz D σ H := h
theorem call1 (ha : EvA ta σ H vs) (k : ∀ H2, Ex H H2 → sp (vs ++ []) H2 Q E) : tCall sp [] E ta σ H Q := ha H (Ex.refl H) _ k
theorem cbA (ha : EvA ta σ H vs) (k : ∀ H2, Ex H H2 → r vs H2 Q) : tCB r ta σ H Q := ha H (Ex.refl H) _ k
end
section
variable {P : Program} {wd : World} {K : PySem.W.Frag} {mg : Str → Option Value} {base : Heap} {C : Addr}
theorem scLedBlocks : FnScope ["table"] ["table"] (defScope sLedBlocks) := ⟨rfl, rfl, rfl, by decide +kernel, rfl, by decide +kernel, by decide +kernel⟩
theorem ok_ledBlocks {f f1 f2 f3 CT : Addr} {fd d1 d2 d3 : FuncData} (D : Df K mg "led_blocks" sLedBlocks ["table"] f fd) (B : Bt mg) (N : Ct mg) (JT : Jw P wd K mg base C 8 "is_table" "thing" f1 d1 Sm gTable) (D2 : Df K mg "led_by" sLedBy ["heads", "blocks"] f2 d2) (D3 : Df K mg "led_ids" sLedIds ["heads"] f3 d3) (EC : Ec K mg "NoTable" CT) :
    FnOk P wd K mg base (L2.CX P wd) 9 f fd ["table"] (spLBl C CT) := by
  have G2 : FnOk P wd K mg base CX0 2 f2 d2 ["heads", "blocks"] (spBy2 C) := ok_ledBy D2 B D3
  refine D.F.okX scLedBlocks (fun vs H Q E h => ?_) (fun cdv A outer s H vs Q E hr h => ?_)
  · obtain ⟨v, u, w, rfl, _⟩ := h
    rfl
  obtain ⟨v, u, w, rfl, hat, fi, sm, hw, k, kE⟩ := h
  refine ⟨_, pss_cons (ps_if (pt_not (pt_val (pe_Jw JT hr (by decide) (by rfl) pass0 (pv 0)))) (pss_one (ps_raise rfl (takes_of rfl rfl rfl rfl) (pmk_own0 PySem.F.excBase_ValueError EC.x EC.g EC.k (raises_own EC.b EC.t) rfl))) pss_nil)
      (pss_one (ps_ret (pe_call (G2.mono (by decide : 2 ≤ 8)) hr (by rfl) D2.g D2.F.kp D2.b .nil pass0 (pa_cons (pe_ix ix_tup (pv 0) (pe_gi (by rfl) N.p4) (fun _ _ => rfl)) (pa_cons (pe_ix ix_tup (pv 0) (pe_gi (by rfl) N.p5) (fun _ _ => rfl)) pa_nil))))), ?_⟩
  refine q_when (et_not (et_B (ev_Jw (ev_var rfl) hat fi sm hw))) (fun q H1 e => ?_) (fun q H1 e => ?_)
  · rw [Bool.not_eq_true'] at q
    exact kE q H1 e
  · rw [Bool.not_eq_false'] at q
    obtain ⟨hs, bs, T⟩ := gTable_has q
    obtain ⟨y4, e4, a4⟩ := ev_nth (K := K) (σ := [some v]) (te := tVar 0) (k := 4) (ev_var rfl) (ex_at e hat) T.t (by decide)
    obtain ⟨y5, e5, a5⟩ := ev_nth (K := K) (σ := [some v]) (te := tVar 0) (k := 5) (ev_var rfl) (ex_at e hat) T.t (by decide)
    rw [T.h] at a4
    rw [T.b] at a5
    refine ret1 ?_
    refine call1 (ea_cons e4 (ea_cons e5 ea_nil)) fun H2 e2 => ⟨y4, y5, hs, bs, w, rfl, ex_at e2 a4, ex_at e2 a5, T.ha, T.ba, T.hlen sm, T.blen sm, hw.imp fun o z => (e.trans e2) _ _ z, fun r H3 s3 a3 => k q r H3 ((e.trans e2).trans s3) ?_⟩
    unfold ledU
    rw [T.hs, T.bs]
    exact a3
theorem scClosed : FnScope ["table", "here", "block_id"] ["table"] (defScope sClosed) := ⟨rfl, rfl, rfl, by decide +kernel, rfl, by decide +kernel, by decide +kernel⟩
theorem ok_closed {f f1 f3 CT : Addr} {fd d1 d3 : FuncData} (D : Df K mg "is_closed" sClosed ["table"] f fd) (B : Bt mg) (N : Ct mg) (nd : mg "dict" = none) (JT : Jw P wd K mg base C 8 "is_table" "thing" f1 d1 Sm gTable) (D3 : Df K mg "led_ids" sLedIds ["heads"] f3 d3) (EC : Ec K mg "NoTable" CT) :
    FnOk P wd K mg base (L2.CX P wd) 9 f fd ["table"] (spCl C CT) := by
  have G3 : FnOk P wd K mg base CX0 1 f3 d3 ["heads"] (spLI C) := ok_ledIds D3
  refine D.F.okX scClosed (fun vs H Q E h => ?_) (fun cdv A outer s H vs Q E hr h => ?_)
  · obtain ⟨v, u, w, rfl, _⟩ := h
    rfl
  obtain ⟨v, u, w, rfl, hat, fi, sm, hw, k, kE⟩ := h
  refine ⟨_, pss_cons (ps_if (pt_not (pt_val (pe_Jw JT hr (by decide) (by rfl) pass0 (pv 0)))) (pss_one (ps_raise rfl (takes_of rfl rfl rfl rfl) (pmk_own0 PySem.F.excBase_ValueError EC.x EC.g EC.k (raises_own EC.b EC.t) rfl))) pss_nil)
      (pss_cons (ps_set (i := 1) scClosed.nd rfl (.inr rfl) (pe_callTy (call_dictT rfl (Nat.lt_of_le_of_lt (Nat.add_le_add_left (by decide : 2 ≤ 64) _) (room_hu hr))) (by rfl) nd boot_dict' (pa_cons (pe_ix ix_tup (pv 0) (pe_gi (by rfl) N.p5) (fun _ _ => rfl)) pa_nil)))
      (pss_one (ps_ret (pe_callB (cr_all rfl) (by rfl) B.all boot_all' (pa_cons (pe_lc (own := [("block_id", 2)]) (g := gName 2) (tt := tYes) (te := tDIn (tVar 2) (tVar 1)) rfl scClosed.nd (pi_keys (pe_frz (pe_call (G3.mono (by decide : 1 ≤ 8)) hr (by rfl) D3.g D3.F.kp D3.b .nil pass0 (pa_cons (pe_ix ix_tup (pv 0) (pe_gi (by rfl) N.p4) (fun _ _ => rfl)) pa_nil)))) (blkOk_by (N := ["table", "here", "block_id"]) (sc := defScope sClosed) (by decide +kernel))
        (fun _ _ _ _ _ => pg_name (i := 2) scClosed.nd rfl (Or.inl rfl)) (fun _ _ _ _ _ => pts_nil) (fun _ _ _ _ _ => pe_cmp (pc_din (room_h1 hr) (pv 2) (pv 1)) (by rfl))) pa_nil))))), ?_⟩
  refine q_when (et_not (et_B (ev_Jw (ev_var rfl) hat fi sm hw))) (fun q H1 e => ?_) (fun q H1 e => ?_)
  · rw [Bool.not_eq_true'] at q
    exact kE q H1 e
  · rw [Bool.not_eq_false'] at q
    obtain ⟨hs, bs, T⟩ := gTable_has q
    obtain ⟨y5, e5, a5⟩ := ev_nth (K := K) (σ := [some v, none, none]) (te := tVar 0) (k := 5) (ev_var rfl) (ex_at e hat) T.t (by decide)
    rw [T.b] at a5
    refine asg1 ?_
    refine cbA (ea_cons e5 ea_nil) fun H2 e2 => ?_
    obtain ⟨a, xs, rfl, hta, _, hl⟩ := at_tup (ex_at e2 a5)
    obtain ⟨o, od, hlk⟩ := hta.lock (blk_isB T.ba)
    obtain ⟨kvs, hpq, hks⟩ := blk_pq (K := K) hl T.ba
    refine ⟨a, o, xs, kvs, rfl, od, hlk, hpq, by rw [hks]; exact T.bn, fun d hd => ?_⟩
    have e3 : Ex H2 (upd H2 d (.dT kvs)) := Ex.new hd
    have hd3 : upd H2 d (.dT kvs) d = some (.dT kvs) := upd_same
    dsimp only [gName]
    show tRet _ _ [some v, some (.ref d), none] _
    generalize upd H2 d (.dT kvs) = H3 at e3 hd3
    have e13 := (e.trans e2).trans e3
    obtain ⟨y4, e4, a4⟩ := ev_nth (K := K) (σ := [some v, some (.ref d), none]) (te := tVar 0) (k := 4) (ev_var rfl) (ex_at e13 hat) T.t (by decide)
    rw [T.h] at a4
    refine ret1 ?_
    refine cb1 ?_
    refine cons1 ?_
    unfold tLc
    refine keys1 ?_
    refine frz1 ?_
    refine call1 (ea_cons e4 ea_nil) fun H4 e34 => ⟨y4, hs, w, rfl, ex_at e34 a4, T.ha, T.hlen sm, fun d' ks H5 hd' s5 hk5 kz ky => ?_⟩
    refine ⟨d', _, rfl, hk5, True.intro, fun od' => ⟨d', od', rfl, .inr ⟨ks, upd_same, fun Dl hD => ?_⟩⟩⟩
    have e6 : Ex H4 (upd H5 d' (.frz od' (.dT ks))) := Ex.mut s5 hd'
    have h6 : upd H5 d' (.frz od' (.dT ks)) d' = some (.frz od' (.dT ks)) := upd_same
    generalize upd H5 d' (.frz od' (.dT ks)) = H6 at e6 h6 hD
    have here : ∀ (q : Int × Int), (valV kvs (kP q)).isSome = decide (q ∈ bs.map fun b => idP (nth b 0)) := fun q => by
      rw [← valV_any, Bool.eq_iff_iff, List.any_eq_true, decide_eq_true_eq]
      have e9 : bs.map (fun u => kP (idP (nth u 0))) = (bs.map fun b => idP (nth b 0)).map kP := by rw [List.map_map]; rfl
      rw [e9] at hks
      constructor
      · rintro ⟨p, hp, e⟩
        have : p.1 ∈ kvs.map (·.1) := List.mem_map.mpr ⟨p, hp, rfl⟩
        rw [hks, of_decide_eq_true e] at this
        obtain ⟨q', h1, h2⟩ := List.mem_map.mp this
        rw [← kP_inj h2]
        exact h1
      · intro hq
        have : kP q ∈ kvs.map (·.1) := by rw [hks]; exact List.mem_map.mpr ⟨q, hq, rfl⟩
        obtain ⟨p, hp, e⟩ := List.mem_map.mp this
        exact ⟨p, hp, decide_eq_true e⟩
    refine lc_it walk_keysT (fun i H' => Ex H6 H' ∧ H' Dl = some (.lst ((ks.take i).map fun kv => V.bl (valV kvs kv.1).isSome))) ⟨Ex.new hD, by rw [List.take_zero]; exact upd_same⟩ (fun i H' _ p => p.1 _ _ h6) ?_ ?_
    · rintro i x G0 G hi ⟨p1, p2⟩ ⟨rfl, kk, vv, qa, hkv, rfl, hqa⟩
      refine ⟨rfl, et_yes G (Ex.refl G) _ fun G1 g1 => ?_⟩
      rw [if_pos rfl]
      refine ⟨_, rfl, _, rfl, d, _, rfl, DGet.t (k := kk) (g1 _ _ (p1 _ _ (e6 _ _ (e34 _ _ hd3)))) (g1 _ _ hqa), _, g1 _ _ p2, ?_, Ex.mut (p1.trans g1) hD, ?_⟩
      · rw [List.length_map, List.length_take]
        exact sz_lt (by omega)
      · rw [upd_same, List.take_add_one, hkv, List.map_append]
        rfl
    · rintro G ⟨p1, p2⟩
      rw [List.take_length] at p2
      refine ⟨Dl, ks.map fun kv => (valV kvs kv.1).isSome, rfl, sq_of (by rw [p2, List.map_map]; rfl), ?_⟩
      have ev : (ks.map fun kv => (valV kvs kv.1).isSome).all id = closedU u := by
        unfold closedU
        rw [T.hs, T.bs, Bool.eq_iff_iff, List.all_eq_true, List.all_eq_true]
        constructor
        · intro h q hq
          obtain ⟨p, hp, e⟩ := List.mem_map.mp (ky.has q hq)
          have := h _ (List.mem_map.mpr ⟨p, hp, rfl⟩)
          rw [e, here] at this
          exact this
        · intro h b hb
          obtain ⟨p, hp, rfl⟩ := List.mem_map.mp hb
          obtain ⟨q, hq, e⟩ := ky.all p.1 (List.mem_map.mpr ⟨p, hp, rfl⟩)
          rw [e, here]
          exact h q hq
      rw [ev]
      exact k q G (((e13.trans e34).trans e6).trans p1)
end
end Hs
/-! head_at, head_of -/
namespace Hs
open PySem PySem.Spec PyProof.Rows L2 Hu Evl
open Hk (SI ltSI nearOk)
abbrev sHeadAt8 : Stmt := topS 88
abbrev sHeadOf8 : Stmt := topS 89
section
variable {P : Program} {wd : World} {K : PySem.W.Frag} {mg : Str → Option Value} {base : Heap} {C : Addr}
theorem due_pln {hs : List U} {z : Str} (g : hs.all gNamed = true) : pln (dueH hs z) := by
  unfold dueH
  split
  · rename_i u hu
    have := gNamed_pln (List.all_eq_true.mp g u (List.mem_of_find?_eq_some hu))
    obtain ⟨y, s, r, rfl, _⟩ := gNamed_is (List.all_eq_true.mp g u (List.mem_of_find?_eq_some hu))
    exact ⟨this.2.1, this.2.2.1, trivial⟩
  · simp [firstU, pln, plnL]
theorem scHeadAt : FnScope ["table", "name"] ["table", "name"] (defScope sHeadAt8) := ⟨rfl, rfl, rfl, by decide +kernel, rfl, by decide +kernel, by decide +kernel⟩
def spHA (K : PySem.W.Frag) (C : Addr) : Sp := fun vs H Q _ => ∃ (x : V) (z : Str) (u : U) (hs bs : List U) (w : Addr), vs = [x, .str z] ∧ At w C H x u ∧ TabU u hs bs ∧ hs.length ≤ 3000 ∧ (∃ o, H w = some o) ∧ ∀ v H', Same H H' → Lk K H' v (dueH hs z) → Q v H'
theorem ok_headAt {f f1 a : Addr} {fd d1 : FuncData} (D : Df K mg "head_at" sHeadAt8 ["table", "name"] f fd) (N : Ct mg) (F : Fh K mg a) (D1 : Df K mg "heads_by_name" sHeadsBy ["heads"] f1 d1) : FnOk P wd K mg base CX0 2 f fd ["table", "name"] (spHA K C) := by
  have G1 : FnOk P wd K mg base CX0 1 f1 d1 ["heads"] (spHB C) := ok_headsBy D1
  refine D.F.ok scHeadAt (fun vs H Q E h => ?_) (fun cdv A outer s H vs Q E hr h => ?_)
  · obtain ⟨x, z, u, hs, bs, w, rfl, _⟩ := h
    rfl
  obtain ⟨x, z, u, hs, bs, w, rfl, hx, T, hz, hw, k⟩ := h
  refine ⟨_, pss_one (ps_ret (pe_dget2 (room_h1 hr) (pe_call G1 hr (by rfl) D1.g D1.F.kp D1.b .nil pass0 (pa_cons (pe_ix ix_tup (pv 0) (pe_gi (by rfl) N.p4) (fun _ _ => rfl)) pa_nil)) (pv 1) (pe_glob (v := .ref a) (by rfl) F.g rfl) ⟨rfl, rfl, rfl, rfl⟩)), ?_⟩
  obtain ⟨y4, e4, a4⟩ := ev_nth (K := K) (σ := [some x, some (.str z)]) (te := tVar 0) (k := 4) (ev_var rfl) hx T.t (by decide)
  rw [T.h] at a4
  refine ret1 ?_
  unfold tDGet2
  refine call1 (ea_cons e4 ea_nil) fun H1 e1 => ⟨y4, hs, w, rfl, ex_at e1 a4, T.ha, T.hn, hz, hw.imp fun o q => e1 _ _ q, fun d kvs H2 hd e2 hk nv => ⟨d, rfl, .inl ⟨kvs, .inl hk⟩, _, rfl, _, DGet.k (k := .inr z) hk, ?_⟩⟩
  cases g : hs.find? (named z) with
  | none =>
    rw [nv.vnone g]
    refine k _ H2 (e1.trans e2) ?_
    have : dueH hs z = firstU := by
      unfold dueH
      rw [g]
    rw [this]
    exact F.l H2
  | some b =>
    obtain ⟨v, hv, av⟩ := nv.vsome g
    rw [hv]
    refine k v H2 (e1.trans e2) ?_
    have pl := due_pln (hs := hs) (z := z) T.ha
    have : dueH hs z = .tup [nth b 1, nth b 2] := by
      unfold dueH
      rw [g]
    rw [this] at pl ⊢
    exact lk_at pl av
theorem scHeadOf : FnScope ["table", "name"] ["table", "name"] (defScope sHeadOf8) := ⟨rfl, rfl, rfl, by decide +kernel, rfl, by decide +kernel, by decide +kernel⟩
def spHO (K : PySem.W.Frag) (C CT CN : Addr) : Sp := fun vs H Q E => ∃ (x y : V) (u n : U) (w w2 : Addr), vs = [x, y] ∧ At w C H x u ∧ Fine u ∧ Sm u ∧ (∃ o, H w = some o) ∧ At w2 C H y n ∧ Fine n ∧ (gTable u = true → ∀ z, n = .str z → gNam n = true → ∀ v H', Same H H' → Lk K H' v (dueH (hsOf u) z) → Q v H') ∧
  (gTable u = true → gNam n = false → ∀ H', Same H H' → E (.ref CN) none H') ∧ (gTable u = false → ∀ H', Same H H' → E (.ref CT) none H')
theorem ok_headOf {f f1 f2 f3 f4 CT CN a : Addr} {fd d1 d2 d3 d4 : FuncData} (D : Df K mg "head_of" sHeadOf8 ["table", "name"] f fd) (N : Ct mg) (F : Fh K mg a) (JT : Jw P wd K mg base C 8 "is_table" "thing" f1 d1 Sm gTable) (JN : Jd P wd K mg base C 2 "is_name" "thing" f2 d2 gNam) (D3 : Df K mg "head_at" sHeadAt8 ["table", "name"] f3 d3)
    (D4 : Df K mg "heads_by_name" sHeadsBy ["heads"] f4 d4) (EC : Ec K mg "NoTable" CT) (EN : Ec K mg "NoName" CN) : FnOk P wd K mg base (L2.CX P wd) 9 f fd ["table", "name"] (spHO K C CT CN) := by
  have G3 : FnOk P wd K mg base CX0 2 f3 d3 ["table", "name"] (spHA K C) := ok_headAt D3 N F D4
  refine D.F.okX scHeadOf (fun vs H Q E h => ?_) (fun cdv A outer s H vs Q E hr h => ?_)
  · obtain ⟨x, y, u, n, w, w2, rfl, _⟩ := h
    rfl
  obtain ⟨x, y, u, n, w, w2, rfl, hx, fi, sm, hw, hy, fn, k, kN, kE⟩ := h
  refine ⟨_, pss_cons (ps_if (pt_not (pt_val (pe_Jw JT hr (by decide) (by rfl) pass0 (pv 0)))) (pss_one (ps_raise rfl (takes_of rfl rfl rfl rfl) (pmk_own0 PySem.F.excBase_ValueError EC.x EC.g EC.k (raises_own EC.b EC.t) rfl))) pss_nil)
      (pss_cons (ps_if (pt_not (pt_val (pe_J JN hr (by decide) (by rfl) pass0 (pv 1)))) (pss_one (ps_raise rfl (takes_of rfl rfl rfl rfl) (pmk_own0 PySem.F.excBase_ValueError EN.x EN.g EN.k (raises_own EN.b EN.t) rfl))) pss_nil)
      (pss_one (ps_ret (pe_call (G3.mono (by decide : 2 ≤ 8)) hr (by rfl) D3.g D3.F.kp D3.b .nil pass0 (pa_cons (pv 0) (pa_cons (pv 1) pa_nil)))))), ?_⟩
  refine q_when (et_not (et_B (ev_Jw (ev_var rfl) hx fi sm hw))) (fun q H1 e => ?_) (fun q H1 e => ?_)
  · rw [Bool.not_eq_true'] at q
    exact kE q H1 e
  · rw [Bool.not_eq_false'] at q
    refine q_when (et_not (et_B (ev_J (ev_var rfl) (ex_at e hy) fn))) (fun q2 H2 e2 => ?_) (fun q2 H2 e2 => ?_)
    · rw [Bool.not_eq_true'] at q2
      exact kN q q2 H2 (e.trans e2)
    · rw [Bool.not_eq_false'] at q2
      obtain ⟨z, rfl⟩ := gNam_str q2
      cases at_str hy
      obtain ⟨hs, bs, T⟩ := gTable_has q
      refine ret1 ?_
      refine call1 (ea_cons (ev_var rfl) (ea_cons (ev_var rfl) ea_nil)) fun H3 e3 => ⟨x, z, u, hs, bs, w, rfl, ex_at ((e.trans e2).trans e3) hx, T, T.hlen sm, hw.imp fun o q => ((e.trans e2).trans e3) _ _ q, fun v H4 e4 l => k q z rfl q2 v H4 (((e.trans e2).trans e3).trans e4) ?_⟩
      rw [T.hs]
      exact l
end
end Hs
/-! expressions that draw: what they tell is bounded data -/
namespace Hs
open PySem PySem.Spec PyProof.Rows L2 Hu Evl
/-- a drawn value with R -/
def EvW (wl : WA) (C : Addr) (te : TE) (σ : L2.St) (H : Hp) (R : U → Prop) : Prop := ∀ H1, Drawn wl H H1 → ∀ Q : VK, (∀ v u H2, Drawn wl H1 H2 → At wl.w C H2 v u → R u → Q v H2) → te σ H1 Q
/-- a drawn integer -/
def EvI (wl : WA) (te : TE) (σ : L2.St) (H : Hp) (lo hi : Int) : Prop := ∀ H1, Drawn wl H H1 → ∀ Q : VK, (∀ (i : Int) H2, Drawn wl H1 H2 → lo ≤ i → i < hi → Q (.int i) H2) → te σ H1 Q
/-- the names that the law draws: a list of them -/
structure Nm (wl : WA) (H : Hp) (N : Addr) (zs : List Str) : Prop where
  h : H N = some (.lst (zs.map V.str))
  ne : N ≠ wl.w
  n1 : 1 ≤ zs.length
  n3 : zs.length ≤ 3
  g : ∀ z ∈ zs, gNam (.str z) = true
  st : zs.Pairwise ltZ
theorem Nm.keep {wl : WA} {H H' : Hp} {N : Addr} {zs : List Str} (x : Nm wl H N zs) (D : Drawn wl H H') : Nm wl H' N zs := ⟨D.keep _ _ x.ne x.h, x.ne, x.n1, x.n3, x.g, x.st⟩
section
variable {wl : WA} {C : Addr} {σ : L2.St} {H : Hp} {te tl tx : TE} {ta tr : TA} {R R' : U → Prop} {n m m1 m2 d : Nat} {K : PySem.W.Frag} {E : XK} {D : Ends} {tz : TS} {i : Nat} {lo hi : Int} {v : V} {u : U}
theorem EvW.mono (h : EvW wl C te σ H R) (r : ∀ u, R u → R' u) : EvW wl C te σ H R' := fun H1 D1 Q q => h H1 D1 Q fun v u H2 D2 a ru => q v u H2 D2 a (r u ru)
end
end Hs
/-! the law's makers: what is drawn, with what it is -/
namespace Hs
open PySem PySem.Spec PyProof.Rows L2 Hu Evl
section
variable {wl : WA} {C : Addr} {σ : L2.St} {H : Hp} {te t2 tl tx tz tn : TE} {ta tr : TA} {R R' : U → Prop} {RL : List U → Prop} {n m1 m2 d : Nat} {K : PySem.W.Frag} {E : XK} {D : Ends} {ts : TS} {i : Nat} {lo hi lo2 hi2 m j : Int} {v : V} {u : U}
theorem ei_drawI (h : EvI wl te σ H lo hi) (h0 : σ[0]? = some (some (.ref wl.w))) (l0 : 0 < lo) (hh : hi ≤ 2 ^ 62) : EvI wl (tCall spDraw [] E (tCons (tVar 0) (tCons te tNil))) σ H 0 (hi - 1) := fun H1 D1 Q q =>
  ⟨_, h0, h H1 D1 _ fun m H2 D2 b1 b2 => ⟨wl, m, rfl, D2.well, by omega, by omega, fun e H3 e0 e1 D3 => q e H3 (D2.trans D3) e0 (by omega)⟩⟩
end
theorem at_lst {w C : Addr} {H : Hp} {v : V} {us : List U} (h : At w C H v (.lst us)) : ∃ a xs, v = .ref a ∧ H a = some (.lst xs) ∧ a ≠ w ∧ AtL w C H xs us := by
  cases h with
  | lst h1 h2 h3 => exact ⟨_, _, rfl, h1, h2, h3⟩
section
variable {wl : WA} {C : Addr} {σ : L2.St} {H : Hp} {te t2 tl tx tz tn : TE} {ta tr : TA} {R R' : U → Prop} {RL : List U → Prop} {n m1 m2 d : Nat} {K : PySem.W.Frag} {E : XK} {D : Ends} {ts : TS} {i j : Nat} {lo hi lo2 hi2 m : Int} {v : V} {u : U} {us : List U} {vs : List Nat}
theorem ei_len (h : σ[i]? = some (some v)) (a : At wl.w C H v (.lst us)) : EvI wl (tCB (rLenQ K) (tCons (tVar i) tNil)) σ H us.length (us.length + 1) := fun H1 D1 Q q => by
  obtain ⟨p, xs, rfl, hp, np, l⟩ := at_lst (At.drawn D1 a)
  exact ⟨_, h, p, xs, rfl, .inl (SqL.of hp), by rw [AtL.length l]; exact q _ H1 (.refl D1.well) (by omega) (by omega)⟩
theorem ew_ixL (h : σ[i]? = some (some v)) (a : At wl.w C H v (.lst us)) (he : EvI wl te σ H 0 us.length) (hr : ∀ u ∈ us, R u) : EvW wl C (tOp (rIxL K) (tVar i) te) σ H R := fun H1 D1 Q q => by
  refine ⟨_, h, he H1 D1 _ fun e H2 D2 e0 e1 => ?_⟩
  obtain ⟨p, xs, rfl, hp, np, l⟩ := at_lst (At.drawn (D1.trans D2) a)
  have he : e.toNat < us.length := by omega
  have ee : ((e.toNat : Nat) : Int) = e := by omega
  obtain ⟨x, hx, ax⟩ := AtL.get l (List.getElem?_eq_getElem he)
  have aa := atI_nat hx
  rw [ee] at aa
  exact ⟨p, xs, e, x, rfl, rfl, SqL.of hp, aa, q x _ H2 D2 ax (hr _ (List.getElem_mem he))⟩
theorem EvI.mono {lo' hi' : Int} (h : EvI wl te σ H lo hi) (h1 : lo' ≤ lo) (h2 : hi ≤ hi') : EvI wl te σ H lo' hi' := fun H1 D1 Q q => h H1 D1 Q fun i H2 D2 b1 b2 => q i H2 D2 (by omega) (by omega)
theorem ei_drawLen (h : σ[i]? = some (some v)) (a : At wl.w C H v (.lst us)) (h0 : σ[0]? = some (some (.ref wl.w))) (l1 : 1 ≤ us.length) (l2 : us.length ≤ 1000) : EvI wl (tCall spDraw [] E (tCons (tVar 0) (tCons (tCB (rLenQ K) (tCons (tVar i) tNil)) tNil))) σ H 0 us.length := (ei_drawI (ei_len h a) h0 (by omega) (by omega)).mono (by omega) (by omega)
/-- a drawn one of a list -/
theorem ew_any (h : σ[i]? = some (some v)) (a : At wl.w C H v (.lst us)) (h0 : σ[0]? = some (some (.ref wl.w))) (l1 : 1 ≤ us.length) (l2 : us.length ≤ 1000) (hr : ∀ u ∈ us, R u) : EvW wl C (tOp (rIxL K) (tVar i) (tCall spDraw [] E (tCons (tVar 0) (tCons (tCB (rLenQ K) (tCons (tVar i) tNil)) tNil)))) σ H R := ew_ixL h a (ei_drawLen h a h0 l1 l2) hr
end
theorem bdL_all {us : List U} {m d : Nat} (h : ∀ u ∈ us, Bd u m d 0) : BdL us (us.length * (m + 2)) d 0 := by
  induction us with
  | nil => exact BdL.nil.mono (Nat.zero_le _) (Nat.zero_le _) (Nat.le_refl _)
  | cons u us ih => exact (BdL.append (BdL.one (h u List.mem_cons_self)) (ih fun x hx => h x (List.mem_cons_of_mem _ hx))).mono (by rw [List.length_cons, Nat.add_mul]; omega) (Nat.le_refl _) (Nat.le_refl _)
end Hs
/-! rows of the law's ids -/
namespace Hs
open PySem PySem.Spec PyProof.Rows L2 Hu Evl
section
variable {P : Program} {wd : World} {K : PySem.W.Frag} {mg : Str → Option Value} {base : Heap} {C : Addr} {fD : Addr} {dD : FuncData}
def spRow8 (C : Addr) : Sp := fun vs H Q _ => ∃ (wl : WA) (L : Addr) (xs : List V) (us : List U), vs = [.ref wl.w, .ref L] ∧ Well H wl ∧ H L = some (.lst xs) ∧ L ≠ wl.w ∧ AtL wl.w C H xs us ∧ 1 ≤ us.length ∧ us.length ≤ 10 ∧ (∀ u ∈ us, Bd u 200 1 0 ∧ gId u = true) ∧
  ∀ (v : V) (u : U) (H' : Hp), Drawn wl H H' → At wl.w C H' v u → Bd u 3000 2 0 → gRow u = true → (∀ p ∈ rowP u, p ∈ us.map idP) → Q v H'
theorem scRow8 : FnScope ["well", "ids", "kind", "many", "k"] ["well", "ids"] (defScope lRow) := ⟨rfl, rfl, rfl, by decide +kernel, rfl, by decide +kernel, by decide +kernel⟩
theorem ok_row8 {f : Addr} {fd : FuncData} (F : Fun K "_law_row" "_law_row" lRow f fd) (B : Bt mg) (D : Dd P wd K mg base fD dD) : FnOk P wd K mg base CX0 4 f fd ["well", "ids"] (spRow8 C) := by
  refine F.ok scRow8 (fun vs H Q E h => ?_) (fun cdv A outer s H vs Q E hr h => ?_)
  · obtain ⟨wl, L, xs, us, rfl, _⟩ := h
    rfl
  obtain ⟨wl, L, xs, us, rfl, W, hL, nL, hl, u1, u10, hb, k⟩ := h
  have GD : FnOk P wd K mg base CX0 3 fD dD ["well", "many"] spDraw := D.ok
  refine ⟨_, pss_cons (ps_set (i := 2) scRow8.nd rfl (.inl rfl) (pe_draw D hr (by decide) (by rfl) (pv 0) pe_int))
    (pss_cons (ps_if (pt_cmpR op_eq (pv 2) pe_int (nomark _)) (pss_one (ps_ret pe_non)) pss_nil)
    (Evl.pss_cut (ps_set (i := 3) scRow8.nd rfl (.inl rfl) (pe_draw D hr (by decide) (by rfl) (pv 0) (pe_ix ix_list (pe_lst (pa_cons pe_int (pa_cons pe_int pa_nil))) (pe_callTy call_int1 (by rfl) B.int boot_int (pa_cons (pe_cmpR op_eq (pv 2) pe_int (nomark _)) pa_nil)) (fun _ _ => rfl))))
    (pss_one (ps_ret (pe_callTy call_tupF (by rfl) B.tup boot_tuple' (pa_cons (pe_lc (own := [("k", 4)]) (g := gName 4) (tt := tYes) rfl scRow8.nd (pi_range1 (by rfl) B.range (pa_cons (pv 3) pa_nil)) (blkOk_by (N := ["well", "ids", "kind", "many", "k"]) (sc := defScope lRow) (by decide +kernel))
      (fun _ _ _ _ _ => pg_name (i := 4) scRow8.nd rfl (Or.inl rfl)) (fun _ _ _ _ _ => pts_nil)
      (fun _ _ _ _ _ => pe_ix (show IxR _ (rIxL K) from ix_list) (pv 1) (pe_call GD hr (by rfl) D.g D.kp D.b .nil pass0 (pa_cons (pv 0) (pa_cons (pe_callB (show CallR _ _ (rLenQ K) from call_len_seq) (by rfl) B.len PySem.boot_len (pa_cons (pv 1) pa_nil)) pa_nil))) (fun _ _ => rfl))) pa_nil)))))), ?_⟩
  refine ⟨_, rfl, wl, 5, rfl, W, by decide, by decide, fun d H1 d0 d1 D1 => ⟨_, rfl, rfl, _, rfl, ite2 (fun q => ?_) (fun q => ?_)⟩⟩
  · exact k _ .non H1 D1 .non ⟨by simp only [wt]; omega, Nat.zero_le _, trivial⟩ rfl (fun p hp => by cases hp)
  refine ⟨fun σ' H' => ∃ m : Int, σ' = [some (.ref wl.w), some (.ref L), some (.int d), some (.int m), none] ∧ 0 ≤ m ∧ m ≤ 12 ∧ Drawn wl H H', ?_, ?_⟩
  · have go : ∀ (i : Nat) (m : Int), (if decide (V.int d = V.int 1) = true then (1 : Int) else 0) = (i : Int) → ([V.int 4, .int 13] : List V)[i]? = some (.int m) → 0 < m → m ≤ 13 → Ev (tOp (rIxL K) (tLst (tCons (tC (.int 4)) (tCons (tC (.int 13)) tNil))) (tCB (fun xs H Q => (∃ i, xs = [V.int i] ∧ Q (.int i) H) ∨ ∃ k, xs = [.bl k] ∧ Q (.int (if k then 1 else 0)) H) (tCons (tOp rEq (tVar 2) (tC (.int 1))) tNil)))
        [some (V.ref wl.w), some (.ref L), some (.int d), none, none] H1 (.int m) := fun i m ei hm _ _ =>
      ev_pick (K := K) (i := i) (ea_cons ev_c (ea_cons ev_c ea_nil)) (by decide) (ev_is (ev_cb (ea_cons (ev_op (ev_var rfl) ev_c (rv_eq rfl)) ea_nil) fun H3 e3 Q q => .inr ⟨_, rfl, q H3 (Ex.refl H3)⟩) (congrArg V.int ei)) hm
    have fin : ∀ m : Int, 0 < m → m ≤ 13 → Ev (tOp (rIxL K) (tLst (tCons (tC (.int 4)) (tCons (tC (.int 13)) tNil))) (tCB (fun xs H Q => (∃ i, xs = [V.int i] ∧ Q (.int i) H) ∨ ∃ k, xs = [.bl k] ∧ Q (.int (if k then 1 else 0)) H) (tCons (tOp rEq (tVar 2) (tC (.int 1))) tNil)))
        [some (V.ref wl.w), some (.ref L), some (.int d), none, none] H1 (.int m) → ∀ Q' : V → Hp → Prop, (∀ e H2, 0 ≤ e → e < m → Drawn wl H H2 → Q' (.int e) H2) → tCall spDraw [] E0 (tCons (tVar 0) (tCons (tOp (rIxL K) (tLst (tCons (tC (.int 4)) (tCons (tC (.int 13)) tNil))) (tCB (fun xs H Q => (∃ i, xs = [V.int i] ∧ Q (.int i) H) ∨ ∃ k, xs = [.bl k] ∧ Q (.int (if k then 1 else 0)) H) (tCons (tOp rEq (tVar 2) (tC (.int 1))) tNil))) tNil)) [some (V.ref wl.w), some (.ref L), some (.int d), none, none] H1 Q' := fun m m0 m13 ev Q' q' =>
      ⟨_, rfl, ev H1 (Ex.refl H1) _ fun H2 e2 => ⟨wl, m, rfl, D1.well.same e2, m0, by omega, fun e H3 e0 e1 D3 => q' e H3 e0 e1 ((D1.same e2).trans D3)⟩⟩
    by_cases h : d = 1
    · exact fin 13 (by decide) (by decide) (go 1 13 (by rw [h]; rfl) rfl (by decide) (by decide)) _ fun e H2 e0 e1 D2 => ⟨e, rfl, e0, by omega, D2⟩
    · exact fin 4 (by decide) (by decide) (go 0 4 (by rw [decide_eq_false (fun z => h (V.int.inj z))]; rfl) rfl (by decide) (by decide)) _ fun e H2 e0 e1 D2 => ⟨e, rfl, e0, by omega, D2⟩
  · rintro σ' H2 ⟨m, rfl, m0, m12, D2⟩
    refine ⟨_, rfl, m, rfl, by omega, by omega, fun D' hD => ?_⟩
    refine lc_range (lo := 0) (n := m.toNat) (fun i H' => Drawn wl H2 H' ∧ ∃ (vs : List V) (us' : List U), H' D' = some (.lst vs) ∧ vs.length = i ∧ AtL wl.w C H vs us' ∧ BdL us' (i * 202) 1 0 ∧ ∀ u ∈ us', gId u = true ∧ u ∈ us)
      ⟨(Drawn.refl D2.well).new hD, [], [], upd_same, rfl, .nil, ⟨by simp [wtL], by simp [depL], trivial⟩, fun u hu => by cases hu⟩ ?_ ?_
    · rintro i H3 hi ⟨D3, vs, us', hz, hv, ha, hbl, hgi⟩
      have nD := (D2.well.ne hD).1
      have hL3 : H3 L = some (.lst xs) := (D2.trans D3).keep L _ nL hL
      have hxl := AtL.length hl
      refine ⟨rfl, _, rfl, _, rfl, _, rfl, L, xs, rfl, .inl (SqL.of hL3), wl, _, rfl, D3.well, by omega, by omega, fun d2 H4 e0 e1 D4 => ?_⟩
      obtain ⟨j, rfl⟩ : ∃ j : Nat, d2 = (j : Int) := ⟨d2.toNat, by omega⟩
      have hj : j < us.length := by omega
      obtain ⟨x, hx, hax⟩ := AtL.get hl (List.getElem?_eq_getElem hj)
      refine ⟨L, xs, _, x, rfl, rfl, SqL.of (D4.keep L _ nL hL3), atI_nat hx, vs, D4.keep D' _ nD hz, ?_, (D3.trans D4).put D2.well hD, vs ++ [x], us' ++ [us[j]], upd_same, ?_, AtL.snoc ha hax, ?_, ?_⟩
      · have := bit_line
        unfold bit at this
        omega
      · rw [List.length_append, hv]
        rfl
      · have := hbl.snoc (hb _ (List.getElem_mem hj)).1
        rw [show (i + 1) * 202 = i * 202 + (200 + 2) by omega]
        exact this
      · intro u hu
        rcases List.mem_append.mp hu with h | h
        · exact hgi u h
        · rw [List.mem_singleton.mp h]
          exact ⟨(hb _ (List.getElem_mem hj)).2, List.getElem_mem hj⟩
    · rintro H3 ⟨D3, vs, us', hz, hv, ha, hbl, hgi⟩
      have DD := D2.trans D3
      refine ⟨D', vs, rfl, .inl ⟨SqL.of hz, newT_data D3.well.at (AtL.drawn DD ha) fun v H5 e5 a5 => k v (.tup us') H5 (DD.same e5) a5 ((Bd.tup hbl).mono ?_ (by omega) (Nat.le_refl _)) ?_ (fun p hp => by
        obtain ⟨u, hu, rfl⟩ := List.mem_map.mp hp
        exact List.mem_map.mpr ⟨u, (hgi u hu).2, rfl⟩)⟩⟩
      · have : m.toNat ≤ 12 := by omega
        omega
      · show (decide (us'.length ≤ 12) && us'.all gId) = true
        have hle := AtL.length ha
        rw [decide_eq_true (by omega), List.all_eq_true.mpr fun u hu => (hgi u hu).1]
        rfl
end
end Hs
/-! versions: a dict of names to lists of heads -/
namespace Hs
open PySem PySem.Spec PyProof.Rows L2 Hu Evl
abbrev lVersions : Stmt := topS 106
def stU (u : U) : Int × Int := idP (nth u 1)
structure Vok (zs : List Str) (js : List (Int × Int)) (Vs : List U) : Prop where
  g : ∀ h ∈ Vs, gNamed h = true
  nm : ∀ h ∈ Vs, nmU h ∈ zs
  ps : ∀ h ∈ Vs, stU h ≠ (0, 0)
  bd : ∀ h ∈ Vs, Bd h 3998 3 0
  ids : ∀ h ∈ Vs, ∀ p ∈ rowP (nth h 2), p ∈ js
  uq : ∀ h ∈ Vs, ∀ h' ∈ Vs, nmU h = nmU h' → stU h = stU h' → h = h'
theorem vok_nil {zs : List Str} {js : List (Int × Int)} : Vok zs js [] := ⟨fun h q => (by cases q), fun h q => (by cases q), fun h q => (by cases q), fun h q => (by cases q), fun h q => (by cases q), fun h q => (by cases q)⟩
/-- one more name with its versions -/
structure VrU (z : Str) (js ss : List (Int × Int)) (u : U) : Prop where
  g : gNamed u = true
  nm : nmU u = z
  ps : stU u ≠ (0, 0)
  bd : Bd u 3998 3 0
  ids : ∀ p ∈ rowP (nth u 2), p ∈ js
theorem uq_of {us : List U} (h : (us.map stU).Nodup) : ∀ a ∈ us, ∀ b ∈ us, stU a = stU b → a = b := by
  induction us with
  | nil => exact fun a ha => by cases ha
  | cons c r ih =>
    rw [List.map_cons, List.nodup_cons] at h
    intro a ha b hb e
    rcases List.mem_cons.mp ha with ea | ha <;> rcases List.mem_cons.mp hb with eb | hb
    · rw [ea, eb]
    · rw [ea] at e
      exact absurd (List.mem_map.mpr ⟨b, hb, e.symm⟩) h.1
    · rw [eb] at e
      exact absurd (List.mem_map.mpr ⟨a, ha, e⟩) h.1
    · exact ih h.2 a ha b hb e
theorem Vok.more {zs : List Str} {z : Str} {js ss : List (Int × Int)} {Vs us : List U} (ok : Vok zs js Vs) (hz : z ∉ zs) (hu : ∀ u ∈ us, VrU z js ss u) (nd : (us.map stU).Nodup) : Vok (zs ++ [z]) js (Vs ++ us) := by
  refine ⟨fun h q => ?_, fun h q => ?_, fun h q => ?_, fun h q => ?_, fun h q => ?_, fun h q h' q' e1 e2 => ?_⟩
  · rcases List.mem_append.mp q with q | q
    · exact ok.g h q
    · exact (hu h q).g
  · rcases List.mem_append.mp q with q | q
    · exact List.mem_append_left _ (ok.nm h q)
    · rw [(hu h q).nm]
      exact List.mem_append_right _ (List.mem_singleton.mpr rfl)
  · rcases List.mem_append.mp q with q | q
    · exact ok.ps h q
    · exact (hu h q).ps
  · rcases List.mem_append.mp q with q | q
    · exact ok.bd h q
    · exact (hu h q).bd
  · rcases List.mem_append.mp q with q | q
    · exact ok.ids h q
    · exact (hu h q).ids
  · rcases List.mem_append.mp q with q | q <;> rcases List.mem_append.mp q' with q' | q'
    · exact ok.uq h q h' q' e1 e2
    · rw [(hu h' q').nm] at e1
      exact absurd (e1 ▸ ok.nm h q) hz
    · rw [(hu h q).nm] at e1
      exact absurd (e1 ▸ ok.nm h' q') hz
    · exact uq_of nd h q h' q' e2
/-- the versions of one name -/
def VdZ (w C : Addr) (H : Hp) (kvs : List (L2.Key × V)) (Vs : List U) (z : Str) : Prop := ∃ x us, valV kvs (.inr z) = some x ∧ At w C H x (.lst us) ∧ us.length ≤ 4 ∧ ∀ u ∈ us, u ∈ Vs ∧ nmU u = z
theorem lst_nd {w C D : Addr} {H : Hp} {kvs : List (L2.Key × V)} {o : HO} {x : V} {us : List U} (hD : H D = some (.dK kvs)) (hp : plnL us) (h : At w C H x (.lst us)) : At w C (upd H D o) x (.lst us) := by
  obtain ⟨a, xs, rfl, h1, h2, l⟩ := at_lst h
  refine .lst (by
    rw [upd_ne (fun e => by rw [e, hD] at h1; cases h1)]
    exact h1) h2 (atl_tups (fun b o _ t e => by
    rw [upd_ne (fun e2 => by
      rw [e2, hD] at e
      cases e
      obtain ⟨zs, q | ⟨c, q⟩⟩ := t <;> cases q)]
    exact e) hp l)
theorem VdZ.drawn {wl : WA} {C : Addr} {H H' : Hp} {kvs : List (L2.Key × V)} {Vs : List U} {z : Str} (D : Drawn wl H H') : VdZ wl.w C H kvs Vs z → VdZ wl.w C H' kvs Vs z := fun ⟨x, us, h1, h2, h3, h4⟩ => ⟨x, us, h1, At.drawn D h2, h3, h4⟩
theorem eqv00 (k : Int × Int) : (!PyData.eqv (.tuple [.int k.1, .int k.2]) (.tuple [.int 0, .int 0])) = !decide (k = (0, 0)) := by
  rw [eqv2 k.1 k.2 0 0]
  by_cases h : k = (0, 0)
  · rw [h]
    simp
  · rw [decide_eq_false h]
    by_cases h1 : k.1 = 0
    · rw [decide_eq_true h1, decide_eq_false fun h2 => h (Prod.ext h1 h2)]
      rfl
    · rw [decide_eq_false h1]
      rfl
theorem stU_is {z : Str} {k : Int × Int} {r : U} : stU (.tup [.str z, .tup [.int k.1, .int k.2], r]) = k := rfl
theorem nmU_is {z : Str} {s r : U} : nmU (.tup [.str z, s, r]) = z := rfl
theorem named_of {z : Str} {k : Int × Int} {r : U} (hz : gNam (.str z) = true) (hk : (k.1 = 0 ∧ k.2 = 0) ∨ (1 ≤ k.1 ∧ 1 ≤ k.2 ∧ k.2 ≤ 99)) (hr : gRow r = true) : gNamed (.tup [.str z, .tup [.int k.1, .int k.2], r]) = true := by
  show (decide (3 = 3) && (gNam (.str z) && (gStamp (.tup [.int k.1, .int k.2]) && gRow r))) = true
  rw [hz, stampOk hk, hr]
  rfl
theorem named_bd {z : Str} {k : Int × Int} {u : U} (hz : gNam (.str z) = true) (h1 : k.1.natAbs < 2 ^ 60) (h2 : k.2.natAbs < 2 ^ 60) (bv : Bd u 3000 2 0) : Bd (.tup [.str z, .tup [.int k.1, .int k.2], u]) 3998 3 0 := by
  have n1 := nam_bd hz
  have n2 := pair_bd h1 h2
  refine ⟨?_, ?_, ?_⟩
  · have := n1.w
    have := n2.w
    have := bv.w
    simp only [wt, wtL] at *
    omega
  · have := n1.d
    have := n2.d
    have := bv.d
    simp only [dep, depL] at *
    omega
  · simp only [tidy, tidyL]
    have c2 := n2.c
    simp only [tidy, tidyL] at c2
    have c1 := n1.c
    simp only [tidy] at c1
    exact ⟨c1, c2, bv.c, trivial⟩
section
variable {P : Program} {wd : World} {K : PySem.W.Frag} {mg : Str → Option Value} {base : Heap} {C : Addr} {fD : Addr} {dD : FuncData}
abbrev nmVr : List Str := ["well", "names", "ids", "versions", "name", "k", "stamps", "stamp"]
theorem scVr : FnScope nmVr ["well", "names", "ids"] (defScope lVersions) := ⟨rfl, rfl, rfl, by decide +kernel, rfl, by decide +kernel, by decide +kernel⟩
def spVr (C : Addr) : Sp := fun vs H Q _ => ∃ (wl : WA) (N I : Addr) (zs : List Str) (xs : List V) (js : List (Int × Int)), vs = [.ref wl.w, .ref N, .ref I] ∧ Well H wl ∧ Nm wl H N zs ∧ Ids C wl H I xs js ∧
  ∀ (D : Addr) (kvs : List (L2.Key × V)) (Vs : List U) (H' : Hp), Drawn wl H H' → H' D = some (.dK kvs) → D ≠ wl.w → Vok zs js Vs → (∀ z ∈ zs, VdZ wl.w C H' kvs Vs z) → Q (.ref D) H'
theorem ok_vr {f fS fU fR : Addr} {fd dS dU dR : FuncData} (F : Fun K "_law_versions" "_law_versions" lVersions f fd) (B : Bt mg) (D : Dd P wd K mg base fD dD) (DU : Df K mg "_law_unlike" lUnlike ["things"] fU dU) (GP : FnOk P wd K mg base CX0 2 fU dU ["things"] spUnP)
    (DS : Df K mg "_law_stamp" lStamp ["well"] fS dS) (GS : FnOk P wd K mg base CX0 5 fS dS ["well"] (spPair fun i j => (i = 0 ∧ j = 0) ∨ (1 ≤ i ∧ 1 ≤ j ∧ j ≤ 99))) (DR : Df K mg "_law_row" lRow ["well", "ids"] fR dR) (GR : FnOk P wd K mg base CX0 4 fR dR ["well", "ids"] (spRow8 C)) :
    FnOk P wd K mg base CX0 6 f fd ["well", "names", "ids"] (spVr C) := by
  refine F.ok scVr (fun vs H Q E h => ?_) (fun cdv A outer s H vs Q E hr h => ?_)
  · obtain ⟨wl, N, I, zs, xs, js, rfl, _⟩ := h
    rfl
  obtain ⟨wl, N, I, zs, xs, js, rfl, W, hN, hI, k⟩ := h
  refine ⟨_, pss_cons (ps_set (i := 3) scVr.nd rfl (.inl rfl) pe_dnewK)
    (pss_cons (ps_for PassesOwn.never rfl (pi_list (pv 1)) (pg_name (i := 4) scVr.nd rfl (Or.inr rfl))
      (pss_cons (ps_set (i := 6) scVr.nd rfl (.inl rfl) (pe_call GP (hr.mono (by decide)) (by rfl) DU.g DU.F.kp DU.b .nil pass0 (pa_cons (pe_lc (own := [("k", 5)]) (g := gName 5) (tt := tYes) rfl scVr.nd (pi_range1 (by rfl) B.range (pa_cons (pe_op op_add pe_int (pe_draw D hr (by decide) (by rfl) (pv 0) pe_int)) pa_nil)) (blkOk_by (N := nmVr) (sc := defScope lVersions) (by decide +kernel))
        (fun _ _ _ _ _ => pg_name (i := 5) scVr.nd rfl (Or.inl rfl)) (fun _ _ _ _ _ => pts_nil) (fun _ _ _ _ _ => pe_call GS hr (by rfl) DS.g DS.F.kp DS.b .nil pass0 (pa_cons (pv 0) pa_nil))) pa_nil)))
      (pss_one (ps_asg (pe_lc (own := [("stamp", 7)]) (g := gName 7) rfl scVr.nd (pi_list (pv 6)) (blkOk_by (N := nmVr) (sc := defScope lVersions) (by decide +kernel))
        (fun _ _ _ _ _ => pg_name (i := 7) scVr.nd rfl (Or.inl rfl)) (fun _ _ _ _ _ => pts_one (pt_cmpR (show OpR _ _ (rNeD K) from op_neD (room_hu hr)) (pv 7) (pe_tup (pa_cons pe_int (pa_cons pe_int pa_nil))) (nomark _)))
        (fun _ _ _ _ _ => pe_tupF (pa_cons (pv 4) (pa_cons (pv 7) (pa_cons (pe_call (GR.mono (by decide : 4 ≤ 5)) hr (by rfl) DR.g DR.F.kp DR.b .nil pass0 (pa_cons (pv 0) (pa_cons (pv 2) pa_nil))) pa_nil))))) (pg_sub (pv 3) (pv 4) (set_dict (room_h1 hr)))))))
    (pss_one (ps_ret (pv 3)))), ?_⟩
  intro Dd hD
  have nD := W.ne hD
  show tSeq _ _ _ [some (V.ref wl.w), some (.ref N), some (.ref I), some (.ref Dd), none, none, none, none] _
  refine q_forL (K := K) (xs := zs.map V.str) (ev_var rfl) (sq_of (by rw [upd_ne (ne_of_none hN.h hD)]; exact hN.h)) (fun i σ' H' => ∃ (x4 x5 x6 x7 : Option V) (kvs : List (L2.Key × V)) (Vs : List U), σ' = [some (.ref wl.w), some (.ref N), some (.ref I), some (.ref Dd), x4, x5, x6, x7] ∧ Drawn wl H H' ∧ H' Dd = some (.dK kvs) ∧ kvs.length ≤ i ∧ Vok (zs.take i) js Vs ∧ ∀ z ∈ zs.take i, VdZ wl.w C H' kvs Vs z)
    (fun H2 e2 => ⟨_, _, _, _, [], [], rfl, ((Drawn.refl W).new hD).same e2, e2 _ _ upd_same, Nat.le_refl _, vok_nil, fun z hz => by simp at hz⟩) (fun i σ' H' _ ⟨_, _, _, _, _, _, _, D1, _⟩ => sq_of (D1.keep _ _ hN.ne hN.h)) ?_ ?_
  · rintro i x σ' H1 hi ⟨x4, x5, x6, x7, kvs, Vs, rfl, D1, h1, lk, ok, hv⟩
    rw [List.getElem?_map] at hi
    cases hzi : zs[i]? with
    | none => rw [hzi] at hi; cases hi
    | some z =>
      rw [hzi] at hi
      cases hi
      have hi3 : i < zs.length := (List.getElem?_eq_some_iff.mp hzi).1
      have hzn := hN.g z (List.mem_of_getElem? hzi)
      have tk := take_snoc' hzi
      have n3 := hN.n3
      show tSeq _ _ _ [some (V.ref wl.w), some (.ref N), some (.ref I), some (.ref Dd), some (.str z), x5, x6, x7] H1
      refine ⟨_, rfl, wl, 4, rfl, D1.well, by decide, by decide, fun d H2 d0 d1 D2 => ⟨_, _, rfl, rfl, 1 + d, rfl, by omega, by omega, fun Dl hDl => ?_⟩⟩
      have nDl := (D2.well.ne hDl).1
      have D12 := D1.trans D2
      refine lc_range (lo := 0) (n := (1 + d).toNat) (fun i H' => Drawn wl H H' ∧ Drawn wl H2 H' ∧ ∃ (xs : List V) (ks : List (Int × Int)), H' Dl = some (.lst xs) ∧ P2 H' xs ks ∧ ks.length = i ∧ ∀ j ∈ ks, ((j.1 = 0 ∧ j.2 = 0) ∨ (1 ≤ j.1 ∧ 1 ≤ j.2 ∧ j.2 ≤ 99)) ∧ j.1.natAbs < 2 ^ 60 ∧ j.2.natAbs < 2 ^ 60) ⟨D12.new hDl, (Drawn.refl D2.well).new hDl, [], [], upd_same, .nil, rfl, fun z hz => (by cases hz)⟩ ?_ ?_
      · rintro i2 H5 hi ⟨D5, D5', xs5, ks, hx, p2, hl, hb⟩
        refine ⟨rfl, ?_⟩
        refine et_yes _ (Ex.refl _) _ fun H6 e6 => ?_
        rw [if_pos rfl]
        refine ⟨_, rfl, wl, rfl, D5.well.same e6, fun a b p H7 b1 b2 hR hp D7 h7 => ?_⟩
        have D57 : Drawn wl H5 H7 := ((Drawn.refl D5.well).same e6).trans D7
        have hx7 := D57.keep _ _ nDl hx
        have nt : ∀ c zs, H7 c = some (.tup zs) → upd H7 Dl (.lst (xs5 ++ [.ref p])) c = some (.tup zs) := fun c zs hc => by
          rw [upd_ne (fun z => by rw [z, hx7] at hc; cases hc)]
          exact hc
        refine ⟨_, hx7, ?_, (D5.trans D57).put W (D12.free W hDl), (D5'.trans D57).put D2.well hDl, xs5 ++ [.ref p], ks ++ [(a, b)], upd_same, ?_, ?_, ?_⟩
        · rw [p2.len, hl]
          exact sz_lt (by omega)
        · exact ((p2.tups (drawn_tups D5.well D57)).snoc (k := (a, b)) h7).tups nt
        · rw [List.length_append, hl]
          rfl
        · intro j hj
          rcases List.mem_append.mp hj with h | h
          · exact hb j h
          · rw [List.mem_singleton.mp h]
            exact ⟨hR, b1, b2⟩
      rintro H5 ⟨D5, D5', xs5, ks, hx, p2, hl, hb⟩
      refine ⟨Dl, xs5, ks, rfl, hx, p2, by omega, by omega, fun S ys ss H6 hS0 e6 hS p2' k1 k2 kmem kpw => ?_⟩
      have D6 := D5.same e6
      have nS : S ≠ wl.w := fun z => by
        obtain ⟨o, ho⟩ := D5.well.at
        rw [← z, hS0] at ho
        cases ho
      dsimp only [gName]
      have hss : ∀ j ∈ ss, ((j.1 = 0 ∧ j.2 = 0) ∨ (1 ≤ j.1 ∧ 1 ≤ j.2 ∧ j.2 ≤ 99)) ∧ j.1.natAbs < 2 ^ 60 ∧ j.2.natAbs < 2 ^ 60 := fun j hj => hb j (kmem j hj)
      have D16 : Drawn wl H1 H6 := (D2.trans D5').same e6
      have h6 : H6 Dd = some (.dK kvs) := D16.keep _ _ nD.1 h1
      show tAsg _ _ _ [some (V.ref wl.w), some (.ref N), some (.ref I), some (.ref Dd), some (.str z), _, some (.ref S), x7] H6
      refine ⟨_, rfl, S, rfl, ⟨ys, sq_of hS⟩, fun Dm hDm => ?_⟩
      have nDm := (D6.well.ne hDm).1
      have ylen := p2'.len
      refine lc_list (K := K) (xs := ys) (fun i H' => Drawn wl H6 H' ∧ ∃ (vs : List V) (us : List U), H' Dm = some (.lst vs) ∧ AtL wl.w C H' vs us ∧ us.length ≤ i ∧ (∀ u ∈ us, VrU z js ss u) ∧ (us.map stU).Sublist (ss.take i)) ⟨(Drawn.refl D6.well).new hDm, [], [], upd_same, .nil, Nat.le_refl _, fun u hu => (by cases hu), by simp⟩ (fun i H' _ p => sq_of (p.1.keep _ _ nS hS)) ?_ ?_
      · rintro n y H7 hy ⟨D7, vs, us, hvs, al, ln, hu, sb⟩
        obtain ⟨p, sk, rfl, hsk, hp⟩ := p2'.get hy
        have hp7 : H7 p = some (.tup [.int sk.1, .int sk.2]) := D7.keep _ _ (not_well D6.well hp) hp
        have tks := take_snoc' hsk
        have hb := hss sk (List.mem_of_getElem? hsk)
        have n4 : n < ss.length := (List.getElem?_eq_some_iff.mp hsk).1
        refine ⟨rfl, ?_⟩
        have ht : EvT (tTest (tOp (rNeD K) (tVar 7) (tTup (tCons (tC (.int 0)) (tCons (tC (.int 0)) tNil))))) [some (V.ref wl.w), some (.ref N), some (.ref I), some (.ref Dd), some (.str z), x5, some (.ref S), some (.ref p)] H7 (!decide (sk = (0, 0))) :=
          et_test (ev_opU (ev_var rfl) (eu_tup (ea_cons ev_c (ea_cons ev_c ea_nil)) (by decide)) fun q H8 hq e8 => fun H9 e9 Q q' => ⟨_, _, dp2 (e9 _ _ (e8 _ _ hp7)), dp2 (i := 0) (j := 0) (e9 _ _ hq), shp2 _ _, shp2 _ _, by rw [eqv00]; exact q' H9 (Ex.refl H9)⟩)
        refine ht H7 (Ex.refl _) _ fun H8 e8 => ?_
        have D8 := D7.same e8
        have nN := hN.ne
        by_cases hk0 : sk = (0, 0)
        · rw [decide_eq_true hk0]
          exact ⟨D8, vs, us, e8 _ _ hvs, AtL.drawn ((Drawn.refl D7.well).same e8) al, Nat.le_succ_of_le ln, hu, by rw [tks]; exact sb.trans (List.sublist_append_left _ _)⟩
        · rw [decide_eq_false hk0]
          have D68 := D16.trans D8
          have D18 := D1.trans D68
          rw [if_pos (by rfl)]
          refine ⟨_, rfl, _, rfl, _, rfl, _, rfl, wl, I, xs, js.map idV, rfl, D8.well, (hI.keep W D18).h, hI.ne, (hI.keep W D18).atl D8.well, by rw [List.length_map]; exact hI.n.1, by rw [List.length_map]; exact hI.n.2, fun u hu => ?_, fun v u H9 D9 hv9 bv gv rv => ?_⟩
          · obtain ⟨j, hj, rfl⟩ := List.mem_map.mp hu
            exact idV_ok (hI.b j hj)
          have gn := named_of hzn hb.1 gv
          have l3 : AtL wl.w C H9 [.str z, .ref p, v] [.str z, .tup [.int sk.1, .int sk.2], u] := .cons (.str z) (.cons (At.drawn D9 (.tup (Tu.of (e8 _ _ hp7) rfl) (not_well D8.well (e8 _ _ hp7)) (.cons (.int _) (.cons (.int _) .nil)))) (.cons hv9 .nil))
          refine ⟨sz_of (show (3 : Nat) ≤ 100000 by decide), newT_data D9.well.at l3 fun t H10 e10 at10 => ?_⟩
          have D810 := D9.same e10
          have hvs10 : H10 Dm = some (.lst vs) := D810.keep _ _ nDm (e8 _ _ hvs)
          have hlv := AtL.length al
          refine ⟨vs, hvs10, sz_lt (by omega), (D8.trans D810).put D6.well hDm, vs ++ [t], us ++ [.tup [.str z, .tup [.int sk.1, .int sk.2], u]], upd_same, ?_, ?_, ?_, ?_⟩
          · refine atl_put hvs10 (fun y hy => ?_) (AtL.snoc (AtL.drawn (((Drawn.refl D7.well).same e8).trans D810) al) at10)
            rcases List.mem_append.mp hy with hy | hy
            · exact gNamed_pln (hu y hy).g
            · rw [List.mem_singleton.mp hy]
              exact gNamed_pln gn
          · rw [List.length_append]
            show us.length + 1 ≤ n + 1
            omega
          · intro y hy
            rcases List.mem_append.mp hy with hy | hy
            · exact hu y hy
            · rw [List.mem_singleton.mp hy]
              refine ⟨gn, nmU_is, by rw [stU_is]; exact hk0, named_bd hzn hb.2.1 hb.2.2 bv, fun q hq => ?_⟩
              have := rv q hq
              rw [List.map_map] at this
              obtain ⟨j, hj, e⟩ := List.mem_map.mp this
              rw [← e]
              exact hj
          · rw [tks, List.map_append]
            exact sb.append (by rw [List.map_singleton, stU_is]; exact List.Sublist.refl _)
      · rintro H7 ⟨D7, vs, us, hvs, al, ln, hu, sb⟩
        have D17 := D16.trans D7
        have h7 : H7 Dd = some (.dK kvs) := D7.keep _ _ nD.1 h6
        rw [List.take_of_length_le (by omega)] at sb
        have nds : ss.Nodup := kpw.imp fun {a b} q e => by
          rw [e] at q
          rcases q with q | ⟨_, q⟩ <;> omega
        have nd2 : (us.map stU).Nodup := sb.nodup nds
        have hz : z ∉ zs.take i := fun q => by
          obtain ⟨j, hj, e⟩ := List.mem_iff_getElem.mp q
          rw [List.length_take] at hj
          rw [List.getElem_take] at e
          have := List.pairwise_iff_getElem.mp hN.st j i (by omega) hi3 (by omega)
          rw [e, (List.getElem?_eq_some_iff.mp hzi).2] at this
          exact List.lt_irrefl _ this
        refine ⟨_, rfl, _, rfl, Dd, _, rfl, DPut.k (k := .inr z) h7 (sz_lt (by omega)), ?_⟩
        refine ⟨_, _, _, _, _, Vs ++ us, rfl, (D1.trans D17).put W hD, upd_same, ?_, ?_, ?_⟩
        · have := length_putK kvs (.inr z) (V.ref Dm)
          omega
        · rw [tk]
          exact ok.more hz hu nd2
        · intro y hy
          rw [tk] at hy
          have hpl : ∀ us' : List U, (∀ u ∈ us', u ∈ Vs ++ us) → plnL us' := fun us' h' => plnL_all.mpr fun u hu' => gNamed_pln (by
            rcases List.mem_append.mp (h' u hu') with q | q
            · exact ok.g u q
            · exact (hu u q).g)
          rcases List.mem_append.mp hy with hy | hy
          · obtain ⟨x, vus, g1, g2, g3, g4⟩ := hv y hy
            refine ⟨x, vus, ?_, lst_nd h7 (hpl vus fun u hu' => List.mem_append_left _ (g4 u hu').1) (At.drawn D17 g2), g3, fun u hu' => ⟨List.mem_append_left _ (g4 u hu').1, (g4 u hu').2⟩⟩
            rw [valV_put, if_neg (fun e : (Sum.inr y : L2.Key) = Sum.inr z => hz (by rw [← Sum.inr.inj e]; exact hy))]
            exact g1
          · rw [List.mem_singleton.mp hy]
            refine ⟨.ref Dm, us, by rw [valV_put, if_pos rfl], lst_nd h7 (hpl us fun u hu' => List.mem_append_right _ hu') (.lst hvs nDm al), by omega, fun u hu' => ⟨List.mem_append_right _ hu', (hu u hu').nm⟩⟩
  · rintro σ' H2 ⟨x4, x5, x6, x7, kvs, Vs, rfl, D2, h2, lk, ok, hv⟩
    rw [List.length_map, List.take_length] at ok hv
    exact ⟨_, rfl, k Dd kvs Vs H2 D2 h2 nD.1 ok hv⟩
end
end Hs
/-! some heads out of the versions -/
namespace Hs
open PySem PySem.Spec PyProof.Rows L2 Hu Evl
abbrev lSome : Stmt := topS 107
section
variable {wl : WA} {C : Addr} {σ : L2.St} {H : Hp} {te tl : TE} {R : U → Prop} {K : PySem.W.Frag} {E : XK} {D : Ends} {i j : Nat} {x : V} {us : List U} {kvs : List (L2.Key × V)} {z : Str} {d : Addr}
theorem ev_ver (h1 : σ[i]? = some (some (.ref d))) (h2 : σ[j]? = some (some (.str z))) (hd : H d = some (.dK kvs)) (hv : valV kvs (.inr z) = some x) : Ev (tDGet (tVar i) (tVar j)) σ H x := fun H1 e Q q =>
  ⟨_, h1, _, h2, d, x, rfl, by rw [← hv]; exact DGet.k (k := .inr z) (e _ _ hd), q H1 (Ex.refl H1)⟩
theorem ev_lenL (h : Ev te σ H x) (a : At wl.w C H x (.lst us)) : Ev (tCB (rLenQ K) (tCons te tNil)) σ H (.int (us.length : Int)) := fun H1 e Q q => h H1 e _ fun H2 e2 => by
  obtain ⟨p, xs, rfl, hp, np, l⟩ := at_lst a
  exact ⟨p, xs, rfl, .inl (SqL.of (e2 _ _ (e _ _ hp))), by rw [AtL.length l]; exact q H2 e2⟩
theorem ew_anyX (hv : ∀ G, Drawn wl H G → Ev tl σ G x) (a : At wl.w C H x (.lst us)) (h0 : σ[0]? = some (some (.ref wl.w))) (l1 : 1 ≤ us.length) (l2 : us.length ≤ 1000) (hr : ∀ u ∈ us, R u) :
    EvW wl C (tOp (rIxL K) tl (tCall spDraw [] E (tCons (tVar 0) (tCons (tCB (rLenQ K) (tCons tl tNil)) tNil)))) σ H R := fun H1 D1 Q q =>
  hv H1 D1 H1 (Ex.refl _) _ fun H2 e2 => ⟨_, h0, ev_lenL (wl := wl) (C := C) (hv H2 (D1.same e2)) (At.drawn (D1.same e2) a) H2 (Ex.refl _) _ fun H3 e3 => by
    have D3 := (D1.same e2).same e3
    refine ⟨wl, us.length, rfl, D3.well, by omega, by omega, fun e H4 e0 e1 D4 => ?_⟩
    obtain ⟨p, xs, rfl, hp, np, l⟩ := at_lst (At.drawn (D3.trans D4) a)
    have he : e.toNat < us.length := by omega
    have ee : ((e.toNat : Nat) : Int) = e := by omega
    obtain ⟨y, hy, ay⟩ := AtL.get l (List.getElem?_eq_getElem he)
    have aa := atI_nat hy
    rw [ee] at aa
    exact ⟨p, xs, e, y, rfl, rfl, SqL.of hp, aa, q y _ H4 ((((Drawn.refl D1.well).same e2).same e3).trans D4) ay (hr _ (List.getElem_mem he))⟩⟩
theorem s_appW {l : Addr} {xs : List V} (h : EvW wl C te σ H R) (W : Well H wl) (hl : H l = some (.lst xs)) (nl : l ≠ wl.w) (hv : σ[i]? = some (some (.ref l))) (hz : xs.length < 100000) (k : ∀ v u H1, Drawn wl H H1 → H1 l = some (.lst xs) → At wl.w C H1 v u → R u → D.nx σ (upd H1 l (.lst (xs ++ [v])))) :
    tDrop (tBM K "list" rAppend (tVar i) (tCons te tNil)) D σ H := 
  ⟨_, hv, .inl ⟨rfl, xs, sq_of hl⟩, h H (.refl W) _ fun v u H1 D1 a r => ⟨l, xs, v, rfl, rfl, D1.keep _ _ nl hl, sz_lt hz, k v u H1 D1 (D1.keep _ _ nl hl) a r⟩⟩
end
/-- heads of these versions, in order of their names -/
structure HdU (Vs hs : List U) : Prop where
  m : ∀ h ∈ hs, h ∈ Vs
  s : srtN hs
  n : hs.length ≤ 3
theorem srtN_sub {us : List U} {zs : List Str} (h : (us.map nmU).Sublist zs) (st : zs.Pairwise ltZ) : srtN us := by
  have := List.Pairwise.sublist h st
  rw [List.pairwise_map] at this
  exact this.imp fun {a b} (q : (nmU a).cps.toList < (nmU b).cps.toList) => decide_eq_true q
section
variable {P : Program} {wd : World} {K : PySem.W.Frag} {mg : Str → Option Value} {base : Heap} {C : Addr} {fD : Addr} {dD : FuncData}
abbrev nmSm : List Str := ["well", "versions", "names", "heads", "name"]
theorem scSm : FnScope nmSm ["well", "versions", "names"] (defScope lSome) := ⟨rfl, rfl, rfl, by decide +kernel, rfl, by decide +kernel, by decide +kernel⟩
/-- the versions stand here -/
structure Vd (wl : WA) (C : Addr) (H : Hp) (Dv : Addr) (zs : List Str) (js : List (Int × Int)) (Vs : List U) : Prop where
  d : ∃ kvs, H Dv = some (.dK kvs) ∧ ∀ z ∈ zs, VdZ wl.w C H kvs Vs z
  ne : Dv ≠ wl.w
  ok : Vok zs js Vs
theorem Vd.drawn {wl : WA} {C : Addr} {H H' : Hp} {Dv : Addr} {zs : List Str} {js : List (Int × Int)} {Vs : List U} (x : Vd wl C H Dv zs js Vs) (D : Drawn wl H H') : Vd wl C H' Dv zs js Vs := ⟨x.d.imp fun kvs h => ⟨D.keep _ _ x.ne h.1, fun z hz => (h.2 z hz).drawn D⟩, x.ne, x.ok⟩
def spSm (C : Addr) : Sp := fun vs H Q _ => ∃ (wl : WA) (Dv N : Addr) (zs : List Str) (js : List (Int × Int)) (Vs : List U), vs = [.ref wl.w, .ref Dv, .ref N] ∧ Well H wl ∧ Vd wl C H Dv zs js Vs ∧ Nm wl H N zs ∧
  ∀ (v : V) (hs : List U) (H' : Hp), Drawn wl H H' → At wl.w C H' v (.tup hs) → HdU Vs hs → Q v H'
theorem ok_sm {f : Addr} {fd : FuncData} (F : Fun K "_law_some" "_law_some" lSome f fd) (B : Bt mg) (D : Dd P wd K mg base fD dD) : FnOk P wd K mg base CX0 4 f fd ["well", "versions", "names"] (spSm C) := by
  refine F.ok scSm (fun vs H Q E h => ?_) (fun cdv A outer s H vs Q E hr h => ?_)
  · obtain ⟨wl, Dv, N, zs, js, Vs, rfl, _⟩ := h
    rfl
  obtain ⟨wl, Dv, N, zs, js, Vs, rfl, W, hV, hN, k⟩ := h
  have ver : ∀ {X : Cx} , True := fun {X} => trivial
  refine ⟨_, pss_cons (ps_set (i := 3) scSm.nd rfl (.inl rfl) (pe_lst pa_nil))
    (pss_cons (ps_for PassesOwn.never rfl (pi_list (pv 2)) (pg_name (i := 4) scSm.nd rfl (Or.inl rfl))
      (pss_one (ps_if (PW.pt (pw_and (pt_cmpR op_gt (pe_draw D hr (by decide) (by rfl) (pv 0) pe_int) pe_int (nomark _)) (pw_and1 (pt_cmpR op_gt (pe_callB (show CallR _ _ (rLenQ K) from call_len_seq) (by rfl) B.len PySem.boot_len (pa_cons (pe_dget (room_h1 hr) (pv 1) (pv 4) (fun _ _ => rfl)) pa_nil)) pe_int (nomark _)))))
        (pss_one (ps_expr (pe_bm PySem.F.plainAttrs_list PySem.F.slot_list_append PySem.F.type_list_append mt_append (pv 3) (pa_cons (pe_ix (show IxR _ (rIxL K) from ix_list) (pe_dget (room_h1 hr) (pv 1) (pv 4) (fun _ _ => rfl)) (pe_draw D hr (by decide) (by rfl) (pv 0) (pe_callB (show CallR _ _ (rLenQ K) from call_len_seq) (by rfl) B.len PySem.boot_len (pa_cons (pe_dget (room_h1 hr) (pv 1) (pv 4) (fun _ _ => rfl)) pa_nil))) (fun _ _ => rfl)) pa_nil)))) pss_nil)))
    (pss_one (ps_ret (pe_callTy call_tupF (by rfl) B.tup boot_tuple' (pa_cons (pv 3) pa_nil))))), ?_⟩
  refine ⟨sz_of (show (0 : Nat) ≤ 100000 by decide), fun Dl hD => ?_⟩
  have nD := W.ne hD
  show tSeq _ _ _ [some (V.ref wl.w), some (.ref Dv), some (.ref N), some (.ref Dl), none] _
  refine q_forL (K := K) (xs := zs.map V.str) (ev_var rfl) (sq_of (by rw [upd_ne (ne_of_none hN.h hD)]; exact hN.h)) (fun i σ' H' => ∃ (x4 : Option V) (vs : List V) (us : List U), σ' = [some (.ref wl.w), some (.ref Dv), some (.ref N), some (.ref Dl), x4] ∧ Drawn wl H H' ∧ H' Dl = some (.lst vs) ∧ AtL wl.w C H' vs us ∧ (∀ u ∈ us, u ∈ Vs) ∧ us.length ≤ i ∧ (us.map nmU).Sublist (zs.take i))
    (fun H2 e2 => ⟨_, [], [], rfl, ((Drawn.refl W).new hD).same e2, e2 _ _ upd_same, .nil, fun u hu => (by cases hu), Nat.le_refl _, by simp⟩) (fun i σ' H' _ ⟨_, _, _, _, D1, _⟩ => sq_of (D1.keep _ _ hN.ne hN.h)) ?_ ?_
  · rintro i x σ' H1 hi ⟨x4, vs, us, rfl, D1, h1, al, mem, ln, sb⟩
    rw [List.getElem?_map] at hi
    cases hzi : zs[i]? with
    | none => rw [hzi] at hi; cases hi
    | some z =>
      rw [hzi] at hi
      cases hi
      have hi3 : i < zs.length := (List.getElem?_eq_some_iff.mp hzi).1
      have tk := take_snoc' hzi
      have n3 := hN.n3
      show tIfS _ _ tNext _ [some (V.ref wl.w), some (.ref Dv), some (.ref N), some (.ref Dl), some (.str z)] H1
      have stay : ∀ H2, Drawn wl H1 H2 → (∃ (x4 : Option V) (vs : List V) (us : List U), [some (V.ref wl.w), some (.ref Dv), some (.ref N), some (.ref Dl), some (.str z)] = [some (.ref wl.w), some (.ref Dv), some (.ref N), some (.ref Dl), x4] ∧ Drawn wl H H2 ∧ H2 Dl = some (.lst vs) ∧ AtL wl.w C H2 vs us ∧ (∀ u ∈ us, u ∈ Vs) ∧ us.length ≤ i + 1 ∧ (us.map nmU).Sublist (zs.take (i + 1))) := fun H2 D2 =>
        ⟨_, vs, us, rfl, D1.trans D2, D2.keep _ _ nD.1 h1, AtL.drawn D2 al, mem, Nat.le_succ_of_le ln, by rw [tk]; exact sb.trans (List.sublist_append_left _ _)⟩
      refine ⟨_, rfl, wl, 3, rfl, D1.well, by decide, by decide, fun d H2 d0 d1 D2 => ⟨_, _, rfl, rfl, _, rfl, ite2 (fun q => ?_) (fun q => stay H2 D2)⟩⟩
      have D12 := D1.trans D2
      obtain ⟨kvs, hk, hvz⟩ := (hV.drawn D12).d
      obtain ⟨x, vus, g1, g2, g3, g4⟩ := hvz z (List.mem_of_getElem? hzi)
      have evx : ∀ G, Drawn wl H2 G → Ev (tDGet (tVar 1) (tVar 4)) [some (V.ref wl.w), some (.ref Dv), some (.ref N), some (.ref Dl), some (.str z)] G x := fun G DG => ev_ver rfl rfl (DG.keep _ _ hV.ne hk) g1
      refine (et_test (ev_op (ev_lenL (wl := wl) (C := C) (K := K) (evx H2 (.refl D2.well)) g2) ev_c rv_I0)) H2 (Ex.refl _) _ fun H3 e3 => ite2 (fun q2 => ?_) (fun q2 => stay H3 (D2.same e3))
      have D3 := D2.same e3
      have pos : 1 ≤ vus.length := by
        have := of_decide_eq_true q2
        omega
      refine s_appW (wl := wl) (C := C) (R := fun u => u ∈ Vs ∧ nmU u = z) (ew_anyX (x := x) (fun G DG => evx G (((Drawn.refl D2.well).same e3).trans DG)) (At.drawn ((Drawn.refl D2.well).same e3) g2) rfl pos (by omega) g4) D3.well (D3.keep _ _ nD.1 h1) nD.1 rfl (by have := AtL.length al; omega) fun v u H4 D4 h4 a r => ?_
      have D34 := D3.trans D4
      refine ⟨_, vs ++ [v], us ++ [u], rfl, (D1.trans D34).put W hD, upd_same, ?_, ?_, by rw [List.length_append]; show us.length + 1 ≤ i + 1; omega, ?_⟩
      · refine atl_put h4 (fun y hy => gNamed_pln (hV.ok.g y ?_)) (AtL.snoc (AtL.drawn D34 al) a)
        rcases List.mem_append.mp hy with hy | hy
        · exact mem y hy
        · rw [List.mem_singleton.mp hy]
          exact r.1
      · intro y hy
        rcases List.mem_append.mp hy with hy | hy
        · exact mem y hy
        · rw [List.mem_singleton.mp hy]
          exact r.1
      · rw [tk, List.map_append]
        exact sb.append (by rw [List.map_singleton, r.2]; exact List.Sublist.refl _)
  · rintro σ' H2 ⟨x4, vs, us, rfl, D2, h2, al, mem, ln, sb⟩
    rw [List.length_map] at ln sb
    rw [List.take_length] at sb
    have n3 := hN.n3
    refine ⟨_, rfl, Dl, vs, rfl, .inl ⟨SqL.of h2, newT_data D2.well.at al fun v H5 e5 a5 => k v us H5 (D2.same e5) a5 ⟨mem, srtN_sub sb hN.st, by omega⟩⟩⟩
end
end Hs
/-! what heads lead to, out of the ids -/
namespace Hs
open PySem PySem.Spec PyProof.Rows L2 Hu Evl
abbrev lLed : Stmt := topS 108
section
variable {σ : L2.St} {H : Hp} {tl te : TE} {t : TT} {K : PySem.W.Frag} {ta tb : TE}
theorem lc_PL {a : Addr} {j : Nat} {vs : List Nat} {xs : List V} {ks : List (Int × Int)} {g : Int × Int → Bool} (h : Ev tl σ H (.ref a)) (hx : H a = some (.lst xs)) (hp : P2 H xs ks) (hw : ∀ x, wipe ((wipe σ vs).set j (some x)) vs = wipe σ vs) (hz : ks.length ≤ 40000)
    (ht : ∀ (p : Addr) (k : Int × Int) (G : Hp), k ∈ ks → Ex H G → G p = some (.tup [.int k.1, .int k.2]) → EvT t ((wipe σ vs).set j (some (.ref p))) G (g k)) (he : ∀ (p : Addr) (G : Hp), Ev te ((wipe σ vs).set j (some (.ref p))) G (.ref p)) :
    ∀ H0, Ex H H0 → ∀ Q : VK, (∀ p zs H', H0 p = none → Ex H0 H' → H' p = some (.lst zs) → P2 H' zs (ks.filter g) → Q (.ref p) H') → tLc (iList K tl) (gName j) t te vs σ H0 Q := fun H0 e Q q => h H0 e _ fun H1 e1 => ⟨a, rfl, ⟨xs, sq_of ((e.trans e1) _ _ hx)⟩, fun Dl hD =>
  lc_list (K := K) (xs := xs) (fun i H' => Ex H1 H' ∧ ∃ ys, H' Dl = some (.lst ys) ∧ ys.length ≤ i ∧ P2 H' ys ((ks.take i).filter g)) ⟨Ex.new hD, [], upd_same, Nat.le_refl _, .nil⟩ (fun i H' _ p => sq_of (((e.trans e1).trans p.1) _ _ hx)) (fun i x H2 hi p => by
    obtain ⟨p1, ys, p2, p3, p4⟩ := p
    obtain ⟨b, k, rfl, hk, hb⟩ := hp.get hi
    have hi' : i < ks.length := (List.getElem?_eq_some_iff.mp hk).1
    have e2 := (e.trans e1).trans p1
    refine ⟨hw _, ht b k H2 (List.mem_of_getElem? hk) e2 (e2 _ _ hb) H2 (Ex.refl H2) _ fun H3 e3 => ?_⟩
    have eg : (ks.take (i + 1)).filter g = (ks.take i).filter g ++ if g k = true then [k] else [] := take_filter2 g hk
    cases hg : g k with
    | false =>
      rw [hg] at eg
      rw [if_neg Bool.false_ne_true, List.append_nil] at eg
      rw [if_neg Bool.false_ne_true]
      exact ⟨p1.trans e3, ys, e3 _ _ p2, by omega, by rw [eg]; exact p4.ex e3⟩
    | true =>
      rw [hg, if_pos rfl] at eg
      rw [if_pos rfl]
      refine he b H3 H3 (Ex.refl H3) _ fun H4 e4 => ⟨ys, e4 _ _ (e3 _ _ p2), ?_, fun q o hq => ?_, ys ++ [.ref b], upd_same, ?_, ?_⟩
      · have := bit_line
        unfold bit at this
        omega
      · rw [upd_ne (ne_of_none hq hD)]
        exact e4 _ _ (e3 _ _ (p1 _ _ hq))
      · rw [List.length_append]
        show ys.length + 1 ≤ i + 1
        omega
      · have nt : ∀ b zs, H4 b = some (.tup zs) → upd H4 Dl (.lst (ys ++ [.ref b])) b = some (.tup zs) := fun b' zs hb' => by
          rw [upd_ne (fun z => by rw [z, e4 _ _ (e3 _ _ p2)] at hb'; cases hb')]
          exact hb'
        have nt2 : ∀ c zs, H4 c = some (.tup zs) → upd H4 Dl (.lst (ys ++ [V.ref b])) c = some (.tup zs) := fun c zs hc => by
          rw [upd_ne (fun z => by rw [z, e4 _ _ (e3 _ _ p2)] at hc; cases hc)]
          exact hc
        rw [eg]
        exact ((p4.ex (e3.trans e4)).tups nt2).append (.cons (nt2 _ _ ((e2.trans (e3.trans e4)) _ _ hb)) .nil)) (fun H' p => by
    obtain ⟨p1, ys, p2, p3, p4⟩ := p
    rw [hp.len, List.take_length] at p4
    exact q Dl ys H' (fresh_back e1 hD) (e1.trans p1) p2 p4)⟩
theorem boot_listU : bootBuiltins "list" = some (.type "list") := by decide +kernel
theorem rv_inP2 {H : Hp} {l p : Addr} {vs : List V} {ks : List (Int × Int)} {k : Int × Int} (hl : H l = some (.lst vs)) (h : P2 H vs ks) (hp : H p = some (.tup [.int k.1, .int k.2])) : RV (rInD K) (.ref p) (.ref l) H (.bl (decide (k ∈ ks))) := fun H1 e Q q =>
  ⟨_, _, dp2 (e _ _ hp), .lst (sq_of (e _ _ hl)) (P2.dp (h.tups fun b zs hb => e _ _ hb)), shp2 _ _, shp_list fun d hd => by
    obtain ⟨x, hx, rfl⟩ := List.mem_map.mp hd
    exact ⟨by simp [PyData.canLay0, PyData.canLayAll0], by simp [PyData.depth, PyData.depthAll]⟩, by
    rw [any_p2]
    exact q H1 (Ex.refl H1)⟩
theorem el_listT {p : Addr} {xs : List V} (ha : Ev ta σ H (.ref p)) (h : SqT K H p xs) : EvL (tCB (rListS K) (tCons ta tNil)) σ H xs := fun H1 e Q q =>
  ha H1 e _ fun H2 e2 => ⟨p, xs, rfl, .inr (sqt_ex (e.trans e2) h), fun r hr => q r _ (fresh_back e2 hr) (e2.trans (Ex.new hr)) upd_same⟩
theorem el_catV {xs ys : List V} {i : Nat} {l : Addr} (hv : σ[i]? = some (some (.ref l))) (hl : H l = some (.lst xs)) (hb : EvL tb σ H ys) (hz : xs.length + ys.length ≤ 100000) : EvL (tOp rCat (tVar i) tb) σ H (xs ++ ys) := fun H1 e Q q =>
  ⟨_, hv, hb H1 e _ fun p H2 hp e2 h2 => ⟨l, p, xs, ys, rfl, rfl, e2 _ _ (e _ _ hl), h2, sz_of hz, fun r hr => q r _ (fresh_back e2 hr) (e2.trans (Ex.new hr)) upd_same⟩⟩
end
section
variable {P : Program} {wd : World} {K : PySem.W.Frag} {mg : Str → Option Value} {base : Heap} {C : Addr} {fD : Addr} {dD : FuncData}
abbrev nmLd : List Str := ["heads", "ids", "found", "head", "one"]
theorem scLd : FnScope nmLd ["heads", "ids"] (defScope lLed) := ⟨rfl, rfl, rfl, by decide +kernel, rfl, by decide +kernel, by decide +kernel⟩
def spLd (C : Addr) : Sp := fun vs H Q _ => ∃ (x : V) (I w : Addr) (hs : List U) (xs : List V) (js : List (Int × Int)), vs = [x, .ref I] ∧ At w C H x (.tup hs) ∧ hs.all gNamed = true ∧ hs.length ≤ 100 ∧ H I = some (.lst xs) ∧ P2 H xs js ∧ js.length ≤ 100 ∧
  ∀ p ys H', H p = none → Same H H' → H' p = some (.lst ys) → P2 H' ys (js.filter fun j => decide (j ∈ ledPs hs)) → Q (.ref p) H'
theorem ok_ld {f : Addr} {fd : FuncData} (F : Fun K "_law_led" "_law_led" lLed f fd) (B : Bt mg) : FnOk P wd K mg base CX0 4 f fd ["heads", "ids"] (spLd C) := by
  refine F.ok scLd (fun vs H Q E h => ?_) (fun cdv A outer s H vs Q E hr h => ?_)
  · obtain ⟨x, I, w, hs, xs, js, rfl, _⟩ := h
    rfl
  obtain ⟨x, I, w, hs, xs, js, rfl, hx, hall, hz, hI, hp, hj, k⟩ := h
  have u65 : ∀ {k : Nat} {A : Around}, Room k A → A.units + 65 < cLine := fun {k A} r => by
    have := r.un
    omega
  refine ⟨_, pss_cons (ps_set (i := 2) scLd.nd rfl (.inr rfl) (pe_lst pa_nil))
    (pss_cons (ps_for PassesOwn.never rfl (pi_tup (pv 0)) (pg_name (i := 3) scLd.nd rfl (Or.inl rfl))
      (pss_one (ps_if (pt_cmpR op_notN1 (pe_ix ix_tup (pv 3) pe_int (fun _ _ => rfl)) pe_non (nomark _))
        (pss_one (ps_set (i := 2) scLd.nd rfl (.inr rfl) (pe_op op_cat (pv 2) (pe_callTy call_list_of (by rfl) B.lst boot_listU (pa_cons (pe_ix ix_tup (pv 3) pe_int (fun _ _ => rfl)) pa_nil))))) pss_nil)))
    (pss_one (ps_ret (pe_lc (own := [("one", 4)]) (g := gName 4) rfl scLd.nd (pi_list (pv 1)) (blkOk_by (N := nmLd) (sc := defScope lLed) (by decide +kernel))
        (fun _ _ _ _ _ => pg_name (i := 4) scLd.nd rfl (Or.inl rfl)) (fun _ _ _ _ _ => pts_one (pt_cmpR (show OpR _ _ (rInD K) from op_inD (u65 hr)) (pv 4) (pv 2) (by rfl))) (fun _ _ _ _ _ => pv 4))))), ?_⟩
  refine q_asgL (el_lst ea_nil (by decide)) fun l H1 hl e1 h1 => ?_
  obtain ⟨a, ys, rfl, ha, na, hl0⟩ := at_tup hx
  have hlen := AtL.length hl0
  show tSeq _ _ _ [some (V.ref a), some (.ref I), some (.ref l), none, none] _
  refine q_forT (K := K) (xs := ys) (ev_var rfl) (Tu.st (Tu.ex e1 ha)) (fun i σ' H' => ∃ (x3 : Option V) (lf : Addr) (vs : List V), σ' = [some (.ref a), some (.ref I), some (.ref lf), x3, none] ∧ Ex H H' ∧ H' lf = some (.lst vs) ∧ vs.length ≤ 12 * i ∧ P2 H' vs (ledPs (hs.take i)))
    (fun H2 e2 => ⟨none, l, [], rfl, e1.trans e2, e2 _ _ h1, Nat.le_refl _, .nil⟩) (fun i σ' H' _ ⟨_, _, _, _, e, _⟩ => Tu.st (Tu.ex e ha)) ?_ ?_
  · rintro i y σ' H2 hi ⟨x3, lf, vs, rfl, e2, h2, l2, p2⟩
    have hi' : i < hs.length := by
      have := (List.getElem?_eq_some_iff.mp hi).1
      omega
    obtain ⟨v', hv', av⟩ := AtL.get hl0 (List.getElem?_eq_getElem hi')
    rw [hi] at hv'
    cases hv'
    have hg : hs[i]? = some hs[i] := List.getElem?_eq_getElem hi'
    have tk : ledPs (hs.take (i + 1)) = ledPs (hs.take i) ++ rowP (nth hs[i] 2) := by
      unfold ledPs
      rw [List.take_add_one, hg, List.flatMap_append]
      simp
    have gn := List.all_eq_true.mp hall _ (List.getElem_mem hi')
    generalize hs[i] = un at av tk gn
    obtain ⟨z, s1, r1, rfl, _, gr⟩ := gNamed_is gn
    show tIfS _ _ tNext _ [some (V.ref a), some (.ref I), some (.ref lf), some y, none] H2
    obtain ⟨y2, ev2, ay2⟩ := ev_nth (K := K) (m := 3) (te := tVar 3) (k := 2) (σ := [some (V.ref a), some (.ref I), some (.ref lf), some y, none]) (ev_var rfl) (ex_at e2 av) (show decide (3 = 3) = true from rfl) (by decide)
    have hrow : (rowP (nth (.tup [.str z, s1, r1]) 2)) = rowP r1 := rfl
    rw [hrow] at tk
    refine s_when (b := !isNon r1) (et_test (ev_op ev2 ev_c fun G' eg Q q => ⟨rfl, by rw [at_non (u := r1) ay2]; exact q G' (Ex.refl G')⟩)) (fun q H3 e3 => ?_) (fun q H3 e3 => ?_)
    · have e23 := e2.trans e3
      cases r1 with
      | non => cases q
      | tup rs =>
        obtain ⟨g1, g2⟩ := and2 (a := decide (rs.length ≤ 12)) (b := rs.all gId) gr
        have g1' := of_decide_eq_true g1
        obtain ⟨c, cs, rfl, hc, _, hcl⟩ := at_tup (ex_at e3 ay2)
        have pr := row_p2 hcl g2
        have prl := pr.len
        rw [List.length_map] at prl
        refine s_asgL (el_catV rfl (e3 _ _ h2) (el_listT (fun G eg => ev2 G (e3.trans eg)) (Tu.st hc)) (by omega)) fun l4 H4 hl4 e4 h4 => ?_
        refine ⟨_, l4, _, rfl, e23.trans e4, h4, by rw [List.length_append]; omega, ?_⟩
        rw [tk]
        exact (p2.ex (e3.trans e4)).append (pr.ex e4)
      | _ => cases gr
    · cases r1 with
      | non =>
        refine ⟨_, lf, vs, rfl, e2.trans e3, e3 _ _ h2, by omega, ?_⟩
        rw [tk]
        show P2 H3 vs (ledPs (hs.take i) ++ [])
        rw [List.append_nil]
        exact p2.ex e3
      | _ => cases q
  · rintro σ' H2 ⟨x3, lf, vs, rfl, e2, h2, l2, p2⟩
    rw [hlen, List.take_length] at p2
    refine ret1 ?_
    refine lc_PL (K := K) (σ := [some (V.ref a), some (.ref I), some (.ref lf), x3, none]) (j := 4) (vs := [4]) (g := fun j => decide (j ∈ ledPs hs)) (ev_var rfl) (e2 _ _ hI) (hp.ex e2) (fun _ => rfl) (by omega) (fun p j G _ eg hpj => et_test (ev_op (ev_var rfl) (ev_var rfl) (rv_inP2 (eg _ _ h2) (p2.ex eg) hpj))) (fun p G => ev_var rfl) H2 (Ex.refl H2) _ fun p zs H3 hp3 e3 h3 q3 => k p zs H3 (fresh_back e2 hp3) (e2.trans e3) h3 q3
end
end Hs
/-! heads with blocks; mends -/
namespace Hs
open PySem PySem.Spec PyProof.Rows L2 Hu Evl
abbrev lWith : Stmt := topS 109
section
variable {K : PySem.W.Frag} {σ : L2.St} {te tl : TE} {t : TT} {xs : List V}
theorem lc_PD {w C : Addr} {H : Hp} {ks : List (Int × Int)} {a : Addr} {j : Nat} {vs : List Nat} {g : Int × Int → Bool} {f : Int × Int → U} (h : Ev tl σ H (.ref a)) (hx : H a = some (.lst xs)) (hl : P2 H xs ks) (hz : ks.length ≤ 40000) (hp : ∀ u ∈ ks, pln (f u)) (hw : ∀ x, wipe ((wipe σ vs).set j (some x)) vs = wipe σ vs)
    (ht : ∀ (p : Addr) (k : Int × Int) G, k ∈ ks → Ex H G → G p = some (.tup [.int k.1, .int k.2]) → EvT t ((wipe σ vs).set j (some (.ref p))) G (g k)) (he : ∀ (p : Addr) (k : Int × Int) G, k ∈ ks → g k = true → Ex H G → G p = some (.tup [.int k.1, .int k.2]) → EvD w C te ((wipe σ vs).set j (some (.ref p))) G (f k)) :
    EvLD w C (tLc (iList K tl) (gName j) t te vs) σ H ((ks.filter g).map f) := fun H0 e Q q => h H0 e _ fun H1 e1 => ⟨a, rfl, ⟨xs, sq_of ((e.trans e1) _ _ hx)⟩, fun Dl hD =>
  lc_list (K := K) (xs := xs) (fun i H' => Ex H1 H' ∧ ∃ ys, H' Dl = some (.lst ys) ∧ ys.length ≤ i ∧ AtL w C H' ys (((ks.take i).filter g).map f)) ⟨Ex.new hD, [], upd_same, Nat.le_refl _, .nil⟩ (fun i H' _ p => sq_of (((e.trans e1).trans p.1) _ _ hx)) (fun i x H2 hi p => by
    obtain ⟨p1, ys, p2, p3, p4⟩ := p
    obtain ⟨b, k, rfl, hk, hb⟩ := hl.get hi
    have hu : i < ks.length := (List.getElem?_eq_some_iff.mp hk).1
    have hkm := List.mem_of_getElem? hk
    have e2 := (e.trans e1).trans p1
    refine ⟨hw _, ht b k H2 hkm e2 (e2 _ _ hb) H2 (Ex.refl H2) _ fun H3 e3 => ?_⟩
    have eg := take_filter2 g hk
    cases hg : g k with
    | false =>
      rw [hg] at eg
      rw [if_neg Bool.false_ne_true, List.append_nil] at eg
      rw [if_neg Bool.false_ne_true]
      exact ⟨p1.trans e3, ys, e3 _ _ p2, by omega, by rw [eg]; exact ex_atl e3 p4⟩
    | true =>
      rw [hg, if_pos rfl] at eg
      rw [if_pos rfl]
      refine he b k H3 hkm hg (e2.trans e3) ((e2.trans e3) _ _ hb) H3 (Ex.refl H3) _ fun v H4 e4 a4 => ⟨ys, e4 _ _ (e3 _ _ p2), ?_, fun q o hq => ?_, ys ++ [v], upd_same, ?_, ?_⟩
      · have := bit_line
        unfold bit at this
        omega
      · rw [upd_ne (ne_of_none hq hD)]
        exact e4 _ _ (e3 _ _ (p1 _ _ hq))
      · rw [List.length_append]
        show ys.length + 1 ≤ i + 1
        omega
      · have nt := tq_upd (w := w) (x := .lst (ys ++ [v])) (e4 _ _ (e3 _ _ p2))
        rw [eg, List.map_append]
        refine AtL.append (atl_tups nt (plnL_all.mpr fun y hy => ?_) (ex_atl (e3.trans e4) p4)) (.cons (at_tups nt (hp _ hkm) a4) .nil)
        obtain ⟨z, hz', rfl⟩ := List.mem_map.mp hy
        exact hp z (List.mem_of_mem_take (List.mem_filter.mp hz').1)) (fun H' p => by
    obtain ⟨p1, ys, p2, p3, p4⟩ := p
    rw [hl.len, List.take_length] at p4
    exact q Dl ys H' (fresh_back e1 hD) (e1.trans p1) p2 p4)⟩
/-- pieces[one] -/
theorem ev_pc {H : Hp} {i j : Nat} {d p : Addr} {kvs : List (List L2.Key × V)} {k : Int × Int} {x : V} (h1 : σ[i]? = some (some (.ref d))) (h2 : σ[j]? = some (some (.ref p))) (hd : H d = some (.dT kvs)) (hp : H p = some (.tup [.int k.1, .int k.2])) (hv : valV kvs (kP k) = some x) : Ev (tDGet (tVar i) (tVar j)) σ H x := fun H1 e Q q =>
  ⟨_, h1, _, h2, d, x, rfl, by rw [← hv]; exact DGet.t (k := kP k) (e _ _ hd) (e _ _ hp), q H1 (Ex.refl H1)⟩
end
/-- the pieces of the ids -/
structure Pd (w : Addr) (H : Hp) (Dp : Addr) (js : List (Int × Int)) (pf : Int × Int → Str) : Prop where
  d : ∃ kvs, H Dp = some (.dT kvs) ∧ ∀ j ∈ js, valV kvs (kP j) = some (.str (pf j))
  ne : Dp ≠ w
  g : ∀ j ∈ js, gPiece (.str (pf j)) = true
  b : ∀ j ∈ js, Bd (.str (pf j)) 60 2 0
theorem Pd.drawn {wl : WA} {H H' : Hp} {Dp : Addr} {js : List (Int × Int)} {pf : Int × Int → Str} (x : Pd wl.w H Dp js pf) (D : Drawn wl H H') : Pd wl.w H' Dp js pf := ⟨x.d.imp fun kvs h => ⟨D.keep _ _ x.ne h.1, h.2⟩, x.ne, x.g, x.b⟩
theorem Pd.ex {w : Addr} {H H' : Hp} {Dp : Addr} {js : List (Int × Int)} {pf : Int × Int → Str} (x : Pd w H Dp js pf) (D : Ex H H') : Pd w H' Dp js pf := ⟨x.d.imp fun kvs h => ⟨D _ _ h.1, h.2⟩, x.ne, x.g, x.b⟩
/-- these ids, with their pieces -/
def blks (pf : Int × Int → Str) (is : List (Int × Int)) : List U := is.map fun j => bzU (j, pf j)
section
variable {P : Program} {wd : World} {K : PySem.W.Frag} {mg : Str → Option Value} {base : Heap} {C : Addr} {fD : Addr} {dD : FuncData}
/-- tuple([(one, pieces[one]) for one in ids if ..]) -/
theorem ed_blks {w I Dp : Addr} {σ : L2.St} {H : Hp} {tt : TT} {xs : List V} {js : List (Int × Int)} {pf : Int × Int → Str} {g : Int × Int → Bool} {iI iP j : Nat} {vs : List Nat} (hw : ∃ l, H w = some (.lst l)) (hv : σ[iI]? = some (some (.ref I))) (hI : H I = some (.lst xs)) (hp : P2 H xs js) (hz : js.length ≤ 40000) (pd : Pd w H Dp js pf)
    (hP : ∀ x, ((wipe σ vs).set j (some x))[iP]? = some (some (.ref Dp))) (hJ : ∀ x, ((wipe σ vs).set j (some x))[j]? = some (some x)) (hwp : ∀ x, wipe ((wipe σ vs).set j (some x)) vs = wipe σ vs) (ht : ∀ (p : Addr) (k : Int × Int) G, k ∈ js → Ex H G → G p = some (.tup [.int k.1, .int k.2]) → EvT tt ((wipe σ vs).set j (some (.ref p))) G (g k)) :
    EvD w C (tCB (rTupF K) (tCons (tLc (iList K (tVar iI)) (gName j) tt (tTupF (tCons (tVar j) (tCons (tDGet (tVar iP) (tVar j)) tNil))) vs) tNil)) σ H (.tup (blks pf (js.filter g))) := by
  refine ed_tupL (hw.elim fun l h => ⟨_, h⟩) (lc_PD (K := K) (w := w) (C := C) (g := g) (f := fun k => bzU (k, pf k)) (ev_var hv) hI hp hz (fun u _ => bzU_pln _) hwp ht fun p k G hk _ eg hpk => ?_)
  obtain ⟨kvs, h1, h2⟩ := (pd.ex eg).d
  have np : p ≠ w := fun e => by
    obtain ⟨l, ho⟩ := hw
    rw [e, eg _ _ ho] at hpk
    cases hpk
  exact ed_tup (hw.elim fun l h => ⟨_, eg _ _ h⟩) (eds_cons (ed_ev (te := tVar j) (ev_var (hJ _)) (.tup (Tu.of hpk rfl) np (.cons (.int _) (.cons (.int _) .nil)))) (eds_cons (ed_ev (te := tDGet (tVar iP) (tVar j)) (ev_pc (hP _) (hJ _) h1 hpk (h2 k hk)) (.str _)) eds_nil)) (by show (2 : Nat) ≤ 100000; decide)
abbrev nmWB : List Str := ["well", "heads", "ids", "pieces", "one", "more", "led"]
theorem scWB : FnScope nmWB ["well", "heads", "ids", "pieces"] (defScope lWith) := ⟨rfl, rfl, rfl, by decide +kernel, rfl, by decide +kernel, by decide +kernel⟩
theorem Well.lst {H : Hp} {wl : WA} (W : Well H wl) : ∃ l, H wl.w = some (.lst l) := by
  obtain ⟨cells, pos, rest, mix, h1, _⟩ := W.ex
  exact ⟨_, h1⟩
def spWB (C : Addr) : Sp := fun vs H Q _ => ∃ (wl : WA) (x : V) (I Dp : Addr) (hs : List U) (xs : List V) (js : List (Int × Int)) (pf : Int × Int → Str), vs = [.ref wl.w, x, .ref I, .ref Dp] ∧ Well H wl ∧ At wl.w C H x (.tup hs) ∧ hs.all gNamed = true ∧ hs.length ≤ 100 ∧ Ids C wl H I xs js ∧ Pd wl.w H Dp js pf ∧ (∀ p ∈ ledPs hs, p ∈ js) ∧
  ∀ (v : V) (is : List (Int × Int)) (H' : Hp), Drawn wl H H' → At wl.w C H' v (.tup (blks pf is)) → is.Sublist js → (∀ p ∈ ledPs hs, p ∈ is) → Q v H'
theorem ok_wb {f fL : Addr} {fd dL : FuncData} (F : Fun K "_law_with_blocks" "_law_with_blocks" lWith f fd) (B : Bt mg) (D : Dd P wd K mg base fD dD) (DL : Df K mg "_law_led" lLed ["heads", "ids"] fL dL) (GL : FnOk P wd K mg base CX0 4 fL dL ["heads", "ids"] (spLd C)) :
    FnOk P wd K mg base CX0 5 f fd ["well", "heads", "ids", "pieces"] (spWB C) := by
  refine F.ok scWB (fun vs H Q E h => ?_) (fun cdv A outer s H vs Q E hr h => ?_)
  · obtain ⟨wl, x, I, Dp, hs, xs, js, pf, rfl, _⟩ := h
    rfl
  obtain ⟨wl, x, I, Dp, hs, xs, js, pf, rfl, W, hx, hall, hz, hI, hP, hsub, k⟩ := h
  have u65 : ∀ {k : Nat} {A : Around}, Room k A → A.units + 65 < cLine := fun {k A} r => by
    have := r.un
    omega
  refine ⟨_, pss_cons (ps_set (i := 5) scWB.nd rfl (.inr rfl) (pe_lc (own := [("one", 4)]) (g := gName 4) rfl scWB.nd (pi_list (pv 2)) (blkOk_by (N := nmWB) (sc := defScope lWith) (by decide +kernel))
        (fun _ _ _ _ _ => pg_name (i := 4) scWB.nd rfl (Or.inl rfl)) (fun _ _ _ _ _ => pts_one (pt_cmpR op_eq (pe_draw D hr (by decide) (by rfl) (pv 0) pe_int) pe_int (nomark _))) (fun _ _ _ _ _ => pv 4)))
    (pss_cons (ps_set (i := 6) scWB.nd rfl (.inr rfl) (pe_call GL hr (by rfl) DL.g DL.F.kp DL.b .nil pass0 (pa_cons (pv 1) (pa_cons (pv 2) pa_nil))))
    (pss_one (ps_ret (pe_callTy call_tupF (by rfl) B.tup boot_tuple' (pa_cons (pe_lc (own := [("one", 4)]) (g := gName 4) rfl scWB.nd (pi_list (pv 2)) (blkOk_by (N := nmWB) (sc := defScope lWith) (by decide +kernel))
        (fun _ _ _ _ _ => pg_name (i := 4) scWB.nd rfl (Or.inl rfl)) (fun _ _ _ _ _ => pts_one (PW.pt (pw_or (pt_cmpR (show OpR _ _ (rInD K) from op_inD (u65 hr)) (pv 4) (pv 6) (by rfl)) (pw_or1 (pt_cmpR (show OpR _ _ (rInD K) from op_inD (u65 hr)) (pv 4) (pv 5) (by rfl))))))
        (fun _ _ _ _ _ => pe_tupF (pa_cons (pv 4) (pa_cons (pe_dget (room_h1 hr) (pv 3) (pv 4) (fun _ _ => rfl)) pa_nil)))) pa_nil))))), ?_⟩
  refine ⟨_, rfl, I, rfl, ⟨xs, sq_of hI.h⟩, fun Dm hDm => ?_⟩
  have nDm := (W.ne hDm).1
  have xlen := hI.p.len
  have jn := hI.n
  refine lc_list (K := K) (xs := xs) (fun i H' => Drawn wl H H' ∧ ∃ (vs : List V) (ks : List (Int × Int)), H' Dm = some (.lst vs) ∧ P2 H' vs ks ∧ ks.length ≤ i) ⟨(Drawn.refl W).new hDm, [], [], upd_same, .nil, Nat.le_refl _⟩ (fun i H' _ p => sq_of (p.1.keep _ _ hI.ne hI.h)) ?_ ?_
  · rintro n y H7 hy ⟨D7, vs, ks, hvs, p2, ln⟩
    obtain ⟨p, sk, rfl, hsk, hp⟩ := hI.p.get hy
    have hp7 : H7 p = some (.tup [.int sk.1, .int sk.2]) := D7.keep _ _ (not_well W hp) hp
    have n10 : n < js.length := (List.getElem?_eq_some_iff.mp hsk).1
    refine ⟨rfl, ?_⟩
    refine ⟨_, rfl, wl, 5, rfl, D7.well, by decide, by decide, fun d H8 d0 d1 D8 => ⟨rfl, _, rfl, ?_⟩⟩
    have D78 := D7.trans D8
    have pk8 := p2.tups (drawn_tups D7.well D8)
    have hvs8 := D8.keep _ _ nDm hvs
    refine ite2 (fun q => ?_) (fun q => ?_)
    · refine ⟨_, rfl, vs, hvs8, sz_lt (by have := pk8.len; omega), D78.put W hDm, vs ++ [.ref p], ks ++ [sk], upd_same, ?_, by rw [List.length_append]; show ks.length + 1 ≤ n + 1; omega⟩
      have nt : ∀ c zs, H8 c = some (.tup zs) → upd H8 Dm (.lst (vs ++ [.ref p])) c = some (.tup zs) := fun c zs hc => by
        rw [upd_ne (fun z => by rw [z, hvs8] at hc; cases hc)]
        exact hc
      exact (pk8.snoc (k := sk) (D8.keep _ _ (not_well D7.well hp7) hp7)).tups nt
    · exact ⟨D78, vs, ks, hvs8, pk8, Nat.le_succ_of_le ln⟩
  rintro H7 ⟨D7, vs, ks, hvs, p2, ln⟩
  have hI7 := hI.keep W D7
  show tSeq _ _ _ [some (V.ref wl.w), some x, some (.ref I), some (.ref Dp), none, some (.ref Dm), none] H7
  refine asgQ (callQ (ea_cons (ev_var rfl) (ea_cons (ev_var rfl) ea_nil)) fun H8 e8 => ⟨x, I, wl.w, hs, xs, js, rfl, ex_at e8 (At.drawn D7 hx), hall, hz, e8 _ _ hI7.h, hI7.p.ex e8, by omega, fun L ls H9 hL0 e9 hL pL => ?_⟩)
  have e79 := e8.trans e9
  have D9 := D7.same e79
  have hI9 := hI.keep W D9
  have hP9 := hP.drawn D9
  refine ret1 ?_
  refine (ed_blks (K := K) (C := C) (w := wl.w) (g := fun j => decide (j ∈ js.filter fun j => decide (j ∈ ledPs hs)) || decide (j ∈ ks)) (xs := xs) (σ := [some (V.ref wl.w), some x, some (.ref I), some (.ref Dp), none, some (.ref Dm), some (.ref L)]) D9.well.lst rfl hI9.h hI9.p (by omega) hP9 (fun _ => rfl) (fun _ => rfl) (fun _ => rfl) (fun p j G _ eg hpj =>
    et_or (et_test (ev_op (ev_var rfl) (ev_var rfl) (rv_inP2 (eg _ _ hL) (pL.ex eg) hpj))) fun _ => et_test (ev_op (ev_var rfl) (ev_var rfl) (rv_inP2 (eg _ _ (e79 _ _ hvs)) ((p2.ex e79).ex eg) hpj)))) H9 (Ex.refl H9) _ fun v H10 e10 a10 => ?_
  refine k v _ H10 (D9.same e10) a10 List.filter_sublist fun p hp => ?_
  refine List.mem_filter.mpr ⟨hsub p hp, ?_⟩
  rw [decide_eq_true (List.mem_filter.mpr ⟨hsub p hp, decide_eq_true hp⟩)]
  rfl
end
end Hs
/-! the mends -/
namespace Hs
open PySem PySem.Spec PyProof.Rows L2 Hu Evl
abbrev lMends : Stmt := topS 110
abbrev Mend : Type := List U × List (Int × Int)
def mdU (pf : Int × Int → Str) (m : Mend) : U := .tup [.str "mend", .tup m.1, .tup (blks pf m.2)]
structure MdOk (Vs : List U) (js : List (Int × Int)) (m : Mend) : Prop where
  h : HdU Vs m.1
  s : m.2.Sublist js
  c : ∀ p ∈ ledPs m.1, p ∈ m.2
theorem HdU.all {zs : List Str} {js : List (Int × Int)} {Vs hs : List U} (h : HdU Vs hs) (ok : Vok zs js Vs) : hs.all gNamed = true := List.all_eq_true.mpr fun u hu => ok.g u (h.m u hu)
theorem HdU.led {zs : List Str} {js : List (Int × Int)} {Vs hs : List U} (h : HdU Vs hs) (ok : Vok zs js Vs) : ∀ p ∈ ledPs hs, p ∈ js := fun p hp => by
  obtain ⟨u, hu, hp⟩ := List.mem_flatMap.mp hp
  exact ok.ids u (h.m u hu) p hp
theorem blks_pln (pf : Int × Int → Str) (is : List (Int × Int)) : plnL (blks pf is) := plnL_all.mpr fun u hu => by
  obtain ⟨j, _, rfl⟩ := List.mem_map.mp hu
  exact bzU_pln _
theorem mdU_pln {zs : List Str} {js : List (Int × Int)} {Vs : List U} (pf : Int × Int → Str) {m : Mend} (ok : Vok zs js Vs) (h : MdOk Vs js m) : pln (mdU pf m) :=
  ⟨trivial, plnL_all.mpr fun u hu => gNamed_pln (ok.g u (h.h.m u hu)), blks_pln pf _, trivial⟩
section
variable {P : Program} {wd : World} {K : PySem.W.Frag} {mg : Str → Option Value} {base : Heap} {C : Addr} {fD : Addr} {dD : FuncData}
abbrev nmMs : List Str := ["well", "versions", "names", "ids", "pieces", "mends", "k", "heads"]
theorem scMs : FnScope nmMs ["well", "versions", "names", "ids", "pieces"] (defScope lMends) := ⟨rfl, rfl, rfl, by decide +kernel, rfl, by decide +kernel, by decide +kernel⟩
def spMs (C : Addr) : Sp := fun vs H Q _ => ∃ (wl : WA) (Dv N I Dp : Addr) (zs : List Str) (xs : List V) (js : List (Int × Int)) (Vs : List U) (pf : Int × Int → Str), vs = [.ref wl.w, .ref Dv, .ref N, .ref I, .ref Dp] ∧ Well H wl ∧ Vd wl C H Dv zs js Vs ∧ Nm wl H N zs ∧ Ids C wl H I xs js ∧ Pd wl.w H Dp js pf ∧
  ∀ (v : V) (ms : List Mend) (H' : Hp), Drawn wl H H' → At wl.w C H' v (.lst (ms.map (mdU pf))) → ms.length ≤ 8 → (∀ m ∈ ms, MdOk Vs js m) → Q v H'
theorem ok_ms {f fS fW : Addr} {fd dS dW : FuncData} (F : Fun K "_law_mends" "_law_mends" lMends f fd) (B : Bt mg) (D : Dd P wd K mg base fD dD) (DS : Df K mg "_law_some" lSome ["well", "versions", "names"] fS dS) (GS : FnOk P wd K mg base CX0 4 fS dS ["well", "versions", "names"] (spSm C))
    (DW : Df K mg "_law_with_blocks" lWith ["well", "heads", "ids", "pieces"] fW dW) (GW : FnOk P wd K mg base CX0 5 fW dW ["well", "heads", "ids", "pieces"] (spWB C)) : FnOk P wd K mg base CX0 6 f fd ["well", "versions", "names", "ids", "pieces"] (spMs C) := by
  refine F.ok scMs (fun vs H Q E h => ?_) (fun cdv A outer s H vs Q E hr h => ?_)
  · obtain ⟨wl, Dv, N, I, Dp, zs, xs, js, Vs, pf, rfl, _⟩ := h
    rfl
  obtain ⟨wl, Dv, N, I, Dp, zs, xs, js, Vs, pf, rfl, W, hV, hN, hI, hP, k⟩ := h
  refine ⟨_, pss_cons (ps_set (i := 5) scMs.nd rfl (.inl rfl) (pe_lst pa_nil))
    (pss_cons (ps_for PassesOwn.never rfl (pi_range1 (by rfl) B.range (pa_cons (pe_draw D hr (by decide) (by rfl) (pv 0) pe_int) pa_nil)) (pg_name (i := 6) scMs.nd rfl (Or.inl rfl))
      (pss_cons (ps_set (i := 7) scMs.nd rfl (.inl rfl) (pe_call (GS.mono (by decide : 4 ≤ 5)) hr (by rfl) DS.g DS.F.kp DS.b .nil pass0 (pa_cons (pv 0) (pa_cons (pv 1) (pa_cons (pv 2) pa_nil)))))
      (pss_one (ps_expr (pe_bm PySem.F.plainAttrs_list PySem.F.slot_list_append PySem.F.type_list_append mt_append (pv 5) (pa_cons (pe_tupF (pa_cons pe_str (pa_cons (pv 7) (pa_cons (pe_call GW hr (by rfl) DW.g DW.F.kp DW.b .nil pass0 (pa_cons (pv 0) (pa_cons (pv 7) (pa_cons (pv 3) (pa_cons (pv 4) pa_nil))))) pa_nil)))) pa_nil))))))
    (pss_one (ps_ret (pv 5)))), ?_⟩
  refine q_asgL (el_lst ea_nil (by decide)) fun Dl H0 hD e0 h0 => ?_
  have nD := W.ne hD
  have D0 : Drawn wl H H0 := (Drawn.refl W).same e0
  refine q_forRX (R := fun n H' => n ≤ 8 ∧ Drawn wl H H' ∧ H' Dl = some (.lst [])) (fun Q q => ⟨_, rfl, wl, 9, rfl, D0.well, by decide, by decide, fun d H1 d0 d1 D1 => ?_⟩) (fun n H' r => by have := r.1; omega)
    (fun n i σ' H' => n ≤ 8 ∧ ∃ (x6 x7 : Option V) (vs : List V) (ms : List Mend), σ' = [some (V.ref wl.w), some (.ref Dv), some (.ref N), some (.ref I), some (.ref Dp), some (.ref Dl), x6, x7] ∧ Drawn wl H H' ∧ H' Dl = some (.lst vs) ∧ AtL wl.w C H' vs (ms.map (mdU pf)) ∧ ms.length ≤ i ∧ ∀ m ∈ ms, MdOk Vs js m)
    (fun n H' r => ⟨r.1, none, none, [], [], rfl, r.2.1, r.2.2, .nil, Nat.le_refl _, fun m hm => (by cases hm)⟩) ?_ ?_
  · have := q d.toNat H1 ⟨by omega, D0.trans D1, D1.keep _ _ nD.1 h0⟩
    rw [show ((d.toNat : Nat) : Int) = d by omega] at this
    exact this
  · rintro n i σ' H1 hi ⟨n8, x6, x7, vs, ms, rfl, D1, h1, al, ln, hm⟩
    have hV1 := hV.drawn D1
    have hN1 := hN.keep D1
    show tSeq _ _ _ [some (V.ref wl.w), some (.ref Dv), some (.ref N), some (.ref I), some (.ref Dp), some (.ref Dl), some (.int i), x7] H1
    refine ⟨_, rfl, _, rfl, _, rfl, wl, Dv, N, zs, js, Vs, rfl, D1.well, hV1, hN1, fun v hs H2 D2 a2 hd => ?_⟩
    dsimp only [gName]
    have D12 := D1.trans D2
    show tDrop _ _ [some (V.ref wl.w), some (.ref Dv), some (.ref N), some (.ref I), some (.ref Dp), some (.ref Dl), some (.int i), some v] H2
    have hall := hd.all hV.ok
    have ew : EvW wl C (tTupF (tCons (tC (.str "mend")) (tCons (tVar 7) (tCons (tCall (spWB C) [] E0 (tCons (tVar 0) (tCons (tVar 7) (tCons (tVar 3) (tCons (tVar 4) tNil))))) tNil)))) [some (V.ref wl.w), some (.ref Dv), some (.ref N), some (.ref I), some (.ref Dp), some (.ref Dl), some (.int i), some v] H2 (fun u => ∃ m, u = mdU pf m ∧ MdOk Vs js m) := fun H3 D3 Q q => by
      refine ⟨_, rfl, _, rfl, _, rfl, _, rfl, _, rfl, wl, v, I, Dp, hs, xs, js, pf, rfl, D3.well, At.drawn D3 a2, hall, by have := hd.n; omega, hI.keep W (D12.trans D3), hP.drawn (D12.trans D3), hd.led hV.ok, fun w is H4 D4 a4 sb cl => ⟨sz_of (show (3 : Nat) ≤ 100000 by decide), newT_data D4.well.at (us := [.str "mend", .tup hs, .tup (blks pf is)]) (.cons (.str _) (.cons (At.drawn (D3.trans D4) a2) (.cons a4 .nil))) fun t H5 e5 a5 => q t _ H5 (D4.same e5) a5 ⟨(hs, is), rfl, hd, sb, cl⟩⟩⟩
    refine s_appW ew D2.well (D2.keep _ _ nD.1 h1) nD.1 rfl (by have := AtL.length al; rw [List.length_map] at this; omega) fun t u H3 D3 h3 a3 r => ?_
    obtain ⟨m, rfl, om⟩ := r
    have D23 := D2.trans D3
    refine ⟨n8, _, _, vs ++ [t], ms ++ [m], rfl, (D1.trans D23).put W hD, upd_same, ?_, by rw [List.length_append]; show ms.length + 1 ≤ i + 1; omega, ?_⟩
    · rw [List.map_append]
      refine atl_put h3 (fun y hy => ?_) (AtL.snoc (AtL.drawn D23 al) a3)
      rcases List.mem_append.mp hy with hy | hy
      · obtain ⟨m', hm', rfl⟩ := List.mem_map.mp hy
        exact mdU_pln pf hV.ok (hm m' hm')
      · rw [List.mem_singleton.mp hy]
        exact mdU_pln pf hV.ok om
    · intro m' hm'
      rcases List.mem_append.mp hm' with hy | hy
      · exact hm m' hy
      · rw [List.mem_singleton.mp hy]
        exact om
  · rintro n σ' H2 ⟨n8, x6, x7, vs, ms, rfl, D2, h2, al, ln, hm⟩
    exact ⟨_, rfl, k (.ref Dl) ms H2 D2 (.lst h2 nD.1 al) (by omega) hm⟩
end
end Hs
/-! the mends in another order; with collects between -/
namespace Hs
open PySem PySem.Spec PyProof.Rows L2 Hu Evl
abbrev lTurned : Stmt := topS 111
abbrev lWithCol : Stmt := topS 112
theorem mem_erase {α : Type} {xs : List α} {k : Nat} {y : α} (h : xs[k]? = some y) (u : α) : u ∈ xs ↔ u = y ∨ u ∈ xs.eraseIdx k := by
  obtain ⟨hk, e⟩ := List.getElem?_eq_some_iff.mp h
  rw [List.eraseIdx_eq_take_drop_succ]
  conv => lhs; rw [← List.take_append_drop k xs, List.drop_eq_getElem_cons hk, e]
  simp only [List.mem_append, List.mem_cons]
  constructor
  · rintro (h | h | h)
    · exact .inr (.inl h)
    · exact .inl h
    · exact .inr (.inr h)
  · rintro (h | h | h)
    · exact .inr (.inl h)
    · exact .inl h
    · exact .inr (.inr h)
theorem atl_erase {w C : Addr} {H : Hp} {vs : List V} {us : List U} (l : AtL w C H vs us) (k : Nat) : AtL w C H (vs.eraseIdx k) (us.eraseIdx k) := by
  rw [List.eraseIdx_eq_take_drop_succ, List.eraseIdx_eq_take_drop_succ]
  exact AtL.append (AtL.take k l) (AtL.drop (k + 1) l)
theorem seqIx {k n : Nat} (h : k < n) : seqIndex? (k : Int) n = some k := by
  have h0 : ¬ ((k : Int) < 0) := by omega
  have h1 : (k : Int) < (n : Int) := by omega
  have h2 : (0 : Int) ≤ (k : Int) := by omega
  simp only [seqIndex?, if_neg h0, decide_eq_true h2, decide_eq_true h1, Bool.and_self, if_true, Int.toNat_natCast]
def colU : U := .tup [.str "collect"]
section
variable {P : Program} {wd : World} {K : PySem.W.Frag} {mg : Str → Option Value} {base : Heap} {C : Addr} {fD : Addr} {dD : FuncData}
abbrev nmTu : List Str := ["well", "mends", "rest", "order", "k"]
theorem scTu : FnScope nmTu ["well", "mends"] (defScope lTurned) := ⟨rfl, rfl, rfl, by decide +kernel, rfl, by decide +kernel, by decide +kernel⟩
def spTu (C : Addr) : Sp := fun vs H Q _ => ∃ (wl : WA) (x : V) (us : List U), vs = [.ref wl.w, x] ∧ Well H wl ∧ At wl.w C H x (.lst us) ∧ us.length ≤ 8 ∧ plnL us ∧
  ∀ (v : V) (os : List U) (H' : Hp), Drawn wl H H' → At wl.w C H' v (.lst os) → os.length ≤ 16 → (∀ u, u ∈ os ↔ u ∈ us) → Q v H'
theorem ok_tu {f : Addr} {fd : FuncData} (F : Fun K "_law_turned" "_law_turned" lTurned f fd) (B : Bt mg) (D : Dd P wd K mg base fD dD) : FnOk P wd K mg base CX0 4 f fd ["well", "mends"] (spTu C) := by
  refine F.ok scTu (fun vs H Q E h => ?_) (fun cdv A outer s H vs Q E hr h => ?_)
  · obtain ⟨wl, x, us, rfl, _⟩ := h
    rfl
  obtain ⟨wl, x, us, rfl, W, hx, u8, hp, k⟩ := h
  refine ⟨_, pss_cons (ps_set (i := 2) scTu.nd rfl (.inl rfl) (pe_callTy call_list_of (by rfl) B.lst boot_listU (pa_cons (pv 1) pa_nil)))
    (pss_cons (ps_set (i := 3) scTu.nd rfl (.inl rfl) (pe_lst pa_nil))
    (pss_cons (ps_for PassesOwn.never rfl (pi_range1 (by rfl) B.range (pa_cons (pe_callB (show CallR _ _ (rLenQ K) from call_len_seq) (by rfl) B.len PySem.boot_len (pa_cons (pv 1) pa_nil)) pa_nil)) (pg_name (i := 4) scTu.nd rfl (Or.inl rfl))
      (pss_cons (ps_expr (pe_bm PySem.F.plainAttrs_list PySem.F.slot_list_append PySem.F.type_list_append mt_append (pv 3) (pa_cons (pe_bm PySem.F.plainAttrs_list PySem.F.slot_list_pop PySem.F.type_list_pop mt_popAt (pv 2) (pa_cons (pe_draw D hr (by decide) (by rfl) (pv 0) (pe_callB (show CallR _ _ (rLenQ K) from call_len_seq) (by rfl) B.len PySem.boot_len (pa_cons (pv 2) pa_nil))) pa_nil)) pa_nil)))
      (pss_one (ps_if (pt_cmpR op_eq (pe_draw D hr (by decide) (by rfl) (pv 0) pe_int) pe_int (nomark _))
        (pss_one (ps_expr (pe_bm PySem.F.plainAttrs_list PySem.F.slot_list_append PySem.F.type_list_append mt_append (pv 3) (pa_cons (pe_ix (show IxR _ (rIxL K) from ix_list) (pv 3) (pe_draw D hr (by decide) (by rfl) (pv 0) (pe_callB (show CallR _ _ (rLenQ K) from call_len_seq) (by rfl) B.len PySem.boot_len (pa_cons (pv 3) pa_nil))) (fun _ _ => rfl)) pa_nil)))) pss_nil))))
    (pss_one (ps_ret (pv 3))))), ?_⟩
  obtain ⟨p, xs, rfl, hx0, nx, lx⟩ := at_lst hx
  refine q_asgL (el_list (ev_var rfl) (SqL.of hx0)) fun Rr H1 hR e1 h1 => ?_
  refine q_asgL (el_lst ea_nil (by decide)) fun Oo H2 hO e2 h2 => ?_
  have e12 := e1.trans e2
  have hO0 : H Oo = none := fresh_back e1 hO
  have nR := (W.ne hR).1
  have nO := (W.ne hO0).1
  have nRO : Rr ≠ Oo := fun e => by rw [← e, h1] at hO; cases hO
  have xlen := AtL.length lx
  have D2 : Drawn wl H H2 := (Drawn.refl W).same e12
  show tSeq (tFor _ _ _) _ _ [some (V.ref wl.w), some (.ref p), some (.ref Rr), some (.ref Oo), none] H2
  refine q_forRX (R := fun n H' => n = us.length ∧ H' = H2) (fun Q q => ⟨_, rfl, p, xs, rfl, .inl (SqL.of (e12 _ _ hx0)), by rw [xlen]; exact q us.length H2 ⟨rfl, rfl⟩⟩) (fun n H' r => by have := r.1; omega)
    (fun n i σ' H' => n = us.length ∧ ∃ (x4 : Option V) (rv ov : List V) (rs os : List U), σ' = [some (V.ref wl.w), some (.ref p), some (.ref Rr), some (.ref Oo), x4] ∧ Drawn wl H H' ∧ H' Rr = some (.lst rv) ∧ AtL wl.w C H' rv rs ∧ H' Oo = some (.lst ov) ∧ AtL wl.w C H' ov os ∧ rs.length + i = us.length ∧ os.length ≤ 2 * i ∧ ∀ u, u ∈ us ↔ u ∈ rs ∨ u ∈ os)
    (fun n H' r => by
      obtain ⟨rfl, rfl⟩ := r
      exact ⟨rfl, none, xs, [], us, [], rfl, D2, e2 _ _ h1, ex_atl e12 lx, h2, .nil, rfl, Nat.le_refl _, fun u => ⟨.inl, fun h => h.elim id fun h => by cases h⟩⟩) ?_ ?_
  · rintro n i σ' H3 hi ⟨rfl, x4, rv, ov, rs, os, rfl, D3, h3, lr, o3, lo, ln, lo2, mem⟩
    have hpr : ∀ y ∈ rs, pln y := fun y hy => plnL_all.mp hp y ((mem y).mpr (.inl hy))
    have hpo : ∀ y ∈ os, pln y := fun y hy => plnL_all.mp hp y ((mem y).mpr (.inr hy))
    have rlen := AtL.length lr
    have olen := AtL.length lo
    show tSeq (tDrop _) _ _ [some (V.ref wl.w), some (.ref p), some (.ref Rr), some (.ref Oo), some (.int i)] H3
    refine ⟨_, rfl, .inl ⟨rfl, ov, sq_of o3⟩, _, rfl, .inl ⟨rfl, rv, sq_of h3⟩, _, rfl, _, rfl, Rr, rv, rfl, .inl (SqL.of h3), wl, rv.length, rfl, D3.well, by omega, by omega, fun d H4 d0 d1 D4 => ?_⟩
    have D34 := D3.trans D4
    have h4 : H4 Rr = some (.lst rv) := D4.keep _ _ nR h3
    have o4 : H4 Oo = some (.lst ov) := D4.keep _ _ nO o3
    obtain ⟨j, rfl⟩ : ∃ j : Nat, d = (j : Int) := ⟨d.toNat, by omega⟩
    have hj : j < rs.length := by omega
    have hy := List.getElem?_eq_getElem hj
    generalize rs[j] = u at hy
    obtain ⟨y, hyv, ay⟩ := AtL.get (AtL.drawn D4 lr) hy
    have memE := mem_erase hy
    have elen : (rs.eraseIdx j).length + 1 = rs.length := by
      rw [List.length_eraseIdx_of_lt hj]
      omega
    refine ⟨Rr, rv, (j : Int), j, y, rfl, rfl, h4, by omega, by omega, seqIx (by omega), hyv, Oo, ov, y, rfl, rfl, by rw [upd_ne nRO.symm]; exact o4, sz_lt (by omega), ?_⟩
    have hpe : ∀ z ∈ rs.eraseIdx j, pln z := fun z hz => hpr z ((memE z).mpr (.inr hz))
    have pu : pln u := hpr u ((memE u).mpr (.inl rfl))
    have lr5 : AtL wl.w C (upd H4 Rr (.lst (rv.eraseIdx j))) (rv.eraseIdx j) (rs.eraseIdx j) := atl_put h4 hpe (atl_erase (AtL.drawn D4 lr) j)
    have lo5 : AtL wl.w C (upd H4 Rr (.lst (rv.eraseIdx j))) (ov ++ [y]) (os ++ [u]) := atl_put h4 (fun z hz => by
      rcases List.mem_append.mp hz with hz | hz
      · exact hpo z hz
      · rw [List.mem_singleton.mp hz]
        exact pu) (AtL.snoc (AtL.drawn D4 lo) ay)
    have o5 : upd H4 Rr (.lst (rv.eraseIdx j)) Oo = some (.lst ov) := by
      rw [upd_ne nRO.symm]
      exact o4
    have D5 : Drawn wl H (upd H4 Rr (.lst (rv.eraseIdx j))) := D34.put W hR
    have h5 : upd H4 Rr (.lst (rv.eraseIdx j)) Rr = some (.lst (rv.eraseIdx j)) := upd_same
    generalize upd H4 Rr (.lst (rv.eraseIdx j)) = H5 at lr5 lo5 o5 D5 h5 ⊢
    have hpo5 : ∀ z ∈ os ++ [u], pln z := fun z hz => by
      rcases List.mem_append.mp hz with hz | hz
      · exact hpo z hz
      · rw [List.mem_singleton.mp hz]
        exact pu
    have lr6 : AtL wl.w C (upd H5 Oo (.lst (ov ++ [y]))) (rv.eraseIdx j) (rs.eraseIdx j) := atl_put o5 hpe lr5
    have lo6 : AtL wl.w C (upd H5 Oo (.lst (ov ++ [y]))) (ov ++ [y]) (os ++ [u]) := atl_put o5 hpo5 lo5
    have D6 : Drawn wl H (upd H5 Oo (.lst (ov ++ [y]))) := D5.put W hO0
    have h6 : upd H5 Oo (.lst (ov ++ [y])) Rr = some (.lst (rv.eraseIdx j)) := by
      rw [upd_ne nRO]
      exact h5
    have o6 : upd H5 Oo (.lst (ov ++ [y])) Oo = some (.lst (ov ++ [y])) := upd_same
    generalize upd H5 Oo (.lst (ov ++ [y])) = H6 at lr6 lo6 D6 h6 o6 ⊢
    have mem6 : ∀ z, z ∈ us ↔ z ∈ rs.eraseIdx j ∨ z ∈ os ++ [u] := fun z => by
      rw [mem z, memE z, List.mem_append, List.mem_singleton]
      constructor
      · rintro ((h | h) | h)
        · exact .inr (.inr h)
        · exact .inl h
        · exact .inr (.inl h)
      · rintro (h | h | h)
        · exact .inl (.inr h)
        · exact .inr h
        · exact .inl (.inl h)
    have l6 : (os ++ [u]).length ≤ 2 * i + 1 := by
      rw [List.length_append]
      show os.length + 1 ≤ _
      omega
    have len6 := AtL.length lo6
    dsimp only
    have l1 : 1 ≤ (os ++ [u]).length := by
      rw [List.length_append]
      show 1 ≤ os.length + 1
      omega
    generalize os ++ [u] = os6 at lo6 hpo5 mem6 l6 len6 l1 ⊢
    generalize ov ++ [y] = ov6 at lo6 o6 len6 ⊢
    refine ⟨_, rfl, wl, 3, rfl, D6.well, by decide, by decide, fun d H7 d0 d1 D7 => ⟨rfl, _, rfl, ite2 (fun q => ?_) (fun q => ?_)⟩⟩
    · have D67 := D6.trans D7
      have o7 := D7.keep _ _ nO o6
      refine s_appW (wl := wl) (C := C) (K := K) (R := fun u => u ∈ os6) (ew_any (K := K) (v := .ref Oo) (us := os6) rfl (.lst o7 nO (AtL.drawn D7 lo6)) rfl l1 (by omega) (fun u hu => hu)) D67.well o7 nO rfl (by omega) fun v u7 H8 D8 h8 a8 r8 => ?_
      have D78 := D7.trans D8
      refine ⟨rfl, _, rv.eraseIdx j, ov6 ++ [v], rs.eraseIdx j, os6 ++ [u7], rfl, (D6.trans D78).put W hO0, ?_, ?_, upd_same, ?_, by omega, ?_, ?_⟩
      · rw [upd_ne nRO]
        exact D78.keep _ _ nR h6
      · exact atl_put h8 hpe (AtL.drawn D78 lr6)
      · exact atl_put h8 (fun z hz => by
          rcases List.mem_append.mp hz with hz | hz
          · exact hpo5 z hz
          · rw [List.mem_singleton.mp hz]
            exact hpo5 _ r8) (AtL.snoc (AtL.drawn D78 lo6) a8)
      · rw [List.length_append]
        show os6.length + 1 ≤ _
        omega
      · intro z
        rw [mem6 z, List.mem_append, List.mem_singleton]
        constructor
        · rintro (h | h)
          · exact .inl h
          · exact .inr (.inl h)
        · rintro (h | h | h)
          · exact .inl h
          · exact .inr h
          · rw [h]
            exact .inr r8
    · exact ⟨rfl, _, rv.eraseIdx j, ov6, rs.eraseIdx j, os6, rfl, D6.trans D7, D7.keep _ _ nR h6, AtL.drawn D7 lr6, D7.keep _ _ nO o6, AtL.drawn D7 lo6, by omega, by omega, mem6⟩
  · rintro n σ' H3 ⟨rfl, x4, rv, ov, rs, os, rfl, D3, h3, lr, o3, lo, ln, lo2, mem⟩
    have : rs = [] := List.length_eq_zero_iff.mp (by omega)
    subst this
    exact ⟨_, rfl, k (.ref Oo) os H3 D3 (.lst o3 nO lo) (by omega) fun u => ⟨fun h => (mem u).mpr (.inr h), fun h => ((mem u).mp h).elim (fun h => by cases h) id⟩⟩
end
end Hs
/-! the mends with collects between -/
namespace Hs
open PySem PySem.Spec PyProof.Rows L2 Hu Evl
section
variable {P : Program} {wd : World} {K : PySem.W.Frag} {mg : Str → Option Value} {base : Heap} {C : Addr} {fD : Addr} {dD : FuncData}
abbrev nmWC : List Str := ["well", "mends", "order", "mend"]
theorem scWC : FnScope nmWC ["well", "mends"] (defScope lWithCol) := ⟨rfl, rfl, rfl, by decide +kernel, rfl, by decide +kernel, by decide +kernel⟩
def spWC (C : Addr) : Sp := fun vs H Q _ => ∃ (wl : WA) (x : V) (us : List U), vs = [.ref wl.w, x] ∧ Well H wl ∧ At wl.w C H x (.lst us) ∧ us.length ≤ 16 ∧ plnL us ∧
  ∀ (v : V) (os : List U) (H' : Hp), Drawn wl H H' → At wl.w C H' v (.lst os) → os.length ≤ 32 → (∀ u ∈ os, u ∈ us ∨ u = colU) → (∀ u ∈ us, u ∈ os) → Q v H'
theorem ok_wc {f : Addr} {fd : FuncData} (F : Fun K "_law_with_collects" "_law_with_collects" lWithCol f fd) (B : Bt mg) (D : Dd P wd K mg base fD dD) : FnOk P wd K mg base CX0 4 f fd ["well", "mends"] (spWC C) := by
  refine F.ok scWC (fun vs H Q E h => ?_) (fun cdv A outer s H vs Q E hr h => ?_)
  · obtain ⟨wl, x, us, rfl, _⟩ := h
    rfl
  obtain ⟨wl, x, us, rfl, W, hx, u8, hp, k⟩ := h
  refine ⟨_, pss_cons (ps_set (i := 2) scWC.nd rfl (.inl rfl) (pe_lst pa_nil))
    (pss_cons (ps_for PassesOwn.never rfl (pi_list (pv 1)) (pg_name (i := 3) scWC.nd rfl (Or.inl rfl))
      (pss_cons (ps_expr (pe_bm PySem.F.plainAttrs_list PySem.F.slot_list_append PySem.F.type_list_append mt_append (pv 2) (pa_cons (pv 3) pa_nil)))
      (pss_one (ps_if (pt_cmpR op_eq (pe_draw D hr (by decide) (by rfl) (pv 0) pe_int) pe_int (nomark _))
        (pss_one (ps_expr (pe_bm PySem.F.plainAttrs_list PySem.F.slot_list_append PySem.F.type_list_append mt_append (pv 2) (pa_cons (pe_tupF (pa_cons pe_str pa_nil)) pa_nil)))) pss_nil))))
    (pss_one (ps_ret (pv 2)))), ?_⟩
  obtain ⟨p, xs, rfl, hx0, nx, lx⟩ := at_lst hx
  refine q_asgL (el_lst ea_nil (by decide)) fun Oo H2 hO e2 h2 => ?_
  have nO := (W.ne hO).1
  have xlen := AtL.length lx
  have D2 : Drawn wl H H2 := (Drawn.refl W).same e2
  have plc : pln colU := ⟨trivial, trivial⟩
  refine q_forL (K := K) (xs := xs) (ev_var rfl) (sq_of (e2 _ _ hx0)) (fun i σ' H' => ∃ (x3 : Option V) (ov : List V) (os : List U), σ' = [some (V.ref wl.w), some (.ref p), some (.ref Oo), x3] ∧ Drawn wl H H' ∧ H' Oo = some (.lst ov) ∧ AtL wl.w C H' ov os ∧ os.length ≤ 2 * i ∧ (∀ u ∈ os, u ∈ us ∨ u = colU) ∧ ∀ u ∈ us.take i, u ∈ os)
    (fun H3 e3 => ⟨none, [], [], rfl, D2.same e3, e3 _ _ h2, .nil, Nat.le_refl _, fun u hu => (by cases hu), fun u hu => by simp at hu⟩) (fun i σ' H' _ ⟨_, _, _, _, D1, _⟩ => sq_of (D1.keep _ _ nx hx0)) ?_ ?_
  · rintro i y σ' H3 hi ⟨x3, ov, os, rfl, D3, o3, lo, ln, m1, m2⟩
    have hiu : i < us.length := by
      have := (List.getElem?_eq_some_iff.mp hi).1
      omega
    have hg := List.getElem?_eq_getElem hiu
    obtain ⟨y', hy', ay⟩ := AtL.get lx hg
    rw [hi] at hy'
    cases hy'
    have tk := take_snoc' hg
    generalize us[i] = u at hg ay tk
    have hu := List.mem_of_getElem? hg
    have olen := AtL.length lo
    have hpo : ∀ z ∈ os, pln z := fun z hz => by
      rcases m1 z hz with h | h
      · exact plnL_all.mp hp z h
      · rw [h]
        exact plc
    have hpo1 : ∀ z ∈ os ++ [u], pln z := fun z hz => by
      rcases List.mem_append.mp hz with hz | hz
      · exact hpo z hz
      · rw [List.mem_singleton.mp hz]
        exact plnL_all.mp hp _ hu
    have m1' : ∀ z ∈ os ++ [u], z ∈ us ∨ z = colU := fun z hz => by
      rcases List.mem_append.mp hz with hz | hz
      · exact m1 z hz
      · rw [List.mem_singleton.mp hz]
        exact .inl hu
    have m2' : ∀ z ∈ us.take (i + 1), z ∈ os ++ [u] := fun z hz => by
      rw [tk] at hz
      rcases List.mem_append.mp hz with hz | hz
      · exact List.mem_append_left _ (m2 z hz)
      · exact List.mem_append_right _ hz
    show tSeq (tDrop _) _ _ [some (V.ref wl.w), some (.ref p), some (.ref Oo), some y] H3
    refine q_app (K := K) o3 (ev_var rfl) (ev_var rfl) (by omega) fun H4 e4 => ?_
    have o4 := e4 _ _ o3
    have l5 : AtL wl.w C (upd H4 Oo (.lst (ov ++ [y]))) (ov ++ [y]) (os ++ [u]) := atl_put o4 hpo1 (AtL.snoc (ex_atl e4 lo) (At.drawn (D3.same e4) ay))
    have D5 : Drawn wl H (upd H4 Oo (.lst (ov ++ [y]))) := (D3.same e4).put W hO
    have o5 : upd H4 Oo (.lst (ov ++ [y])) Oo = some (.lst (ov ++ [y])) := upd_same
    have l6 : (os ++ [u]).length ≤ 2 * i + 1 := by
      rw [List.length_append]
      show os.length + 1 ≤ _
      omega
    generalize upd H4 Oo (.lst (ov ++ [y])) = H5 at l5 D5 o5 ⊢
    generalize os ++ [u] = os5 at l5 hpo1 m1' m2' l6 ⊢
    generalize ov ++ [y] = ov5 at l5 o5 ⊢
    have len5 := AtL.length l5
    refine ⟨_, rfl, wl, 2, rfl, D5.well, by decide, by decide, fun d H7 d0 d1 D7 => ⟨rfl, _, rfl, ite2 (fun q => ?_) (fun q => ?_)⟩⟩
    · have D57 := D5.trans D7
      refine s_appW (wl := wl) (C := C) (K := K) (R := fun u => u = colU) (fun H8 D8 Q q => ⟨sz_of (show (1 : Nat) ≤ 100000 by decide), newT_data D8.well.at (us := [.str "collect"]) (.cons (.str _) .nil) fun t H9 e9 a9 => q t _ H9 ((Drawn.refl D8.well).same e9) a9 rfl⟩) D57.well (D7.keep _ _ nO o5) nO rfl (by omega) fun v u8 H8 D8 h8 a8 r8 => ?_
      subst r8
      have D78 := D7.trans D8
      refine ⟨_, ov5 ++ [v], os5 ++ [colU], rfl, (D5.trans D78).put W hO, upd_same, ?_, ?_, ?_, ?_⟩
      · exact atl_put h8 (fun z hz => by
          rcases List.mem_append.mp hz with hz | hz
          · exact hpo1 z hz
          · rw [List.mem_singleton.mp hz]
            exact plc) (AtL.snoc (AtL.drawn D78 l5) a8)
      · rw [List.length_append]
        show os5.length + 1 ≤ _
        omega
      · intro z hz
        rcases List.mem_append.mp hz with hz | hz
        · exact m1' z hz
        · exact .inr (List.mem_singleton.mp hz)
      · exact fun z hz => List.mem_append_left _ (m2' z hz)
    · exact ⟨_, ov5, os5, rfl, D5.trans D7, D7.keep _ _ nO o5, AtL.drawn D7 l5, by omega, m1', m2'⟩
  · rintro σ' H3 ⟨x3, ov, os, rfl, D3, o3, lo, ln, m1, m2⟩
    rw [xlen, List.take_length] at m2
    exact ⟨_, rfl, k (.ref Oo) os H3 D3 (.lst o3 nO lo) (by omega) m1 m2⟩
end
end Hs
/-! the table after mends and collects, whatever their order -/
namespace Hs
open PySem PySem.Spec PyProof.Rows L2 Hu Evl
theorem srt_uniqG {α : Type} {lt : α → α → Prop} (asym : ∀ a b, lt a b → ¬ lt b a) : ∀ {xs ys : List α}, xs.Pairwise lt → ys.Pairwise lt → (∀ a, a ∈ xs ↔ a ∈ ys) → xs = ys
  | [], [], _, _, _ => rfl
  | [], y :: ys, _, _, h => absurd ((h y).mpr List.mem_cons_self) (List.not_mem_nil)
  | x :: xs, [], _, _, h => absurd ((h x).mp List.mem_cons_self) (List.not_mem_nil)
  | x :: xs, y :: ys, hx, hy, h => by
    rw [List.pairwise_cons] at hx hy
    have e : x = y := by
      rcases List.mem_cons.mp ((h x).mp List.mem_cons_self) with e | q1
      · exact e
      · rcases List.mem_cons.mp ((h y).mpr List.mem_cons_self) with e | q2
        · exact e.symm
        · exact absurd (hy.1 x q1) (asym _ _ (hx.1 y q2))
    subst e
    have irr : ∀ a, ¬ lt a a := fun a q => asym a a q q
    rw [srt_uniqG asym hx.2 hy.2 fun a => ?_]
    constructor
    · intro q
      rcases List.mem_cons.mp ((h a).mp (List.mem_cons_of_mem _ q)) with e | q'
      · subst e
        exact absurd (hx.1 a q) (irr a)
      · exact q'
    · intro q
      rcases List.mem_cons.mp ((h a).mpr (List.mem_cons_of_mem _ q)) with e | q'
      · subst e
        exact absurd (hy.1 a q) (irr a)
      · exact q'
theorem ltI_iff {p q : Int × Int} : ltI p q = true ↔ p.1 < q.1 ∨ (p.1 = q.1 ∧ p.2 < q.2) := by
  unfold ltI
  rw [Bool.or_eq_true, Bool.and_eq_true, decide_eq_true_eq, decide_eq_true_eq, decide_eq_true_eq]
theorem ltI_no {p q : Int × Int} : ltI p q = false ↔ ¬ (p.1 < q.1 ∨ (p.1 = q.1 ∧ p.2 < q.2)) := by
  rw [← ltI_iff]
  simp
theorem ltI_le {p q r : Int × Int} (h1 : ltI p q = false) (h2 : ltI q r = false) : ltI p r = false := by
  rw [ltI_no] at *
  omega
theorem ltI_up {p q r : Int × Int} (h1 : ltI p q = true) (h2 : ltI p r = false) : ltI q r = false := by
  rw [ltI_iff] at h1
  rw [ltI_no] at *
  omega
theorem ltI_asy {p q : Int × Int} (h : ltI p q = true) : ltI q p = false := by
  rw [ltI_iff] at h
  rw [ltI_no]
  omega
theorem ltI_irr (p : Int × Int) : ltI p p = false := by
  rw [ltI_no]
  omega
theorem ltI_eq {p q : Int × Int} (h1 : ltI p q = false) (h2 : ltI q p = false) : p = q := by
  rw [ltI_no] at *
  exact Prod.ext (by omega) (by omega)
/-- of each name the head of the greatest stamp -/
structure Top (A hs : List U) : Prop where
  s : srtN hs
  m : ∀ h ∈ hs, h ∈ A
  g : ∀ h ∈ A, ∃ t ∈ hs, nmU t = nmU h ∧ ltI (stU t) (stU h) = false
theorem srt_one {hs : List U} (s : srtN hs) {a b : U} (ha : a ∈ hs) (hb : b ∈ hs) (e : nmU a = nmU b) : a = b := by
  induction hs with
  | nil => cases ha
  | cons c r ih =>
    have s' := List.pairwise_cons.mp s
    rcases List.mem_cons.mp ha with ea | ha <;> rcases List.mem_cons.mp hb with eb | hb
    · rw [ea, eb]
    · rw [ea] at e
      exact absurd e (ltN_ne (s'.1 b hb))
    · rw [eb] at e
      exact absurd e.symm (ltN_ne (s'.1 a ha))
    · exact ih s'.2 ha hb
theorem Top.self {hs : List U} (s : srtN hs) : Top hs hs := ⟨s, fun h q => q, fun h q => ⟨h, q, rfl, ltI_irr _⟩⟩
theorem ltN_asy {a b : U} (h : ltN a b = true) : ¬ ltN b a = true := fun q => ltN_ne (ltN_trans h q) rfl
theorem Top.uniq {zs : List Str} {js : List (Int × Int)} {Vs A A' hs hs' : List U} (ok : Vok zs js Vs) (t : Top A hs) (t' : Top A' hs') (e : ∀ h, h ∈ A ↔ h ∈ A') (sub : ∀ h ∈ A, h ∈ Vs) : hs = hs' := by
  have half : ∀ {A A' hs hs' : List U}, Top A hs → Top A' hs' → (∀ h, h ∈ A ↔ h ∈ A') → (∀ h ∈ A, h ∈ Vs) → ∀ h ∈ hs, h ∈ hs' := fun {A A' hs hs'} t t' e sub h hh => by
    obtain ⟨b, hb, n1, l1⟩ := t'.g h ((e h).mp (t.m h hh))
    have hbA := (e b).mpr (t'.m b hb)
    obtain ⟨c, hc, n2, l2⟩ := t.g b hbA
    have ec : c = h := srt_one t.s hc hh (n2.trans n1)
    rw [ec] at l2
    have : b = h := ok.uq b (sub b hbA) h (sub h (t.m h hh)) n1 (ltI_eq l1 l2)
    rw [← this]
    exact hb
  exact srt_uniqG (fun a b => ltN_asy) t.s t'.s fun a => ⟨half t t' e sub a, half t' t (fun h => (e h).symm) (fun h hh => sub h ((e h).mpr hh)) a⟩
theorem stamp_pos {u : U} (g : gNamed u = true) (h : stU u ≠ (0, 0)) : ltI (0, 0) (stU u) = true := by
  obtain ⟨z, s, r, rfl, gs, _⟩ := gNamed_is g
  obtain ⟨i, j, rfl⟩ := gStamp_two gs
  have e : stU (.tup [.str z, .tup [.int i, .int j], r]) = (i, j) := rfl
  rw [e] at h ⊢
  rw [ltI_iff]
  have q : ((decide (i = 0) && decide (j = 0)) || (decide (1 ≤ i) && (decide (1 ≤ j) && decide (j ≤ 99)))) = true := gs
  rw [Bool.or_eq_true, Bool.and_eq_true, Bool.and_eq_true, decide_eq_true_eq, decide_eq_true_eq, decide_eq_true_eq] at q
  rcases q with ⟨q1, q2⟩ | ⟨q1, _⟩
  · rw [q1, q2] at h
    exact absurd rfl h
  · exact .inl (by show 0 < i; omega)
theorem nm_named {hs : List U} {h : U} (g : gNamed h = true) (gh : hs.all gNamed = true) : (∀ u, hs.find? (named (nmU h)) = some u → u ∈ hs ∧ nmU u = nmU h) ∧ (hs.find? (named (nmU h)) = none → ∀ u ∈ hs, nmU u ≠ nmU h) := by
  have key : ∀ u ∈ hs, named (nmU h) u = decide (nmU u = nmU h) := fun u hu => by
    obtain ⟨z, s, r, rfl, _⟩ := gNamed_is (List.all_eq_true.mp gh u hu)
    rfl
  refine ⟨fun u q => ?_, fun q u hu e => ?_⟩
  · have hu := List.mem_of_find?_eq_some q
    have := List.find?_some q
    rw [key u hu] at this
    exact ⟨hu, of_decide_eq_true this⟩
  · have := List.find?_eq_none.mp q u hu
    rw [key u hu] at this
    exact this (decide_eq_true e)
theorem Top.mend {A hs : List U} {h : U} (t : Top A hs) (gh : hs.all gNamed = true) (g : gNamed h = true) (hp : stU h ≠ (0, 0)) : Top (A ++ [h]) (mendI hs h) := by
  obtain ⟨k1, k2⟩ := nm_named g gh
  have ins : (∀ u ∈ hs, nmU u = nmU h → ltI (stU u) (stU h) = true) → Top (A ++ [h]) (insH h hs) := fun q => by
    refine ⟨srt_insH t.s, fun y hy => ?_, fun y hy => ?_⟩
    · rcases (mem_insH t.s).mp hy with e | ⟨h1, _⟩
      · rw [e]
        exact List.mem_append_right _ (List.mem_singleton.mpr rfl)
      · exact List.mem_append_left _ (t.m y h1)
    · rcases List.mem_append.mp hy with hy | hy
      · obtain ⟨c, hc, n, l⟩ := t.g y hy
        by_cases e : nmU c = nmU h
        · exact ⟨h, (mem_insH t.s).mpr (.inl rfl), e.symm.trans n, ltI_up (q c hc e) l⟩
        · exact ⟨c, (mem_insH t.s).mpr (.inr ⟨hc, e⟩), n, l⟩
      · rw [List.mem_singleton.mp hy]
        exact ⟨h, (mem_insH t.s).mpr (.inl rfl), rfl, ltI_irr _⟩
  unfold mendI stOf
  cases hf : hs.find? (named (nmU h)) with
  | none =>
    have nn := k2 hf
    show Top (A ++ [h]) (if ltI (0, 0) (stU h) = true then insH h hs else hs)
    rw [if_pos (stamp_pos g hp)]
    exact ins fun u hu e => absurd e (nn u hu)
  | some u =>
    obtain ⟨hu, hn⟩ := k1 u hf
    show Top (A ++ [h]) (if ltI (stU u) (stU h) = true then insH h hs else hs)
    by_cases l : ltI (stU u) (stU h) = true
    · rw [if_pos l]
      exact ins fun v hv e => by
        rw [srt_one t.s hv hu (e.trans hn.symm)]
        exact l
    · rw [if_neg l]
      refine ⟨t.s, fun y hy => List.mem_append_left _ (t.m y hy), fun y hy => ?_⟩
      rcases List.mem_append.mp hy with hy | hy
      · exact t.g y hy
      · rw [List.mem_singleton.mp hy]
        exact ⟨u, hu, hn, by simpa using l⟩
theorem mendI_mem {Vs : List U} {hs : List U} {h : U} (s : srtN hs) (h1 : ∀ u ∈ hs, u ∈ Vs) (h2 : h ∈ Vs) : ∀ u ∈ mendI hs h, u ∈ Vs := fun u hu => by
  unfold mendI at hu
  split at hu
  · rcases (mem_insH s).mp hu with e | ⟨q, _⟩
    · rw [e]
      exact h2
    · exact h1 u q
  · exact h1 u hu
theorem Top.mends {zs : List Str} {js : List (Int × Int)} {Vs : List U} (ok : Vok zs js Vs) : ∀ {ks A hs : List U}, Top A hs → (∀ h ∈ A, h ∈ Vs) → (∀ h ∈ ks, h ∈ Vs) → Top (A ++ ks) (ks.foldl mendI hs)
  | [], A, hs, t, _, _ => by
    rw [List.append_nil]
    exact t
  | h :: ks, A, hs, t, ha, hk => by
    have hh := hk h List.mem_cons_self
    have := Top.mends ok (ks := ks) (Top.mend t (List.all_eq_true.mpr fun u hu => ok.g u (ha u (t.m u hu))) (ok.g h hh) (ok.ps h hh)) (fun u hu => by
      rcases List.mem_append.mp hu with hu | hu
      · exact ha u hu
      · rw [List.mem_singleton.mp hu]
        exact hh) (fun u hu => hk u (List.mem_cons_of_mem _ hu))
    rw [List.append_assoc] at this
    exact this
theorem mends_sub : ∀ {ks hs : List U}, srtN hs → ∀ u ∈ ks.foldl mendI hs, u ∈ hs ∨ u ∈ ks
  | [], hs, _ => fun u hu => .inl hu
  | h :: ks, hs, s => fun u hu => by
    have s1 : srtN (mendI hs h) := by
      unfold mendI
      split
      · exact srt_insH s
      · exact s
    rcases mends_sub (ks := ks) s1 u hu with q | q
    · have := mendI_mem (Vs := hs ++ [h]) s (fun v hv => List.mem_append_left _ hv) (List.mem_append_right _ (List.mem_singleton.mpr rfl)) u q
      rcases List.mem_append.mp this with q | q
      · exact .inl q
      · exact .inr (by rw [List.mem_singleton.mp q]; exact List.mem_cons_self)
    · exact .inr (List.mem_cons_of_mem _ q)
/-! ### blocks -/
open Hk (PZ ltPZ ltPZ_iff)
abbrev gP (pf : Int × Int → Str) (j : Int × Int) : PZ := (j, pf j)
theorem blks_gP (pf : Int × Int → Str) (is : List (Int × Int)) : blks pf is = (is.map (gP pf)).map bzU := by
  unfold blks
  rw [List.map_map]
  rfl
theorem srtZ_ids {pf : Int × Int → Str} {is : List (Int × Int)} : srtZ (is.map (gP pf)) ↔ is.Pairwise ltI2 := by
  unfold srtZ
  rw [List.pairwise_map]
  constructor
  · exact fun h => h.imp fun {a b} q => ltPZ_iff.mp q
  · exact fun h => h.imp fun {a b} q => ltPZ_iff.mpr q
theorem ids_of {pf : Int × Int → Str} {L : List PZ} (h : ∀ x ∈ L, x = gP pf x.1) : L = (L.map (·.1)).map (gP pf) := by
  rw [List.map_map]
  induction L with
  | nil => rfl
  | cons x r ih =>
    rw [List.map_cons, ← ih fun y hy => h y (List.mem_cons_of_mem _ hy)]
    congr 1
    exact h x List.mem_cons_self
theorem ins_ids {pf : Int × Int → Str} {is : List (Int × Int)} {j : Int × Int} (s : is.Pairwise ltI2) : ∃ is' : List (Int × Int), insZ (gP pf j) (is.map (gP pf)) = is'.map (gP pf) ∧ is'.Pairwise ltI2 ∧ ∀ k, k ∈ is' ↔ k = j ∨ k ∈ is := by
  have sz := srtZ_ids (pf := pf).mpr s
  have all : ∀ x ∈ insZ (gP pf j) (is.map (gP pf)), x = gP pf x.1 := insZ_all (p := fun x => x = gP pf x.1) rfl fun y hy => by
    obtain ⟨k, _, rfl⟩ := List.mem_map.mp hy
    rfl
  have e := ids_of all
  refine ⟨_, e, srtZ_ids (pf := pf).mp (by rw [← e]; exact srt_insZ sz), fun k => ?_⟩
  have : k ∈ (insZ (gP pf j) (is.map (gP pf))).map (·.1) ↔ gP pf k ∈ insZ (gP pf j) (is.map (gP pf)) := ⟨fun q => by
    obtain ⟨x, hx, rfl⟩ := List.mem_map.mp q
    rw [← all x hx]
    exact hx, fun q => List.mem_map.mpr ⟨_, q, rfl⟩⟩
  rw [this, mem_insZ sz]
  constructor
  · rintro (q | ⟨q, _⟩)
    · exact .inl (congrArg (·.1) q)
    · obtain ⟨k', hk', e'⟩ := List.mem_map.mp q
      have : k' = k := congrArg (·.1) e'
      rw [← this]
      exact .inr hk'
  · rintro (q | q)
    · rw [q]
      exact .inl rfl
    · by_cases e : k = j
      · rw [e]
        exact .inl rfl
      · exact .inr ⟨List.mem_map.mpr ⟨k, q, rfl⟩, e⟩
theorem fold_ids {pf : Int × Int → Str} : ∀ {xs is : List (Int × Int)}, is.Pairwise ltI2 → ∃ is' : List (Int × Int), (xs.map (gP pf)).foldl (fun ps x => insZ x ps) (is.map (gP pf)) = is'.map (gP pf) ∧ is'.Pairwise ltI2 ∧ ∀ k, k ∈ is' ↔ k ∈ xs ∨ k ∈ is
  | [], is, s => ⟨is, rfl, s, fun k => by simp⟩
  | x :: xs, is, s => by
    obtain ⟨i1, e1, s1, m1⟩ := ins_ids (pf := pf) (j := x) s
    obtain ⟨i2, e2, s2, m2⟩ := fold_ids (pf := pf) (xs := xs) s1
    refine ⟨i2, ?_, s2, fun k => ?_⟩
    · rw [List.map_cons, List.foldl_cons, e1, e2]
    · rw [m2, m1, List.mem_cons]
      constructor
      · rintro (h | h | h)
        · exact .inl (.inr h)
        · exact .inl (.inl h)
        · exact .inr h
      · rintro ((h | h) | h)
        · exact .inr (.inl h)
        · exact .inl h
        · exact .inr (.inr h)
/-! ### the table -/
theorem ltZ_asy (a b : Str) (h : ltZ a b) : ¬ ltZ b a := fun q => List.lt_irrefl _ (List.lt_trans h q)
theorem ltI2_asy (a b : Int × Int) (h : ltI2 a b) : ¬ ltI2 b a := fun q => by
  unfold ltI2 at *
  omega
theorem sub_filter {α : Type} [DecidableEq α] {lt : α → α → Prop} (asym : ∀ a b, lt a b → ¬ lt b a) {xs ys : List α} (hx : xs.Pairwise lt) (hy : ys.Pairwise lt) (h : ∀ x ∈ xs, x ∈ ys) : xs = ys.filter fun y => decide (y ∈ xs) :=
  srt_uniqG asym hx (hy.sublist List.filter_sublist) fun a => ⟨fun q => List.mem_filter.mpr ⟨h a q, decide_eq_true q⟩, fun q => of_decide_eq_true (List.mem_filter.mp q).2⟩
theorem heads_n {hs : List U} {zs : List Str} (s : srtN hs) (z : zs.Pairwise ltZ) (h : ∀ u ∈ hs, nmU u ∈ zs) : hs.length ≤ zs.length := by
  have e := sub_filter (lt := ltZ) ltZ_asy (xs := hs.map nmU) (by rw [List.pairwise_map]; exact s.imp fun {a b} q => of_decide_eq_true (p := (nmU a).cps.toList < (nmU b).cps.toList) q) z (fun x hx => by
    obtain ⟨u, hu, rfl⟩ := List.mem_map.mp hx
    exact h u hu)
  have := congrArg List.length e
  rw [List.length_map] at this
  rw [this]
  exact List.length_filter_le _ _
theorem ids_sub {is js : List (Int × Int)} (s : is.Pairwise ltI2) (z : js.Pairwise ltI2) (h : ∀ j ∈ is, j ∈ js) : is.Sublist js := by
  rw [sub_filter (lt := ltI2) ltI2_asy s z h]
  exact List.filter_sublist
/-- how the table stands: its heads of these, its blocks of these -/
structure Rn (Vs : List U) (js : List (Int × Int)) (A hs : List U) (is : List (Int × Int)) : Prop where
  t : Top A hs
  a : ∀ h ∈ A, h ∈ Vs
  s : is.Pairwise ltI2
  b : ∀ j ∈ is, j ∈ js
  c : ∀ p ∈ ledPs hs, p ∈ is
theorem Rn.hd {zs : List Str} {Vs : List U} {js : List (Int × Int)} {A hs : List U} {is : List (Int × Int)} (r : Rn Vs js A hs is) (ok : Vok zs js Vs) (z : zs.Pairwise ltZ) (n : zs.length ≤ 3) : HdU Vs hs :=
  ⟨fun h hh => r.a h (r.t.m h hh), r.t.s, Nat.le_trans (heads_n r.t.s z fun u hu => ok.nm u (r.a u (r.t.m u hu))) n⟩
theorem Rn.mend {zs : List Str} {Vs : List U} {js : List (Int × Int)} {A hs : List U} {is : List (Int × Int)} {m : Mend} {pf : Int × Int → Str} (r : Rn Vs js A hs is) (ok : Vok zs js Vs) (o : MdOk Vs js m) (sj : js.Pairwise ltI2) :
    ∃ is' : List (Int × Int), (is.map (gP pf)).foldl (fun ps x => insZ x ps) (m.2.map (gP pf)) = is'.map (gP pf) ∧ Rn Vs js (A ++ m.1) (m.1.foldl mendI hs) is' ∧ ∀ k, k ∈ is' ↔ k ∈ is ∨ k ∈ m.2 := by
  obtain ⟨is', e, s', mm⟩ := fold_ids (pf := pf) (xs := is) (is := m.2) (sj.sublist o.s)
  refine ⟨is', e, ⟨Top.mends ok r.t r.a o.h.m, fun h hh => ?_, s', fun j hj => ?_, fun p hp => ?_⟩, mm⟩
  · rcases List.mem_append.mp hh with q | q
    · exact r.a h q
    · exact o.h.m h q
  · rcases (mm j).mp hj with q | q
    · exact r.b j q
    · exact o.s.subset q
  · obtain ⟨u, hu, hp⟩ := List.mem_flatMap.mp hp
    rcases mends_sub r.t.s u hu with q | q
    · exact (mm p).mpr (.inl (r.c p (List.mem_flatMap.mpr ⟨u, q, hp⟩)))
    · exact (mm p).mpr (.inr (o.c p (List.mem_flatMap.mpr ⟨u, q, hp⟩)))
theorem Rn.col {Vs : List U} {js : List (Int × Int)} {A hs : List U} {is : List (Int × Int)} (r : Rn Vs js A hs is) : Rn Vs js A hs (is.filter fun j => decide (j ∈ ledPs hs)) :=
  ⟨r.t, r.a, r.s.sublist List.filter_sublist, fun j hj => r.b j (List.mem_filter.mp hj).1, fun p hp => List.mem_filter.mpr ⟨r.c p hp, decide_eq_true hp⟩⟩
end Hs
/-! _law_deed: how heavy its deeds are -/
namespace Hs
open PySem PySem.Spec PyProof.Rows L2 Hu Evl
section
variable {wl : WA} {C : Addr} {σ : L2.St} {H : Hp} {te tl tx t ta' tb : TE} {tt : TT} {ta tr : TA} {R R' : U → Prop} {n m m1 m2 d : Nat} {K : PySem.W.Frag} {E : XK} {D : Ends} {tz tu : TS} {i : Nat} {lo hi : Int} {v : V} {u : U}
def okWord (z : Str) : Bool := decide (z.length ≤ 20) && (TL.tl z).all lowc
theorem word_bd {z : Str} (h : okWord z = true) : Bd (.str z) 60 4 0 := by
  obtain ⟨h1, h2⟩ := and2 (a := decide (z.length ≤ 20)) (b := (TL.tl z).all lowc) h
  have h1 := of_decide_eq_true h1
  refine ⟨by simp only [wt]; omega, by simp [dep], ?_⟩
  simp only [tidy]
  intro c hc
  have := List.all_eq_true.mp h2 c hc
  unfold lowc at this
  have q := and2 this
  have q1 := of_decide_eq_true q.1
  have q2 := of_decide_eq_true q.2
  refine .inl ?_
  unfold okS okc
  rw [decide_eq_true (by omega), decide_eq_true (by omega), decide_eq_true (by omega)]
  rfl
end
end Hs
/-! behind: mends and collects of the law's tables -/
namespace Hs
open PySem PySem.Spec PyProof.Rows L2 Hu Evl
open Hk (PZ ltPZ ltPZ_iff)
def tabL (e : Int) (f : Nat → Bool) (hs : List U) (bs : List U) : List U := [.int e, memU f, .tup [], .int 0, .tup hs, .tup bs, .tup [], .tup [.int 0, .int 0], .non, .non]
/-- what stays: epoch, members, names, versions, ids, pieces -/
structure Ev0 (e : Int) (f : Nat → Bool) (zs : List Str) (js : List (Int × Int)) (Vs : List U) (pf : Int × Int → Str) : Prop where
  e0 : 0 ≤ e
  e1 : e < 10 ^ 11
  f : ∃ i, i < 9 ∧ f i = true
  ok : Vok zs js Vs
  z3 : zs.length ≤ 3
  zg : ∀ z ∈ zs, gNam (.str z) = true
  z : zs.Pairwise ltZ
  jn : js.length ≤ 10
  j : js.Pairwise ltI2
  jb : ∀ j ∈ js, 1 ≤ j.1 ∧ j.1 ≤ 99 ∧ 1 ≤ j.2 ∧ j.2 < 2 ^ 60
  pg : ∀ j ∈ js, gPiece (.str (pf j)) = true
  pb : ∀ j ∈ js, Bd (.str (pf j)) 60 2 0
section
variable {e : Int} {f : Nat → Bool} {zs : List Str} {js : List (Int × Int)} {Vs : List U} {pf : Int × Int → Str}
theorem blks_g (x : Ev0 e f zs js Vs pf) {is : List (Int × Int)} (s : is.Pairwise ltI2) (b : ∀ j ∈ is, j ∈ js) : gBlocks (.tup (blks pf is)) = true ∧ BdL (blks pf is) 2820 2 0 ∧ is.length ≤ 10 ∧ (blks pf is).all gBlk = true := by
  have okz : ∀ y ∈ is.map (gP pf), okZ y := fun y hy => by
    obtain ⟨j, hj, rfl⟩ := List.mem_map.mp hy
    exact ⟨x.pg j (b j hj), (idV_ok (x.jb j (b j hj))).2⟩
  have ln : is.length ≤ 10 := Nat.le_trans (ids_sub s x.j b).length_le x.jn
  refine ⟨?_, ?_, ln, ?_⟩
  · rw [blks_gP]
    exact gBlocks_iff.mpr ⟨okz, srtZ_ids.mpr s⟩
  · refine (bdL_all (m := 280) (d := 2) fun u hu => ?_).mono (by unfold blks; rw [List.length_map]; omega) (Nat.le_refl _) (Nat.le_refl _)
    obtain ⟨j, hj, rfl⟩ := List.mem_map.mp hu
    have b1 := (idV_ok (x.jb j (b j hj))).1
    have b2 := x.pb j (b j hj)
    refine ⟨?_, ?_, ?_⟩
    · have := b1.w
      have := b2.w
      simp only [bzU, idV, wt, wtL] at *
      omega
    · have := b1.d
      have := b2.d
      simp only [bzU, idV, dep, depL] at *
      omega
    · have c1 := b1.c
      have c2 := b2.c
      simp only [bzU, idV, tidy, tidyL] at *
      exact ⟨c1, c2, trivial⟩
  · rw [blks_gP, List.all_eq_true]
    intro u hu
    obtain ⟨y, hy, rfl⟩ := List.mem_map.mp hu
    exact gBlk_bz.mpr (okz y hy)
theorem heads_g (x : Ev0 e f zs js Vs pf) {hs : List U} (h : HdU Vs hs) : gHeads (.tup hs) = true ∧ BdL hs 12000 3 0 := by
  refine ⟨gHeads_iff.mpr ⟨h.all x.ok, h.s⟩, (bdL_all (m := 3998) (d := 3) fun u hu => x.ok.bd u (h.m u hu)).mono (by have := h.n; omega) (Nat.le_refl _) (Nat.le_refl _)⟩
theorem tab_ok (x : Ev0 e f zs js Vs pf) {hs : List U} {is : List (Int × Int)} (h : HdU Vs hs) (s : is.Pairwise ltI2) (b : ∀ j ∈ is, j ∈ js) : gTable (.tup (tabL e f hs (blks pf is))) = true ∧ Bd (.tup (tabL e f hs (blks pf is))) 16500 5 0 := by
  obtain ⟨g5, b5, n5, _⟩ := blks_g x s b
  obtain ⟨g4, b4⟩ := heads_g x h
  have ge : gCnt (.int e) = true := cnt_of x.e0
  have ne : isM1 (.int e) = false := by
    have := x.e0
    show decide (e = -1) = false
    exact decide_eq_false (by omega)
  refine ⟨rt_ok ⟨.inr ⟨ne, ge, memU_ok x.f, rfl, g4, g5⟩, rfl, rfl, rfl, rfl, rfl⟩, ?_⟩
  have bm := memU_bd f
  have he : e.natAbs < 2 ^ 60 := by
    have := x.e0
    have := x.e1
    omega
  refine ⟨?_, ?_, ?_⟩
  · have := bm.w
    have := b4.w
    have := b5.w
    simp only [tabL, wt, wtL] at *
    omega
  · have := bm.d
    have := b4.d
    have := b5.d
    simp only [tabL, dep, depL] at *
    omega
  · have c1 := bm.c
    have c4 := b4.c
    have c5 := b5.c
    simp only [tabL, tidy, tidyL]
    exact ⟨by omega, c1, trivial, by decide, c4, c5, trivial, ⟨by decide, by decide, trivial⟩, trivial, trivial, trivial⟩
theorem md_bd (x : Ev0 e f zs js Vs pf) {m : Mend} (o : MdOk Vs js m) : Bd (mdU pf m) 15000 5 0 := by
  obtain ⟨_, b5, _, _⟩ := blks_g x (x.j.sublist o.s) fun j hj => o.s.subset hj
  obtain ⟨_, b4⟩ := heads_g x o.h
  have wm : wt (.str ("mend" : Str)) ≤ 20 := by decide +kernel
  have cm : tidy 0 (.str ("mend" : Str)) := by
    have h := word_bd (z := ("mend" : Str)) (by decide +kernel)
    exact h.c
  refine ⟨?_, ?_, ?_⟩
  · have := b4.w
    have := b5.w
    simp only [mdU, wt, wtL] at *
    omega
  · have := b4.d
    have := b5.d
    simp only [mdU, dep, depL] at *
    omega
  · have c4 := b4.c
    have c5 := b5.c
    simp only [mdU, tidyL]
    exact ⟨cm, c4, c5, trivial⟩
theorem col_bd : Bd colU 100 5 0 := by
  have h := word_bd (z := ("collect" : Str)) (by decide +kernel)
  refine ⟨?_, ?_, ?_⟩
  · have := h.w
    simp only [colU, wt, wtL] at *
    omega
  · simp [colU, dep, depL]
  · show tidyL 0 [.str "collect"]
    exact ⟨h.c, trivial⟩
theorem bd_fine {u : U} {m d : Nat} (h : Bd u m d 0) (hm : m ≤ 160000) : Fine u ∧ Sm u := ⟨⟨by have := h.w; omega, tidy_clean (by decide) _ h.c⟩, Nat.le_trans h.w hm⟩
end
section
variable {P : Program} {wd : World} {K : PySem.W.Frag} {mg : Str → Option Value} {base : Heap} {C : Addr}
/-- behind, where nothing is raised -/
def spBehR (C : Addr) (z : Str) (ok : List U → List U → Prop) (F : List U → List U → List U) : Sp := fun vs H Q _ => ∃ (x y : V) (us ps : List U) (w : Addr) (e : Int), vs = [x, y] ∧ At w C H x (.tup us) ∧ At w C H y (.tup (.str z :: ps)) ∧ (∃ l, H w = some (.lst l)) ∧ gTable (.tup us) = true ∧ Fine (.tup us) ∧ Sm (.tup us) ∧ us[0]? = some (.int e) ∧ 0 ≤ e ∧ us.length = 10 ∧
  gDeed dT (.tup (.str z :: ps)) = true ∧ Fine (.tup (.str z :: ps)) ∧ Sm (.tup (.str z :: ps)) ∧ ok us ps ∧ ∀ v H', Same H H' → At w C H' v (.tup (F us ps)) → Q v H'
theorem scBehR : FnScope ["table", "deed"] ["table", "deed"] (defScope sBehind) := ⟨rfl, rfl, rfl, by decide +kernel, rfl, by decide +kernel, by decide +kernel⟩
theorem ok_behR {f f1 f2 f3 f4 : Addr} {fd d1 d2 d3 d4 : FuncData} {z : Str} {ok : List U → List U → Prop} {F : List U → List U → List U} (D : Df K mg "behind" sBehind ["table", "deed"] f fd) (JT : Jw P wd K mg base C 8 "is_table" "thing" f1 d1 Sm gTable) (JD : Jw P wd K mg base C 10 "is_deed" "thing" f2 d2 Sm (gDeed dT))
    (D3 : Df K mg "lets" sLets ["table", "deed"] f3 d3) (G3 : FnOk P wd K mg base CX0 1 f3 d3 ["table", "deed"] (spLets5 K)) (D4 : Df K mg "done" sDone ["table", "deed"] f4 d4) (G4 : FnOk P wd K mg base CX0 4 f4 d4 ["table", "deed"] (spDone5 C z ok F)) : FnOk P wd K mg base CX0 11 f fd ["table", "deed"] (spBehR C z ok F) := by
  refine D.F.ok scBehR (fun vs H Q E h => ?_) (fun cdv A outer s H vs Q E hr h => ?_)
  · obtain ⟨x, y, us, ps, w, e, rfl, _⟩ := h
    rfl
  obtain ⟨x, y, us, ps, w, e, rfl, hx, hy, hl, gt, fi, sm, he, e0, h10, gd, fd', sd, hok, k⟩ := h
  refine ⟨_, pss_cons (ps_if (pt_not (pt_val (pe_Jw JT hr (by decide) (by rfl) pass0 (pv 0)))) pss_dead pss_nil)
    (pss_cons (ps_if (PW.pt (pw_or (pt_not (pt_val (pe_Jw JD hr (by decide) (by rfl) pass0 (pv 1)))) (pw_or1 (pt_not (pt_val (pe_call (G3.mono (by decide : 1 ≤ 10)) hr (by rfl) D3.g D3.F.kp D3.b .nil pass0 (pa_cons (pv 0) (pa_cons (pv 1) pa_nil)))))))) pss_dead pss_nil)
    (pss_one (ps_ret (pe_call (G4.mono (by decide : 4 ≤ 10)) hr (by rfl) D4.g D4.F.kp D4.b .nil pass0 (pa_cons (pv 0) (pa_cons (pv 1) pa_nil)))))), ?_⟩
  have hw : ∀ {G : Hp}, Ex H G → ∃ o, G w = some o := fun eg => hl.elim fun l h => ⟨_, eg _ _ h⟩
  refine q_when (b := !gTable (.tup us)) (et_not (et_B (ev_Jw (ev_var rfl) hx fi sm (hw (Ex.refl _))))) (fun q => by rw [gt] at q; cases q) (fun _ H1 e1 => ?_)
  obtain ⟨a, xs, rfl, ha, _, lx⟩ := at_tup (ex_at e1 hx)
  obtain ⟨b, ys, rfl, hb, _, ly⟩ := at_tup (ex_at e1 hy)
  obtain ⟨x0, hx0, ax0⟩ := AtL.get lx he
  obtain rfl := at_int ax0
  obtain ⟨yr, rfl⟩ : ∃ yr, ys = .str z :: yr := by
    cases ly with
    | cons h1 h2 => exact ⟨_, by rw [at_str h1]⟩
  have lt : letsB e z = true := by
    unfold letsB
    rw [decide_eq_true (show e ≥ 0 from e0)]
    rfl
  refine q_when (b := !gDeed dT (.tup (.str z :: ps)) || !letsB e z) (et_or (et_not (et_B (ev_Jw (ev_var rfl) (ex_at e1 hy) fd' sd (hw e1)))) fun _ => et_not (et_B (ev_call (ea_cons (ev_var rfl) (ea_cons (ev_var rfl) ea_nil)) fun G eg Q q E => ⟨a, b, xs, _, e, z, rfl, sqt_ex eg (Tu.st ha), hx0, sqt_ex eg (Tu.st hb), rfl, q⟩))) (fun q => by rw [gd, lt] at q; cases q) (fun _ H2 e2 => ?_)
  have e12 := e1.trans e2
  refine ret1 ?_
  exact call1 (ea_cons (ev_var rfl) (ea_cons (ev_var rfl) ea_nil)) fun H3 e3 => ⟨.ref a, .ref b, us, ps, w, rfl, ex_at (e12.trans e3) hx, ex_at (e12.trans e3) hy, hl.imp fun l h => (e12.trans e3) _ _ h, h10, hok, fun v H' s av => k v H' ((e12.trans e3).trans s) av⟩
abbrev okMd : List U → List U → Prop := fun us ps => okH (us.getD 4 .non) ∧ okB (us.getD 5 .non) ∧ ∃ hs bs, ps = [.tup hs, .tup (bs.map bzU)] ∧ hs.all gNamed = true ∧ hs.length ≤ 3000 ∧ srtZ bs ∧ bs.length ≤ 40000
abbrev okCo : List U → List U → Prop := fun us _ => okH (us.getD 4 .non) ∧ ∃ bs, us.getD 5 .non = .tup bs ∧ bs.all gBlk = true ∧ bs.length ≤ 40000
/-- the table after a deed -/
def aft (pf : Int × Int → Str) (e : Int) (f : Nat → Bool) (js : List (Int × Int)) (Vs A hs : List U) (is : List (Int × Int)) (d : U) (hs' : List U) (is' : List (Int × Int)) : Prop :=
  (∃ m, d = mdU pf m ∧ hs' = m.1.foldl mendI hs ∧ Rn Vs js (A ++ m.1) hs' is' ∧ ∀ k, k ∈ is' ↔ k ∈ is ∨ k ∈ m.2) ∨ (d = colU ∧ hs' = hs ∧ is' = is.filter fun j => decide (j ∈ ledPs hs))
def spBehK (C : Addr) : Sp := fun vs H Q _ => ∃ (x y : V) (w : Addr) (e : Int) (f : Nat → Bool) (zs : List Str) (js : List (Int × Int)) (Vs : List U) (pf : Int × Int → Str) (A hs : List U) (is : List (Int × Int)) (d : U), vs = [x, y] ∧ At w C H x (.tup (tabL e f hs (blks pf is))) ∧ At w C H y d ∧ (∃ l, H w = some (.lst l)) ∧ Ev0 e f zs js Vs pf ∧ Rn Vs js A hs is ∧ ((∃ m, d = mdU pf m ∧ MdOk Vs js m) ∨ d = colU) ∧
  ∀ v H' hs' is', Same H H' → At w C H' v (.tup (tabL e f hs' (blks pf is'))) → aft pf e f js Vs A hs is d hs' is' → Q v H'
theorem blks_zU (pf : Int × Int → Str) (is : List (Int × Int)) : (blks pf is).map zU = is.map (gP pf) := by
  rw [blks_gP, map_zU]
theorem led_blks (pf : Int × Int → Str) (hs : List U) (is : List (Int × Int)) : (blks pf is).filter (inLed hs) = blks pf (is.filter fun j => decide (j ∈ ledPs hs)) := by
  unfold blks
  rw [List.filter_map]
  rfl
theorem ok_behK {f : Addr} {fd : FuncData} (G1 : FnOk P wd K mg base CX0 11 f fd ["table", "deed"] (spBehR C "mend" okMd fMend)) (G2 : FnOk P wd K mg base CX0 11 f fd ["table", "deed"] (spBehR C "collect" okCo fColl)) : FnOk P wd K mg base CX0 11 f fd ["table", "deed"] (spBehK C) := FnOk.cases fun vs H Q E h => by
  obtain ⟨x, y, w, e, f, zs, js, Vs, pf, A, hs, is, d, rfl, hx, hy, hl, ev, rn, hd, k⟩ := h
  have hdu := rn.hd ev.ok ev.z ev.z3
  obtain ⟨gt, bt⟩ := tab_ok ev hdu rn.s rn.b
  obtain ⟨fi, sm⟩ := bd_fine bt (by decide)
  obtain ⟨g5, b5, n5, a5⟩ := blks_g ev rn.s rn.b
  obtain ⟨g4, b4⟩ := heads_g ev hdu
  have h3 := hdu.n
  have oH : okH (.tup hs) := ⟨hs, rfl, hdu.all ev.ok, hdu.s, by omega⟩
  rcases hd with ⟨m, rfl, om⟩ | rfl
  · refine ⟨_, G1, x, y, _, [.tup m.1, .tup (blks pf m.2)], w, e, rfl, hx, hy, hl, gt, fi, sm, rfl, ev.e0, rfl, ?_, ?_, ?_, ?_, fun v H' s av => ?_⟩
    · have sm2 := ev.j.sublist om.s
      obtain ⟨q5, _, _, _⟩ := blks_g ev sm2 fun j hj => om.s.subset hj
      rw [gDeed_eq]
      show gRestL "mend" _ = true
      rw [rest_mend]
      show (gTO 2 (.tup [.tup m.1, .tup (blks pf m.2)]) && (gHeads (.tup m.1) && gBlocks (.tup (blks pf m.2)))) = true
      rw [q5, (heads_g ev om.h).1]
      rfl
    · exact (bd_fine (md_bd ev om) (by decide)).1
    · exact (bd_fine (md_bd ev om) (by decide)).2
    · have sm2 := ev.j.sublist om.s
      obtain ⟨_, _, n2, _⟩ := blks_g ev sm2 fun j hj => om.s.subset hj
      have := om.h.n
      exact ⟨oH, ⟨is.map (gP pf), by rw [← blks_gP]; rfl, srtZ_ids.mpr rn.s, by rw [List.length_map]; omega⟩, m.1, m.2.map (gP pf), by rw [← blks_gP], om.h.all ev.ok, by omega, srtZ_ids.mpr sm2, by rw [List.length_map]; omega⟩
    · obtain ⟨is', ei, rn', mm⟩ := rn.mend (pf := pf) ev.ok om ev.j
      refine k v H' (m.1.foldl mendI hs) is' s ?_ (.inl ⟨m, rfl, rfl, rn', mm⟩)
      have fe : fMend (tabL e f hs (blks pf is)) [.tup m.1, .tup (blks pf m.2)] = tabL e f (m.1.foldl mendI hs) (blks pf is') := by
        show [.int e, memU f, .tup [], .int 0, .tup (m.1.foldl mendI hs), .tup ((((blks pf is).map zU).foldl (fun ps x => insZ x ps) ((blks pf m.2).map zU)).map bzU), .tup [], .tup [.int 0, .int 0], .non, .non] = _
        rw [blks_zU, blks_zU, ei, ← blks_gP]
        rfl
      rw [fe] at av
      exact av
  · refine ⟨_, G2, x, y, _, [], w, e, rfl, hx, hy, hl, gt, fi, sm, rfl, ev.e0, rfl, by decide +kernel, ?_, ?_, ⟨oH, blks pf is, rfl, a5, by unfold blks; rw [List.length_map]; omega⟩, fun v H' s av => ?_⟩
    · exact (bd_fine col_bd (by decide)).1
    · exact (bd_fine col_bd (by decide)).2
    · refine k v H' hs _ s ?_ (.inr ⟨rfl, rfl, rfl⟩)
      have fe : fColl (tabL e f hs (blks pf is)) [] = tabL e f hs (blks pf (is.filter fun j => decide (j ∈ ledPs hs))) := by
        show [.int e, memU f, .tup [], .int 0, .tup hs, .tup ((blks pf is).filter (inLed hs)), .tup [], .tup [.int 0, .int 0], .non, .non] = _
        rw [led_blks]
        rfl
      rw [fe] at av
      exact av
end
end Hs
/-! the stamps of the names -/
namespace Hs
open PySem PySem.Spec PyProof.Rows L2 Hu Evl
abbrev lStamps8 : Stmt := topS 113
theorem lexLe_P (p q : Int × Int) : Ob.lexAt (fun j => decide ([p.1, p.2].getD j 0 = [q.1, q.2].getD j 0)) (fun j => decide ([p.1, p.2].getD j 0 ≤ [q.1, q.2].getD j 0)) (decide ([p.1, p.2].length ≤ [q.1, q.2].length)) 0 (min [p.1, p.2].length [q.1, q.2].length) = !ltI q p := by
  obtain ⟨a, b⟩ := p
  obtain ⟨c, d⟩ := q
  show (if decide (a = c) = true then (if decide (b = d) = true then true else decide (b ≤ d)) else decide (a ≤ c)) = !(decide (c < a) || (decide (c = a) && decide (d < b)))
  by_cases h : a = c
  · subst h
    by_cases h2 : b = d
    · subst h2
      simp
    · rw [decide_eq_true rfl, if_pos rfl, decide_eq_false h2, if_neg (by decide), decide_eq_false (Int.lt_irrefl a), Bool.false_or, Bool.true_and, ← decide_not]
      exact decide_eq_decide.mpr (by omega)
  · have h' : ¬ c = a := fun e => h e.symm
    rw [decide_eq_false h, if_neg (by decide), decide_eq_false h', Bool.false_and, Bool.or_false, ← decide_not]
    exact decide_eq_decide.mpr (by omega)
theorem rv_leI {K : PySem.W.Frag} {H : Hp} {a b : Addr} {p q : Int × Int} (ha : SqT K H a [.int p.1, .int p.2]) (hb : SqT K H b [.int q.1, .int q.2]) : RV (rLeT K) (.ref a) (.ref b) H (.bl (!ltI q p)) := fun H1 e Q f =>
  ⟨a, b, [p.1, p.2], [q.1, q.2], rfl, rfl, sqt_ex e ha, sqt_ex e hb, by rw [lexLe_P]; exact f H1 (Ex.refl H1)⟩
def StL (K : PySem.W.Frag) (H : Hp) (vs : List V) (ks : List (Int × Int)) : Prop := vs.length = ks.length ∧ ∀ (i : Nat) (v : V) (k : Int × Int), vs[i]? = some v → ks[i]? = some k → ∃ a, v = .ref a ∧ SqT K H a [.int k.1, .int k.2]
theorem StL.ex {K : PySem.W.Frag} {H H' : Hp} {vs : List V} {ks : List (Int × Int)} (e : Ex H H') (h : StL K H vs ks) : StL K H' vs ks := ⟨h.1, fun i v k h1 h2 => (h.2 i v k h1 h2).imp fun a q => ⟨q.1, sqt_ex e q.2⟩⟩
theorem StL.snoc {K : PySem.W.Frag} {H : Hp} {vs : List V} {ks : List (Int × Int)} {a : Addr} {k : Int × Int} (h : StL K H vs ks) (q : SqT K H a [.int k.1, .int k.2]) : StL K H (vs ++ [.ref a]) (ks ++ [k]) := by
  refine ⟨by rw [List.length_append, List.length_append, h.1]; rfl, fun i v k' h1 h2 => ?_⟩
  by_cases l : i < vs.length
  · rw [List.getElem?_append_left l] at h1
    rw [List.getElem?_append_left (by have := h.1; omega)] at h2
    exact h.2 i v k' h1 h2
  · rw [List.getElem?_append_right (by omega)] at h1
    rw [List.getElem?_append_right (by have := h.1; omega)] at h2
    have e : vs.length = ks.length := h.1
    rw [← e] at h2
    cases hn : i - vs.length with
    | zero =>
      rw [hn] at h1 h2
      cases h1
      cases h2
      exact ⟨a, rfl, q⟩
    | succ n =>
      rw [hn] at h1
      simp at h1
theorem sqt_lst {K : PySem.W.Frag} {H : Hp} {a l : Addr} {xs ys : List V} {o : List V} (hl : H l = some (.lst o)) (h : SqT K H a xs) : SqT K (upd H l (.lst ys)) a xs := by
  rcases h with h | h
  · refine .inl ?_
    rcases h with h | ⟨o, h⟩
    · refine .inl ?_
      rw [upd_ne (fun e => by rw [e, hl] at h; cases h)]
      exact h
    · refine .inr ⟨o, ?_⟩
      rw [upd_ne (fun e => by rw [e, hl] at h; cases h)]
      exact h
  · exact .inr h
theorem due_st {hs : List U} {z : Str} (g : hs.all gNamed = true) : ∃ r, dueH hs z = .tup [.tup [.int (stOf hs z).1, .int (stOf hs z).2], r] := by
  cases hf : hs.find? (named z) with
  | none => exact ⟨.non, by unfold dueH stOf; rw [hf]; rfl⟩
  | some u =>
    obtain ⟨y, s, r, rfl, gs, _⟩ := gNamed_is (List.all_eq_true.mp g u (List.mem_of_find?_eq_some hf))
    obtain ⟨i, j, rfl⟩ := gStamp_two gs
    exact ⟨r, by unfold dueH stOf; rw [hf]; rfl⟩
section
variable {P : Program} {wd : World} {K : PySem.W.Frag} {mg : Str → Option Value} {base : Heap} {C : Addr}
abbrev nmSt : List Str := ["table", "names", "name"]
theorem scSt8 : FnScope nmSt ["table", "names"] (defScope lStamps8) := ⟨rfl, rfl, rfl, by decide +kernel, rfl, by decide +kernel, by decide +kernel⟩
def spSt8 (K : PySem.W.Frag) (C : Addr) : Sp := fun vs H Q _ => ∃ (x : V) (u : U) (w N : Addr) (zs : List Str), vs = [x, .ref N] ∧ At w C H x u ∧ (∃ o, H w = some o) ∧ gTable u = true ∧ Fine u ∧ Sm u ∧ (hsOf u).all gNamed = true ∧ H N = some (.lst (zs.map V.str)) ∧ zs.length ≤ 50 ∧ (∀ z ∈ zs, gNam (.str z) = true) ∧
  ∀ p vs H', H p = none → Same H H' → H' p = some (.lst vs) → StL K H' vs (zs.map (stOf (hsOf u))) → Q (.ref p) H'
theorem ok_st8 {f f1 CT CN : Addr} {fd d1 : FuncData} (F : Fun K "_law_stamps" "_law_stamps" lStamps8 f fd) (D1 : Df K mg "head_of" sHeadOf8 ["table", "name"] f1 d1) (G1 : FnOk P wd K mg base CX0 9 f1 d1 ["table", "name"] (fun vs H Q _ => spHO K C CT CN vs H Q E0)) : FnOk P wd K mg base CX0 10 f fd ["table", "names"] (spSt8 K C) := by
  refine F.ok scSt8 (fun vs H Q E h => ?_) (fun cdv A outer s H vs Q E hr h => ?_)
  · obtain ⟨x, u, w, N, zs, rfl, _⟩ := h
    rfl
  obtain ⟨x, u, w, N, zs, rfl, hx, hw, gt, fi, sm, hall, hN, hz, hg, k⟩ := h
  refine ⟨_, pss_one (ps_ret (pe_lc (own := [("name", 2)]) (g := gName 2) (tt := tYes) rfl scSt8.nd (pi_list (pv 1)) (blkOk_by (N := nmSt) (sc := defScope lStamps8) (by decide +kernel))
        (fun _ _ _ _ _ => pg_name (i := 2) scSt8.nd rfl (Or.inl rfl)) (fun _ _ _ _ _ => pts_nil) (fun _ _ _ _ _ => pe_ix (show IxR _ (rIxT K) from ix_tup) (pe_call G1 hr (by rfl) D1.g D1.F.kp D1.b .nil pass0 (pa_cons (pv 0) (pa_cons (pv 2) pa_nil))) pe_int (fun _ _ => rfl)))), ?_⟩
  refine ret1 ?_
  refine ⟨_, rfl, N, rfl, ⟨zs.map V.str, sq_of hN⟩, fun Dl hD => ?_⟩
  refine lc_list (K := K) (xs := zs.map V.str) (fun i H' => Ex H H' ∧ ∃ vs, H' Dl = some (.lst vs) ∧ StL K H' vs ((zs.take i).map (stOf (hsOf u)))) ⟨Ex.new hD, [], upd_same, ⟨rfl, fun i v k h => by simp at h⟩⟩ (fun i H' _ p => sq_of (p.1 _ _ hN)) ?_ ?_
  · rintro n y H1 hy ⟨e1, vs, h1, st⟩
    rw [List.getElem?_map] at hy
    cases hzi : zs[n]? with
    | none => rw [hzi] at hy; cases hy
    | some z =>
      rw [hzi] at hy
      cases hy
      have hzg := hg z (List.mem_of_getElem? hzi)
      have hn : n < zs.length := (List.getElem?_eq_some_iff.mp hzi).1
      have tk := take_snoc' hzi
      refine ⟨rfl, ?_⟩
      refine et_yes _ (Ex.refl _) _ fun H2 e2 => ?_
      rw [if_pos rfl]
      have e12 := e1.trans e2
      refine ⟨_, rfl, _, rfl, x, .str z, u, .str z, w, w, rfl, ex_at e12 hx, fi, sm, hw.imp fun o q => e12 _ _ q, .str z, (bd_fine (nam_bd hzg) (by decide)).1, fun _ z' ez _ v H3 s3 lk => ?_, (fun _ q => (by rw [hzg] at q; cases q)), (fun q => (by rw [gt] at q; cases q))⟩
      cases ez
      obtain ⟨r, er⟩ := due_st (z := z) hall
      rw [er] at lk
      obtain ⟨a, xs, rfl, ha, la, ca⟩ := lk_tup lk
      have hx0 : ∃ x0, xs[0]? = some x0 := ⟨xs[0]'(by rw [la]; exact Nat.succ_pos _), List.getElem?_eq_getElem _⟩
      obtain ⟨x0, hx0⟩ := hx0
      obtain ⟨b, ys, rfl, hb, lb, cb⟩ := lk_tup (ca 0 x0 _ hx0 rfl)
      have ey : ys = [.int (stOf (hsOf u) z).1, .int (stOf (hsOf u) z).2] := by
        match ys, lb with
        | [y1, y2], _ =>
          have c1 := cb 0 y1 _ rfl rfl
          have c2 := cb 1 y2 _ rfl rfl
          cases c1
          cases c2
          rfl
      subst ey
      have e3 : Ex H1 H3 := e2.trans s3
      have h3 := e3 _ _ h1
      refine ⟨a, xs, 0, .ref b, rfl, rfl, ha, ?_, vs, h3, sz_lt (by have := st.1; rw [List.length_map, List.length_take] at this; omega), ?_, vs ++ [.ref b], upd_same, ?_⟩
      · exact atI_nat (j := 0) hx0
      · exact fun q o hq => by
          rw [upd_ne (ne_of_none hq hD)]
          exact e3 _ _ (e1 _ _ hq)
      · rw [tk, List.map_append]
        have s1 := (st.ex e3).snoc (k := stOf (hsOf u) z) hb
        exact ⟨s1.1, fun i v k q1 q2 => (s1.2 i v k q1 q2).imp fun a q => ⟨q.1, sqt_lst h3 q.2⟩⟩
  · rintro H1 ⟨e1, vs, h1, st⟩
    rw [List.length_map, List.take_length] at st
    exact k Dl vs H1 hD e1 h1 st
end
end Hs
/-! a run of mends and collects -/
namespace Hs
open PySem PySem.Spec PyProof.Rows L2 Hu Evl
abbrev lRun : Stmt := topS 114
def hdD (d : U) : List U := match nth d 1 with | .tup us => us | _ => []
def blD (d : U) : List (Int × Int) := match nth d 2 with | .tup bs => bs.map fun b => idP (nth b 0) | _ => []
theorem hdD_md (pf : Int × Int → Str) (m : Mend) : hdD (mdU pf m) = m.1 := rfl
theorem blks_ids (pf : Int × Int → Str) (is : List (Int × Int)) : (blks pf is).map (fun b => idP (nth b 0)) = is := by
  unfold blks
  rw [List.map_map]
  show is.map (fun j => (j.1, j.2)) = is
  exact List.map_id is
theorem blD_md (pf : Int × Int → Str) (m : Mend) : blD (mdU pf m) = m.2 := blks_ids pf m.2
theorem stOf_mem {hs : List U} {h : U} (s : srtN hs) (gh : hs.all gNamed = true) (hh : h ∈ hs) : stOf hs (nmU h) = stU h := by
  obtain ⟨k1, k2⟩ := nm_named (List.all_eq_true.mp gh h hh) gh
  cases hf : hs.find? (named (nmU h)) with
  | none => exact absurd rfl (k2 hf h hh)
  | some u =>
    obtain ⟨hu, hn⟩ := k1 u hf
    have : u = h := srt_one s hu hh hn
    unfold stOf
    rw [hf, ← this]
    rfl
theorem stOf_none {hs : List U} {z : Str} (hf : hs.find? (named z) = none) : stOf hs z = (0, 0) := by
  unfold stOf
  rw [hf]
theorem find_nm {hs : List U} {z : Str} {u : U} (gh : hs.all gNamed = true) (hf : hs.find? (named z) = some u) : u ∈ hs ∧ nmU u = z := by
  have hu := List.mem_of_find?_eq_some hf
  obtain ⟨y, s, r, rfl, _⟩ := gNamed_is (List.all_eq_true.mp gh u hu)
  have := List.find?_some hf
  exact ⟨hu, of_decide_eq_true this⟩
/-- stamps only grow -/
theorem st_grow {zs : List Str} {Vs : List U} {js : List (Int × Int)} {A A' hs hs' : List U} {is is' : List (Int × Int)} (ok : Vok zs js Vs) (r : Rn Vs js A hs is) (r' : Rn Vs js A' hs' is') (sub : ∀ h ∈ A, h ∈ A') (z : Str) : ltI (stOf hs' z) (stOf hs z) = false := by
  have g1 : hs.all gNamed = true := List.all_eq_true.mpr fun u hu => ok.g u (r.a u (r.t.m u hu))
  have g2 : hs'.all gNamed = true := List.all_eq_true.mpr fun u hu => ok.g u (r'.a u (r'.t.m u hu))
  cases hf : hs.find? (named z) with
  | none =>
    rw [stOf_none hf]
    cases hf' : hs'.find? (named z) with
    | none => rw [stOf_none hf']; exact ltI_irr _
    | some u =>
      obtain ⟨hu, rfl⟩ := find_nm g2 hf'
      rw [stOf_mem r'.t.s g2 hu]
      have hv := r'.a u (r'.t.m u hu)
      exact ltI_asy (stamp_pos (ok.g u hv) (ok.ps u hv))
  | some u =>
    obtain ⟨hu, rfl⟩ := find_nm g1 hf
    rw [stOf_mem r.t.s g1 hu]
    obtain ⟨t, ht, n, l⟩ := r'.t.g u (sub u (r.t.m u hu))
    rw [← n, stOf_mem r'.t.s g2 ht]
    exact l
section
variable {K : PySem.W.Frag} {σ : L2.St} {H : Hp}
theorem ev_ixVV {i j : Nat} {l : Addr} {xs : List V} {k : Nat} {x : V} (h1 : σ[i]? = some (some (.ref l))) (h2 : σ[j]? = some (some (.int (k : Int)))) (hl : H l = some (.lst xs)) (hx : xs[k]? = some x) : Ev (tOp (rIxL K) (tVar i) (tVar j)) σ H x := fun H1 e Q q =>
  ⟨_, h1, _, h2, l, xs, (k : Int), x, rfl, rfl, SqL.of (e _ _ hl), atI_nat hx, q H1 (Ex.refl H1)⟩
end
section
variable {P : Program} {wd : World} {K : PySem.W.Frag} {mg : Str → Option Value} {base : Heap} {C : Addr}
abbrev nmRu : List Str := ["table", "deeds", "names", "deed", "stamps", "later", "k"]
theorem scRu : FnScope nmRu ["table", "deeds", "names"] (defScope lRun) := ⟨rfl, rfl, rfl, by decide +kernel, rfl, by decide +kernel, by decide +kernel⟩
def DdOk (pf : Int × Int → Str) (Vs : List U) (js : List (Int × Int)) (d : U) : Prop := (∃ m, d = mdU pf m ∧ MdOk Vs js m) ∨ d = colU
def spRu (C : Addr) : Sp := fun vs H Q _ => ∃ (x y : V) (N w : Addr) (e : Int) (f : Nat → Bool) (zs : List Str) (js : List (Int × Int)) (Vs : List U) (pf : Int × Int → Str) (A hs : List U) (is : List (Int × Int)) (ds : List U), vs = [x, y, .ref N] ∧ At w C H x (.tup (tabL e f hs (blks pf is))) ∧ At w C H y (.lst ds) ∧ (∃ l, H w = some (.lst l)) ∧ Ev0 e f zs js Vs pf ∧ Rn Vs js A hs is ∧ (∀ d ∈ ds, DdOk pf Vs js d) ∧ H N = some (.lst (zs.map V.str)) ∧
  ∀ v H' hs' is', Same H H' → At w C H' v (.tup (tabL e f hs' (blks pf is'))) → Rn Vs js (A ++ ds.flatMap hdD) hs' is' → ((∀ d ∈ ds, d ≠ colU) → ∀ k, k ∈ is' ↔ k ∈ is ∨ k ∈ ds.flatMap blD) → Q v H'
theorem ok_ru {f fS fB fC CT : Addr} {fd dS dB dC : FuncData} (F : Fun K "_law_run" "_law_run" lRun f fd) (B : Bt mg) (DS : Df K mg "_law_stamps" lStamps8 ["table", "names"] fS dS) (GS : FnOk P wd K mg base CX0 10 fS dS ["table", "names"] (spSt8 K C)) (DB : Df K mg "behind" sBehind ["table", "deed"] fB dB) (GB : FnOk P wd K mg base CX0 11 fB dB ["table", "deed"] (spBehK C))
    (DC : Df K mg "is_closed" sClosed ["table"] fC dC) (GC : FnOk P wd K mg base CX0 9 fC dC ["table"] (fun vs H Q _ => spCl C CT vs H Q E0)) : FnOk P wd K mg base CX0 12 f fd ["table", "deeds", "names"] (spRu C) := by
  refine F.ok scRu (fun vs H Q E h => ?_) (fun cdv A outer s H vs Q E hr h => ?_)
  · obtain ⟨x, y, N, w, e, f, zs, js, Vs, pf, A, hs, is, ds, rfl, _⟩ := h
    rfl
  obtain ⟨x, y, N, w, e, f, zs, js, Vs, pf, A0, hs, is, ds, rfl, hx, hy, hl, ev, rn, hd, hN, k⟩ := h
  have GS' : FnOk P wd K mg base CX0 11 fS dS ["table", "names"] (spSt8 K C) := GS.mono (by decide)
  refine ⟨_, pss_cons (ps_for PassesOwn.never rfl (pi_list (pv 1)) (pg_name (i := 3) scRu.nd rfl (Or.inl rfl))
      (pss_cons (ps_set (i := 4) scRu.nd rfl (.inr rfl) (pe_call GS' hr (by rfl) DS.g DS.F.kp DS.b .nil pass0 (pa_cons (pv 0) (pa_cons (pv 2) pa_nil))))
      (pss_cons (ps_set (i := 0) scRu.nd rfl (.inl rfl) (pe_call GB hr (by rfl) DB.g DB.F.kp DB.b .nil pass0 (pa_cons (pv 0) (pa_cons (pv 3) pa_nil))))
      (pss_cons (ps_set (i := 5) scRu.nd rfl (.inr rfl) (pe_call GS' hr (by rfl) DS.g DS.F.kp DS.b .nil pass0 (pa_cons (pv 0) (pa_cons (pv 2) pa_nil))))
      (pss_one (ps_if (PW.pt (pw_or (pt_cmpR op_isnot_bl (pe_call (GC.mono (by decide : 9 ≤ 11)) hr (by rfl) DC.g DC.F.kp DC.b .nil pass0 (pa_cons (pv 0) pa_nil)) pe_bl (nomark _))
        (pw_or1 (pt_not (pt_val (pe_callB (cr_all rfl) (by rfl) B.all boot_all' (pa_cons (pe_lc (own := [("k", 6)]) (g := gName 6) (tt := tYes) rfl scRu.nd (pi_range1 (by rfl) B.range (pa_cons (pe_callB (show CallR _ _ (rLenQ K) from call_len_seq) (by rfl) B.len PySem.boot_len (pa_cons (pv 2) pa_nil)) pa_nil)) (blkOk_by (N := nmRu) (sc := defScope lRun) (by decide +kernel))
          (fun _ _ _ _ _ => pg_name (i := 6) scRu.nd rfl (Or.inl rfl)) (fun _ _ _ _ _ => pts_nil) (fun _ _ _ _ _ => pe_cmpR (show OpR _ _ (rLeT K) from op_leT (Nat.lt_of_le_of_lt (Nat.le_add_right _ 1) (room_h1 hr))) (pe_ix (show IxR _ (rIxL K) from ix_list) (pv 4) (pv 6) (fun _ _ => rfl)) (pe_ix (show IxR _ (rIxL K) from ix_list) (pv 5) (pv 6) (fun _ _ => rfl)) (by rfl))) pa_nil)))))))
        (pss_one (ps_ret pe_non)) pss_nil))))))
    (pss_one (ps_ret (pv 0))), ?_⟩
  obtain ⟨p, xs, rfl, hp0, np, lp⟩ := at_lst hy
  have xlen := AtL.length lp
  refine q_forL (K := K) (xs := xs) (ev_var rfl) (sq_of hp0) (fun i σ' H' => ∃ (t : V) (x3 x4 x5 : Option V) (hs' : List U) (is' : List (Int × Int)), σ' = [some t, some (.ref p), some (.ref N), x3, x4, x5, none] ∧ Ex H H' ∧ At w C H' t (.tup (tabL e f hs' (blks pf is'))) ∧ Rn Vs js (A0 ++ (ds.take i).flatMap hdD) hs' is' ∧ ((∀ d ∈ ds.take i, d ≠ colU) → ∀ k, k ∈ is' ↔ k ∈ is ∨ k ∈ (ds.take i).flatMap blD))
    (fun H1 e1 => ⟨x, none, none, none, hs, is, rfl, e1, ex_at e1 hx, by simpa using rn, fun _ k => by simp⟩) (fun i σ' H' _ ⟨_, _, _, _, _, _, _, e1, _⟩ => sq_of (e1 _ _ hp0)) ?_ ?_
  · rintro i y σ' H1 hi ⟨t, x3, x4, x5, hs1, is1, rfl, e1, ht, r1, ex1⟩
    have hiu : i < ds.length := by
      have := (List.getElem?_eq_some_iff.mp hi).1
      omega
    have hg := List.getElem?_eq_getElem hiu
    obtain ⟨y', hy', ay⟩ := AtL.get lp hg
    rw [hi] at hy'
    cases hy'
    have tk := take_snoc' hg
    generalize ds[i] = d at hg ay tk
    have hdm := hd d (List.mem_of_getElem? hg)
    have zn := ev.z3
    -- the stamps before
    have tabs : ∀ (hs2 : List U) (is2 : List (Int × Int)) (A2 : List U), Rn Vs js A2 hs2 is2 → gTable (.tup (tabL e f hs2 (blks pf is2))) = true ∧ Fine (.tup (tabL e f hs2 (blks pf is2))) ∧ Sm (.tup (tabL e f hs2 (blks pf is2))) ∧ hs2.all gNamed = true := fun hs2 is2 A2 r2 => by
      obtain ⟨g, b⟩ := tab_ok ev (r2.hd ev.ok ev.z ev.z3) r2.s r2.b
      exact ⟨g, (bd_fine b (by decide)).1, (bd_fine b (by decide)).2, (r2.hd ev.ok ev.z ev.z3).all ev.ok⟩
    obtain ⟨gt1, fi1, sm1, al1⟩ := tabs hs1 is1 _ r1
    show tSeq _ _ _ [some t, some (V.ref p), some (.ref N), some y, x4, x5, none] H1
    refine asgQ (callQ (ea_cons (ev_var rfl) (ea_cons (ev_var rfl) ea_nil)) fun H2 e2 => ⟨t, _, w, N, zs, rfl, ex_at e2 ht, hl.elim fun l h => ⟨_, (e1.trans e2) _ _ h⟩, gt1, fi1, sm1, al1, (e1.trans e2) _ _ hN, by omega, ev.zg, fun S sv H3 hS s3 h3 st3 => ?_⟩)
    have e13 := e2.trans s3
    have e03 := e1.trans e13
    show tSeq _ _ _ [some t, some (V.ref p), some (.ref N), some y, some (.ref S), x5, none] H3
    refine asgQ (callQ (ea_cons (ev_var rfl) (ea_cons (ev_var rfl) ea_nil)) fun H4 e4 => ⟨t, y, w, e, f, zs, js, Vs, pf, _, hs1, is1, d, rfl, ex_at (e13.trans e4) ht, ex_at (e03.trans e4) ay, hl.imp fun l h => (e03.trans e4) _ _ h, ev, r1, hdm, fun t5 H5 hs5 is5 s5 a5 af => ?_⟩)
    have e35 := e4.trans s5
    have e05 := e03.trans e35
    have key : Rn Vs js (A0 ++ (ds.take (i + 1)).flatMap hdD) hs5 is5 ∧ ((∀ d ∈ ds.take (i + 1), d ≠ colU) → ∀ k, k ∈ is5 ↔ k ∈ is ∨ k ∈ (ds.take (i + 1)).flatMap blD) := by
      rw [tk, List.flatMap_append, List.flatMap_append]
      rcases af with ⟨m, rfl, ehs, rn5, mm⟩ | ⟨rfl, rfl, rfl⟩
      · refine ⟨?_, fun q k => ?_⟩
        · rw [← List.append_assoc]
          show Rn Vs js (_ ++ (hdD (mdU pf m) ++ [])) hs5 is5
          rw [List.append_nil, hdD_md]
          exact rn5
        · have := ex1 (fun d hd => q d (List.mem_append_left _ hd)) k
          show k ∈ is5 ↔ k ∈ is ∨ k ∈ _ ++ (blD (mdU pf m) ++ [])
          rw [List.append_nil, blD_md, mm, this, List.mem_append, or_assoc]
      · refine ⟨?_, fun q => absurd rfl (q colU (List.mem_append_right _ (List.mem_singleton.mpr rfl)))⟩
        show Rn Vs js (A0 ++ (_ ++ ([] ++ []))) hs5 _
        rw [List.append_nil, List.append_nil]
        exact r1.col
    obtain ⟨r5, ex5⟩ := key
    have sub5 : ∀ h ∈ A0 ++ (ds.take i).flatMap hdD, h ∈ A0 ++ (ds.take (i + 1)).flatMap hdD := fun h hh => by
      rw [tk, List.flatMap_append, ← List.append_assoc]
      exact List.mem_append_left _ hh
    obtain ⟨gt5, fi5, sm5, al5⟩ := tabs hs5 is5 _ r5
    show tSeq _ _ _ [some t5, some (V.ref p), some (.ref N), some y, some (.ref S), x5, none] H5
    refine asgQ (callQ (ea_cons (ev_var rfl) (ea_cons (ev_var rfl) ea_nil)) fun H6 e6 => ⟨t5, _, w, N, zs, rfl, ex_at e6 a5, hl.elim fun l h => ⟨_, (e05.trans e6) _ _ h⟩, gt5, fi5, sm5, al5, (e05.trans e6) _ _ hN, by omega, ev.zg, fun L lv H7 hL s7 h7 st7 => ?_⟩)
    have e57 := e6.trans s7
    have e07 := e05.trans e57
    have e37 := e35.trans e57
    show tIfS _ _ tNext _ [some t5, some (V.ref p), some (.ref N), some y, some (.ref S), some (.ref L), none] H7
    have cl : closedU (.tup (tabL e f hs5 (blks pf is5))) = true := by
      show ((ledPs hs5).all fun q => decide (q ∈ (blks pf is5).map fun b => idP (nth b 0))) = true
      rw [blks_ids, List.all_eq_true]
      exact fun q hq => decide_eq_true (r5.c q hq)
    refine s_when (b := false) (et_or (a := false) (et_test (ev_op (ev_call (dvs := []) (ea_cons (ev_var rfl) ea_nil) fun G eg Q q E => ⟨t5, _, w, rfl, ex_at (e57.trans eg) a5, fi5, sm5, hl.elim fun l h => ⟨_, (e07.trans eg) _ _ h⟩, fun _ H8 s8 => by rw [cl]; exact q H8 s8, (fun q => (by rw [gt5] at q; cases q))⟩) ev_c fun G eg Q q => ⟨true, true, rfl, rfl, q G (Ex.refl G)⟩)) fun _ => et_not (a := true) (et_B (ev_allR (K := K) (n := zs.length) (ea_cons (fun G eg Q q => ⟨_, rfl, N, zs.map V.str, rfl, .inl (SqL.of ((e07.trans eg) _ _ hN)), by rw [List.length_map]; exact q G (Ex.refl G)⟩) ea_nil) (by omega) (fun _ => rfl) fun n hn => ?_))) (fun q => by cases q) (fun _ H8 e8 => ?_)
    · have hz := List.getElem?_eq_getElem hn
      have l1 : n < sv.length := by
        rw [st3.1, List.length_map]
        exact hn
      have l2 : n < lv.length := by
        rw [st7.1, List.length_map]
        exact hn
      obtain ⟨a, ea, sa⟩ := st3.2 n _ _ (List.getElem?_eq_getElem l1) (by rw [List.getElem?_map, hz]; rfl)
      obtain ⟨b, eb, sb⟩ := st7.2 n _ _ (List.getElem?_eq_getElem l2) (by rw [List.getElem?_map, hz]; rfl)
      have g := st_grow ev.ok r1 r5 sub5 zs[n]
      refine ev_is (ev_op (ev_ixVV rfl rfl (e37 _ _ h3) (List.getElem?_eq_getElem l1)) (ev_ixVV rfl rfl h7 (List.getElem?_eq_getElem l2)) (by rw [ea, eb]; exact rv_leI (sqt_ex e37 sa) sb)) ?_
      show V.bl (!ltI (stOf hs5 zs[n]) (stOf hs1 zs[n])) = V.bl true
      rw [g]
      rfl
    · exact ⟨t5, _, _, _, hs5, is5, rfl, e07.trans e8, ex_at (e57.trans e8) a5, r5, ex5⟩
  · rintro σ' H1 ⟨t, x3, x4, x5, hs1, is1, rfl, e1, ht, r1, ex1⟩
    rw [xlen, List.take_length] at r1 ex1
    exact ⟨_, rfl, k t H1 hs1 is1 e1 ht r1 ex1⟩
end
end Hs
/-! of each name the greatest, by the law -/
namespace Hs
open PySem PySem.Spec PyProof.Rows L2 Hu Evl
abbrev lGreatest : Stmt := topS 115
section
variable {K : PySem.W.Frag} {σ : L2.St} {te tl : TE} {t : TT} {us : List U} {xs : List V}
theorem lc_DLs {w C : Addr} {H : Hp} {a : Addr} {j : Nat} {vs : List Nat} {g : U → Bool} {f : U → U} (h : Ev tl σ H (.ref a)) (hx : H a = some (.lst xs)) (hl : AtL w C H xs us) (hz : us.length ≤ 40000) (hp : ∀ u ∈ us, pln (f u)) (hw : ∀ x, wipe ((wipe σ vs).set j (some x)) vs = wipe σ vs)
    (ht : ∀ (x : V) (u : U) G, u ∈ us → Ex H G → At w C G x u → EvT t ((wipe σ vs).set j (some x)) G (g u)) (he : ∀ (x : V) (u : U) G, u ∈ us → g u = true → Ex H G → At w C G x u → EvD w C te ((wipe σ vs).set j (some x)) G (f u)) :
    EvLD w C (tLc (iList K tl) (gName j) t te vs) σ H ((us.filter g).map f) := fun H0 e Q q => h H0 e _ fun H1 e1 => ⟨a, rfl, ⟨xs, sq_of ((e.trans e1) _ _ hx)⟩, fun Dl hD =>
  lc_list (K := K) (xs := xs) (fun i H' => Ex H1 H' ∧ ∃ ys, H' Dl = some (.lst ys) ∧ ys.length ≤ i ∧ AtL w C H' ys (((us.take i).filter g).map f)) ⟨Ex.new hD, [], upd_same, Nat.le_refl _, .nil⟩ (fun i H' _ p => sq_of (((e.trans e1).trans p.1) _ _ hx)) (fun i x H2 hi p => by
    obtain ⟨p1, ys, p2, p3, p4⟩ := p
    have hlen := AtL.length hl
    have hu : i < us.length := by
      have := (List.getElem?_eq_some_iff.mp hi).1
      omega
    obtain ⟨x', hx', hax⟩ := AtL.get hl (List.getElem?_eq_getElem hu)
    rw [hi] at hx'
    cases hx'
    have e2 := (e.trans e1).trans p1
    refine ⟨hw x, ht x us[i] H2 (List.getElem_mem hu) e2 (ex_at e2 hax) H2 (Ex.refl H2) _ fun H3 e3 => ?_⟩
    have eg := take_filter g (List.getElem?_eq_getElem hu)
    cases hg : g us[i] with
    | false =>
      rw [hg] at eg
      rw [if_neg Bool.false_ne_true, List.append_nil] at eg
      rw [if_neg Bool.false_ne_true]
      exact ⟨p1.trans e3, ys, e3 _ _ p2, by omega, by rw [eg]; exact ex_atl e3 p4⟩
    | true =>
      rw [hg, if_pos rfl] at eg
      rw [if_pos rfl]
      refine he x us[i] H3 (List.getElem_mem hu) hg (e2.trans e3) (ex_at (e2.trans e3) hax) H3 (Ex.refl H3) _ fun v H4 e4 a4 => ⟨ys, e4 _ _ (e3 _ _ p2), ?_, fun q o hq => ?_, ys ++ [v], upd_same, ?_, ?_⟩
      · have := bit_line
        unfold bit at this
        omega
      · rw [upd_ne (ne_of_none hq hD)]
        exact e4 _ _ (e3 _ _ (p1 _ _ hq))
      · rw [List.length_append]
        show ys.length + 1 ≤ i + 1
        omega
      · have nt := tq_upd (w := w) (x := .lst (ys ++ [v])) (e4 _ _ (e3 _ _ p2))
        rw [eg, List.map_append]
        refine AtL.append (atl_tups nt (plnL_all.mpr fun y hy => ?_) (ex_atl (e3.trans e4) p4)) (.cons (at_tups nt (hp _ (List.getElem_mem hu)) a4) .nil)
        obtain ⟨z, hz', rfl⟩ := List.mem_map.mp hy
        exact hp z (List.mem_of_mem_take (List.mem_filter.mp hz').1)) (fun H' p => by
    obtain ⟨p1, ys, p2, p3, p4⟩ := p
    rw [AtL.length hl, List.take_length] at p4
    exact q Dl ys H' (fresh_back e1 hD) (e1.trans p1) p2 p4)⟩
end
section
variable {σ : L2.St} {H : Hp} {tl : TE} {g : TG} {K : PySem.W.Frag} {tu tz : TS} {D : Ends}
theorem q_forLX {R : Addr → List V → Hp → Prop} (made : ∀ Q : VK, (∀ l xs H', R l xs H' → Q (.ref l) H') → tl σ H Q) (Inv : Addr → List V → Nat → L2.St → Hp → Prop) (begin_ : ∀ l xs H', R l xs H' → SqL K H' l xs ∧ Inv l xs 0 σ H') (there : ∀ l xs k s G, k ≤ xs.length → Inv l xs k s G → SqL K G l xs)
    (turn : ∀ l xs k y s G, xs[k]? = some y → Inv l xs k s G → g y s G fun s2 G2 => tu { D with nx := Inv l xs (k + 1), ct := Inv l xs (k + 1), bk := tz D } s2 G2)
    (done : ∀ l xs s G, Inv l xs xs.length s G → tz D s G) : tSeq (tFor (iList K tl) g tu) tz D σ H :=
  made _ fun l xs H' r => ⟨l, rfl, ⟨xs, (begin_ l xs H' r).1⟩, for_list (D := { D with nx := tz D }) (Inv l xs) (begin_ l xs H' r).2 (there l xs) (turn l xs) (done l xs)⟩
end
section
variable {K : PySem.W.Frag} {σ : L2.St} {H : Hp} {ta tb : TE} {w C : Addr}
theorem q_newK {i : Nat} {tz : TS} {D : Ends} (k : ∀ p, H p = none → tz D (σ.set i (some (.ref p))) (upd H p (.dK []))) : tSeq (tAsg tDNewK (gName i)) tz D σ H := k
theorem eld_cat {us1 us2 : List U} (h1 : EvLD w C ta σ H us1) (h2 : EvLD w C tb σ H us2) (hp : plnL (us1 ++ us2)) (hz : us1.length + us2.length ≤ 100000) : EvLD w C (tOp rCat ta tb) σ H (us1 ++ us2) := fun H1 e Q q =>
  h1 H1 e _ fun p xs H2 hp1 e2 x2 l2 => h2 H2 (e.trans e2) _ fun p' ys H3 hp2 e3 x3 l3 => by
    have a1 := AtL.length l2
    have a2 := AtL.length l3
    exact ⟨p, p', xs, ys, rfl, rfl, e3 _ _ x2, x3, sz_of (by omega), fun r hr => q r _ _ (fresh_back (e2.trans e3) hr) ((e2.trans e3).trans (Ex.new hr)) upd_same (ex_atl (Ex.new hr) (AtL.append (ex_atl e3 l2) l3))⟩
/-- tuple(a list of rows with R) -/
theorem ed_tupLX {tl : TE} {R : List U → Prop} (hw : ∃ o, H w = some o) (h : ∀ Q : VK, (∀ p ys us H2, Ex H H2 → H2 p = some (.lst ys) → AtL w C H2 ys us → R us → Q (.ref p) H2) → tl σ H Q) (Q : VK) (q : ∀ v H' us, Ex H H' → At w C H' v (.tup us) → R us → Q v H') : tCB (rTupF K) (tCons tl tNil) σ H Q :=
  h _ fun p ys us H2 e2 h2 l r => ⟨p, ys, rfl, .inl ⟨sq_of h2, newT_data (hw.imp fun o z => e2 _ _ z) l fun v H3 e3 a => q v H3 us (e2.trans e3) a r⟩⟩
theorem eld_one {u : U} (h : EvD w C ta σ H u) : EvLD w C (tLst (tCons ta tNil)) σ H [u] := fun H1 e Q q =>
  h H1 e _ fun v H2 e2 a => ⟨sz_of (by show (1 : Nat) ≤ 100000; decide), fun p hp => q p [v] _ (fresh_back e2 hp) (e2.trans (Ex.new hp)) upd_same (.cons (ex_at (Ex.new hp) a) .nil)⟩
end
/-- what was found of each name -/
structure Gr (w C : Addr) (H : Hp) (kvs : List (L2.Key × V)) (A : List U) : Prop where
  n : kvs.length ≤ A.length
  z : ∀ z, valV kvs (.inr z) = none → ∀ h ∈ A, nmU h ≠ z
  s : ∀ z v, valV kvs (.inr z) = some v → ∃ h ∈ A, nmU h = z ∧ At w C H v h ∧ ∀ g ∈ A, nmU g = z → ltI (stU h) (stU g) = false
theorem Gr.keep {w C : Addr} {H H' : Hp} {kvs : List (L2.Key × V)} {A : List U} (k : ∀ b o, b ≠ w → TQ o → H b = some o → H' b = some o) (g : A.all gNamed = true) (x : Gr w C H kvs A) : Gr w C H' kvs A := ⟨x.n, x.z, fun z v h => by
  obtain ⟨u, hu, n, a, l⟩ := x.s z v h
  exact ⟨u, hu, n, at_tups k (gNamed_pln (List.all_eq_true.mp g u hu)) a, l⟩⟩
theorem Gr.put {w C : Addr} {H : Hp} {kvs : List (L2.Key × V)} {A : List U} {h : U} {v : V} (x : Gr w C H kvs A) (a : At w C H v h) (hm : ∀ g ∈ A, nmU g = nmU h → ltI (stU h) (stU g) = false) : Gr w C H (putK kvs (.inr (nmU h)) v) (A ++ [h]) := by
  refine ⟨?_, fun z hz u hu => ?_, fun z v' hv => ?_⟩
  · have := length_putK kvs (.inr (nmU h)) v
    have := x.n
    rw [List.length_append]
    show _ ≤ A.length + 1
    omega
  · rw [valV_put] at hz
    split at hz
    · cases hz
    · rename_i hne
      rcases List.mem_append.mp hu with hu | hu
      · exact x.z z hz u hu
      · rw [List.mem_singleton.mp hu]
        exact fun e => hne (by rw [e])
  · rw [valV_put] at hv
    split at hv
    · rename_i he
      have ez : z = nmU h := Sum.inr.inj he
      cases hv
      refine ⟨h, List.mem_append_right _ (List.mem_singleton.mpr rfl), ez.symm, a, fun g hg n => ?_⟩
      rcases List.mem_append.mp hg with hg | hg
      · exact hm g hg (n.trans ez)
      · rw [List.mem_singleton.mp hg]
        exact ltI_irr _
    · rename_i hne
      obtain ⟨u, hu, n, au, l⟩ := x.s z v' hv
      refine ⟨u, List.mem_append_left _ hu, n, au, fun g hg n' => ?_⟩
      rcases List.mem_append.mp hg with hg | hg
      · exact l g hg n'
      · rw [List.mem_singleton.mp hg] at n'
        exact absurd (by rw [n']) hne
theorem Gr.stay {w C : Addr} {H : Hp} {kvs : List (L2.Key × V)} {A : List U} {h u : U} {v : V} (x : Gr w C H kvs A) (hv : valV kvs (.inr (nmU h)) = some v) (hu : u ∈ A) (n : nmU u = nmU h) (l : ltI (stU u) (stU h) = false) : Gr w C H kvs (A ++ [h]) := by
  refine ⟨?_, fun z hz u' hu' => ?_, fun z v' hv' => ?_⟩
  · have := x.n
    rw [List.length_append]
    omega
  · rcases List.mem_append.mp hu' with hu' | hu'
    · exact x.z z hz u' hu'
    · rw [List.mem_singleton.mp hu']
      exact fun e => by
        rw [e, hz] at hv
        cases hv
  · obtain ⟨c, hc, nc, ac, lc⟩ := x.s z v' hv'
    refine ⟨c, List.mem_append_left _ hc, nc, ac, fun g hg n' => ?_⟩
    rcases List.mem_append.mp hg with hg | hg
    · exact lc g hg n'
    · rw [List.mem_singleton.mp hg] at n' ⊢
      exact ltI_le (lc u hu (n.trans n')) l
section
variable {P : Program} {wd : World} {K : PySem.W.Frag} {mg : Str → Option Value} {base : Heap} {C : Addr}
abbrev nmGr : List Str := ["table", "mends", "names", "found", "heads", "head", "mend", "name"]
theorem scGr : FnScope nmGr ["table", "mends", "names"] (defScope lGreatest) := ⟨rfl, rfl, rfl, by decide +kernel, rfl, by decide +kernel, by decide +kernel⟩
def spGr (C : Addr) : Sp := fun vs H Q _ => ∃ (x y : V) (N w : Addr) (e : Int) (f : Nat → Bool) (zs : List Str) (js : List (Int × Int)) (Vs hs bs : List U) (pf : Int × Int → Str) (ms : List Mend), vs = [x, y, .ref N] ∧ At w C H x (.tup (tabL e f hs bs)) ∧ At w C H y (.lst (ms.map (mdU pf))) ∧ (∃ l, H w = some (.lst l)) ∧ Vok zs js Vs ∧ HdU Vs hs ∧ (∀ m ∈ ms, HdU Vs m.1) ∧ ms.length ≤ 8 ∧ zs.Pairwise ltZ ∧ zs.length ≤ 3 ∧ H N = some (.lst (zs.map V.str)) ∧
  ∀ v H' gs, Same H H' → At w C H' v (.tup gs) → Top (hs ++ ms.flatMap (·.1)) gs → Q v H'
theorem ok_gr {f : Addr} {fd : FuncData} (F : Fun K "_law_greatest" "_law_greatest" lGreatest f fd) (B : Bt mg) : FnOk P wd K mg base CX0 2 f fd ["table", "mends", "names"] (spGr C) := by
  refine F.ok scGr (fun vs H Q E h => ?_) (fun cdv A outer s H vs Q E hr h => ?_)
  · obtain ⟨x, y, N, w, e, f, zs, js, Vs, hs, bs, pf, ms, rfl, _⟩ := h
    rfl
  obtain ⟨x, y, N, w, e, f, zs, js, Vs, hs, bs, pf, ms, rfl, hx, hy, hl, ok, hd, hm, m8, zp, z3, hN, k⟩ := h
  have u0 := room_h1 hr
  refine ⟨_, pss_cons (ps_set (i := 3) scGr.nd rfl (.inr rfl) pe_dnewK)
    (pss_cons (ps_for PassesOwn.never rfl (pi_list (pe_op op_cat (pe_lst (pa_cons (pe_ix (show IxR _ (rIxT K) from ix_tup) (pv 0) pe_int (fun _ _ => rfl)) pa_nil)) (pe_lc (own := [("mend", 6)]) (g := gName 6) (tt := tYes) rfl scGr.nd (pi_list (pv 1)) (blkOk_by (N := nmGr) (sc := defScope lGreatest) (by decide +kernel))
        (fun _ _ _ _ _ => pg_name (i := 6) scGr.nd rfl (Or.inl rfl)) (fun _ _ _ _ _ => pts_nil) (fun _ _ _ _ _ => pe_ix (show IxR _ (rIxT K) from ix_tup) (pv 6) pe_int (fun _ _ => rfl))))) (pg_name (i := 4) scGr.nd rfl (Or.inl rfl))
      (pss_one (ps_for PassesOwn.never rfl (pi_tup (pv 4)) (pg_name (i := 5) scGr.nd rfl (Or.inl rfl))
        (pss_one (ps_if (PW.pt (pw_or (pt_cmp (pc_dnotin u0 (pe_ix (show IxR _ (rIxT K) from ix_tup) (pv 5) pe_int (fun _ _ => rfl)) (pv 3)) (by rfl)) (pw_or1 (pt_cmpR (show OpR _ _ (Hk.rLtK K) from Hk.op_ltK (Nat.lt_of_le_of_lt (Nat.le_add_right _ 64) (room_hu hr))) (pe_ix (show IxR _ (rIxT K) from ix_tup) (pe_dget u0 (pv 3) (pe_ix (show IxR _ (rIxT K) from ix_tup) (pv 5) pe_int (fun _ _ => rfl)) (fun _ _ => rfl)) pe_int (fun _ _ => rfl)) (pe_ix (show IxR _ (rIxT K) from ix_tup) (pv 5) pe_int (fun _ _ => rfl)) (nomark _)))))
          (pss_one (ps_asg (pv 5) (pg_sub (pv 3) (pe_ix (show IxR _ (rIxT K) from ix_tup) (pv 5) pe_int (fun _ _ => rfl)) (set_dict u0)))) pss_nil)))))
    (pss_one (ps_ret (pe_callTy call_tupF (by rfl) B.tup boot_tuple' (pa_cons (pe_lc (own := [("name", 7)]) (g := gName 7) rfl scGr.nd (pi_list (pv 2)) (blkOk_by (N := nmGr) (sc := defScope lGreatest) (by decide +kernel))
        (fun _ _ _ _ _ => pg_name (i := 7) scGr.nd rfl (Or.inl rfl)) (fun _ _ _ _ _ => pts_one (pt_cmp (pc_din u0 (pv 7) (pv 3)) (by rfl))) (fun _ _ _ _ _ => pe_dget u0 (pv 3) (pv 7) (fun _ _ => rfl))) pa_nil))))), ?_⟩
  refine q_newK fun F0 hF => ?_
  have hx1 : At w C (upd H F0 (.dK [])) x (.tup (tabL e f hs bs)) := ex_at (Ex.new hF) hx
  have e0 : Ex H (upd H F0 (.dK [])) := Ex.new hF
  have hF1 : upd H F0 (.dK []) F0 = some (.dK []) := upd_same
  obtain ⟨p, ys, rfl, hp0, np, lp⟩ := at_lst (ex_at e0 hy)
  have hl1 : ∃ l, upd H F0 (.dK []) w = some (.lst l) := hl.imp fun l h => e0 _ _ h
  generalize upd H F0 (.dK []) = H1 at hx1 e0 hF1 hp0 lp hl1 ⊢
  have hall : ∀ us : List U, HdU Vs us → us.all gNamed = true := fun us h => h.all ok
  have alls : ∀ us ∈ hs :: ms.map (·.1), HdU Vs us := fun us hus => by
    rcases List.mem_cons.mp hus with rfl | hus
    · exact hd
    · obtain ⟨m, hm', rfl⟩ := List.mem_map.mp hus
      exact hm m hm'
  have pls : plnL ((hs :: ms.map (·.1)).map U.tup) := plnL_all.mpr fun u hu => by
    obtain ⟨us, hus, rfl⟩ := List.mem_map.mp hu
    exact plnL_all.mpr fun h hh => gNamed_pln (ok.g h ((alls us hus).m h hh))
  have emap : ((ms.map (mdU pf)).filter fun _ => true).map (fun u => nth u 1) = (ms.map (·.1)).map U.tup := by
    rw [List.filter_eq_self.mpr (fun _ _ => rfl), List.map_map, List.map_map]
    rfl
  refine q_forLX (K := K) (σ := [some x, some (V.ref p), some (.ref N), some (.ref F0), none, none, none, none]) (R := fun l xs H' => Ex H1 H' ∧ H' l = some (.lst xs) ∧ AtL w C H' xs ((hs :: ms.map (·.1)).map U.tup)) (fun Q q => ?_)
    (fun l xs k s G => ∃ (x4 x5 : Option V) (kvs : List (L2.Key × V)), s = [some x, some (V.ref p), some (.ref N), some (.ref F0), x4, x5, none, none] ∧ Ex H G ∧ G l = some (.lst xs) ∧ AtL w C G xs ((hs :: ms.map (·.1)).map U.tup) ∧ G F0 = some (.dK kvs) ∧ Gr w C G kvs ((hs :: ms.map (·.1)).take k).flatten)
    (fun l xs G r => ⟨sq_of r.2.1, none, none, [], rfl, e0.trans r.1, r.2.1, r.2.2, r.1 _ _ hF1, ⟨Nat.le_refl _, fun z _ h hh => by simp at hh, fun z v h => by cases h⟩⟩) (fun l xs k s G _ ⟨_, _, _, _, _, h, _⟩ => sq_of h) ?_ ?_
  · have hcat := eld_cat (ta := tLst (tCons (tOp (rIxT K) (tVar 0) (tC (.int 4))) tNil)) (tb := tLc (iList K (tVar 1)) (gName 6) tYes (tOp (rIxT K) (tVar 6) (tC (.int 1))) [6]) (w := w) (C := C) (σ := [some x, some (V.ref p), some (.ref N), some (.ref F0), none, none, none, none]) (H := H1) (us1 := [U.tup hs]) (us2 := (ms.map (·.1)).map U.tup)
      (eld_one (ed_item (K := K) (te := tVar 0) (us := tabL e f hs bs) (ev_var rfl) hx1 4 (by show 4 < 10; decide))) (by
        have := lc_DLs (K := K) (w := w) (C := C) (σ := [some x, some (V.ref p), some (.ref N), some (.ref F0), none, none, none, none]) (H := H1) (te := tOp (rIxT K) (tVar 6) (tC (.int 1))) (t := tYes) (tl := tVar 1) (j := 6) (vs := [6]) (g := fun _ => true) (f := fun u => nth u 1) (ev_var rfl) hp0 lp (by rw [List.length_map]; omega) (fun u hu => by
          obtain ⟨m, hm', rfl⟩ := List.mem_map.mp hu
          exact plnL_all.mpr fun h hh => gNamed_pln (ok.g h ((hm m hm').m h hh))) (fun _ => rfl) (fun _ _ _ _ _ _ => et_yes) (fun y u G hu _ eg ay => by
          obtain ⟨m, hm', rfl⟩ := List.mem_map.mp hu
          exact ed_item (K := K) (te := tVar 6) (us := [.str "mend", .tup m.1, .tup (blks pf m.2)]) (ev_var rfl) ay 1 (by show 1 < 3; decide))
        rw [emap] at this
        exact this) (by exact pls) (by rw [List.length_map, List.length_map]; show 1 + ms.length ≤ _; omega)
    exact hcat H1 (Ex.refl H1) Q fun l xs H2 hl2 e2 h2 l2 => q l xs H2 ⟨e2, h2, l2⟩
  · rintro l xs i y σ' G hi ⟨x4, x5, kvs, rfl, eG, hG, lG, fG, gr⟩
    have hi' : i < (hs :: ms.map (·.1)).length := by
      have := (List.getElem?_eq_some_iff.mp hi).1
      have := AtL.length lG
      rw [List.length_map] at this
      omega
    have hg := List.getElem?_eq_getElem hi'
    have hgU : ((hs :: ms.map (·.1)).map U.tup)[i]? = some (.tup (hs :: ms.map (·.1))[i]) := by rw [List.getElem?_map, hg]; rfl
    obtain ⟨y', hy', ay⟩ := AtL.get lG hgU
    rw [hi] at hy'
    cases hy'
    have tk := take_snoc' hg
    have hus := alls _ (List.getElem_mem hi')
    generalize (hs :: ms.map (·.1))[i] = us at hg hgU ay tk hus
    have i9 : i ≤ 8 := by
      rw [List.length_cons, List.length_map] at hi'
      omega
    have hA : ∀ h ∈ ((hs :: ms.map (·.1)).take i).flatten, h ∈ Vs := fun h hh => by
      obtain ⟨us', hus', hh⟩ := List.mem_flatten.mp hh
      exact (alls us' (List.mem_of_mem_take hus')).m h hh
    have hn : ((hs :: ms.map (·.1)).take i).flatten.length ≤ 3 * i := by
      have gen : ∀ L : List (List U), (∀ us ∈ L, us.length ≤ 3) → L.flatten.length ≤ 3 * L.length := fun L => by
        induction L with
        | nil => exact fun _ => Nat.le_refl _
        | cons c r ih =>
          intro h
          have h1 := h c List.mem_cons_self
          have h2 := ih fun us hus => h us (List.mem_cons_of_mem _ hus)
          rw [List.flatten_cons, List.length_append, List.length_cons]
          omega
      refine Nat.le_trans (gen _ fun us hus => (alls us (List.mem_of_mem_take hus)).n) ?_
      rw [List.length_take]
      omega
    rw [tk, List.flatten_append]
    have efl : ([us] : List (List U)).flatten = us := by simp
    rw [efl]
    generalize ((hs :: ms.map (·.1)).take i).flatten = A at gr hA hn ⊢
    obtain ⟨a, hv, rfl, ha, na, la⟩ := at_tup ay
    have hlen := AtL.length la
    have us3 := hus.n
    have nd : ∀ {G2 : Hp}, (∀ b o, b ≠ F0 → G b = some o → G2 b = some o) → ∀ b o, b ≠ w → TQ o → G b = some o → G2 b = some o := fun {G2} kp b o _ tq q => kp b o (fun e => by
      rw [e, fG] at q
      cases q
      obtain ⟨zs', q | ⟨c, q⟩⟩ := tq <;> cases q) q
    refine s_forT (K := K) (xs := hv) (σ := [some x, some (V.ref p), some (.ref N), some (.ref F0), some (.ref a), x5, none, none]) (ev_var rfl) (Tu.st ha) (fun j σ2 G2 => ∃ (x5 : Option V) (kvs : List (L2.Key × V)), σ2 = [some x, some (V.ref p), some (.ref N), some (.ref F0), some (.ref a), x5, none, none] ∧ Ex H G2 ∧ (∀ b o, b ≠ F0 → G b = some o → G2 b = some o) ∧ G2 F0 = some (.dK kvs) ∧ Gr w C G2 kvs (A ++ us.take j))
      (fun G2 e2 => ⟨x5, kvs, rfl, eG.trans e2, fun b o _ h => e2 _ _ h, e2 _ _ fG, by rw [List.take_zero, List.append_nil]; exact gr.keep (fun b o _ _ h => e2 _ _ h) (List.all_eq_true.mpr fun u hu => ok.g u (hA u hu))⟩) (fun j σ2 G2 _ ⟨_, _, _, _, kp, _⟩ => Tu.st (tu_tups (nd kp) na ha)) ?_ ?_
    · rintro j y σ2 G2 hj ⟨x5, kvs, rfl, e2, kp, f2, gr2⟩
      have hju : j < us.length := by
        have := (List.getElem?_eq_some_iff.mp hj).1
        omega
      have hgj := List.getElem?_eq_getElem hju
      obtain ⟨y', hy', ayh⟩ := AtL.get la hgj
      rw [hj] at hy'
      cases hy'
      have tkj := take_snoc' hgj
      have hin := hus.m _ (List.getElem_mem hju)
      generalize us[j] = h at hgj ayh tkj hin
      have gh := ok.g h hin
      have hAj : ∀ u ∈ A ++ us.take j, u ∈ Vs := fun u hu => by
        rcases List.mem_append.mp hu with q | q
        · exact hA u q
        · exact hus.m u (List.mem_of_mem_take q)
      have nAj : (A ++ us.take j).length ≤ 100 := by
        rw [List.length_append, List.length_take]
        omega
      have ah : At w C G2 y h := at_tups (nd kp) (gNamed_pln gh) ayh
      have eA : A ++ us.take (j + 1) = (A ++ us.take j) ++ [h] := by rw [tkj, List.append_assoc]
      rw [eA]
      have allA : (A ++ us.take j).all gNamed = true := List.all_eq_true.mpr fun u hu => ok.g u (hAj u hu)
      have allB : (A ++ us.take j ++ [h]).all gNamed = true := List.all_eq_true.mpr fun u hu => by
        rcases List.mem_append.mp hu with q | q
        · exact ok.g u (hAj u q)
        · rw [List.mem_singleton.mp q]
          exact gh
      generalize A ++ us.take j = B at gr2 hAj nAj allA allB
      have g3 : gTO 3 h = true := (and2 (a := gTO 3 h) (b := gNam (nth h 0) && (gStamp (nth h 1) && gRow (nth h 2))) gh).1
      obtain ⟨y0, ev0, a0⟩ := ev_nth (K := K) (m := 3) (te := tVar 5) (k := 0) (σ := [some x, some (V.ref p), some (.ref N), some (.ref F0), some (.ref a), some y, none, none]) (ev_var rfl) ah g3 (by decide)
      obtain ⟨y1, ev1, a1⟩ := ev_nth (K := K) (m := 3) (te := tVar 5) (k := 1) (σ := [some x, some (V.ref p), some (.ref N), some (.ref F0), some (.ref a), some y, none, none]) (ev_var rfl) ah g3 (by decide)
      obtain ⟨z, s1, r1, eh, gs, _⟩ := gNamed_is gh
      obtain ⟨si, sj, es⟩ := gStamp_two gs
      have en : nmU h = z := by rw [eh]; rfl
      have est : stU h = (si, sj) := by rw [eh, es]; rfl
      have a0' : At w C G2 y0 (.str z) := by
        have := a0
        rw [eh] at this
        exact this
      have a1' : At w C G2 y1 (.tup [.int si, .int sj]) := by
        have := a1
        rw [eh, es] at this
        exact this
      obtain rfl := at_str a0'
      obtain ⟨p1, rfl, hp1⟩ := two_ints a1'
      show tIfS _ _ tNext _ [some x, some (V.ref p), some (.ref N), some (.ref F0), some (.ref a), some y, none, none] G2
      have put : (∀ g ∈ B, nmU g = nmU h → ltI (stU h) (stU g) = false) → ∀ G4, Ex G2 G4 → ∃ (x5 : Option V) (kvs' : List (L2.Key × V)), [some x, some (V.ref p), some (.ref N), some (.ref F0), some (.ref a), some y, none, none] = [some x, some (V.ref p), some (.ref N), some (.ref F0), some (.ref a), x5, none, none] ∧ Ex H (upd G4 F0 (.dK (putK kvs (.inr z) y))) ∧ (∀ b o, b ≠ F0 → G b = some o → upd G4 F0 (.dK (putK kvs (.inr z) y)) b = some o) ∧ upd G4 F0 (.dK (putK kvs (.inr z) y)) F0 = some (.dK kvs') ∧ Gr w C (upd G4 F0 (.dK (putK kvs (.inr z) y))) kvs' (B ++ [h]) := fun hm' G4 e4 => by
        have f4 := e4 _ _ f2
        refine ⟨_, _, rfl, Ex.mut (e2.trans e4) hF, fun b o nb q => ?_, upd_same, ?_⟩
        · rw [upd_ne nb]
          exact e4 _ _ (kp b o nb q)
        · have g1 : Gr w C G4 (putK kvs (.inr z) y) (B ++ [h]) := by
            have := (gr2.keep (H' := G4) (fun b o _ _ q => e4 _ _ q) allA).put (v := y) (ex_at e4 ah) hm'
            rwa [en] at this
          refine g1.keep (fun b o _ tq q => ?_) allB
          rw [upd_ne (fun e => by
            rw [e, f4] at q
            cases q
            obtain ⟨zs', q | ⟨c, q⟩⟩ := tq <;> cases q)]
          exact q
      have stay : ∀ {v u}, valV kvs (.inr z) = some v → u ∈ B → nmU u = z → ltI (stU u) (stU h) = false → ∀ G4, Ex G2 G4 → ∃ (x5 : Option V) (kvs' : List (L2.Key × V)), [some x, some (V.ref p), some (.ref N), some (.ref F0), some (.ref a), some y, none, none] = [some x, some (V.ref p), some (.ref N), some (.ref F0), some (.ref a), x5, none, none] ∧ Ex H G4 ∧ (∀ b o, b ≠ F0 → G b = some o → G4 b = some o) ∧ G4 F0 = some (.dK kvs') ∧ Gr w C G4 kvs' (B ++ [h]) := fun {v u} hv' hu hn' l' G4 e4 =>
        ⟨_, kvs, rfl, e2.trans e4, fun b o nb q => e4 _ _ (kp b o nb q), e4 _ _ f2, (gr2.stay (h := h) (v := v) (by rw [en]; exact hv') hu (hn'.trans en.symm) l').keep (fun b o _ _ q => e4 _ _ q) allB⟩
      have t1 : ∀ o, valV kvs (.inr z) = o → EvT (tTest (tDNotIn (tOp (rIxT K) (tVar 5) (tC (.int 0))) (tVar 3))) [some x, some (V.ref p), some (.ref N), some (.ref F0), some (.ref a), some y, none, none] G2 (!o.isSome) := fun o ho G3 e3 Q q =>
        ev0 G3 e3 _ fun G4 e4 => ⟨_, rfl, F0, o, rfl, by rw [← ho]; exact DGet.k (k := .inr z) ((e3.trans e4) _ _ f2), _, rfl, q G4 e4⟩
      cases ho : valV kvs (.inr z) with
      | none =>
        refine s_when (b := true) (et_is (et_or (a := true) (b := true) (t1 none ho) fun q => by cases q) rfl) (fun _ G3 e3 => ?_) (fun q => by cases q)
        refine ⟨_, rfl, _, rfl, ev0 G3 e3 _ fun G4 e4 => ⟨F0, _, rfl, DPut.k (k := .inr z) ((e3.trans e4) _ _ f2) (sz_lt (by have := gr2.n; omega)), put (fun g hg n => absurd (n.trans en) (gr2.z z ho g hg)) G4 (e3.trans e4)⟩⟩
      | some v =>
        obtain ⟨u, hu, hn', au, gu⟩ := gr2.s z v ho
        have gnu := List.all_eq_true.mp allA u hu
        obtain ⟨uz, us1, ur1, eu, gus, _⟩ := gNamed_is gnu
        obtain ⟨ui, uj, eus⟩ := gStamp_two gus
        have estu : stU u = (ui, uj) := by rw [eu, eus]; rfl
        have evF : Ev (tDGet (tVar 3) (tOp (rIxT K) (tVar 5) (tC (.int 0)))) [some x, some (V.ref p), some (.ref N), some (.ref F0), some (.ref a), some y, none, none] G2 v := fun G3 e3 Q q =>
          ⟨_, rfl, ev0 G3 e3 _ fun G4 e4 => ⟨F0, v, rfl, by rw [← ho]; exact DGet.k (k := .inr z) ((e3.trans e4) _ _ f2), q G4 e4⟩⟩
        obtain ⟨v1, evv, av1⟩ := ev_nth (K := K) (m := 3) (te := tDGet (tVar 3) (tOp (rIxT K) (tVar 5) (tC (.int 0)))) (k := 1) (σ := [some x, some (V.ref p), some (.ref N), some (.ref F0), some (.ref a), some y, none, none]) evF au (and2 (a := gTO 3 u) (b := gNam (nth u 0) && (gStamp (nth u 1) && gRow (nth u 2))) gnu).1 (by decide)
        have av1' : At w C G2 v1 (.tup [.int ui, .int uj]) := by
          have := av1
          rw [eu, eus] at this
          exact this
        obtain ⟨p2, rfl, hp2⟩ := two_ints av1'
        refine s_when (b := ltI (stU u) (stU h)) (et_is (et_or (a := false) (t1 (some v) ho) fun _ => et_test (ev_op evv ev1 fun G3 e3 Q q => ⟨p2, p1, kP (ui, uj), kP (si, sj), rfl, rfl, st_of (e3 _ _ hp2), st_of (e3 _ _ hp1), rfl, q G3 (Ex.refl G3)⟩)) (by rw [ltK_ltI, estu, est]; rfl)) (fun q G3 e3 => ?_) (fun q G3 e3 => stay ho hu hn' q G3 e3)
        refine ⟨_, rfl, _, rfl, ev0 G3 e3 _ fun G4 e4 => ⟨F0, _, rfl, DPut.k (k := .inr z) ((e3.trans e4) _ _ f2) (sz_lt (by have := gr2.n; omega)), put (fun g hg n => ltI_up q (gu g hg (n.trans en))) G4 (e3.trans e4)⟩⟩
    · rintro σ2 G2 ⟨x5', kvs', rfl, e2, kp, f2, gr2⟩
      rw [hlen, List.take_length] at gr2
      have nl : l ≠ F0 := fun q => by
        rw [q, fG] at hG
        cases hG
      refine ⟨_, x5', kvs', rfl, e2, kp _ _ nl hG, ?_, f2, gr2⟩
      exact atl_tups (nd kp) pls lG
  · rintro l xs σ' G ⟨x4, x5, kvs, rfl, eG, hG, lG, fG, gr⟩
    have hlen := AtL.length lG
    rw [List.length_map] at hlen
    rw [hlen, List.take_length] at gr
    have efl : (hs :: ms.map (·.1)).flatten = hs ++ ms.flatMap (·.1) := by
      rw [List.flatten_cons, List.flatMap_def]
    rw [efl] at gr
    have hA : ∀ h ∈ hs ++ ms.flatMap (·.1), h ∈ Vs := fun h hh => by
      rcases List.mem_append.mp hh with q | q
      · exact hd.m h q
      · obtain ⟨m, hm', q⟩ := List.mem_flatMap.mp q
        exact (hm m hm').m h q
    generalize hs ++ ms.flatMap (·.1) = A at gr hA k
    refine ret1 ?_
    refine (ed_tupLX (K := K) (w := w) (C := C) (H := G) (R := fun us => Top A us) (hl.elim fun l h => ⟨_, eG _ _ h⟩) (tl := tLc (iList K (tVar 2)) (gName 7) (tTest (tDIn (tVar 7) (tVar 3))) (tDGet (tVar 3) (tVar 7)) [7]) (σ := [some x, some (V.ref p), some (.ref N), some (.ref F0), x4, x5, none, none]) fun Q q => ?_) _ fun v H' us e' a' t' => k v H' us (eG.trans e') a' t'
    refine ⟨_, rfl, N, rfl, ⟨zs.map V.str, sq_of (eG _ _ hN)⟩, fun Dl hDl => ?_⟩
    refine lc_list (K := K) (xs := zs.map V.str) (fun n G' => Ex G G' ∧ ∃ vs us, G' Dl = some (.lst vs) ∧ AtL w C G' vs us ∧ us.length ≤ n ∧ (us.map nmU).Sublist (zs.take n) ∧ (∀ u ∈ us, u ∈ A ∧ ∀ g ∈ A, nmU g = nmU u → ltI (stU u) (stU g) = false) ∧ ∀ g ∈ A, nmU g ∈ zs.take n → ∃ t ∈ us, nmU t = nmU g)
      ⟨Ex.new hDl, [], [], upd_same, .nil, Nat.le_refl _, by simp, fun u hu => (by cases hu), fun g hg hz => by simp at hz⟩ (fun n G' _ p => sq_of (p.1 _ _ (eG _ _ hN))) ?_ ?_
    · rintro n y G1 hy' ⟨e1, vs, us, hvs, al, ln, sb, mu, cu⟩
      rw [List.getElem?_map] at hy'
      cases hzi : zs[n]? with
      | none => rw [hzi] at hy'; cases hy'
      | some z =>
        rw [hzi] at hy'
        cases hy'
        have hn : n < zs.length := (List.getElem?_eq_some_iff.mp hzi).1
        have tk := take_snoc' hzi
        have pu : ∀ u ∈ us, pln u := fun u hu => gNamed_pln (ok.g u (hA u (mu u hu).1))
        refine ⟨rfl, ?_⟩
        refine ⟨_, rfl, _, rfl, F0, valV kvs (.inr z), rfl, DGet.k (k := .inr z) (e1 _ _ fG), _, rfl, ?_⟩
        cases ho : valV kvs (.inr z) with
        | none =>
          refine ⟨e1, vs, us, hvs, al, Nat.le_succ_of_le ln, by rw [tk]; exact sb.trans (List.sublist_append_left _ _), mu, fun g hg hz => ?_⟩
          rw [tk] at hz
          rcases List.mem_append.mp hz with q | q
          · exact cu g hg q
          · exact absurd (List.mem_singleton.mp q) (gr.z z ho g hg)
        | some v =>
          obtain ⟨u, hu, hn', au, gu⟩ := gr.s z v ho
          have hpu := gNamed_pln (ok.g u (hA u hu))
          refine ⟨_, rfl, _, rfl, F0, v, rfl, by rw [← ho]; exact DGet.k (k := .inr z) (e1 _ _ fG), vs, hvs, sz_lt (by have := AtL.length al; omega), fun b o hb => ?_, vs ++ [v], us ++ [u], upd_same, ?_, by rw [List.length_append]; show us.length + 1 ≤ n + 1; omega, ?_, ?_, ?_⟩
          · rw [upd_ne (ne_of_none hb hDl)]
            exact e1 _ _ hb
          · exact atl_put hvs (fun y hy => by
              rcases List.mem_append.mp hy with hy | hy
              · exact pu y hy
              · rw [List.mem_singleton.mp hy]
                exact hpu) (AtL.snoc al (ex_at e1 au))
          · rw [tk, List.map_append]
            exact sb.append (by rw [List.map_singleton, hn']; exact List.Sublist.refl _)
          · intro y hy
            rcases List.mem_append.mp hy with hy | hy
            · exact mu y hy
            · rw [List.mem_singleton.mp hy]
              exact ⟨hu, fun g hg n => gu g hg (n.trans hn')⟩
          · intro g hg hz
            rw [tk] at hz
            rcases List.mem_append.mp hz with q | q
            · obtain ⟨t, ht, n⟩ := cu g hg q
              exact ⟨t, List.mem_append_left _ ht, n⟩
            · exact ⟨u, List.mem_append_right _ (List.mem_singleton.mpr rfl), hn'.trans (List.mem_singleton.mp q).symm⟩
    · rintro G1 ⟨e1, vs, us, hvs, al, ln, sb, mu, cu⟩
      rw [List.length_map, List.take_length] at sb cu
      refine q Dl vs us G1 e1 hvs al ⟨srtN_sub sb zp, fun u hu => (mu u hu).1, fun h hh => ?_⟩
      obtain ⟨t, ht, n⟩ := cu h hh (ok.nm h (hA h hh))
      exact ⟨t, ht, n, (mu t ht).2 h hh n.symm⟩
end
end Hs
/-! all blocks, by the law -/
namespace Hs
open PySem PySem.Spec PyProof.Rows L2 Hu Evl
abbrev lAllB : Stmt := topS 116
abbrev lFits : Stmt := topS 117
/-- blocks of ids: their pieces may be any -/
structure Bl8 (pf : Int × Int → Str) (js is : List (Int × Int)) : Prop where
  i : ∀ j ∈ is, gId (idV j) = true
  n : is.length ≤ 10
section
variable {K : PySem.W.Frag} {σ : L2.St} {H : Hp} {te : TE} {w C : Addr}
/-- [block[0] for block in ..] -/
theorem lc_ids {x : V} {pf : Int × Int → Str} {js is : List (Int × Int)} {j : Nat} (b : Bl8 pf js is) (h : Ev te σ H x) (a : At w C H x (.tup (blks pf is))) (hw : ∀ x, wipe ((wipe σ [j]).set j (some x)) [j] = wipe σ [j]) (hv : ∀ x, ((wipe σ [j]).set j (some x))[j]? = some (some x)) :
    ∀ H1, Ex H H1 → ∀ Q : VK, (∀ p ys H2, H1 p = none → Ex H1 H2 → H2 p = some (.lst ys) → P2 H2 ys is → Q (.ref p) H2) → tLc (iTup K te) (gName j) tYes (tOp (rIxT K) (tVar j) (tC (.int 0))) [j] σ H1 Q := fun H1 e1 Q q => by
  obtain ⟨p, xs, rfl, hp, np, l⟩ := at_tup a
  refine (lc_D (K := K) (w := w) (C := C) (σ := σ) (H := H) (te := tOp (rIxT K) (tVar j) (tC (.int 0))) (t := tYes) (tl := te) (j := j) (vs := [j]) (g := fun _ => true) (f := fun u => nth u 0) h hp l (by unfold blks; rw [List.length_map]; have := b.n; omega) (fun u hu => ?_) hw (fun _ _ _ _ _ _ => et_yes) (fun y u G hu _ eg ay => ?_)) H1 e1 Q fun p ys H2 hp2 e2 h2 l2 => ?_
  · obtain ⟨i, hi, rfl⟩ := List.mem_map.mp hu
    exact gId_pln (b.i i hi)
  · obtain ⟨i, hi, rfl⟩ := List.mem_map.mp hu
    exact ed_item (K := K) (te := tVar j) (us := [.tup [.int i.1, .int i.2], .str (pf i)]) (ev_var (hv y)) ay 0 (by show 0 < 2; decide)
  · have em : ((blks pf is).filter fun _ => true).map (fun u => nth u 0) = is.map idV := by
      rw [List.filter_eq_self.mpr (fun _ _ => rfl)]
      unfold blks
      rw [List.map_map]
      rfl
    rw [em] at l2
    have := row_p2 l2 (List.all_eq_true.mpr fun u hu => by
      obtain ⟨i, hi, rfl⟩ := List.mem_map.mp hu
      exact b.i i hi)
    rw [List.map_map] at this
    have e3 : is.map (idP ∘ idV) = is := by
      show is.map (fun j => (j.1, j.2)) = is
      exact List.map_id is
    rw [e3] at this
    exact q p ys H2 hp2 e2 h2 this
end
section
variable {P : Program} {wd : World} {K : PySem.W.Frag} {mg : Str → Option Value} {base : Heap} {C : Addr}
abbrev nmAb : List Str := ["table", "mends", "ids", "pieces", "there", "mend", "block", "one"]
theorem scAb : FnScope nmAb ["table", "mends", "ids", "pieces"] (defScope lAllB) := ⟨rfl, rfl, rfl, by decide +kernel, rfl, by decide +kernel, by decide +kernel⟩
def spAb (C : Addr) : Sp := fun vs H Q _ => ∃ (x y : V) (I Dp w : Addr) (e : Int) (f : Nat → Bool) (xs : List V) (js is : List (Int × Int)) (hs : List U) (pf : Int × Int → Str) (ms : List Mend), vs = [x, y, .ref I, .ref Dp] ∧ At w C H x (.tup (tabL e f hs (blks pf is))) ∧ At w C H y (.lst (ms.map (mdU pf))) ∧ (∃ l, H w = some (.lst l)) ∧ Bl8 pf js is ∧ (∀ m ∈ ms, Bl8 pf js m.2) ∧ ms.length ≤ 8 ∧ H I = some (.lst xs) ∧ P2 H xs js ∧ js.length ≤ 10 ∧ Pd w H Dp js pf ∧
  ∀ v H', Same H H' → At w C H' v (.tup (blks pf (js.filter fun j => decide (j ∈ is ++ ms.flatMap (·.2))))) → Q v H'
theorem ok_ab {f : Addr} {fd : FuncData} (F : Fun K "_law_all_blocks" "_law_all_blocks" lAllB f fd) (B : Bt mg) : FnOk P wd K mg base CX0 2 f fd ["table", "mends", "ids", "pieces"] (spAb C) := by
  refine F.ok scAb (fun vs H Q E h => ?_) (fun cdv A outer s H vs Q E hr h => ?_)
  · obtain ⟨x, y, I, Dp, w, e, f, xs, js, is, hs, pf, ms, rfl, _⟩ := h
    rfl
  obtain ⟨x, y, I, Dp, w, e, f, xs, js, is, hs, pf, ms, rfl, hx, hy, hl, b0, bm, m8, hI, hp, j10, pd, k⟩ := h
  have u0 := room_h1 hr
  have u65 : ∀ {k : Nat} {A : Around}, Room k A → A.units + 65 < cLine := fun {k A} r => by
    have := r.un
    omega
  refine ⟨_, pss_cons (ps_set (i := 4) scAb.nd rfl (.inr rfl) (pe_lc (own := [("block", 6)]) (g := gName 6) (tt := tYes) rfl scAb.nd (pi_tup (pe_ix (show IxR _ (rIxT K) from ix_tup) (pv 0) pe_int (fun _ _ => rfl))) (blkOk_by (N := nmAb) (sc := defScope lAllB) (by decide +kernel))
        (fun _ _ _ _ _ => pg_name (i := 6) scAb.nd rfl (Or.inl rfl)) (fun _ _ _ _ _ => pts_nil) (fun _ _ _ _ _ => pe_ix (show IxR _ (rIxT K) from ix_tup) (pv 6) pe_int (fun _ _ => rfl))))
    (pss_cons (ps_for PassesOwn.never rfl (pi_list (pv 1)) (pg_name (i := 5) scAb.nd rfl (Or.inl rfl))
      (pss_one (ps_set (i := 4) scAb.nd rfl (.inr rfl) (pe_op op_cat (pv 4) (pe_lc (own := [("block", 6)]) (g := gName 6) (tt := tYes) rfl scAb.nd (pi_tup (pe_ix (show IxR _ (rIxT K) from ix_tup) (pv 5) pe_int (fun _ _ => rfl))) (blkOk_by (N := nmAb) (sc := defScope lAllB) (by decide +kernel))
        (fun _ _ _ _ _ => pg_name (i := 6) scAb.nd rfl (Or.inl rfl)) (fun _ _ _ _ _ => pts_nil) (fun _ _ _ _ _ => pe_ix (show IxR _ (rIxT K) from ix_tup) (pv 6) pe_int (fun _ _ => rfl)))))))
    (pss_one (ps_ret (pe_callTy call_tupF (by rfl) B.tup boot_tuple' (pa_cons (pe_lc (own := [("one", 7)]) (g := gName 7) rfl scAb.nd (pi_list (pv 2)) (blkOk_by (N := nmAb) (sc := defScope lAllB) (by decide +kernel))
        (fun _ _ _ _ _ => pg_name (i := 7) scAb.nd rfl (Or.inl rfl)) (fun _ _ _ _ _ => pts_one (pt_cmpR (show OpR _ _ (rInD K) from op_inD (u65 hr)) (pv 7) (pv 4) (by rfl))) (fun _ _ _ _ _ => pe_tupF (pa_cons (pv 7) (pa_cons (pe_dget u0 (pv 3) (pv 7) (fun _ _ => rfl)) pa_nil)))) pa_nil))))), ?_⟩
  obtain ⟨y5, ev5, a5⟩ : ∃ y5, Ev (tOp (rIxT K) (tVar 0) (tC (.int 5))) [some x, some y, some (V.ref I), some (.ref Dp), none, none, none, none] H y5 ∧ At w C H y5 (.tup (blks pf is)) := by
    obtain ⟨y5, e5, a5⟩ := ev_nth (K := K) (m := 10) (u := .tup (tabL e f hs (blks pf is))) (te := tVar 0) (k := 5) (σ := [some x, some y, some (V.ref I), some (.ref Dp), none, none, none, none]) (ev_var rfl) hx (show decide (10 = 10) = true from rfl) (by decide)
    exact ⟨y5, e5, a5⟩
  refine asgQ (lc_ids b0 ev5 a5 (fun _ => rfl) (fun _ => rfl) H (Ex.refl H) _ fun T ys H1 hT e1 h1 p1 => ?_)
  obtain ⟨p, ms', rfl, hp0, np, lp⟩ := at_lst (ex_at e1 hy)
  have mlen := AtL.length lp
  rw [List.length_map] at mlen
  have y1 := p1.len
  have hn0 := b0.n
  refine q_forL (K := K) (σ := [some x, some (.ref p), some (V.ref I), some (.ref Dp), some (.ref T), none, none, none]) (xs := ms') (ev_var rfl) (sq_of hp0) (fun i σ' H' => ∃ (T : Addr) (x5 : Option V) (vs : List V), σ' = [some x, some (.ref p), some (V.ref I), some (.ref Dp), some (.ref T), x5, none, none] ∧ Ex H1 H' ∧ H' T = some (.lst vs) ∧ P2 H' vs (is ++ (ms.take i).flatMap (·.2)) ∧ vs.length ≤ 10 + 10 * i)
    (fun H2 e2 => ⟨T, none, ys, rfl, e2, e2 _ _ h1, by rw [List.take_zero]; simpa using p1.ex e2, by omega⟩) (fun i σ' H' _ ⟨_, _, _, _, ee, _⟩ => sq_of (ee _ _ hp0)) ?_ ?_
  · rintro i y σ' H2 hi ⟨T2, x5, vs, rfl, e2, h2, p2, ln⟩
    have hi' : i < ms.length := by
      have := (List.getElem?_eq_some_iff.mp hi).1
      omega
    have hg := List.getElem?_eq_getElem hi'
    obtain ⟨y', hy', ay⟩ := AtL.get lp (u := mdU pf ms[i]) (by rw [List.getElem?_map, hg]; rfl)
    rw [hi] at hy'
    cases hy'
    have tk := take_snoc' hg
    have bi := bm _ (List.getElem_mem hi')
    generalize ms[i] = m at hg ay tk bi
    obtain ⟨y2, ev2, a2⟩ := ev_nth (K := K) (m := 3) (u := mdU pf m) (te := tVar 5) (k := 2) (σ := [some x, some (.ref p), some (V.ref I), some (.ref Dp), some (.ref T2), some y, none, none]) (ev_var rfl) (ex_at e2 ay) (show decide (3 = 3) = true from rfl) (by decide)
    have a2' : At w C H2 y2 (.tup (blks pf m.2)) := a2
    show tAsg _ _ _ [some x, some (.ref p), some (V.ref I), some (.ref Dp), some (.ref T2), some y, none, none] H2
    refine ⟨_, rfl, lc_ids (K := K) bi ev2 a2' (fun _ => rfl) (fun _ => rfl) H2 (Ex.refl H2) _ fun q ys3 H3 hq e3 h3 p3 => ⟨T2, q, vs, ys3, rfl, rfl, e3 _ _ h2, h3, sz_of (by have := p3.len; have := bi.n; omega), fun r hr => ?_⟩⟩
    refine ⟨r, _, vs ++ ys3, rfl, (e2.trans e3).trans (Ex.new hr), upd_same, ?_, ?_⟩
    · rw [tk, List.flatMap_append, ← List.append_assoc]
      have e4 : ([m] : List Mend).flatMap (·.2) = m.2 := by simp
      rw [e4]
      exact ((p2.ex e3).append p3).ex (Ex.new hr)
    · rw [List.length_append]
      have := p3.len
      have := bi.n
      omega
  · rintro σ' H2 ⟨T2, x5, vs, rfl, e2, h2, p2, ln⟩
    rw [mlen, List.take_length] at p2
    have e12 := e1.trans e2
    refine ret1 ?_
    exact (ed_blks (K := K) (C := C) (w := w) (g := fun j => decide (j ∈ is ++ ms.flatMap (·.2))) (xs := xs) (σ := [some x, some (.ref p), some (V.ref I), some (.ref Dp), some (.ref T2), x5, none, none]) (hl.imp fun l h => e12 _ _ h) rfl (e12 _ _ hI) (hp.ex e12) (by omega) (pd.ex e12) (fun _ => rfl) (fun _ => rfl) (fun _ => rfl) (fun p j G _ eg hpj => et_test (ev_op (ev_var rfl) (ev_var rfl) (rv_inP2 (eg _ _ h2) (p2.ex eg) hpj)))) H2 (Ex.refl H2) _ fun v H10 e10 a10 => k v H10 (e12.trans e10) a10
end
end Hs
/-! what a collect leaves -/
namespace Hs
open PySem PySem.Spec PyProof.Rows L2 Hu Evl
section
variable {P : Program} {wd : World} {K : PySem.W.Frag} {mg : Str → Option Value} {base : Heap} {C : Addr}
theorem mdU_ne {pf : Int × Int → Str} {m : Mend} : colU ≠ mdU pf m := fun h => by
  have := U.tup.inj h
  cases this
theorem aft_col {pf : Int × Int → Str} {e : Int} {f : Nat → Bool} {js : List (Int × Int)} {Vs A hs hs' : List U} {is is' : List (Int × Int)} (h : aft pf e f js Vs A hs is colU hs' is') : hs' = hs ∧ is' = is.filter fun j => decide (j ∈ ledPs hs) := by
  rcases h with ⟨m, e, _⟩ | ⟨_, h1, h2⟩
  · exact absurd e mdU_ne
  · exact ⟨h1, h2⟩
theorem filter_two {α : Type} (g : α → Bool) (xs : List α) : (xs.filter g).filter g = xs.filter g := by
  rw [List.filter_filter]
  congr 1
  funext a
  cases g a <;> rfl
theorem pln_tab {e : Int} {f : Nat → Bool} {hs : List U} {is : List (Int × Int)} {pf : Int × Int → Str} (g : hs.all gNamed = true) (hf : ∃ i, i < 9 ∧ f i = true) : pln (.tup (tabL e f hs (blks pf is))) :=
  ⟨trivial, gMembers_pln (memU_ok hf), trivial, trivial, plnL_all.mpr fun u hu => gNamed_pln (List.all_eq_true.mp g u hu), blks_pln pf is, trivial, ⟨trivial, trivial, trivial⟩, trivial, trivial, trivial⟩
theorem ed_behC {te : TE} {σ : L2.St} {H : Hp} {E : XK} {w : Addr} {e : Int} {f : Nat → Bool} {zs : List Str} {js : List (Int × Int)} {Vs : List U} {pf : Int × Int → Str} {A hs : List U} {is : List (Int × Int)} (hl : ∃ l, H w = some (.lst l)) (ev : Ev0 e f zs js Vs pf) (r : Rn Vs js A hs is) (h : EvD w C te σ H (.tup (tabL e f hs (blks pf is)))) :
    EvD w C (tCall (spBehK C) [] E (tCons te (tCons (tTupF (tCons (tC (.str "collect")) tNil)) tNil))) σ H (.tup (tabL e f hs (blks pf (is.filter fun j => decide (j ∈ ledPs hs))))) := fun H1 e1 Q q =>
  h H1 e1 _ fun v H2 e2 a2 => (ed_tup (C := C) (w := w) (hl.elim fun l h => ⟨_, (e1.trans e2) _ _ h⟩) (eds_cons (ed_ev (te := tC (.str "collect")) ev_c (.str "collect")) eds_nil) (by show (1 : Nat) ≤ 100000; decide)) H2 (Ex.refl H2) _ fun d H3 e3 a3 =>
    ⟨v, d, w, e, f, zs, js, Vs, pf, A, hs, is, colU, rfl, ex_at e3 a2, a3, hl.imp fun l h => ((e1.trans e2).trans e3) _ _ h, ev, r, .inr rfl, fun t H4 hs' is' s4 a4 af => by
      obtain ⟨rfl, rfl⟩ := aft_col af
      exact q t H4 ((e2.trans e3).trans s4) a4⟩
theorem ed_led {te : TE} {σ : L2.St} {H : Hp} {E : XK} {w CT : Addr} {e : Int} {f : Nat → Bool} {zs : List Str} {js : List (Int × Int)} {Vs : List U} {pf : Int × Int → Str} {A hs : List U} {is : List (Int × Int)} (hl : ∃ l, H w = some (.lst l)) (ev : Ev0 e f zs js Vs pf) (r : Rn Vs js A hs is) (h : EvD w C te σ H (.tup (tabL e f hs (blks pf is)))) :
    EvD w C (tCall (fun vs H Q _ => spLBl C CT vs H Q E0) [] E (tCons te tNil)) σ H (.tup (blks pf (is.filter fun j => decide (j ∈ ledPs hs)))) := fun H1 e1 Q q => by
  obtain ⟨g, b⟩ := tab_ok ev (r.hd ev.ok ev.z ev.z3) r.s r.b
  obtain ⟨fi, sm⟩ := bd_fine b (by decide)
  refine h H1 e1 _ fun v H2 e2 a2 => ⟨v, _, w, rfl, a2, fi, sm, hl.elim fun l h => ⟨_, (e1.trans e2) _ _ h⟩, fun _ y H3 s3 a3 => q y H3 (e2.trans s3) ?_, fun q => by rw [g] at q; cases q⟩
  have e4 : ledU (.tup (tabL e f hs (blks pf is))) = .tup (blks pf (is.filter fun j => decide (j ∈ ledPs hs))) := by
    show U.tup ((blks pf is).filter (inLed hs)) = _
    rw [led_blks]
  rw [e4] at a3
  exact a3
theorem ev_al {ta tb : TE} {σ : L2.St} {H : Hp} {E : XK} {w w2 : Addr} {u : U} (h1 : EvD w C ta σ H u) (h2 : EvD w2 C tb σ H u) (hw : wt u ≤ 160000) (hp : pln u) (hd : dep u < 8) : Ev (tCall (spAl K C 8) [] E (tCons ta (tCons tb tNil))) σ H (.bl true) := fun H1 e1 Q q =>
  h1 H1 e1 _ fun x H2 e2 a2 => h2 H2 (e1.trans e2) _ fun y H3 e3 a3 => ⟨x, y, u, w2, rfl, lk_at hp (ex_at e3 a2), a3, hw, hp, hd, fun H4 s4 => q H4 ((e2.trans e3).trans s4)⟩
abbrev nmFi : List Str := ["table", "due", "told"]
theorem scFi : FnScope nmFi ["table", "due"] (defScope lFits) := ⟨rfl, rfl, rfl, by decide +kernel, rfl, by decide +kernel, by decide +kernel⟩
def spFi (C : Addr) : Sp := fun vs H Q _ => ∃ (x y : V) (w : Addr) (e : Int) (f : Nat → Bool) (zs : List Str) (js : List (Int × Int)) (Vs : List U) (pf : Int × Int → Str) (A hs : List U) (is : List (Int × Int)), vs = [x, y] ∧ At w C H x (.tup (tabL e f hs (blks pf is))) ∧ At w C H y (.tup (tabL e f hs (blks pf (is.filter fun j => decide (j ∈ ledPs hs))))) ∧ (∃ l, H w = some (.lst l)) ∧ Ev0 e f zs js Vs pf ∧ Rn Vs js A hs is ∧ ∀ H', Same H H' → Q (.bl true) H'
theorem ok_fi {f fA fB fL CT : Addr} {fd dA dB dL : FuncData} (F : Fun K "_law_collected_fits" "_law_collected_fits" lFits f fd) (DB : Df K mg "behind" sBehind ["table", "deed"] fB dB) (GB : FnOk P wd K mg base CX0 11 fB dB ["table", "deed"] (spBehK C)) (DL : Df K mg "led_blocks" sLedBlocks ["table"] fL dL) (GL : FnOk P wd K mg base CX0 9 fL dL ["table"] (fun vs H Q _ => spLBl C CT vs H Q E0))
    (DA : Df K mg "_law_alike" lAlike ["told", "due"] fA dA) (GA : FnOk P wd K mg base CX0 8 fA dA ["told", "due"] (spAl K C 8)) : FnOk P wd K mg base CX0 12 f fd ["table", "due"] (spFi C) := by
  refine F.ok scFi (fun vs H Q E h => ?_) (fun cdv A outer s H vs Q E hr h => ?_)
  · obtain ⟨x, y, w, e, f, zs, js, Vs, pf, A, hs, is, rfl, _⟩ := h
    rfl
  obtain ⟨x, y, w, e, f, zs, js, Vs, pf, A0, hs, is, rfl, hx, hy, hl, ev, r, k⟩ := h
  have GA' : FnOk P wd K mg base CX0 11 fA dA ["told", "due"] (spAl K C 8) := GA.mono (by decide)
  have GL' : FnOk P wd K mg base CX0 11 fL dL ["table"] (fun vs H Q _ => spLBl C CT vs H Q E0) := GL.mono (by decide)
  refine ⟨_, pss_cons (ps_set (i := 2) scFi.nd rfl (.inl rfl) (pe_call GB hr (by rfl) DB.g DB.F.kp DB.b .nil pass0 (pa_cons (pv 0) (pa_cons (pe_tupF (pa_cons pe_str pa_nil)) pa_nil))))
    (pss_cons (ps_if (PW.pt (pw_or (pt_not (pt_val (pe_call GA' hr (by rfl) DA.g DA.F.kp DA.b .nil pass0 (pa_cons (pv 2) (pa_cons (pv 1) pa_nil))))) (pw_or1 (pt_not (pt_val (pe_call GA' hr (by rfl) DA.g DA.F.kp DA.b .nil pass0 (pa_cons (pe_call GL' hr (by rfl) DL.g DL.F.kp DL.b .nil pass0 (pa_cons (pv 0) pa_nil)) (pa_cons (pe_ix (show IxR _ (rIxT K) from ix_tup) (pv 1) pe_int (fun _ _ => rfl)) pa_nil)))))))) (pss_one (ps_ret pe_bl)) pss_nil)
    (pss_one (ps_ret (pe_and (pe_call GA' hr (by rfl) DA.g DA.F.kp DA.b .nil pass0 (pa_cons (pe_call GL' hr (by rfl) DL.g DL.F.kp DL.b .nil pass0 (pa_cons (pv 2) pa_nil)) (pa_cons (pe_ix (show IxR _ (rIxT K) from ix_tup) (pv 1) pe_int (fun _ _ => rfl)) pa_nil)))
      (pe_one (pe_call GA' hr (by rfl) DA.g DA.F.kp DA.b .nil pass0 (pa_cons (pe_call GB hr (by rfl) DB.g DB.F.kp DB.b .nil pass0 (pa_cons (pv 2) (pa_cons (pe_tupF (pa_cons pe_str pa_nil)) pa_nil))) (pa_cons (pv 1) pa_nil)))))))), ?_⟩
  have r2 := r.col
  have idem := filter_two (fun j => decide (j ∈ ledPs hs)) is
  refine (ed_behC (A := A0) (te := tVar 0) (σ := [some x, some y, none]) (E := E0) hl ev r (ed_ev (te := tVar 0) (ev_var rfl) hx)) H (Ex.refl H) _ fun t H1 e1 at1 => ?_
  have hl1 : ∃ l, H1 w = some (.lst l) := hl.imp fun l h => e1 _ _ h
  show tSeq _ _ _ [some x, some y, some t] H1
  have edx : EvD w C (tVar 0) [some x, some y, some t] H1 _ := ed_ev (te := tVar 0) (ev_var rfl) (ex_at e1 hx)
  have edt : EvD w C (tVar 2) [some x, some y, some t] H1 _ := ed_ev (te := tVar 2) (ev_var rfl) at1
  have edy : EvD w C (tVar 1) [some x, some y, some t] H1 _ := ed_ev (te := tVar 1) (ev_var rfl) (ex_at e1 hy)
  have ed5 : EvD w C (tOp (rIxT K) (tVar 1) (tC (.int 5))) [some x, some y, some t] H1 (.tup (blks pf (is.filter fun j => decide (j ∈ ledPs hs)))) := ed_item (K := K) (te := tVar 1) (us := tabL e f hs (blks pf (is.filter fun j => decide (j ∈ ledPs hs)))) (ev_var rfl) (ex_at e1 hy) 5 (by show 5 < 10; decide)
  have g5 := blks_g ev r2.s r2.b
  have b5 : wt (.tup (blks pf (is.filter fun j => decide (j ∈ ledPs hs)))) ≤ 160000 ∧ dep (.tup (blks pf (is.filter fun j => decide (j ∈ ledPs hs)))) < 8 := by
    have h1 := g5.2.1.w
    have h2 := g5.2.1.d
    simp only [wt, dep]
    exact ⟨by omega, by omega⟩
  have gt2 := tab_ok ev (r2.hd ev.ok ev.z ev.z3) r2.s r2.b
  have bt : wt (.tup (tabL e f hs (blks pf (is.filter fun j => decide (j ∈ ledPs hs))))) ≤ 160000 ∧ dep (.tup (tabL e f hs (blks pf (is.filter fun j => decide (j ∈ ledPs hs))))) < 8 := ⟨Nat.le_trans gt2.2.w (by decide), Nat.lt_of_le_of_lt gt2.2.d (by decide)⟩
  have hpt := pln_tab (e := e) (is := is.filter fun j => decide (j ∈ ledPs hs)) (pf := pf) ((r2.hd ev.ok ev.z ev.z3).all ev.ok) ev.f
  have hp5 : pln (.tup (blks pf (is.filter fun j => decide (j ∈ ledPs hs)))) := blks_pln pf _
  refine q_when (b := false) (et_or (a := false) (et_not (a := true) (et_B (ev_al (K := K) edt edy bt.1 hpt bt.2))) fun _ => et_not (a := true) (et_B (ev_al (K := K) (ed_led (CT := CT) hl1 ev r edx) ed5 b5.1 hp5 b5.2))) (fun q => by cases q) (fun _ H2 e2 => ?_)
  have led2 := ed_led (CT := CT) (E := E0) hl1 ev r2 edt
  rw [idem] at led2
  have beh2 := ed_behC (E := E0) hl1 ev r2 edt
  rw [idem] at beh2
  refine ret1 ?_
  exact (ev_al (K := K) (E := E0) led2 ed5 b5.1 hp5 b5.2) H2 e2 _ fun H3 e3 => ⟨true, rfl, (ev_al (K := K) (E := E0) beh2 edy bt.1 hpt bt.2) H3 (e2.trans e3) _ fun H4 e4 => k H4 (((e1.trans e2).trans e3).trans e4)⟩
end
end Hs
/-! the law -/
namespace Hs
open PySem PySem.Spec PyProof.Rows L2 Hu Evl
abbrev lLw : Stmt := topS 118
abbrev nmLw : List Str := ["script", "well", "names", "ids", "versions", "pieces", "one", "members", "heads", "blocks", "mends", "epoch", "table", "begin", "rest", "greatest", "due", "first", "second", "third", "led", "last", "k"]
section
variable {P : Program} {wd : World} {K : PySem.W.Frag} {mg : Str → Option Value} {base : Heap} {C : Addr} {fD : Addr} {dD : FuncData}
def spLw (K : PySem.W.Frag) : Sp := fun vs H Q _ => ∃ (a : Addr) (ns : List Int), vs = [.ref a] ∧ SqL K H a (ns.map V.int) ∧ ns.length ≤ 63 ∧ ∀ H', Q (.bl true) H'
theorem scLw : FnScope nmLw ["script"] (defScope lLw) := ⟨rfl, rfl, rfl, by decide +kernel, rfl, by decide +kernel, by decide +kernel⟩
theorem q_newT {σ : L2.St} {H : Hp} {i : Nat} {tz : TS} {D : Ends} (k : ∀ p, H p = none → tz D (σ.set i (some (.ref p))) (upd H p (.dT []))) : tSeq (tAsg tDNewT (gName i)) tz D σ H := k
theorem Rn.start {Vs hs : List U} {js is : List (Int × Int)} (h : HdU Vs hs) (sj : js.Pairwise ltI2) (sb : is.Sublist js) (cl : ∀ p ∈ ledPs hs, p ∈ is) : Rn Vs js hs hs is := ⟨Top.self h.s, h.m, sj.sublist sb, fun j hj => sb.subset hj, cl⟩
theorem ms_hd (pf : Int × Int → Str) (ms : List Mend) : (ms.map (mdU pf)).flatMap hdD = ms.flatMap (·.1) := by
  rw [List.flatMap_map]
  rfl
theorem ms_bl (pf : Int × Int → Str) (ms : List Mend) : (ms.map (mdU pf)).flatMap blD = ms.flatMap (·.2) := by
  rw [List.flatMap_map]
  congr 1
  funext m
  exact blD_md pf m
/-- a run's heads are the greatest -/
theorem run_hd {zs : List Str} {js : List (Int × Int)} {Vs hs gs hs' ds : List U} {is' : List (Int × Int)} {ms : List Mend} {pf : Int × Int → Str} (ok : Vok zs js Vs) (t : Top (hs ++ ms.flatMap (·.1)) gs) (r : Rn Vs js (hs ++ ds.flatMap hdD) hs' is') (m1 : ∀ d ∈ ds, d ∈ ms.map (mdU pf) ∨ d = colU) (m2 : ∀ d ∈ ms.map (mdU pf), d ∈ ds) : hs' = gs := by
  refine Top.uniq ok r.t t (fun h => ?_) r.a
  rw [← ms_hd pf, List.mem_append, List.mem_append, List.mem_flatMap, List.mem_flatMap]
  constructor
  · rintro (q | ⟨d, hd, q⟩)
    · exact .inl q
    · rcases m1 d hd with h1 | rfl
      · exact .inr ⟨d, h1, q⟩
      · cases q
  · rintro (q | ⟨d, hd, q⟩)
    · exact .inl q
    · exact .inr ⟨d, m2 d hd, q⟩
/-- a run's blocks are all that were -/
theorem run_bl {js : List (Int × Int)} {Vs hs' A ds : List U} {is is' : List (Int × Int)} {ms : List Mend} {pf : Int × Int → Str} (sj : js.Pairwise ltI2) (r : Rn Vs js A hs' is') (x : (∀ d ∈ ds, d ≠ colU) → ∀ k, k ∈ is' ↔ k ∈ is ∨ k ∈ ds.flatMap blD) (m : ∀ d, d ∈ ds ↔ d ∈ ms.map (mdU pf)) : is' = js.filter fun j => decide (j ∈ is ++ ms.flatMap (·.2)) := by
  have nc : ∀ d ∈ ds, d ≠ colU := fun d hd e => by
    obtain ⟨m', _, e'⟩ := List.mem_map.mp ((m d).mp hd)
    exact mdU_ne (e.symm.trans e'.symm)
  refine srt_uniqG ltI2_asy r.s (sj.sublist List.filter_sublist) fun k => ?_
  have hk : k ∈ is' ↔ k ∈ is ++ ms.flatMap (·.2) := by
    rw [x nc k, ← ms_bl pf, List.mem_append, List.mem_flatMap, List.mem_flatMap]
    exact or_congr Iff.rfl ⟨fun ⟨d, hd, q⟩ => ⟨d, (m d).mp hd, q⟩, fun ⟨d, hd, q⟩ => ⟨d, (m d).mpr hd, q⟩⟩
  rw [List.mem_filter, decide_eq_true_eq, ← hk]
  exact ⟨fun q => ⟨r.b k q, q⟩, fun q => q.2⟩
/-- what a last collect leaves -/
theorem run_last {js : List (Int × Int)} {Vs A gs : List U} {is' : List (Int × Int)} (sj : js.Pairwise ltI2) (r : Rn Vs js A gs is') : (is'.filter fun j => decide (j ∈ ledPs gs)) = js.filter fun j => decide (j ∈ js.filter fun j => decide (j ∈ ledPs gs)) := by
  refine srt_uniqG ltI2_asy (r.s.sublist List.filter_sublist) (sj.sublist List.filter_sublist) fun k => ?_
  rw [List.mem_filter, List.mem_filter, decide_eq_true_eq, decide_eq_true_eq, List.mem_filter, decide_eq_true_eq]
  exact ⟨fun q => ⟨r.b k q.1, r.b k q.1, q.2⟩, fun q => ⟨r.c k q.2.2, q.2.2⟩⟩
theorem inst_ok {e : Int} {f : Nat → Bool} {zs : List Str} {js : List (Int × Int)} {Vs : List U} {pf : Int × Int → Str} (ev : Ev0 e f zs js Vs pf) {hs : List U} {is : List (Int × Int)} (hd : HdU Vs hs) (s : is.Pairwise ltI2) (b : ∀ j ∈ is, j ∈ js) : gRestL "install" (.tup [.int e, memU f, .tup [], .tup hs, .tup (blks pf is)]) = true ∧ Wu (.tup [.str "install", .int e, memU f, .tup [], .tup hs, .tup (blks pf is)]) DM 2 := by
  obtain ⟨g5, b5, _, _⟩ := blks_g ev s b
  obtain ⟨g4, b4⟩ := heads_g ev hd
  have bm := memU_bd f
  refine ⟨?_, ?_, ?_⟩
  · rw [rest_install]
    show (if (!(true) || (!(gCount (.int e)) || (!(gMembers (memU f))))) = true then false else (true && (gHeads (.tup hs) && gBlocks (.tup (blks pf is))))) = true
    have ge : gCount (.int e) = true := cnt_of ev.e0
    rw [ge, memU_ok ev.f, g4, g5]
    rfl
  · have wm : wt (.str ("install" : Str)) ≤ 60 := (word_bd (z := ("install" : Str)) (by decide +kernel)).w
    have := bm.w
    have := b4.w
    have := b5.w
    simp only [wt, wtL] at *
    show _ ≤ 100000
    omega
  · have cm := (word_bd (z := ("install" : Str)) (by decide +kernel)).c
    have c1 := tidy_mono (b' := 2) (by decide) _ bm.c
    have c4 : tidyL 2 hs := tidyL_mono (by decide) _ b4.c
    have c5 : tidyL 2 (blks pf is) := tidyL_mono (by decide) _ b5.c
    have c0 := tidy_mono (b' := 2) (by decide) _ cm
    have := ev.e0
    have := ev.e1
    simp only [tidyL, tidy]
    exact ⟨c0, by omega, c1, trivial, c4, c5, trivial⟩
theorem et_some {σ : L2.St} {H : Hp} {i : Nat} {p : Addr} (h : σ[i]? = some (some (.ref p))) : EvT (tTest (tOp rIsN (tVar i) (tC .non))) σ H false :=
  et_test (ev_op (ev_var h) ev_c fun G e Q q => ⟨rfl, q G (Ex.refl G)⟩)
set_option maxHeartbeats 8000000 in
theorem ok_lw {f aBa fW fu fNm fId fVr fStr fMe fSm fWB fMs fNum fB fBa fAl fGr fAb fRu fTu fWC fLd fFi : Addr} {fd dW du dNm dId dVr dStr dMe dSm dWB dMs dNum dB dBa dAl dGr dAb dRu dTu dWC dLd dFi : FuncData} (F : Fun K "law" "law" lLw f fd) (B : Bt mg) (D : Dd P wd K mg base fD dD) (DW : Df K mg "_law_well" sWell ["script"] fW dW) (GW : FnOk P wd K mg base CX0 12 fW dW ["script"] (spWell K)) (Du : Df K mg "_law_unlike" lUnlike ["things"] fu du) (DNm : Df K mg "_law_name" lName ["well"] fNm dNm) (GNm : FnOk P wd K mg base CX0 12 fNm dNm ["well"] spName) (DId : Df K mg "_law_id" lId ["well"] fId dId) (GId : FnOk P wd K mg base CX0 12 fId dId ["well"] (spPair fun i j => 1 ≤ i ∧ i ≤ 99 ∧ 1 ≤ j)) (DVr : Df K mg "_law_versions" lVersions ["well", "names", "ids"] fVr dVr) (GVr : FnOk P wd K mg base CX0 12 fVr dVr ["well", "names", "ids"] (spVr C)) (DStr : Df K mg "_law_string" sString ["well", "many"] fStr dStr) (GStr : FnOk P wd K mg base CX0 12 fStr dStr ["well", "many"] spString) (DMe : Df K mg "_law_members" lMembers ["well"] fMe dMe) (GMe : FnOk P wd K mg base CX0 12 fMe dMe ["well"] spMem) (DSm : Df K mg "_law_some" lSome ["well", "versions", "names"] fSm dSm) (GSm : FnOk P wd K mg base CX0 12 fSm dSm ["well", "versions", "names"] (spSm C)) (DWB : Df K mg "_law_with_blocks" lWith ["well", "heads", "ids", "pieces"] fWB dWB) (GWB : FnOk P wd K mg base CX0 12 fWB dWB ["well", "heads", "ids", "pieces"] (spWB C)) (DMs : Df K mg "_law_mends" lMends ["well", "versions", "names", "ids", "pieces"] fMs dMs) (GMs : FnOk P wd K mg base CX0 12 fMs dMs ["well", "versions", "names", "ids", "pieces"] (spMs C)) (DNum : Df K mg "_law_number" lNumber ["well"] fNum dNum) (GNum : FnOk P wd K mg base CX0 12 fNum dNum ["well"] spNumber) (DB : Df K mg "behind" sBehind ["table", "deed"] fB dB) (DBa : Df K mg "bare_table" sBareT [] fBa dBa) (GBa : FnOk P wd K mg base CX0 12 fBa dBa [] (spBare aBa)) (DAl : Df K mg "_law_alike" lAlike ["told", "due"] fAl dAl) (GAl : FnOk P wd K mg base CX0 12 fAl dAl ["told", "due"] (spAl K C 8)) (DGr : Df K mg "_law_greatest" lGreatest ["table", "mends", "names"] fGr dGr) (GGr : FnOk P wd K mg base CX0 12 fGr dGr ["table", "mends", "names"] (spGr C)) (DAb : Df K mg "_law_all_blocks" lAllB ["table", "mends", "ids", "pieces"] fAb dAb) (GAb : FnOk P wd K mg base CX0 12 fAb dAb ["table", "mends", "ids", "pieces"] (spAb C)) (DRu : Df K mg "_law_run" lRun ["table", "deeds", "names"] fRu dRu) (GRu : FnOk P wd K mg base CX0 12 fRu dRu ["table", "deeds", "names"] (spRu C)) (DTu : Df K mg "_law_turned" lTurned ["well", "mends"] fTu dTu) (GTu : FnOk P wd K mg base CX0 12 fTu dTu ["well", "mends"] (spTu C)) (DWC : Df K mg "_law_with_collects" lWithCol ["well", "mends"] fWC dWC) (GWC : FnOk P wd K mg base CX0 12 fWC dWC ["well", "mends"] (spWC C)) (DLd : Df K mg "_law_led" lLed ["heads", "ids"] fLd dLd) (GLd : FnOk P wd K mg base CX0 12 fLd dLd ["heads", "ids"] (spLd C)) (DFi : Df K mg "_law_collected_fits" lFits ["table", "due"] fFi dFi) (GFi : FnOk P wd K mg base CX0 12 fFi dFi ["table", "due"] (spFi C)) (GuS : FnOk P wd K mg base CX0 12 fu du ["things"] spUnS) (GuP : FnOk P wd K mg base CX0 12 fu du ["things"] spUnP) (GBI : FnOk P wd K mg base CX0 12 fB dB ["table", "deed"] (spBehI K C)) (BK : BareK K mg aBa) : FnOk P wd K mg base CX0 13 f fd ["script"] (spLw K) := by
  refine F.ok scLw (fun vs H Q E h => ?_) (fun cdv A outer s H vs Q E hr h => ?_)
  · obtain ⟨a, ns, rfl, _⟩ := h
    rfl
  obtain ⟨a, ns, rfl, hS, hns, k⟩ := h
  have u0 := room_h1 hr
  have u65 : ∀ {k : Nat} {A : Around}, Room k A → A.units + 65 < cLine := fun {k A} r => by
    have := r.un
    omega
  refine ⟨_, pss_cons (ps_set (i := 1) scLw.nd rfl (.inr rfl) (pe_call GW hr (by rfl) DW.g DW.F.kp DW.b .nil pass0 (pa_cons (pv 0) pa_nil)))
    (pss_cons (ps_set (i := 2) scLw.nd rfl (.inl rfl) (pe_call GuS hr (by rfl) Du.g Du.F.kp Du.b .nil pass0 (pa_cons (pe_lc (own := [("k", 22)]) (g := gName 22) (tt := tYes) rfl scLw.nd (pi_range1 (by rfl) B.range (pa_cons (pe_op op_add pe_int (pe_draw D hr (by decide) (by rfl) (pv 1) pe_int)) pa_nil)) (blkOk_by (N := nmLw) (sc := defScope lLw) (by decide +kernel)) (fun _ _ _ _ _ => pg_name (i := 22) scLw.nd rfl (Or.inl rfl)) (fun _ _ _ _ _ => pts_nil) (fun _ _ _ _ _ => (pe_call GNm hr (by rfl) DNm.g DNm.F.kp DNm.b .nil pass0 (pa_cons (pv 1) pa_nil)))) pa_nil)))
    (pss_cons (ps_set (i := 3) scLw.nd rfl (.inl rfl) (pe_call GuP hr (by rfl) Du.g Du.F.kp Du.b .nil pass0 (pa_cons (pe_lc (own := [("k", 22)]) (g := gName 22) (tt := tYes) rfl scLw.nd (pi_range1 (by rfl) B.range (pa_cons (pe_op op_add pe_int (pe_draw D hr (by decide) (by rfl) (pv 1) pe_int)) pa_nil)) (blkOk_by (N := nmLw) (sc := defScope lLw) (by decide +kernel)) (fun _ _ _ _ _ => pg_name (i := 22) scLw.nd rfl (Or.inl rfl)) (fun _ _ _ _ _ => pts_nil) (fun _ _ _ _ _ => (pe_call GId hr (by rfl) DId.g DId.F.kp DId.b .nil pass0 (pa_cons (pv 1) pa_nil)))) pa_nil)))
    (pss_cons (ps_set (i := 4) scLw.nd rfl (.inl rfl) (pe_call GVr hr (by rfl) DVr.g DVr.F.kp DVr.b .nil pass0 (pa_cons (pv 1) (pa_cons (pv 2) (pa_cons (pv 3) pa_nil)))))
    (pss_cons (ps_set (i := 5) scLw.nd rfl (.inr rfl) pe_dnewT)
    (pss_cons (ps_for PassesOwn.never rfl (pi_list (pv 3)) (pg_name (i := 6) scLw.nd rfl (Or.inl rfl)) (pss_one (ps_asg (pe_call GStr hr (by rfl) DStr.g DStr.F.kp DStr.b .nil pass0 (pa_cons (pv 1) (pa_cons (pe_op op_add pe_int (pe_draw D hr (by decide) (by rfl) (pv 1) pe_int)) pa_nil))) (pg_sub (pv 5) (pv 6) (set_dict u0)))))
    (pss_cons (ps_set (i := 7) scLw.nd rfl (.inl rfl) (pe_call GMe hr (by rfl) DMe.g DMe.F.kp DMe.b .nil pass0 (pa_cons (pv 1) pa_nil)))
    (pss_cons (ps_set (i := 8) scLw.nd rfl (.inl rfl) (pe_call GSm hr (by rfl) DSm.g DSm.F.kp DSm.b .nil pass0 (pa_cons (pv 1) (pa_cons (pv 4) (pa_cons (pv 2) pa_nil)))))
    (pss_cons (ps_set (i := 9) scLw.nd rfl (.inl rfl) (pe_call GWB hr (by rfl) DWB.g DWB.F.kp DWB.b .nil pass0 (pa_cons (pv 1) (pa_cons (pv 8) (pa_cons (pv 3) (pa_cons (pv 5) pa_nil))))))
    (pss_cons (ps_set (i := 10) scLw.nd rfl (.inl rfl) (pe_call GMs hr (by rfl) DMs.g DMs.F.kp DMs.b .nil pass0 (pa_cons (pv 1) (pa_cons (pv 4) (pa_cons (pv 2) (pa_cons (pv 3) (pa_cons (pv 5) pa_nil)))))))
    (pss_cons (ps_set (i := 11) scLw.nd rfl (.inl rfl) (pe_call GNum hr (by rfl) DNum.g DNum.F.kp DNum.b .nil pass0 (pa_cons (pv 1) pa_nil)))
    (pss_cons (ps_set (i := 12) scLw.nd rfl (.inl rfl) (pe_call GBI hr (by rfl) DB.g DB.F.kp DB.b .nil pass0 (pa_cons (pe_call0 GBa hr (by rfl) DBa.g DBa.F.kp DBa.b .nil pass0) (pa_cons (pe_tupF (pa_cons pe_str (pa_cons (pv 11) (pa_cons (pv 7) (pa_cons (pe_tupF pa_nil) (pa_cons (pv 8) (pa_cons (pv 9) pa_nil))))))) pa_nil))))
    (pss_cons (ps_set (i := 13) scLw.nd rfl (.inl rfl) (pe_tupF (pa_cons (pv 11) (pa_cons (pv 7) (pa_cons (pe_tupF pa_nil) (pa_cons pe_int pa_nil))))))
    (pss_cons (ps_set (i := 14) scLw.nd rfl (.inl rfl) (pe_tupF (pa_cons (pe_tupF pa_nil) (pa_cons (pe_tupF (pa_cons pe_int (pa_cons pe_int pa_nil))) (pa_cons pe_non (pa_cons pe_non pa_nil))))))
    (pss_cons (ps_if (pt_not (pt_val (pe_call GAl hr (by rfl) DAl.g DAl.F.kp DAl.b .nil pass0 (pa_cons (pv 12) (pa_cons (pe_op op_catF (pe_op op_catF (pv 13) (pe_tupF (pa_cons (pv 8) (pa_cons (pv 9) pa_nil)))) (pv 14)) pa_nil))))) (pss_one (ps_ret pe_bl)) pss_nil)
    (pss_cons (ps_set (i := 15) scLw.nd rfl (.inl rfl) (pe_call GGr hr (by rfl) DGr.g DGr.F.kp DGr.b .nil pass0 (pa_cons (pv 12) (pa_cons (pv 10) (pa_cons (pv 2) pa_nil)))))
    (pss_cons (ps_set (i := 16) scLw.nd rfl (.inl rfl) (pe_op op_catF (pe_op op_catF (pv 13) (pe_tupF (pa_cons (pv 15) (pa_cons (pe_call GAb hr (by rfl) DAb.g DAb.F.kp DAb.b .nil pass0 (pa_cons (pv 12) (pa_cons (pv 10) (pa_cons (pv 3) (pa_cons (pv 5) pa_nil))))) pa_nil)))) (pv 14)))
    (pss_cons (ps_set (i := 17) scLw.nd rfl (.inl rfl) (pe_call GRu hr (by rfl) DRu.g DRu.F.kp DRu.b .nil pass0 (pa_cons (pv 12) (pa_cons (pv 10) (pa_cons (pv 2) pa_nil)))))
    (pss_cons (ps_set (i := 18) scLw.nd rfl (.inl rfl) (pe_call GRu hr (by rfl) DRu.g DRu.F.kp DRu.b .nil pass0 (pa_cons (pv 12) (pa_cons (pe_call GTu hr (by rfl) DTu.g DTu.F.kp DTu.b .nil pass0 (pa_cons (pv 1) (pa_cons (pv 10) pa_nil))) (pa_cons (pv 2) pa_nil)))))
    (pss_cons (ps_set (i := 19) scLw.nd rfl (.inl rfl) (pe_call GRu hr (by rfl) DRu.g DRu.F.kp DRu.b .nil pass0 (pa_cons (pv 12) (pa_cons (pe_call GWC hr (by rfl) DWC.g DWC.F.kp DWC.b .nil pass0 (pa_cons (pv 1) (pa_cons (pe_call GTu hr (by rfl) DTu.g DTu.F.kp DTu.b .nil pass0 (pa_cons (pv 1) (pa_cons (pv 10) pa_nil))) pa_nil))) (pa_cons (pv 2) pa_nil)))))
    (pss_cons (ps_if (PW.pt (pw_or (pt_cmpR op_isN1 (pv 17) pe_non (nomark _)) (pw_or (pt_cmpR op_isN1 (pv 18) pe_non (nomark _)) (pw_or1 (pt_cmpR op_isN1 (pv 19) pe_non (nomark _)))))) (pss_one (ps_ret pe_bl)) pss_nil)
    (pss_cons (ps_if (PW.pt (pw_or (pt_not (pt_val (pe_call GAl hr (by rfl) DAl.g DAl.F.kp DAl.b .nil pass0 (pa_cons (pv 17) (pa_cons (pv 16) pa_nil))))) (pw_or1 (pt_not (pt_val (pe_call GAl hr (by rfl) DAl.g DAl.F.kp DAl.b .nil pass0 (pa_cons (pv 18) (pa_cons (pv 16) pa_nil)))))))) (pss_one (ps_ret pe_bl)) pss_nil)
    (pss_cons (ps_set (i := 20) scLw.nd rfl (.inr rfl) (pe_call GLd hr (by rfl) DLd.g DLd.F.kp DLd.b .nil pass0 (pa_cons (pv 15) (pa_cons (pv 3) pa_nil))))
    (pss_cons (ps_set (i := 21) scLw.nd rfl (.inl rfl) (pe_op op_catF (pe_op op_catF (pv 13) (pe_tupF (pa_cons (pv 15) (pa_cons (pe_callTy call_tupF (by rfl) B.tup boot_tuple' (pa_cons (pe_lc (own := [("one", 6)]) (g := gName 6) rfl scLw.nd (pi_list (pv 3)) (blkOk_by (N := nmLw) (sc := defScope lLw) (by decide +kernel)) (fun _ _ _ _ _ => pg_name (i := 6) scLw.nd rfl (Or.inl rfl)) (fun _ _ _ _ _ => pts_one (pt_cmpR (show OpR _ _ (rInD K) from op_inD (u65 hr)) (pv 6) (pv 20) (by rfl))) (fun _ _ _ _ _ => (pe_tupF (pa_cons (pv 6) (pa_cons (pe_dget u0 (pv 5) (pv 6) (fun _ _ => rfl)) pa_nil))))) pa_nil)) pa_nil)))) (pv 14)))
    (pss_one (ps_ret (pe_and (pe_call GFi hr (by rfl) DFi.g DFi.F.kp DFi.b .nil pass0 (pa_cons (pv 17) (pa_cons (pv 21) pa_nil))) (pe_one (pe_call GFi hr (by rfl) DFi.g DFi.F.kp DFi.b .nil pass0 (pa_cons (pv 19) (pa_cons (pv 21) pa_nil)))))))))))))))))))))))))))))), ?_⟩
  refine ⟨_, rfl, a, ns, rfl, hS, fun wl H0 s0 W => ?_⟩
  dsimp only [gName]
  -- the names
  refine ⟨_, rfl, wl, 3, rfl, W, by decide, by decide, fun d H1 d0 d1 D1 => ⟨_, _, rfl, rfl, 1 + d, rfl, by omega, by omega, fun Dl hD => ?_⟩⟩
  have nD := (D1.well.ne hD).1
  refine lc_range (lo := 0) (n := (1 + d).toNat) (fun i H' => Drawn wl H0 H' ∧ Drawn wl H1 H' ∧ ∃ zs : List Str, H' Dl = some (.lst (zs.map V.str)) ∧ zs.length = i ∧ ∀ z ∈ zs, gNam (.str z) = true) ⟨D1.new hD, (Drawn.refl D1.well).new hD, [], upd_same, rfl, fun z hz => (by cases hz)⟩ ?_ ?_
  · rintro i H2 hi ⟨D2, D2', zs, hz, hl, hg⟩
    refine ⟨rfl, ?_⟩
    refine et_yes _ (Ex.refl _) _ fun H3 e3 => ?_
    rw [if_pos rfl]
    refine ⟨_, rfl, wl, rfl, D2.well.same e3, fun z H4 gz D4 => ?_⟩
    have D34 : Drawn wl H2 H4 := ((Drawn.refl D2.well).same e3).trans D4
    refine ⟨_, D34.keep _ _ nD hz, ?_, D2.trans D34 |>.put W (D1.free W hD), (D2'.trans D34).put D1.well hD, zs ++ [z], ?_, ?_, ?_⟩
    · rw [List.length_map, hl]
      exact sz_lt (by omega)
    · rw [upd_same, List.map_append]
      rfl
    · rw [List.length_append, hl]
      rfl
    · intro y hy
      rcases List.mem_append.mp hy with h | h
      · exact hg y h
      · rw [List.mem_singleton.mp h]
        exact gz
  rintro H2 ⟨D2, _, zs, hz, hl, hg⟩
  refine ⟨Dl, zs, rfl, hz, by omega, by omega, fun z h => nam_ok (hg z h), fun N ns' H3 hN0 e3 hN l1 l2 mem pw => ?_⟩
  have D3 := D2.same e3
  have hng : ∀ z ∈ ns', gNam (.str z) = true := fun z h => hg z (mem z h)
  have nN : N ≠ wl.w := fun z => by
    obtain ⟨o, ho⟩ := D2.well.at
    rw [← z, hN0] at ho
    cases ho
  have NM : Nm wl H3 N ns' := ⟨hN, nN, l1, by omega, hng, pw⟩
  dsimp only [gName]
  -- the ids
  refine ⟨_, rfl, wl, 4, rfl, D3.well, by decide, by decide, fun d2 H4 f0 f1 D4 => ⟨_, _, rfl, rfl, 1 + d2, rfl, by omega, by omega, fun Dm hDm => ?_⟩⟩
  have nDm := (D4.well.ne hDm).1
  have D34 := D3.trans D4
  refine lc_range (lo := 0) (n := (1 + d2).toNat) (fun i H' => Drawn wl H0 H' ∧ Drawn wl H4 H' ∧ ∃ (xs : List V) (js : List (Int × Int)), H' Dm = some (.lst xs) ∧ P2 H' xs js ∧ js.length = i ∧ ∀ j ∈ js, 1 ≤ j.1 ∧ j.1 ≤ 99 ∧ 1 ≤ j.2 ∧ j.2 < 2 ^ 60) ⟨D34.new hDm, (Drawn.refl D4.well).new hDm, [], [], upd_same, .nil, rfl, fun z hz => (by cases hz)⟩ ?_ ?_
  · rintro i H5 hi ⟨D5, D5', xs, js, hx, p2, hl, hb⟩
    refine ⟨rfl, ?_⟩
    refine et_yes _ (Ex.refl _) _ fun H6 e6 => ?_
    rw [if_pos rfl]
    refine ⟨_, rfl, wl, rfl, D5.well.same e6, fun a b p H7 b1 b2 hR hp D7 h7 => ?_⟩
    have D57 : Drawn wl H5 H7 := ((Drawn.refl D5.well).same e6).trans D7
    have hx7 := D57.keep _ _ nDm hx
    have nt : ∀ c zs, H7 c = some (.tup zs) → upd H7 Dm (.lst (xs ++ [.ref p])) c = some (.tup zs) := fun c zs hc => by
      rw [upd_ne (fun z => by rw [z, hx7] at hc; cases hc)]
      exact hc
    refine ⟨_, hx7, ?_, (D5.trans D57).put W (D34.free W hDm), (D5'.trans D57).put D4.well hDm, xs ++ [.ref p], js ++ [(a, b)], upd_same, ?_, ?_, ?_⟩
    · rw [p2.len, hl]
      exact sz_lt (by omega)
    · exact ((p2.tups (drawn_tups D5.well D57)).snoc (k := (a, b)) h7).tups nt
    · rw [List.length_append, hl]
      rfl
    · intro j hj
      rcases List.mem_append.mp hj with h | h
      · exact hb j h
      · rw [List.mem_singleton.mp h]
        exact ⟨hR.1, hR.2.1, hR.2.2, by show b < 2 ^ 60; omega⟩
  rintro H5 ⟨D5, D5', xs, js0, hx, p2, hl, hb⟩
  refine ⟨Dm, xs, js0, rfl, hx, p2, by omega, by omega, fun I ys js H6 hI0 e6 hI p2' k1 k2 kmem kpw => ?_⟩
  have D6 := D5.same e6
  have nI : I ≠ wl.w := fun z => by
    obtain ⟨o, ho⟩ := D5.well.at
    rw [← z, hI0] at ho
    cases ho
  have D36 : Drawn wl H3 H6 := (D4.trans D5').same e6
  have IM : Ids C wl H6 I ys js := ⟨hI, nI, p2', ⟨k1, by omega⟩, fun j hj => hb j (kmem j hj), kpw⟩
  have NM6 := NM.keep D36
  have jl := IM.n
  dsimp only [gName]
  -- the versions
  refine ⟨_, rfl, _, rfl, _, rfl, wl, N, I, ns', ys, js, rfl, D6.well, NM6, IM, fun Dv vkvs Vs H7 D7 h7 nDv ok hv => ?_⟩
  have VM : Vd wl C H7 Dv ns' js Vs := ⟨⟨vkvs, h7, hv⟩, nDv, ok⟩
  have IM7 := IM.keep D6.well D7
  have NM7 := NM6.keep D7
  dsimp only [gName]
  -- the pieces
  refine q_newT fun Dp hDp => ?_
  have nDp := (D7.well.ne hDp).1
  have D78 : Drawn wl H7 (upd H7 Dp (.dT [])) := (Drawn.refl D7.well).new hDp
  have h8 : upd H7 Dp (.dT []) Dp = some (.dT []) := upd_same
  have yl := p2'.len
  refine q_forL (K := K) (σ := [some (.ref a), some (V.ref wl.w), some (.ref N), some (.ref I), some (.ref Dv), some (.ref Dp), none, none, none, none, none, none, none, none, none, none, none, none, none, none, none, none, none]) (xs := ys) (ev_var rfl) (sq_of (D78.keep _ _ nI IM7.h)) (fun i σ' H' => ∃ (x6 : Option V) (kvs : List (List L2.Key × V)), σ' = [some (.ref a), some (V.ref wl.w), some (.ref N), some (.ref I), some (.ref Dv), some (.ref Dp), x6, none, none, none, none, none, none, none, none, none, none, none, none, none, none, none, none] ∧ Drawn wl H7 H' ∧ H' Dp = some (.dT kvs) ∧ kvs.length ≤ i ∧ ∀ j ∈ js.take i, ∃ z, valV kvs (kP j) = some (.str z) ∧ gPiece (.str z) = true ∧ Bd (.str z) 60 2 0)
    (fun H9 e9 => ⟨none, [], rfl, D78.same e9, e9 _ _ h8, Nat.le_refl _, fun j hj => by simp at hj⟩) (fun i σ' H' _ ⟨_, _, _, D9, _⟩ => sq_of (D9.keep _ _ nI IM7.h)) ?_ ?_
  · rintro i y σ' H9 hi ⟨x6, kvs, rfl, D9, h9, ln, hj⟩
    obtain ⟨p, j, rfl, hjj, hp⟩ := IM7.p.get hi
    have tk := take_snoc' hjj
    have i10 : i < js.length := (List.getElem?_eq_some_iff.mp hjj).1
    dsimp only [gName]
    refine ⟨_, rfl, _, rfl, wl, 8, rfl, D9.well, by decide, by decide, fun d3 H10 g0 g1 D10 => ⟨_, _, rfl, rfl, wl, 1 + d3, rfl, D10.well, by omega, by omega, fun z H11 lz hz D11 => ?_⟩⟩
    have D911 := D10.trans D11
    have D711 := D9.trans D911
    have h11 := D911.keep _ _ nDp h9
    have hp11 : H11 p = some (.tup [.int j.1, .int j.2]) := D711.keep _ _ (not_well D7.well hp) hp
    have zl : z.length ≤ 8 := by omega
    have z1 : 1 ≤ z.length := by omega
    have gp : gPiece (.str z) = true := by
      show (okz z && (decide (1 ≤ z.length) && decide (z.length ≤ 8))) = true
      rw [hz.ok, decide_eq_true z1, decide_eq_true zl]
      rfl
    have bz : Bd (.str z) 60 2 0 := ⟨by simp only [wt]; omega, Nat.zero_le _, by simp only [tidy]; exact fun c hc => .inl (hz c hc)⟩
    refine ⟨_, rfl, _, rfl, Dp, _, rfl, DPut.t (k := kP j) h11 hp11 (sz_lt (by omega)), ?_⟩
    refine ⟨_, _, rfl, D711.put D7.well hDp, upd_same, ?_, fun j' hj' => ?_⟩
    · have := length_putK kvs (kP j) (V.str z)
      omega
    · rw [valV_put]
      by_cases q : kP j' = kP j
      · rw [if_pos q]
        exact ⟨z, rfl, gp, bz⟩
      · rw [if_neg q]
        rw [tk] at hj'
        rcases List.mem_append.mp hj' with h | h
        · exact hj j' h
        · exact absurd (by rw [List.mem_singleton.mp h]) q
  rintro σ' H8 ⟨x6, kvs, rfl, D8, h8', _, hj⟩
  rw [yl, List.take_length] at hj
  let pf : Int × Int → Str := fun j => match valV kvs (kP j) with | some (.str z) => z | _ => ⟨#[]⟩
  have hpf : ∀ j ∈ js, valV kvs (kP j) = some (.str (pf j)) ∧ gPiece (.str (pf j)) = true ∧ Bd (.str (pf j)) 60 2 0 := fun j h => by
    obtain ⟨z, h1, h2, h3⟩ := hj j h
    have : pf j = z := by
      show (match valV kvs (kP j) with | some (.str z) => z | _ => ⟨#[]⟩) = z
      rw [h1]
    rw [this]
    exact ⟨h1, h2, h3⟩
  clear_value pf
  have PM : Pd wl.w H8 Dp js pf := ⟨⟨kvs, h8', fun j h => (hpf j h).1⟩, nDp, fun j h => (hpf j h).2.1, fun j h => (hpf j h).2.2⟩
  have IM8 := IM7.keep D7.well D8
  have NM8 := NM7.keep D8
  have VM8 := VM.drawn D8
  have W8 := D8.well
  -- members, heads, blocks, mends, epoch
  refine ⟨_, rfl, wl, rfl, W8, fun f mp H9 hf hmp D9 h9 => ?_⟩
  dsimp only [gName]
  have W9 := D9.well
  have am : At wl.w C H9 (.ref mp) (memU f) := mem_at hf W9 h9
  refine ⟨_, rfl, _, rfl, _, rfl, wl, Dv, N, ns', js, Vs, rfl, W9, VM8.drawn D9, NM8.keep D9, fun vh hs H10 D10 ah hd => ?_⟩
  dsimp only [gName]
  have W10 := D10.well
  have IM9 := IM8.keep W8 D9
  have IM10 := IM9.keep W9 D10
  have PM10 := (PM.drawn D9).drawn D10
  have hd3 := hd.n
  refine ⟨_, rfl, _, rfl, _, rfl, _, rfl, wl, vh, I, Dp, hs, ys, js, pf, rfl, W10, ah, hd.all ok, by omega, IM10, PM10, hd.led ok, fun vb is H11 D11 ab sb cl => ?_⟩
  dsimp only [gName]
  have W11 := D11.well
  have D811 := (D9.trans D10).trans D11
  have IM11 := IM10.keep W10 D11
  have PM11 := PM10.drawn D11
  refine ⟨_, rfl, _, rfl, _, rfl, _, rfl, _, rfl, wl, Dv, N, I, Dp, ns', ys, js, Vs, pf, rfl, W11, VM8.drawn D811, NM8.keep D811, IM11, PM11, fun vm ms H12 D12 amd ms8 mok => ?_⟩
  dsimp only [gName]
  have W12 := D12.well
  refine ⟨_, rfl, wl, rfl, W12, fun e H13 e0 e1 D13 => ?_⟩
  dsimp only [gName]
  have W13 := D13.well
  have D1113 := D12.trans D13
  have D1013 := D11.trans D1113
  have D913 := D10.trans D1013
  have D813 := D9.trans D913
  have am13 : At wl.w C H13 (.ref mp) (memU f) := At.drawn D913 am
  have ah13 : At wl.w C H13 vh (.tup hs) := At.drawn D1013 ah
  have ab13 : At wl.w C H13 vb (.tup (blks pf is)) := At.drawn D1113 ab
  have amd13 : At wl.w C H13 vm (.lst (ms.map (mdU pf))) := At.drawn D13 amd
  have IM13 := IM11.keep W11 D1113
  have PM13 := PM11.drawn D1113
  have NM13 := NM8.keep D813
  have hw13 := W13.lst
  have ev : Ev0 e f ns' js Vs pf := ⟨e0, e1, hf, ok, NM.n3, NM.g, NM.st, jl.2, kpw, IM.b, fun j h => (hpf j h).2.1, fun j h => (hpf j h).2.2⟩
  have r0 : Rn Vs js hs hs is := Rn.start hd kpw sb cl
  obtain ⟨gi, wi⟩ := inst_ok ev hd r0.s r0.b
  have hw13' : ∃ o, H13 wl.w = some o := hw13.elim fun l h => ⟨_, h⟩
  clear hpf hj h8' VM VM8 NM NM6 NM7 NM8 IM IM7 IM8 IM9 IM10 IM11 PM PM10 PM11
  -- the table
  refine ⟨rfl, fun H14 e14 => ?_⟩
  have D14 : Drawn wl H13 H14 := (Drawn.refl W13).same e14
  have hw14 : ∃ o, H14 wl.w = some o := D14.well.at
  refine (ed_tup (C := C) (w := wl.w) (H := H14) (us := [.str "install", .int e, memU f, .tup [], .tup hs, .tup (blks pf is)]) hw14 (eds_cons (ed_ev (te := tC (.str "install")) ev_c (.str "install")) (eds_cons (ed_ev (te := tVar 11) (ev_var rfl) (.int e)) (eds_cons (ed_ev (te := tVar 7) (ev_var rfl) (At.drawn D14 am13)) (eds_cons (ed_tup (us := []) hw14 eds_nil (by decide)) (eds_cons (ed_ev (te := tVar 8) (ev_var rfl) (At.drawn D14 ah13)) (eds_cons (ed_ev (te := tVar 9) (ev_var rfl) (At.drawn D14 ab13)) eds_nil)))))) (by show (6 : Nat) ≤ 100000; decide)) H14 (Ex.refl H14) _ fun dv H15 e15 a15 => ?_
  have D15 := D14.same e15
  refine ⟨.ref aBa, dv, _, wl.w, rfl, BK.2 H15, a15, D15.well.lst, gi, wi, fun t H16 s16 a16 => ?_⟩
  dsimp only [gName]
  have D16 := D15.same s16
  have at16 : At wl.w C H16 t (.tup (tabL e f hs (blks pf is))) := a16
  have hw16 : ∃ o, H16 wl.w = some o := D16.well.at
  -- begin, rest
  refine asgQ ((ed_tup (C := C) (w := wl.w) (H := H16) (us := [.int e, memU f, .tup [], .int 0]) hw16 (eds_cons (ed_ev (te := tVar 11) (ev_var rfl) (.int e)) (eds_cons (ed_ev (te := tVar 7) (ev_var rfl) (At.drawn D16 am13)) (eds_cons (ed_tup (us := []) hw16 eds_nil (by decide)) (eds_cons (ed_ev (te := tC (.int 0)) ev_c (.int 0)) eds_nil)))) (by show (4 : Nat) ≤ 100000; decide)) H16 (Ex.refl H16) _ fun bv H17 e17 ab17 => ?_)
  have D17 := D16.same e17
  have hw17 : ∃ o, H17 wl.w = some o := D17.well.at
  refine asgQ ((ed_tup (C := C) (w := wl.w) (H := H17) (us := [.tup [], .tup [.int 0, .int 0], .non, .non]) hw17 (eds_cons (ed_tup (us := []) hw17 eds_nil (by decide)) (eds_cons (ed_tup (us := [.int 0, .int 0]) hw17 (eds_cons (ed_ev (te := tC (.int 0)) ev_c (.int 0)) (eds_cons (ed_ev (te := tC (.int 0)) ev_c (.int 0)) eds_nil)) (by decide)) (eds_cons (ed_ev (te := tC .non) ev_c .non) (eds_cons (ed_ev (te := tC .non) ev_c .non) eds_nil)))) (by show (4 : Nat) ≤ 100000; decide)) H17 (Ex.refl H17) _ fun rv H18 e18 ar18 => ?_)
  have D18 := D17.same e18
  have hw18 : ∃ o, H18 wl.w = some o := D18.well.at
  have at18 : At wl.w C H18 t (.tup (tabL e f hs (blks pf is))) := ex_at (e17.trans e18) at16
  have ab18 : At wl.w C H18 bv (.tup [.int e, memU f, .tup [], .int 0]) := ex_at e18 ab17
  have gt0 := tab_ok ev hd r0.s r0.b
  have bt0 : wt (.tup (tabL e f hs (blks pf is))) ≤ 160000 ∧ dep (.tup (tabL e f hs (blks pf is))) < 8 := ⟨Nat.le_trans gt0.2.w (by decide), Nat.lt_of_le_of_lt gt0.2.d (by decide)⟩
  have hp0 := pln_tab (e := e) (is := is) (pf := pf) (hd.all ok) hf
  -- what is due of the first table
  refine q_when (b := false) (et_not (a := true) (et_B (ev_al (K := K) (w := wl.w) (w2 := wl.w) (u := .tup (tabL e f hs (blks pf is))) (ed_ev (te := tVar 12) (ev_var rfl) at18) (ed_cat (us1 := [.int e, memU f, .tup [], .int 0] ++ [.tup hs, .tup (blks pf is)]) (us2 := [.tup [], .tup [.int 0, .int 0], .non, .non]) hw18 (ed_cat hw18 (ed_ev (te := tVar 13) (ev_var rfl) ab18) (ed_tup hw18 (eds_cons (ed_ev (te := tVar 8) (ev_var rfl) (At.drawn D18 ah13)) (eds_cons (ed_ev (te := tVar 9) (ev_var rfl) (At.drawn D18 ab13)) eds_nil)) (by show (2 : Nat) ≤ 100000; decide)) (by show (4 : Nat) + 2 ≤ 100000; decide)) (ed_ev (te := tVar 14) (ev_var rfl) ar18) (by show (6 : Nat) + 4 ≤ 100000; decide)) bt0.1 hp0 bt0.2))) (fun q => by cases q) (fun _ H19 e19 => ?_)
  have D19 := D18.same e19
  have at19 := ex_at e19 at18
  have hw19 := D19.well.lst
  -- the greatest
  refine asgQ (callQ (ea_cons (ev_var rfl) (ea_cons (ev_var rfl) (ea_cons (ev_var rfl) ea_nil))) fun H20 e20 => ⟨t, vm, N, wl.w, e, f, ns', js, Vs, hs, blks pf is, pf, ms, rfl, ex_at e20 at19, ex_at e20 (At.drawn D19 amd13), hw19.imp fun l h => e20 _ _ h, ok, hd, fun m hm => (mok m hm).h, ms8, pw, ev.z3, e20 _ _ (D19.keep _ _ nN NM13.h), fun gv H21 gs s21 ag tg => ?_⟩)
  have D21 := (D19.same e20).same s21
  have e1921 := e20.trans s21
  have at21 := ex_at e1921 at19
  have ab21 := ex_at (e19.trans e1921) ab18
  have ar21 := ex_at (e19.trans e1921) ar18
  have hw21 := D21.well.lst
  have hw21' : ∃ o, H21 wl.w = some o := D21.well.at
  have amd21 := At.drawn D21 amd13
  have IM21 := IM13.keep W13 D21
  have PM21 := PM13.drawn D21
  have bl8 : ∀ is2 : List (Int × Int), is2.Sublist js → Bl8 pf js is2 := fun is2 q => ⟨fun j hj => (idV_ok (ev.jb j (q.subset hj))).2, Nat.le_trans q.length_le jl.2⟩
  -- the due table
  refine asgQ ((ed_cat (K := K) (w := wl.w) (C := C) (us1 := [.int e, memU f, .tup [], .int 0] ++ [.tup gs, .tup (blks pf (js.filter fun j => decide (j ∈ is ++ ms.flatMap (·.2))))]) (us2 := [.tup [], .tup [.int 0, .int 0], .non, .non]) hw21' (ed_cat hw21' (ed_ev (te := tVar 13) (ev_var rfl) ab21) (ed_tup hw21' (eds_cons (ed_ev (te := tVar 15) (ev_var rfl) ag) (eds_cons (te := tCall (spAb C) [] E0 (tCons (tVar 12) (tCons (tVar 10) (tCons (tVar 3) (tCons (tVar 5) tNil))))) (fun G1 g1 Q q => callQ (ea_cons (ev_var rfl) (ea_cons (ev_var rfl) (ea_cons (ev_var rfl) (ea_cons (ev_var rfl) ea_nil)))) fun G2 g2 => ⟨t, vm, I, Dp, wl.w, e, f, ys, js, is, hs, pf, ms, rfl, ex_at (g1.trans g2) at21, ex_at (g1.trans g2) amd21, hw21.imp fun l h => (g1.trans g2) _ _ h, bl8 is sb, fun m hm => bl8 m.2 (mok m hm).s, ms8, (g1.trans g2) _ _ IM21.h, IM21.p.ex (g1.trans g2), jl.2, PM21.ex (g1.trans g2), fun v H' s a => q v H' (g2.trans s) a⟩) eds_nil)) (by show (2 : Nat) ≤ 100000; decide)) (by show (4 : Nat) + 2 ≤ 100000; decide)) (ed_ev (te := tVar 14) (ev_var rfl) ar21) (by show (6 : Nat) + 4 ≤ 100000; decide)) H21 (Ex.refl H21) _ fun dv2 H22 e22 ad22' => ?_)
  have ad22 : At wl.w C H22 dv2 (.tup (tabL e f gs (blks pf (js.filter fun j => decide (j ∈ is ++ ms.flatMap (·.2)))))) := ad22'
  clear ad22'
  have D22 := D21.same e22
  have dok : ∀ d ∈ ms.map (mdU pf), DdOk pf Vs js d := fun d hd' => by
    obtain ⟨m, hm, rfl⟩ := List.mem_map.mp hd'
    exact .inl ⟨m, rfl, mok m hm⟩
  have mpl : plnL (ms.map (mdU pf)) := plnL_all.mpr fun u hu => by
    obtain ⟨m, hm, rfl⟩ := List.mem_map.mp hu
    exact mdU_pln pf ok (mok m hm)
  -- the first run
  refine asgQ (callQ (ea_cons (ev_var rfl) (ea_cons (ev_var rfl) (ea_cons (ev_var rfl) ea_nil))) fun H23 e23 => ⟨t, vm, N, wl.w, e, f, ns', js, Vs, pf, hs, hs, is, ms.map (mdU pf), rfl, ex_at (e22.trans e23) at21, ex_at (e22.trans e23) amd21, hw21.imp fun l h => (e22.trans e23) _ _ h, ev, r0, dok, (e22.trans e23) _ _ (D21.keep _ _ nN NM13.h), fun v1 H24 hs1 is1 s24 a1 r1 x1 => ?_⟩)
  have eh1 : hs1 = gs := run_hd (pf := pf) ok tg r1 (fun d hd' => .inl hd') fun d hd' => hd'
  subst eh1
  have eb1 : is1 = js.filter fun j => decide (j ∈ is ++ ms.flatMap (·.2)) := run_bl (pf := pf) kpw r1 x1 fun d => Iff.rfl
  rw [← eb1] at ad22
  have e2224 := e23.trans s24
  have D24 := D22.same e2224
  have D2124 : Drawn wl H21 H24 := (Drawn.refl D21.well).same (e22.trans e2224)
  -- the second run
  refine ⟨_, rfl, _, rfl, _, rfl, wl, vm, ms.map (mdU pf), rfl, D24.well, At.drawn D24 amd13, by rw [List.length_map]; exact ms8, mpl, fun ov os H25 D25 ao on om => ⟨_, rfl, ?_⟩⟩
  have D1325 := D24.trans D25
  have dok2 : ∀ d ∈ os, DdOk pf Vs js d := fun d hd' => dok d ((om d).mp hd')
  refine ⟨t, ov, N, wl.w, e, f, ns', js, Vs, pf, hs, hs, is, os, rfl, At.drawn (D2124.trans D25) at21, ao, D1325.well.lst, ev, r0, dok2, D1325.keep _ _ nN NM13.h, fun v2 H26 hs2 is2 s26 a2 r2 x2 => ?_⟩
  dsimp only [gName]
  have eh2 : hs2 = hs1 := run_hd (pf := pf) ok tg r2 (fun d hd' => .inl ((om d).mp hd')) fun d hd' => (om d).mpr hd'
  subst eh2
  have eb2 : is2 = js.filter fun j => decide (j ∈ is ++ ms.flatMap (·.2)) := run_bl (pf := pf) kpw r2 x2 om
  have D26 := D1325.same s26
  have D2426 : Drawn wl H24 H26 := D25.same s26
  -- the third run
  refine ⟨_, rfl, _, rfl, _, rfl, _, rfl, wl, vm, ms.map (mdU pf), rfl, D26.well, At.drawn D26 amd13, by rw [List.length_map]; exact ms8, mpl, fun ov3 os3 H27 D27 ao3 on3 om3 => ?_⟩
  have mpl3 : plnL os3 := plnL_all.mpr fun u hu => plnL_all.mp mpl u ((om3 u).mp hu)
  refine ⟨wl, ov3, os3, rfl, D27.well, ao3, on3, mpl3, fun ov4 os4 H28 D28 ao4 on4 m4 m4' => ⟨_, rfl, ?_⟩⟩
  have D2628 := D27.trans D28
  have D28' := D26.trans D2628
  have dok4 : ∀ d ∈ os4, DdOk pf Vs js d := fun d hd' => by
    rcases m4 d hd' with q | q
    · exact dok d ((om3 d).mp q)
    · exact .inr q
  refine ⟨t, ov4, N, wl.w, e, f, ns', js, Vs, pf, hs, hs, is, os4, rfl, At.drawn ((D2124.trans D2426).trans D2628) at21, ao4, D28'.well.lst, ev, r0, dok4, D28'.keep _ _ nN NM13.h, fun v3 H29 hs3 is3 s29 a3 r3 x3 => ?_⟩
  dsimp only [gName]
  have eh3 : hs3 = hs2 := run_hd (pf := pf) ok tg r3 (fun d hd' => (m4 d hd').imp (fun q => (om3 d).mp q) id) fun d hd' => m4' d ((om3 d).mpr hd')
  subst eh3
  have D29 := D28'.same s29
  have D2629 : Drawn wl H26 H29 := D2628.same s29
  have D2429 := D2426.trans D2629
  have D2129 := D2124.trans D2429
  have av1 := At.drawn D2429 a1
  have av2 := At.drawn D2629 a2
  have adv := At.drawn (((Drawn.refl D22.well).same e2224).trans D2429) ad22
  have abv := At.drawn D2129 ab21
  have arv := At.drawn D2129 ar21
  have agv := At.drawn D2129 ag
  have IM29 := IM21.keep D21.well D2129
  have PM29 := PM21.drawn D2129
  have hw29 := D29.well.lst
  have hw29' : ∃ o, H29 wl.w = some o := D29.well.at
  obtain ⟨p1, xs1, rfl, _⟩ := at_tup av1
  obtain ⟨p2, xs2, rfl, _⟩ := at_tup av2
  obtain ⟨p3, xs3, rfl, _⟩ := at_tup a3
  refine q_when (b := false) (et_or (a := false) (et_some rfl) fun _ => et_or (a := false) (et_some rfl) fun _ => et_some rfl) (fun q => by cases q) (fun _ H30 e30 => ?_)
  have hd9 := r1.hd ok NM13.st NM13.n3
  have gt1 := tab_ok ev hd9 r1.s r1.b
  have bt1 : wt (.tup (tabL e f hs3 (blks pf is1))) ≤ 160000 ∧ dep (.tup (tabL e f hs3 (blks pf is1))) < 8 := ⟨Nat.le_trans gt1.2.w (by decide), Nat.lt_of_le_of_lt gt1.2.d (by decide)⟩
  have hp1 := pln_tab (e := e) (is := is1) (pf := pf) (hd9.all ok) hf
  have e21 : is2 = is1 := eb2.trans eb1.symm
  subst e21
  refine q_when (b := false) (et_or (a := false) (et_not (a := true) (et_B (ev_al (K := K) (ed_ev (te := tVar 17) (ev_var rfl) (ex_at e30 av1)) (ed_ev (te := tVar 16) (ev_var rfl) (ex_at e30 adv)) bt1.1 hp1 bt1.2))) fun _ => et_not (a := true) (et_B (ev_al (K := K) (ed_ev (te := tVar 18) (ev_var rfl) (ex_at e30 av2)) (ed_ev (te := tVar 16) (ev_var rfl) (ex_at e30 adv)) bt1.1 hp1 bt1.2))) (fun q => by cases q) (fun _ H31 e31 => ?_)
  have e2931 := e30.trans e31
  -- what the greatest lead to
  refine asgQ (callQ (ea_cons (ev_var rfl) (ea_cons (ev_var rfl) ea_nil)) fun H32 e32 => ⟨gv, I, wl.w, hs3, ys, js, rfl, ex_at (e2931.trans e32) agv, hd9.all ok, by have := hd9.n; omega, (e2931.trans e32) _ _ IM29.h, IM29.p.ex (e2931.trans e32), by omega, fun L ls H33 hL0 s33 hL pL => ?_⟩)
  have e2933 := (e2931.trans e32).trans s33
  have hw33 : ∃ o, H33 wl.w = some o := hw29'.imp fun o h => e2933 _ _ h
  have hw33l : ∃ l, H33 wl.w = some (.lst l) := hw29.imp fun l h => e2933 _ _ h
  refine asgQ ((ed_cat (K := K) (w := wl.w) (C := C) (us1 := [.int e, memU f, .tup [], .int 0] ++ [.tup hs3, .tup (blks pf (js.filter fun j => decide (j ∈ js.filter fun j => decide (j ∈ ledPs hs3))))]) (us2 := [.tup [], .tup [.int 0, .int 0], .non, .non]) hw33 (ed_cat hw33 (ed_ev (te := tVar 13) (ev_var rfl) (ex_at e2933 abv)) (ed_tup hw33 (eds_cons (ed_ev (te := tVar 15) (ev_var rfl) (ex_at e2933 agv)) (eds_cons (ed_blks (K := K) (C := C) (w := wl.w) (I := I) (iI := 3) (iP := 5) (j := 6) (vs := [6]) (tt := tTest (tOp (rInD K) (tVar 6) (tVar 20))) (g := fun j => decide (j ∈ js.filter fun j => decide (j ∈ ledPs hs3))) (xs := ys) hw33l rfl (e2933 _ _ IM29.h) (IM29.p.ex e2933) (by omega) (PM29.ex e2933) (fun _ => rfl) (fun _ => rfl) (fun _ => rfl) (fun p j G _ eg hpj => et_test (ev_op (ev_var rfl) (ev_var rfl) (rv_inP2 (eg _ _ hL) (pL.ex eg) hpj)))) eds_nil)) (by show (2 : Nat) ≤ 100000; decide)) (by show (4 : Nat) + 2 ≤ 100000; decide)) (ed_ev (te := tVar 14) (ev_var rfl) (ex_at e2933 arv)) (by show (6 : Nat) + 4 ≤ 100000; decide)) H33 (Ex.refl H33) _ fun lv H34 e34 al34' => ?_)
  have al34 : At wl.w C H34 lv (.tup (tabL e f hs3 (blks pf (js.filter fun j => decide (j ∈ js.filter fun j => decide (j ∈ ledPs hs3)))))) := al34'
  have e2934 := e2933.trans e34
  have hw34 : ∃ l, H34 wl.w = some (.lst l) := hw29.imp fun l h => e2934 _ _ h
  refine ret1 ?_
  refine callQ (ea_cons (ev_var rfl) (ea_cons (ev_var rfl) ea_nil)) fun H35 e35 => ⟨.ref p1, lv, wl.w, e, f, ns', js, Vs, pf, _, hs3, _, rfl, ex_at (e2934.trans e35) av1, by rw [run_last kpw r1]; exact ex_at e35 al34, hw34.imp fun l h => e35 _ _ h, ev, r1, fun H36 s36 => ⟨true, rfl, ?_⟩⟩
  rw [if_pos rfl]
  have e3436 := e35.trans s36
  refine callQ (ea_cons (ev_var rfl) (ea_cons (ev_var rfl) ea_nil)) fun H37 e37 => ⟨.ref p3, lv, wl.w, e, f, ns', js, Vs, pf, _, hs3, _, rfl, ex_at ((e2934.trans e3436).trans e37) a3, by rw [run_last kpw r3]; exact ex_at (e3436.trans e37) al34, hw34.imp fun l h => (e3436.trans e37) _ _ h, ev, r3, fun H38 s38 => k H38⟩
end
end Hs
namespace Hs
open PySem PySem.Spec PyProof.Rows L2 Hu Evl
/-- all that the law's run reaches -/
structure La (K : PySem.W.Frag) (w : World) (mg : Str → Option Value) : Prop where
  B : Bt mg
  Z : Bz mg
  N : Cn mg
  N2 : Ct mg
  P64 : ∃ t, mg "MOST_PLACES" = some (.int 64 t)
  di : mg "dict" = none
  E : ∃ C CN, Xc K mg "NoTable" C "NoTable" ∧ Eqx K C ∧ Ec K mg "NoTable" C ∧ Ec K mg "NoName" CN
  F : ∃ a, Fh K mg a
  Ba : ∃ a, BareK K mg a
  Bd : ∃ a, mg "BARE_DEEDS" = some (.ref a) ∧ TupK K a bareDs
  ds : ∃ (a : Addr) (es : Array DictEntry) (n : Nat), KTab K w mg "DEEDS" dT a es n
  dg : ∃ a, mg "DOINGS" = some (.ref a) ∧ (∃ (f : Addr) (d : FuncData), KDct K w a "install" (.ref f) ∧ Df K mg "_installed" sInst5 ["table", "parts"] f d) ∧ (∃ (f : Addr) (d : FuncData), KDct K w a "collect" (.ref f) ∧ Df K mg "_collected" sColl5 ["table", "parts"] f d) ∧ (∃ (f : Addr) (d : FuncData), KDct K w a "mend" (.ref f) ∧ Df K mg "_mended" sMended5 ["table", "parts"] f d)
  dis_integer : ∃ (f : Addr) (d : FuncData), Df K mg "is_integer" sIsInt ["thing"] f d
  dis_from_one : ∃ (f : Addr) (d : FuncData), Df K mg "is_from_one" sFromOne ["thing"] f d
  dis_pair : ∃ (f : Addr) (d : FuncData), Df K mg "is_pair" sPair ["thing"] f d
  dis_signs : ∃ (f : Addr) (d : FuncData), Df K mg "is_signs" sIsSigns ["thing"] f d
  dis_ascending : ∃ (f : Addr) (d : FuncData), Df K mg "is_ascending" sAscending ["things"] f d
  dis_home : ∃ (f : Addr) (d : FuncData), Df K mg "is_home" sHome ["thing"] f d
  dis_hand : ∃ (f : Addr) (d : FuncData), Df K mg "is_hand" sHand ["thing"] f d
  dis_name : ∃ (f : Addr) (d : FuncData), Df K mg "is_name" sName ["thing"] f d
  dis_piece : ∃ (f : Addr) (d : FuncData), Df K mg "is_piece" sPiece ["thing"] f d
  dis_block_id : ∃ (f : Addr) (d : FuncData), Df K mg "is_block_id" sBlockId ["thing"] f d
  dis_row : ∃ (f : Addr) (d : FuncData), Df K mg "is_row" sRow ["thing"] f d
  dis_stamp : ∃ (f : Addr) (d : FuncData), Df K mg "is_stamp" sStamp ["thing"] f d
  dis_members : ∃ (f : Addr) (d : FuncData), Df K mg "is_members" sMembers ["thing"] f d
  dis_count : ∃ (f : Addr) (d : FuncData), Df K mg "is_count" sCount ["thing"] f d
  dis_tuple_of : ∃ (f : Addr) (d : FuncData), Df K mg "is_tuple_of" sTO ["many", "thing"] f d
  dis_ahead : ∃ (f : Addr) (d : FuncData), Df K mg "is_ahead" sAhead ["thing"] f d
  dis_vote : ∃ (f : Addr) (d : FuncData), Df K mg "is_vote" sVote ["thing"] f d
  dis_heads : ∃ (f : Addr) (d : FuncData), Df K mg "is_heads" sHeads ["thing"] f d
  d_is_named_head : ∃ (f : Addr) (d : FuncData), Df K mg "_is_named_head" sNamed ["thing"] f d
  dis_blocks : ∃ (f : Addr) (d : FuncData), Df K mg "is_blocks" sBlocks ["thing"] f d
  d_is_block : ∃ (f : Addr) (d : FuncData), Df K mg "_is_block" sBlk ["thing"] f d
  dis_names : ∃ (f : Addr) (d : FuncData), Df K mg "is_names" sNames ["thing"] f d
  dis_ids : ∃ (f : Addr) (d : FuncData), Df K mg "is_ids" sIds ["thing"] f d
  dis_counts : ∃ (f : Addr) (d : FuncData), Df K mg "is_counts" sCounts ["thing", "most"] f d
  dis_part : ∃ (f : Addr) (d : FuncData), Df K mg "is_part" sPart ["kind", "thing"] f d
  d_is_lot : ∃ (f : Addr) (d : FuncData), Df K mg "_is_lot" sLot ["kind", "thing"] f d
  dare_parts : ∃ (f : Addr) (d : FuncData), Df K mg "are_parts" sParts ["kinds", "things"] f d
  d_are_leases : ∃ (f : Addr) (d : FuncData), Df K mg "_are_leases" sLeases ["thing"] f d
  d_is_lease : ∃ (f : Addr) (d : FuncData), Df K mg "_is_lease" sLease ["thing"] f d
  d_are_kept : ∃ (f : Addr) (d : FuncData), Df K mg "_are_kept" sKept ["parts"] f d
  dbare_table : ∃ (f : Addr) (d : FuncData), Df K mg "bare_table" sBareT [] f d
  dis_table : ∃ (f : Addr) (d : FuncData), Df K mg "is_table" sTable ["thing"] f d
  dis_deed : ∃ (f : Addr) (d : FuncData), Df K mg "is_deed" sDeed ["thing"] f d
  dchanged : ∃ (f : Addr) (d : FuncData), Df K mg "changed" sChanged ["table", "at", "part"] f d
  dheads_by_name : ∃ (f : Addr) (d : FuncData), Df K mg "heads_by_name" sHeadsBy ["heads"] f d
  dheads_in_order : ∃ (f : Addr) (d : FuncData), Df K mg "heads_in_order" sHeadsIn ["found"] f d
  dled_ids : ∃ (f : Addr) (d : FuncData), Df K mg "led_ids" sLedIds ["heads"] f d
  dled_by : ∃ (f : Addr) (d : FuncData), Df K mg "led_by" sLedBy ["heads", "blocks"] f d
  dbehind : ∃ (f : Addr) (d : FuncData), Df K mg "behind" sBehind ["table", "deed"] f d
  dlets : ∃ (f : Addr) (d : FuncData), Df K mg "lets" sLets ["table", "deed"] f d
  ddone : ∃ (f : Addr) (d : FuncData), Df K mg "done" sDone ["table", "deed"] f d
  dis_closed : ∃ (f : Addr) (d : FuncData), Df K mg "is_closed" sClosed ["table"] f d
  dhead_at : ∃ (f : Addr) (d : FuncData), Df K mg "head_at" sHeadAt8 ["table", "name"] f d
  dhead_of : ∃ (f : Addr) (d : FuncData), Df K mg "head_of" sHeadOf8 ["table", "name"] f d
  dled_blocks : ∃ (f : Addr) (d : FuncData), Df K mg "led_blocks" sLedBlocks ["table"] f d
  d_law_mixed : ∃ (f : Addr) (d : FuncData), Df K mg "_law_mixed" sMixed ["number"] f d
  d_law_well : ∃ (f : Addr) (d : FuncData), Df K mg "_law_well" sWell ["script"] f d
  d_law_filled : ∃ (f : Addr) (d : FuncData), Df K mg "_law_filled" sFilled ["well"] f d
  d_law_draw : ∃ (f : Addr) (d : FuncData), Df K mg "_law_draw" sDraw ["well", "many"] f d
  d_law_number : ∃ (f : Addr) (d : FuncData), Df K mg "_law_number" lNumber ["well"] f d
  d_law_signs : ∃ (f : Addr) (d : FuncData), Df K mg "_law_signs" sSigns [] f d
  d_law_string : ∃ (f : Addr) (d : FuncData), Df K mg "_law_string" sString ["well", "many"] f d
  d_law_name : ∃ (f : Addr) (d : FuncData), Df K mg "_law_name" lName ["well"] f d
  d_law_unlike : ∃ (f : Addr) (d : FuncData), Df K mg "_law_unlike" lUnlike ["things"] f d
  d_law_id : ∃ (f : Addr) (d : FuncData), Df K mg "_law_id" lId ["well"] f d
  d_law_stamp : ∃ (f : Addr) (d : FuncData), Df K mg "_law_stamp" lStamp ["well"] f d
  d_law_row : ∃ (f : Addr) (d : FuncData), Df K mg "_law_row" lRow ["well", "ids"] f d
  d_law_members : ∃ (f : Addr) (d : FuncData), Df K mg "_law_members" lMembers ["well"] f d
  d_law_alike : ∃ (f : Addr) (d : FuncData), Df K mg "_law_alike" lAlike ["told", "due"] f d
  d_law_versions : ∃ (f : Addr) (d : FuncData), Df K mg "_law_versions" lVersions ["well", "names", "ids"] f d
  d_law_some : ∃ (f : Addr) (d : FuncData), Df K mg "_law_some" lSome ["well", "versions", "names"] f d
  d_law_led : ∃ (f : Addr) (d : FuncData), Df K mg "_law_led" lLed ["heads", "ids"] f d
  d_law_with_blocks : ∃ (f : Addr) (d : FuncData), Df K mg "_law_with_blocks" lWith ["well", "heads", "ids", "pieces"] f d
  d_law_mends : ∃ (f : Addr) (d : FuncData), Df K mg "_law_mends" lMends ["well", "versions", "names", "ids", "pieces"] f d
  d_law_turned : ∃ (f : Addr) (d : FuncData), Df K mg "_law_turned" lTurned ["well", "mends"] f d
  d_law_with_collects : ∃ (f : Addr) (d : FuncData), Df K mg "_law_with_collects" lWithCol ["well", "mends"] f d
  d_law_stamps : ∃ (f : Addr) (d : FuncData), Df K mg "_law_stamps" lStamps8 ["table", "names"] f d
  d_law_run : ∃ (f : Addr) (d : FuncData), Df K mg "_law_run" lRun ["table", "deeds", "names"] f d
  d_law_greatest : ∃ (f : Addr) (d : FuncData), Df K mg "_law_greatest" lGreatest ["table", "mends", "names"] f d
  d_law_all_blocks : ∃ (f : Addr) (d : FuncData), Df K mg "_law_all_blocks" lAllB ["table", "mends", "ids", "pieces"] f d
  d_law_collected_fits : ∃ (f : Addr) (d : FuncData), Df K mg "_law_collected_fits" lFits ["table", "due"] f d
section
variable {P : Program} {wd : World} {K : PySem.W.Frag} {mg : Str → Option Value} {base : Heap}
theorem jw_sm5 {C : Addr} {k : Nat} {x p : Str} {f : Addr} {fd : FuncData} {g : U → Bool} (J : Jw P wd K mg base C k x p f fd OkT g) : Jw P wd K mg base C k x p f fd Sm g :=
  ⟨J.ok.imp fun vs H Q E ⟨v, u, w, h1, h2, h3, h4, h5⟩ => ⟨v, u, w, h1, h2, h3, ⟨h4⟩, h5⟩, J.g, J.kp, J.b⟩
set_option maxHeartbeats 4000000 in
theorem ok_all {f : Addr} {fd : FuncData} (F : Fun K "law" "law" lLw f fd) (L : La K wd mg) : FnOk P wd K mg base CX0 13 f fd ["script"] (spLw K) := by
  obtain ⟨f_is_integer, d_is_integer, D_is_integer⟩ := L.dis_integer
  have F_is_integer := D_is_integer.F
  obtain ⟨f_is_from_one, d_is_from_one, D_is_from_one⟩ := L.dis_from_one
  have F_is_from_one := D_is_from_one.F
  obtain ⟨f_is_pair, d_is_pair, D_is_pair⟩ := L.dis_pair
  have F_is_pair := D_is_pair.F
  obtain ⟨f_is_signs, d_is_signs, D_is_signs⟩ := L.dis_signs
  have F_is_signs := D_is_signs.F
  obtain ⟨f_is_ascending, d_is_ascending, D_is_ascending⟩ := L.dis_ascending
  have F_is_ascending := D_is_ascending.F
  obtain ⟨f_is_home, d_is_home, D_is_home⟩ := L.dis_home
  have F_is_home := D_is_home.F
  obtain ⟨f_is_hand, d_is_hand, D_is_hand⟩ := L.dis_hand
  have F_is_hand := D_is_hand.F
  obtain ⟨f_is_name, d_is_name, D_is_name⟩ := L.dis_name
  have F_is_name := D_is_name.F
  obtain ⟨f_is_piece, d_is_piece, D_is_piece⟩ := L.dis_piece
  have F_is_piece := D_is_piece.F
  obtain ⟨f_is_block_id, d_is_block_id, D_is_block_id⟩ := L.dis_block_id
  have F_is_block_id := D_is_block_id.F
  obtain ⟨f_is_row, d_is_row, D_is_row⟩ := L.dis_row
  have F_is_row := D_is_row.F
  obtain ⟨f_is_stamp, d_is_stamp, D_is_stamp⟩ := L.dis_stamp
  have F_is_stamp := D_is_stamp.F
  obtain ⟨f_is_members, d_is_members, D_is_members⟩ := L.dis_members
  have F_is_members := D_is_members.F
  obtain ⟨f_is_count, d_is_count, D_is_count⟩ := L.dis_count
  have F_is_count := D_is_count.F
  obtain ⟨f_is_tuple_of, d_is_tuple_of, D_is_tuple_of⟩ := L.dis_tuple_of
  have F_is_tuple_of := D_is_tuple_of.F
  obtain ⟨f_is_ahead, d_is_ahead, D_is_ahead⟩ := L.dis_ahead
  have F_is_ahead := D_is_ahead.F
  obtain ⟨f_is_vote, d_is_vote, D_is_vote⟩ := L.dis_vote
  have F_is_vote := D_is_vote.F
  obtain ⟨f_is_heads, d_is_heads, D_is_heads⟩ := L.dis_heads
  have F_is_heads := D_is_heads.F
  obtain ⟨f__is_named_head, d__is_named_head, D__is_named_head⟩ := L.d_is_named_head
  have F__is_named_head := D__is_named_head.F
  obtain ⟨f_is_blocks, d_is_blocks, D_is_blocks⟩ := L.dis_blocks
  have F_is_blocks := D_is_blocks.F
  obtain ⟨f__is_block, d__is_block, D__is_block⟩ := L.d_is_block
  have F__is_block := D__is_block.F
  obtain ⟨f_is_names, d_is_names, D_is_names⟩ := L.dis_names
  have F_is_names := D_is_names.F
  obtain ⟨f_is_ids, d_is_ids, D_is_ids⟩ := L.dis_ids
  have F_is_ids := D_is_ids.F
  obtain ⟨f_is_counts, d_is_counts, D_is_counts⟩ := L.dis_counts
  have F_is_counts := D_is_counts.F
  obtain ⟨f_is_part, d_is_part, D_is_part⟩ := L.dis_part
  have F_is_part := D_is_part.F
  obtain ⟨f__is_lot, d__is_lot, D__is_lot⟩ := L.d_is_lot
  have F__is_lot := D__is_lot.F
  obtain ⟨f_are_parts, d_are_parts, D_are_parts⟩ := L.dare_parts
  have F_are_parts := D_are_parts.F
  obtain ⟨f__are_leases, d__are_leases, D__are_leases⟩ := L.d_are_leases
  have F__are_leases := D__are_leases.F
  obtain ⟨f__is_lease, d__is_lease, D__is_lease⟩ := L.d_is_lease
  have F__is_lease := D__is_lease.F
  obtain ⟨f__are_kept, d__are_kept, D__are_kept⟩ := L.d_are_kept
  have F__are_kept := D__are_kept.F
  obtain ⟨f_bare_table, d_bare_table, D_bare_table⟩ := L.dbare_table
  have F_bare_table := D_bare_table.F
  obtain ⟨f_is_table, d_is_table, D_is_table⟩ := L.dis_table
  have F_is_table := D_is_table.F
  obtain ⟨f_is_deed, d_is_deed, D_is_deed⟩ := L.dis_deed
  have F_is_deed := D_is_deed.F
  obtain ⟨f_changed, d_changed, D_changed⟩ := L.dchanged
  have F_changed := D_changed.F
  obtain ⟨f_heads_by_name, d_heads_by_name, D_heads_by_name⟩ := L.dheads_by_name
  have F_heads_by_name := D_heads_by_name.F
  obtain ⟨f_heads_in_order, d_heads_in_order, D_heads_in_order⟩ := L.dheads_in_order
  have F_heads_in_order := D_heads_in_order.F
  obtain ⟨f_led_ids, d_led_ids, D_led_ids⟩ := L.dled_ids
  have F_led_ids := D_led_ids.F
  obtain ⟨f_led_by, d_led_by, D_led_by⟩ := L.dled_by
  have F_led_by := D_led_by.F
  obtain ⟨f_behind, d_behind, D_behind⟩ := L.dbehind
  have F_behind := D_behind.F
  obtain ⟨f_lets, d_lets, D_lets⟩ := L.dlets
  have F_lets := D_lets.F
  obtain ⟨f_done, d_done, D_done⟩ := L.ddone
  have F_done := D_done.F
  obtain ⟨f_is_closed, d_is_closed, D_is_closed⟩ := L.dis_closed
  have F_is_closed := D_is_closed.F
  obtain ⟨f_head_at, d_head_at, D_head_at⟩ := L.dhead_at
  have F_head_at := D_head_at.F
  obtain ⟨f_head_of, d_head_of, D_head_of⟩ := L.dhead_of
  have F_head_of := D_head_of.F
  obtain ⟨f_led_blocks, d_led_blocks, D_led_blocks⟩ := L.dled_blocks
  have F_led_blocks := D_led_blocks.F
  obtain ⟨f__law_mixed, d__law_mixed, D__law_mixed⟩ := L.d_law_mixed
  have F__law_mixed := D__law_mixed.F
  obtain ⟨f__law_well, d__law_well, D__law_well⟩ := L.d_law_well
  have F__law_well := D__law_well.F
  obtain ⟨f__law_filled, d__law_filled, D__law_filled⟩ := L.d_law_filled
  have F__law_filled := D__law_filled.F
  obtain ⟨f__law_draw, d__law_draw, D__law_draw⟩ := L.d_law_draw
  have F__law_draw := D__law_draw.F
  obtain ⟨f__law_number, d__law_number, D__law_number⟩ := L.d_law_number
  have F__law_number := D__law_number.F
  obtain ⟨f__law_signs, d__law_signs, D__law_signs⟩ := L.d_law_signs
  have F__law_signs := D__law_signs.F
  obtain ⟨f__law_string, d__law_string, D__law_string⟩ := L.d_law_string
  have F__law_string := D__law_string.F
  obtain ⟨f__law_name, d__law_name, D__law_name⟩ := L.d_law_name
  have F__law_name := D__law_name.F
  obtain ⟨f__law_unlike, d__law_unlike, D__law_unlike⟩ := L.d_law_unlike
  have F__law_unlike := D__law_unlike.F
  obtain ⟨f__law_id, d__law_id, D__law_id⟩ := L.d_law_id
  have F__law_id := D__law_id.F
  obtain ⟨f__law_stamp, d__law_stamp, D__law_stamp⟩ := L.d_law_stamp
  have F__law_stamp := D__law_stamp.F
  obtain ⟨f__law_row, d__law_row, D__law_row⟩ := L.d_law_row
  have F__law_row := D__law_row.F
  obtain ⟨f__law_members, d__law_members, D__law_members⟩ := L.d_law_members
  have F__law_members := D__law_members.F
  obtain ⟨f__law_alike, d__law_alike, D__law_alike⟩ := L.d_law_alike
  have F__law_alike := D__law_alike.F
  obtain ⟨f__law_versions, d__law_versions, D__law_versions⟩ := L.d_law_versions
  have F__law_versions := D__law_versions.F
  obtain ⟨f__law_some, d__law_some, D__law_some⟩ := L.d_law_some
  have F__law_some := D__law_some.F
  obtain ⟨f__law_led, d__law_led, D__law_led⟩ := L.d_law_led
  have F__law_led := D__law_led.F
  obtain ⟨f__law_with_blocks, d__law_with_blocks, D__law_with_blocks⟩ := L.d_law_with_blocks
  have F__law_with_blocks := D__law_with_blocks.F
  obtain ⟨f__law_mends, d__law_mends, D__law_mends⟩ := L.d_law_mends
  have F__law_mends := D__law_mends.F
  obtain ⟨f__law_turned, d__law_turned, D__law_turned⟩ := L.d_law_turned
  have F__law_turned := D__law_turned.F
  obtain ⟨f__law_with_collects, d__law_with_collects, D__law_with_collects⟩ := L.d_law_with_collects
  have F__law_with_collects := D__law_with_collects.F
  obtain ⟨f__law_stamps, d__law_stamps, D__law_stamps⟩ := L.d_law_stamps
  have F__law_stamps := D__law_stamps.F
  obtain ⟨f__law_run, d__law_run, D__law_run⟩ := L.d_law_run
  have F__law_run := D__law_run.F
  obtain ⟨f__law_greatest, d__law_greatest, D__law_greatest⟩ := L.d_law_greatest
  have F__law_greatest := D__law_greatest.F
  obtain ⟨f__law_all_blocks, d__law_all_blocks, D__law_all_blocks⟩ := L.d_law_all_blocks
  have F__law_all_blocks := D__law_all_blocks.F
  obtain ⟨f__law_collected_fits, d__law_collected_fits, D__law_collected_fits⟩ := L.d_law_collected_fits
  have F__law_collected_fits := D__law_collected_fits.F
  obtain ⟨aO, gO, ⟨f__installed, d__installed, k__installed, D__installed⟩, ⟨f__collected, d__collected, k__collected, D__collected⟩, ⟨f__mended, d__mended, k__mended, D__mended⟩⟩ := L.dg
  obtain ⟨C, CN, XE, XQ, EC, EN⟩ := L.E
  obtain ⟨aF, FF⟩ := L.F
  obtain ⟨aB, Bk⟩ := L.Ba
  obtain ⟨aBd, gBd, tBd⟩ := L.Bd
  obtain ⟨aD, es, nD, DS⟩ := L.ds
  have B := L.B
  have Z := L.Z
  have N := L.N
  have N2 := L.N2
  have N64 := L.P64
  have di := L.di
  have S : Bs K mg C := ⟨B, XE, XQ⟩
  have hZ := Z.zip
  have JI : Jd P wd K mg base C 1 "is_integer" "thing" f_is_integer d_is_integer gInt := jd_int D_is_integer S
  have JF := jd_from D_is_from_one S JI
  have JH := jd_home D_is_home S N JI
  have JHa := jd_hand D_is_hand S N JI
  have JP : Jd P wd K mg base C 1 "is_pair" "thing" f_is_pair d_is_pair gPair := jd_pair D_is_pair S
  have JS : Jd P wd K mg base C 1 "is_signs" "thing" f_is_signs d_is_signs gSigns := jd_signs D_is_signs S
  have JPc := jd_piece D_is_piece S N JS
  have JN : Jd P wd K mg base C 2 "is_name" "thing" f_is_name d_is_name gNam := jd_name D_is_name S N
  have JId := jd_id D_is_block_id S JP JHa JF
  have JR := jd_row D_is_row S N JId
  have JSt := jd_stamp D_is_stamp S JP JI JF JHa
  have JM := jd_members D_is_members S N JH D_is_ascending
  have JC := jd_cnt D_is_count S JI
  have JT : JTO P wd K mg base C f_is_tuple_of d_is_tuple_of := ⟨D_is_tuple_of, ok_TO D_is_tuple_of S⟩
  have JA := jw_ahead D_is_ahead S JM
  have JV := jd_vote D_is_vote S JP JSt JM
  have JNd := jd_named D__is_named_head S JT JN JSt JR
  have JBk := jd_blk D__is_block S JP JId JPc
  have JHs := jw_heads D_is_heads S JNd D_is_ascending
  have JBs := jw_blocks D_is_blocks S JBk D_is_ascending
  have JLe := jd_lease D__is_lease S JT JN JHa JC
  have JLs := jw_leases D__are_leases S JLe D_is_ascending
  have JK := jw_kept D__are_kept S JM JA JHs JBs
  have JTb0 := jw_table D_is_table S N2 JT JC JLs JSt JV JM JK
  have JTb := jw_sm5 JTb0
  have GLs0 := ok_ls0 D__are_leases S JLe D_is_ascending
  have GSt0 := ok_st0 D_is_stamp S D_is_pair JI
  have GTB := ok_tabB D_is_table S N2 D_is_tuple_of JC D__are_leases GLs0 D_is_stamp GSt0 JV JM JK
  have GTC : FnOk P wd K mg base CX0 8 f_is_table d_is_table ["thing"] (spTabC K C) := ok_tabC JTb GTB
  have JNs := jw_names D_is_names S JN D_is_ascending
  have JIs := jw_ids D_is_ids S JId D_is_ascending
  have GCs := ok_counts D_is_counts S JC
  have GLot : FnOk P wd K mg base CX0 7 f__is_lot d__is_lot ["kind", "thing"] (spPk C gLot) := by apply ok_lot <;> assumption
  have GPk : FnOk P wd K mg base CX0 8 f_is_part d_is_part ["kind", "thing"] (spPk C gPart) := by apply ok_partK <;> assumption
  have GPs : FnOk P wd K mg base CX0 9 f_are_parts d_are_parts ["kinds", "things"] (spPks K C) := by apply ok_partsK <;> assumption
  have JDe : Jw P wd K mg base C 10 "is_deed" "thing" f_is_deed d_is_deed Sm (gDeed dT) := jw_deed D_is_deed S DS (by decide +kernel) JTb D_are_parts GPs
  have GLe : FnOk P wd K mg base CX0 1 f_lets d_lets ["table", "deed"] (spLets5 K) := ok_lets5 D_lets N2 gBd tBd
  have GIn := ok_instI (P := P) (wd := wd) (base := base) (C := C) D__installed N2
  have GBI := ok_behI D_behind D_is_table GTC JDe D_lets GLe D_done (ok_doneB D_done gO k__installed D__installed.F.kp D__installed.b (GIn.mono (by decide)))
  have GBM := ok_behR D_behind JTb JDe D_lets GLe D_done (ok_done5 (C := C) D_done gO k__mended D__mended.F.kp D__mended.b ((ok_mended5 D__mended B Z N2 di FF D_heads_by_name D_heads_in_order D_changed).mono (by decide)))
  have GBC := ok_behR D_behind JTb JDe D_lets GLe D_done (ok_done5 (C := C) D_done gO k__collected D__collected.F.kp D__collected.b (ok_coll5 D__collected B N2 D_led_by D_led_ids D_changed))
  have GBK : FnOk P wd K mg base CX0 11 f_behind d_behind ["table", "deed"] (spBehK C) := ok_behK GBM GBC
  have GBa := ok_bare (P := P) (wd := wd) (base := base) D_bare_table Bk
  have GHo := lowerX (ok_headOf D_head_of N2 FF JTb JN D_head_at D_heads_by_name EC EN)
  have GCl := lowerX (ok_closed D_is_closed B N2 di JTb D_led_ids EC)
  have GLb := lowerX (ok_ledBlocks D_led_blocks B N2 JTb D_led_by D_led_ids EC)
  have GAl := ok_alike (P := P) (wd := wd) (base := base) D__law_alike S 8
  -- the makers
  have R : Dr P wd K mg base f__law_mixed f__law_filled f__law_draw f__law_signs f__law_string d__law_mixed d__law_filled d__law_draw d__law_signs d__law_string := ⟨D__law_mixed, D__law_filled, D__law_draw, D__law_signs, D__law_string, B⟩
  have D : Dd P wd K mg base f__law_draw d__law_draw := ⟨ok_draw D__law_draw.F B D__law_mixed D__law_filled, D__law_draw.g, D__law_draw.F.kp, D__law_draw.b⟩
  have GT : FnOk P wd K mg base CX0 4 f__law_string d__law_string ["well", "many"] spString := ok_string R
  have GId := ok_idL D__law_id.F D D__law_number
  have GSt := ok_stampL D__law_stamp.F D D__law_number
  have GMe := ok_mem D__law_members.F B D
  have GNm := ok_name D__law_name.F B D
  have GNu := ok_number D__law_number.F D
  have GRw := ok_row8 (C := C) D__law_row.F B D
  have GuS := ok_unS (P := P) (wd := wd) (base := base) D__law_unlike.F Z
  have GuP := ok_unP (P := P) (wd := wd) (base := base) D__law_unlike.F Z
  have GVr := ok_vr (C := C) D__law_versions.F B D D__law_unlike GuP D__law_stamp GSt D__law_row GRw
  have GSm := ok_sm (C := C) D__law_some.F B D
  have GLd := ok_ld (P := P) (wd := wd) (base := base) (C := C) D__law_led.F B
  have GWB := ok_wb (C := C) D__law_with_blocks.F B D D__law_led GLd
  have GMs := ok_ms (C := C) D__law_mends.F B D D__law_some GSm D__law_with_blocks GWB
  have GTu := ok_tu (C := C) D__law_turned.F B D
  have GWC := ok_wc (C := C) D__law_with_collects.F B D
  have GS8 := ok_st8 (C := C) D__law_stamps.F D_head_of GHo
  have GRu := ok_ru (C := C) D__law_run.F B D__law_stamps GS8 D_behind GBK D_is_closed GCl
  have GGr := ok_gr (P := P) (wd := wd) (base := base) (C := C) D__law_greatest.F B
  have GAb := ok_ab (P := P) (wd := wd) (base := base) (C := C) D__law_all_blocks.F B
  have GFi := ok_fi (C := C) D__law_collected_fits.F D_behind GBK D_led_blocks GLb D__law_alike GAl
  have GW := ok_well (P := P) (w := wd) (base := base) D__law_well.F B
  exact ok_lw (C := C) F B D D__law_well (GW.mono (by decide)) D__law_unlike D__law_name (GNm.mono (by decide)) D__law_id (GId.mono (by decide)) D__law_versions (GVr.mono (by decide)) D__law_string (GT.mono (by decide)) D__law_members (GMe.mono (by decide)) D__law_some (GSm.mono (by decide)) D__law_with_blocks (GWB.mono (by decide)) D__law_mends (GMs.mono (by decide)) D__law_number (GNu.mono (by decide)) D_behind D_bare_table (GBa.mono (by decide)) D__law_alike (GAl.mono (by decide)) D__law_greatest (GGr.mono (by decide)) D__law_all_blocks (GAb.mono (by decide)) D__law_run GRu D__law_turned (GTu.mono (by decide)) D__law_with_collects (GWC.mono (by decide)) D__law_led (GLd.mono (by decide)) D__law_collected_fits GFi (GuS.mono (by decide)) (GuP.mono (by decide)) (GBI.mono (by decide)) Bk
end
end Hs
namespace Hs
open PySem PySem.Spec PyProof.Rows L2
section
variable {K : PySem.W.Frag} {h : Heap} {mg : Str → Option Value}
theorem df_mk {x : Str} {st : Stmt} {ps : List Str} {f : Addr} {oc : Value} {od an : Option Addr} {sl : Array (Option Value)} {kV dc pm cd ct : Value} (X : K.In h) (G : h.Ns mainGlobals mg)
    (a : PySem.W.nsIn K mainGlobals x = some (some (.ref f))) (l : K.lookup f = some ⟨oc, od, .func (PySem.W.fnOf x x (defArgs st) (defBody st) (defScope st) .none kV dc pm an cd ct), sl⟩) (c : PySem.W.codeIn K cd x = true) (k : PySem.W.keepIn K (.ref f) = true)
    (b : ∀ (kV doc pm : Value) (an : Option Addr) (cdv ct : Value) (us : List Value), us.length = ps.length → bindArgs (PySem.W.fnOf x x (defArgs st) (defBody st) (defScope st) .none kV doc pm an cdv ct) ⟨us, []⟩ = pure (ps.zip us)) :
    Df K mg x st ps f (PySem.W.fnOf x x (defArgs st) (defBody st) (defScope st) .none kV dc pm an cd ct) := by
  have F := fun_mk (st := st) l c k
  exact ⟨F, F.binds b, PySem.W.mg_of X G a⟩
theorem exm_self {S : Addr} (h1 : PySem.W.subIn K (.ref S) (.type "BaseException") = some true) (h2 : PySem.W.isClsIn K S = true) (h3 : PySem.W.typeIn K (.ref S) = some (.type "type")) (h4 : PySem.W.subIn K (.ref S) (.ref S) = some true) :
    PySem.W.exmOne K (.ref S) (.ref S) = some true := by
  have e1 : (PySem.W.subIn K (.ref S) (.type "BaseException") == some true) = true := by rw [h1] <;> rfl
  have e2 : ((PySem.W.clsIn K S).isSome && PySem.W.typeIn K (.ref S) == some (.type "type")) = true := by
    have h2' : (PySem.W.clsIn K S).isSome = true := h2
    rw [h2', h3] <;> rfl
  show (if (PySem.W.subIn K (.ref S) (.type "BaseException") == some true) = true then (if ((PySem.W.clsIn K S).isSome && PySem.W.typeIn K (.ref S) == some (.type "type")) = true then PySem.W.subIn K (.ref S) (.ref S) else none) else none) = some true
  rw [if_pos e1, if_pos e2]
  exact h4
theorem gh_mk {x : Str} {C : Addr} (X : K.In h) (G : h.Ns mainGlobals mg) (a : PySem.W.nsIn K mainGlobals x = some (some (.ref C))) : mg x = some (.ref C) := PySem.W.mg_of X G a
theorem gi_mk {x : Str} {n : Int} {t : Tok} (X : K.In h) (G : h.Ns mainGlobals mg) (a : PySem.W.nsIn K mainGlobals x = some (some (.int n t))) : ∃ t, mg x = some (.int n t) := ⟨t, PySem.W.mg_of X G a⟩
theorem gn_mk {x : Str} (X : K.In h) (G : h.Ns mainGlobals mg) (a : PySem.W.nsIn K mainGlobals x = some none) : mg x = none := PySem.W.mg_none_of X G a
theorem ec_mk {x : Str} {C : Addr} (X : K.In h) (G : h.Ns mainGlobals mg) (a : PySem.W.nsIn K mainGlobals x = some (some (.ref C)))
    (q : PySem.W.excIn K C [.type "ValueError", .type "Exception", .type "BaseException", .type "object"] "ValueError.__new__" = true) (k : PySem.W.keepIn K (.ref C) = true) (b : PySem.W.subIn K (.ref C) (.type "BaseException") = some true)
    (t : PySem.W.typeIn K (.ref C) = some (.type "type")) (i : PySem.W.isClsIn K C = true) (s : PySem.W.subIn K (.ref C) (.ref C) = some true) : Ec K mg x C := ⟨PySem.W.mg_of X G a, q, k, b, t, exm_self b i t s⟩
theorem xc_mk {x : Str} {C : Addr} {nm : Str} {oc : Obj} {cd : ClassData} (X : K.In h) (G : h.Ns mainGlobals mg) (a : PySem.W.nsIn K mainGlobals x = some (some (.ref C)))
    (q : PySem.W.excIn K C [.type "ValueError", .type "Exception", .type "BaseException", .type "object"] "ValueError.__new__" = true) (k : PySem.W.keepIn K (.ref C) = true)
    (c1 : PySem.W.findIn K (.ref C) "__getattribute__" = some (some (.builtin "BaseException.__getattribute__"))) (c2 : PySem.W.findIn K (.ref C) "__getattr__" = some none) (c3 : PySem.W.subIn K (.ref C) (.type "BaseException") = some true) (c4 : PySem.W.hasDictIn K C = true)
    (c5 : PySem.W.findIn K (.ref C) "__class__" = some (some (.builtin "object.__class__"))) (c6 : PySem.W.specialIn K (.builtin "object.__class__") "__get__" = some (some (.builtin "getset_descriptor.__get__"))) (c7 : PySem.W.takesIn K (.builtin "object.__class__") = some true) (c8 : PySem.W.mroIn K C (.type "object") = some true)
    (r1 : K.lookup C = some oc) (r2 : oc.data = .cls cd) (r3 : Str.ofString ((cd.name.toString.cutAt '.').getLastD "") = nm) (r4 : PySem.W.findIn K (.ref C) "__repr__" = some (some (.builtin "BaseException.__repr__")))
    (ki : PySem.W.kitOne K (.ref C) (.type "int") = some false) (kb : PySem.W.kitOne K (.ref C) (.type "bool") = some false) (ks : PySem.W.kitOne K (.ref C) (.type "str") = some false) (kt : PySem.W.kitOne K (.ref C) (.type "tuple") = some false) : Hu.Xc K mg x C nm :=
  ⟨PySem.W.mg_of X G a, q, k, ⟨c1, c2, c3, c4, c5, c6, c7, c8⟩, ⟨⟨oc, cd, r1, r2, r3⟩, r4, c3⟩, ki, kb, ks, kt⟩
theorem tk0_mk {p : Addr} {od : Option Addr} {n : Nat} {sl : Array (Option Value)} (l : K.lookup p = some ⟨.type "tuple", od, .seq #[] n, sl⟩) : TupK K p [] :=
  fun H => .inr ⟨_, _, _, l, rfl, rfl, by show (0 : Nat) ≤ sizeLine; decide, .nil⟩
theorem tk1_mk {p : Addr} {od : Option Addr} {z0 : Str} {t0 : Tok} {n : Nat} {sl : Array (Option Value)} (l : K.lookup p = some ⟨.type "tuple", od, .seq #[.str z0 t0] n, sl⟩) : TupK K p [z0] :=
  fun H => .inr ⟨_, _, _, l, rfl, rfl, by show (1 : Nat) ≤ sizeLine; decide, .cons ⟨_, rfl⟩ (.nil)⟩
theorem tk2_mk {p : Addr} {od : Option Addr} {z0 z1 : Str} {t0 t1 : Tok} {n : Nat} {sl : Array (Option Value)} (l : K.lookup p = some ⟨.type "tuple", od, .seq #[.str z0 t0, .str z1 t1] n, sl⟩) : TupK K p [z0, z1] :=
  fun H => .inr ⟨_, _, _, l, rfl, rfl, by show (2 : Nat) ≤ sizeLine; decide, .cons ⟨_, rfl⟩ (.cons ⟨_, rfl⟩ (.nil))⟩
theorem tk3_mk {p : Addr} {od : Option Addr} {z0 z1 z2 : Str} {t0 t1 t2 : Tok} {n : Nat} {sl : Array (Option Value)} (l : K.lookup p = some ⟨.type "tuple", od, .seq #[.str z0 t0, .str z1 t1, .str z2 t2] n, sl⟩) : TupK K p [z0, z1, z2] :=
  fun H => .inr ⟨_, _, _, l, rfl, rfl, by show (3 : Nat) ≤ sizeLine; decide, .cons ⟨_, rfl⟩ (.cons ⟨_, rfl⟩ (.cons ⟨_, rfl⟩ (.nil)))⟩
theorem tk5_mk {p : Addr} {od : Option Addr} {z0 z1 z2 z3 z4 : Str} {t0 t1 t2 t3 t4 : Tok} {n : Nat} {sl : Array (Option Value)} (l : K.lookup p = some ⟨.type "tuple", od, .seq #[.str z0 t0, .str z1 t1, .str z2 t2, .str z3 t3, .str z4 t4] n, sl⟩) : TupK K p [z0, z1, z2, z3, z4] :=
  fun H => .inr ⟨_, _, _, l, rfl, rfl, by show (5 : Nat) ≤ sizeLine; decide, .cons ⟨_, rfl⟩ (.cons ⟨_, rfl⟩ (.cons ⟨_, rfl⟩ (.cons ⟨_, rfl⟩ (.cons ⟨_, rfl⟩ (.nil)))))⟩
theorem ktab_mk {w : World} {a : Addr} {es : Array DictEntry} {n : Nat} {x : Str} {tab : List (Str × List Str)} (X : K.In h) (G : h.Ns mainGlobals mg) (g : PySem.W.nsIn K mainGlobals x = some (some (.ref a))) (l : K.lookup a = some ⟨.type "dict", none, .dict es n, #[]⟩)
    (lit : PySem.W.KeysLit w.params es.toList) (low : (a == sysModules) = false) (r : Rws K es.toList tab) : ∃ (a : Addr) (es : Array DictEntry) (n : Nat), KTab K w mg x tab a es n :=
  ⟨a, es, n, PySem.W.mg_of X G g, ⟨l, lit, low⟩, r⟩
theorem kd_mk {w : World} {a f : Addr} {x : Str} {es : Array DictEntry} {n : Nat} (X : K.In h) (l : K.lookup a = some ⟨.type "dict", none, .dict es n, #[]⟩) (lit : PySem.W.KeysLit w.params es.toList) (e : PySem.W.nsIn K a x = some (some (.ref f))) : KDct K w a x (.ref f) :=
  ⟨es, n, _, l, lit, e, rfl⟩
theorem bd_mk {p : Addr} (X : K.In h) (G : h.Ns mainGlobals mg) (g : PySem.W.nsIn K mainGlobals "BARE_DEEDS" = some (some (.ref p))) (t : TupK K p bareDs) : ∃ a, mg "BARE_DEEDS" = some (.ref a) ∧ TupK K a bareDs := ⟨p, PySem.W.mg_of X G g, t⟩
theorem bare_mk {p m h1 h2 b l q : Addr} {od o1 o2 o3 o4 o5 o6 : Option Addr} {t1 t2 t3 t4 : Tok} {n n1 n2 n3 n4 n5 n6 : Nat} {sl s1 s2 s3 s4 s5 s6 : Array (Option Value)} (X : K.In h) (G : h.Ns mainGlobals mg) (g : PySem.W.nsIn K mainGlobals "BARE" = some (some (.ref p)))
    (l0 : K.lookup p = some ⟨.type "tuple", od, .seq #[.int (-1) t1, .ref m, .ref h1, .int 0 t2, .ref h2, .ref b, .ref l, .ref q, .none, .none] n, sl⟩) (l1 : K.lookup m = some ⟨.type "tuple", o1, .seq #[] n1, s1⟩) (l2 : K.lookup h1 = some ⟨.type "tuple", o2, .seq #[] n2, s2⟩) (l3 : K.lookup h2 = some ⟨.type "tuple", o3, .seq #[] n3, s3⟩) (l4 : K.lookup b = some ⟨.type "tuple", o4, .seq #[] n4, s4⟩) (l5 : K.lookup l = some ⟨.type "tuple", o5, .seq #[] n5, s5⟩) (l6 : K.lookup q = some ⟨.type "tuple", o6, .seq #[.int 0 t3, .int 0 t4] n6, s6⟩) : ∃ a, BareK K mg a := by
  refine ⟨p, PySem.W.mg_of X G g, fun H => ⟨p, m, h1, h2, b, l, q, rfl, ?_, ?_, ?_, ?_, ?_, ?_, ?_⟩⟩
  · exact .inr ⟨_, _, _, l0, rfl, rfl, by show (10 : Nat) ≤ sizeLine; decide, .cons ⟨_, rfl⟩ (.cons rfl (.cons rfl (.cons ⟨_, rfl⟩ (.cons rfl (.cons rfl (.cons rfl (.cons rfl (.cons rfl (.cons rfl .nil)))))))))⟩
  · exact .inr ⟨_, _, _, l1, rfl, rfl, by show (0 : Nat) ≤ sizeLine; decide, .nil⟩
  · exact .inr ⟨_, _, _, l2, rfl, rfl, by show (0 : Nat) ≤ sizeLine; decide, .nil⟩
  · exact .inr ⟨_, _, _, l3, rfl, rfl, by show (0 : Nat) ≤ sizeLine; decide, .nil⟩
  · exact .inr ⟨_, _, _, l4, rfl, rfl, by show (0 : Nat) ≤ sizeLine; decide, .nil⟩
  · exact .inr ⟨_, _, _, l5, rfl, rfl, by show (0 : Nat) ≤ sizeLine; decide, .nil⟩
  · exact .inr ⟨_, _, _, l6, rfl, rfl, by show (2 : Nat) ≤ sizeLine; decide, .cons ⟨_, rfl⟩ (.cons ⟨_, rfl⟩ .nil)⟩
theorem eqx_mk {C : Addr} (X : K.In h) (m : PySem.W.mroIn K C (.type "object") = some true) (e : PySem.W.findIn K (.ref C) "__eq__" = some (some (.builtin "object.__eq__"))) (t : PySem.W.subIn K (.ref C) (.type "tuple") = some false) : Eqx K C := ⟨m, e, t⟩
theorem fh_mk {p q : Addr} {od od2 : Option Addr} {t1 t2 : Tok} {n n2 : Nat} {sl sl2 : Array (Option Value)} (X : K.In h) (G : h.Ns mainGlobals mg) (g : PySem.W.nsIn K mainGlobals "FIRST_HEAD" = some (some (.ref p))) (l : K.lookup p = some ⟨.type "tuple", od, .seq #[.ref q, .none] n, sl⟩) (l2 : K.lookup q = some ⟨.type "tuple", od2, .seq #[.int 0 t1, .int 0 t2] n2, sl2⟩) : ∃ a, Fh K mg a := by
  refine ⟨p, PySem.W.mg_of X G g, fun H => ?_⟩
  have s2 : SqT K H q [.int 0, .int 0] := .inr ⟨_, _, _, l2, rfl, rfl, by show (2 : Nat) ≤ sizeLine; decide, .cons ⟨_, rfl⟩ (.cons ⟨_, rfl⟩ .nil)⟩
  have k2 : Lk K H (.ref q) (.tup [.int 0, .int 0]) := .tup s2 rfl fun i x u h1 h2 => by
    match i, h1, h2 with
    | 0, h1, h2 => cases h1; cases h2; exact .int 0
    | 1, h1, h2 => cases h1; cases h2; exact .int 0
  have s1 : SqT K H p [.ref q, .non] := .inr ⟨_, _, _, l, rfl, rfl, by show (2 : Nat) ≤ sizeLine; decide, .cons rfl (.cons rfl .nil)⟩
  exact .tup s1 rfl fun i x u h1 h2 => by
    match i, h1, h2 with
    | 0, h1, h2 => cases h1; cases h2; exact k2
    | 1, h1, h2 => cases h1; cases h2; exact .non
theorem law_mk8 {l : PySem.W.OpenLaw} {w : World} {f fa : Addr} {oc : Value} {od an : Option Addr} {sl : Array (Option Value)} {kV dc pm cd ct : Value} (X : K.In h) (G : h.Ns mainGlobals mg) (hfa : mg "law" = some (.ref fa))
    (a : PySem.W.nsIn K mainGlobals "law" = some (some (.ref f))) (lk : K.lookup f = some ⟨oc, od, .func (PySem.W.fnOf "law" "law" (defArgs lLw) (defBody lLw) (defScope lLw) .none kV dc pm an cd ct), sl⟩) (c : PySem.W.codeIn K cd "law" = true) (k : PySem.W.keepIn K (.ref f) = true)
    (A0 : La K w mg) :
    ∃ fd : FuncData, (∀ (s : Shared) (v : Value), BindsTo s fd ⟨[v], []⟩ [("script", v)]) ∧ ∀ base : Heap, K.In base → base.Ns mainGlobals mg → FnOk l.prog w K mg base CX0 13 fa fd ["script"] (spLw K) := by
  have e := hfa.symm.trans (PySem.W.mg_of X G a)
  cases e
  exact ⟨PySem.W.fnOf "law" "law" (defArgs lLw) (defBody lLw) (defScope lLw) .none kV dc pm an cd ct, fun s v => .of_eq rfl, fun base _ _ => ok_all (fun_mk (st := lLw) lk c k) A0⟩
end
end Hs
open PySem PySem.W PyProof.Rows
set_option maxRecDepth 100000 in
set_option maxHeartbeats 0 in
open_top PySem.Challenge.top8 for PySem.Challenge.rw_homeshold_k08_whole_mends_join_in_any_or
set_option maxRecDepth 100000 in
set_option maxHeartbeats 0 in
theorem PySem.Challenge.cw_homeshold_k08_whole_mends_join_in_any_or_holds : PySem.Challenge.rw_homeshold_k08_whole_mends_join_in_any_or.Holds := by
  refine PySem.Challenge.top8 ?_
  k_fill
  refine L2.walk_of (l := PySem.Challenge.rw_homeshold_k08_whole_mends_join_in_any_or) (n := 63) (k := 13) (x := "script") (CX := fun _ => L2.CX0) (sp := fun w => Hs.spLw _) rfl (by decide) rfl ⟨rfl, by decide, by decide⟩ (fun w h Y => PySem.W.kIn_of Y) ?F (fun _ _ a ns hl _ hS => ⟨a, ns, rfl, hS, hl, fun _ => rfl⟩) (fun _ _ _ _ _ h => h)
  case F =>
    intro w mg fa h KX G hmg
    obtain his_integer : ∃ f fd, Hs.Df _ mg "is_integer" Hs.sIsInt ["thing"] f fd := by
      refine' ⟨_, _, Hs.df_mk KX G ?a ?l ?c ?k (fun _ _ _ _ _ _ us hl => match us, hl with | [_], _ => rfl)⟩
      (case a => k_is); (case l => k_is); (case c => k_is); (case k => k_is)
    obtain his_from_one : ∃ f fd, Hs.Df _ mg "is_from_one" Hs.sFromOne ["thing"] f fd := by
      refine' ⟨_, _, Hs.df_mk KX G ?a ?l ?c ?k (fun _ _ _ _ _ _ us hl => match us, hl with | [_], _ => rfl)⟩
      (case a => k_is); (case l => k_is); (case c => k_is); (case k => k_is)
    obtain his_pair : ∃ f fd, Hs.Df _ mg "is_pair" Hs.sPair ["thing"] f fd := by
      refine' ⟨_, _, Hs.df_mk KX G ?a ?l ?c ?k (fun _ _ _ _ _ _ us hl => match us, hl with | [_], _ => rfl)⟩
      (case a => k_is); (case l => k_is); (case c => k_is); (case k => k_is)
    obtain his_signs : ∃ f fd, Hs.Df _ mg "is_signs" Hs.sIsSigns ["thing"] f fd := by
      refine' ⟨_, _, Hs.df_mk KX G ?a ?l ?c ?k (fun _ _ _ _ _ _ us hl => match us, hl with | [_], _ => rfl)⟩
      (case a => k_is); (case l => k_is); (case c => k_is); (case k => k_is)
    obtain his_ascending : ∃ f fd, Hs.Df _ mg "is_ascending" Hs.sAscending ["things"] f fd := by
      refine' ⟨_, _, Hs.df_mk KX G ?a ?l ?c ?k (fun _ _ _ _ _ _ us hl => match us, hl with | [_], _ => rfl)⟩
      (case a => k_is); (case l => k_is); (case c => k_is); (case k => k_is)
    obtain his_home : ∃ f fd, Hs.Df _ mg "is_home" Hs.sHome ["thing"] f fd := by
      refine' ⟨_, _, Hs.df_mk KX G ?a ?l ?c ?k (fun _ _ _ _ _ _ us hl => match us, hl with | [_], _ => rfl)⟩
      (case a => k_is); (case l => k_is); (case c => k_is); (case k => k_is)
    obtain his_hand : ∃ f fd, Hs.Df _ mg "is_hand" Hs.sHand ["thing"] f fd := by
      refine' ⟨_, _, Hs.df_mk KX G ?a ?l ?c ?k (fun _ _ _ _ _ _ us hl => match us, hl with | [_], _ => rfl)⟩
      (case a => k_is); (case l => k_is); (case c => k_is); (case k => k_is)
    obtain his_name : ∃ f fd, Hs.Df _ mg "is_name" Hs.sName ["thing"] f fd := by
      refine' ⟨_, _, Hs.df_mk KX G ?a ?l ?c ?k (fun _ _ _ _ _ _ us hl => match us, hl with | [_], _ => rfl)⟩
      (case a => k_is); (case l => k_is); (case c => k_is); (case k => k_is)
    obtain his_piece : ∃ f fd, Hs.Df _ mg "is_piece" Hs.sPiece ["thing"] f fd := by
      refine' ⟨_, _, Hs.df_mk KX G ?a ?l ?c ?k (fun _ _ _ _ _ _ us hl => match us, hl with | [_], _ => rfl)⟩
      (case a => k_is); (case l => k_is); (case c => k_is); (case k => k_is)
    obtain his_block_id : ∃ f fd, Hs.Df _ mg "is_block_id" Hs.sBlockId ["thing"] f fd := by
      refine' ⟨_, _, Hs.df_mk KX G ?a ?l ?c ?k (fun _ _ _ _ _ _ us hl => match us, hl with | [_], _ => rfl)⟩
      (case a => k_is); (case l => k_is); (case c => k_is); (case k => k_is)
    obtain his_row : ∃ f fd, Hs.Df _ mg "is_row" Hs.sRow ["thing"] f fd := by
      refine' ⟨_, _, Hs.df_mk KX G ?a ?l ?c ?k (fun _ _ _ _ _ _ us hl => match us, hl with | [_], _ => rfl)⟩
      (case a => k_is); (case l => k_is); (case c => k_is); (case k => k_is)
    obtain his_stamp : ∃ f fd, Hs.Df _ mg "is_stamp" Hs.sStamp ["thing"] f fd := by
      refine' ⟨_, _, Hs.df_mk KX G ?a ?l ?c ?k (fun _ _ _ _ _ _ us hl => match us, hl with | [_], _ => rfl)⟩
      (case a => k_is); (case l => k_is); (case c => k_is); (case k => k_is)
    obtain his_members : ∃ f fd, Hs.Df _ mg "is_members" Hs.sMembers ["thing"] f fd := by
      refine' ⟨_, _, Hs.df_mk KX G ?a ?l ?c ?k (fun _ _ _ _ _ _ us hl => match us, hl with | [_], _ => rfl)⟩
      (case a => k_is); (case l => k_is); (case c => k_is); (case k => k_is)
    obtain his_count : ∃ f fd, Hs.Df _ mg "is_count" Hs.sCount ["thing"] f fd := by
      refine' ⟨_, _, Hs.df_mk KX G ?a ?l ?c ?k (fun _ _ _ _ _ _ us hl => match us, hl with | [_], _ => rfl)⟩
      (case a => k_is); (case l => k_is); (case c => k_is); (case k => k_is)
    obtain his_tuple_of : ∃ f fd, Hs.Df _ mg "is_tuple_of" Hs.sTO ["many", "thing"] f fd := by
      refine' ⟨_, _, Hs.df_mk KX G ?a ?l ?c ?k (fun _ _ _ _ _ _ us hl => match us, hl with | [_, _], _ => rfl)⟩
      (case a => k_is); (case l => k_is); (case c => k_is); (case k => k_is)
    obtain his_ahead : ∃ f fd, Hs.Df _ mg "is_ahead" Hs.sAhead ["thing"] f fd := by
      refine' ⟨_, _, Hs.df_mk KX G ?a ?l ?c ?k (fun _ _ _ _ _ _ us hl => match us, hl with | [_], _ => rfl)⟩
      (case a => k_is); (case l => k_is); (case c => k_is); (case k => k_is)
    obtain his_vote : ∃ f fd, Hs.Df _ mg "is_vote" Hs.sVote ["thing"] f fd := by
      refine' ⟨_, _, Hs.df_mk KX G ?a ?l ?c ?k (fun _ _ _ _ _ _ us hl => match us, hl with | [_], _ => rfl)⟩
      (case a => k_is); (case l => k_is); (case c => k_is); (case k => k_is)
    obtain his_heads : ∃ f fd, Hs.Df _ mg "is_heads" Hs.sHeads ["thing"] f fd := by
      refine' ⟨_, _, Hs.df_mk KX G ?a ?l ?c ?k (fun _ _ _ _ _ _ us hl => match us, hl with | [_], _ => rfl)⟩
      (case a => k_is); (case l => k_is); (case c => k_is); (case k => k_is)
    obtain h_is_named_head : ∃ f fd, Hs.Df _ mg "_is_named_head" Hs.sNamed ["thing"] f fd := by
      refine' ⟨_, _, Hs.df_mk KX G ?a ?l ?c ?k (fun _ _ _ _ _ _ us hl => match us, hl with | [_], _ => rfl)⟩
      (case a => k_is); (case l => k_is); (case c => k_is); (case k => k_is)
    obtain his_blocks : ∃ f fd, Hs.Df _ mg "is_blocks" Hs.sBlocks ["thing"] f fd := by
      refine' ⟨_, _, Hs.df_mk KX G ?a ?l ?c ?k (fun _ _ _ _ _ _ us hl => match us, hl with | [_], _ => rfl)⟩
      (case a => k_is); (case l => k_is); (case c => k_is); (case k => k_is)
    obtain h_is_block : ∃ f fd, Hs.Df _ mg "_is_block" Hs.sBlk ["thing"] f fd := by
      refine' ⟨_, _, Hs.df_mk KX G ?a ?l ?c ?k (fun _ _ _ _ _ _ us hl => match us, hl with | [_], _ => rfl)⟩
      (case a => k_is); (case l => k_is); (case c => k_is); (case k => k_is)
    obtain his_names : ∃ f fd, Hs.Df _ mg "is_names" Hs.sNames ["thing"] f fd := by
      refine' ⟨_, _, Hs.df_mk KX G ?a ?l ?c ?k (fun _ _ _ _ _ _ us hl => match us, hl with | [_], _ => rfl)⟩
      (case a => k_is); (case l => k_is); (case c => k_is); (case k => k_is)
    obtain his_ids : ∃ f fd, Hs.Df _ mg "is_ids" Hs.sIds ["thing"] f fd := by
      refine' ⟨_, _, Hs.df_mk KX G ?a ?l ?c ?k (fun _ _ _ _ _ _ us hl => match us, hl with | [_], _ => rfl)⟩
      (case a => k_is); (case l => k_is); (case c => k_is); (case k => k_is)
    obtain his_counts : ∃ f fd, Hs.Df _ mg "is_counts" Hs.sCounts ["thing", "most"] f fd := by
      refine' ⟨_, _, Hs.df_mk KX G ?a ?l ?c ?k (fun _ _ _ _ _ _ us hl => match us, hl with | [_, _], _ => rfl)⟩
      (case a => k_is); (case l => k_is); (case c => k_is); (case k => k_is)
    obtain his_part : ∃ f fd, Hs.Df _ mg "is_part" Hs.sPart ["kind", "thing"] f fd := by
      refine' ⟨_, _, Hs.df_mk KX G ?a ?l ?c ?k (fun _ _ _ _ _ _ us hl => match us, hl with | [_, _], _ => rfl)⟩
      (case a => k_is); (case l => k_is); (case c => k_is); (case k => k_is)
    obtain h_is_lot : ∃ f fd, Hs.Df _ mg "_is_lot" Hs.sLot ["kind", "thing"] f fd := by
      refine' ⟨_, _, Hs.df_mk KX G ?a ?l ?c ?k (fun _ _ _ _ _ _ us hl => match us, hl with | [_, _], _ => rfl)⟩
      (case a => k_is); (case l => k_is); (case c => k_is); (case k => k_is)
    obtain hare_parts : ∃ f fd, Hs.Df _ mg "are_parts" Hs.sParts ["kinds", "things"] f fd := by
      refine' ⟨_, _, Hs.df_mk KX G ?a ?l ?c ?k (fun _ _ _ _ _ _ us hl => match us, hl with | [_, _], _ => rfl)⟩
      (case a => k_is); (case l => k_is); (case c => k_is); (case k => k_is)
    obtain h_are_leases : ∃ f fd, Hs.Df _ mg "_are_leases" Hs.sLeases ["thing"] f fd := by
      refine' ⟨_, _, Hs.df_mk KX G ?a ?l ?c ?k (fun _ _ _ _ _ _ us hl => match us, hl with | [_], _ => rfl)⟩
      (case a => k_is); (case l => k_is); (case c => k_is); (case k => k_is)
    obtain h_is_lease : ∃ f fd, Hs.Df _ mg "_is_lease" Hs.sLease ["thing"] f fd := by
      refine' ⟨_, _, Hs.df_mk KX G ?a ?l ?c ?k (fun _ _ _ _ _ _ us hl => match us, hl with | [_], _ => rfl)⟩
      (case a => k_is); (case l => k_is); (case c => k_is); (case k => k_is)
    obtain h_are_kept : ∃ f fd, Hs.Df _ mg "_are_kept" Hs.sKept ["parts"] f fd := by
      refine' ⟨_, _, Hs.df_mk KX G ?a ?l ?c ?k (fun _ _ _ _ _ _ us hl => match us, hl with | [_], _ => rfl)⟩
      (case a => k_is); (case l => k_is); (case c => k_is); (case k => k_is)
    obtain hbare_table : ∃ f fd, Hs.Df _ mg "bare_table" Hs.sBareT [] f fd := by
      refine' ⟨_, _, Hs.df_mk KX G ?a ?l ?c ?k (fun _ _ _ _ _ _ us hl => match us, hl with | [], _ => rfl)⟩
      (case a => k_is); (case l => k_is); (case c => k_is); (case k => k_is)
    obtain his_table : ∃ f fd, Hs.Df _ mg "is_table" Hs.sTable ["thing"] f fd := by
      refine' ⟨_, _, Hs.df_mk KX G ?a ?l ?c ?k (fun _ _ _ _ _ _ us hl => match us, hl with | [_], _ => rfl)⟩
      (case a => k_is); (case l => k_is); (case c => k_is); (case k => k_is)
    obtain his_deed : ∃ f fd, Hs.Df _ mg "is_deed" Hs.sDeed ["thing"] f fd := by
      refine' ⟨_, _, Hs.df_mk KX G ?a ?l ?c ?k (fun _ _ _ _ _ _ us hl => match us, hl with | [_], _ => rfl)⟩
      (case a => k_is); (case l => k_is); (case c => k_is); (case k => k_is)
    obtain hchanged : ∃ f fd, Hs.Df _ mg "changed" Hs.sChanged ["table", "at", "part"] f fd := by
      refine' ⟨_, _, Hs.df_mk KX G ?a ?l ?c ?k (fun _ _ _ _ _ _ us hl => match us, hl with | [_, _, _], _ => rfl)⟩
      (case a => k_is); (case l => k_is); (case c => k_is); (case k => k_is)
    obtain hheads_by_name : ∃ f fd, Hs.Df _ mg "heads_by_name" Hs.sHeadsBy ["heads"] f fd := by
      refine' ⟨_, _, Hs.df_mk KX G ?a ?l ?c ?k (fun _ _ _ _ _ _ us hl => match us, hl with | [_], _ => rfl)⟩
      (case a => k_is); (case l => k_is); (case c => k_is); (case k => k_is)
    obtain hheads_in_order : ∃ f fd, Hs.Df _ mg "heads_in_order" Hs.sHeadsIn ["found"] f fd := by
      refine' ⟨_, _, Hs.df_mk KX G ?a ?l ?c ?k (fun _ _ _ _ _ _ us hl => match us, hl with | [_], _ => rfl)⟩
      (case a => k_is); (case l => k_is); (case c => k_is); (case k => k_is)
    obtain hled_ids : ∃ f fd, Hs.Df _ mg "led_ids" Hs.sLedIds ["heads"] f fd := by
      refine' ⟨_, _, Hs.df_mk KX G ?a ?l ?c ?k (fun _ _ _ _ _ _ us hl => match us, hl with | [_], _ => rfl)⟩
      (case a => k_is); (case l => k_is); (case c => k_is); (case k => k_is)
    obtain hled_by : ∃ f fd, Hs.Df _ mg "led_by" Hs.sLedBy ["heads", "blocks"] f fd := by
      refine' ⟨_, _, Hs.df_mk KX G ?a ?l ?c ?k (fun _ _ _ _ _ _ us hl => match us, hl with | [_, _], _ => rfl)⟩
      (case a => k_is); (case l => k_is); (case c => k_is); (case k => k_is)
    obtain hbehind : ∃ f fd, Hs.Df _ mg "behind" Hs.sBehind ["table", "deed"] f fd := by
      refine' ⟨_, _, Hs.df_mk KX G ?a ?l ?c ?k (fun _ _ _ _ _ _ us hl => match us, hl with | [_, _], _ => rfl)⟩
      (case a => k_is); (case l => k_is); (case c => k_is); (case k => k_is)
    obtain hlets : ∃ f fd, Hs.Df _ mg "lets" Hs.sLets ["table", "deed"] f fd := by
      refine' ⟨_, _, Hs.df_mk KX G ?a ?l ?c ?k (fun _ _ _ _ _ _ us hl => match us, hl with | [_, _], _ => rfl)⟩
      (case a => k_is); (case l => k_is); (case c => k_is); (case k => k_is)
    obtain hdone : ∃ f fd, Hs.Df _ mg "done" Hs.sDone ["table", "deed"] f fd := by
      refine' ⟨_, _, Hs.df_mk KX G ?a ?l ?c ?k (fun _ _ _ _ _ _ us hl => match us, hl with | [_, _], _ => rfl)⟩
      (case a => k_is); (case l => k_is); (case c => k_is); (case k => k_is)
    obtain his_closed : ∃ f fd, Hs.Df _ mg "is_closed" Hs.sClosed ["table"] f fd := by
      refine' ⟨_, _, Hs.df_mk KX G ?a ?l ?c ?k (fun _ _ _ _ _ _ us hl => match us, hl with | [_], _ => rfl)⟩
      (case a => k_is); (case l => k_is); (case c => k_is); (case k => k_is)
    obtain hhead_at : ∃ f fd, Hs.Df _ mg "head_at" Hs.sHeadAt8 ["table", "name"] f fd := by
      refine' ⟨_, _, Hs.df_mk KX G ?a ?l ?c ?k (fun _ _ _ _ _ _ us hl => match us, hl with | [_, _], _ => rfl)⟩
      (case a => k_is); (case l => k_is); (case c => k_is); (case k => k_is)
    obtain hhead_of : ∃ f fd, Hs.Df _ mg "head_of" Hs.sHeadOf8 ["table", "name"] f fd := by
      refine' ⟨_, _, Hs.df_mk KX G ?a ?l ?c ?k (fun _ _ _ _ _ _ us hl => match us, hl with | [_, _], _ => rfl)⟩
      (case a => k_is); (case l => k_is); (case c => k_is); (case k => k_is)
    obtain hled_blocks : ∃ f fd, Hs.Df _ mg "led_blocks" Hs.sLedBlocks ["table"] f fd := by
      refine' ⟨_, _, Hs.df_mk KX G ?a ?l ?c ?k (fun _ _ _ _ _ _ us hl => match us, hl with | [_], _ => rfl)⟩
      (case a => k_is); (case l => k_is); (case c => k_is); (case k => k_is)
    obtain h_law_mixed : ∃ f fd, Hs.Df _ mg "_law_mixed" Hs.sMixed ["number"] f fd := by
      refine' ⟨_, _, Hs.df_mk KX G ?a ?l ?c ?k (fun _ _ _ _ _ _ us hl => match us, hl with | [_], _ => rfl)⟩
      (case a => k_is); (case l => k_is); (case c => k_is); (case k => k_is)
    obtain h_law_well : ∃ f fd, Hs.Df _ mg "_law_well" Hs.sWell ["script"] f fd := by
      refine' ⟨_, _, Hs.df_mk KX G ?a ?l ?c ?k (fun _ _ _ _ _ _ us hl => match us, hl with | [_], _ => rfl)⟩
      (case a => k_is); (case l => k_is); (case c => k_is); (case k => k_is)
    obtain h_law_filled : ∃ f fd, Hs.Df _ mg "_law_filled" Hs.sFilled ["well"] f fd := by
      refine' ⟨_, _, Hs.df_mk KX G ?a ?l ?c ?k (fun _ _ _ _ _ _ us hl => match us, hl with | [_], _ => rfl)⟩
      (case a => k_is); (case l => k_is); (case c => k_is); (case k => k_is)
    obtain h_law_draw : ∃ f fd, Hs.Df _ mg "_law_draw" Hs.sDraw ["well", "many"] f fd := by
      refine' ⟨_, _, Hs.df_mk KX G ?a ?l ?c ?k (fun _ _ _ _ _ _ us hl => match us, hl with | [_, _], _ => rfl)⟩
      (case a => k_is); (case l => k_is); (case c => k_is); (case k => k_is)
    obtain h_law_number : ∃ f fd, Hs.Df _ mg "_law_number" Hs.lNumber ["well"] f fd := by
      refine' ⟨_, _, Hs.df_mk KX G ?a ?l ?c ?k (fun _ _ _ _ _ _ us hl => match us, hl with | [_], _ => rfl)⟩
      (case a => k_is); (case l => k_is); (case c => k_is); (case k => k_is)
    obtain h_law_signs : ∃ f fd, Hs.Df _ mg "_law_signs" Hs.sSigns [] f fd := by
      refine' ⟨_, _, Hs.df_mk KX G ?a ?l ?c ?k (fun _ _ _ _ _ _ us hl => match us, hl with | [], _ => rfl)⟩
      (case a => k_is); (case l => k_is); (case c => k_is); (case k => k_is)
    obtain h_law_string : ∃ f fd, Hs.Df _ mg "_law_string" Hs.sString ["well", "many"] f fd := by
      refine' ⟨_, _, Hs.df_mk KX G ?a ?l ?c ?k (fun _ _ _ _ _ _ us hl => match us, hl with | [_, _], _ => rfl)⟩
      (case a => k_is); (case l => k_is); (case c => k_is); (case k => k_is)
    obtain h_law_name : ∃ f fd, Hs.Df _ mg "_law_name" Hs.lName ["well"] f fd := by
      refine' ⟨_, _, Hs.df_mk KX G ?a ?l ?c ?k (fun _ _ _ _ _ _ us hl => match us, hl with | [_], _ => rfl)⟩
      (case a => k_is); (case l => k_is); (case c => k_is); (case k => k_is)
    obtain h_law_unlike : ∃ f fd, Hs.Df _ mg "_law_unlike" Hs.lUnlike ["things"] f fd := by
      refine' ⟨_, _, Hs.df_mk KX G ?a ?l ?c ?k (fun _ _ _ _ _ _ us hl => match us, hl with | [_], _ => rfl)⟩
      (case a => k_is); (case l => k_is); (case c => k_is); (case k => k_is)
    obtain h_law_id : ∃ f fd, Hs.Df _ mg "_law_id" Hs.lId ["well"] f fd := by
      refine' ⟨_, _, Hs.df_mk KX G ?a ?l ?c ?k (fun _ _ _ _ _ _ us hl => match us, hl with | [_], _ => rfl)⟩
      (case a => k_is); (case l => k_is); (case c => k_is); (case k => k_is)
    obtain h_law_stamp : ∃ f fd, Hs.Df _ mg "_law_stamp" Hs.lStamp ["well"] f fd := by
      refine' ⟨_, _, Hs.df_mk KX G ?a ?l ?c ?k (fun _ _ _ _ _ _ us hl => match us, hl with | [_], _ => rfl)⟩
      (case a => k_is); (case l => k_is); (case c => k_is); (case k => k_is)
    obtain h_law_row : ∃ f fd, Hs.Df _ mg "_law_row" Hs.lRow ["well", "ids"] f fd := by
      refine' ⟨_, _, Hs.df_mk KX G ?a ?l ?c ?k (fun _ _ _ _ _ _ us hl => match us, hl with | [_, _], _ => rfl)⟩
      (case a => k_is); (case l => k_is); (case c => k_is); (case k => k_is)
    obtain h_law_members : ∃ f fd, Hs.Df _ mg "_law_members" Hs.lMembers ["well"] f fd := by
      refine' ⟨_, _, Hs.df_mk KX G ?a ?l ?c ?k (fun _ _ _ _ _ _ us hl => match us, hl with | [_], _ => rfl)⟩
      (case a => k_is); (case l => k_is); (case c => k_is); (case k => k_is)
    obtain h_law_alike : ∃ f fd, Hs.Df _ mg "_law_alike" Hs.lAlike ["told", "due"] f fd := by
      refine' ⟨_, _, Hs.df_mk KX G ?a ?l ?c ?k (fun _ _ _ _ _ _ us hl => match us, hl with | [_, _], _ => rfl)⟩
      (case a => k_is); (case l => k_is); (case c => k_is); (case k => k_is)
    obtain h_law_versions : ∃ f fd, Hs.Df _ mg "_law_versions" Hs.lVersions ["well", "names", "ids"] f fd := by
      refine' ⟨_, _, Hs.df_mk KX G ?a ?l ?c ?k (fun _ _ _ _ _ _ us hl => match us, hl with | [_, _, _], _ => rfl)⟩
      (case a => k_is); (case l => k_is); (case c => k_is); (case k => k_is)
    obtain h_law_some : ∃ f fd, Hs.Df _ mg "_law_some" Hs.lSome ["well", "versions", "names"] f fd := by
      refine' ⟨_, _, Hs.df_mk KX G ?a ?l ?c ?k (fun _ _ _ _ _ _ us hl => match us, hl with | [_, _, _], _ => rfl)⟩
      (case a => k_is); (case l => k_is); (case c => k_is); (case k => k_is)
    obtain h_law_led : ∃ f fd, Hs.Df _ mg "_law_led" Hs.lLed ["heads", "ids"] f fd := by
      refine' ⟨_, _, Hs.df_mk KX G ?a ?l ?c ?k (fun _ _ _ _ _ _ us hl => match us, hl with | [_, _], _ => rfl)⟩
      (case a => k_is); (case l => k_is); (case c => k_is); (case k => k_is)
    obtain h_law_with_blocks : ∃ f fd, Hs.Df _ mg "_law_with_blocks" Hs.lWith ["well", "heads", "ids", "pieces"] f fd := by
      refine' ⟨_, _, Hs.df_mk KX G ?a ?l ?c ?k (fun _ _ _ _ _ _ us hl => match us, hl with | [_, _, _, _], _ => rfl)⟩
      (case a => k_is); (case l => k_is); (case c => k_is); (case k => k_is)
    obtain h_law_mends : ∃ f fd, Hs.Df _ mg "_law_mends" Hs.lMends ["well", "versions", "names", "ids", "pieces"] f fd := by
      refine' ⟨_, _, Hs.df_mk KX G ?a ?l ?c ?k (fun _ _ _ _ _ _ us hl => match us, hl with | [_, _, _, _, _], _ => rfl)⟩
      (case a => k_is); (case l => k_is); (case c => k_is); (case k => k_is)
    obtain h_law_turned : ∃ f fd, Hs.Df _ mg "_law_turned" Hs.lTurned ["well", "mends"] f fd := by
      refine' ⟨_, _, Hs.df_mk KX G ?a ?l ?c ?k (fun _ _ _ _ _ _ us hl => match us, hl with | [_, _], _ => rfl)⟩
      (case a => k_is); (case l => k_is); (case c => k_is); (case k => k_is)
    obtain h_law_with_collects : ∃ f fd, Hs.Df _ mg "_law_with_collects" Hs.lWithCol ["well", "mends"] f fd := by
      refine' ⟨_, _, Hs.df_mk KX G ?a ?l ?c ?k (fun _ _ _ _ _ _ us hl => match us, hl with | [_, _], _ => rfl)⟩
      (case a => k_is); (case l => k_is); (case c => k_is); (case k => k_is)
    obtain h_law_stamps : ∃ f fd, Hs.Df _ mg "_law_stamps" Hs.lStamps8 ["table", "names"] f fd := by
      refine' ⟨_, _, Hs.df_mk KX G ?a ?l ?c ?k (fun _ _ _ _ _ _ us hl => match us, hl with | [_, _], _ => rfl)⟩
      (case a => k_is); (case l => k_is); (case c => k_is); (case k => k_is)
    obtain h_law_run : ∃ f fd, Hs.Df _ mg "_law_run" Hs.lRun ["table", "deeds", "names"] f fd := by
      refine' ⟨_, _, Hs.df_mk KX G ?a ?l ?c ?k (fun _ _ _ _ _ _ us hl => match us, hl with | [_, _, _], _ => rfl)⟩
      (case a => k_is); (case l => k_is); (case c => k_is); (case k => k_is)
    obtain h_law_greatest : ∃ f fd, Hs.Df _ mg "_law_greatest" Hs.lGreatest ["table", "mends", "names"] f fd := by
      refine' ⟨_, _, Hs.df_mk KX G ?a ?l ?c ?k (fun _ _ _ _ _ _ us hl => match us, hl with | [_, _, _], _ => rfl)⟩
      (case a => k_is); (case l => k_is); (case c => k_is); (case k => k_is)
    obtain h_law_all_blocks : ∃ f fd, Hs.Df _ mg "_law_all_blocks" Hs.lAllB ["table", "mends", "ids", "pieces"] f fd := by
      refine' ⟨_, _, Hs.df_mk KX G ?a ?l ?c ?k (fun _ _ _ _ _ _ us hl => match us, hl with | [_, _, _, _], _ => rfl)⟩
      (case a => k_is); (case l => k_is); (case c => k_is); (case k => k_is)
    obtain h_law_collected_fits : ∃ f fd, Hs.Df _ mg "_law_collected_fits" Hs.lFits ["table", "due"] f fd := by
      refine' ⟨_, _, Hs.df_mk KX G ?a ?l ?c ?k (fun _ _ _ _ _ _ us hl => match us, hl with | [_, _], _ => rfl)⟩
      (case a => k_is); (case l => k_is); (case c => k_is); (case k => k_is)
    obtain eX : ∃ C CN, Hu.Xc _ mg "NoTable" C "NoTable" ∧ Hs.Eqx _ C ∧ Hs.Ec _ mg "NoTable" C ∧ Hs.Ec _ mg "NoName" CN := by
      refine' ⟨_, _, Hs.xc_mk KX G ?a ?xq ?k ?c1 ?c2 ?c3 ?c4 ?c5 ?c6 ?c7 ?c8 ?r1 ?r2 ?r3 ?r4 ?ki ?kb ?ks ?kt, Hs.eqx_mk KX ?q1 ?q2 ?q3, Hs.ec_mk KX G ?a2 ?x2 ?k2 ?b2 ?t2 ?i2 ?s2, Hs.ec_mk KX G ?a3 ?x3 ?k3 ?b3 ?t3 ?i3 ?s3⟩
      (case a => k_is)
      (case xq => k_exc)
      (case k => k_is)
      (case c1 => first | k_is)
      (case c2 => first | k_is)
      (case c3 => first | k_is)
      (case c4 => first | k_is)
      (case c5 => first | k_is)
      (case c6 => first | k_is)
      (case c7 => first | k_is)
      (case c8 => first | k_is)
      (case r1 => first | k_is)
      (case r2 => first | rfl)
      (case r3 => first | decide +kernel | rfl)
      (case r4 => first | k_is)
      (case ki => first | k_is | rfl | decide +kernel)
      (case kb => first | k_is | rfl | decide +kernel)
      (case ks => first | k_is | rfl | decide +kernel)
      (case kt => first | k_is | rfl | decide +kernel)
      (case q1 => first | k_is)
      (case q2 => first | k_is)
      (case q3 => first | k_is)
      (case a2 => k_is); (case x2 => k_exc); (case k2 => k_is); (case b2 => k_is); (case t2 => k_is); (case i2 => k_is); (case s2 => first | rfl | k_is)
      (case a3 => k_is); (case x3 => k_exc); (case k3 => k_is); (case b3 => k_is); (case t3 => k_is); (case i3 => k_is); (case s3 => first | rfl | k_is)
    obtain eF : ∃ a, Hs.Fh _ mg a := by
      refine' Hs.fh_mk KX G ?g ?l ?l2
      (case g => k_is); (case l => k_is); (case l2 => k_is)
    obtain eB : ∃ a, Hs.BareK _ mg a := by
      refine' Hs.bare_mk KX G ?g ?l0 ?l1 ?l2 ?l3 ?l4 ?l5 ?l6
      (case g => k_is); (case l0 => k_is); (case l1 => k_is); (case l2 => k_is); (case l3 => k_is); (case l4 => k_is); (case l5 => k_is); (case l6 => k_is)
    obtain eBd : ∃ a, mg "BARE_DEEDS" = some (.ref a) ∧ Hs.TupK _ a Hs.bareDs := by
      refine' Hs.bd_mk KX G ?g (Hs.tk5_mk ?t)
      (case g => k_is); (case t => k_is)
    have nMOST_HOMES : ∃ t, mg "MOST_HOMES" = some (.int 9 t) := by
      refine' Hs.gi_mk KX G ?a
      (case a => k_is)
    have nMOST_HANDS : ∃ t, mg "MOST_HANDS" = some (.int 99 t) := by
      refine' Hs.gi_mk KX G ?a
      (case a => k_is)
    have nMOST_PIECES : ∃ t, mg "MOST_PIECES" = some (.int 12 t) := by
      refine' Hs.gi_mk KX G ?a
      (case a => k_is)
    have nPIECE_SIGNS : ∃ t, mg "PIECE_SIGNS" = some (.int 8 t) := by
      refine' Hs.gi_mk KX G ?a
      (case a => k_is)
    have nNAME_SIGNS : ∃ t, mg "NAME_SIGNS" = some (.int 8 t) := by
      refine' Hs.gi_mk KX G ?a
      (case a => k_is)
    have nMOST_PLACES : ∃ t, mg "MOST_PLACES" = some (.int 64 t) := by
      refine' Hs.gi_mk KX G ?a
      (case a => k_is)
    have nEPOCH : ∃ t, mg "EPOCH" = some (.int 0 t) := by
      refine' Hs.gi_mk KX G ?a
      (case a => k_is)
    have nMEMBERS : ∃ t, mg "MEMBERS" = some (.int 1 t) := by
      refine' Hs.gi_mk KX G ?a
      (case a => k_is)
    have nAHEAD : ∃ t, mg "AHEAD" = some (.int 2 t) := by
      refine' Hs.gi_mk KX G ?a
      (case a => k_is)
    have nCLOCK : ∃ t, mg "CLOCK" = some (.int 3 t) := by
      refine' Hs.gi_mk KX G ?a
      (case a => k_is)
    have nHEADS : ∃ t, mg "HEADS" = some (.int 4 t) := by
      refine' Hs.gi_mk KX G ?a
      (case a => k_is)
    have nBLOCKS : ∃ t, mg "BLOCKS" = some (.int 5 t) := by
      refine' Hs.gi_mk KX G ?a
      (case a => k_is)
    have nLEASES : ∃ t, mg "LEASES" = some (.int 6 t) := by
      refine' Hs.gi_mk KX G ?a
      (case a => k_is)
    have nPROMISE : ∃ t, mg "PROMISE" = some (.int 7 t) := by
      refine' Hs.gi_mk KX G ?a
      (case a => k_is)
    have nVOTED : ∃ t, mg "VOTED" = some (.int 8 t) := by
      refine' Hs.gi_mk KX G ?a
      (case a => k_is)
    have nNEXT : ∃ t, mg "NEXT" = some (.int 9 t) := by
      refine' Hs.gi_mk KX G ?a
      (case a => k_is)
    have nMANY_PARTS : ∃ t, mg "MANY_PARTS" = some (.int 10 t) := by
      refine' Hs.gi_mk KX G ?a
      (case a => k_is)
    have nLEASE_TICKS : ∃ t, mg "LEASE_TICKS" = some (.int 8 t) := by
      refine' Hs.gi_mk KX G ?a
      (case a => k_is)
    have b_int : mg "int" = none := by
      refine' Hs.gn_mk KX G ?a
      (case a => k_is)
    have b_len : mg "len" = none := by
      refine' Hs.gn_mk KX G ?a
      (case a => k_is)
    have b_range : mg "range" = none := by
      refine' Hs.gn_mk KX G ?a
      (case a => k_is)
    have b_all : mg "all" = none := by
      refine' Hs.gn_mk KX G ?a
      (case a => k_is)
    have b_isinstance : mg "isinstance" = none := by
      refine' Hs.gn_mk KX G ?a
      (case a => k_is)
    have b_tuple : mg "tuple" = none := by
      refine' Hs.gn_mk KX G ?a
      (case a => k_is)
    have b_list : mg "list" = none := by
      refine' Hs.gn_mk KX G ?a
      (case a => k_is)
    have b_str : mg "str" = none := by
      refine' Hs.gn_mk KX G ?a
      (case a => k_is)
    have b_max : mg "max" = none := by
      refine' Hs.gn_mk KX G ?a
      (case a => k_is)
    have b_bool : mg "bool" = none := by
      refine' Hs.gn_mk KX G ?a
      (case a => k_is)
    have b_sum : mg "sum" = none := by
      refine' Hs.gn_mk KX G ?a
      (case a => k_is)
    have b_repr : mg "repr" = none := by
      refine' Hs.gn_mk KX G ?a
      (case a => k_is)
    have b_sorted : mg "sorted" = none := by
      refine' Hs.gn_mk KX G ?a
      (case a => k_is)
    have b_zip : mg "zip" = none := by
      refine' Hs.gn_mk KX G ?a
      (case a => k_is)
    have b_dict : mg "dict" = none := by
      refine' Hs.gn_mk KX G ?a
      (case a => k_is)
    have B : Hs.Bt mg := ⟨b_int, b_len, b_range, b_all, b_isinstance, b_tuple, b_list, b_str, b_max, b_bool, b_sum, b_repr⟩
    obtain tD : ∃ (a : Addr) (es : Array DictEntry) (n : Nat), Hs.KTab _ w mg "DEEDS" Hs.dT a es n := by
      refine' Hs.ktab_mk KX G ?g ?l ?lit ?low ?r0
      (case g => k_is)
      (case l => k_is)
      (case lit => k_keys)
      (case low => first | rfl | decide +kernel)
      (case r0 => refine' (Hs.Rws.cons rfl rfl (Hs.tk5_mk ?t0_0) (Hs.Rws.cons rfl rfl (Hs.tk2_mk ?t0_1) (Hs.Rws.cons rfl rfl (Hs.tk3_mk ?t0_2) (Hs.Rws.cons rfl rfl (Hs.tk3_mk ?t0_3) (Hs.Rws.cons rfl rfl (Hs.tk3_mk ?t0_4) (Hs.Rws.cons rfl rfl (Hs.tk1_mk ?t0_5) (Hs.Rws.cons rfl rfl (Hs.tk2_mk ?t0_6) (Hs.Rws.cons rfl rfl (Hs.tk1_mk ?t0_7) (Hs.Rws.cons rfl rfl (Hs.tk0_mk ?t0_8) (Hs.Rws.cons rfl rfl (Hs.tk0_mk ?t0_9) (Hs.Rws.cons rfl rfl (Hs.tk0_mk ?t0_10) (Hs.Rws.cons rfl rfl (Hs.tk2_mk ?t0_11) Hs.Rws.nil))))))))))))
                  (case t0_0 => k_is)
                  (case t0_1 => k_is)
                  (case t0_2 => k_is)
                  (case t0_3 => k_is)
                  (case t0_4 => k_is)
                  (case t0_5 => k_is)
                  (case t0_6 => k_is)
                  (case t0_7 => k_is)
                  (case t0_8 => k_is)
                  (case t0_9 => k_is)
                  (case t0_10 => k_is)
                  (case t0_11 => k_is))
    obtain eG : ∃ a, mg "DOINGS" = some (.ref a) ∧ (∃ (f : Addr) (d : FuncData), L2.KDct _ w a "install" (.ref f) ∧ Hs.Df _ mg "_installed" Hs.sInst5 ["table", "parts"] f d) ∧ (∃ (f : Addr) (d : FuncData), L2.KDct _ w a "collect" (.ref f) ∧ Hs.Df _ mg "_collected" Hs.sColl5 ["table", "parts"] f d) ∧ (∃ (f : Addr) (d : FuncData), L2.KDct _ w a "mend" (.ref f) ∧ Hs.Df _ mg "_mended" Hs.sMended5 ["table", "parts"] f d) := by
      refine' ⟨_, Hs.gh_mk KX G ?g, ⟨_, _, Hs.kd_mk KX ?l0 ?t0 ?e0, Hs.df_mk KX G ?a0 ?m0 ?c0 ?k0 (fun _ _ _ _ _ _ us hl => match us, hl with | [_, _], _ => rfl)⟩, ⟨_, _, Hs.kd_mk KX ?l1 ?t1 ?e1, Hs.df_mk KX G ?a1 ?m1 ?c1 ?k1 (fun _ _ _ _ _ _ us hl => match us, hl with | [_, _], _ => rfl)⟩, ⟨_, _, Hs.kd_mk KX ?l2 ?t2 ?e2, Hs.df_mk KX G ?a2 ?m2 ?c2 ?k2 (fun _ _ _ _ _ _ us hl => match us, hl with | [_, _], _ => rfl)⟩⟩
      (case g => k_is)
      (case l0 => k_is); (case t0 => k_keys); (case e0 => k_is); (case a0 => k_is); (case m0 => k_is); (case c0 => k_is); (case k0 => k_is)
      (case l1 => k_is); (case t1 => k_keys); (case e1 => k_is); (case a1 => k_is); (case m1 => k_is); (case c1 => k_is); (case k1 => k_is)
      (case l2 => k_is); (case t2 => k_keys); (case e2 => k_is); (case a2 => k_is); (case m2 => k_is); (case c2 => k_is); (case k2 => k_is)
    refine' Hs.law_mk8 KX G hmg ?a ?l ?c ?k ⟨B, ⟨b_sorted, b_zip⟩, ⟨nMOST_HOMES, nMOST_HANDS, nMOST_PIECES, nPIECE_SIGNS, nNAME_SIGNS⟩, ⟨nEPOCH, nMEMBERS, nAHEAD, nCLOCK, nHEADS, nBLOCKS, nLEASES, nPROMISE, nVOTED, nNEXT, nMANY_PARTS, nLEASE_TICKS⟩, nMOST_PLACES, b_dict, eX, eF, eB, eBd, tD, eG, his_integer, his_from_one, his_pair, his_signs, his_ascending, his_home, his_hand, his_name, his_piece, his_block_id, his_row, his_stamp, his_members, his_count, his_tuple_of, his_ahead, his_vote, his_heads, h_is_named_head, his_blocks, h_is_block, his_names, his_ids, his_counts, his_part, h_is_lot, hare_parts, h_are_leases, h_is_lease, h_are_kept, hbare_table, his_table, his_deed, hchanged, hheads_by_name, hheads_in_order, hled_ids, hled_by, hbehind, hlets, hdone, his_closed, hhead_at, hhead_of, hled_blocks, h_law_mixed, h_law_well, h_law_filled, h_law_draw, h_law_number, h_law_signs, h_law_string, h_law_name, h_law_unlike, h_law_id, h_law_stamp, h_law_row, h_law_members, h_law_alike, h_law_versions, h_law_some, h_law_led, h_law_with_blocks, h_law_mends, h_law_turned, h_law_with_collects, h_law_stamps, h_law_run, h_law_greatest, h_law_all_blocks, h_law_collected_fits⟩
    (case a => k_is); (case l => k_is); (case c => k_is); (case k => k_is)
