import PyProof.Rows.All
import Wide.All
import OpenK.AllK
import Wide.FinOn
import HandS.ForMost
import HandS.Evl
import HandS.Exc
import HandS.ExcOwn
import HandS.TryMany
import HandS.WordsExc
import HandS.Small
import HandS.IsInst
import HandS.TupAny
import HandS.Deep
import HandS.Wide
import HandS.Zip
import HandS.SortInts
import HandS.More
import HandS.Walk
import HandS.SetFor
import HandS.Replace
import HandS.Steps
import HandS.Style
import PyProof.Rows.StrRev
import PyProof.Rows.StrStep
import PySem.Challenge.RW_homeshold_k40_values_and_roots
set_option Elab.async false
set_option linter.all false
set_option maxRecDepth 100000
/-! 2 ** 89 - 1 has no divisor but 1 and itself -/
namespace Pr
/-- a ^ e modulo n, e in k steps of halving -/
def pm (n a : Nat) : Nat → Nat → Nat
  | 0, _ => 1 % n
  | k + 1, e => let h := pm n a k (e / 2)
    if e % 2 = 0 then h * h % n else h * h % n * a % n
theorem pm_eq (n a : Nat) : ∀ k e, e < 2 ^ k → pm n a k e = a ^ e % n
  | 0, e, h => by
    have : e = 0 := by simpa using h
    subst this
    rfl
  | k + 1, e, h => by
    have ih := pm_eq n a k (e / 2) (by rw [Nat.pow_succ] at h; omega)
    have he : e = e / 2 + e / 2 + e % 2 := by omega
    unfold pm
    dsimp only
    rw [ih]
    have hs : a ^ (e / 2) % n * (a ^ (e / 2) % n) % n = a ^ (e / 2 + e / 2) % n := by rw [Nat.pow_add, ← Nat.mul_mod]
    split
    · rename_i h0
      rw [hs]
      congr 2
      omega
    · rename_i h0
      have h1 : e % 2 = 1 := by omega
      conv => rhs; rw [he, h1, Nat.pow_succ]
      rw [hs, Nat.mod_mul_mod]
/-- the pigeons -/
theorem holes : ∀ (r D : Nat) (f : Nat → Nat), (∀ i, i < D → f i < r) → (∀ i j, i < j → j < D → f i ≠ f j) → D ≤ r
  | 0, D, f, h, _ => by
    cases D with
    | zero => exact Nat.le_refl _
    | succ D => exact absurd (h 0 (by omega)) (by omega)
  | r + 1, D, f, h, hi => by
    cases D with
    | zero => omega
    | succ D =>
      -- f D is taken out: r stands in its place
      have := holes r D (fun i => if f i = r then f D else f i) (fun i hd => by
        have h1 := h i (by omega)
        have h2 := h D (by omega)
        have h3 := hi i D hd (by omega)
        split <;> omega) (fun i j hij hj => by
        have h1 := hi i j hij (by omega)
        have h2 := hi i D (by omega) (by omega)
        have h3 := hi j D (by omega) (by omega)
        split <;> split <;> omega)
      omega
theorem pow_one {r g m s : Nat} (h : g ^ m % r = 1 % r) : g ^ (m * s) % r = 1 % r := by
  rw [Nat.pow_mul]
  induction s with
  | zero => rfl
  | succ s ih => rw [Nat.pow_succ, Nat.mul_mod, ih, h, ← Nat.mul_mod]
theorem pow_sub {r g a b : Nat} (h1 : g ^ a % r = 1 % r) (h2 : g ^ (a + b) % r = 1 % r) : g ^ b % r = 1 % r := by
  rw [Nat.pow_add, Nat.mul_mod, h1, ← Nat.mul_mod, Nat.one_mul] at h2
  exact h2
theorem pow_gcd {r g : Nat} : ∀ a b : Nat, g ^ a % r = 1 % r → g ^ b % r = 1 % r → g ^ (Nat.gcd a b) % r = 1 % r := by
  intro a b
  induction a, b using Nat.gcd.induction with
  | H0 b =>
    intro _ h
    rw [Nat.gcd_zero_left]
    exact h
  | H1 a b ha ih =>
    intro h1 h2
    rw [Nat.gcd_rec]
    refine ih ?_ h1
    have e : b = a * (b / a) + b % a := (Nat.div_add_mod b a).symm
    rw [e] at h2
    exact pow_sub (pow_one h1) h2
def Prime' (q : Nat) : Prop := 1 < q ∧ ∀ d, d ∣ q → d = 1 ∨ d = q
theorem prime_of {q : Nat} (h1 : 1 < q) (h : ∀ d : Fin (q + 1), d.val ∣ q → d.val = 1 ∨ d.val = q) : Prime' q :=
  ⟨h1, fun d hd => h ⟨d, Nat.lt_succ_of_le (Nat.le_of_dvd (by omega) hd)⟩ hd⟩
theorem cop_of {q t : Nat} (hq : Prime' q) (h : ¬ q ∣ t) : Nat.Coprime t q := by
  rcases hq.2 (Nat.gcd t q) (Nat.gcd_dvd_right t q) with e | e
  · exact e
  · exact absurd (e ▸ Nat.gcd_dvd_left t q) h
theorem cop_prod {t : Nat} : ∀ qs : List Nat, (∀ q ∈ qs, Nat.Coprime t q) → Nat.Coprime t (qs.foldr (· * ·) 1)
  | [], _ => Nat.coprime_one_right t
  | q :: qs, h => Nat.Coprime.mul_right (h q (List.mem_cons_self ..)) (cop_prod qs fun p hp => h p (List.mem_cons_of_mem _ hp))
/-- a divisor modulo which g has the order D is at least D -/
theorem order_le {r g D : Nat} {qs : List Nat} (hr : 1 < r) (hD : D = qs.foldr (· * ·) 1) (hp : ∀ q ∈ qs, Prime' q) (h1 : g ^ D % r = 1 % r) (h2 : ∀ q ∈ qs, g ^ (D / q) % r ≠ 1 % r) : D ≤ r := by
  refine holes r D (fun i => g ^ i % r) (fun i _ => Nat.mod_lt _ (by omega)) fun i j hij hj e => ?_
  -- g ^ (j - i) is 1
  have e1 : g ^ (j - i) % r = 1 % r := by
    have a1 : g ^ (D - i + i) % r = 1 % r := by rw [Nat.sub_add_cancel (by omega)]; exact h1
    have a2 : g ^ (D - i + j) % r = 1 % r := by
      rw [Nat.pow_add, Nat.mul_mod, ← e, ← Nat.mul_mod, ← Nat.pow_add]
      exact a1
    have a3 : D - i + j = D + (j - i) := by omega
    rw [a3] at a2
    exact pow_sub h1 a2
  have e2 := pow_gcd (j - i) D e1 h1
  have hm : Nat.gcd (j - i) D ∣ D := Nat.gcd_dvd_right _ _
  have hml : Nat.gcd (j - i) D ≤ j - i := Nat.le_of_dvd (by omega) (Nat.gcd_dvd_left _ _)
  generalize Nat.gcd (j - i) D = m at *
  obtain ⟨t, ht⟩ := hm
  have t1 : t ≠ 1 := fun z => by rw [z, Nat.mul_one] at ht; omega
  by_cases hq : ∃ q ∈ qs, q ∣ t
  · obtain ⟨q, hq1, s, hs⟩ := hq
    have q0 := (hp q hq1).1
    refine h2 q hq1 ?_
    have e3 : D / q = m * s := by
      rw [ht, hs, show m * (q * s) = m * s * q by rw [Nat.mul_comm q s, Nat.mul_assoc]]
      exact Nat.mul_div_cancel _ (by omega)
    rw [e3]
    exact pow_one e2
  · have hc : Nat.Coprime t D := by
      rw [hD]
      exact cop_prod qs fun q hq1 => cop_of (hp q hq1) fun z => hq ⟨q, hq1, z⟩
    have : t ∣ D := ⟨m, by rw [ht, Nat.mul_comm]⟩
    have h3 : Nat.gcd t D = t := Nat.gcd_eq_left this
    rw [hc] at h3
    exact t1 h3.symm
def P : Nat := 618970019642690137449562111
def G : Nat := 154053880453758336202050894
def qs : List Nat := [2113, 683, 397, 353, 89, 23]
def D : Nat := 414002778245233
theorem qs_prime : ∀ q ∈ qs, Prime' q := by
  intro q hq
  simp only [qs, List.mem_cons, List.not_mem_nil, or_false] at hq
  rcases hq with rfl | rfl | rfl | rfl | rfl | rfl
  all_goals exact prime_of (by decide) (by decide +kernel)
theorem facts : pm P G 60 D = 1 ∧ qs.all (fun q => (Nat.gcd (pm P G 60 (D / q) - 1) P == 1) && decide (1 ≤ pm P G 60 (D / q))) = true := by decide +kernel
theorem divisor_ge {r : Nat} (hr : 1 < r) (h : r ∣ P) : D ≤ r := by
  have lt : ∀ q, D / q < 2 ^ 60 := fun q => Nat.lt_of_le_of_lt (Nat.div_le_self _ _) (by decide)
  refine order_le (g := G) hr (by decide +kernel) qs_prime ?_ fun q hq e => ?_
  · have := facts.1
    rw [pm_eq P G 60 D (by decide)] at this
    have h2 : G ^ D % P % r = 1 % r := by rw [this]
    rwa [Nat.mod_mod_of_dvd _ h] at h2
  · have := List.all_eq_true.mp facts.2 q hq
    obtain ⟨g1, g2⟩ := Bool.and_eq_true_iff.mp this
    have g1 := beq_iff_eq.mp g1
    have g2 := of_decide_eq_true g2
    rw [pm_eq P G 60 _ (lt q)] at g1 g2
    rw [← Nat.mod_mod_of_dvd _ h] at e
    have d1 : r ∣ G ^ (D / q) % P - 1 := Nat.dvd_of_mod_eq_zero (Nat.sub_mod_eq_zero_of_mod_eq e)
    have := Nat.dvd_gcd d1 h
    rw [g1] at this
    have := Nat.le_of_dvd (by decide) this
    omega
theorem P_prime {r : Nat} (h : r ∣ P) : r = 1 ∨ r = P := by
  obtain ⟨s, hs⟩ := h
  have r0 : r ≠ 0 := fun e => by rw [e, Nat.zero_mul] at hs; exact absurd hs (by decide)
  have s0 : s ≠ 0 := fun e => by rw [e, Nat.mul_zero] at hs; exact absurd hs (by decide)
  by_cases r1 : r = 1
  · exact .inl r1
  by_cases s1 : s = 1
  · rw [s1, Nat.mul_one] at hs
    exact .inr hs.symm
  have a := divisor_ge (r := r) (by omega) ⟨s, hs⟩
  have b := divisor_ge (r := s) (by omega) ⟨r, by rw [hs, Nat.mul_comm]⟩
  have c := Nat.mul_le_mul a b
  rw [← hs] at c
  exact absurd c (by decide)
/-- no product is a multiple of it but where a factor is one -/
theorem P_euclid {a b : Nat} (h : P ∣ a * b) : P ∣ a ∨ P ∣ b := by
  rcases P_prime (Nat.gcd_dvd_right a P) with e | e
  · exact .inr (Nat.Coprime.dvd_of_dvd_mul_left (Nat.Coprime.symm e) h)
  · exact .inl (e ▸ Nat.gcd_dvd_left a P)
end Pr
/-! k40: polynomials, values, roots, numbers of pairs: no model in it -/
namespace Pr
/-- alike modulo p -/
def Cg (p a b : Int) : Prop := p ∣ a - b
theorem Cg.refl (p a : Int) : Cg p a a := ⟨0, by omega⟩
theorem Cg.symm {p a b : Int} (h : Cg p a b) : Cg p b a := by
  obtain ⟨c, hc⟩ := h
  exact ⟨-c, by rw [Int.mul_neg]; omega⟩
theorem Cg.trans {p a b c : Int} (h : Cg p a b) (k : Cg p b c) : Cg p a c := by
  obtain ⟨x, hx⟩ := h
  obtain ⟨y, hy⟩ := k
  exact ⟨x + y, by rw [Int.mul_add]; omega⟩
theorem Cg.add {p a b c d : Int} (h : Cg p a b) (k : Cg p c d) : Cg p (a + c) (b + d) := by
  obtain ⟨x, hx⟩ := h
  obtain ⟨y, hy⟩ := k
  exact ⟨x + y, by rw [Int.mul_add]; omega⟩
theorem Cg.mul {p a b c d : Int} (h : Cg p a b) (k : Cg p c d) : Cg p (a * c) (b * d) := by
  obtain ⟨x, hx⟩ := h
  obtain ⟨y, hy⟩ := k
  refine ⟨x * c + b * y, ?_⟩
  have e : a * c - b * d = (a - b) * c + b * (c - d) := by rw [Int.sub_mul, Int.mul_sub]; omega
  rw [e, hx, hy, Int.mul_add, Int.mul_assoc, ← Int.mul_assoc b, Int.mul_comm b p, Int.mul_assoc]
theorem Cg.mod (p a : Int) : Cg p (a % p) a := by
  refine ⟨-(a / p), ?_⟩
  have := Int.mul_ediv_add_emod a p
  rw [Int.mul_neg]
  omega
theorem Cg.eq {p a b : Int} (h : Cg p a b) (a0 : 0 ≤ a) (a1 : a < p) (b0 : 0 ≤ b) (b1 : b < p) : a = b := by
  obtain ⟨c, hc⟩ := h
  have : c = 0 := by
    rcases Int.lt_trichotomy c 0 with q | q | q
    · have : p * c ≤ p * (-1) := Int.mul_le_mul_of_nonneg_left (by omega) (by omega)
      omega
    · exact q
    · have : p * 1 ≤ p * c := Int.mul_le_mul_of_nonneg_left (by omega) (by omega)
      omega
  rw [this] at hc
  omega
/-- what a polynomial is at a place -/
def evp : List Int → Int → Int
  | [], _ => 0
  | a :: l, z => a + z * evp l z
/-- the law's: sum and power -/
def atL (p : Int) : List Int → Int → Int → Int → Int
  | [], _, t, _ => t
  | c :: l, z, t, w => atL p l z ((t + c * w) % p) (w * z % p)
theorem atL_cg (p : Int) : ∀ (l : List Int) (z t w : Int), Cg p (atL p l z t w) (t + w * evp l z)
  | [], z, t, w => by
    show Cg p t (t + w * 0)
    rw [Int.mul_zero, Int.add_zero]
    exact .refl _ _
  | c :: l, z, t, w => by
    refine (atL_cg p l z _ _).trans ?_
    show Cg p _ (t + w * (c + z * evp l z))
    have e : t + w * (c + z * evp l z) = t + c * w + w * z * evp l z := by
      rw [Int.mul_add, Int.mul_comm c w, Int.mul_assoc]
      omega
    rw [e]
    exact .add (.mod _ _) (.mul (.mod _ _) (.refl _ _))
theorem atL_lt {p : Int} (hp : 0 < p) : ∀ (l : List Int) (z t w : Int), 0 ≤ t → t < p → 0 ≤ atL p l z t w ∧ atL p l z t w < p
  | [], _, _, _, h0, h1 => ⟨h0, h1⟩
  | c :: l, z, t, w, _, _ => atL_lt hp l z _ _ (Int.emod_nonneg _ (by omega)) (Int.emod_lt_of_pos _ hp)
/-- the program's: from the leading coefficient on -/
def wor (p z : Int) (l : List Int) : Int := l.reverse.foldl (fun f c => (f * z + c) % p) 0
theorem wor_cons (p z a : Int) (l : List Int) : wor p z (a :: l) = (wor p z l * z + a) % p := by
  unfold wor
  rw [List.reverse_cons, List.foldl_append]
  rfl
theorem wor_cg (p z : Int) : ∀ l : List Int, Cg p (wor p z l) (evp l z)
  | [] => .refl _ _
  | a :: l => by
    rw [wor_cons]
    refine (Cg.mod _ _).trans ?_
    show Cg p _ (a + z * evp l z)
    rw [Int.add_comm a, Int.mul_comm z]
    exact .add (.mul (wor_cg p z l) (.refl _ _)) (.refl _ _)
theorem wor_lt {p : Int} (hp : 0 < p) (z : Int) : ∀ l : List Int, 0 ≤ wor p z l ∧ wor p z l < p
  | [] => ⟨Int.le_refl _, hp⟩
  | a :: l => by
    rw [wor_cons]
    exact ⟨Int.emod_nonneg _ (by omega), Int.emod_lt_of_pos _ hp⟩
/-- the two tell alike -/
theorem wor_at {p : Int} (hp : 0 < p) (l : List Int) (z w : Int) (hw : Cg p w 1) : wor p z l = atL p l z 0 w := by
  have a := wor_lt hp z l
  have b := atL_lt hp l z 0 w (Int.le_refl _) hp
  refine Cg.eq ?_ a.1 a.2 b.1 b.2
  refine (wor_cg p z l).trans (Cg.symm ((atL_cg p l z 0 w).trans ?_))
  rw [Int.zero_add]
  have := Cg.mul hw (Cg.refl p (evp l z))
  rw [Int.one_mul] at this
  exact this
/-- the product of (z - x) over a lot -/
def prd (z : Int) : List Int → Int
  | [] => 1
  | x :: l => (z - x) * prd z l
def val (p z : Int) (l : List Int) (f : Int) : Int := l.foldl (fun f x => f * (z - x) % p) f
theorem val_cg (p z : Int) : ∀ (l : List Int) (f : Int), Cg p (val p z l f) (f * prd z l)
  | [], f => by
    show Cg p f (f * 1)
    rw [Int.mul_one]
    exact .refl _ _
  | x :: l, f => by
    show Cg p (val p z l (f * (z - x) % p)) (f * ((z - x) * prd z l))
    refine (val_cg p z l _).trans ?_
    rw [← Int.mul_assoc]
    exact .mul (.mod _ _) (.refl _ _)
theorem val_lt {p : Int} (hp : 0 < p) (z : Int) : ∀ (l : List Int) (f : Int), 0 ≤ f → f < p → 0 ≤ val p z l f ∧ val p z l f < p
  | [], _, h0, h1 => ⟨h0, h1⟩
  | x :: l, f, _, _ => val_lt hp z l _ (Int.emod_nonneg _ (by omega)) (Int.emod_lt_of_pos _ hp)
/-- times (z - x), as the law does it -/
def mulx (p x : Int) (l : List Int) : List Int := List.zipWith (fun a b => (a - b) % p) (0 :: l) (l.map (· * x) ++ [0])
theorem evp_zip (p z : Int) : ∀ a b : List Int, a.length = b.length → Cg p (evp (List.zipWith (fun a b => (a - b) % p) a b) z) (evp a z - evp b z)
  | [], [], _ => .refl _ _
  | a :: r, b :: s, h => by
    have ih := evp_zip p z r s (by simpa using h)
    show Cg p ((a - b) % p + z * evp (List.zipWith (fun a b => (a - b) % p) r s) z) (a + z * evp r z - (b + z * evp s z))
    have e : a + z * evp r z - (b + z * evp s z) = (a - b) + z * (evp r z - evp s z) := by rw [Int.mul_sub]; omega
    rw [e]
    exact .add (.mod _ _) (.mul (.refl _ _) ih)
  | [], _ :: _, h => by cases h
  | _ :: _, [], h => by cases h
theorem evp_scale (z x : Int) : ∀ l : List Int, evp (l.map (· * x) ++ [0]) z = x * evp l z
  | [] => by
    show 0 + z * 0 = x * 0
    rw [Int.mul_zero, Int.mul_zero, Int.zero_add]
  | a :: l => by
    show a * x + z * evp (l.map (· * x) ++ [0]) z = x * (a + z * evp l z)
    rw [evp_scale z x l, Int.mul_add, Int.mul_comm a x, ← Int.mul_assoc, ← Int.mul_assoc, Int.mul_comm z x]
theorem mulx_cg (p x z : Int) (l : List Int) : Cg p (evp (mulx p x l) z) ((z - x) * evp l z) := by
  unfold mulx
  refine (evp_zip p z _ _ (by simp)).trans ?_
  rw [evp_scale]
  show Cg p (0 + z * evp l z - x * evp l z) _
  rw [Int.sub_mul, Int.zero_add]
  exact .refl _ _
theorem mulx_len (p x : Int) (l : List Int) : (mulx p x l).length = l.length + 1 := by
  unfold mulx
  rw [List.length_zipWith]
  simp
def prodP (p : Int) (lot : List Int) : List Int := lot.foldl (fun f x => mulx p x f) [1]
theorem fold_cg (p z : Int) : ∀ (lot f : List Int), Cg p (evp (lot.foldl (fun f x => mulx p x f) f) z) (prd z lot * evp f z)
  | [], f => by
    show Cg p _ (1 * evp f z)
    rw [Int.one_mul]
    exact .refl _ _
  | x :: lot, f => by
    refine (fold_cg p z lot (mulx p x f)).trans ?_
    show Cg p _ ((z - x) * prd z lot * evp f z)
    rw [Int.mul_comm (z - x), Int.mul_assoc]
    exact .mul (.refl _ _) (mulx_cg p x z f)
theorem prodP_cg (p z : Int) (lot : List Int) : Cg p (evp (prodP p lot) z) (prd z lot) := by
  have := fold_cg p z lot [1]
  rw [show evp [1] z = 1 by show 1 + z * 0 = 1; omega, Int.mul_one] at this
  exact this
theorem fold_len (p : Int) : ∀ (lot f : List Int), (lot.foldl (fun f x => mulx p x f) f).length = lot.length + f.length
  | [], f => by simp
  | x :: lot, f => by
    show (lot.foldl (fun f x => mulx p x f) (mulx p x f)).length = _
    rw [fold_len p lot, mulx_len, List.length_cons]
    omega
/-- values is what the whole product is at a place -/
theorem val_at {p : Int} (hp : 1 < p) (lot : List Int) (z : Int) : val p z lot 1 = atL p (prodP p lot) z 0 1 := by
  have a := val_lt (p := p) (by omega) z lot 1 (by omega) hp
  have b := atL_lt (p := p) (by omega) (prodP p lot) z 0 1 (Int.le_refl _) (by omega)
  refine Cg.eq ?_ a.1 a.2 b.1 b.2
  have h1 := val_cg p z lot 1
  have h2 := atL_cg p (prodP p lot) z 0 1
  rw [Int.one_mul] at h1
  rw [Int.zero_add, Int.one_mul] at h2
  exact h1.trans (h2.trans (prodP_cg p z lot)).symm
/-! ### primes -/
def PrI (p : Int) : Prop := 1 < p ∧ ∀ a b : Int, p ∣ a * b → p ∣ a ∨ p ∣ b
theorem pri_of {n : Nat} (h1 : 1 < n) (h : ∀ d, d ∣ n → d = 1 ∨ d = n) : PrI (n : Int) := by
  refine ⟨by omega, fun a b hd => ?_⟩
  have h2 : n ∣ a.natAbs * b.natAbs := by
    rw [← Int.natAbs_mul]
    exact Int.ofNat_dvd_left.mp hd
  rcases h _ (Nat.gcd_dvd_right a.natAbs n) with e | e
  · exact .inr (Int.ofNat_dvd_left.mpr (Nat.Coprime.dvd_of_dvd_mul_left (Nat.Coprime.symm e) h2))
  · exact .inl (Int.ofNat_dvd_left.mpr (e ▸ Nat.gcd_dvd_left a.natAbs n))
theorem pri_P : PrI (P : Int) := pri_of (by decide) fun d h => P_prime h
/-- below 10000: no divisor from 2 to 99 -/
theorem pri_small {n : Nat} (h1 : 1 < n) (h2 : n < 10000) (h : ∀ d, 2 ≤ d → d < 100 → d < n → ¬ d ∣ n) : PrI (n : Int) := by
  refine pri_of h1 fun d hd => ?_
  obtain ⟨e, he⟩ := hd
  have d0 : d ≠ 0 := fun z => by rw [z, Nat.zero_mul] at he; omega
  have e0 : e ≠ 0 := fun z => by rw [z, Nat.mul_zero] at he; omega
  by_cases d1 : d = 1
  · exact .inl d1
  by_cases e1 : e = 1
  · rw [e1, Nat.mul_one] at he
    exact .inr he.symm
  exfalso
  by_cases hd : d < 100
  · refine h d (by omega) hd ?_ ⟨e, he⟩
    have : d * 2 ≤ d * e := Nat.mul_le_mul_left _ (by omega)
    omega
  · by_cases hee : e < 100
    · refine h e (by omega) hee ?_ ⟨d, by rw [he, Nat.mul_comm]⟩
      have : e * 2 ≤ e * d := Nat.mul_le_mul_left _ (by omega)
      rw [Nat.mul_comm e d] at this
      omega
    · have : 100 * 100 ≤ d * e := Nat.mul_le_mul (by omega) (by omega)
      omega
theorem prd_dvd {p : Int} (hp : PrI p) (z : Int) : ∀ l : List Int, p ∣ prd z l → ∃ x ∈ l, p ∣ z - x
  | [], h => by
    have h1 : p ≤ 1 := Int.le_of_dvd (by decide) (show p ∣ 1 from h)
    have := hp.1
    omega
  | x :: l, h => by
    rcases hp.2 _ _ h with q | q
    · exact ⟨x, List.mem_cons_self .., q⟩
    · obtain ⟨y, hy, hd⟩ := prd_dvd hp z l q
      exact ⟨y, List.mem_cons_of_mem _ hy, hd⟩
theorem dvd_prd {p z x : Int} : ∀ {l : List Int}, x ∈ l → p ∣ z - x → p ∣ prd z l
  | y :: l, h, hd => by
    rcases List.mem_cons.mp h with rfl | h
    · exact Int.dvd_trans hd ⟨prd z l, rfl⟩
    · exact Int.dvd_trans (dvd_prd h hd) ⟨z - y, Int.mul_comm _ _⟩
/-- the roots of a product are the numbers of which it was made -/
theorem root_iff {p z : Int} (hp : PrI p) (z0 : 0 ≤ z) (z1 : z < p) {made : List Int} (hm : ∀ x ∈ made, 0 ≤ x ∧ x < p) : wor p z (prodP p made) = 0 ↔ z ∈ made := by
  have p0 := hp.1
  have c : Cg p (wor p z (prodP p made)) (prd z made) := (wor_cg p z _).trans (prodP_cg p z made)
  have l := wor_lt (p := p) (by omega) z (prodP p made)
  constructor
  · intro h
    rw [h] at c
    obtain ⟨x, hx, hd⟩ := prd_dvd hp z made (by
      have := c.symm
      unfold Cg at this
      rwa [Int.sub_zero] at this)
    have := hm x hx
    have : z = x := Cg.eq hd z0 z1 this.1 this.2
    rw [this]
    exact hx
  · intro h
    have hd : p ∣ prd z made := dvd_prd h ⟨0, by omega⟩
    have c2 : Cg p (prd z made) 0 := by
      unfold Cg
      rwa [Int.sub_zero]
    exact Cg.eq (c.trans c2) l.1 l.2 (Int.le_refl _) (by omega)
/-! ### the numbers of names and stamps -/
def word (l : List Nat) : Nat := l.foldl (fun w d => w * 27 + d) 0
theorem word_snoc (l : List Nat) (d : Nat) : word (l ++ [d]) = word l * 27 + d := by
  unfold word
  rw [List.foldl_append]
  rfl
def dig (l : List Nat) : Prop := ∀ d ∈ l, 1 ≤ d ∧ d ≤ 26
theorem snoc {l : List Nat} (h : l ≠ []) : ∃ r d, l = r ++ [d] := ⟨l.dropLast, l.getLast h, (List.dropLast_concat_getLast h).symm⟩
theorem word_inj : ∀ (n : Nat) (a b : List Nat), a.length ≤ n → dig a → dig b → word a = word b → a = b
  | 0, a, b, hn, ha, hb, h => by
    have : a = [] := List.length_eq_zero_iff.mp (by omega)
    subst this
    by_cases q : b = []
    · exact q.symm
    · obtain ⟨r, d, rfl⟩ := snoc q
      have := hb d (by simp)
      rw [word_snoc] at h
      change 0 = _ at h
      omega
  | n + 1, a, b, hn, ha, hb, h => by
    by_cases q : a = []
    · subst q
      by_cases q2 : b = []
      · exact q2.symm
      · obtain ⟨r, d, rfl⟩ := snoc q2
        have := hb d (by simp)
        rw [word_snoc] at h
        change 0 = _ at h
        omega
    · obtain ⟨r, d, rfl⟩ := snoc q
      have d1 := ha d (by simp)
      by_cases q2 : b = []
      · subst q2
        rw [word_snoc] at h
        change _ = 0 at h
        omega
      · obtain ⟨s, e, rfl⟩ := snoc q2
        have e1 := hb e (by simp)
        rw [word_snoc, word_snoc] at h
        have hd : d = e := by omega
        have hw : word r = word s := by omega
        rw [List.length_append, List.length_singleton] at hn
        rw [hd, word_inj n r s (by omega) (fun x hx => ha x (by simp [hx])) (fun x hx => hb x (by simp [hx])) hw]
/-- the law's sum: from the last letter on -/
def sumL : List Nat → Nat → Nat → Nat
  | [], t, _ => t
  | d :: l, t, w => sumL l (t + w * d) (w * 27)
theorem sumL_eq : ∀ (l : List Nat) (t w : Nat), sumL l.reverse t w = t + w * word l := by
  have h : ∀ (l : List Nat) (t w : Nat), sumL l t w = t + w * word l.reverse := by
    intro l
    induction l with
    | nil =>
      intro t w
      show t = t + w * 0
      omega
    | cons d l ih =>
      intro t w
      show sumL l (t + w * d) (w * 27) = _
      rw [ih, List.reverse_cons, word_snoc, Nat.mul_add, Nat.mul_assoc w 27, Nat.mul_comm 27]
      omega
  intro l t w
  rw [h, List.reverse_reverse]
/-- unlike pairs have unlike numbers -/
theorem number_inj {a b : List Nat} {n m h k : Nat} (ha : dig a) (hb : dig b) (hn : n < 1000000) (hm : m < 1000000) (hh : h < 100) (hk : k < 100) (e : 10 ^ 8 * word a + 100 * n + h = 10 ^ 8 * word b + 100 * m + k) : a = b ∧ n = m ∧ h = k := by
  have h1 : word a = word b := by omega
  refine ⟨word_inj _ a b (Nat.le_refl _) ha hb h1, by omega, by omega⟩
end Pr
/-! k40: heaps, the hat, draws -/
namespace Hv
open PySem PySem.Spec PyProof.Rows L2 Evl
def topS (i : Nat) : Stmt := PySem.Challenge.pw_homeshold_k40_values_and_roots.main.body.getD i (.Pass ⟨0, 0, 0, 0⟩)
/-! ### heaps -/
/-- all that was tracked stands as it was, but for what stands at w -/
def Keep (w : Addr) (H H' : Hp) : Prop := ∀ b o, b ≠ w → H b = some o → H' b = some o
theorem Keep.refl (w : Addr) (H : Hp) : Keep w H H := fun _ _ _ h => h
theorem Keep.trans {w : Addr} {H H1 H2 : Hp} (a : Keep w H H1) (b : Keep w H1 H2) : Keep w H H2 := fun c o n h => b c o n (a c o n h)
theorem Keep.of_same {w : Addr} {H H' : Hp} (s : Same H H') : Keep w H H' := fun b o _ h => s b o h
theorem Keep.updw {w : Addr} {H : Hp} {o : HO} : Keep w H (upd H w o) := fun b u n h => by
  rw [upd_ne n]
  exact h
theorem same_upd {H : Hp} {p : Addr} {o : HO} (h : H p = none) : Same H (upd H p o) := fun b x e => by
  rw [upd_ne (ne_of_none e h)]
  exact e
theorem Keep.new {w : Addr} {H : Hp} {p : Addr} {o : HO} (h : H p = none) : Keep w H (upd H p o) := .of_same (same_upd h)
/-- a hat: what is left of a cell's digits, and a mix -/
def Well (H : Hp) (w : Addr) : Prop := ∃ a b : Int, H w = some (.lst [.int a, .int b]) ∧ 0 ≤ a ∧ 0 ≤ b
/-- what a draw leaves -/
structure Drawn (w : Addr) (H H' : Hp) : Prop where
  keep : Keep w H H'
  well : Well H' w
variable {a : Addr} {H H' H1 H2 : Hp} {p : Addr} {o : HO}
theorem Drawn.refl (h : Well H a) : Drawn a H H := ⟨.refl _ _, h⟩
theorem Drawn.trans (x : Drawn a H H1) (y : Drawn a H1 H2) : Drawn a H H2 := ⟨x.keep.trans y.keep, y.well⟩
theorem Well.same (h : Well H a) (s : Same H H') : Well H' a := by
  obtain ⟨x, y, h1, h2, h3⟩ := h
  exact ⟨x, y, s _ _ h1, h2, h3⟩
theorem Drawn.same (x : Drawn a H H1) (y : Same H1 H2) : Drawn a H H2 := ⟨x.keep.trans (.of_same y), x.well.same y⟩
theorem Drawn.new (x : Drawn a H H1) (h : H1 p = none) : Drawn a H (upd H1 p o) := x.same (same_upd h)
theorem Well.ne (h : Well H a) (n : H p = none) : p ≠ a := by
  obtain ⟨x, y, h1, _⟩ := h
  exact (ne_of_none h1 n).symm
theorem Drawn.free (e : Drawn a H H') (hw : Well H a) (h : H' p = Option.none) : H p = Option.none := by
  by_cases q : p = a
  · subst q
    obtain ⟨_, _, h1, _⟩ := e.well
    rw [h1] at h
    cases h
  · cases z : H p with
    | none => rfl
    | some o =>
      rw [e.keep p o q z] at h
      cases h
theorem Drawn.put (x : Drawn a H H1) (hw : Well H a) (n : H p = none) : Drawn a H (upd H1 p o) := by
  have n1 := hw.ne n
  refine ⟨fun b u nb e => ?_, ?_⟩
  · rw [upd_ne (ne_of_none e n)]
    exact x.keep b u nb e
  · obtain ⟨y, z, h1, h2⟩ := x.well
    exact ⟨y, z, by rw [upd_ne n1.symm]; exact h1, h2⟩
/-- the names of the built-ins that the text leaves alone -/
structure Bt (mg : Str → Option Value) : Prop where
  b_int : mg "int" = none
  b_len : mg "len" = none
  b_range : mg "range" = none
  b_all : mg "all" = none
  b_isinstance : mg "isinstance" = none
  b_tuple : mg "tuple" = none
  b_list : mg "list" = none
  b_str : mg "str" = none
  b_min : mg "min" = none
  b_zip : mg "zip" = none
  b_sorted : mg "sorted" = none
  b_set : mg "set" = none
  b_bool : mg "bool" = none
  b_enum : mg "enumerate" = none
section
variable {P : Program} {w : World} {K : PySem.W.Frag} {mg : Str → Option Value} {base : Heap}
theorem fmod_lt {a b : Int} (h : 0 < b) : 0 ≤ a.fmod b ∧ a.fmod b < b := by
  rw [Int.fmod_eq_emod_of_nonneg _ (Int.le_of_lt h)]
  exact ⟨Int.emod_nonneg _ (by omega), Int.emod_lt_of_pos _ h⟩
/-- a def of the text, found by its name -/
structure Df (K : PySem.W.Frag) (mg : Str → Option Value) (x : Str) (st : Stmt) (ps : List Str) (f : Addr) (fd : FuncData) : Prop where
  F : Fun K x x st f fd
  b : Binds K fd ps []
  g : mg x = some (.ref f)
theorem boot_int2 : bootBuiltins "int" = some (.type "int") := by decide +kernel
theorem ev_int1 {σ : L2.St} {H : Hp} {te : TE} {i : Int} (h : Ev te σ H (.int i)) : Ev (tCB (fun xs H Q => (∃ i, xs = [V.int i] ∧ Q (.int i) H) ∨ ∃ k, xs = [V.bl k] ∧ Q (.int (if k then 1 else 0)) H) (tCons te tNil)) σ H (.int i) := ev_cb (ea_cons h ea_nil) fun H1 _ Q q => .inl ⟨i, rfl, q H1 (Ex.refl H1)⟩
theorem rv_mulW {H : Hp} {i j : Int} {a b : Nat} (ha : i.natAbs < 2 ^ a) (hb : j.natAbs < 2 ^ b) (h0 : 0 < a) (h1 : 0 < b) (h : a + b ≤ 1000000) : RV (rI CMulW fun i j => .int (i * j)) (.int i) (.int j) H (.int (i * j)) := fun H1 _ Q q => ⟨i, j, rfl, rfl, wide_mul ha hb h0 h1 h, q H1 (Ex.refl H1)⟩
theorem rv_mul1 {H : Hp} {i j : Int} (h1 : -(2 ^ 64) < i) (h2 : i < 2 ^ 64) : RV (rI CMul fun i j => .int (i * j)) (.int i) (.int j) H (.int (i * j)) := fun H1 _ Q q => ⟨i, j, rfl, rfl, .inl ⟨h1, h2⟩, q H1 (Ex.refl H1)⟩
theorem rv_mul2 {H : Hp} {i j : Int} (h1 : -(2 ^ 64) < j) (h2 : j < 2 ^ 64) : RV (rI CMul fun i j => .int (i * j)) (.int i) (.int j) H (.int (i * j)) := fun H1 _ Q q => ⟨i, j, rfl, rfl, .inr ⟨h1, h2⟩, q H1 (Ex.refl H1)⟩
theorem rv_modN {H : Hp} {i j : Int} (h : j ≠ 0) : RV (rI (fun _ j => j ≠ 0) fun i j => .int (i.fmod j)) (.int i) (.int j) H (.int (i.fmod j)) := fun H1 _ Q q => ⟨i, j, rfl, rfl, h, q H1 (Ex.refl H1)⟩
theorem rv_fdivW {H : Hp} {i j : Int} {b : Nat} (h : 0 < j) (hb : j.natAbs < 2 ^ b) (h0 : 0 < b) (h9 : b ≤ 9000) : RV (rI CDivW fun i j => .int (i / j)) (.int i) (.int j) H (.int (i / j)) := fun H1 _ Q q => ⟨i, j, rfl, rfl, wide_div h hb h0 h9, q H1 (Ex.refl H1)⟩
theorem ev_hat {σ : L2.St} {H : Hp} {w : Addr} {K : PySem.W.Frag} {to : TE} {x y : V} (h : H w = some (.lst [x, y])) (ho : Ev to σ H (.ref w)) : Ev (tOp (rIxL K) to (tC (.int 0))) σ H x ∧ Ev (tOp (rIxL K) to (tC (.int 1))) σ H y :=
  ⟨ev_op ho ev_c (rv_ixL (SqL.of h) rfl), ev_op ho ev_c (rv_ixL (SqL.of h) rfl)⟩
abbrev sDraw : Stmt := topS 43
def spDraw : Sp := fun vs H Q _ => ∃ (wl : Addr) (m : Int), vs = [.ref wl, .int m] ∧ Well H wl ∧ 0 < m ∧ m < 2 ^ 90 ∧ ∀ (d : Int) (H' : Hp), 0 ≤ d → d < m → Drawn wl H H' → Q (.int d) H'
theorem scDraw : FnScope ["hat", "many", "digit"] ["hat", "many"] (defScope sDraw) := ⟨rfl, rfl, rfl, by decide +kernel, rfl, by decide +kernel, by decide +kernel⟩
abbrev ixl (K : PySem.W.Frag) (X : Cx) (e : X.K = K) : IxR X (rIxL X.K) := ix_list
theorem ok_draw {f : Addr} {fd : FuncData} (F : Fun K "_law_draw" "_law_draw" sDraw f fd) (B : Bt mg) : FnOk P w K mg base CX0 1 f fd ["hat", "many"] spDraw := by
  refine F.ok scDraw (fun vs H Q E h => ?_) (fun cdv A outer s H vs Q E hr h => ?_)
  · obtain ⟨n, m, rfl, _⟩ := h
    rfl
  obtain ⟨wl, m, rfl, W, m0, m1, k⟩ := h
  have hI := B.b_int
  refine ⟨_, pss_cons (ps_if (pt_cmpR op_gt (pe_ix ix_list (pv 0) pe_int (fun _ _ => rfl)) pe_int (nomark _))
      (pss_cons (ps_set (i := 2) scDraw.nd rfl (.inl rfl) (pe_op op_modN (pe_callTy call_int1 (by rfl) hI boot_int2 (pa_cons (pe_ix ix_list (pv 0) pe_int (fun _ _ => rfl)) pa_nil)) (pv 1)))
      (pss_cons (ps_asg (pe_op op_fdivW (pe_ix ix_list (pv 0) pe_int (fun _ _ => rfl)) (pv 1)) (pg_sub (pv 0) pe_int set_list))
      (pss_one (ps_ret (pv 2))))) pss_nil)
    (pss_cons (ps_asg (pe_op op_modN (pe_op op_add (pe_op op_mul (pe_callTy call_int1 (by rfl) hI boot_int2 (pa_cons (pe_ix ix_list (pv 0) pe_int (fun _ _ => rfl)) pa_nil)) pe_int) pe_int) pe_int) (pg_sub (pv 0) pe_int set_list))
    (pss_cons (ps_asg (pe_op op_modN (pe_op op_add (pe_op op_mul (pe_callTy call_int1 (by rfl) hI boot_int2 (pa_cons (pe_ix ix_list (pv 0) pe_int (fun _ _ => rfl)) pa_nil)) (pe_op op_add (pe_op op_modN (pe_op op_fdivW (pe_ix ix_list (pv 0) pe_int (fun _ _ => rfl)) pe_int) pe_int) pe_int)) pe_int) pe_int) (pg_sub (pv 0) pe_int set_list))
    (pss_one (ps_ret (pe_op op_modN (pe_op op_fdivW (pe_ix ix_list (pv 0) pe_int (fun _ _ => rfl)) pe_int) (pv 1)))))), ?_⟩
  obtain ⟨a, b, h1, a0, b0⟩ := W
  have gt := fun (σ : L2.St) (e : σ[0]? = some (some (V.ref wl))) => (ev_hat (K := K) (σ := σ) h1 (ev_var e))
  refine q_when (b := decide (a > 0)) (et_test (ev_op (gt _ rfl).1 ev_c rv_I0)) (fun q H1 e1 => ?_) (fun q H1 e1 => ?_)
  · have h2 := e1 _ _ h1
    refine q_asg (ev_op (ev_int1 (ev_hat (K := K) h2 (ev_var rfl)).1) (ev_var rfl) (rv_modN (by omega))) fun H2 e2 => ?_
    have h3 := e2 _ _ h2
    refine q_setL (j := 0) h3 (ev_op (ev_hat (K := K) h3 (ev_var rfl)).1 (ev_var rfl) (rv_fdivW (b := 90) m0 (by omega) (by decide) (by decide))) (ev_var rfl) ev_c (by show (0 : Nat) < 2; decide) fun H3 e3 => ?_
    have E3 := (e1.trans e2).trans e3
    refine s_ret (ev_var rfl) fun H4 e4 => ?_
    have b1 := fmod_lt (a := a) m0
    refine k _ H4 b1.1 b1.2 ⟨?_, a / m, b, e4 _ _ upd_same, Int.ediv_nonneg a0 (by omega), b0⟩
    exact ((Keep.of_same E3).trans .updw).trans (.of_same e4)
  · have h2 := e1 _ _ h1
    refine q_setL (j := 1) h2 (ev_op (ev_op (ev_op (ev_int1 (ev_hat (K := K) h2 (ev_var rfl)).2) ev_c (rv_mul2 (by decide) (by decide))) ev_c rv_I0) ev_c (rv_modN (by decide))) (ev_var rfl) ev_c (by show (1 : Nat) < 2; decide) fun H2 e2 => ?_
    have b1 := fmod_lt (a := b * 48271 + 11) (b := 2147483647) (by decide)
    generalize (b * 48271 + 11).fmod 2147483647 = b' at b1
    have u2 := upd_same (H := H2) (a := wl) (o := .lst [.int a, .int b'])
    refine q_setL (j := 1) u2 (ev_op (ev_op (ev_op (ev_int1 (ev_hat (K := K) u2 (ev_var rfl)).2) (ev_op (ev_op (ev_op (ev_hat (K := K) u2 (ev_var rfl)).2 ev_c (rv_fdivW (b := 20) (by decide) (by decide) (by decide) (by decide))) ev_c (rv_modN (by decide))) ev_c rv_I0) (rv_mul1 (by omega) (by omega))) ev_c rv_I0) ev_c (rv_modN (by decide))) (ev_var rfl) ev_c (by show (1 : Nat) < 2; decide) fun H3 e3 => ?_
    generalize hb : (b' * ((b' / 1009).fmod 65521 + 69621) + 7).fmod 2147483629 = b2
    have b3 : 0 ≤ b2 ∧ b2 < 2147483629 := by rw [← hb]; exact fmod_lt (by decide)
    have u3 := upd_same (H := H3) (a := wl) (o := .lst [.int a, .int b2])
    refine s_ret (ev_op (ev_op (ev_hat (K := K) u3 (ev_var rfl)).2 ev_c (rv_fdivW (b := 20) (by decide) (by decide) (by decide) (by decide))) (ev_var rfl) (rv_modN (by omega))) fun H4 e4 => ?_
    have b4 := fmod_lt (a := b2 / 16) m0
    refine k _ H4 b4.1 b4.2 ⟨?_, a, b2, e4 _ _ u3, a0, b3.1⟩
    exact ((((Keep.of_same (e1.trans e2)).trans .updw).trans (.of_same e3)).trans .updw).trans (.of_same e4)
end
end Hv
/-! k40: rules that all defs use -/
namespace Hv
open PySem PySem.Spec PyProof.Rows L2 Evl
abbrev iL (xs : List Int) : List V := xs.map V.int
theorem iL_get {ns : List Int} {i : Nat} {n : Int} (h : ns[i]? = some n) : (iL ns)[i]? = some (.int n) := by
  rw [List.getElem?_map, h]
  rfl
theorem iL_of {ns : List Int} {i : Nat} {x : V} (h : (iL ns)[i]? = some x) : ∃ n, ns[i]? = some n ∧ x = .int n := by
  rw [List.getElem?_map] at h
  obtain ⟨n, h1, h2⟩ := Option.map_eq_some_iff.mp h
  exact ⟨n, h1, h2.symm⟩
theorem iL_len (ns : List Int) : (iL ns).length = ns.length := List.length_map ..
theorem iL_flat (ns : List Int) : (iL ns).all flatV = true := List.all_eq_true.mpr fun x hx => by
  obtain ⟨n, _, rfl⟩ := List.mem_map.mp hx
  rfl
theorem inV_iL (n : Int) (ns : List Int) : inV (.int n) (iL ns) = decide (n ∈ ns) := by
  unfold inV
  rw [List.any_map]
  induction ns with
  | nil => rfl
  | cons m ns ih =>
    rw [List.any_cons, ih]
    show ((m == n) || decide (n ∈ ns)) = _
    by_cases e : m = n
    · subst e
      simp
    · have e2 : (m == n) = false := by simpa using e
      rw [e2, Bool.false_or]
      refine decide_eq_decide.mpr ⟨fun h => List.mem_cons_of_mem _ h, fun h => ?_⟩
      rcases List.mem_cons.mp h with h | h
      · exact absurd h.symm e
      · exact h
theorem boot_isi' : bootBuiltins "isinstance" = some (.builtin "isinstance") := by decide +kernel
theorem boot_all' : bootBuiltins "all" = some (.builtin "all") := by decide +kernel
theorem boot_tuple' : bootBuiltins "tuple" = some (.type "tuple") := by decide +kernel
theorem boot_list' : bootBuiltins "list" = some (.type "list") := by decide +kernel
theorem boot_str' : bootBuiltins "str" = some (.type "str") := by decide +kernel
theorem boot_bool' : bootBuiltins "bool" = some (.type "bool") := by decide +kernel
theorem boot_min' : bootBuiltins "min" = some (.builtin "min") := by decide +kernel
theorem boot_sorted' : bootBuiltins "sorted" = some (.builtin "sorted") := by decide +kernel
/-- a statement that is never reached -/
theorem ps_dead {X : Cx} {st : Stmt} : PS X st (fun _ _ _ => False) := ⟨fun _ _ _ _ _ _ h => h.elim⟩
theorem room_hu {k : Nat} {A : Around} (r : Room k A) : A.units + 64 < cLine := r.units
/-- what a def without effects tells -/
def spFn (p : List V → Hp → V → Prop) : Sp := fun vs H Q _ => ∃ r, p vs H r ∧ ∀ H', Same H H' → Q r H'
section
variable {K : PySem.W.Frag} {σ : L2.St} {H : Hp} {te tl ta tb tc : TE} {tt t : TT} {x y z : V} {r r' : R2} {u v : V}
theorem et_yes : EvT tYes σ H true := fun H1 _ Q q => q H1 (Ex.refl H1)
theorem ev_chain {a b : Bool} (ha : Ev ta σ H x) (hb : Ev tb σ H y) (hc : Ev tc σ H z) (h1 : RV r x y H (.bl a)) (h2 : a = true → RV r' y z H (.bl b)) : Ev (tChain r r' ta tb tc) σ H (.bl (a && b)) := fun H1 e Q q =>
  ha H1 e _ fun H2 e2 => hb H2 (e.trans e2) _ fun H3 e3 => h1 H3 ((e.trans e2).trans e3) _ fun H4 e4 => ⟨a, rfl, by
    cases a with
    | false => exact q H4 ((e2.trans e3).trans e4)
    | true => exact hc H4 (((e.trans e2).trans e3).trans e4) _ fun H5 e5 => h2 rfl H5 ((((e.trans e2).trans e3).trans e4).trans e5) _ fun H6 e6 => q H6 ((((e2.trans e3).trans e4).trans e5).trans e6)⟩
theorem ev_isi0 {T : String} {b : Bool} {i : Int} (h : Ev te σ H (.int i)) (hk : kitB "int" T = some b) : Ev (tCB (L2.rIsi K) (tCons te (tCons (tC (.ty T)) tNil))) σ H (.bl b) :=
  ev_cb (ea_cons h (ea_cons ev_c ea_nil)) fun H1 e Q q => ⟨_, .ty T, _, .type T, _, rfl, .ty T, .base (.int i), kit_ty hk, q H1 (Ex.refl H1)⟩
theorem ev_isis {T : String} {b : Bool} {s : Str} (h : Ev te σ H (.str s)) (hk : kitB "str" T = some b) : Ev (tCB (L2.rIsi K) (tCons te (tCons (tC (.ty T)) tNil))) σ H (.bl b) :=
  ev_cb (ea_cons h (ea_cons ev_c ea_nil)) fun H1 e Q q => ⟨_, .ty T, _, .type T, _, rfl, .ty T, .base (.str s), kit_ty hk, q H1 (Ex.refl H1)⟩
theorem ev_isit {T : String} {b : Bool} {a : Addr} {xs : List V} (h : Ev te σ H (.ref a)) (hx : H a = some (.tup xs)) (hk : kitB "tuple" T = some b) : Ev (tCB (L2.rIsi K) (tCons te (tCons (tC (.ty T)) tNil))) σ H (.bl b) :=
  ev_cb (ea_cons h (ea_cons ev_c ea_nil)) fun H1 e Q q => ⟨_, .ty T, _, .type T, _, rfl, .ty T, .base (.tup (e _ _ hx)), kit_ty hk, q H1 (Ex.refl H1)⟩
theorem kit_ii : kitB "int" "int" = some true := by decide +kernel
theorem kit_ib : kitB "int" "bool" = some false := by decide +kernel
theorem kit_it : kitB "int" "tuple" = some false := by decide +kernel
theorem kit_is' : kitB "int" "str" = some false := by decide +kernel
theorem kit_ss : kitB "str" "str" = some true := by decide +kernel
theorem kit_tt : kitB "tuple" "tuple" = some true := by decide +kernel
abbrev rLenQ (K : PySem.W.Frag) : List V → Hp → VK → Prop := fun xs H Q => ∃ p ys, xs = [.ref p] ∧ (SqL K H p ys ∨ SqT K H p ys) ∧ Q (.int ys.length) H
theorem ev_lenT {a : Addr} {xs : List V} (h : Ev te σ H (.ref a)) (hx : H a = some (.tup xs)) : Ev (tCB (rLenQ K) (tCons te tNil)) σ H (.int (xs.length : Int)) :=
  ev_cb (ea_cons h ea_nil) fun H1 e Q q => ⟨a, xs, rfl, .inr (st_of (e _ _ hx)), q H1 (Ex.refl H1)⟩
abbrev rLenZ : List V → Hp → VK → Prop := fun xs H Q => ∃ z : Str, xs = [.str z] ∧ z.length ≤ sizeLine ∧ Q (.int z.length) H
theorem ev_lenS {z : Str} (h : Ev te σ H (.str z)) (hz : z.length ≤ 100000) : Ev (tCB rLenZ (tCons te tNil)) σ H (.int (z.length : Int)) :=
  ev_cb (ea_cons h ea_nil) fun H1 e Q q => ⟨z, rfl, sz_of hz, q H1 (Ex.refl H1)⟩
theorem ev_ixT {a : Addr} {j : Nat} {xs : List V} (h : Ev te σ H (.ref a)) (hx : H a = some (.tup xs)) (hj : xs[j]? = some v) : Ev (tOp (rIxT K) te (tC (.int (j : Int)))) σ H v := ev_op h ev_c (rv_ixT (st_of hx) (atI_nat hj))
theorem ev_all {bs : List Bool} (h : EvL te σ H (bs.map V.bl)) : Ev (tCB (rAll K) (tCons te tNil)) σ H (.bl (bs.all id)) := fun H1 e Q q => h H1 e _ fun p H2 hp e2 h2 => ⟨p, bs, rfl, sq_of h2, q H2 e2⟩
/-- comprehensions over integers: no effects -/
theorem given_list {α : Type} (ns : List α) (d : α) (f : α → Bool) (g : α → V) : given ns.length (fun i => f (ns.getD i d)) (fun i => g (ns.getD i d)) = (ns.filter f).map g := by
  unfold given
  have h : (List.range ns.length).map (fun i => ns.getD i d) = ns := by
    refine List.ext_getElem? fun i => ?_
    rw [List.getElem?_map]
    by_cases hi : i < ns.length
    · rw [List.getElem?_range hi, List.getElem?_eq_getElem hi]
      show some (ns.getD i d) = _
      rw [List.getD_eq_getElem?_getD, List.getElem?_eq_getElem hi]
      rfl
    · rw [List.getElem?_eq_none (by rw [List.length_range]; omega), List.getElem?_eq_none (by omega)]
      rfl
  conv => rhs; rw [← h]
  rw [List.filter_map, List.map_map]
  rfl
theorem given_all (n : Nat) (v : Nat → V) : given n (fun _ => true) v = (List.range n).map v := by
  unfold given
  rw [List.filter_eq_self.mpr fun _ _ => rfl]
theorem getD_of {ns : List Int} {i : Nat} {n : Int} (h : ns[i]? = some n) : ns.getD i 0 = n := by
  rw [List.getD_eq_getElem?_getD, h]
  rfl
theorem el_lcT {a : Addr} {ns : List Int} {tl : TE} {j : Nat} {vs : List Nat} (f : Int → Bool) (g : Int → V) (h : Ev tl σ H (.ref a)) (hx : H a = some (.tup (iL ns))) (hz : ns.length ≤ 40000) (hw : ∀ x, wipe ((wipe σ vs).set j (some x)) vs = wipe σ vs)
    (ht : ∀ n ∈ ns, EvT t ((wipe σ vs).set j (some (.int n))) H (f n)) (he : ∀ n ∈ ns, f n = true → Ev te ((wipe σ vs).set j (some (.int n))) H (g n)) :
    EvL (tLc (iTup K tl) (gName j) t te vs) σ H ((ns.filter f).map g) := fun H0 e Q q => h H0 e _ fun H1 e1 => ⟨a, rfl, ⟨iL ns, ex_t (e.trans e1) (st_of hx)⟩, fun Dl hD =>
  lc_tup (xs := iL ns) (Cw H1 (fun i => f (ns.getD i 0)) (fun i => g (ns.getD i 0)) Dl) ⟨hD, Ex.new hD, upd_same⟩ (fun i H' _ p => ex_t ((e.trans e1).trans p.2.1) (st_of hx)) (fun i x H' hi p => by
      obtain ⟨n, hn, rfl⟩ := iL_of hi
      have hm := List.mem_of_getElem? hn
      have eD := getD_of hn
      exact ⟨hw _, cw_turn p (by have := (List.getElem?_eq_some_iff.mp hn).1; omega) (by rw [eD]; exact (ht n hm).mono (e.trans e1)) (fun hf => by rw [eD] at hf ⊢; exact (he n hm hf).mono (e.trans e1))⟩)
    (fun H' p => q Dl H' (fresh_back e1 p.1) (e1.trans p.2.1) (by rw [p.2.2, iL_len, given_list]))⟩
theorem el_mapT {a : Addr} {ns : List Int} {tl : TE} {j : Nat} {vs : List Nat} (g : Int → V) (h : Ev tl σ H (.ref a)) (hx : H a = some (.tup (iL ns))) (hz : ns.length ≤ 40000) (hw : ∀ x, wipe ((wipe σ vs).set j (some x)) vs = wipe σ vs)
    (he : ∀ n ∈ ns, Ev te ((wipe σ vs).set j (some (.int n))) H (g n)) :
    EvL (tLc (iTup K tl) (gName j) tYes te vs) σ H (ns.map g) := by
  have := el_lcT (K := K) (te := te) (t := tYes) (fun _ => true) g h hx hz hw (fun _ _ => et_yes) (fun n hn _ => he n hn)
  rwa [List.filter_eq_self.mpr fun _ _ => rfl] at this
theorem el_mapLi {a : Addr} {ns : List Int} {tl : TE} {j : Nat} {vs : List Nat} (g : Int → V) (h : Ev tl σ H (.ref a)) (hx : SqL K H a (iL ns)) (hz : ns.length ≤ 40000) (hw : ∀ x, wipe ((wipe σ vs).set j (some x)) vs = wipe σ vs)
    (he : ∀ n ∈ ns, Ev te ((wipe σ vs).set j (some (.int n))) H (g n)) :
    EvL (tLc (iList K tl) (gName j) tYes te vs) σ H (ns.map g) := by
  have := el_lcL (K := K) (te := te) (t := tYes) (xs := iL ns) (fun _ => true) (fun i => g (ns.getD i 0)) h hx (by rw [iL_len]; exact hz) hw (fun _ _ _ _ _ => et_yes) (fun i x H1 e hi _ => by
    obtain ⟨n, hn, rfl⟩ := iL_of hi
    rw [getD_of hn]
    exact (he n (List.mem_of_getElem? hn)).mono e)
  rw [iL_len] at this
  have e2 := given_list ns 0 (fun _ => true) g
  rw [List.filter_eq_self.mpr fun _ _ => rfl] at e2
  rw [← e2]
  exact this
theorem all_true {α : Type} (l : List α) : (l.map fun _ => true).all id = true := by
  rw [List.all_map]
  exact List.all_eq_true.mpr fun _ _ => rfl
theorem ev_allT {a : Addr} {ns : List Int} {tl : TE} {j : Nat} {vs : List Nat} (h : Ev tl σ H (.ref a)) (hx : H a = some (.tup (iL ns))) (hz : ns.length ≤ 40000) (hw : ∀ x, wipe ((wipe σ vs).set j (some x)) vs = wipe σ vs)
    (he : ∀ n ∈ ns, Ev te ((wipe σ vs).set j (some (.int n))) H (.bl true)) : Ev (tCB (rAll K) (tCons (tLc (iTup K tl) (gName j) tYes te vs) tNil)) σ H (.bl true) := by
  have h1 := el_mapT (K := K) (fun _ => V.bl true) h hx hz hw he
  have h2 : EvL (tLc (iTup K tl) (gName j) tYes te vs) σ H ((ns.map fun _ => true).map V.bl) := by
    rw [List.map_map]
    exact h1
  exact ev_is (ev_all h2) (by rw [all_true])
theorem el_lcR1z {ta : TA} {j : Nat} {vs : List Nat} {n : Int} (v : Nat → V) (h : EvA ta σ H [.int n]) (hn : -40000 ≤ n ∧ n ≤ 40000) (hw : ∀ x, wipe ((wipe σ vs).set j (some x)) vs = wipe σ vs)
    (he : ∀ (i : Nat), (i : Int) < n → Ev te ((wipe σ vs).set j (some (.int (i : Int)))) H (v i)) :
    EvL (tLc (iRng1 ta) (gName j) tYes te vs) σ H ((List.range n.toNat).map v) := fun H0 e Q q => h H0 e _ fun H1 e1 => ⟨n, rfl, by omega, by omega, fun Dl hD =>
  lc_range (lo := 0) (n := n.toNat) (Cw H1 (fun _ => true) v Dl) ⟨hD, Ex.new hD, upd_same⟩ (fun i H' hi p => by
    have e0 : (0 : Int) + (i : Int) = (i : Int) := Int.zero_add _
    show wipe ((wipe σ vs).set j (some (.int ((0 : Int) + (i : Int))))) vs = wipe σ vs ∧ tYes ((wipe σ vs).set j (some (.int ((0 : Int) + (i : Int))))) H' fun b H3 => if b = true then te ((wipe σ vs).set j (some (.int ((0 : Int) + (i : Int))))) H3 fun y H4 => ∃ acc, H4 Dl = some (.lst acc) ∧ acc.length < sizeLine ∧ Cw H1 (fun _ => true) v Dl (i + 1) (upd H4 Dl (.lst (acc ++ [y]))) else Cw H1 (fun _ => true) v Dl (i + 1) H3
    rw [e0]
    exact ⟨hw _, cw_turn p (by omega) et_yes (fun _ => (he i (by omega)).mono (e.trans e1))⟩) (fun H' p => q Dl H' (fresh_back e1 p.1) (e1.trans p.2.1) (by rw [p.2.2, given_all]))⟩
theorem el_lcR2 {ta : TA} {j : Nat} {vs : List Nat} {lo n : Int} (f : Nat → Bool) (v : Nat → V) (h : EvA ta σ H [.int lo, .int n]) (hn : 0 ≤ lo ∧ lo ≤ 10000 ∧ lo ≤ n ∧ n ≤ 40000) (hw : ∀ x, wipe ((wipe σ vs).set j (some x)) vs = wipe σ vs)
    (ht : ∀ i : Nat, lo + (i : Int) < n → EvT t ((wipe σ vs).set j (some (.int (lo + (i : Int))))) H (f i)) (he : ∀ (i : Nat), lo + (i : Int) < n → f i = true → Ev te ((wipe σ vs).set j (some (.int (lo + (i : Int))))) H (v i)) :
    EvL (tLc (iRng2 ta) (gName j) t te vs) σ H (given (n - lo).toNat f v) := fun H0 e Q q => h H0 e _ fun H1 e1 => ⟨lo, n, rfl, ⟨by omega, by omega, by omega, by omega⟩, fun Dl hD =>
  lc_range (lo := lo) (n := (n - lo).toNat) (Cw H1 f v Dl) ⟨hD, Ex.new hD, upd_same⟩ (fun i H' hi p => 
    ⟨hw _, cw_turn p (by omega) ((ht i (by omega)).mono (e.trans e1)) (fun hf => (he i (by omega) hf).mono (e.trans e1))⟩) (fun H' p => q Dl H' (fresh_back e1 p.1) (e1.trans p.2.1) p.2.2)⟩
end
end Hv
/-! k40: the flags of basics -/
namespace Hv
open PySem PySem.Spec PyProof.Rows L2 Evl
abbrev sIsInt : Stmt := topS 11
abbrev sIsCount : Stmt := topS 12
abbrev sFromOne : Stmt := topS 13
abbrev sIsPair : Stmt := topS 14
abbrev sIsAsc : Stmt := topS 15
abbrev sIsHand : Stmt := topS 16
abbrev sIsName : Stmt := topS 17
abbrev sIsStamp : Stmt := topS 18
/-- the numbers and the text that the program names -/
structure Kn (mg : Str → Option Value) : Prop where
  hands : ∃ t, mg "MOST_HANDS" = some (.int 99 t)
  names : ∃ t, mg "NAME_SIGNS" = some (.int 8 t)
  great : ∃ t, mg "GREAT_PRIME" = some (.int 618970019642690137449562111 t)
  small : ∃ t, mg "SMALL_PRIMES" = some (.int 10000 t)
  divs : ∃ t, mg "DIVISORS" = some (.int 100 t)
  nums : ∃ t, mg "MOST_NUMBERS" = some (.int 200 t)
  places : ∃ t, mg "MOST_PLACES" = some (.int 64 t)
  degree : ∃ t, mg "MOST_DEGREE" = some (.int 64 t)
  letters : ∃ t, mg "LETTERS" = some (.str "abcdefghijklmnopqrstuvwxyz" t)
def pInt (vs : List V) (_ : Hp) (r : V) : Prop := ∃ i : Int, vs = [.int i] ∧ r = .bl true
def pCount (vs : List V) (_ : Hp) (r : V) : Prop := ∃ i : Int, vs = [.int i] ∧ 0 ≤ i ∧ r = .bl true
def pFrom1 (vs : List V) (_ : Hp) (r : V) : Prop := ∃ i : Int, vs = [.int i] ∧ r = .bl (decide (1 ≤ i))
def pHand (vs : List V) (_ : Hp) (r : V) : Prop := ∃ i : Int, vs = [.int i] ∧ r = .bl (decide (1 ≤ i) && decide (i ≤ 99))
def pPair (vs : List V) (H : Hp) (r : V) : Prop := ∃ (a : Addr) (x y : V), vs = [.ref a] ∧ H a = some (.tup [x, y]) ∧ r = .bl true
def pAsc (vs : List V) (H : Hp) (r : V) : Prop := ∃ (a : Addr) (ns : List Int), vs = [.ref a] ∧ H a = some (.tup (iL ns)) ∧ ns.length ≤ 1000 ∧ ns.Pairwise (· < ·) ∧ r = .bl true
def nam (z : Str) : Prop := 1 ≤ z.length ∧ z.length ≤ 8 ∧ ∀ c ∈ TL.tl z, 97 ≤ c ∧ c ≤ 122
def pName (vs : List V) (_ : Hp) (r : V) : Prop := ∃ z : Str, vs = [.str z] ∧ nam z ∧ r = .bl true
def stp (i j : Int) : Prop := (i = 0 ∧ j = 0) ∨ (1 ≤ i ∧ 1 ≤ j ∧ j ≤ 99)
def pStamp (vs : List V) (H : Hp) (r : V) : Prop := ∃ (a : Addr) (i j : Int), vs = [.ref a] ∧ H a = some (.tup [.int i, .int j]) ∧ stp i j ∧ r = .bl true
/-- the last def's arguments are as many -/
theorem lenF {p : List V → Hp → V → Prop} {n : Nat} (h : ∀ vs H r, p vs H r → vs.length = n) : ∀ vs H Q E, spFn p vs H Q E → vs.length = n := fun vs H Q E ⟨r, hp, _⟩ => h vs H r hp
section
variable {K : PySem.W.Frag} {σ : L2.St} {H : Hp} {v : V} {vs : List V} {ta : TA} {E : XK} {p : List V → Hp → V → Prop}
theorem ev_fn (h : EvA ta σ H vs) (hp : ∀ H1, Ex H H1 → p vs H1 v) : Ev (tCall (spFn p) [] E ta) σ H v := ev_call (dvs := []) h fun H1 e Q q E => ⟨v, by rw [List.append_nil]; exact hp H1 e, fun H' s => q H' s⟩
abbrev rLeS : R2 := fun x y H Q => ∃ i j : Str, x = .str i ∧ y = .str j ∧ Q (.bl (!decide (j.cps.toList < i.cps.toList))) H
theorem lt1 (a b : Nat) : decide (([a] : List Nat) < [b]) = decide (a < b) := by
  by_cases h : a < b
  · rw [decide_eq_true h]
    exact decide_eq_true (List.Lex.rel h)
  · rw [decide_eq_false h]
    refine decide_eq_false fun q => ?_
    cases q with
    | rel q => exact h q
    | cons q => cases q
theorem rv_leS {a b : Nat} (h : a ≤ b) : RV rLeS (.str ⟨#[a]⟩) (.str ⟨#[b]⟩) H (.bl true) := fun H1 _ Q q => ⟨_, _, rfl, rfl, by
  show Q (.bl (!decide (([b] : List Nat) < [a]))) H1
  rw [lt1, decide_eq_false (by omega)]
  exact q H1 (Ex.refl H1)⟩
theorem codes_get {z : Str} {i c : Nat} (h : z.cps[i]? = some c) : (TL.tl z)[i]? = some c := by
  show z.cps.toList[i]? = some c
  rw [Array.getElem?_toList]
  exact h
/-- all([f(c) for c in a string]) -/
theorem ev_allS {z : Str} {j : Nat} {vs : List Nat} {tl te : TE} (h : Ev tl σ H (.str z)) (hz : z.length ≤ 40000) (hw : ∀ x, wipe ((wipe σ vs).set j (some x)) vs = wipe σ vs)
    (he : ∀ c ∈ TL.tl z, Ev te ((wipe σ vs).set j (some (.str ⟨#[c]⟩))) H (.bl true)) :
    Ev (tCB (rAll K) (tCons (tLc (iStr tl) (gName j) tYes te vs) tNil)) σ H (.bl true) := fun H0 e Q q => h H0 e _ fun H1 e1 => ⟨z, rfl, fun Dl hD =>
  lc_it walk_str (fun i H' => Ex H1 H' ∧ H' Dl = some (.lst ((List.replicate i true).map V.bl))) ⟨Ex.new hD, upd_same⟩ (fun _ _ _ _ => True.intro) (fun i x H2 H2' hi p y => by
    obtain ⟨p1, p2⟩ := p
    obtain ⟨rfl, c, hc, rfl⟩ := y
    have hc' := codes_get hc
    have hl : i < (TL.tl z).length := (List.getElem?_eq_some_iff.mp hc').1
    refine ⟨hw _, he c (List.mem_of_getElem? hc') H2' ((e.trans e1).trans p1) _ fun H3 e3 => ⟨_, e3 _ _ p2, ?_, fun q o hq => ?_, ?_⟩⟩
    · rw [List.length_map, List.length_replicate]
      exact sz_lt (by have hq := TL.len_tl z; omega)
    · rw [upd_ne (ne_of_none hq hD)]
      exact e3 _ _ (p1 _ _ hq)
    · rw [upd_same, List.replicate_succ', List.map_append]
      rfl) (fun H' p => ⟨Dl, List.replicate z.cps.size true, rfl, sq_of p.2, by
        have e2 : (List.replicate z.cps.size true).all id = true := List.all_eq_true.mpr fun x hx => (List.eq_of_mem_replicate hx).symm ▸ rfl
        rw [e2]
        exact q _ (e1.trans p.1)⟩)⟩
end
section
variable {P : Program} {w : World} {K : PySem.W.Frag} {mg : Str → Option Value} {base : Heap}
theorem scIsInt : FnScope ["thing"] ["thing"] (defScope sIsInt) := ⟨rfl, rfl, rfl, by decide +kernel, rfl, by decide +kernel, by decide +kernel⟩
theorem ok_isInt {f : Addr} {fd : FuncData} (F : Fun K "is_integer" "is_integer" sIsInt f fd) (B : Bt mg) : FnOk P w K mg base CX0 1 f fd ["thing"] (spFn pInt) := by
  refine F.ok scIsInt (lenF (by rintro _ _ _ ⟨i, rfl, _⟩; rfl)) (fun cdv A outer s H vs Q E hr h => ?_)
  obtain ⟨r, ⟨i, rfl, rfl⟩, k⟩ := h
  refine ⟨_, pss_one (ps_ret (pe_and (pe_callB call_isi (by rfl) B.b_isinstance boot_isi' (pa_cons (pv 0) (pa_cons (pe_bltn (by rfl) B.b_int boot_int2 (show RelV (.ty "int") (.type "int") from rfl)) pa_nil)))
    (pe_one (pe_not (pe_callB call_isi (by rfl) B.b_isinstance boot_isi' (pa_cons (pv 0) (pa_cons (pe_bltn (by rfl) B.b_bool boot_bool' (show RelV (.ty "bool") (.type "bool") from rfl)) pa_nil))))))), ?_⟩
  exact s_ret (ev_andV (ev_isi0 (ev_var rfl) kit_ii) fun _ => ev_notV (ev_isi0 (ev_var rfl) kit_ib)) fun H1 e => k H1 e
theorem scIsCount : FnScope ["thing"] ["thing"] (defScope sIsCount) := ⟨rfl, rfl, rfl, by decide +kernel, rfl, by decide +kernel, by decide +kernel⟩
theorem ok_isCount {f f1 : Addr} {fd d1 : FuncData} (F : Fun K "is_count" "is_count" sIsCount f fd) (B : Bt mg) (D1 : Df K mg "is_integer" sIsInt ["thing"] f1 d1) : FnOk P w K mg base CX0 2 f fd ["thing"] (spFn pCount) := by
  have G1 : FnOk P w K mg base CX0 1 f1 d1 ["thing"] (spFn pInt) := ok_isInt D1.F B
  refine F.ok scIsCount (lenF (by rintro _ _ _ ⟨i, rfl, _⟩; rfl)) (fun cdv A outer s H vs Q E hr h => ?_)
  obtain ⟨r, ⟨i, rfl, h0, rfl⟩, k⟩ := h
  refine ⟨_, pss_one (ps_ret (pe_and (pe_call G1 (hr.mono (by decide)) (by rfl) D1.g D1.F.kp D1.b .nil pass0 (pa_cons (pv 0) pa_nil)) (pe_one (pe_cmpR op_ge (pv 0) pe_int (nomark _))))), ?_⟩
  exact s_ret (ev_is (ev_andV (ev_fn (v := .bl true) (ea_cons (ev_var rfl) ea_nil) fun H1 e => ⟨i, rfl, rfl⟩) fun _ => ev_op (ev_var rfl) ev_c rv_I0) (congrArg V.bl (by rw [decide_eq_true h0]; rfl))) fun H1 e => k H1 e
theorem scFromOne : FnScope ["thing"] ["thing"] (defScope sFromOne) := ⟨rfl, rfl, rfl, by decide +kernel, rfl, by decide +kernel, by decide +kernel⟩
theorem ok_fromOne {f f1 : Addr} {fd d1 : FuncData} (F : Fun K "is_from_one" "is_from_one" sFromOne f fd) (B : Bt mg) (D1 : Df K mg "is_integer" sIsInt ["thing"] f1 d1) : FnOk P w K mg base CX0 2 f fd ["thing"] (spFn pFrom1) := by
  have G1 : FnOk P w K mg base CX0 1 f1 d1 ["thing"] (spFn pInt) := ok_isInt D1.F B
  refine F.ok scFromOne (lenF (by rintro _ _ _ ⟨i, rfl, _⟩; rfl)) (fun cdv A outer s H vs Q E hr h => ?_)
  obtain ⟨r, ⟨i, rfl, rfl⟩, k⟩ := h
  refine ⟨_, pss_one (ps_ret (pe_and (pe_call G1 (hr.mono (by decide)) (by rfl) D1.g D1.F.kp D1.b .nil pass0 (pa_cons (pv 0) pa_nil)) (pe_one (pe_cmpR op_ge (pv 0) pe_int (nomark _))))), ?_⟩
  exact s_ret (ev_andV (ev_fn (v := .bl true) (ea_cons (ev_var rfl) ea_nil) fun H1 e => ⟨i, rfl, rfl⟩) fun _ => ev_op (ev_var rfl) ev_c rv_I0) fun H1 e => k H1 e
theorem scIsHand : FnScope ["thing"] ["thing"] (defScope sIsHand) := ⟨rfl, rfl, rfl, by decide +kernel, rfl, by decide +kernel, by decide +kernel⟩
theorem ok_isHand {f f1 : Addr} {fd d1 : FuncData} (F : Fun K "is_hand" "is_hand" sIsHand f fd) (B : Bt mg) (N : Kn mg) (D1 : Df K mg "is_integer" sIsInt ["thing"] f1 d1) : FnOk P w K mg base CX0 2 f fd ["thing"] (spFn pHand) := by
  have G1 : FnOk P w K mg base CX0 1 f1 d1 ["thing"] (spFn pInt) := ok_isInt D1.F B
  obtain ⟨t, h9⟩ := N.hands
  refine F.ok scIsHand (lenF (by rintro _ _ _ ⟨i, rfl, _⟩; rfl)) (fun cdv A outer s H vs Q E hr h => ?_)
  obtain ⟨r, ⟨i, rfl, rfl⟩, k⟩ := h
  refine ⟨_, pss_one (ps_ret (pe_and (pe_call G1 (hr.mono (by decide)) (by rfl) D1.g D1.F.kp D1.b .nil pass0 (pa_cons (pv 0) pa_nil)) (pe_one (pe_chain op_le op_le pe_int (pv 0) (pe_glob (v := .int 99) rfl h9 ⟨_, rfl⟩))))), ?_⟩
  exact s_ret (ev_andV (ev_fn (v := .bl true) (ea_cons (ev_var rfl) ea_nil) fun H1 e => ⟨i, rfl, rfl⟩) fun _ => ev_chain ev_c (ev_var rfl) ev_c rv_I0 fun _ => rv_I0) fun H1 e => k H1 e
theorem scIsPair : FnScope ["thing"] ["thing"] (defScope sIsPair) := ⟨rfl, rfl, rfl, by decide +kernel, rfl, by decide +kernel, by decide +kernel⟩
theorem ok_isPair {f : Addr} {fd : FuncData} (F : Fun K "is_pair" "is_pair" sIsPair f fd) (B : Bt mg) : FnOk P w K mg base CX0 1 f fd ["thing"] (spFn pPair) := by
  refine F.ok scIsPair (lenF (by rintro _ _ _ ⟨a, x, y, rfl, _⟩; rfl)) (fun cdv A outer s H vs Q E hr h => ?_)
  obtain ⟨r, ⟨a, x, y, rfl, ha, rfl⟩, k⟩ := h
  refine ⟨_, pss_one (ps_ret (pe_and (pe_callB call_isi (by rfl) B.b_isinstance boot_isi' (pa_cons (pv 0) (pa_cons (pe_bltn (by rfl) B.b_tuple boot_tuple' (show RelV (.ty "tuple") (.type "tuple") from rfl)) pa_nil)))
    (pe_one (pe_cmpR op_eq (pe_callB call_len_seq (by rfl) B.b_len PySem.boot_len (pa_cons (pv 0) pa_nil)) pe_int (nomark _))))), ?_⟩
  exact s_ret (ev_andV (b := true) (ev_isit (ev_var rfl) ha kit_tt) fun _ => ev_is (ev_op (ev_lenT (ev_var rfl) ha) ev_c (rv_eq rfl)) (congrArg V.bl (decide_eq_true rfl))) fun H1 e => k H1 e
theorem scIsAsc : FnScope ["things", "k"] ["things"] (defScope sIsAsc) := ⟨rfl, rfl, rfl, by decide +kernel, rfl, by decide +kernel, by decide +kernel⟩
theorem ok_isAsc {f : Addr} {fd : FuncData} (F : Fun K "is_ascending" "is_ascending" sIsAsc f fd) (B : Bt mg) : FnOk P w K mg base CX0 1 f fd ["things"] (spFn pAsc) := by
  refine F.ok scIsAsc (lenF (by rintro _ _ _ ⟨a, x, rfl, _⟩; rfl)) (fun cdv A outer s H vs Q E hr h => ?_)
  obtain ⟨r, ⟨a, ns, rfl, ha, hl, hp, rfl⟩, k⟩ := h
  refine ⟨_, pss_one (ps_ret (pe_callB (cr_all rfl) (by rfl) B.b_all boot_all' (pa_cons (pe_lc (own := [("k", 1)]) (g := gName 1) (tt := tYes) rfl scIsAsc.nd (pi_range1 (by rfl) B.b_range (pa_cons (pe_op op_sub (pe_callB call_len_seq (by rfl) B.b_len PySem.boot_len (pa_cons (pv 0) pa_nil)) pe_int) pa_nil)) (blkOk_by (N := ["things", "k"]) (sc := defScope sIsAsc) (by decide +kernel))
      (fun _ _ _ _ _ => pg_name (i := 1) scIsAsc.nd rfl (Or.inl rfl)) (fun _ _ _ _ _ => pts_nil) (fun _ _ _ _ _ => pe_cmpR op_lt (pe_ix (show IxR _ (rIxT K) from ix_tup) (pv 0) (pv 1) (fun _ _ => rfl)) (pe_ix (show IxR _ (rIxT K) from ix_tup) (pv 0) (pe_op op_add (pv 1) pe_int) (fun _ _ => rfl)) (nomark _))) pa_nil))), ?_⟩
  have hll := iL_len ns
  refine s_ret (ev_is (ev_all (bs := (List.range (((iL ns).length : Int) - 1).toNat).map fun _ => true) ?_) (by rw [all_true])) fun H1 e => k H1 e
  rw [List.map_map]
  refine el_lcR1z (j := 1) (vs := [1]) (fun _ => .bl true) (ea_cons (ev_op (ev_lenT (ev_var rfl) ha) ev_c rv_I0) ea_nil) (by omega) (fun _ => rfl) fun i hi => ?_
  have h0 : i < ns.length := by omega
  have h1 : i + 1 < ns.length := by omega
  have i1 : atI (iL ns) (i : Int) = some (.int ns[i]) := atI_nat (iL_get (List.getElem?_eq_getElem h0))
  have i2 : atI (iL ns) ((i : Int) + 1) = some (.int ns[i + 1]) := atI_nat (j := i + 1) (iL_get (List.getElem?_eq_getElem h1))
  have lt : ns[i] < ns[i + 1] := List.pairwise_iff_getElem.mp hp i (i + 1) h0 h1 (by omega)
  exact ev_is (ev_op (ev_op (ev_var rfl) (ev_var rfl) (rv_ixT (st_of ha) i1)) (ev_op (ev_var rfl) (ev_op (ev_var rfl) ev_c rv_I0) (rv_ixT (st_of ha) i2)) rv_I0) (congrArg V.bl (decide_eq_true lt))
theorem scIsName : FnScope ["thing", "sign"] ["thing"] (defScope sIsName) := ⟨rfl, rfl, rfl, by decide +kernel, rfl, by decide +kernel, by decide +kernel⟩
theorem ok_isName {f : Addr} {fd : FuncData} (F : Fun K "is_name" "is_name" sIsName f fd) (B : Bt mg) (N : Kn mg) : FnOk P w K mg base CX0 1 f fd ["thing"] (spFn pName) := by
  obtain ⟨t, h8⟩ := N.names
  refine F.ok scIsName (lenF (by rintro _ _ _ ⟨z, rfl, _⟩; rfl)) (fun cdv A outer s H vs Q E hr h => ?_)
  obtain ⟨r, ⟨z, rfl, ⟨z1, z8, hc⟩, rfl⟩, k⟩ := h
  refine ⟨_, pss_cons (ps_if (PW.pt (pw_or (pt_not (pt_val (pe_callB call_isi (by rfl) B.b_isinstance boot_isi' (pa_cons (pv 0) (pa_cons (pe_bltn (by rfl) B.b_str boot_str' (show RelV (.ty "str") (.type "str") from rfl)) pa_nil)))))
      (pw_or1 (pt_not (pt_chain op_le op_le pe_int (pe_callB call_len_str (by rfl) B.b_len PySem.boot_len (pa_cons (pv 0) pa_nil)) (pe_glob (v := .int 8) rfl h8 ⟨_, rfl⟩))))))
      (pss_one (ps_ret pe_bl)) pss_nil)
    (pss_one (ps_ret (pe_callB (cr_all rfl) (by rfl) B.b_all boot_all' (pa_cons (pe_lc (own := [("sign", 1)]) (g := gName 1) (tt := tYes) rfl scIsName.nd (pi_str (pv 0)) (blkOk_by (N := ["thing", "sign"]) (sc := defScope sIsName) (by decide +kernel))
      (fun _ _ _ _ _ => pg_name (i := 1) scIsName.nd rfl (Or.inl rfl)) (fun _ _ _ _ _ => pts_nil) (fun _ _ _ _ _ => pe_chain op_le_str op_le_str pe_str (pv 1) pe_str)) pa_nil)))), ?_⟩
  refine q_when (b := false || !true) (et_or (et_not (et_B (ev_isis (ev_var rfl) kit_ss))) fun _ => et_not (et_test (ev_is (ev_chain ev_c (ev_lenS (ev_var rfl) (by omega)) ev_c rv_I0 fun _ => rv_I0) (congrArg V.bl (by rw [decide_eq_true (by omega), decide_eq_true (by omega)]; rfl))))) (fun q => by cases q) (fun q H1 e1 => ?_)
  refine s_ret (ev_allS (K := K) (j := 1) (vs := [1]) (ev_var rfl) (by omega) (fun _ => rfl) fun c h => ev_chain (a := true) (b := true) ev_c (ev_var rfl) ev_c (rv_leS (hc c h).1) fun _ => rv_leS (hc c h).2) fun H2 e2 => k H2 (e1.trans e2)
theorem eqv2 (i j k l : Int) : PyData.eqv (.tuple [.int i, .int j]) (.tuple [.int k, .int l]) = (decide (i = k) && decide (j = l)) := by
  simp only [PyData.eqv, PyData.eqvAll, Bool.and_true]
  congr 1
theorem dp2 {H : Hp} {p : Addr} {i j : Int} (h : H p = some (.tup [.int i, .int j])) : Dp K H (.ref p) (.tuple [.int i, .int j]) := .tup (st_of h) (.cons (.int i) (.cons (.int j) .nil))
theorem rv_eq2 {H : Hp} {p q : Addr} {i j k l : Int} (hp : H p = some (.tup [.int i, .int j])) (hq : H q = some (.tup [.int k, .int l])) : RV (rEqD K) (.ref p) (.ref q) H (.bl (decide (i = k) && decide (j = l))) := fun H1 e Q f =>
  ⟨_, _, dp2 (e _ _ hp), dp2 (e _ _ hq), rfl, rfl, by rw [eqv2]; exact f H1 (Ex.refl H1)⟩
theorem scIsStamp : FnScope ["thing"] ["thing"] (defScope sIsStamp) := ⟨rfl, rfl, rfl, by decide +kernel, rfl, by decide +kernel, by decide +kernel⟩
theorem ok_isStamp {f f1 f2 f3 f4 : Addr} {fd d1 d2 d3 d4 : FuncData} (F : Fun K "is_stamp" "is_stamp" sIsStamp f fd) (B : Bt mg) (N : Kn mg) (D1 : Df K mg "is_integer" sIsInt ["thing"] f1 d1) (D2 : Df K mg "is_pair" sIsPair ["thing"] f2 d2) (D3 : Df K mg "is_from_one" sFromOne ["thing"] f3 d3) (D4 : Df K mg "is_hand" sIsHand ["thing"] f4 d4) :
    FnOk P w K mg base CX0 3 f fd ["thing"] (spFn pStamp) := by
  have G1 : FnOk P w K mg base CX0 1 f1 d1 ["thing"] (spFn pInt) := ok_isInt D1.F B
  have G2 : FnOk P w K mg base CX0 1 f2 d2 ["thing"] (spFn pPair) := ok_isPair D2.F B
  have G3 : FnOk P w K mg base CX0 2 f3 d3 ["thing"] (spFn pFrom1) := ok_fromOne D3.F B D1
  have G4 : FnOk P w K mg base CX0 2 f4 d4 ["thing"] (spFn pHand) := ok_isHand D4.F B N D1
  refine F.ok scIsStamp (lenF (by rintro _ _ _ ⟨z, i, j, rfl, _⟩; rfl)) (fun cdv A outer s H vs Q E hr h => ?_)
  obtain ⟨r, ⟨a, i, j, rfl, ha, hs, rfl⟩, k⟩ := h
  refine ⟨_, pss_cons (ps_if (PW.pt (pw_or (pt_not (pt_val (pe_call G2 (hr.mono (by decide)) (by rfl) D2.g D2.F.kp D2.b .nil pass0 (pa_cons (pv 0) pa_nil)))) (pw_or (pt_not (pt_val (pe_call G1 (hr.mono (by decide)) (by rfl) D1.g D1.F.kp D1.b .nil pass0 (pa_cons (pe_ix ix_tup (pv 0) pe_int (fun _ _ => rfl)) pa_nil))))
      (pw_or1 (pt_not (pt_val (pe_call G1 (hr.mono (by decide)) (by rfl) D1.g D1.F.kp D1.b .nil pass0 (pa_cons (pe_ix ix_tup (pv 0) pe_int (fun _ _ => rfl)) pa_nil))))))))
      (pss_one (ps_ret pe_bl)) pss_nil)
    (pss_one (ps_ret (pe_or (pe_cmpR (op_eqD (room_hu hr)) (pv 0) (pe_tup (pa_cons pe_int (pa_cons pe_int pa_nil))) (nomark _)) (pe_one (pe_and (pe_call G3 (hr.mono (by decide)) (by rfl) D3.g D3.F.kp D3.b .nil pass0 (pa_cons (pe_ix ix_tup (pv 0) pe_int (fun _ _ => rfl)) pa_nil))
      (pe_one (pe_call G4 (hr.mono (by decide)) (by rfl) D4.g D4.F.kp D4.b .nil pass0 (pa_cons (pe_ix ix_tup (pv 0) pe_int (fun _ _ => rfl)) pa_nil)))))))), ?_⟩
  refine q_when (b := !true || (!true || !true)) (et_or (et_not (et_B (ev_fn (v := .bl true) (ea_cons (ev_var rfl) ea_nil) fun H1 e => ⟨a, _, _, rfl, e _ _ ha, rfl⟩))) fun _ =>
    et_or (et_not (et_B (ev_fn (v := .bl true) (ea_cons (ev_ixT (j := 0) (v := .int i) (ev_var rfl) ha rfl) ea_nil) fun H1 e => ⟨i, rfl, rfl⟩))) fun _ => et_not (et_B (ev_fn (v := .bl true) (ea_cons (ev_ixT (j := 1) (v := .int j) (ev_var rfl) ha rfl) ea_nil) fun H1 e => ⟨j, rfl, rfl⟩))) (fun q => by cases q) (fun q H1 e1 => ?_)
  have ha1 := e1 _ _ ha
  refine s_ret (ev_is (ev_orV (ev_opU (ev_var rfl) (eu_tup (ea_cons ev_c (ea_cons ev_c ea_nil)) (by show (2 : Nat) ≤ 100000; decide)) fun q H2 hq e2 => rv_eq2 (e2 _ _ ha1) hq) fun _ =>
    ev_andV (ev_fn (v := .bl (decide (1 ≤ i))) (ea_cons (ev_ixT (j := 0) (v := .int i) (ev_var rfl) ha1 rfl) ea_nil) fun H1 e => ⟨i, rfl, rfl⟩) fun _ => ev_fn (v := .bl (decide (1 ≤ j) && decide (j ≤ 99))) (ea_cons (ev_ixT (j := 1) (v := .int j) (ev_var rfl) ha1 rfl) ea_nil) fun H1 e => ⟨j, rfl, rfl⟩) (congrArg V.bl ?_)) fun H2 e2 => k H2 (e1.trans e2)
  rcases hs with ⟨h0, h1⟩ | ⟨h0, h1, h2⟩
  · rw [decide_eq_true h0, decide_eq_true h1]
    rfl
  · rw [decide_eq_true h0, decide_eq_true h1, decide_eq_true h2]
    cases (decide (i = 0) && decide (j = 0)) <;> rfl
end
end Hv
/-! k40: primes, lots, places, polynomials: what the program asks of them -/
namespace Hv
open PySem PySem.Spec PyProof.Rows L2 Evl
abbrev sWorth : Stmt := topS 20
abbrev sIsPrime : Stmt := topS 29
abbrev sIsBelow : Stmt := topS 30
abbrev sIsLot : Stmt := topS 31
abbrev sIsPlaces : Stmt := topS 32
abbrev sIsPoly : Stmt := topS 33
abbrev GP : Int := 618970019642690137449562111
def noDiv (p : Int) : Prop := ∀ d : Int, 2 ≤ d → d < 100 → d < p → p.fmod d ≠ 0
def PrP (p : Int) : Prop := p = GP ∨ (2 ≤ p ∧ p < 10000 ∧ noDiv p)
theorem PrP.lo {p : Int} (h : PrP p) : 2 ≤ p := by
  rcases h with rfl | ⟨h, _⟩
  · decide
  · exact h
theorem PrP.hi {p : Int} (h : PrP p) : p ≤ GP := by
  rcases h with rfl | ⟨_, h, _⟩
  · exact Int.le_refl _
  · unfold GP
    omega
theorem PrP.pri {p : Int} (h : PrP p) : Pr.PrI p := by
  rcases h with rfl | ⟨h0, h1, h2⟩
  · exact Pr.pri_P
  · obtain ⟨n, rfl⟩ : ∃ n : Nat, p = n := ⟨p.toNat, by omega⟩
    refine Pr.pri_small (by omega) (by omega) fun d d0 d1 d2 hd => ?_
    refine h2 d (by omega) (by omega) (by omega) ?_
    rw [Int.fmod_eq_emod_of_nonneg _ (by omega)]
    exact Int.emod_eq_zero_of_dvd (Int.ofNat_dvd.mpr hd)
def below (p : Int) (xs : List Int) : Prop := ∀ x ∈ xs, 0 ≤ x ∧ x < p
def pPrime (vs : List V) (_ : Hp) (r : V) : Prop := ∃ p : Int, vs = [.int p] ∧ PrP p ∧ r = .bl true
def pBelow (vs : List V) (_ : Hp) (r : V) : Prop := ∃ p i : Int, vs = [.int p, .int i] ∧ 0 ≤ i ∧ i < p ∧ r = .bl true
def pLot (vs : List V) (H : Hp) (r : V) : Prop := ∃ (p : Int) (a : Addr) (ns : List Int), vs = [.int p, .ref a] ∧ H a = some (.tup (iL ns)) ∧ ns.length ≤ 200 ∧ below p ns ∧ ns.Pairwise (· < ·) ∧ r = .bl true
def pPlaces (vs : List V) (H : Hp) (r : V) : Prop := ∃ (p : Int) (b a : Addr) (lot ns : List Int), vs = [.int p, .ref b, .ref a] ∧ H b = some (.tup (iL lot)) ∧ H a = some (.tup (iL ns)) ∧ ns.length ≤ 64 ∧ below p ns ∧ ns.Nodup ∧ (∀ n ∈ ns, n ∉ lot) ∧ r = .bl true
def pPoly (vs : List V) (H : Hp) (r : V) : Prop := ∃ (p : Int) (a : Addr) (ns : List Int), vs = [.int p, .ref a] ∧ H a = some (.tup (iL (ns ++ [1]))) ∧ ns.length ≤ 64 ∧ below p (ns ++ [1]) ∧ r = .bl true
/-- len(set(a tuple of integers)) -/
def tLenSetT (K : PySem.W.Frag) (ta : TE) : TE := fun σ H Q => ta σ H fun x H1 => ∃ (l : Addr) (ns : List Int), x = .ref l ∧ SqT K H1 l (ns.map V.int) ∧ ns.Nodup ∧ ns.length ≤ 1000 ∧ Q (.int (ns.length : Nat)) H1
theorem pe_lenSetT {X : Cx} {a : Expr} {ta : TE} {p p2 q pos : Pos} (hc : X.calm = true) (hg : Gl X "len") (hm : X.mg "len" = none) (hg2 : Gl X "set") (hm2 : X.mg "set" = none) (ha : PE X a ta)
    (na : starEach [a] X.env = (false, eval a X.env) :: starEach [] X.env := by rfl) : PE X (.Call (.Name "len" p) [.Call (.Name "set" p2) [a] [] q] [] pos) (tLenSetT X.K ta) := by
  refine ⟨fun pins s σ H Q I h => ?_⟩
  refine Call_ (ld_blt I hg hm PySem.boot_len ?_)
  refine PyProof.Rows.callWith_builtin1 (PyProof.Rows.args_cons ?_ rfl) rfl rfl
  refine Call_ (ld_blt I hg2 hm2 PyProof.Rows.boot_set ?_)
  refine PyProof.Rows.callWith_type1 (PyProof.Rows.args_cons (thn (ha.run pins s σ H _ I h) fun v s1 ⟨x, H1, I1, r1, q1⟩ => PyProof.Rows.args_nil ?_) na) na rfl
  obtain ⟨l, ns, rfl, hq, hnd, hl, q1⟩ := q1
  cases r1
  obtain ⟨its, r, pl, hz⟩ := I1.tuple hq
  refine call_set_tupI ns (I1.ok.hd hc) (show s1.heap.IsTuple l its.toArray from pl) (by simpa using r.ints) (by unfold scanBound; omega) fun h' tk c hS hle hk => ?_
  refine PyProof.Rows.args_nil ?_
  obtain ⟨o, es, ep, t, ho, hex, hd, _, hn2, hm3, _, hf, hn, _⟩ := hS
  have hlen : es.size = ns.length := by
    have hp : (es.toList.map keyOf).Perm ns := (List.perm_ext_iff_of_nodup hn2 hnd).mpr fun k => by
      have := hm3 k
      rw [decide_eq_true_eq] at this
      exact this.symm
    have := hp.length_eq
    rw [List.length_map, Array.length_toList] at this
    exact this
  have I2 : Inv X pins σ H1 { s1 with heap := h', toks := tk } := I1.kept fun b o e => hk b o e
  exact call_len_set ho hex hd hf (by rw [hlen] <;> omega) ⟨.int ns.length, H1, I2.tok _, ⟨_, by rw [hlen]⟩, q1⟩
theorem ev_lenSetT {K : PySem.W.Frag} {σ : L2.St} {H : Hp} {te : TE} {a : Addr} {ns : List Int} (h : Ev te σ H (.ref a)) (hx : H a = some (.tup (iL ns))) (hn : ns.Nodup) (hl : ns.length ≤ 1000) : Ev (tLenSetT K te) σ H (.int (ns.length : Nat)) := fun H1 e Q q =>
  h H1 e _ fun H2 e2 => ⟨a, ns, rfl, st_of ((e.trans e2) _ _ hx), hn, hl, q H2 e2⟩
section
variable {P : Program} {w : World} {K : PySem.W.Frag} {mg : Str → Option Value} {base : Heap}
theorem scIsPrime : FnScope ["thing", "k"] ["thing"] (defScope sIsPrime) := ⟨rfl, rfl, rfl, by decide +kernel, rfl, by decide +kernel, by decide +kernel⟩
theorem ok_isPrime {f f1 : Addr} {fd d1 : FuncData} (F : Fun K "is_prime" "is_prime" sIsPrime f fd) (B : Bt mg) (N : Kn mg) (D1 : Df K mg "is_integer" sIsInt ["thing"] f1 d1) : FnOk P w K mg base CX0 2 f fd ["thing"] (spFn pPrime) := by
  have G1 : FnOk P w K mg base CX0 1 f1 d1 ["thing"] (spFn pInt) := ok_isInt D1.F B
  obtain ⟨t1, h1⟩ := N.great
  obtain ⟨t2, h2⟩ := N.small
  obtain ⟨t3, h3⟩ := N.divs
  refine F.ok scIsPrime (lenF (by rintro _ _ _ ⟨i, rfl, _⟩; rfl)) (fun cdv A outer s H vs Q E hr h => ?_)
  obtain ⟨r, ⟨p, rfl, hp, rfl⟩, k⟩ := h
  refine ⟨_, pss_cons (ps_if (PW.pt (pw_or (pt_not (pt_val (pe_call G1 (hr.mono (by decide)) (by rfl) D1.g D1.F.kp D1.b .nil pass0 (pa_cons (pv 0) pa_nil)))) (pw_or1 (pt_cmpR op_lt (pv 0) pe_int (nomark _))))) (pss_one (ps_ret pe_bl)) pss_nil)
    (pss_cons (ps_if (pt_cmpR op_ge (pv 0) (pe_glob (v := .int 10000) rfl h2 ⟨_, rfl⟩) (nomark _)) (pss_one (ps_ret (pe_cmpR op_eq (pv 0) (pe_glob (v := .int 618970019642690137449562111) rfl h1 ⟨_, rfl⟩) (nomark _)))) pss_nil)
    (pss_one (ps_ret (pe_callB (cr_all rfl) (by rfl) B.b_all boot_all' (pa_cons (pe_lc (own := [("k", 1)]) (g := gName 1) rfl scIsPrime.nd (pi_range2 (by rfl) B.b_range (pa_cons pe_int (pa_cons (pe_glob (v := .int 100) rfl h3 ⟨_, rfl⟩) pa_nil))) (blkOk_by (N := ["thing", "k"]) (sc := defScope sIsPrime) (by decide +kernel))
      (fun _ _ _ _ _ => pg_name (i := 1) scIsPrime.nd rfl (Or.inl rfl)) (fun _ _ _ _ _ => pts_one (pt_cmpR op_lt (pv 1) (pv 0) (nomark _))) (fun _ _ _ _ _ => pe_cmpR op_ne (pe_op op_modN (pv 0) (pv 1)) pe_int (nomark _))) pa_nil))))), ?_⟩
  refine q_when (b := !true || decide (p < 2)) (et_or (et_not (et_B (ev_fn (v := .bl true) (ea_cons (ev_var rfl) ea_nil) fun H1 e => ⟨p, rfl, rfl⟩))) fun _ => et_test (ev_op (ev_var rfl) ev_c rv_I0)) (fun q => by have := hp.lo; have q := of_decide_eq_true q; omega) (fun q H1 e1 => ?_)
  refine q_when (b := decide (10000 ≤ p)) (et_test (ev_op (ev_var rfl) ev_c rv_I0)) (fun q H2 e2 => ?_) (fun q H2 e2 => ?_)
  · have q := of_decide_eq_true q
    have e : p = 618970019642690137449562111 := by
      rcases hp with h | ⟨_, h, _⟩
      · exact h
      · omega
    subst e
    exact s_ret (ev_is (ev_op (ev_var rfl) ev_c (rv_eq rfl)) (congrArg V.bl (decide_eq_true rfl))) fun H3 e3 => k H3 ((e1.trans e2).trans e3)
  · have q := of_decide_eq_false q
    have hn : noDiv p := by
      rcases hp with h | ⟨_, _, h⟩
      · subst h
        exact absurd (by decide) q
      · exact h
    refine s_ret (ev_is (ev_all (bs := ((List.range (100 - 2 : Int).toNat).filter fun (i : Nat) => decide ((2 : Int) + (i : Int) < p)).map fun _ => true) ?_) (by rw [all_true])) fun H3 e3 => k H3 ((e1.trans e2).trans e3)
    rw [List.map_map]
    refine el_lcR2 (j := 1) (vs := [1]) (lo := 2) (n := 100) (fun (i : Nat) => decide ((2 : Int) + (i : Int) < p)) (fun _ => .bl true) (ea_cons ev_c (ea_cons ev_c ea_nil)) (by decide) (fun _ => rfl) (fun i hi => et_test (ev_op (x := .int (2 + (i : Int))) (y := .int p) (ev_var rfl) (ev_var rfl) rv_I0)) fun i hi hf => ?_
    have hd := hn (2 + i) (by omega) hi (of_decide_eq_true hf)
    exact ev_is (ev_op (ev_op (ev_var rfl) (ev_var rfl) (rv_modN (by omega))) ev_c (rv_ne rfl)) (congrArg V.bl (by
      rw [decide_eq_false fun h => hd (V.int.inj h)]
      rfl))
theorem scIsBelow : FnScope ["prime", "thing"] ["prime", "thing"] (defScope sIsBelow) := ⟨rfl, rfl, rfl, by decide +kernel, rfl, by decide +kernel, by decide +kernel⟩
theorem ok_isBelow {f f1 f2 : Addr} {fd d1 d2 : FuncData} (F : Fun K "is_below" "is_below" sIsBelow f fd) (B : Bt mg) (D1 : Df K mg "is_integer" sIsInt ["thing"] f1 d1) (D2 : Df K mg "is_count" sIsCount ["thing"] f2 d2) : FnOk P w K mg base CX0 3 f fd ["prime", "thing"] (spFn pBelow) := by
  have G2 : FnOk P w K mg base CX0 2 f2 d2 ["thing"] (spFn pCount) := ok_isCount D2.F B D1
  refine F.ok scIsBelow (lenF (by rintro _ _ _ ⟨p, i, rfl, _⟩; rfl)) (fun cdv A outer s H vs Q E hr h => ?_)
  obtain ⟨r, ⟨p, i, rfl, i0, i1, rfl⟩, k⟩ := h
  refine ⟨_, pss_one (ps_ret (pe_and (pe_call G2 (hr.mono (by decide)) (by rfl) D2.g D2.F.kp D2.b .nil pass0 (pa_cons (pv 1) pa_nil)) (pe_one (pe_cmpR op_lt (pv 1) (pv 0) (nomark _))))), ?_⟩
  exact s_ret (ev_is (ev_andV (ev_fn (v := .bl true) (ea_cons (ev_var rfl) ea_nil) fun H1 e => ⟨i, rfl, i0, rfl⟩) fun _ => ev_op (ev_var rfl) (ev_var rfl) rv_I0) (congrArg V.bl (by rw [decide_eq_true i1]; rfl))) fun H1 e => k H1 e
theorem scIsLot : FnScope ["prime", "thing", "number"] ["prime", "thing"] (defScope sIsLot) := ⟨rfl, rfl, rfl, by decide +kernel, rfl, by decide +kernel, by decide +kernel⟩
theorem ok_isLot {f f1 f2 : Addr} {fd d1 d2 : FuncData} (F : Fun K "is_lot" "is_lot" sIsLot f fd) (B : Bt mg) (N : Kn mg) (D1 : Df K mg "is_below" sIsBelow ["prime", "thing"] f1 d1) (G1 : FnOk P w K mg base CX0 3 f1 d1 ["prime", "thing"] (spFn pBelow)) (D2 : Df K mg "is_ascending" sIsAsc ["things"] f2 d2) : FnOk P w K mg base CX0 4 f fd ["prime", "thing"] (spFn pLot) := by
  have G2 : FnOk P w K mg base CX0 1 f2 d2 ["things"] (spFn pAsc) := ok_isAsc D2.F B
  obtain ⟨t1, h1⟩ := N.nums
  refine F.ok scIsLot (lenF (by rintro _ _ _ ⟨p, i, ns, rfl, _⟩; rfl)) (fun cdv A outer s H vs Q E hr h => ?_)
  obtain ⟨r, ⟨p, a, ns, rfl, ha, hl, hb, hp, rfl⟩, k⟩ := h
  refine ⟨_, pss_cons (ps_if (PW.pt (pw_or (pt_not (pt_val (pe_callB call_isi (by rfl) B.b_isinstance boot_isi' (pa_cons (pv 1) (pa_cons (pe_bltn (by rfl) B.b_tuple boot_tuple' (show RelV (.ty "tuple") (.type "tuple") from rfl)) pa_nil)))))
      (pw_or1 (pt_cmpR op_gt (pe_callB call_len_seq (by rfl) B.b_len PySem.boot_len (pa_cons (pv 1) pa_nil)) (pe_glob (v := .int 200) rfl h1 ⟨_, rfl⟩) (nomark _))))) (pss_one (ps_ret pe_bl)) pss_nil)
    (pss_one (ps_ret (pe_and (pe_callB (cr_all rfl) (by rfl) B.b_all boot_all' (pa_cons (pe_lc (own := [("number", 2)]) (g := gName 2) (tt := tYes) rfl scIsLot.nd (pi_tup (pv 1)) (blkOk_by (N := ["prime", "thing", "number"]) (sc := defScope sIsLot) (by decide +kernel))
      (fun _ _ _ _ _ => pg_name (i := 2) scIsLot.nd rfl (Or.inl rfl)) (fun _ _ _ _ _ => pts_nil) (fun _ _ _ _ _ => pe_call G1 (hr.mono (by decide)) (by rfl) D1.g D1.F.kp D1.b .nil pass0 (pa_cons (pv 0) (pa_cons (pv 2) pa_nil)))) pa_nil))
      (pe_one (pe_call G2 (hr.mono (by decide)) (by rfl) D2.g D2.F.kp D2.b .nil pass0 (pa_cons (pv 1) pa_nil)))))), ?_⟩
  have hll := iL_len ns
  refine q_when (b := !true || false) (et_or (et_not (et_B (ev_isit (ev_var rfl) ha kit_tt))) fun _ => et_test (ev_is (ev_op (ev_lenT (ev_var rfl) ha) ev_c rv_I0) (congrArg V.bl (decide_eq_false (by omega))))) (fun q => by cases q) (fun q H1 e1 => ?_)
  have ha1 := e1 _ _ ha
  exact s_ret (ev_andV (b := true) (ev_allT (K := K) (j := 2) (vs := [2]) (ev_var rfl) ha1 (by omega) (fun _ => rfl) fun n hn => ev_fn (ea_cons (ev_var rfl) (ea_cons (ev_var rfl) ea_nil)) fun H2 e2 => ⟨p, n, rfl, (hb n hn).1, (hb n hn).2, rfl⟩) fun _ =>
    ev_fn (ea_cons (ev_var rfl) ea_nil) fun H2 e2 => ⟨a, ns, rfl, e2 _ _ ha1, by omega, hp, rfl⟩) fun H2 e2 => k H2 (e1.trans e2)
theorem scIsPlaces : FnScope ["prime", "lot", "thing", "place"] ["prime", "lot", "thing"] (defScope sIsPlaces) := ⟨rfl, rfl, rfl, by decide +kernel, rfl, by decide +kernel, by decide +kernel⟩
theorem ok_isPlaces {f f1 : Addr} {fd d1 : FuncData} (F : Fun K "is_places" "is_places" sIsPlaces f fd) (B : Bt mg) (N : Kn mg) (D1 : Df K mg "is_below" sIsBelow ["prime", "thing"] f1 d1) (G1 : FnOk P w K mg base CX0 3 f1 d1 ["prime", "thing"] (spFn pBelow)) : FnOk P w K mg base CX0 4 f fd ["prime", "lot", "thing"] (spFn pPlaces) := by
  obtain ⟨t1, h1⟩ := N.places
  refine F.ok scIsPlaces (lenF (by rintro _ _ _ ⟨p, i, a, lot, ns, rfl, _⟩; rfl)) (fun cdv A outer s H vs Q E hr h => ?_)
  obtain ⟨r, ⟨p, b, a, lot, ns, rfl, hlot, ha, hl, hb, hnd, hno, rfl⟩, k⟩ := h
  refine ⟨_, pss_cons (ps_if (PW.pt (pw_or (pt_not (pt_val (pe_callB call_isi (by rfl) B.b_isinstance boot_isi' (pa_cons (pv 2) (pa_cons (pe_bltn (by rfl) B.b_tuple boot_tuple' (show RelV (.ty "tuple") (.type "tuple") from rfl)) pa_nil)))))
      (pw_or1 (pt_cmpR op_gt (pe_callB call_len_seq (by rfl) B.b_len PySem.boot_len (pa_cons (pv 2) pa_nil)) (pe_glob (v := .int 64) rfl h1 ⟨_, rfl⟩) (nomark _))))) (pss_one (ps_ret pe_bl)) pss_nil)
    (pss_cons (ps_if (pt_not (pt_val (pe_callB (cr_all rfl) (by rfl) B.b_all boot_all' (pa_cons (pe_lc (own := [("place", 3)]) (g := gName 3) (tt := tYes) rfl scIsPlaces.nd (pi_tup (pv 2)) (blkOk_by (N := ["prime", "lot", "thing", "place"]) (sc := defScope sIsPlaces) (by decide +kernel))
      (fun _ _ _ _ _ => pg_name (i := 3) scIsPlaces.nd rfl (Or.inl rfl)) (fun _ _ _ _ _ => pts_nil) (fun _ _ _ _ _ => pe_and (pe_call G1 (hr.mono (by decide)) (by rfl) D1.g D1.F.kp D1.b .nil pass0 (pa_cons (pv 0) (pa_cons (pv 3) pa_nil))) (pe_one (pe_cmpR (show OpR _ _ (rIn K true) from op_notIn_seq) (pv 3) (pv 1) (by rfl))))) pa_nil))))
      (pss_one (ps_ret pe_bl)) pss_nil)
    (pss_one (ps_ret (pe_cmpR op_eq (pe_lenSetT rfl (by rfl) B.b_len (by rfl) B.b_set (pv 2)) (pe_callB call_len_seq (by rfl) B.b_len PySem.boot_len (pa_cons (pv 2) pa_nil)) (nomark _))))), ?_⟩
  have hll := iL_len ns
  refine q_when (b := !true || false) (et_or (et_not (et_B (ev_isit (ev_var rfl) ha kit_tt))) fun _ => et_test (ev_is (ev_op (ev_lenT (ev_var rfl) ha) ev_c rv_I0) (congrArg V.bl (decide_eq_false (by omega))))) (fun q => by cases q) (fun q H1 e1 => ?_)
  have ha1 := e1 _ _ ha
  have hb1 := e1 _ _ hlot
  refine q_when (b := !true) (et_not (et_B (ev_allT (K := K) (j := 3) (vs := [3]) (ev_var rfl) ha1 (by omega) (fun _ => rfl) fun n hn => ev_is (ev_andV (ev_fn (v := .bl true) (ea_cons (ev_var rfl) (ea_cons (ev_var rfl) ea_nil)) fun H2 e2 => ⟨p, n, rfl, (hb n hn).1, (hb n hn).2, rfl⟩) fun _ => ev_op (ev_var rfl) (ev_var rfl) (rv_niT (st_of hb1) rfl (iL_flat _))) (congrArg V.bl (by
    rw [inV_iL, decide_eq_false (hno n hn)]
    rfl))))) (fun q => by cases q) (fun q H2 e2 => ?_)
  have ha2 := e2 _ _ ha1
  exact s_ret (ev_is (ev_op (ev_lenSetT (ev_var rfl) ha2 hnd (by omega)) (ev_lenT (ev_var rfl) ha2) (rv_eq rfl)) (congrArg V.bl (decide_eq_true (by rw [hll])))) fun H3 e3 => k H3 ((e1.trans e2).trans e3)
theorem scIsPoly : FnScope ["prime", "thing", "part"] ["prime", "thing"] (defScope sIsPoly) := ⟨rfl, rfl, rfl, by decide +kernel, rfl, by decide +kernel, by decide +kernel⟩
theorem ok_isPoly {f f1 : Addr} {fd d1 : FuncData} (F : Fun K "is_polynomial" "is_polynomial" sIsPoly f fd) (B : Bt mg) (N : Kn mg) (D1 : Df K mg "is_below" sIsBelow ["prime", "thing"] f1 d1) (G1 : FnOk P w K mg base CX0 3 f1 d1 ["prime", "thing"] (spFn pBelow)) : FnOk P w K mg base CX0 4 f fd ["prime", "thing"] (spFn pPoly) := by
  obtain ⟨t1, h1⟩ := N.degree
  refine F.ok scIsPoly (lenF (by rintro _ _ _ ⟨p, a, ns, rfl, _⟩; rfl)) (fun cdv A outer s H vs Q E hr h => ?_)
  obtain ⟨r, ⟨p, a, ns, rfl, ha, hl, hb, rfl⟩, k⟩ := h
  refine ⟨_, pss_cons (ps_if (PW.pt (pw_or (pt_not (pt_val (pe_callB call_isi (by rfl) B.b_isinstance boot_isi' (pa_cons (pv 1) (pa_cons (pe_bltn (by rfl) B.b_tuple boot_tuple' (show RelV (.ty "tuple") (.type "tuple") from rfl)) pa_nil)))))
      (pw_or1 (pt_not (pt_chain op_le op_le pe_int (pe_callB call_len_seq (by rfl) B.b_len PySem.boot_len (pa_cons (pv 1) pa_nil)) (pe_op op_add (pe_glob (v := .int 64) rfl h1 ⟨_, rfl⟩) pe_int)))))) (pss_one (ps_ret pe_bl)) pss_nil)
    (pss_one (ps_ret (pe_and (pe_callB (cr_all rfl) (by rfl) B.b_all boot_all' (pa_cons (pe_lc (own := [("part", 2)]) (g := gName 2) (tt := tYes) rfl scIsPoly.nd (pi_tup (pv 1)) (blkOk_by (N := ["prime", "thing", "part"]) (sc := defScope sIsPoly) (by decide +kernel))
      (fun _ _ _ _ _ => pg_name (i := 2) scIsPoly.nd rfl (Or.inl rfl)) (fun _ _ _ _ _ => pts_nil) (fun _ _ _ _ _ => pe_call G1 (hr.mono (by decide)) (by rfl) D1.g D1.F.kp D1.b .nil pass0 (pa_cons (pv 0) (pa_cons (pv 2) pa_nil)))) pa_nil))
      (pe_one (pe_cmpR op_eq (pe_ix ix_tup (pv 1) (pe_un un_neg pe_int) (fun _ _ => rfl)) pe_int (nomark _)))))), ?_⟩
  have hll := iL_len (ns ++ [1])
  rw [List.length_append, List.length_singleton] at hll
  refine q_when (b := !true || !true) (et_or (et_not (et_B (ev_isit (ev_var rfl) ha kit_tt))) fun _ => et_not (et_test (ev_is (ev_chain ev_c (ev_lenT (ev_var rfl) ha) (ev_op ev_c ev_c rv_I0) rv_I0 fun _ => rv_I0) (congrArg V.bl (by rw [decide_eq_true (by omega), decide_eq_true (by omega)]; rfl))))) (fun q => by cases q) (fun q H1 e1 => ?_)
  have ha1 := e1 _ _ ha
  have hlast : atI (iL (ns ++ [1])) (-1) = some (.int 1) := by
    rw [show iL (ns ++ [1]) = iL ns ++ [V.int 1] from List.map_append ..]
    exact atI_last _ _
  exact s_ret (ev_andV (b := true) (ev_allT (K := K) (j := 2) (vs := [2]) (ev_var rfl) ha1 (by rw [List.length_append, List.length_singleton]; omega) (fun _ => rfl) fun n hn => ev_fn (ea_cons (ev_var rfl) (ea_cons (ev_var rfl) ea_nil)) fun H2 e2 => ⟨p, n, rfl, (hb n hn).1, (hb n hn).2, rfl⟩) fun _ =>
    ev_is (ev_op (ev_op (ev_var rfl) (ev_un ev_c ru_neg) (rv_ixT (st_of ha1) hlast)) ev_c (rv_eq rfl)) (congrArg V.bl (decide_eq_true rfl))) fun H2 e2 => k H2 (e1.trans e2)
end
end Hv
/-! k40: values, roots, number_of -/
namespace Hv
open PySem PySem.Spec PyProof.Rows L2 Evl
abbrev sValues : Stmt := topS 34
abbrev sValuesOf : Stmt := topS 35
abbrev sValue : Stmt := topS 36
abbrev sRoots : Stmt := topS 37
abbrev sRootsOf : Stmt := topS 38
abbrev sNumberOf : Stmt := topS 39
abbrev sNumberAt : Stmt := topS 40
/-- what a def without effects tells, a tuple -/
def spFnT (p : List V → Hp → List V → Prop) : Sp := fun vs H Q _ => ∃ xs, p vs H xs ∧ ∀ (t : Addr) (H' : Hp), Same H H' → H' t = some (.tup xs) → Q (.ref t) H'
theorem lenFT {p : List V → Hp → List V → Prop} {n : Nat} (h : ∀ vs H r, p vs H r → vs.length = n) : ∀ vs H Q E, spFnT p vs H Q E → vs.length = n := fun vs H Q E ⟨r, hp, _⟩ => h vs H r hp
/-- a tuple, wherever it stands -/
def EvW (te : TE) (σ : L2.St) (H : Hp) (xs : List V) : Prop := ∀ H1, Ex H H1 → ∀ Q : VK, (∀ t H2, Ex H1 H2 → H2 t = some (.tup xs) → Q (.ref t) H2) → te σ H1 Q
abbrev rTupOf (K : PySem.W.Frag) : List V → Hp → VK → Prop := fun xs H Q => ∃ p ys, xs = [.ref p] ∧ ((SqL K H p ys ∧ ∀ l, H l = none → Q (.ref l) (upd H l (.tup ys))) ∨ (SqT K H p ys ∧ Q (.ref p) H))
section
variable {K : PySem.W.Frag} {σ : L2.St} {H : Hp} {v z : V} {vs us xs : List V} {te ta tl : TE} {tr : TA} {ta' : TA} {E : XK} {D : Ends} {tz : TS} {p : List V → Hp → List V → Prop}
theorem EvW.ofU (h : EvU te σ H xs) : EvW te σ H xs := fun H1 e Q q => h H1 e Q fun p H2 _ e2 h2 => q p H2 e2 h2
theorem EvW.mono {H' : Hp} (e : Ex H H') (h : EvW te σ H xs) : EvW te σ H' xs := fun H1 a Q q => h H1 (e.trans a) Q q
theorem ew_var {i : Nat} {a : Addr} (h : σ[i]? = some (some (.ref a))) (hx : H a = some (.tup xs)) : EvW (tVar i) σ H xs := fun H1 e Q q => ⟨_, h, q a H1 (Ex.refl H1) (e _ _ hx)⟩
theorem ew_fn (h : EvA ta' σ H vs) (hp : ∀ H1, Ex H H1 → p vs H1 xs) : EvW (tCall (spFnT p) [] E ta') σ H xs := fun H1 e Q q => h H1 e _ fun H2 e2 => ⟨xs, by rw [List.append_nil]; exact hp H2 (e.trans e2), fun t H' s ht => q t H' (e2.trans s) ht⟩
theorem eu_of (h : EvL te σ H xs) : EvU (tCB (rTupOf K) (tCons te tNil)) σ H xs := fun H1 e Q q => h H1 e _ fun p H2 hp e2 h2 => ⟨p, xs, rfl, .inl ⟨sq_of h2, fun l hl => q l _ (fresh_back e2 hl) (e2.trans (Ex.new hl)) upd_same⟩⟩
theorem s_retW (h : EvW te σ H xs) (k : ∀ t H1, Ex H H1 → H1 t = some (.tup xs) → D.rt (.ref t) H1) : tRet te D σ H := h H (Ex.refl H) _ k
theorem q_asgW {i : Nat} (h : EvW te σ H xs) (k : ∀ t H1, Ex H H1 → H1 t = some (.tup xs) → tz D (σ.set i (some (.ref t))) H1) : tSeq (tAsg te (gName i)) tz D σ H := h H (Ex.refl H) _ k
theorem ev_callW {sp : Sp} (h : EvW ta σ H xs) (hr : EvA tr σ H us) (hs : ∀ t H1, Ex H H1 → H1 t = some (.tup xs) → SpV sp (.ref t :: us) H1 z) : Ev (tCall sp [] E (tCons ta tr)) σ H z := fun H1 e Q q =>
  h H1 e _ fun t H2 e2 h2 => hr H2 (e.trans e2) _ fun H3 e3 => by
    show sp (.ref t :: us ++ []) H3 Q E
    rw [List.append_nil]
    exact hs t H3 ((e.trans e2).trans e3) (e3 _ _ h2) H3 (Ex.refl H3) Q (fun H4 e4 => q H4 ((e2.trans e3).trans e4)) E
theorem s_forS {tu : TS} {z : Str} {j : Nat} (h : Ev tl σ H (.str z)) (Pv : Nat → L2.St → Hp → Prop) (h0 : ∀ H1, Ex H H1 → Pv 0 σ H1)
    (hs : ∀ i c σ' H', (TL.tl z)[i]? = some c → Pv i σ' H' → tu { D with nx := Pv (i + 1), ct := Pv (i + 1), bk := D.nx } (σ'.set j (some (.str ⟨#[c]⟩))) H') (hd : ∀ σ' H', Pv (TL.tl z).length σ' H' → D.nx σ' H') : tFor (iStr tl) (gName j) tu D σ H :=
  h H (Ex.refl H) _ fun H1 e => ⟨z, rfl, for_it walk_str Pv (h0 H1 e) (fun _ _ _ _ _ => True.intro) (fun i x σ H2 H2' hi p y => by
    obtain ⟨rfl, c, hc, rfl⟩ := y
    exact hs i c σ H2' (codes_get hc) p) (fun σ H p => hd σ H (by
      rw [show (TL.tl z).length = z.cps.size from (TL.len_tl z)]
      exact p))⟩
end
theorem atI_neg {xs : List V} {k : Nat} {v : V} (h : xs.reverse[k]? = some v) : atI xs (-1 - (k : Int)) = some v := by
  have hk := (List.getElem?_eq_some_iff.mp h).1
  rw [List.length_reverse] at hk
  rw [List.getElem?_reverse hk] at h
  have e : ixN xs.length (-1 - (k : Int)) = some (xs.length - 1 - k) := by
    unfold ixN
    rw [if_neg (by omega), if_pos (by omega)]
    congr 1
    omega
  unfold atI
  rw [e]
  exact h
def pWorth (vs : List V) (H : Hp) (r : V) : Prop := ∃ (a : Addr) (l : List Int) (z p : Int), vs = [.ref a, .int z, .int p] ∧ H a = some (.tup (iL l)) ∧ l.length ≤ 1000 ∧ 0 < p ∧ p ≤ GP ∧ 0 ≤ z ∧ z < p ∧ r = .int (Pr.wor p z l)
def pValue (vs : List V) (H : Hp) (r : V) : Prop := ∃ (p z : Int) (a : Addr) (l : List Int), vs = [.int p, .ref a, .int z] ∧ H a = some (.tup (iL l)) ∧ l.length ≤ 1000 ∧ 1 < p ∧ p ≤ GP ∧ 0 ≤ z ∧ z < p ∧ below p l ∧ r = .int (Pr.val p z l 1)
def pValuesOf (vs : List V) (H : Hp) (xs : List V) : Prop := ∃ (p : Int) (a b : Addr) (l zs : List Int), vs = [.int p, .ref a, .ref b] ∧ H a = some (.tup (iL l)) ∧ H b = some (.tup (iL zs)) ∧ l.length ≤ 1000 ∧ zs.length ≤ 1000 ∧ 1 < p ∧ p ≤ GP ∧ below p zs ∧ below p l ∧ xs = iL (zs.map fun z => Pr.val p z l 1)
def pValues (vs : List V) (H : Hp) (xs : List V) : Prop := ∃ (p : Int) (a b : Addr) (l zs : List Int), vs = [.int p, .ref a, .ref b] ∧ H a = some (.tup (iL l)) ∧ H b = some (.tup (iL zs)) ∧ PrP p ∧ l.length ≤ 200 ∧ l.Pairwise (· < ·) ∧ zs.length ≤ 64 ∧ zs.Nodup ∧ (∀ z ∈ zs, z ∉ l) ∧ below p zs ∧ below p l ∧ xs = iL (zs.map fun z => Pr.val p z l 1)
def pRootsOf (vs : List V) (H : Hp) (xs : List V) : Prop := ∃ (p : Int) (a b : Addr) (l ns : List Int), vs = [.int p, .ref a, .ref b] ∧ H a = some (.tup (iL l)) ∧ H b = some (.tup (iL ns)) ∧ l.length ≤ 1000 ∧ ns.length ≤ 1000 ∧ 1 < p ∧ p ≤ GP ∧ below p ns ∧ xs = iL (ns.filter fun n => decide (Pr.wor p n l = 0))
def pRoots (vs : List V) (H : Hp) (xs : List V) : Prop := ∃ (p : Int) (a b : Addr) (l ns : List Int), vs = [.int p, .ref a, .ref b] ∧ H a = some (.tup (iL (l ++ [1]))) ∧ H b = some (.tup (iL ns)) ∧ PrP p ∧ l.length ≤ 64 ∧ below p (l ++ [1]) ∧ ns.length ≤ 200 ∧ ns.Pairwise (· < ·) ∧ below p ns ∧ xs = iL (ns.filter fun n => decide (Pr.wor p n (l ++ [1]) = 0))
def dgs (z : Str) : List Nat := (TL.tl z).map (· - 96)
def numZ (z : Str) (i j : Int) : Int := 10 ^ 8 * (Pr.word (dgs z) : Int) + 100 * i + j
def pNumAt (vs : List V) (H : Hp) (r : V) : Prop := ∃ (z : Str) (a : Addr) (i j : Int), vs = [.str z, .ref a] ∧ H a = some (.tup [.int i, .int j]) ∧ nam z ∧ stp i j ∧ r = .int (numZ z i j)
section
variable {P : Program} {w : World} {K : PySem.W.Frag} {mg : Str → Option Value} {base : Heap}
theorem nat90 {p i : Int} (h : p ≤ GP) (h0 : -p ≤ i) (h1 : i ≤ p) : i.natAbs < 2 ^ 90 := by
  unfold GP at h
  omega
theorem scWorth : FnScope ["polynomial", "place", "prime", "found", "k"] ["polynomial", "place", "prime"] (defScope sWorth) := ⟨rfl, rfl, rfl, by decide +kernel, rfl, by decide +kernel, by decide +kernel⟩
def worF (p z : Int) (l : List Int) : Int := l.foldl (fun f c => (f * z + c) % p) 0
theorem worF_snoc (p z : Int) (l : List Int) (c : Int) : worF p z (l ++ [c]) = (worF p z l * z + c) % p := by
  unfold worF
  rw [List.foldl_append]
  rfl
theorem worF_lt {p : Int} (hp : 0 < p) (z : Int) (l : List Int) : 0 ≤ worF p z l ∧ worF p z l < p := by
  have := Pr.wor_lt hp z l.reverse
  unfold Pr.wor at this
  rw [List.reverse_reverse] at this
  exact this
theorem ok_worth {f : Addr} {fd : FuncData} (F : Fun K "worth_at" "worth_at" sWorth f fd) (B : Bt mg) : FnOk P w K mg base CX0 1 f fd ["polynomial", "place", "prime"] (spFn pWorth) := by
  refine F.ok scWorth (lenF (by rintro _ _ _ ⟨a, l, z, p, rfl, _⟩; rfl)) (fun cdv A outer s H vs Q E hr h => ?_)
  obtain ⟨r, ⟨a, l, z, p, rfl, ha, hl, p0, pG, z0, z1, rfl⟩, k⟩ := h
  refine ⟨_, pss_cons (ps_set (i := 3) scWorth.nd rfl (.inl rfl) pe_int)
    (pss_cons (ps_for PassesOwn.never rfl (pi_range1 (by rfl) B.b_range (pa_cons (pe_callB call_len_seq (by rfl) B.b_len PySem.boot_len (pa_cons (pv 0) pa_nil)) pa_nil)) (pg_name (i := 4) scWorth.nd rfl (Or.inl rfl))
      (pss_one (ps_set (i := 3) scWorth.nd rfl (.inl rfl) (pe_op op_modN (pe_op op_add (pe_op op_mulW (pv 3) (pv 1)) (pe_ix ix_tup (pv 0) (pe_op op_sub (pe_un un_neg pe_int) (pv 4)) (fun _ _ => rfl))) (pv 2)))))
    (pss_one (ps_ret (pv 3)))), ?_⟩
  have hll := iL_len l
  refine q_asg (v := .int 0) ev_c fun H1 e1 => ?_
  refine s_forR1 (n := ((iL l).length : Int)) (ea_cons (ev_lenT (ev_var rfl) (e1 _ _ ha)) ea_nil) ⟨by omega, by omega⟩ (fun i σ' H' => (∃ x4, σ' = [some (.ref a), some (.int z), some (.int p), some (.int (worF p z (l.reverse.take i))), x4]) ∧ Ex H H') (fun H2 e2 => ⟨⟨none, rfl⟩, e1.trans e2⟩) ?_ ?_
  · rintro i σ' H2 hi ⟨⟨x4, rfl⟩, e2⟩
    have hi' : i < l.reverse.length := by rw [List.length_reverse]; omega
    have hc : l.reverse[i]? = some l.reverse[i] := List.getElem?_eq_getElem hi'
    generalize l.reverse[i] = c at hc
    have hv : (iL l).reverse[i]? = some (.int c) := by
      rw [← List.map_reverse]
      exact iL_get hc
    have b := worF_lt p0 z (l.reverse.take i)
    refine s_asg (v := .int (worF p z (l.reverse.take (i + 1)))) (ev_is (ev_op (ev_op (ev_op (ev_var rfl) (ev_var rfl) (rv_mulW (a := 90) (b := 90) (nat90 pG (by omega) (by omega)) (nat90 pG (by omega) (by omega)) (by decide) (by decide) (by decide))) (ev_op (ev_var rfl) (ev_op (ev_un ev_c ru_neg) (ev_var rfl) rv_I0) (rv_ixT (st_of (e2 _ _ ha)) (atI_neg hv))) rv_I0) (ev_var rfl) (rv_modN (by omega))) (congrArg V.int ?_)) fun H3 e3 => ⟨⟨_, rfl⟩, e2.trans e3⟩
    rw [List.take_add_one, hc]
    show _ = worF p z (_ ++ [c])
    rw [worF_snoc, Int.fmod_eq_emod_of_nonneg _ (by omega)]
  · rintro σ' H2 ⟨⟨x4, rfl⟩, e2⟩
    refine s_ret (ev_is (ev_var rfl) (congrArg V.int ?_)) fun H3 e3 => k H3 (e2.trans e3)
    rw [show ((iL l).length : Int).toNat = l.reverse.length by rw [List.length_reverse]; omega, List.take_length]
    rfl
theorem scValue : FnScope ["prime", "lot", "place", "found", "number"] ["prime", "lot", "place"] (defScope sValue) := ⟨rfl, rfl, rfl, by decide +kernel, rfl, by decide +kernel, by decide +kernel⟩
theorem val_snoc (p z : Int) (l : List Int) (x : Int) : Pr.val p z (l ++ [x]) 1 = Pr.val p z l 1 * (z - x) % p := by
  unfold Pr.val
  rw [List.foldl_append]
  rfl
theorem ok_value {f : Addr} {fd : FuncData} (F : Fun K "_value" "_value" sValue f fd) (B : Bt mg) : FnOk P w K mg base CX0 1 f fd ["prime", "lot", "place"] (spFn pValue) := by
  refine F.ok scValue (lenF (by rintro _ _ _ ⟨p, z, a, l, rfl, _⟩; rfl)) (fun cdv A outer s H vs Q E hr h => ?_)
  obtain ⟨r, ⟨p, z, a, l, rfl, ha, hl, p1, pG, z0, z1, hb, rfl⟩, k⟩ := h
  refine ⟨_, pss_cons (ps_set (i := 3) scValue.nd rfl (.inl rfl) pe_int)
    (pss_cons (ps_for PassesOwn.never rfl (pi_tup (pv 1)) (pg_name (i := 4) scValue.nd rfl (Or.inl rfl))
      (pss_one (ps_set (i := 3) scValue.nd rfl (.inl rfl) (pe_op op_modN (pe_op op_mulW (pv 3) (pe_op op_sub (pv 2) (pv 4))) (pv 0)))))
    (pss_one (ps_ret (pv 3)))), ?_⟩
  refine q_asg (v := .int 1) ev_c fun H1 e1 => ?_
  refine q_forT (K := K) (xs := iL l) (ev_var rfl) (st_of (e1 _ _ ha)) (fun i σ' H' => (∃ x4, σ' = [some (.int p), some (.ref a), some (.int z), some (.int (Pr.val p z (l.take i) 1)), x4]) ∧ Ex H H') (fun H2 e2 => ⟨⟨none, rfl⟩, e1.trans e2⟩) (fun i σ' H' _ h => st_of (h.2 _ _ ha)) ?_ ?_
  · rintro i x σ' H2 hi ⟨⟨x4, rfl⟩, e2⟩
    obtain ⟨c, hc, rfl⟩ := iL_of hi
    have b := Pr.val_lt (p := p) (by omega) z (l.take i) 1 (by decide) p1
    have bc := hb c (List.mem_of_getElem? hc)
    show tAsg _ _ _ [some (.int p), some (.ref a), some (.int z), some (.int (Pr.val p z (l.take i) 1)), some (.int c)] H2
    refine s_asg (v := .int (Pr.val p z (l.take (i + 1)) 1)) (ev_is (ev_op (ev_op (ev_var rfl) (ev_op (ev_var rfl) (ev_var rfl) rv_I0) (rv_mulW (a := 90) (b := 90) (nat90 pG (by omega) (by omega)) (nat90 pG (by omega) (by omega)) (by decide) (by decide) (by decide))) (ev_var rfl) (rv_modN (by omega))) (congrArg V.int ?_)) fun H3 e3 => ⟨⟨_, rfl⟩, e2.trans e3⟩
    rw [List.take_add_one, hc]
    show _ = Pr.val p z (_ ++ [c]) 1
    rw [val_snoc, Int.fmod_eq_emod_of_nonneg _ (by omega)]
  · rintro σ' H2 ⟨⟨x4, rfl⟩, e2⟩
    refine s_ret (ev_is (ev_var rfl) (congrArg V.int ?_)) fun H3 e3 => k H3 (e2.trans e3)
    rw [iL_len, List.take_length]
theorem scValuesOf : FnScope ["prime", "lot", "places", "place"] ["prime", "lot", "places"] (defScope sValuesOf) := ⟨rfl, rfl, rfl, by decide +kernel, rfl, by decide +kernel, by decide +kernel⟩
theorem ok_valuesOf {f f1 : Addr} {fd d1 : FuncData} (F : Fun K "values_of" "values_of" sValuesOf f fd) (B : Bt mg) (D1 : Df K mg "_value" sValue ["prime", "lot", "place"] f1 d1) : FnOk P w K mg base CX0 2 f fd ["prime", "lot", "places"] (spFnT pValuesOf) := by
  have G1 : FnOk P w K mg base CX0 1 f1 d1 ["prime", "lot", "place"] (spFn pValue) := ok_value D1.F B
  refine F.ok scValuesOf (lenFT (by rintro _ _ _ ⟨p, a, b, l, zs, rfl, _⟩; rfl)) (fun cdv A outer s H vs Q E hr h => ?_)
  obtain ⟨r, ⟨p, a, b, l, zs, rfl, ha, hb, hl, hz, p1, pG, bz, bl, rfl⟩, k⟩ := h
  refine ⟨_, pss_one (ps_ret (pe_callTy call_tuple_of (by rfl) B.b_tuple boot_tuple' (pa_cons (pe_lc (own := [("place", 3)]) (g := gName 3) (tt := tYes) rfl scValuesOf.nd (pi_tup (pv 2)) (blkOk_by (N := ["prime", "lot", "places", "place"]) (sc := defScope sValuesOf) (by decide +kernel))
      (fun _ _ _ _ _ => pg_name (i := 3) scValuesOf.nd rfl (Or.inl rfl)) (fun _ _ _ _ _ => pts_nil) (fun _ _ _ _ _ => pe_call G1 (hr.mono (by decide)) (by rfl) D1.g D1.F.kp D1.b .nil pass0 (pa_cons (pv 0) (pa_cons (pv 1) (pa_cons (pv 3) pa_nil))))) pa_nil))), ?_⟩
  refine s_retU (eu_of (K := K) ?_) fun t H1 _ e1 h1 => k t H1 e1 h1
  rw [show iL (zs.map fun z => Pr.val p z l 1) = zs.map fun z => V.int (Pr.val p z l 1) from List.map_map ..]
  exact el_mapT (K := K) (j := 3) (vs := [3]) (fun z => V.int (Pr.val p z l 1)) (ev_var rfl) hb (by omega) (fun _ => rfl) fun n hn => ev_fn (ea_cons (ev_var rfl) (ea_cons (ev_var rfl) (ea_cons (ev_var rfl) ea_nil))) fun H2 e2 => ⟨p, n, a, l, rfl, e2 _ _ ha, hl, p1, pG, (bz n hn).1, (bz n hn).2, bl, rfl⟩
theorem scValues : FnScope ["prime", "lot", "places"] ["prime", "lot", "places"] (defScope sValues) := ⟨rfl, rfl, rfl, by decide +kernel, rfl, by decide +kernel, by decide +kernel⟩
theorem ok_values {f f1 f2 f3 f4 : Addr} {fd d1 d2 d3 d4 : FuncData} (F : Fun K "values" "values" sValues f fd) (B : Bt mg) (D1 : Df K mg "is_prime" sIsPrime ["thing"] f1 d1) (G1 : FnOk P w K mg base CX0 4 f1 d1 ["thing"] (spFn pPrime)) (D2 : Df K mg "is_lot" sIsLot ["prime", "thing"] f2 d2) (G2 : FnOk P w K mg base CX0 4 f2 d2 ["prime", "thing"] (spFn pLot))
    (D3 : Df K mg "is_places" sIsPlaces ["prime", "lot", "thing"] f3 d3) (G3 : FnOk P w K mg base CX0 4 f3 d3 ["prime", "lot", "thing"] (spFn pPlaces)) (D4 : Df K mg "values_of" sValuesOf ["prime", "lot", "places"] f4 d4) (G4 : FnOk P w K mg base CX0 4 f4 d4 ["prime", "lot", "places"] (spFnT pValuesOf)) :
    FnOk P w K mg base CX0 5 f fd ["prime", "lot", "places"] (spFnT pValues) := by
  refine F.ok scValues (lenFT (by rintro _ _ _ ⟨p, a, b, l, zs, rfl, _⟩; rfl)) (fun cdv A outer s H vs Q E hr h => ?_)
  obtain ⟨r, ⟨p, a, b, l, zs, rfl, ha, hb, hp, hl, hpw, hz, hnd, hno, bz, bl, rfl⟩, k⟩ := h
  refine ⟨_, pss_cons (ps_if (pt_not (pt_val (pe_call G1 hr (by rfl) D1.g D1.F.kp D1.b .nil pass0 (pa_cons (pv 0) pa_nil)))) (pss_one ps_dead) pss_nil)
    (pss_cons (ps_if (pt_not (pt_val (pe_call G2 hr (by rfl) D2.g D2.F.kp D2.b .nil pass0 (pa_cons (pv 0) (pa_cons (pv 1) pa_nil))))) (pss_one ps_dead) pss_nil)
    (pss_cons (ps_if (pt_not (pt_val (pe_call G3 hr (by rfl) D3.g D3.F.kp D3.b .nil pass0 (pa_cons (pv 0) (pa_cons (pv 1) (pa_cons (pv 2) pa_nil)))))) (pss_one ps_dead) pss_nil)
    (pss_one (ps_ret (pe_call G4 hr (by rfl) D4.g D4.F.kp D4.b .nil pass0 (pa_cons (pv 0) (pa_cons (pv 1) (pa_cons (pv 2) pa_nil)))))))), ?_⟩
  refine q_when (b := !true) (et_not (et_B (ev_fn (v := .bl true) (ea_cons (ev_var rfl) ea_nil) fun H1 e => ⟨p, rfl, hp, rfl⟩))) (fun q => by cases q) (fun q H1 e1 => ?_)
  refine q_when (b := !true) (et_not (et_B (ev_fn (v := .bl true) (ea_cons (ev_var rfl) (ea_cons (ev_var rfl) ea_nil)) fun H2 e => ⟨p, a, l, rfl, e _ _ (e1 _ _ ha), hl, bl, hpw, rfl⟩))) (fun q => by cases q) (fun q H2 e2 => ?_)
  have E2 := e1.trans e2
  refine q_when (b := !true) (et_not (et_B (ev_fn (v := .bl true) (ea_cons (ev_var rfl) (ea_cons (ev_var rfl) (ea_cons (ev_var rfl) ea_nil))) fun H3 e => ⟨p, a, b, l, zs, rfl, e _ _ (E2 _ _ ha), e _ _ (E2 _ _ hb), hz, bz, hnd, hno, rfl⟩))) (fun q => by cases q) (fun q H3 e3 => ?_)
  have E3 := E2.trans e3
  exact s_retW (ew_fn (ea_cons (ev_var rfl) (ea_cons (ev_var rfl) (ea_cons (ev_var rfl) ea_nil))) fun H4 e4 => ⟨p, a, b, l, zs, rfl, e4 _ _ (E3 _ _ ha), e4 _ _ (E3 _ _ hb), by omega, by omega, by have := hp.lo; omega, hp.hi, bz, bl, rfl⟩) fun t H4 e4 h4 => k t H4 (E3.trans e4) h4
theorem scRootsOf : FnScope ["prime", "polynomial", "lot", "number"] ["prime", "polynomial", "lot"] (defScope sRootsOf) := ⟨rfl, rfl, rfl, by decide +kernel, rfl, by decide +kernel, by decide +kernel⟩
theorem ok_rootsOf {f f1 : Addr} {fd d1 : FuncData} (F : Fun K "roots_of" "roots_of" sRootsOf f fd) (B : Bt mg) (D1 : Df K mg "worth_at" sWorth ["polynomial", "place", "prime"] f1 d1) : FnOk P w K mg base CX0 2 f fd ["prime", "polynomial", "lot"] (spFnT pRootsOf) := by
  have G1 : FnOk P w K mg base CX0 1 f1 d1 ["polynomial", "place", "prime"] (spFn pWorth) := ok_worth D1.F B
  refine F.ok scRootsOf (lenFT (by rintro _ _ _ ⟨p, a, b, l, zs, rfl, _⟩; rfl)) (fun cdv A outer s H vs Q E hr h => ?_)
  obtain ⟨r, ⟨p, a, b, l, ns, rfl, ha, hb, hl, hz, p1, pG, bz, rfl⟩, k⟩ := h
  refine ⟨_, pss_one (ps_ret (pe_callTy call_tuple_of (by rfl) B.b_tuple boot_tuple' (pa_cons (pe_lc (own := [("number", 3)]) (g := gName 3) rfl scRootsOf.nd (pi_tup (pv 2)) (blkOk_by (N := ["prime", "polynomial", "lot", "number"]) (sc := defScope sRootsOf) (by decide +kernel))
      (fun _ _ _ _ _ => pg_name (i := 3) scRootsOf.nd rfl (Or.inl rfl)) (fun _ _ _ _ _ => pts_one (pt_cmpR op_eq (pe_call G1 (hr.mono (by decide)) (by rfl) D1.g D1.F.kp D1.b .nil pass0 (pa_cons (pv 1) (pa_cons (pv 3) (pa_cons (pv 0) pa_nil)))) pe_int (nomark _))) (fun _ _ _ _ _ => pv 3)) pa_nil))), ?_⟩
  refine s_retU (eu_of (K := K) ?_) fun t H1 _ e1 h1 => k t H1 e1 h1
  refine el_lcT (K := K) (j := 3) (vs := [3]) (fun n => decide (Pr.wor p n l = 0)) V.int (ev_var rfl) hb (by omega) (fun _ => rfl) (fun n hn => et_is (et_test (ev_op (x := .int (Pr.wor p n l)) (ev_fn (ea_cons (ev_var rfl) (ea_cons (ev_var rfl) (ea_cons (ev_var rfl) ea_nil))) fun H2 e2 => ⟨a, l, n, p, rfl, e2 _ _ ha, hl, by omega, pG, (bz n hn).1, (bz n hn).2, rfl⟩) ev_c (rv_eq rfl))) (decide_eq_decide.mpr ⟨fun h => V.int.inj h, fun h => congrArg V.int h⟩)) fun n hn _ => ev_var rfl
theorem scRoots : FnScope ["prime", "polynomial", "lot"] ["prime", "polynomial", "lot"] (defScope sRoots) := ⟨rfl, rfl, rfl, by decide +kernel, rfl, by decide +kernel, by decide +kernel⟩
theorem ok_roots {f f1 f2 f3 f4 : Addr} {fd d1 d2 d3 d4 : FuncData} (F : Fun K "roots" "roots" sRoots f fd) (B : Bt mg) (D1 : Df K mg "is_prime" sIsPrime ["thing"] f1 d1) (G1 : FnOk P w K mg base CX0 4 f1 d1 ["thing"] (spFn pPrime)) (D2 : Df K mg "is_polynomial" sIsPoly ["prime", "thing"] f2 d2) (G2 : FnOk P w K mg base CX0 4 f2 d2 ["prime", "thing"] (spFn pPoly))
    (D3 : Df K mg "is_lot" sIsLot ["prime", "thing"] f3 d3) (G3 : FnOk P w K mg base CX0 4 f3 d3 ["prime", "thing"] (spFn pLot)) (D4 : Df K mg "roots_of" sRootsOf ["prime", "polynomial", "lot"] f4 d4) (G4 : FnOk P w K mg base CX0 4 f4 d4 ["prime", "polynomial", "lot"] (spFnT pRootsOf)) :
    FnOk P w K mg base CX0 5 f fd ["prime", "polynomial", "lot"] (spFnT pRoots) := by
  refine F.ok scRoots (lenFT (by rintro _ _ _ ⟨p, a, b, l, zs, rfl, _⟩; rfl)) (fun cdv A outer s H vs Q E hr h => ?_)
  obtain ⟨r, ⟨p, a, b, l, ns, rfl, ha, hb, hp, hl, hbl, hz, hpw, bz, rfl⟩, k⟩ := h
  refine ⟨_, pss_cons (ps_if (pt_not (pt_val (pe_call G1 hr (by rfl) D1.g D1.F.kp D1.b .nil pass0 (pa_cons (pv 0) pa_nil)))) (pss_one ps_dead) pss_nil)
    (pss_cons (ps_if (pt_not (pt_val (pe_call G2 hr (by rfl) D2.g D2.F.kp D2.b .nil pass0 (pa_cons (pv 0) (pa_cons (pv 1) pa_nil))))) (pss_one ps_dead) pss_nil)
    (pss_cons (ps_if (pt_not (pt_val (pe_call G3 hr (by rfl) D3.g D3.F.kp D3.b .nil pass0 (pa_cons (pv 0) (pa_cons (pv 2) pa_nil))))) (pss_one ps_dead) pss_nil)
    (pss_one (ps_ret (pe_call G4 hr (by rfl) D4.g D4.F.kp D4.b .nil pass0 (pa_cons (pv 0) (pa_cons (pv 1) (pa_cons (pv 2) pa_nil)))))))), ?_⟩
  refine q_when (b := !true) (et_not (et_B (ev_fn (v := .bl true) (ea_cons (ev_var rfl) ea_nil) fun H1 e => ⟨p, rfl, hp, rfl⟩))) (fun q => by cases q) (fun q H1 e1 => ?_)
  refine q_when (b := !true) (et_not (et_B (ev_fn (v := .bl true) (ea_cons (ev_var rfl) (ea_cons (ev_var rfl) ea_nil)) fun H2 e => ⟨p, a, l, rfl, e _ _ (e1 _ _ ha), hl, hbl, rfl⟩))) (fun q => by cases q) (fun q H2 e2 => ?_)
  have E2 := e1.trans e2
  refine q_when (b := !true) (et_not (et_B (ev_fn (v := .bl true) (ea_cons (ev_var rfl) (ea_cons (ev_var rfl) ea_nil)) fun H3 e => ⟨p, b, ns, rfl, e _ _ (E2 _ _ hb), hz, bz, hpw, rfl⟩))) (fun q => by cases q) (fun q H3 e3 => ?_)
  have E3 := E2.trans e3
  exact s_retW (ew_fn (ea_cons (ev_var rfl) (ea_cons (ev_var rfl) (ea_cons (ev_var rfl) ea_nil))) fun H4 e4 => ⟨p, a, b, l ++ [1], ns, rfl, e4 _ _ (E3 _ _ ha), e4 _ _ (E3 _ _ hb), by rw [List.length_append, List.length_singleton]; omega, by omega, by have := hp.lo; omega, hp.hi, bz, rfl⟩) fun t H4 e4 h4 => k t H4 (E3.trans e4) h4
theorem scNumAt : FnScope ["name", "stamp", "word", "letter"] ["name", "stamp"] (defScope sNumberAt) := ⟨rfl, rfl, rfl, by decide +kernel, rfl, by decide +kernel, by decide +kernel⟩
theorem occ_abc : ∀ d < 26, Builtin.Str.occurrences ("abcdefghijklmnopqrstuvwxyz" : Str) ⟨#[97 + d]⟩ 0 ("abcdefghijklmnopqrstuvwxyz" : Str).length 1 = [d] := by decide +kernel
theorem rv_pow8 {H : Hp} : RV (rI CPow fun i j => .int (i ^ j.toNat)) (.int 10) (.int 8) H (.int 100000000) := fun H1 _ Q q => ⟨10, 8, rfl, rfl, ⟨by decide, by decide, by decide⟩, q H1 (Ex.refl H1)⟩
theorem ok_numAt {f : Addr} {fd : FuncData} (F : Fun K "number_at" "number_at" sNumberAt f fd) (B : Bt mg) (N : Kn mg) : FnOk P w K mg base CX0 1 f fd ["name", "stamp"] (spFn pNumAt) := by
  obtain ⟨t1, h1⟩ := N.letters
  refine F.ok scNumAt (lenF (by rintro _ _ _ ⟨z, a, i, j, rfl, _⟩; rfl)) (fun cdv A outer s H vs Q E hr h => ?_)
  obtain ⟨r, ⟨z, a, i, j, rfl, ha, ⟨z1, z8, hz⟩, hs, rfl⟩, k⟩ := h
  refine ⟨_, pss_cons (ps_set (i := 2) scNumAt.nd rfl (.inl rfl) pe_int)
    (pss_cons (ps_for PassesOwn.never rfl (pi_str (pv 0)) (pg_name (i := 3) scNumAt.nd rfl (Or.inl rfl))
      (pss_one (ps_set (i := 2) scNumAt.nd rfl (.inl rfl) (pe_op op_add (pe_op op_add (pe_op op_mul (pv 2) pe_int) (pe_m1 PySem.F.slot_str_index PySem.F.type_str_index mt_sindex (pe_glob (v := .str "abcdefghijklmnopqrstuvwxyz") rfl h1 ⟨_, rfl⟩) (pv 3))) pe_int))))
    (pss_one (ps_ret (pe_op op_add (pe_op op_add (pe_op op_mul (pe_op op_pow pe_int pe_int) (pv 2)) (pe_op op_mul pe_int (pe_ix ix_tup (pv 1) pe_int (fun _ _ => rfl)))) (pe_ix ix_tup (pv 1) pe_int (fun _ _ => rfl)))))), ?_⟩
  refine q_asg (v := .int ((0 : Nat) : Int)) ev_c fun H1 e1 => ?_
  refine s_forS (ev_var rfl) (fun n σ' H' => (∃ x3, σ' = [some (.str z), some (.ref a), some (.int ((Pr.word ((dgs z).take n) : Nat) : Int)), x3]) ∧ Ex H H') (fun H2 e2 => ⟨⟨none, rfl⟩, e1.trans e2⟩) ?_ ?_
  · rintro n c σ' H2 hc ⟨⟨x3, rfl⟩, e2⟩
    have hcc := hz c (List.mem_of_getElem? hc)
    obtain ⟨d, hd, rfl⟩ : ∃ d, d < 26 ∧ c = 97 + d := ⟨c - 97, by omega, by omega⟩
    have hd1 : (dgs z)[n]? = some (d + 1) := by
      unfold dgs
      rw [List.getElem?_map, hc]
      show some (97 + d - 96) = _
      congr 1
      omega
    have ei : Ev (tM1 (fun x xs H Q => ∃ a b i rest, x = .str a ∧ xs = [.str b] ∧ Builtin.Str.occurrences a b 0 a.length 1 = i :: rest ∧ Q (.int (i : Nat)) H) (tC (.str "abcdefghijklmnopqrstuvwxyz")) (tVar 3)) [some (.str z), some (.ref a), some (.int ((Pr.word ((dgs z).take n) : Nat) : Int)), some (.str ⟨#[97 + d]⟩)] H2 (.int ((d : Nat) : Int)) := fun H3 e Q q =>
      ⟨⟨_, rfl⟩, _, rfl, _, _, d, [], rfl, rfl, occ_abc d hd, q H3 (Ex.refl H3)⟩
    refine s_asg (v := .int ((Pr.word ((dgs z).take (n + 1)) : Nat) : Int)) (ev_is (ev_op (ev_op (ev_op (ev_var rfl) ev_c (rv_mul2 (by decide) (by decide))) ei rv_I0) ev_c rv_I0) (congrArg V.int ?_)) fun H3 e3 => ⟨⟨_, rfl⟩, e2.trans e3⟩
    rw [List.take_add_one, hd1]
    show _ = ((Pr.word (_ ++ [d + 1]) : Nat) : Int)
    rw [Pr.word_snoc]
    omega
  · rintro σ' H2 ⟨⟨x3, rfl⟩, e2⟩
    have ha2 := e2 _ _ ha
    refine s_ret (ev_is (ev_op (ev_op (ev_op (ev_op ev_c ev_c (rv_pow8 (H := H2))) (ev_var rfl) (rv_mul1 (by decide) (by decide))) (ev_op ev_c (ev_ixT (j := 0) (v := .int i) (ev_var rfl) ha2 rfl) (rv_mul1 (by decide) (by decide))) rv_I0) (ev_ixT (j := 1) (v := .int j) (ev_var rfl) ha2 rfl) rv_I0) (congrArg V.int ?_)) fun H3 e3 => k H3 (e2.trans e3)
    have hl : (TL.tl z).length = (dgs z).length := by unfold dgs; rw [List.length_map]
    rw [hl, List.take_length]
    rfl
theorem scNumOf : FnScope ["name", "stamp"] ["name", "stamp"] (defScope sNumberOf) := ⟨rfl, rfl, rfl, by decide +kernel, rfl, by decide +kernel, by decide +kernel⟩
theorem ok_numOf {f f1 f2 f3 : Addr} {fd d1 d2 d3 : FuncData} (F : Fun K "number_of" "number_of" sNumberOf f fd) (B : Bt mg) (D1 : Df K mg "is_name" sIsName ["thing"] f1 d1) (G1 : FnOk P w K mg base CX0 4 f1 d1 ["thing"] (spFn pName)) (D2 : Df K mg "is_stamp" sIsStamp ["thing"] f2 d2) (G2 : FnOk P w K mg base CX0 4 f2 d2 ["thing"] (spFn pStamp))
    (D3 : Df K mg "number_at" sNumberAt ["name", "stamp"] f3 d3) (G3 : FnOk P w K mg base CX0 4 f3 d3 ["name", "stamp"] (spFn pNumAt)) : FnOk P w K mg base CX0 5 f fd ["name", "stamp"] (spFn pNumAt) := by
  refine F.ok scNumOf (lenF (by rintro _ _ _ ⟨z, a, i, j, rfl, _⟩; rfl)) (fun cdv A outer s H vs Q E hr h => ?_)
  obtain ⟨r, ⟨z, a, i, j, rfl, ha, hz, hs, rfl⟩, k⟩ := h
  refine ⟨_, pss_cons (ps_if (pt_not (pt_val (pe_call G1 hr (by rfl) D1.g D1.F.kp D1.b .nil pass0 (pa_cons (pv 0) pa_nil)))) (pss_one ps_dead) pss_nil)
    (pss_cons (ps_if (pt_not (pt_val (pe_call G2 hr (by rfl) D2.g D2.F.kp D2.b .nil pass0 (pa_cons (pv 1) pa_nil)))) (pss_one ps_dead) pss_nil)
    (pss_one (ps_ret (pe_call G3 hr (by rfl) D3.g D3.F.kp D3.b .nil pass0 (pa_cons (pv 0) (pa_cons (pv 1) pa_nil)))))), ?_⟩
  refine q_when (b := !true) (et_not (et_B (ev_fn (v := .bl true) (ea_cons (ev_var rfl) ea_nil) fun H1 e => ⟨z, rfl, hz, rfl⟩))) (fun q => by cases q) (fun q H1 e1 => ?_)
  have ha1 := e1 _ _ ha
  refine q_when (b := !true) (et_not (et_B (ev_fn (v := .bl true) (ea_cons (ev_var rfl) ea_nil) fun H2 e => ⟨a, i, j, rfl, e _ _ ha1, hs, rfl⟩))) (fun q => by cases q) (fun q H2 e2 => ?_)
  have ha2 := e2 _ _ ha1
  exact s_ret (ev_fn (ea_cons (ev_var rfl) (ea_cons (ev_var rfl) ea_nil)) fun H3 e3 => ⟨z, a, i, j, rfl, e3 _ _ ha2, hz, hs, rfl⟩) fun H3 e3 => k H3 ((e1.trans e2).trans e3)
end
end Hv
/-! k40: drawn numbers, the hat, _law_same, _law_prime, _law_number -/
namespace Hv
open PySem PySem.Spec PyProof.Rows L2 Evl
abbrev lHat : Stmt := topS 42
abbrev lSame : Stmt := topS 44
abbrev lPrime : Stmt := topS 45
abbrev lNumber : Stmt := topS 46
/-- the draw, as the text has it -/
structure Dd (P : Program) (w : World) (K : PySem.W.Frag) (mg : Str → Option Value) (base : Heap) (f : Addr) (d : FuncData) : Prop where
  ok : FnOk P w K mg base CX0 1 f d ["hat", "many"] spDraw
  g : mg "_law_draw" = some (.ref f)
  kp : PySem.W.keepIn K (.ref f) = true
  b : Binds K d ["hat", "many"] []
section
variable {X : Cx} {fD : Addr} {dD : FuncData} {e1 e2 : Expr} {t1 t2 : TE} {ps pos : Pos} {k : Nat}
theorem pe_draw (D : Dd X.prog X.w X.K X.mg X.base fD dD) (hr : Room k X.A) (h : 1 ≤ k) (hg : Gl X "_law_draw") (h1 : PE X e1 t1) (h2 : PE X e2 t2) (hst : starEach [e1, e2] X.env = (false, eval e1 X.env) :: starEach [e2] X.env := by rfl) (hst2 : starEach [e2] X.env = (false, eval e2 X.env) :: starEach [] X.env := by rfl)
    (hpl : (backTo pos (starEach [e2] X.env)).any (·.1) = false := by rfl) : PE X (.Call (.Name "_law_draw" ps) [e1, e2] [] pos) (tCall spDraw [] E0 (tCons t1 (tCons t2 tNil))) :=
  pe_call (D.ok.mono h) hr hg D.g D.kp D.b .nil pass0 (pa_cons h1 (pa_cons h2 pa_nil hst2) hst) (by decide) hst hpl
end
/-- an expression that may draw, and tells an integer of S -/
def Dw (te : TE) (σ : L2.St) (wl : Addr) (H : Hp) (S : Int → Prop) : Prop := ∀ H1, Drawn wl H H1 → ∀ Q : VK, (∀ n H2, S n → Drawn wl H1 H2 → Q (.int n) H2) → te σ H1 Q
section
variable {σ : L2.St} {H : Hp} {wl : Addr} {K : PySem.W.Frag} {te tm ta tb : TE} {S T : Int → Prop} {E : XK} {D : Ends} {tz tu : TS} {tt : TT}
theorem Drawn.ex {wl : Addr} {H H1 : Hp} (W : Well H wl) (e : Ex H H1) : Drawn wl H H1 := (Drawn.refl W).same e
theorem dw_draw {m : Int} {i : Nat} (h : σ[i]? = some (some (.ref wl))) (hm : ∀ H1, Drawn wl H H1 → Ev tm σ H1 (.int m)) (m0 : 0 < m) (m1 : m < 2 ^ 90) : Dw (tCall spDraw [] E (tCons (tVar i) (tCons tm tNil))) σ wl H (fun n => 0 ≤ n ∧ n < m) := fun H1 D1 Q q =>
  ⟨_, h, hm H1 D1 H1 (Ex.refl _) _ fun H2 e2 => ⟨wl, m, rfl, D1.well.same e2, m0, m1, fun d H3 d0 d1 D3 => q d H3 ⟨d0, d1⟩ ((Drawn.ex D1.well e2).trans D3)⟩⟩
theorem dw_pick {ns : List Int} {ta : TA} {m : Int} {i : Nat} (h : σ[i]? = some (some (.ref wl))) (ha : ∀ H1, Drawn wl H H1 → EvA ta σ H1 (iL ns)) (hm : m = (ns.length : Int)) (h0 : 0 < ns.length) (hl : ns.length ≤ 1000) :
    Dw (tOp (rIxL K) (tLst ta) (tCall spDraw [] E (tCons (tVar i) (tCons (tC (.int m)) tNil)))) σ wl H (fun n => n ∈ ns) := fun H1 D1 Q q =>
  ha H1 D1 H1 (Ex.refl _) _ fun H2 e2 => ⟨sz_of (by rw [iL_len]; omega), fun L hL => ⟨_, h, wl, m, rfl, (D1.well.same e2).same (same_upd hL), by omega, by omega, fun d H3 d0 d1 D3 => by
    have nL := (D1.well.same e2).ne hL
    have hd : d.toNat < ns.length := by omega
    have ed : d = ((d.toNat : Nat) : Int) := by omega
    have hx : atI (iL ns) d = some (.int ns[d.toNat]) := by
      have := atI_nat (iL_get (List.getElem?_eq_getElem hd))
      rw [← ed] at this
      exact this
    exact ⟨L, iL ns, d, _, rfl, rfl, SqL.of (D3.keep L _ nL upd_same), hx, q _ H3 (List.getElem_mem hd) (((Drawn.ex D1.well e2).new hL).trans D3)⟩⟩⟩
theorem dw_op1 {a : Int} {g : Int → Int → Int} (ha : ∀ H1, Drawn wl H H1 → Ev ta σ H1 (.int a)) (hb : Dw tb σ wl H S) (hT : ∀ n, S n → T (g a n)) : Dw (tOp (rI0 fun i j => .int (g i j)) ta tb) σ wl H T := fun H1 D1 Q q =>
  ha H1 D1 H1 (Ex.refl _) _ fun H2 e2 => hb H2 (D1.same e2) _ fun n H3 hn D3 => ⟨a, n, rfl, rfl, q _ H3 (hT n hn) ((Drawn.ex D1.well e2).trans D3)⟩
theorem Dw.imp (h : Dw te σ wl H S) (hT : ∀ n, S n → T n) : Dw te σ wl H T := fun H1 D1 Q q => h H1 D1 Q fun n H2 hn D2 => q n H2 (hT n hn) D2
theorem Dw.later {H1 : Hp} (h : Dw te σ wl H S) (D1 : Drawn wl H H1) : Dw te σ wl H1 S := fun H2 D2 Q q => h H2 (D1.trans D2) Q q
theorem q_asgD {i : Nat} (W : Well H wl) (h : Dw te σ wl H S) (k : ∀ n H1, S n → Drawn wl H H1 → tz D (σ.set i (some (.int n))) H1) : tSeq (tAsg te (gName i)) tz D σ H := h H (.refl W) _ k
theorem s_asgD {i : Nat} (W : Well H wl) (h : Dw te σ wl H S) (k : ∀ n H1, S n → Drawn wl H H1 → D.nx (σ.set i (some (.int n))) H1) : tAsg te (gName i) D σ H := h H (.refl W) _ k
theorem s_retD (W : Well H wl) (h : Dw te σ wl H S) (k : ∀ n H1, S n → Drawn wl H H1 → D.rt (.int n) H1) : tRet te D σ H := h H (.refl W) _ k
/-- a test that may draw -/
def DwT (t : TT) (σ : L2.St) (wl : Addr) (H : Hp) (S : Bool → Prop) : Prop := ∀ H1, Drawn wl H H1 → ∀ Q : Bool → Hp → Prop, (∀ b H2, S b → Drawn wl H1 H2 → Q b H2) → t σ H1 Q
theorem dwt_cmp {g : Int → Int → Bool} {c : Int} {U : Bool → Prop} (h : Dw ta σ wl H S) (hU : ∀ n, S n → U (g n c)) : DwT (tTest (tOp (rI0 fun i j => .bl (g i j)) ta (tC (.int c)))) σ wl H U := fun H1 D1 Q q =>
  h H1 D1 _ fun n H2 hn D2 => ⟨n, c, rfl, rfl, _, rfl, q _ H2 (hU n hn) D2⟩
theorem dwt_eq {c : Int} {U : Bool → Prop} (h : Dw ta σ wl H S) (hU : ∀ n, S n → U (decide (n = c))) : DwT (tTest (tOp rEq ta (tC (.int c)))) σ wl H U := fun H1 D1 Q q =>
  h H1 D1 _ fun n H2 hn D2 => ⟨rfl, _, rfl, q _ H2 (by
    have e : decide (V.int n = V.int c) = decide (n = c) := decide_eq_decide.mpr ⟨fun h => V.int.inj h, fun h => congrArg V.int h⟩
    rw [e]
    exact hU n hn) D2⟩
theorem q_whenD {U : Bool → Prop} (W : Well H wl) (h : DwT tt σ wl H U) (h1 : U true → ∀ H1, Drawn wl H H1 → tu { D with nx := tz D } σ H1) (h2 : U false → ∀ H1, Drawn wl H H1 → tz D σ H1) : tSeq (tIfS tt tu tNext) tz D σ H := h H (.refl W) _ fun b H1 hb D1 => by
  cases b with
  | true =>
    show tu { D with nx := tz D } σ H1
    exact h1 hb H1 D1
  | false =>
    show tz D σ H1
    exact h2 hb H1 D1
theorem dec_vi {n c : Int} : decide (V.int n = V.int c) = decide (n = c) := decide_eq_decide.mpr ⟨fun h => V.int.inj h, fun h => congrArg V.int h⟩
end
section
variable {P : Program} {w : World} {K : PySem.W.Frag} {mg : Str → Option Value} {base : Heap} {fD : Addr} {dD : FuncData}
/-! ### the hat -/
def spHat : Sp := fun vs H Q _ => ∃ (c k : Int), vs = [.int c, .int k] ∧ 0 ≤ k ∧ ∀ (wl : Addr) (H' : Hp), H wl = none → Same H H' → Well H' wl → Q (.ref wl) H'
theorem scHat : FnScope ["cell", "k", "wide", "number"] ["cell", "k"] (defScope lHat) := ⟨rfl, rfl, rfl, by decide +kernel, rfl, by decide +kernel, by decide +kernel⟩
theorem rv_powN {H : Hp} {i j : Int} (h : CPow i j) : RV (rI CPow fun i j => .int (i ^ j.toNat)) (.int i) (.int j) H (.int (i ^ j.toNat)) := fun H1 _ Q q => ⟨i, j, rfl, rfl, h, q H1 (Ex.refl H1)⟩
theorem ok_hat {f : Addr} {fd : FuncData} (F : Fun K "_law_hat" "_law_hat" lHat f fd) (B : Bt mg) : FnOk P w K mg base CX0 1 f fd ["cell", "k"] spHat := by
  refine F.ok scHat (fun vs H Q E h => ?_) (fun cdv A outer s H vs Q E hr h => ?_)
  · obtain ⟨c, k, rfl, _⟩ := h
    rfl
  obtain ⟨c, j, rfl, j0, k⟩ := h
  have hI := B.b_int
  refine ⟨_, pss_cons (ps_set (i := 2) scHat.nd rfl (.inl rfl) (pe_op op_mulW (pe_op op_mulW (pe_op op_mulW (pe_op op_pow pe_int pe_int) (pe_op op_pow pe_int pe_int)) (pe_op op_pow pe_int pe_int)) (pe_op op_pow pe_int pe_int)))
    (pss_cons (ps_set (i := 3) scHat.nd rfl (.inl rfl) (pe_op op_modN (pe_callTy call_int1 (by rfl) hI boot_int2 (pa_cons (pv 0) pa_nil)) (pv 2)))
    (pss_cons (ps_if (pt_cmpR op_ge (pv 3) (pe_op op_pow pe_int pe_int) (nomark _)) (pss_one (ps_ret (pe_lst (pa_cons (pv 3) (pa_cons (pe_op op_add (pe_op op_modN (pe_callTy call_int1 (by rfl) hI boot_int2 (pa_cons (pv 3) pa_nil)) pe_int) (pv 1)) pa_nil))))) pss_nil)
    (pss_one (ps_ret (pe_lst (pa_cons pe_int (pa_cons (pe_op op_modN (pe_op op_add (pe_op op_add (pe_op op_mul (pe_op op_modN (pe_callTy call_int1 (by rfl) hI boot_int2 (pa_cons (pv 3) pa_nil)) pe_int) pe_int) (pe_op op_mul pe_int (pv 1))) pe_int) pe_int) pa_nil))))))), ?_⟩
  have c64 : CPow 10 64 := ⟨by decide, by decide, by decide⟩
  have n1 : ((10 : Int) ^ (64 : Int).toNat).natAbs < 2 ^ 213 := by decide +kernel
  have n2 : ((10 : Int) ^ (64 : Int).toNat * 10 ^ (64 : Int).toNat).natAbs < 2 ^ 426 := by decide +kernel
  have n3 : ((10 : Int) ^ (64 : Int).toNat * 10 ^ (64 : Int).toNat * 10 ^ (64 : Int).toNat).natAbs < 2 ^ 640 := by decide +kernel
  have n4 : (0 : Int) < 10 ^ (64 : Int).toNat * 10 ^ (64 : Int).toNat * 10 ^ (64 : Int).toNat * 10 ^ (64 : Int).toNat := by decide +kernel
  refine q_asg (ev_op (ev_op (ev_op (ev_op ev_c ev_c (rv_powN c64)) (ev_op ev_c ev_c (rv_powN c64)) (rv_mulW n1 n1 (by decide) (by decide) (by decide))) (ev_op ev_c ev_c (rv_powN c64)) (rv_mulW n2 n1 (by decide) (by decide) (by decide))) (ev_op ev_c ev_c (rv_powN c64)) (rv_mulW n3 n1 (by decide) (by decide) (by decide))) fun H1 e1 => ?_
  generalize (10 : Int) ^ (64 : Int).toNat * 10 ^ (64 : Int).toNat * 10 ^ (64 : Int).toNat * 10 ^ (64 : Int).toNat = wide at n4
  refine q_asg (ev_op (ev_int1 (ev_var rfl)) (ev_var rfl) (rv_modN (by omega))) fun H2 e2 => ?_
  have b1 := (fmod_lt (a := c) n4).1
  generalize c.fmod wide = n at b1
  have E2 := e1.trans e2
  refine q_when (b := decide ((10 : Int) ^ (18 : Int).toNat ≤ n)) (et_test (ev_op (ev_var rfl) (ev_op ev_c ev_c (rv_powN ⟨by decide, by decide, by decide⟩)) rv_I0)) (fun q H3 e3 => ?_) (fun q H3 e3 => ?_)
  · have b2 := fmod_lt (a := n) (b := 2147483563) (by decide)
    exact s_retL (el_lst (ea_cons (ev_var rfl) (ea_cons (ev_op (ev_op (ev_int1 (ev_var rfl)) ev_c (rv_modN (by decide))) (ev_var rfl) rv_I0) ea_nil)) (by show (2 : Nat) ≤ 100000; decide)) fun p H4 hp e4 h4 => k p H4 (fresh_back (E2.trans e3) hp) ((E2.trans e3).trans e4) ⟨_, _, h4, b1, by omega⟩
  · have b2 := fmod_lt (a := n.fmod 2147483647 * 48271 + 7919 * j + 1) (b := 2147483647) (by decide)
    have b3 := fmod_lt (a := n) (b := 2147483647) (by decide)
    exact s_retL (el_lst (ea_cons ev_c (ea_cons (ev_op (ev_op (ev_op (ev_op (ev_op (ev_int1 (ev_var rfl)) ev_c (rv_modN (by decide))) ev_c (rv_mul2 (by decide) (by decide))) (ev_op ev_c (ev_var rfl) (rv_mul1 (by decide) (by decide))) rv_I0) ev_c rv_I0) ev_c (rv_modN (by decide))) ea_nil)) (by show (2 : Nat) ≤ 100000; decide)) fun p H4 hp e4 h4 => k p H4 (fresh_back (E2.trans e3) hp) ((E2.trans e3).trans e4) ⟨_, _, h4, by decide, b2.1⟩
/-! ### _law_same of what is alike -/
def pSame (n : Nat) (vs : List V) (H : Hp) (r : V) : Prop := (∃ i : Int, vs = [.int i, .int i] ∧ r = .bl true) ∨ (n = 1 ∧ ∃ (t u : Addr) (xs : List Int), vs = [.ref t, .ref u] ∧ H t = some (.tup (iL xs)) ∧ H u = some (.tup (iL xs)) ∧ xs.length ≤ 1000 ∧ r = .bl true)
def pPrev : Nat → List V → Hp → V → Prop
  | 0 => fun _ _ _ => False
  | n + 1 => pSame n
theorem scSame : FnScope ["actual", "due", "one", "other"] ["actual", "due"] (defScope lSame) := ⟨rfl, rfl, rfl, by decide +kernel, rfl, by decide +kernel, by decide +kernel⟩
theorem ok_sameN {f : Addr} {fd : FuncData} (D : Df K mg "_law_same" lSame ["actual", "due"] f fd) (B : Bt mg) (n : Nat) (G : FnOk P w K mg base CX0 n f fd ["actual", "due"] (spFn (pPrev n))) : FnOk P w K mg base CX0 (n + 1) f fd ["actual", "due"] (spFn (pSame n)) := by
  refine D.F.ok scSame (lenF (by rintro _ _ _ (⟨i, rfl, _⟩ | ⟨_, t, u, xs, rfl, _⟩) <;> rfl)) (fun cdv A outer s H vs Q E hr h => ?_)
  obtain ⟨r, h, k⟩ := h
  refine ⟨_, pss_cons (ps_if (pt_val (pe_callB call_isi (by rfl) B.b_isinstance boot_isi' (pa_cons (pv 1) (pa_cons (pe_bltn (by rfl) B.b_tuple boot_tuple' (show RelV (.ty "tuple") (.type "tuple") from rfl)) pa_nil))))
      (pss_cons (ps_if (PW.pt (pw_or (pt_not (pt_val (pe_callB call_isi (by rfl) B.b_isinstance boot_isi' (pa_cons (pv 0) (pa_cons (pe_bltn (by rfl) B.b_tuple boot_tuple' (show RelV (.ty "tuple") (.type "tuple") from rfl)) pa_nil)))))
          (pw_or1 (pt_cmpR op_ne (pe_callB call_len_seq (by rfl) B.b_len PySem.boot_len (pa_cons (pv 0) pa_nil)) (pe_callB call_len_seq (by rfl) B.b_len PySem.boot_len (pa_cons (pv 1) pa_nil)) (nomark _))))) (pss_one (ps_ret pe_bl)) pss_nil)
      (pss_cons (ps_for PassesOwn.never rfl (RZ.pi_zipA (by rfl) B.b_zip (pa_cons (pv 0) (pa_cons (pv 1) pa_nil))) (pg_tup rfl (pgs_cons (pg_name (i := 2) scSame.nd rfl (.inl rfl)) (pgs_cons (pg_name (i := 3) scSame.nd rfl (.inl rfl)) pgs_nil)))
        (pss_one (ps_if (pt_not (pt_val (pe_call G hr (by rfl) D.g D.F.kp D.b .nil pass0 (pa_cons (pv 2) (pa_cons (pv 3) pa_nil))))) (pss_one (ps_ret pe_bl)) pss_nil)))
      (pss_one (ps_ret pe_bl)))) pss_nil)
    (pss_cons (ps_if (pt_cmpR op_isN1 (pv 1) pe_non (nomark _)) (pss_one (ps_ret (pe_cmpR op_isN1 (pv 0) pe_non (nomark _)))) pss_nil)
    (pss_cons (ps_if (pt_val (pe_callB call_isi (by rfl) B.b_isinstance boot_isi' (pa_cons (pv 1) (pa_cons (pe_bltn (by rfl) B.b_str boot_str' (show RelV (.ty "str") (.type "str") from rfl)) pa_nil))))
      (pss_one ps_dead) pss_nil)
    (pss_one (ps_ret (pe_and (pe_callB call_isi (by rfl) B.b_isinstance boot_isi' (pa_cons (pv 0) (pa_cons (pe_bltn (by rfl) B.b_int boot_int2 (show RelV (.ty "int") (.type "int") from rfl)) pa_nil)))
      (pe_and (pe_not (pe_callB call_isi (by rfl) B.b_isinstance boot_isi' (pa_cons (pv 0) (pa_cons (pe_bltn (by rfl) B.b_bool boot_bool' (show RelV (.ty "bool") (.type "bool") from rfl)) pa_nil)))) (pe_one (pe_cmpR op_eq (pv 0) (pv 1) (nomark _))))))))), ?_⟩
  rcases h with ⟨i, rfl, rfl⟩ | ⟨rfl, t, u, xs, rfl, ht, hu, hl, rfl⟩
  · refine q_when (b := false) (et_B (ev_isi0 (ev_var rfl) kit_it)) (fun q => by cases q) (fun q H1 e1 => ?_)
    refine q_when (b := false) (et_test (ev_op (ev_var rfl) ev_c fun H2 _ Q q => ⟨rfl, q H2 (Ex.refl H2)⟩)) (fun q => by cases q) (fun q H2 e2 => ?_)
    refine q_when (b := false) (et_B (ev_isi0 (ev_var rfl) kit_is')) (fun q => by cases q) (fun q H3 e3 => ?_)
    exact s_ret (ev_is (ev_andV (ev_isi0 (ev_var rfl) kit_ii) fun _ => ev_andV (ev_notV (ev_isi0 (ev_var rfl) kit_ib)) fun _ => ev_op (ev_var rfl) (ev_var rfl) (rv_eq rfl)) (congrArg V.bl (by rw [decide_eq_true rfl]; rfl))) fun H4 e4 => k H4 (((e1.trans e2).trans e3).trans e4)
  · refine q_when (b := true) (et_B (ev_isit (ev_var rfl) hu kit_tt)) (fun q H1 e1 => ?_) (fun q => by cases q)
    have ht1 := e1 _ _ ht
    have hu1 := e1 _ _ hu
    refine q_when (b := !true || false) (et_or (et_not (et_B (ev_isit (ev_var rfl) ht1 kit_tt))) fun _ => et_is (et_test (ev_op (ev_lenT (ev_var rfl) ht1) (ev_lenT (ev_var rfl) hu1) (rv_ne rfl))) (by rw [decide_eq_true rfl]; rfl)) (fun q => by cases q) (fun q H2 e2 => ?_)
    have E2 := e1.trans e2
    refine ⟨_, rfl, _, rfl, t, u, iL xs, iL xs, rfl, .inr ⟨st_of (E2 _ _ ht), st_of (E2 _ _ hu), RZ.for_zipT rfl (fun i σ' H' => (∃ x2 x3, σ' = [some (.ref t), some (.ref u), x2, x3]) ∧ Ex H H') ⟨⟨none, none, rfl⟩, E2⟩ (fun i σ' H' h => ⟨st_of (h.2 _ _ ht), st_of (h.2 _ _ hu)⟩) ?_ ?_⟩⟩
    · rintro i x y T σ' H3 hx hy ⟨⟨x2, x3, rfl⟩, e3⟩ hT
      rw [hx] at hy
      cases hy
      obtain ⟨c, hc, rfl⟩ := iL_of hx
      have e4 : Ex H3 (upd H3 T (.tup [.int c, .int c])) := Ex.new hT
      refine ⟨T, _, rfl, st_of upd_same, rfl, .int c, _, rfl, .int c, _, rfl, rfl, ?_⟩
      exact s_when (b := !true) (et_not (et_B (ev_fn (p := pPrev 1) (v := .bl true) (ea_cons (ev_var rfl) (ea_cons (ev_var rfl) ea_nil)) fun H5 e5 => .inl ⟨c, rfl, rfl⟩))) (fun q => by cases q) fun q H5 e5 => ⟨⟨_, _, rfl⟩, (e3.trans e4).trans e5⟩
    · rintro σ' H3 ⟨⟨x2, x3, rfl⟩, e3⟩
      exact k H3 e3
theorem ok_same {f : Addr} {fd : FuncData} (D : Df K mg "_law_same" lSame ["actual", "due"] f fd) (B : Bt mg) : FnOk P w K mg base CX0 2 f fd ["actual", "due"] (spFn (pSame 1)) :=
  ok_sameN D B 1 (ok_sameN D B 0 ⟨fun _ _ _ _ ⟨_, h, _⟩ => h.elim, fun _ _ _ _ _ _ _ _ _ _ _ _ _ ⟨_, h, _⟩ => h.elim⟩)
end
end Hv
/-! k40: _law_number, _law_prime, _law_lot, _law_places -/
namespace Hv
open PySem PySem.Spec PyProof.Rows L2 Evl
abbrev lLot : Stmt := topS 47
abbrev lPlaces : Stmt := topS 48
section
variable {σ : L2.St} {H : Hp} {wl : Addr} {K : PySem.W.Frag} {te ta tb : TE} {D : Ends} {v : V}
theorem ev_min {i j : Int} (ha : Ev ta σ H (.int i)) (hb : Ev tb σ H (.int j)) : Ev (tCB (fun xs H Q => ∃ i j, xs = [V.int i, .int j] ∧ Q (.int (if j < i then j else i)) H) (tCons ta (tCons tb tNil))) σ H (.int (if j < i then j else i)) :=
  ev_cb (ea_cons ha (ea_cons hb ea_nil)) fun H1 _ Q q => ⟨i, j, rfl, q H1 (Ex.refl H1)⟩
/-- what is barred: a tuple of integers, or the empty list -/
def Bar (H : Hp) (b : Addr) (bs : List Int) : Prop := H b = some (.tup (iL bs)) ∨ (H b = some (.lst []) ∧ bs = [])
theorem Bar.ne {b : Addr} {bs : List Int} (h : Bar H b bs) (W : Well H wl) : b ≠ wl := fun e => by
  obtain ⟨x, y, h1, _⟩ := W
  subst e
  rcases h with h | ⟨h, _⟩ <;> rw [h1] at h <;> cases h
theorem Bar.keep {b : Addr} {bs : List Int} {H1 : Hp} (h : Bar H b bs) (W : Well H wl) (D : Drawn wl H H1) : Bar H1 b bs := by
  have n := h.ne W
  rcases h with h | ⟨h, e⟩
  · exact .inl (D.keep b _ n h)
  · exact .inr ⟨D.keep b _ n h, e⟩
theorem Bar.ex {b : Addr} {bs : List Int} {H1 : Hp} (h : Bar H b bs) (e : Ex H H1) : Bar H1 b bs := by
  rcases h with h | ⟨h, q⟩
  · exact .inl (e _ _ h)
  · exact .inr ⟨e _ _ h, q⟩
theorem ev_notBar {b : Addr} {bs : List Int} {n : Int} (h : Bar H b bs) (ha : Ev ta σ H (.int n)) (hb : Ev tb σ H (.ref b)) : Ev (tOp (rIn K true) ta tb) σ H (.bl (!decide (n ∈ bs))) := by
  rcases h with h | ⟨h, rfl⟩
  · exact ev_is (ev_op ha hb (rv_niT (st_of h) rfl (iL_flat _))) (congrArg V.bl (by rw [inV_iL]))
  · exact ev_is (ev_op ha hb (rv_niL (xs := []) (sq_of h) rfl rfl)) (congrArg V.bl (by simp [inV]))
theorem ev_notL {b : Addr} {bs : List Int} {n : Int} (h : H b = some (.lst (iL bs))) (ha : Ev ta σ H (.int n)) (hb : Ev tb σ H (.ref b)) : Ev (tOp (rIn K true) ta tb) σ H (.bl (!decide (n ∈ bs))) :=
  ev_is (ev_op ha hb (rv_niL (sq_of h) rfl (iL_flat _))) (congrArg V.bl (by rw [inV_iL]))
theorem s_setD {d : Addr} {kvs : List (Key × V)} {n : Int} (hl : H d = some (.dK kvs)) (h : Ev te σ H v) (ho : Ev ta σ H (.ref d)) (hi : Ev tb σ H (.int n)) (hj : kvs.length < 100000) (k : ∀ H1, Ex H H1 → D.nx σ (upd H1 d (.dK (putK kvs (.inl n) v)))) : tAsg te (gSub ta tb rSetD) D σ H :=
  h H (Ex.refl H) _ fun H1 e => ho H1 e _ fun H2 e2 => hi H2 (e.trans e2) _ fun H3 e3 => ⟨d, _, rfl, DPut.k (k := .inl n) (((e.trans e2).trans e3) _ _ hl) (sz_lt hj), k H3 ((e.trans e2).trans e3)⟩
end
def mkD (ks : List Int) : List (Key × V) := ks.map fun k => ((.inl k : Key), V.bl true)
theorem putK_mk (ks : List Int) (n : Int) : putK (mkD ks) (.inl n) (.bl true) = mkD (if n ∈ ks then ks else ks ++ [n]) := by
  unfold putK
  by_cases h : n ∈ ks
  · rw [if_pos h, if_pos]
    · unfold mkD
      rw [List.map_map]
      refine List.map_congr_left fun x _ => ?_
      show (if (Sum.inl x : Key) = .inl n then ((Sum.inl x : Key), V.bl true) else ((Sum.inl x : Key), V.bl true)) = _
      split <;> rfl
    · refine List.any_eq_true.mpr ⟨(.inl n, .bl true), List.mem_map.mpr ⟨n, h, rfl⟩, ?_⟩
      exact decide_eq_true rfl
  · rw [if_neg h, if_neg]
    · unfold mkD
      rw [List.map_append]
      rfl
    · intro q
      obtain ⟨x, hx, e⟩ := List.any_eq_true.mp q
      obtain ⟨k, hk, rfl⟩ := List.mem_map.mp hx
      have e := of_decide_eq_true e
      injection e with e
      exact h (e ▸ hk)
theorem mkD_keys (ks : List Int) : ((mkD ks).map fun kv => kV kv.1) = iL ks := by
  unfold mkD
  rw [List.map_map]
  rfl
theorem mkD_len (ks : List Int) : (mkD ks).length = ks.length := List.length_map ..
section
variable {P : Program} {w : World} {K : PySem.W.Frag} {mg : Str → Option Value} {base : Heap} {fD : Addr} {dD : FuncData}
/-! ### _law_number -/
def spNum : Sp := fun vs H Q _ => ∃ (wl : Addr) (p : Int), vs = [.ref wl, .int p] ∧ Well H wl ∧ 2 ≤ p ∧ p ≤ GP ∧ ∀ (n : Int) (H' : Hp), 0 ≤ n → n < p → Drawn wl H H' → Q (.int n) H'
theorem scNum : FnScope ["hat", "prime", "kind"] ["hat", "prime"] (defScope lNumber) := ⟨rfl, rfl, rfl, by decide +kernel, rfl, by decide +kernel, by decide +kernel⟩
theorem ok_number {f : Addr} {fd : FuncData} (F : Fun K "_law_number" "_law_number" lNumber f fd) (B : Bt mg) (D : Dd P w K mg base fD dD) : FnOk P w K mg base CX0 2 f fd ["hat", "prime"] spNum := by
  refine F.ok scNum (fun vs H Q E h => ?_) (fun cdv A outer s H vs Q E hr h => ?_)
  · obtain ⟨n, m, rfl, _⟩ := h
    rfl
  obtain ⟨wl, p, rfl, W, p2, pG, k⟩ := h
  refine ⟨_, pss_cons (ps_set (i := 2) scNum.nd rfl (.inl rfl) (pe_draw D hr (by decide) (by rfl) (pv 0) pe_int))
    (pss_cons (ps_if (pt_cmpR op_eq (pv 2) pe_int (nomark _)) (pss_one (ps_ret (pe_draw D hr (by decide) (by rfl) (pv 0) (pe_callB (call_min2 rfl) (by rfl) B.b_min boot_min' (pa_cons (pv 1) (pa_cons pe_int pa_nil)))))) pss_nil)
    (pss_cons (ps_if (pt_cmpR op_eq (pv 2) pe_int (nomark _)) (pss_one (ps_ret (pe_op op_sub (pe_op op_sub (pv 1) pe_int) (pe_draw D hr (by decide) (by rfl) (pv 0) (pe_callB (call_min2 rfl) (by rfl) B.b_min boot_min' (pa_cons (pv 1) (pa_cons pe_int pa_nil))))))) pss_nil)
    (pss_one (ps_ret (pe_draw D hr (by decide) (by rfl) (pv 0) (pv 1)))))), ?_⟩
  have hG : p < 2 ^ 90 := Int.lt_of_le_of_lt pG (by decide)
  refine q_asgD W (dw_draw rfl (fun _ _ => ev_c) (by decide) (by decide)) fun d H1 _ D1 => ?_
  refine q_when (et_test (ev_op (ev_var rfl) ev_c (rv_eq rfl))) (fun q H2 e2 => ?_) (fun q H2 e2 => ?_)
  · have D2 := D1.same e2
    exact s_retD D2.well (dw_draw (m := if (12 : Int) < p then 12 else p) rfl (fun H3 _ => ev_min (ev_var rfl) ev_c) (by split <;> omega) (by split <;> omega)) fun n H3 hn D3 => k n H3 hn.1 (by have := hn.2; split at this <;> omega) (D2.trans D3)
  · refine q_when (et_test (ev_op (ev_var rfl) ev_c (rv_eq rfl))) (fun q H3 e3 => ?_) (fun q H3 e3 => ?_)
    · have D2 := D1.same (e2.trans e3)
      refine s_retD D2.well (dw_op1 (a := p - 1) (T := fun n => 0 ≤ n ∧ n < p) (fun H3 _ => ev_op (ev_var rfl) ev_c rv_I0) (dw_draw (m := if (8 : Int) < p then 8 else p) rfl (fun H3 _ => ev_min (ev_var rfl) ev_c) (by split <;> omega) (by split <;> omega)) fun n hn => ?_) fun n H3 hn D3 => k n H3 hn.1 hn.2 (D2.trans D3)
      have h1 := hn.1
      have h2 := hn.2
      split at h2 <;> omega
    · have D2 := D1.same (e2.trans e3)
      exact s_retD D2.well (dw_draw (m := p) rfl (fun H3 _ => ev_var rfl) (by omega) hG) fun n H3 hn D3 => k n H3 hn.1 hn.2 (D2.trans D3)
/-! ### _law_prime -/
def spPrime : Sp := fun vs H Q _ => ∃ wl : Addr, vs = [.ref wl] ∧ Well H wl ∧ ∀ (p : Int) (H' : Hp), PrP p → Drawn wl H H' → Q (.int p) H'
theorem scLPrime : FnScope ["hat", "kind", "number", "divisor"] ["hat"] (defScope lPrime) := ⟨rfl, rfl, rfl, by decide +kernel, rfl, by decide +kernel, by decide +kernel⟩
theorem noDiv_of {p : Int} (h : ∀ i : Nat, i < 98 → (2 : Int) + (i : Int) < p → p.fmod (2 + (i : Int)) ≠ 0) : noDiv p := fun d d0 d1 d2 => by
  have := h (d - 2).toNat (by omega) (by omega)
  rw [show (2 : Int) + ((d - 2).toNat : Int) = d by omega] at this
  exact this
theorem pr_small1 : ∀ n ∈ ([2, 3, 5, 7, 11] : List Int), PrP n := by
  have h : ∀ n ∈ ([2, 3, 5, 7, 11] : List Int), (2 ≤ n ∧ n < 10000) ∧ ∀ i : Nat, i < 98 → (2 : Int) + (i : Int) < n → n.fmod (2 + (i : Int)) ≠ 0 := by decide +kernel
  exact fun n hn => .inr ⟨(h n hn).1.1, (h n hn).1.2, noDiv_of (h n hn).2⟩
theorem pr_small2 : ∀ n ∈ ([97, 9973] : List Int), PrP n := by
  have h : ∀ n ∈ ([97, 9973] : List Int), (2 ≤ n ∧ n < 10000) ∧ ∀ i : Nat, i < 98 → (2 : Int) + (i : Int) < n → n.fmod (2 + (i : Int)) ≠ 0 := by decide +kernel
  exact fun n hn => .inr ⟨(h n hn).1.1, (h n hn).1.2, noDiv_of (h n hn).2⟩
theorem great_eq : (2 : Int) ^ (64 : Int).toNat * 2 ^ (25 : Int).toNat - 1 = GP := by decide +kernel
theorem ok_prime {f : Addr} {fd : FuncData} (F : Fun K "_law_prime" "_law_prime" lPrime f fd) (B : Bt mg) (D : Dd P w K mg base fD dD) : FnOk P w K mg base CX0 2 f fd ["hat"] spPrime := by
  refine F.ok scLPrime (fun vs H Q E h => ?_) (fun cdv A outer s H vs Q E hr h => ?_)
  · obtain ⟨n, rfl, _⟩ := h
    rfl
  obtain ⟨wl, rfl, W, k⟩ := h
  refine ⟨_, pss_cons (ps_set (i := 1) scLPrime.nd rfl (.inl rfl) (pe_draw D hr (by decide) (by rfl) (pv 0) pe_int))
    (pss_cons (ps_if (pt_cmpR op_eq (pv 1) pe_int (nomark _)) (pss_one (ps_ret (pe_ix ix_list (pe_lst (pa_cons pe_int (pa_cons pe_int (pa_cons pe_int (pa_cons pe_int (pa_cons pe_int pa_nil)))))) (pe_draw D hr (by decide) (by rfl) (pv 0) pe_int) (fun _ _ => rfl)))) pss_nil)
    (pss_cons (ps_if (pt_cmpR op_eq (pv 1) pe_int (nomark _)) (pss_one (ps_ret (pe_ix ix_list (pe_lst (pa_cons pe_int (pa_cons pe_int pa_nil))) (pe_draw D hr (by decide) (by rfl) (pv 0) pe_int) (fun _ _ => rfl)))) pss_nil)
    (pss_cons (ps_if (pt_cmpR op_lt (pv 1) pe_int (nomark _)) (pss_one (ps_ret (pe_op op_sub (pe_op op_mulW (pe_op op_pow pe_int pe_int) (pe_op op_pow pe_int pe_int)) pe_int))) pss_nil)
    (pss_cons (ps_for PassesOwn.never rfl (pi_range3 (by rfl) B.b_range (pa_cons (pe_op op_add pe_int (pe_draw D hr (by decide) (by rfl) (pv 0) pe_int)) (pa_cons pe_int (pa_cons (pe_un un_neg pe_int) pa_nil)))) (pg_name (i := 2) scLPrime.nd rfl (Or.inr rfl))
      (pss_one (ps_if (pt_val (pe_callB (cr_all rfl) (by rfl) B.b_all boot_all' (pa_cons (pe_lc (own := [("divisor", 3)]) (g := gName 3) rfl scLPrime.nd (pi_range2 (by rfl) B.b_range (pa_cons pe_int (pa_cons pe_int pa_nil))) (blkOk_by (N := ["hat", "kind", "number", "divisor"]) (sc := defScope lPrime) (by decide +kernel))
        (fun _ _ _ _ _ => pg_name (i := 3) scLPrime.nd rfl (Or.inl rfl)) (fun _ _ _ _ _ => pts_one (pt_cmpR op_lt (pv 3) (pv 2) (nomark _))) (fun _ _ _ _ _ => pe_cmpR op_ne (pe_op op_modN (pv 2) (pv 3)) pe_int (nomark _))) pa_nil))) (pss_one (ps_ret (pv 2))) pss_nil)))
    (pss_one (ps_ret pe_int)))))), ?_⟩
  refine q_asgD W (dw_draw rfl (fun _ _ => ev_c) (by decide) (by decide)) fun d H1 _ D1 => ?_
  refine q_when (et_test (ev_op (ev_var rfl) ev_c (rv_eq rfl))) (fun q H2 e2 => ?_) (fun q H2 e2 => ?_)
  · have D2 := D1.same e2
    exact s_retD D2.well (dw_pick (ns := [2, 3, 5, 7, 11]) rfl (fun H3 _ => ea_cons ev_c (ea_cons ev_c (ea_cons ev_c (ea_cons ev_c (ea_cons ev_c ea_nil))))) rfl (by decide) (by decide)) fun n H3 hn D3 => k n H3 (pr_small1 n hn) (D2.trans D3)
  refine q_when (et_test (ev_op (ev_var rfl) ev_c (rv_eq rfl))) (fun q H3 e3 => ?_) (fun q H3 e3 => ?_)
  · have D2 := D1.same (e2.trans e3)
    exact s_retD D2.well (dw_pick (ns := [97, 9973]) rfl (fun H3 _ => ea_cons ev_c (ea_cons ev_c ea_nil)) rfl (by decide) (by decide)) fun n H3 hn D3 => k n H3 (pr_small2 n hn) (D2.trans D3)
  have D3 := D1.same (e2.trans e3)
  refine q_when (et_test (ev_op (ev_var rfl) ev_c rv_I0)) (fun q H4 e4 => ?_) (fun q H4 e4 => ?_)
  · have D4 := D3.same e4
    have n1 : ((2 : Int) ^ (64 : Int).toNat).natAbs < 2 ^ 65 := by decide +kernel
    have n2 : ((2 : Int) ^ (25 : Int).toNat).natAbs < 2 ^ 26 := by decide +kernel
    exact s_ret (ev_is (ev_op (ev_op (ev_op ev_c ev_c (rv_powN ⟨by decide, by decide, by decide⟩)) (ev_op ev_c ev_c (rv_powN ⟨by decide, by decide, by decide⟩)) (rv_mulW n1 n2 (by decide) (by decide) (by decide))) ev_c rv_I0) (congrArg V.int great_eq)) fun H5 e5 => k GP H5 (.inl rfl) (D4.same e5)
  have D4 := D3.same e4
  refine ⟨_, rfl, wl, 9972, rfl, D4.well, by decide, by decide, fun m H5 m0 m1 D5 => ⟨2, m, rfl, rfl, 1, rfl, 2 + m, 1, -1, (2 + m - 1).toNat, rfl, RgC.neg (by omega) (by omega) (by decide) (by decide), ?_⟩⟩
  refine for_it walk_rangeC (fun i σ' H' => (∃ x2, σ' = [some (.ref wl), some (.int d), x2, none]) ∧ Drawn wl H H') ⟨⟨none, rfl⟩, D4.trans D5⟩ (fun _ _ _ _ _ => True.intro) ?_ ?_
  · rintro i x σ' H6 H6' hi ⟨⟨x2, rfl⟩, D6⟩ ⟨rfl, rfl⟩
    have e0 : (2 + m + ((i : Nat) : Int) * -1) = 2 + m - i := by omega
    show tIfS _ _ tNext _ [some (.ref wl), some (.int d), some (.int (2 + m + ((i : Nat) : Int) * -1)), none] H6'
    rw [e0]
    generalize hn : 2 + m - (i : Int) = n
    have n0 : 2 ≤ n := by omega
    have n1 : n < 10000 := by omega
    refine s_when (b := ((((List.range (101 - 2 : Int).toNat).filter fun (i : Nat) => decide ((2 : Int) + (i : Int) < n)).map fun (i : Nat) => !decide (V.int (n.fmod (2 + (i : Int))) = V.int 0))).all id) (et_B (ev_all (bs := (((List.range (101 - 2 : Int).toNat).filter fun (i : Nat) => decide ((2 : Int) + (i : Int) < n)).map fun (i : Nat) => !decide (V.int (n.fmod (2 + (i : Int))) = V.int 0))) ?_)) (fun q H7 e7 => ?_) (fun q H7 e7 => ⟨⟨_, rfl⟩, D6.same e7⟩)
    · rw [List.map_map]
      exact el_lcR2 (j := 3) (vs := [3]) (lo := 2) (n := 101) (fun (i : Nat) => decide ((2 : Int) + (i : Int) < n)) (fun (i : Nat) => .bl (!decide (V.int (n.fmod (2 + (i : Int))) = V.int 0))) (ea_cons ev_c (ea_cons ev_c ea_nil)) (by decide) (fun _ => rfl) (fun i hi => et_test (ev_op (x := .int (2 + (i : Int))) (y := .int n) (ev_var rfl) (ev_var rfl) rv_I0)) fun i hi hf =>
        ev_op (ev_op (ev_var rfl) (ev_var rfl) (rv_modN (by omega))) ev_c (rv_ne rfl)
    · refine s_ret (ev_var rfl) fun H8 e8 => k n H8 (.inr ⟨n0, n1, noDiv_of fun i hi hlt hz => ?_⟩) (D6.same (e7.trans e8))
      rw [List.all_map] at q
      have := List.all_eq_true.mp q i (List.mem_filter.mpr ⟨List.mem_range.mpr (by show i < 99; omega), decide_eq_true hlt⟩)
      have h2 : (!decide (V.int (n.fmod (2 + (i : Int))) = V.int 0)) = true := this
      rw [hz, decide_eq_true rfl] at h2
      cases h2
  · rintro σ' H6 ⟨⟨x2, rfl⟩, D6⟩
    exact k 2 H6 (pr_small1 2 (by decide)) D6
end
end Hv
/-! k40: _law_lot, _law_places -/
namespace Hv
open PySem PySem.Spec PyProof.Rows L2 Evl
theorem iL_snoc (ks : List Int) (n : Int) : iL (ks ++ [n]) = iL ks ++ [V.int n] := List.map_append ..
theorem q_asgC {σ : L2.St} {H : Hp} {ta : TA} {vs dvs : List V} {sp : Sp} {E : XK} {D : Ends} {tz : TS} {i : Nat} (h : EvA ta σ H vs) (hs : ∀ H1, Ex H H1 → sp (vs ++ dvs) H1 (fun v H2 => tz D (σ.set i (some v)) H2) E) : tSeq (tAsg (tCall sp dvs E ta) (gName i)) tz D σ H := h H (Ex.refl H) _ fun H1 e => hs H1 e
section
variable {P : Program} {w : World} {K : PySem.W.Frag} {mg : Str → Option Value} {base : Heap} {fD : Addr} {dD : FuncData}
def spLot : Sp := fun vs H Q _ => ∃ (wl b : Addr) (p m : Int) (bs : List Int), vs = [.ref wl, .int p, .int m, .ref b] ∧ Well H wl ∧ 2 ≤ p ∧ p ≤ GP ∧ 0 ≤ m ∧ m ≤ 200 ∧ Bar H b bs ∧ ∀ (t : Addr) (ns : List Int) (H' : Hp), Drawn wl H H' → H' t = some (.tup (iL ns)) → (ns.length : Int) ≤ m → below p ns → ns.Pairwise (· < ·) → (∀ n ∈ ns, n ∉ bs) → Q (.ref t) H'
theorem scLot : FnScope ["hat", "prime", "many", "barred", "found", "k", "number"] ["hat", "prime", "many", "barred"] (defScope lLot) := ⟨rfl, rfl, rfl, by decide +kernel, rfl, by decide +kernel, by decide +kernel⟩
theorem ok_lot {f fN : Addr} {fd dN : FuncData} (F : Fun K "_law_lot" "_law_lot" lLot f fd) (B : Bt mg) (DN : Df K mg "_law_number" lNumber ["hat", "prime"] fN dN) (D : Dd P w K mg base fD dD) : FnOk P w K mg base CX0 3 f fd ["hat", "prime", "many", "barred"] spLot := by
  have GN : FnOk P w K mg base CX0 2 fN dN ["hat", "prime"] spNum := ok_number DN.F B D
  refine F.ok scLot (fun vs H Q E h => ?_) (fun cdv A outer s H vs Q E hr h => ?_)
  · obtain ⟨wl, b, p, m, bs, rfl, _⟩ := h
    rfl
  obtain ⟨wl, b, p, m, bs, rfl, W, p2, pG, m0, m2, hb, k⟩ := h
  refine ⟨_, pss_cons (ps_set (i := 4) scLot.nd rfl (.inl rfl) pe_dnewK)
    (pss_cons (ps_for PassesOwn.never rfl (pi_range1 (by rfl) B.b_range (pa_cons (pv 2) pa_nil)) (pg_name (i := 5) scLot.nd rfl (Or.inl rfl))
      (pss_cons (ps_set (i := 6) scLot.nd rfl (.inl rfl) (pe_call GN (hr.mono (by decide)) (by rfl) DN.g DN.F.kp DN.b .nil pass0 (pa_cons (pv 0) (pa_cons (pv 1) pa_nil))))
      (pss_one (ps_if (pt_cmpR (show OpR _ _ (rIn K true) from op_notIn_seq) (pv 6) (pv 3) (by rfl)) (pss_one (ps_asg pe_bl (pg_sub (pv 4) (pv 6) (set_dict (by have := hr.units; exact Nat.lt_of_le_of_lt (Nat.add_le_add_left (by decide) _) this))))) pss_nil))))
    (pss_one (ps_ret (pe_callTy call_tuple_of (by rfl) B.b_tuple boot_tuple' (pa_cons (pe_callB cr_sortedI (by rfl) B.b_sorted boot_sorted' (pa_cons (pe_callTy (call_listD rfl) (by rfl) B.b_list boot_list' (pa_cons (pv 4) pa_nil)) pa_nil)) pa_nil))))), ?_⟩
  refine fun D' hD => ?_
  have nD := W.ne hD
  show tSeq _ _ _ [some (V.ref wl), some (.int p), some (.int m), some (.ref b), some (.ref D'), none, none] _
  refine q_forR1 (n := m) (ea_cons (ev_var rfl) ea_nil) ⟨m0, by omega⟩ (fun i σ' H' => ∃ (x5 x6 : Option V) (ks : List Int), σ' = [some (.ref wl), some (.int p), some (.int m), some (.ref b), some (.ref D'), x5, x6] ∧ Drawn wl H H' ∧ H' D' = some (.dK (mkD ks)) ∧ ks.length ≤ i ∧ ks.Nodup ∧ below p ks ∧ ∀ n ∈ ks, n ∉ bs) (fun H2 e2 => ⟨none, none, [], rfl, ((Drawn.refl W).new hD).same e2, e2 _ _ upd_same, Nat.le_refl _, List.nodup_nil, (fun _ h => (by cases h)), (fun _ h => (by cases h))⟩) ?_ ?_
  · rintro i σ' H2 hi ⟨x5, x6, ks, rfl, D2, h2, hl, hnd, hbl, hno⟩
    refine q_asgC (vs := [.ref wl, .int p]) (ea_cons (ev_var rfl) (ea_cons (ev_var rfl) ea_nil)) fun Hc ec => ⟨wl, p, rfl, D2.well.same ec, p2, pG, fun n H3 n0 n1 D3c => ?_⟩
    have D3 := (Drawn.ex D2.well ec).trans D3c
    have D23 := D2.trans D3
    have h3 : H3 D' = some (.dK (mkD ks)) := D3.keep D' _ nD h2
    show tIfS _ _ tNext _ [some (.ref wl), some (.int p), some (.int m), some (.ref b), some (.ref D'), some (.int (i : Int)), some (.int n)] H3
    refine s_when (b := !decide (n ∈ bs)) (et_test (ev_notBar (hb.keep W D23) (ev_var rfl) (ev_var rfl))) (fun q H4 e4 => ?_) (fun q H4 e4 => ⟨_, _, ks, rfl, D23.same e4, e4 _ _ h3, by omega, hnd, hbl, hno⟩)
    have q : n ∉ bs := by simpa using q
    refine s_setD (e4 _ _ h3) ev_c (ev_var rfl) (ev_var rfl) (by rw [mkD_len]; omega) fun H5 e5 => ⟨_, _, if n ∈ ks then ks else ks ++ [n], rfl, (D23.same (e4.trans e5)).put W hD, by rw [upd_same, putK_mk], ?_, ?_, ?_, ?_⟩
    · split
      · omega
      · rw [List.length_append, List.length_singleton]; omega
    · split
      · exact hnd
      · next hn =>
        rw [List.nodup_append]
        refine ⟨hnd, by simp, fun a ha c hc => ?_⟩
        rw [List.mem_singleton] at hc
        subst hc
        exact fun e => hn (e ▸ ha)
    · split
      · exact hbl
      · intro x hx
        rcases List.mem_append.mp hx with h | h
        · exact hbl x h
        · rw [List.mem_singleton] at h
          subst h
          exact ⟨n0, n1⟩
    · split
      · exact hno
      · intro x hx
        rcases List.mem_append.mp hx with h | h
        · exact hno x h
        · rw [List.mem_singleton] at h
          subst h
          exact q
  · rintro σ' H2 ⟨x5, x6, ks, rfl, D2, h2, hl, hnd, hbl, hno⟩
    refine ⟨_, rfl, D', mkD ks, rfl, .inl h2, fun p1 hp1 => ⟨p1, ks, rfl, SqL.of (by rw [upd_same, mkD_keys]), fun ns' q1 hperm hsort hq1 => ⟨q1, iL ns', rfl, .inl ⟨SqL.of upd_same, fun l hl1 => ?_⟩⟩⟩⟩
    have D3 := ((D2.new (o := .lst ((mkD ks).map fun kv => kV kv.1)) hp1).new (o := .lst (ns'.map V.int)) hq1).new (o := .tup (iL ns')) hl1
    have hn2 : ns'.Nodup := hperm.symm.nodup hnd
    have hpw : ns'.Pairwise (· < ·) := (hsort.and hn2).imp fun h => by
      have h1 := h.1
      have h2 := h.2
      omega
    exact k l ns' _ D3 upd_same (by rw [hperm.length_eq]; omega) (fun x hx => hbl x (hperm.mem_iff.mp hx)) hpw fun x hx => hno x (hperm.mem_iff.mp hx)
/-! ### places -/
def spPl : Sp := fun vs H Q _ => ∃ (wl b : Addr) (p m : Int), vs = [.ref wl, .int p, .int m, .ref b] ∧ Well H wl ∧ 2 ≤ p ∧ p ≤ GP ∧ 0 ≤ m ∧ m ≤ 64 ∧ Bar H b [] ∧ ∀ (t : Addr) (ns : List Int) (H' : Hp), Drawn wl H H' → H' t = some (.tup (iL ns)) → (ns.length : Int) ≤ m → below p ns → ns.Nodup → Q (.ref t) H'
theorem scPl : FnScope ["hat", "prime", "many", "barred", "found", "k", "place"] ["hat", "prime", "many", "barred"] (defScope lPlaces) := ⟨rfl, rfl, rfl, by decide +kernel, rfl, by decide +kernel, by decide +kernel⟩
theorem ok_places {f fN : Addr} {fd dN : FuncData} (F : Fun K "_law_places" "_law_places" lPlaces f fd) (B : Bt mg) (DN : Df K mg "_law_number" lNumber ["hat", "prime"] fN dN) (D : Dd P w K mg base fD dD) : FnOk P w K mg base CX0 3 f fd ["hat", "prime", "many", "barred"] spPl := by
  have GN : FnOk P w K mg base CX0 2 fN dN ["hat", "prime"] spNum := ok_number DN.F B D
  refine F.ok scPl (fun vs H Q E h => ?_) (fun cdv A outer s H vs Q E hr h => ?_)
  · obtain ⟨wl, b, p, m, rfl, _⟩ := h
    rfl
  obtain ⟨wl, b, p, m, rfl, W, p2, pG, m0, m2, hb, k⟩ := h
  refine ⟨_, pss_cons (ps_set (i := 4) scPl.nd rfl (.inl rfl) (pe_lst pa_nil))
    (pss_cons (ps_for PassesOwn.never rfl (pi_range1 (by rfl) B.b_range (pa_cons (pv 2) pa_nil)) (pg_name (i := 5) scPl.nd rfl (Or.inl rfl))
      (pss_cons (ps_set (i := 6) scPl.nd rfl (.inl rfl) (pe_call GN (hr.mono (by decide)) (by rfl) DN.g DN.F.kp DN.b .nil pass0 (pa_cons (pv 0) (pa_cons (pv 1) pa_nil))))
      (pss_one (ps_if (PW.pt (pw_and (pt_cmpR (show OpR _ _ (rIn K true) from op_notIn_seq) (pv 6) (pv 3) (by rfl)) (pw_and1 (pt_cmpR (show OpR _ _ (rIn K true) from op_notIn_seq) (pv 6) (pv 4) (by rfl)))))
        (pss_one (ps_expr (pe_bm PySem.F.plainAttrs_list PySem.F.slot_list_append PySem.F.type_list_append mt_append (pv 4) (pa_cons (pv 6) pa_nil)))) pss_nil))))
    (pss_one (ps_ret (pe_callTy call_tuple_of (by rfl) B.b_tuple boot_tuple' (pa_cons (pv 4) pa_nil))))), ?_⟩
  refine ⟨sz_of (show (0 : Nat) ≤ 100000 by decide), fun D' hD => ?_⟩
  have nD := W.ne hD
  show tSeq _ _ _ [some (V.ref wl), some (.int p), some (.int m), some (.ref b), some (.ref D'), none, none] _
  refine q_forR1 (n := m) (ea_cons (ev_var rfl) ea_nil) ⟨m0, by omega⟩ (fun i σ' H' => ∃ (x5 x6 : Option V) (ks : List Int), σ' = [some (.ref wl), some (.int p), some (.int m), some (.ref b), some (.ref D'), x5, x6] ∧ Drawn wl H H' ∧ H' D' = some (.lst (iL ks)) ∧ ks.length ≤ i ∧ ks.Nodup ∧ below p ks) (fun H2 e2 => ⟨none, none, [], rfl, ((Drawn.refl W).new hD).same e2, e2 _ _ upd_same, Nat.le_refl _, List.nodup_nil, (fun _ h => (by cases h))⟩) ?_ ?_
  · rintro i σ' H2 hi ⟨x5, x6, ks, rfl, D2, h2, hl, hnd, hbl⟩
    refine q_asgC (vs := [.ref wl, .int p]) (ea_cons (ev_var rfl) (ea_cons (ev_var rfl) ea_nil)) fun Hc ec => ⟨wl, p, rfl, D2.well.same ec, p2, pG, fun n H3 n0 n1 D3c => ?_⟩
    have D3 := (Drawn.ex D2.well ec).trans D3c
    have D23 := D2.trans D3
    have h3 : H3 D' = some (.lst (iL ks)) := D3.keep D' _ nD h2
    show tIfS _ _ tNext _ [some (.ref wl), some (.int p), some (.int m), some (.ref b), some (.ref D'), some (.int (i : Int)), some (.int n)] H3
    refine s_when (b := !decide (n ∈ ([] : List Int)) && !decide (n ∈ ks)) (et_and (et_test (ev_notBar (hb.keep W D23) (ev_var rfl) (ev_var rfl))) fun _ => et_test (ev_notL h3 (ev_var rfl) (ev_var rfl))) (fun q H4 e4 => ?_) (fun q H4 e4 => ⟨_, _, ks, rfl, D23.same e4, e4 _ _ h3, by omega, hnd, hbl⟩)
    have q : n ∉ ks := by simpa using q
    refine s_app (e4 _ _ h3) (ev_var rfl) (ev_var rfl) (by rw [iL_len]; omega) fun H5 e5 => ⟨_, _, ks ++ [n], rfl, (D23.same (e4.trans e5)).put W hD, by rw [upd_same, iL_snoc], ?_, ?_, ?_⟩
    · rw [List.length_append, List.length_singleton]; omega
    · rw [List.nodup_append]
      refine ⟨hnd, by simp, fun a ha c hc => ?_⟩
      rw [List.mem_singleton] at hc
      subst hc
      exact fun e => q (e ▸ ha)
    · intro x hx
      rcases List.mem_append.mp hx with h | h
      · exact hbl x h
      · rw [List.mem_singleton] at h
        subst h
        exact ⟨n0, n1⟩
  · rintro σ' H2 ⟨x5, x6, ks, rfl, D2, h2, hl, hnd, hbl⟩
    exact ⟨_, rfl, D', iL ks, rfl, .inl ⟨SqL.of h2, fun l hl1 => k l ks _ (D2.new hl1) upd_same (by omega) hbl hnd⟩⟩
end
end Hv
/-! k40: _law_product, _law_at -/
namespace Hv
open PySem PySem.Spec PyProof.Rows L2 Evl
abbrev lProduct : Stmt := topS 49
abbrev lAt : Stmt := topS 50
section
variable {σ : L2.St} {H : Hp} {K : PySem.W.Frag} {te ta tb : TE} {D : Ends} {v : V} {xs ys : List V}
theorem el_catLL (ha : EvL ta σ H xs) (hb : EvL tb σ H ys) (hl : xs.length + ys.length ≤ 100000) : EvL (tOp rCat ta tb) σ H (xs ++ ys) := fun H1 e Q q => ha H1 e _ fun p H2 hp e2 h2 => hb H2 (e.trans e2) _ fun p' H3 hp' e3 h3 =>
  ⟨p, p', xs, ys, rfl, rfl, e3 _ _ h2, h3, sz_of hl, fun r hr => q r _ (fresh_back (e2.trans e3) hr) ((e2.trans e3).trans (Ex.new hr)) upd_same⟩
theorem el_catLV {b : Addr} (ha : EvL ta σ H xs) (hb : Ev tb σ H (.ref b)) (hy : H b = some (.lst ys)) (hl : xs.length + ys.length ≤ 100000) : EvL (tOp rCat ta tb) σ H (xs ++ ys) := fun H1 e Q q => ha H1 e _ fun p H2 hp e2 h2 => hb H2 (e.trans e2) _ fun H3 e3 =>
  ⟨p, b, xs, ys, rfl, rfl, e3 _ _ h2, ((e.trans e2).trans e3) _ _ hy, sz_of hl, fun r hr => q r _ (fresh_back (e2.trans e3) hr) ((e2.trans e3).trans (Ex.new hr)) upd_same⟩
theorem eu_ofV {b : Addr} (hb : Ev tb σ H (.ref b)) (hy : H b = some (.lst ys)) : EvU (tCB (rTupOf K) (tCons tb tNil)) σ H ys := fun H1 e Q q => hb H1 e _ fun H2 e2 =>
  ⟨b, ys, rfl, .inl ⟨sq_of ((e.trans e2) _ _ hy), fun l hl => q l _ (fresh_back e2 hl) (e2.trans (Ex.new hl)) upd_same⟩⟩
/-- [f(x, y) for x, y in zip(two lists)] -/
theorem el_zip {a b : Addr} {xs ys : List Int} {i j : Nat} {vs : List Nat} (f : Int → Int → Int) (ha : Ev ta σ H (.ref a)) (hb : Ev tb σ H (.ref b)) (hx : H a = some (.lst (iL xs))) (hy : H b = some (.lst (iL ys))) (hl : xs.length = ys.length) (hz : xs.length ≤ 40000)
    (hw : ∀ x y, wipe (((wipe σ vs).set i (some x)).set j (some y)) vs = wipe σ vs) (he : ∀ c ∈ xs, ∀ d ∈ ys, Ev te (((wipe σ vs).set i (some (.int c))).set j (some (.int d))) H (.int (f c d))) :
    EvL (tLc (RZ.iZipA K (tCons ta (tCons tb tNil))) (gTup K 2 (gCons (gName i) (gCons (gName j) gNil))) tYes te vs) σ H (iL (List.zipWith f xs ys)) := fun H0 e Q q =>
  ha H0 e _ fun Ha ea => hb Ha (e.trans ea) _ fun H1 eb => by
    have e1 := ea.trans eb
    have E1 := e.trans e1
    refine ⟨a, b, iL xs, iL ys, rfl, .inl ⟨sq_of (E1 _ _ hx), sq_of (E1 _ _ hy), fun Dl hD => ?_⟩⟩
    have hzl : (List.zipWith f xs ys).length = xs.length := by rw [List.length_zipWith]; omega
    refine lc_it (walk_zip (n := xs.length) (by rw [iL_len, iL_len]; omega)) (fun k H' => Ex H1 H' ∧ H' Dl = some (.lst (iL ((List.zipWith f xs ys).take k)))) ⟨Ex.new hD, upd_same⟩ (fun k H' _ p => ⟨sq_of (p.1 _ _ (E1 _ _ hx)), sq_of (p.1 _ _ (E1 _ _ hy))⟩) ?_ ?_
    · rintro k x H2 H2' hk ⟨p1, p2⟩ ⟨T, x1, y1, rfl, hT, rfl, hx1, hy1⟩
      obtain ⟨c, hc, rfl⟩ := iL_of hx1
      obtain ⟨d, hd, rfl⟩ := iL_of hy1
      have eT : Ex H2 (upd H2 T (.tup [.int c, .int d])) := Ex.new hT
      refine ⟨T, _, rfl, st_of upd_same, rfl, .int c, _, rfl, .int d, _, rfl, rfl, hw _ _, ?_⟩
      have hs : (List.zipWith f xs ys).take (k + 1) = (List.zipWith f xs ys).take k ++ [f c d] := by
        rw [List.take_add_one]
        congr 1
        rw [List.getElem?_zipWith, hc, hd]
        rfl
      refine he c (List.mem_of_getElem? hc) d (List.mem_of_getElem? hd) _ ((E1.trans p1).trans eT) _ fun H4 e4 => ⟨_, e4 _ _ (eT _ _ p2), ?_, Ex.mut ((p1.trans eT).trans e4) hD, ?_⟩
      · exact sz_lt (by rw [iL_len, List.length_take]; omega)
      · rw [upd_same, hs, iL_snoc]
    · rintro H' ⟨p1, p2⟩
      refine q Dl H' (fresh_back e1 hD) (e1.trans p1) ?_
      rw [p2, ← hzl, List.take_length]
end
theorem mulx_below {p x : Int} (hp : 0 < p) (l : List Int) : below p (Pr.mulx p x l) := fun c hc => by
  unfold Pr.mulx at hc
  obtain ⟨i, hi⟩ := List.mem_iff_getElem?.mp hc
  rw [List.getElem?_zipWith] at hi
  revert hi
  cases (0 :: l)[i]? with
  | none => intro h; cases h
  | some a =>
    cases (l.map (· * x) ++ [0])[i]? with
    | none => intro h; cases h
    | some b =>
      intro h
      have h : (a - b) % p = c := Option.some.inj h
      rw [← h]
      exact ⟨Int.emod_nonneg _ (by omega), Int.emod_lt_of_pos _ hp⟩
def fold1 (p : Int) (ns : List Int) : List Int := ns.foldl (fun f x => Pr.mulx p x f) [1]
theorem fold1_snoc (p : Int) (ns : List Int) (x : Int) : fold1 p (ns ++ [x]) = Pr.mulx p x (fold1 p ns) := by
  unfold fold1
  rw [List.foldl_append]
  rfl
theorem fold1_len (p : Int) (ns : List Int) : (fold1 p ns).length = ns.length + 1 := Pr.fold_len p ns [1]
def pProd (lst : Bool) (vs : List V) (H : Hp) (xs : List V) : Prop := ∃ (p : Int) (a : Addr) (ns : List Int), vs = [.int p, .ref a] ∧ H a = some (if lst then .lst (iL ns) else .tup (iL ns)) ∧ ns.length ≤ 1000 ∧ 1 < p ∧ p ≤ GP ∧ below p ns ∧ xs = iL (Pr.prodP p ns)
def pAt (vs : List V) (H : Hp) (r : V) : Prop := ∃ (p z : Int) (a : Addr) (l : List Int), vs = [.int p, .ref a, .int z] ∧ H a = some (.tup (iL l)) ∧ l.length ≤ 1000 ∧ 1 < p ∧ p ≤ GP ∧ below p l ∧ 0 ≤ z ∧ z < p ∧ r = .int (Pr.atL p l z 0 1)
section
variable {P : Program} {w : World} {K : PySem.W.Frag} {mg : Str → Option Value} {base : Heap}
theorem scProd : FnScope ["prime", "lot", "found", "number", "shifted", "lower", "coefficient", "one", "other"] ["prime", "lot"] (defScope lProduct) := ⟨rfl, rfl, rfl, by decide +kernel, rfl, by decide +kernel, by decide +kernel⟩
/-- one turn -/
theorem turn_prod {a F : Addr} {p c : Int} {x4 x5 : Option V} {l : List Int} {H2 : Hp} {Dn : Ends} {Z : List Int → Prop} (h2 : H2 F = some (.lst (iL l))) (hl : l.length ≤ 2000) (p1 : 1 < p) (pG : p ≤ GP) (c0 : 0 ≤ c) (c1 : c < p) (hb : below p l)
    (k : ∀ (F' A1 A2 : Addr) (H3 : Hp), Ex H2 H3 → H3 F' = some (.lst (iL (Pr.mulx p c l))) → Dn.nx [some (.int p), some (.ref a), some (.ref F'), some (.int c), some (.ref A1), some (.ref A2), none, none, none] H3) :
    tSeq (tAsg (tOp rCat (tLst (tCons (tC (.int 0)) tNil)) (tVar 2)) (gName 4))
      (tSeq (tAsg (tOp rCat (tLc (iList K (tVar 2)) (gName 6) tYes (tOp (rI CMulW fun i j => .int (i * j)) (tVar 6) (tVar 3)) [6]) (tLst (tCons (tC (.int 0)) tNil))) (gName 5))
      (tAsg (tLc (RZ.iZipA K (tCons (tVar 4) (tCons (tVar 5) tNil))) (gTup K 2 (gCons (gName 7) (gCons (gName 8) gNil))) tYes (tOp (rI (fun _ j => j ≠ 0) fun i j => .int (i.fmod j)) (tOp (rI0 fun i j => .int (i - j)) (tVar 7) (tVar 8)) (tVar 0)) [7, 8]) (gName 2)))
      Dn [some (.int p), some (.ref a), some (.ref F), some (.int c), x4, x5, none, none, none] H2 := by
  refine q_asgL (xs := iL (0 :: l)) (el_catLV (xs := [V.int 0]) (el_lst (ea_cons ev_c ea_nil) (by show (1 : Nat) ≤ 100000; decide)) (ev_var rfl) h2 (by rw [iL_len]; show 1 + l.length ≤ _; omega)) fun A1 H3 _ e3 h3 => ?_
  have e6 : iL (l.map (· * c)) = l.map fun n => V.int (n * c) := List.map_map ..
  refine q_asgL (xs := iL (l.map (· * c) ++ [0])) ?_ fun A2 H4 _ e4 h4 => ?_
  · rw [iL_snoc, e6]
    refine el_catLL (el_mapLi (K := K) (j := 6) (vs := [6]) (fun n => V.int (n * c)) (ev_var rfl) (sq_of (e3 _ _ h2)) (by omega) (fun _ => rfl) fun n hn => ev_op (ev_var rfl) (ev_var rfl) (rv_mulW (a := 90) (b := 90) (nat90 pG (by have := hb n hn; omega) (by have := hb n hn; omega)) (nat90 pG (by omega) (by omega)) (by decide) (by decide) (by decide))) (el_lst (ea_cons ev_c ea_nil) (by show (1 : Nat) ≤ 100000; decide)) ?_
    rw [List.length_map]
    show l.length + 1 ≤ _
    omega
  · refine s_asgL (xs := iL (Pr.mulx p c l)) (el_zip (K := K) (i := 7) (j := 8) (vs := [7, 8]) (fun a b => (a - b) % p) (ev_var rfl) (ev_var rfl) (e4 _ _ h3) h4 (by simp) (by simp; omega) (fun _ _ => rfl) fun x hx y hy => ?_) fun F' H5 _ e5 h5 => k F' A1 A2 H5 ((e3.trans e4).trans e5) h5
    exact ev_is (ev_op (ev_op (ev_var rfl) (ev_var rfl) rv_I0) (ev_var rfl) (rv_modN (by omega))) (congrArg V.int (Int.fmod_eq_emod_of_nonneg _ (by omega)))
theorem ok_prodT {f : Addr} {fd : FuncData} (F : Fun K "_law_product" "_law_product" lProduct f fd) (B : Bt mg) : FnOk P w K mg base CX0 1 f fd ["prime", "lot"] (spFnT (pProd false)) := by
  refine F.ok scProd (lenFT (by rintro _ _ _ ⟨p, a, ns, rfl, _⟩; rfl)) (fun cdv A outer s H vs Q E hr h => ?_)
  obtain ⟨r, ⟨p, a, ns, rfl, ha, hl, p1, pG, hb, rfl⟩, k⟩ := h
  have ha : H a = some (.tup (iL ns)) := ha
  refine ⟨_, pss_cons (ps_set (i := 2) scProd.nd rfl (.inl rfl) (pe_lst (pa_cons pe_int pa_nil)))
    (pss_cons (ps_for PassesOwn.never rfl (pi_tup (pv 1)) (pg_name (i := 3) scProd.nd rfl (Or.inr rfl))
      (pss_cons (ps_set (i := 4) scProd.nd rfl (.inl rfl) (pe_op op_cat (pe_lst (pa_cons pe_int pa_nil)) (pv 2)))
      (pss_cons (ps_set (i := 5) scProd.nd rfl (.inl rfl) (pe_op op_cat (pe_lc (own := [("coefficient", 6)]) (g := gName 6) (tt := tYes) rfl scProd.nd (pi_list (pv 2)) (blkOk_by (N := ["prime", "lot", "found", "number", "shifted", "lower", "coefficient", "one", "other"]) (sc := defScope lProduct) (by decide +kernel))
        (fun _ _ _ _ _ => pg_name (i := 6) scProd.nd rfl (Or.inl rfl)) (fun _ _ _ _ _ => pts_nil) (fun _ _ _ _ _ => pe_op op_mulW (pv 6) (pv 3))) (pe_lst (pa_cons pe_int pa_nil))))
      (pss_one (ps_setLc (i := 2) (own := [("one", 7), ("other", 8)]) (g := gTup K 2 (gCons (gName 7) (gCons (gName 8) gNil))) (tt := tYes) rfl scProd.nd rfl rfl rfl (RZ.pi_zipA (by rfl) B.b_zip (pa_cons (pv 4) (pa_cons (pv 5) pa_nil))) (blkOk_by (N := ["prime", "lot", "found", "number", "shifted", "lower", "coefficient", "one", "other"]) (sc := defScope lProduct) (by decide +kernel))
        (fun _ _ _ _ _ => pg_tup rfl (pgs_cons (pg_name (i := 7) scProd.nd rfl (Or.inl rfl)) (pgs_cons (pg_name (i := 8) scProd.nd rfl (Or.inl rfl)) pgs_nil)))
        (fun _ _ _ _ _ => pts_nil) (fun _ _ _ _ _ => pe_op op_modN (pe_op op_sub (pv 7) (pv 8)) (pv 0)))))))
    (pss_one (ps_ret (pe_callTy call_tuple_of (by rfl) B.b_tuple boot_tuple' (pa_cons (pv 2) pa_nil))))), ?_⟩
  refine q_asgL (xs := iL [1]) (el_lst (ea_cons ev_c ea_nil) (by show (1 : Nat) ≤ 100000; decide)) fun F0 H1 _ e1 h1 => ?_
  refine q_forT (K := K) (xs := iL ns) (ev_var rfl) (st_of (e1 _ _ ha)) (fun i σ' H' => ∃ (x3 x4 x5 : Option V) (F' : Addr), σ' = [some (.int p), some (.ref a), some (.ref F'), x3, x4, x5, none, none, none] ∧ Ex H H' ∧ H' F' = some (.lst (iL (fold1 p (ns.take i)))) ∧ below p (fold1 p (ns.take i))) (fun H2 e2 => ⟨none, none, none, F0, rfl, e1.trans e2, e2 _ _ h1, fun x hx => by
    have hx : x ∈ ([1] : List Int) := hx
    rw [List.mem_singleton] at hx
    omega⟩) (fun i σ' H' _ h => by
    obtain ⟨_, _, _, _, _, h, _⟩ := h
    exact st_of (h _ _ ha)) ?_ ?_
  · rintro i x σ' H2 hi ⟨x3, x4, x5, F', rfl, e2, h2, b2⟩
    obtain ⟨c, hc, rfl⟩ := iL_of hi
    have bc := hb c (List.mem_of_getElem? hc)
    have e7 : fold1 p (ns.take (i + 1)) = Pr.mulx p c (fold1 p (ns.take i)) := by
      rw [List.take_add_one, hc]
      exact fold1_snoc p _ c
    refine turn_prod (K := K) (Z := fun _ => True) h2 (by rw [fold1_len, List.length_take]; omega) p1 pG bc.1 bc.2 b2 fun F2 A1 A2 H3 e3 h3 => ⟨_, _, _, F2, rfl, e2.trans e3, by rw [e7]; exact h3, by rw [e7]; exact mulx_below (by omega) _⟩
  · rintro σ' H2 ⟨x3, x4, x5, F', rfl, e2, h2, b2⟩
    rw [iL_len, List.take_length] at h2
    exact s_retU (eu_ofV (K := K) (ev_var rfl) h2) fun t H3 _ e3 h3 => k t H3 (e2.trans e3) h3
theorem ok_prodL {f : Addr} {fd : FuncData} (F : Fun K "_law_product" "_law_product" lProduct f fd) (B : Bt mg) : FnOk P w K mg base CX0 1 f fd ["prime", "lot"] (spFnT (pProd true)) := by
  refine F.ok scProd (lenFT (by rintro _ _ _ ⟨p, a, ns, rfl, _⟩; rfl)) (fun cdv A outer s H vs Q E hr h => ?_)
  obtain ⟨r, ⟨p, a, ns, rfl, ha, hl, p1, pG, hb, rfl⟩, k⟩ := h
  have ha : H a = some (.lst (iL ns)) := ha
  refine ⟨_, pss_cons (ps_set (i := 2) scProd.nd rfl (.inl rfl) (pe_lst (pa_cons pe_int pa_nil)))
    (pss_cons (ps_for PassesOwn.never rfl (pi_list (pv 1)) (pg_name (i := 3) scProd.nd rfl (Or.inr rfl))
      (pss_cons (ps_set (i := 4) scProd.nd rfl (.inl rfl) (pe_op op_cat (pe_lst (pa_cons pe_int pa_nil)) (pv 2)))
      (pss_cons (ps_set (i := 5) scProd.nd rfl (.inl rfl) (pe_op op_cat (pe_lc (own := [("coefficient", 6)]) (g := gName 6) (tt := tYes) rfl scProd.nd (pi_list (pv 2)) (blkOk_by (N := ["prime", "lot", "found", "number", "shifted", "lower", "coefficient", "one", "other"]) (sc := defScope lProduct) (by decide +kernel))
        (fun _ _ _ _ _ => pg_name (i := 6) scProd.nd rfl (Or.inl rfl)) (fun _ _ _ _ _ => pts_nil) (fun _ _ _ _ _ => pe_op op_mulW (pv 6) (pv 3))) (pe_lst (pa_cons pe_int pa_nil))))
      (pss_one (ps_setLc (i := 2) (own := [("one", 7), ("other", 8)]) (g := gTup K 2 (gCons (gName 7) (gCons (gName 8) gNil))) (tt := tYes) rfl scProd.nd rfl rfl rfl (RZ.pi_zipA (by rfl) B.b_zip (pa_cons (pv 4) (pa_cons (pv 5) pa_nil))) (blkOk_by (N := ["prime", "lot", "found", "number", "shifted", "lower", "coefficient", "one", "other"]) (sc := defScope lProduct) (by decide +kernel))
        (fun _ _ _ _ _ => pg_tup rfl (pgs_cons (pg_name (i := 7) scProd.nd rfl (Or.inl rfl)) (pgs_cons (pg_name (i := 8) scProd.nd rfl (Or.inl rfl)) pgs_nil)))
        (fun _ _ _ _ _ => pts_nil) (fun _ _ _ _ _ => pe_op op_modN (pe_op op_sub (pv 7) (pv 8)) (pv 0)))))))
    (pss_one (ps_ret (pe_callTy call_tuple_of (by rfl) B.b_tuple boot_tuple' (pa_cons (pv 2) pa_nil))))), ?_⟩
  refine q_asgL (xs := iL [1]) (el_lst (ea_cons ev_c ea_nil) (by show (1 : Nat) ≤ 100000; decide)) fun F0 H1 _ e1 h1 => ?_
  refine q_forL (K := K) (xs := iL ns) (ev_var rfl) (sq_of (e1 _ _ ha)) (fun i σ' H' => ∃ (x3 x4 x5 : Option V) (F' : Addr), σ' = [some (.int p), some (.ref a), some (.ref F'), x3, x4, x5, none, none, none] ∧ Ex H H' ∧ H' F' = some (.lst (iL (fold1 p (ns.take i)))) ∧ below p (fold1 p (ns.take i))) (fun H2 e2 => ⟨none, none, none, F0, rfl, e1.trans e2, e2 _ _ h1, fun x hx => by
    have hx : x ∈ ([1] : List Int) := hx
    rw [List.mem_singleton] at hx
    omega⟩) (fun i σ' H' _ h => by
    obtain ⟨_, _, _, _, _, h, _⟩ := h
    exact sq_of (h _ _ ha)) ?_ ?_
  · rintro i x σ' H2 hi ⟨x3, x4, x5, F', rfl, e2, h2, b2⟩
    obtain ⟨c, hc, rfl⟩ := iL_of hi
    have bc := hb c (List.mem_of_getElem? hc)
    have e7 : fold1 p (ns.take (i + 1)) = Pr.mulx p c (fold1 p (ns.take i)) := by
      rw [List.take_add_one, hc]
      exact fold1_snoc p _ c
    refine turn_prod (K := K) (Z := fun _ => True) h2 (by rw [fold1_len, List.length_take]; omega) p1 pG bc.1 bc.2 b2 fun F2 A1 A2 H3 e3 h3 => ⟨_, _, _, F2, rfl, e2.trans e3, by rw [e7]; exact h3, by rw [e7]; exact mulx_below (by omega) _⟩
  · rintro σ' H2 ⟨x3, x4, x5, F', rfl, e2, h2, b2⟩
    rw [iL_len, List.take_length] at h2
    exact s_retU (eu_ofV (K := K) (ev_var rfl) h2) fun t H3 _ e3 h3 => k t H3 (e2.trans e3) h3
theorem scAt : FnScope ["prime", "polynomial", "place", "total", "power", "coefficient"] ["prime", "polynomial", "place"] (defScope lAt) := ⟨rfl, rfl, rfl, by decide +kernel, rfl, by decide +kernel, by decide +kernel⟩
theorem ok_at {f : Addr} {fd : FuncData} (F : Fun K "_law_at" "_law_at" lAt f fd) (B : Bt mg) : FnOk P w K mg base CX0 1 f fd ["prime", "polynomial", "place"] (spFn pAt) := by
  refine F.ok scAt (lenF (by rintro _ _ _ ⟨p, z, a, l, rfl, _⟩; rfl)) (fun cdv A outer s H vs Q E hr h => ?_)
  obtain ⟨r, ⟨p, z, a, l, rfl, ha, hl, p1, pG, hb, z0, z1, rfl⟩, k⟩ := h
  refine ⟨_, pss_cons (ps_set (i := 3) scAt.nd rfl (.inl rfl) pe_int) (pss_cons (ps_set (i := 4) scAt.nd rfl (.inl rfl) pe_int)
    (pss_cons (ps_for PassesOwn.never rfl (pi_tup (pv 1)) (pg_name (i := 5) scAt.nd rfl (Or.inl rfl))
      (pss_cons (ps_set (i := 3) scAt.nd rfl (.inl rfl) (pe_op op_modN (pe_op op_add (pv 3) (pe_op op_mulW (pv 5) (pv 4))) (pv 0)))
      (pss_one (ps_set (i := 4) scAt.nd rfl (.inl rfl) (pe_op op_modN (pe_op op_mulW (pv 4) (pv 2)) (pv 0))))))
    (pss_one (ps_ret (pv 3))))), ?_⟩
  refine q_asg (v := .int 0) ev_c fun H1 e1 => q_asg (v := .int 1) ev_c fun H2 e2 => ?_
  have E2 := e1.trans e2
  refine q_forT (K := K) (xs := iL l) (ev_var rfl) (st_of (E2 _ _ ha)) (fun i σ' H' => (∃ (t u : Int) (x5 : Option V), σ' = [some (.int p), some (.ref a), some (.int z), some (.int t), some (.int u), x5] ∧ 0 ≤ t ∧ t < p ∧ 0 ≤ u ∧ u < p ∧ Pr.atL p (l.drop i) z t u = Pr.atL p l z 0 1) ∧ Ex H H') (fun H3 e3 => ⟨⟨0, 1, none, rfl, by decide, by omega, by decide, p1, rfl⟩, E2.trans e3⟩) (fun i σ' H' _ h => st_of (h.2 _ _ ha)) ?_ ?_
  · rintro i x σ' H3 hi ⟨⟨t, u, x5, rfl, t0, t1, u0, u1, he⟩, e3⟩
    obtain ⟨c, hc, rfl⟩ := iL_of hi
    have bc := hb c (List.mem_of_getElem? hc)
    have hi' := (List.getElem?_eq_some_iff.mp hc).1
    have hd : l.drop i = c :: l.drop (i + 1) := by
      rw [List.drop_eq_getElem_cons hi']
      congr 1
      have := (List.getElem?_eq_some_iff.mp hc).2
      exact this
    rw [hd] at he
    show tSeq _ _ _ [some (.int p), some (.ref a), some (.int z), some (.int t), some (.int u), some (.int c)] H3
    refine q_asg (v := .int ((t + c * u) % p)) (ev_is (ev_op (ev_op (ev_var rfl) (ev_op (ev_var rfl) (ev_var rfl) (rv_mulW (a := 90) (b := 90) (nat90 pG (by omega) (by omega)) (nat90 pG (by omega) (by omega)) (by decide) (by decide) (by decide))) rv_I0) (ev_var rfl) (rv_modN (by omega))) (congrArg V.int (Int.fmod_eq_emod_of_nonneg _ (by omega)))) fun H4 e4 => ?_
    refine s_asg (v := .int (u * z % p)) (ev_is (ev_op (ev_op (ev_var rfl) (ev_var rfl) (rv_mulW (a := 90) (b := 90) (nat90 pG (by omega) (by omega)) (nat90 pG (by omega) (by omega)) (by decide) (by decide) (by decide))) (ev_var rfl) (rv_modN (by omega))) (congrArg V.int (Int.fmod_eq_emod_of_nonneg _ (by omega)))) fun H5 e5 => ⟨⟨_, _, _, rfl, Int.emod_nonneg _ (by omega), Int.emod_lt_of_pos _ (by omega), Int.emod_nonneg _ (by omega), Int.emod_lt_of_pos _ (by omega), he⟩, (e3.trans e4).trans e5⟩
  · rintro σ' H3 ⟨⟨t, u, x5, rfl, t0, t1, u0, u1, he⟩, e3⟩
    refine s_ret (ev_is (ev_var rfl) (congrArg V.int ?_)) fun H4 e4 => k H4 (e3.trans e4)
    rw [iL_len, List.drop_length] at he
    exact he
end
end Hv
/-! k40: _law_values_right -/
namespace Hv
open PySem PySem.Spec PyProof.Rows L2 Evl
abbrev lValuesRight : Stmt := topS 51
section
variable {σ : L2.St} {H : Hp} {wl : Addr} {K : PySem.W.Frag} {te ta tb tc tl : TE} {D : Ends} {v z : V} {xs ys : List V} {sp : Sp} {E : XK} {S : Int → Prop} {tz tu tw : TS} {tt t : TT}
theorem ev_call2W (h : EvW ta σ H xs) (h2 : EvW tb σ H ys) (hs : ∀ t u H1, Ex H H1 → H1 t = some (.tup xs) → H1 u = some (.tup ys) → SpV sp [.ref t, .ref u] H1 z) : Ev (tCall sp [] E (tCons ta (tCons tb tNil))) σ H z := fun H1 e Q q =>
  h H1 e _ fun t H2 e2 h2' => h2 H2 (e.trans e2) _ fun u H3 e3 h3 => hs t u H3 ((e.trans e2).trans e3) (e3 _ _ h2') h3 H3 (Ex.refl H3) Q (fun H4 e4 => q H4 ((e2.trans e3).trans e4)) E
theorem ew_fn3 {p : List V → Hp → List V → Prop} {va vc : V} (ha : Ev ta σ H va) (hb : EvW tb σ H ys) (hc : Ev tc σ H vc) (hp : ∀ t H1, Ex H H1 → H1 t = some (.tup ys) → p [va, .ref t, vc] H1 xs) : EvW (tCall (spFnT p) [] E (tCons ta (tCons tb (tCons tc tNil)))) σ H xs := fun H1 e Q q =>
  ha H1 e _ fun H2 e2 => hb H2 (e.trans e2) _ fun t H3 e3 h3 => hc H3 ((e.trans e2).trans e3) _ fun H4 e4 => ⟨xs, hp t H4 (((e.trans e2).trans e3).trans e4) (e4 _ _ h3), fun u H' s hu => q u H' (((e2.trans e3).trans e4).trans s) hu⟩
theorem spv_same {t u : Addr} {xs : List Int} (ht : H t = some (.tup (iL xs))) (hu : H u = some (.tup (iL xs))) (hl : xs.length ≤ 1000) : SpV (spFn (pSame 1)) [.ref t, .ref u] H (.bl true) := fun H1 e Q q E => ⟨.bl true, .inr ⟨rfl, t, u, xs, rfl, e _ _ ht, e _ _ hu, hl, rfl⟩, fun H' s => q H' s⟩
end
section
variable {P : Program} {w : World} {K : PySem.W.Frag} {mg : Str → Option Value} {base : Heap} {fD : Addr} {dD : FuncData}
def spRight : Sp := fun vs H Q _ => ∃ (wl : Addr) (p : Int), vs = [.ref wl, .int p] ∧ Well H wl ∧ PrP p ∧ ∀ H' : Hp, Drawn wl H H' → Q (.bl true) H'
theorem scVR : FnScope ["hat", "prime", "many", "wide", "places", "lot", "product", "due", "place", "total", "number"] ["hat", "prime"] (defScope lValuesRight) := ⟨rfl, rfl, rfl, by decide +kernel, rfl, by decide +kernel, by decide +kernel⟩
theorem many8 : ∀ n ∈ ([0, 1, 2, 3, 5, 9, 30, 200] : List Int), 0 ≤ n ∧ n ≤ 200 := by decide
theorem wide6 : ∀ n ∈ ([0, 1, 2, 4, 9, 64] : List Int), 0 ≤ n ∧ n ≤ 64 := by decide
theorem prodP_below {p : Int} (hp : 1 < p) (ns : List Int) : below p (Pr.prodP p ns) := by
  rcases List.eq_nil_or_concat ns with rfl | ⟨l, x, rfl⟩
  · intro x hx
    have hx : x ∈ ([1] : List Int) := hx
    rw [List.mem_singleton] at hx
    omega
  · show below p (fold1 p (l.concat x))
    rw [List.concat_eq_append, fold1_snoc]
    exact mulx_below (by omega) _
theorem ok_VR {f fP fL fR fA fV fS : Addr} {fd dP dL dR dA dV dS : FuncData} (F : Fun K "_law_values_right" "_law_values_right" lValuesRight f fd) (B : Bt mg) (D : Dd P w K mg base fD dD)
    (DP : Df K mg "_law_places" lPlaces ["hat", "prime", "many", "barred"] fP dP) (GP' : FnOk P w K mg base CX0 5 fP dP ["hat", "prime", "many", "barred"] spPl) (DL : Df K mg "_law_lot" lLot ["hat", "prime", "many", "barred"] fL dL) (GL : FnOk P w K mg base CX0 5 fL dL ["hat", "prime", "many", "barred"] spLot)
    (DR : Df K mg "_law_product" lProduct ["prime", "lot"] fR dR) (GR : FnOk P w K mg base CX0 5 fR dR ["prime", "lot"] (spFnT (pProd false))) (DA : Df K mg "_law_at" lAt ["prime", "polynomial", "place"] fA dA) (GA : FnOk P w K mg base CX0 5 fA dA ["prime", "polynomial", "place"] (spFn pAt))
    (DV : Df K mg "values" sValues ["prime", "lot", "places"] fV dV) (GV : FnOk P w K mg base CX0 5 fV dV ["prime", "lot", "places"] (spFnT pValues)) (DS : Df K mg "_law_same" lSame ["actual", "due"] fS dS) (GS : FnOk P w K mg base CX0 5 fS dS ["actual", "due"] (spFn (pSame 1))) :
    FnOk P w K mg base CX0 6 f fd ["hat", "prime"] spRight := by
  refine F.ok scVR (fun vs H Q E h => ?_) (fun cdv A outer s H vs Q E hr h => ?_)
  · obtain ⟨wl, p, rfl, _⟩ := h
    rfl
  obtain ⟨wl, p, rfl, W, hp, k⟩ := h
  refine ⟨_, pss_cons (ps_set (i := 2) scVR.nd rfl (.inl rfl) (pe_ix ix_list (pe_lst (pa_cons pe_int (pa_cons pe_int (pa_cons pe_int (pa_cons pe_int (pa_cons pe_int (pa_cons pe_int (pa_cons pe_int (pa_cons pe_int pa_nil))))))))) (pe_draw D hr (by decide) (by rfl) (pv 0) pe_int) (fun _ _ => rfl)))
    (pss_cons (ps_set (i := 3) scVR.nd rfl (.inl rfl) (pe_ix ix_list (pe_lst (pa_cons pe_int (pa_cons pe_int (pa_cons pe_int (pa_cons pe_int (pa_cons pe_int (pa_cons pe_int pa_nil))))))) (pe_draw D hr (by decide) (by rfl) (pv 0) pe_int) (fun _ _ => rfl)))
    (pss_cons (ps_set (i := 4) scVR.nd rfl (.inl rfl) (pe_call GP' hr (by rfl) DP.g DP.F.kp DP.b .nil pass0 (pa_cons (pv 0) (pa_cons (pv 1) (pa_cons (pv 3) (pa_cons (pe_lst pa_nil) pa_nil))))))
    (pss_cons (ps_set (i := 5) scVR.nd rfl (.inl rfl) (pe_call GL hr (by rfl) DL.g DL.F.kp DL.b .nil pass0 (pa_cons (pv 0) (pa_cons (pv 1) (pa_cons (pv 2) (pa_cons (pv 4) pa_nil))))))
    (pss_cons (ps_if (pt_cmpR op_lt (pv 2) pe_int (nomark _))
      (pss_cons (ps_set (i := 6) scVR.nd rfl (.inr rfl) (pe_call GR hr (by rfl) DR.g DR.F.kp DR.b .nil pass0 (pa_cons (pv 1) (pa_cons (pv 5) pa_nil))))
      (pss_cons (ps_set (i := 7) scVR.nd rfl (.inl rfl) (pe_callTy call_tuple_of (by rfl) B.b_tuple boot_tuple' (pa_cons (pe_lc (own := [("place", 8)]) (g := gName 8) (tt := tYes) rfl scVR.nd (pi_tup (pv 4)) (blkOk_by (N := ["hat", "prime", "many", "wide", "places", "lot", "product", "due", "place", "total", "number"]) (sc := defScope lValuesRight) (by decide +kernel))
        (fun _ _ _ _ _ => pg_name (i := 8) scVR.nd rfl (Or.inl rfl)) (fun _ _ _ _ _ => pts_nil) (fun _ _ _ _ _ => pe_call GA hr (by rfl) DA.g DA.F.kp DA.b .nil pass0 (pa_cons (pv 1) (pa_cons (pv 6) (pa_cons (pv 8) pa_nil))))) pa_nil)))
      (pss_one (ps_ret (pe_call GS hr (by rfl) DS.g DS.F.kp DS.b .nil pass0 (pa_cons (pe_call GV hr (by rfl) DV.g DV.F.kp DV.b .nil pass0 (pa_cons (pv 1) (pa_cons (pv 5) (pa_cons (pv 4) pa_nil)))) (pa_cons (pv 7) pa_nil))))))) pss_nil)
    (pss_cons (ps_set (i := 7) scVR.nd rfl (.inl rfl) (pe_lst pa_nil))
    (pss_cons (ps_for PassesOwn.never rfl (pi_tup (pv 4)) (pg_name (i := 8) scVR.nd rfl (Or.inl rfl))
      (pss_cons (ps_set (i := 9) scVR.nd rfl (.inl rfl) pe_int)
      (pss_cons (ps_for PassesOwn.never rfl (pi_tup (pv 5)) (pg_name (i := 10) scVR.nd rfl (Or.inl rfl))
        (pss_one (ps_set (i := 9) scVR.nd rfl (.inl rfl) (pe_op op_modN (pe_op op_mulW (pv 9) (pe_op op_sub (pv 8) (pv 10))) (pv 1)))))
      (pss_one (ps_expr (pe_bm PySem.F.plainAttrs_list PySem.F.slot_list_append PySem.F.type_list_append mt_append (pv 7) (pa_cons (pv 9) pa_nil)))))))
    (pss_one (ps_ret (pe_call GS hr (by rfl) DS.g DS.F.kp DS.b .nil pass0 (pa_cons (pe_call GV hr (by rfl) DV.g DV.F.kp DV.b .nil pass0 (pa_cons (pv 1) (pa_cons (pv 5) (pa_cons (pv 4) pa_nil)))) (pa_cons (pe_callTy call_tuple_of (by rfl) B.b_tuple boot_tuple' (pa_cons (pv 7) pa_nil)) pa_nil))))))))))), ?_⟩
  have p2 := hp.lo
  have pG := hp.hi
  refine q_asgD W (dw_pick (ns := [0, 1, 2, 3, 5, 9, 30, 200]) rfl (fun H3 _ => ea_cons ev_c (ea_cons ev_c (ea_cons ev_c (ea_cons ev_c (ea_cons ev_c (ea_cons ev_c (ea_cons ev_c (ea_cons ev_c ea_nil)))))))) rfl (by decide) (by decide)) fun m H1 hm D1 => ?_
  have m0 := many8 m hm
  refine q_asgD D1.well (dw_pick (ns := [0, 1, 2, 4, 9, 64]) rfl (fun H3 _ => ea_cons ev_c (ea_cons ev_c (ea_cons ev_c (ea_cons ev_c (ea_cons ev_c (ea_cons ev_c ea_nil)))))) rfl (by decide) (by decide)) fun wd H2 hwd D2 => ?_
  have w0 := wide6 wd hwd
  refine ⟨_, rfl, _, rfl, _, rfl, sz_of (show (0 : Nat) ≤ 100000 by decide), fun b hb => ⟨wl, b, p, wd, rfl, D2.well.same (same_upd hb), p2, pG, w0.1, w0.2, .inr ⟨upd_same, rfl⟩, fun t zs H3 D3 ht hzl bz hnd => ?_⟩⟩
  have E3 := ((D1.trans D2).new (o := .lst []) hb).trans D3
  have nt : t ≠ wl := fun e => by
    obtain ⟨x, y, h1, _⟩ := D3.well
    rw [e, h1] at ht
    cases ht
  show tSeq _ _ _ [some (V.ref wl), some (.int p), some (.int m), some (.int wd), some (.ref t), none, none, none, none, none, none] H3
  refine q_asgC (vs := [.ref wl, .int p, .int m, .ref t]) (ea_cons (ev_var rfl) (ea_cons (ev_var rfl) (ea_cons (ev_var rfl) (ea_cons (ev_var rfl) ea_nil)))) fun H4 e4 => ⟨wl, t, p, m, zs, rfl, D3.well.same e4, p2, pG, m0.1, m0.2, .inl (e4 _ _ ht), fun u ns H5 D5 hu hnl bn hpw hno => ?_⟩
  have E5 := (E3.same e4).trans D5
  have ht5 : H5 t = some (.tup (iL zs)) := D5.keep t _ nt (e4 _ _ ht)
  show tSeq _ _ _ [some (V.ref wl), some (.int p), some (.int m), some (.int wd), some (.ref t), some (.ref u), none, none, none, none, none] H5
  have hval : ∀ H6, Ex H5 H6 → pValues [.int p, .ref u, .ref t] H6 (iL (zs.map fun z => Pr.val p z ns 1)) := fun H6 e6 => ⟨p, u, t, ns, zs, rfl, e6 _ _ hu, e6 _ _ ht5, hp, by omega, hpw, by omega, hnd, fun z hz hn => hno z hn hz, bz, bn, rfl⟩
  refine q_when (b := decide (m < 31)) (et_test (ev_op (ev_var rfl) ev_c rv_I0)) (fun q H6 e6 => ?_) (fun q H6 e6 => ?_)
  · refine q_asgW (ew_fn (p := pProd false) (xs := iL (Pr.prodP p ns)) (ea_cons (ev_var rfl) (ea_cons (ev_var rfl) ea_nil)) fun H7 e7 => ⟨p, u, ns, rfl, e7 _ _ (e6 _ _ hu), by omega, by omega, pG, bn, rfl⟩) fun pr H7 e7 hpr => ?_
    have e67 := e6.trans e7
    refine q_asgU (xs := iL (zs.map fun z => Pr.atL p (Pr.prodP p ns) z 0 1)) (eu_of (K := K) ?_) fun du H8 _ e8 hdu => ?_
    · rw [show iL (zs.map fun z => Pr.atL p (Pr.prodP p ns) z 0 1) = zs.map fun z => V.int (Pr.atL p (Pr.prodP p ns) z 0 1) from List.map_map ..]
      refine el_mapT (K := K) (j := 8) (vs := [8]) (fun z => V.int (Pr.atL p (Pr.prodP p ns) z 0 1)) (ev_var rfl) (e67 _ _ ht5) (by omega) (fun _ => rfl) fun n hn => ev_fn (ea_cons (ev_var rfl) (ea_cons (ev_var rfl) (ea_cons (ev_var rfl) ea_nil))) fun H9 e9 => ⟨p, n, pr, Pr.prodP p ns, rfl, e9 _ _ hpr, ?_, by omega, pG, prodP_below (by omega) _, (bz n hn).1, (bz n hn).2, rfl⟩
      have hfl : (Pr.prodP p ns).length = ns.length + 1 := fold1_len p ns
      rw [hfl]
      omega
    · have e68 := e67.trans e8
      have hsame : (zs.map fun z => Pr.atL p (Pr.prodP p ns) z 0 1) = zs.map fun z => Pr.val p z ns 1 := List.map_congr_left fun z hz => (Pr.val_at (by omega) ns z).symm
      rw [hsame] at hdu
      exact s_ret (ev_call2W (xs := iL (zs.map fun z => Pr.val p z ns 1)) (ys := iL (zs.map fun z => Pr.val p z ns 1)) (ew_fn (ea_cons (ev_var rfl) (ea_cons (ev_var rfl) (ea_cons (ev_var rfl) ea_nil))) fun H9 e9 => hval H9 (e68.trans e9)) (ew_var rfl hdu) fun t' u' H9 e9 h9 h9' => spv_same h9 h9' (by rw [List.length_map]; omega)) fun H9 e9 => k H9 (E5.same (e68.trans e9))
  · refine q_asgL (xs := []) (el_lst ea_nil (by show (0 : Nat) ≤ 100000; decide)) fun Du H7 hDu e7 hdu => ?_
    have e67 := e6.trans e7
    have E7 := E5.same e67
    have fDu : H Du = none := (E5.same e6).free W hDu
    have nu : u ≠ Du := fun e => by
      have := e6 _ _ hu
      rw [e, hDu] at this
      cases this
    have ntd : t ≠ Du := fun e => by
      have := e6 _ _ ht5
      rw [e, hDu] at this
      cases this
    refine q_forT (K := K) (xs := iL zs) (ev_var rfl) (st_of (e67 _ _ ht5)) (fun i σ' H' => (∃ x8 x9 x10 : Option V, σ' = [some (V.ref wl), some (.int p), some (.int m), some (.int wd), some (.ref t), some (.ref u), none, some (.ref Du), x8, x9, x10]) ∧ Drawn wl H H' ∧ H' t = some (.tup (iL zs)) ∧ H' u = some (.tup (iL ns)) ∧ H' Du = some (.lst (iL ((zs.take i).map fun z => Pr.val p z ns 1)))) (fun H8 e8 => ⟨⟨none, none, none, rfl⟩, E7.same e8, e8 _ _ (e67 _ _ ht5), e8 _ _ (e67 _ _ hu), e8 _ _ hdu⟩) (fun i σ' H' _ h => st_of h.2.2.1) ?_ ?_
    · rintro i x σ' H8 hi ⟨⟨x8, x9, x10, rfl⟩, E8, ht8, hu8, hd8⟩
      obtain ⟨zc, hz, rfl⟩ := iL_of hi
      have bzc := bz zc (List.mem_of_getElem? hz)
      show tSeq _ _ _ [some (V.ref wl), some (.int p), some (.int m), some (.int wd), some (.ref t), some (.ref u), none, some (.ref Du), some (.int zc), x9, x10] H8
      refine q_asg (v := .int 1) ev_c fun H9 e9 => ?_
      refine q_forT (K := K) (xs := iL ns) (ev_var rfl) (st_of (e9 _ _ hu8)) (fun i σ' H' => (∃ x10 : Option V, σ' = [some (V.ref wl), some (.int p), some (.int m), some (.int wd), some (.ref t), some (.ref u), none, some (.ref Du), some (.int zc), some (.int (Pr.val p zc (ns.take i) 1)), x10]) ∧ Ex H8 H') (fun H10 e10 => ⟨⟨x10, rfl⟩, e9.trans e10⟩) (fun i σ' H' _ h => st_of (h.2 _ _ hu8)) ?_ ?_
      · rintro j x σ' H10 hj ⟨⟨x10, rfl⟩, e10⟩
        obtain ⟨c, hc, rfl⟩ := iL_of hj
        have b := Pr.val_lt (p := p) (by omega) zc (ns.take j) 1 (by decide) (by omega)
        have bc := bn c (List.mem_of_getElem? hc)
        show tAsg _ _ _ [some (V.ref wl), some (.int p), some (.int m), some (.int wd), some (.ref t), some (.ref u), none, some (.ref Du), some (.int zc), some (.int (Pr.val p zc (ns.take j) 1)), some (.int c)] H10
        refine s_asg (v := .int (Pr.val p zc (ns.take (j + 1)) 1)) (ev_is (ev_op (ev_op (ev_var rfl) (ev_op (ev_var rfl) (ev_var rfl) rv_I0) (rv_mulW (a := 90) (b := 90) (nat90 pG (by omega) (by omega)) (nat90 pG (by omega) (by omega)) (by decide) (by decide) (by decide))) (ev_var rfl) (rv_modN (by omega))) (congrArg V.int ?_)) fun H11 e11 => ⟨⟨_, rfl⟩, e10.trans e11⟩
        rw [List.take_add_one, hc]
        show _ = Pr.val p zc (_ ++ [c]) 1
        rw [val_snoc, Int.fmod_eq_emod_of_nonneg _ (by omega)]
      · rintro σ' H10 ⟨⟨x10, rfl⟩, e10⟩
        rw [iL_len, List.take_length]
        have hn : ((zs.take (i + 1)).map fun z => Pr.val p z ns 1) = ((zs.take i).map fun z => Pr.val p z ns 1) ++ [Pr.val p zc ns 1] := by
          rw [List.take_add_one, hz, List.map_append]
          rfl
        refine s_app (e10 _ _ hd8) (ev_var rfl) (ev_var rfl) (by rw [iL_len, List.length_map, List.length_take]; omega) fun H11 e11 => ⟨⟨_, _, _, rfl⟩, (E8.same (e10.trans e11)).put W fDu, ?_, ?_, ?_⟩
        · rw [upd_ne ntd]
          exact (e10.trans e11) _ _ ht8
        · rw [upd_ne nu]
          exact (e10.trans e11) _ _ hu8
        · rw [upd_same, hn, iL_snoc]
    · rintro σ' H8 ⟨⟨x8, x9, x10, rfl⟩, E8, ht8, hu8, hd8⟩
      rw [iL_len, List.take_length] at hd8
      exact s_ret (ev_call2W (xs := iL (zs.map fun z => Pr.val p z ns 1)) (ys := iL (zs.map fun z => Pr.val p z ns 1)) (ew_fn (p := pValues) (ea_cons (ev_var rfl) (ea_cons (ev_var rfl) (ea_cons (ev_var rfl) ea_nil))) fun H9 e9 => ⟨p, u, t, ns, zs, rfl, e9 _ _ hu8, e9 _ _ ht8, hp, by omega, hpw, by omega, hnd, fun z hz hn => hno z hn hz, bz, bn, rfl⟩) (.ofU (eu_ofV (K := K) (ev_var rfl) hd8)) fun t' u' H9 e9 h9 h9' => spv_same h9 h9' (by rw [List.length_map]; omega)) fun H9 e9 => k H9 (E8.same e9)
end
end Hv
/-! k40: _law_roots_right -/
namespace Hv
open PySem PySem.Spec PyProof.Rows L2 Evl
abbrev lRootsRight : Stmt := topS 52
/-- a product of monic factors is monic -/
theorem mulx_monic {p x : Int} (hp : 1 < p) (l : List Int) : ∃ r, Pr.mulx p x (l ++ [1]) = r ++ [1] ∧ r.length = l.length + 1 := by
  refine ⟨List.zipWith (fun a b => (a - b) % p) (0 :: l) ((l ++ [1]).map (· * x)), ?_, by simp⟩
  unfold Pr.mulx
  show List.zipWith _ ((0 :: l) ++ [1]) ((l ++ [1]).map (· * x) ++ [0]) = _
  rw [List.zipWith_append (by simp)]
  congr 1
  show [(1 - 0) % p] = [1]
  rw [Int.sub_zero, Int.emod_eq_of_lt (by decide) hp]
theorem prod_monic {p : Int} (hp : 1 < p) : ∀ (n : Nat) (ns : List Int), ns.length = n → ∃ r, Pr.prodP p ns = r ++ [1] ∧ r.length = n
  | 0, ns, h => by
    have : ns = [] := List.length_eq_zero_iff.mp h
    subst this
    exact ⟨[], rfl, rfl⟩
  | n + 1, ns, h => by
    rcases List.eq_nil_or_concat ns with rfl | ⟨l, x, rfl⟩
    · cases h
    · rw [List.concat_eq_append] at h ⊢
      rw [List.length_append, List.length_singleton] at h
      obtain ⟨r, hr, hl⟩ := prod_monic hp n l (by omega)
      obtain ⟨r2, hr2, hl2⟩ := mulx_monic (x := x) hp r
      refine ⟨r2, ?_, by omega⟩
      show fold1 p (l ++ [x]) = _
      rw [fold1_snoc]
      show Pr.mulx p x (Pr.prodP p l) = _
      rw [hr, hr2]
section
variable {σ : L2.St} {H : Hp} {wl : Addr} {K : PySem.W.Frag} {te ta tb tc tl tp : TE} {D : Ends} {v z : V} {xs ys : List V} {sp : Sp} {E : XK} {S : Int → Prop} {tz tu tw : TS} {tt t u : TT}
theorem dw_num {p : Int} {i j : Nat} (hi : σ[i]? = some (some (.ref wl))) (hj : σ[j]? = some (some (.int p))) (p2 : 2 ≤ p) (pG : p ≤ GP) : Dw (tCall spNum [] E (tCons (tVar i) (tCons (tVar j) tNil))) σ wl H (fun n => 0 ≤ n ∧ n < p) := fun H1 D1 Q q =>
  ⟨_, hi, _, hj, wl, p, rfl, D1.well, p2, pG, fun n H2 n0 n1 D2 => q n H2 ⟨n0, n1⟩ D2⟩
theorem dw_ixT {ns : List Int} {a : Addr} {i j : Nat} (W : Well H wl) (hi : σ[i]? = some (some (.ref wl))) (hj : σ[j]? = some (some (.ref a))) (ha : H a = some (.tup (iL ns))) (h0 : 0 < ns.length) (hl : ns.length ≤ 1000) :
    Dw (tOp (rIxT K) (tVar j) (tCall spDraw [] E (tCons (tVar i) (tCons (tCB (rLenQ K) (tCons (tVar j) tNil)) tNil)))) σ wl H (fun n => n ∈ ns) := fun H1 D1 Q q => by
  have na : a ≠ wl := fun e => by
    obtain ⟨x, y, h1, _⟩ := W
    rw [e, h1] at ha
    cases ha
  have hll := iL_len ns
  refine ⟨_, hj, (dw_draw (m := ((iL ns).length : Int)) hi (fun H2 D2 => ev_lenT (ev_var hj) (D2.keep a _ na ha)) (by omega) (by omega)) H1 D1 _ fun d H2 hd D2 => ?_⟩
  have hd1 : d.toNat < ns.length := by omega
  have ed : d = ((d.toNat : Nat) : Int) := by omega
  have hx : atI (iL ns) d = some (.int ns[d.toNat]) := by
    have := atI_nat (iL_get (List.getElem?_eq_getElem hd1))
    rw [← ed] at this
    exact this
  exact ⟨a, iL ns, d, _, rfl, rfl, st_of ((D1.trans D2).keep a _ na ha), hx, q _ H2 (List.getElem_mem hd1) D2⟩
theorem dwt_and {b : Bool} {U : Bool → Prop} (h1 : ∀ H1, Drawn wl H H1 → EvT t σ H1 b) (h2 : b = true → DwT u σ wl H U) : DwT (tAnd t u) σ wl H (fun c => c = true → b = true) := fun H1 D1 Q q =>
  h1 H1 D1 H1 (Ex.refl _) _ fun H2 e2 => by
    cases b with
    | true =>
      show u σ H2 Q
      exact h2 rfl H2 (D1.same e2) Q fun c H3 hc D3 => q c H3 (fun _ => rfl) ((Drawn.ex D1.well e2).trans D3)
    | false =>
      show Q false H2
      exact q false H2 (fun h => by cases h) (Drawn.ex D1.well e2)
theorem s_ifD {U : Bool → Prop} (W : Well H wl) (h : DwT tt σ wl H U) (h1 : U true → ∀ H1, Drawn wl H H1 → tu D σ H1) (h2 : U false → ∀ H1, Drawn wl H H1 → tw D σ H1) : tIfS tt tu tw D σ H := h H (.refl W) _ fun b H1 hb D1 => by
  cases b with
  | true =>
    show tu D σ H1
    exact h1 hb H1 D1
  | false =>
    show tw D σ H1
    exact h2 hb H1 D1
theorem s_appD {l : Addr} {xs : List V} {i : Nat} (W : Well H wl) (hi : σ[i]? = some (some (.ref l))) (hl : H l = some (.lst xs)) (nl : l ≠ wl) (h : Dw te σ wl H S) (hz : xs.length < 100000) (k : ∀ n H1, S n → Drawn wl H H1 → D.nx σ (upd H1 l (.lst (xs ++ [.int n])))) :
    tDrop (tBM K "list" rAppend (tVar i) (tCons te tNil)) D σ H := ⟨_, hi, Or.inl ⟨rfl, xs, sq_of hl⟩, h H (.refl W) _ fun n H2 hn D2 => ⟨l, xs, .int n, rfl, rfl, D2.keep l _ nl hl, sz_lt hz, k n H2 hn D2⟩⟩
theorem q_forRD {j : Nat} (W : Well H wl) (h : Dw tp σ wl H S) (hS : ∀ n, S n → 0 ≤ n ∧ n ≤ 100000) (Pv : Int → Nat → L2.St → Hp → Prop) (h0 : ∀ n H1, S n → Drawn wl H H1 → Pv n 0 σ H1)
    (hs : ∀ n (i : Nat) σ' H', S n → (i : Int) < n → Pv n i σ' H' → tu { D with nx := Pv n (i + 1), ct := Pv n (i + 1), bk := tz D } (σ'.set j (some (.int (i : Int)))) H') (hd : ∀ n σ' H', S n → Pv n n.toNat σ' H' → tz D σ' H') : tSeq (tFor (iRng1 (tCons tp tNil)) (gName j) tu) tz D σ H :=
  h H (.refl W) _ fun n H1 hn D1 => by
    have hb := hS n hn
    refine ⟨n, rfl, by omega, by omega, for_range (lo := 0) (n := n.toNat) (Pv n) (h0 n H1 hn D1) (fun i σ' H' hi p => ?_) (fun σ' H' p => hd n σ' H' hn p)⟩
    have e0 : (0 : Int) + (i : Int) = (i : Int) := Int.zero_add _
    show tu { D with nx := Pv n (i + 1), ct := Pv n (i + 1), bk := tz D } (σ'.set j (some (.int ((0 : Int) + (i : Int))))) H'
    rw [e0]
    exact hs n i σ' H' hn (by omega) p
end
section
variable {P : Program} {w : World} {K : PySem.W.Frag} {mg : Str → Option Value} {base : Heap} {fD : Addr} {dD : FuncData}
theorem scRR : FnScope ["hat", "prime", "many", "lot", "size", "polynomial", "due", "made", "k", "number"] ["hat", "prime"] (defScope lRootsRight) := ⟨rfl, rfl, rfl, by decide +kernel, rfl, by decide +kernel, by decide +kernel⟩
theorem many7 : ∀ n ∈ ([0, 1, 2, 3, 5, 9, 40] : List Int), 0 ≤ n ∧ n ≤ 200 := by decide
theorem size6 : ∀ n ∈ ([0, 1, 2, 3, 12, 64] : List Int), 0 ≤ n ∧ n ≤ 64 := by decide
theorem made6 : ∀ n ∈ ([0, 1, 2, 3, 7, 64] : List Int), 0 ≤ n ∧ n ≤ 64 := by decide
theorem below_snoc {p : Int} (hp : 1 < p) {ks : List Int} (h : below p ks) {c : Int} (c0 : 0 ≤ c) (c1 : c < p) : below p (ks ++ [c]) := fun x hx => by
  rcases List.mem_append.mp hx with q | q
  · exact h x q
  · rw [List.mem_singleton] at q
    subst q
    exact ⟨c0, c1⟩
theorem ok_RR {f fN fL fR fA fV fS : Addr} {fd dN dL dR dA dV dS : FuncData} (F : Fun K "_law_roots_right" "_law_roots_right" lRootsRight f fd) (B : Bt mg) (D : Dd P w K mg base fD dD)
    (DN : Df K mg "_law_number" lNumber ["hat", "prime"] fN dN) (GN : FnOk P w K mg base CX0 5 fN dN ["hat", "prime"] spNum) (DL : Df K mg "_law_lot" lLot ["hat", "prime", "many", "barred"] fL dL) (GL : FnOk P w K mg base CX0 5 fL dL ["hat", "prime", "many", "barred"] spLot)
    (DR : Df K mg "_law_product" lProduct ["prime", "lot"] fR dR) (GR : FnOk P w K mg base CX0 5 fR dR ["prime", "lot"] (spFnT (pProd true))) (DA : Df K mg "_law_at" lAt ["prime", "polynomial", "place"] fA dA) (GA : FnOk P w K mg base CX0 5 fA dA ["prime", "polynomial", "place"] (spFn pAt))
    (DV : Df K mg "roots" sRoots ["prime", "polynomial", "lot"] fV dV) (GV : FnOk P w K mg base CX0 5 fV dV ["prime", "polynomial", "lot"] (spFnT pRoots)) (DS : Df K mg "_law_same" lSame ["actual", "due"] fS dS) (GS : FnOk P w K mg base CX0 5 fS dS ["actual", "due"] (spFn (pSame 1))) :
    FnOk P w K mg base CX0 6 f fd ["hat", "prime"] spRight := by
  refine F.ok scRR (fun vs H Q E h => ?_) (fun cdv A outer s H vs Q E hr h => ?_)
  · obtain ⟨wl, p, rfl, _⟩ := h
    rfl
  obtain ⟨wl, p, rfl, W, hp, k⟩ := h
  refine ⟨_, pss_cons (ps_set (i := 2) scRR.nd rfl (.inl rfl) (pe_ix ix_list (pe_lst (pa_cons pe_int (pa_cons pe_int (pa_cons pe_int (pa_cons pe_int (pa_cons pe_int (pa_cons pe_int (pa_cons pe_int pa_nil)))))))) (pe_draw D hr (by decide) (by rfl) (pv 0) pe_int) (fun _ _ => rfl)))
    (pss_cons (ps_set (i := 3) scRR.nd rfl (.inl rfl) (pe_call GL hr (by rfl) DL.g DL.F.kp DL.b .nil pass0 (pa_cons (pv 0) (pa_cons (pv 1) (pa_cons (pv 2) (pa_cons (pe_lst pa_nil) pa_nil))))))
    (pss_cons (ps_if (pt_cmpR op_eq (pe_draw D hr (by decide) (by rfl) (pv 0) pe_int) pe_int (nomark _))
      (pss_cons (ps_set (i := 4) scRR.nd rfl (.inl rfl) (pe_ix ix_list (pe_lst (pa_cons pe_int (pa_cons pe_int (pa_cons pe_int (pa_cons pe_int (pa_cons pe_int (pa_cons pe_int pa_nil))))))) (pe_draw D hr (by decide) (by rfl) (pv 0) pe_int) (fun _ _ => rfl)))
      (Evl.pss_cut (ps_set (i := 5) scRR.nd rfl (.inr rfl) (pe_callTy call_tuple_of (by rfl) B.b_tuple boot_tuple' (pa_cons (pe_op op_cat (pe_lc (own := [("k", 8)]) (g := gName 8) (tt := tYes) rfl scRR.nd (pi_range1 (by rfl) B.b_range (pa_cons (pv 4) pa_nil)) (blkOk_by (N := ["hat", "prime", "many", "lot", "size", "polynomial", "due", "made", "k", "number"]) (sc := defScope lRootsRight) (by decide +kernel))
        (fun _ _ _ _ _ => pg_name (i := 8) scRR.nd rfl (Or.inl rfl)) (fun _ _ _ _ _ => pts_nil) (fun _ _ _ _ _ => pe_call GN hr (by rfl) DN.g DN.F.kp DN.b .nil pass0 (pa_cons (pv 0) (pa_cons (pv 1) pa_nil)))) (pe_lst (pa_cons pe_int pa_nil))) pa_nil)))
      (pss_cons (ps_set (i := 6) scRR.nd rfl (.inl rfl) (pe_callTy call_tuple_of (by rfl) B.b_tuple boot_tuple' (pa_cons (pe_lc (own := [("number", 9)]) (g := gName 9) rfl scRR.nd (pi_tup (pv 3)) (blkOk_by (N := ["hat", "prime", "many", "lot", "size", "polynomial", "due", "made", "k", "number"]) (sc := defScope lRootsRight) (by decide +kernel))
        (fun _ _ _ _ _ => pg_name (i := 9) scRR.nd rfl (Or.inl rfl)) (fun _ _ _ _ _ => pts_one (pt_cmpR op_eq (pe_call GA hr (by rfl) DA.g DA.F.kp DA.b .nil pass0 (pa_cons (pv 1) (pa_cons (pv 5) (pa_cons (pv 9) pa_nil)))) pe_int (nomark _))) (fun _ _ _ _ _ => pv 9)) pa_nil)))
      (pss_one (ps_ret (pe_call GS hr (by rfl) DS.g DS.F.kp DS.b .nil pass0 (pa_cons (pe_call GV hr (by rfl) DV.g DV.F.kp DV.b .nil pass0 (pa_cons (pv 1) (pa_cons (pv 5) (pa_cons (pv 3) pa_nil)))) (pa_cons (pv 6) pa_nil)))))))) pss_nil)
    (pss_cons (ps_set (i := 7) scRR.nd rfl (.inr rfl) (pe_lst pa_nil))
    (pss_cons (ps_for PassesOwn.never rfl (pi_range1 (by rfl) B.b_range (pa_cons (pe_ix ix_list (pe_lst (pa_cons pe_int (pa_cons pe_int (pa_cons pe_int (pa_cons pe_int (pa_cons pe_int (pa_cons pe_int pa_nil))))))) (pe_draw D hr (by decide) (by rfl) (pv 0) pe_int) (fun _ _ => rfl)) pa_nil)) (pg_name (i := 8) scRR.nd rfl (Or.inl rfl))
      (pss_one (ps_if (PW.pt (pw_and (pt_cmpR op_gt (pe_callB call_len_seq (by rfl) B.b_len PySem.boot_len (pa_cons (pv 3) pa_nil)) pe_int (nomark _)) (pw_and1 (pt_cmpR op_gt (pe_draw D hr (by decide) (by rfl) (pv 0) pe_int) pe_int (nomark _)))))
        (pss_one (ps_expr (pe_bm PySem.F.plainAttrs_list PySem.F.slot_list_append PySem.F.type_list_append mt_append (pv 7) (pa_cons (pe_ix (show IxR _ (rIxT K) from ix_tup) (pv 3) (pe_draw D hr (by decide) (by rfl) (pv 0) (pe_callB call_len_seq (by rfl) B.b_len PySem.boot_len (pa_cons (pv 3) pa_nil))) (fun _ _ => rfl)) pa_nil))))
        (pss_one (ps_expr (pe_bm PySem.F.plainAttrs_list PySem.F.slot_list_append PySem.F.type_list_append mt_append (pv 7) (pa_cons (pe_call GN hr (by rfl) DN.g DN.F.kp DN.b .nil pass0 (pa_cons (pv 0) (pa_cons (pv 1) pa_nil))) pa_nil)))))))
    (pss_cons (ps_set (i := 6) scRR.nd rfl (.inl rfl) (pe_callTy call_tuple_of (by rfl) B.b_tuple boot_tuple' (pa_cons (pe_lc (own := [("number", 9)]) (g := gName 9) rfl scRR.nd (pi_tup (pv 3)) (blkOk_by (N := ["hat", "prime", "many", "lot", "size", "polynomial", "due", "made", "k", "number"]) (sc := defScope lRootsRight) (by decide +kernel))
        (fun _ _ _ _ _ => pg_name (i := 9) scRR.nd rfl (Or.inl rfl)) (fun _ _ _ _ _ => pts_one (pt_cmpR (show OpR _ _ (rIn K false) from op_in_seq) (pv 9) (pv 7) (by rfl))) (fun _ _ _ _ _ => pv 9)) pa_nil)))
    (pss_one (ps_ret (pe_call GS hr (by rfl) DS.g DS.F.kp DS.b .nil pass0 (pa_cons (pe_call GV hr (by rfl) DV.g DV.F.kp DV.b .nil pass0 (pa_cons (pv 1) (pa_cons (pe_call GR hr (by rfl) DR.g DR.F.kp DR.b .nil pass0 (pa_cons (pv 1) (pa_cons (pv 7) pa_nil))) (pa_cons (pv 3) pa_nil)))) (pa_cons (pv 6) pa_nil)))))))))), ?_⟩
  have p2 := hp.lo
  have pG := hp.hi
  refine q_asgD W (dw_pick (ns := [0, 1, 2, 3, 5, 9, 40]) rfl (fun H3 _ => ea_cons ev_c (ea_cons ev_c (ea_cons ev_c (ea_cons ev_c (ea_cons ev_c (ea_cons ev_c (ea_cons ev_c ea_nil))))))) rfl (by decide) (by decide)) fun m H1 hm D1 => ?_
  have m0 := many7 m hm
  refine ⟨_, rfl, _, rfl, _, rfl, sz_of (show (0 : Nat) ≤ 100000 by decide), fun b hb => ⟨wl, b, p, m, [], rfl, D1.well.same (same_upd hb), p2, pG, m0.1, m0.2, .inr ⟨upd_same, rfl⟩, fun u ns H3 D3 hu hnl bn hpw _ => ?_⟩⟩
  have E3 := (D1.new (o := .lst []) hb).trans D3
  have nu : u ≠ wl := fun e => by
    obtain ⟨x, y, h1, _⟩ := D3.well
    rw [e, h1] at hu
    cases hu
  show tSeq _ _ _ [some (V.ref wl), some (.int p), some (.int m), some (.ref u), none, none, none, none, none, none] H3
  refine q_whenD (U := fun _ => True) D3.well (dwt_eq (dw_draw rfl (fun _ _ => ev_c) (by decide) (by decide)) fun _ _ => trivial) (fun _ H4 D4 => ?_) (fun _ H4 D4 => ?_)
  · have E4 := E3.trans D4
    refine q_asgD D4.well (dw_pick (ns := [0, 1, 2, 3, 12, 64]) rfl (fun H3 _ => ea_cons ev_c (ea_cons ev_c (ea_cons ev_c (ea_cons ev_c (ea_cons ev_c (ea_cons ev_c ea_nil)))))) rfl (by decide) (by decide)) fun sz H5 hsz D5 => ?_
    have s0 := size6 sz hsz
    have E5 := E4.trans D5
    have hu5 : H5 u = some (.tup (iL ns)) := (D4.trans D5).keep u _ nu hu
    refine q_cut (M := fun σ' H' => ∃ (t : Addr) (ks : List Int), σ' = [some (V.ref wl), some (.int p), some (.int m), some (.ref u), some (.int sz), some (.ref t), none, none, none, none] ∧ Drawn wl H H' ∧ H' t = some (.tup (iL (ks ++ [1]))) ∧ ks.length ≤ 64 ∧ below p ks ∧ H' u = some (.tup (iL ns))) ?_ ?_
    · refine ⟨_, rfl, sz, rfl, by omega, by omega, fun D' hD => ?_⟩
      have nD := D5.well.ne hD
      refine lc_range (lo := 0) (n := sz.toNat) (fun i H' => Drawn wl H5 H' ∧ ∃ ks : List Int, H' D' = some (.lst (iL ks)) ∧ ks.length = i ∧ below p ks) ⟨(Drawn.refl D5.well).new hD, [], upd_same, rfl, fun _ h => (by cases h)⟩ ?_ ?_
      · rintro i H' hi ⟨D6, ks, h6, hl6, b6⟩
        refine ⟨rfl, _, rfl, _, rfl, wl, p, rfl, D6.well, p2, pG, fun n H7 n0 n1 D7 => ⟨_, D7.keep D' _ nD h6, sz_lt (by rw [iL_len]; omega), (D6.trans D7).put D5.well hD, ks ++ [n], by rw [upd_same, iL_snoc], by rw [List.length_append, hl6]; rfl, below_snoc (by omega) b6 n0 n1⟩⟩
      · rintro H' ⟨D6, ks, h6, hl6, b6⟩
        refine ⟨sz_of (show (1 : Nat) ≤ 100000 by decide), fun L hL => ⟨D', L, iL ks, [.int 1], rfl, rfl, (Ex.new hL) _ _ h6, upd_same, sz_of (by rw [iL_len]; show ks.length + 1 ≤ _; omega), fun r hr => ⟨r, iL ks ++ [.int 1], rfl, .inl ⟨SqL.of upd_same, fun t ht => ?_⟩⟩⟩⟩
        have D8 := ((D6.new (o := .lst [V.int 1]) hL).new (o := .lst (iL ks ++ [V.int 1])) hr).new (o := .tup (iL ks ++ [V.int 1])) ht
        exact ⟨t, ks, rfl, E5.trans D8, by rw [iL_snoc]; exact upd_same, by omega, b6, D8.keep u _ nu hu5⟩
    · rintro σ' H6 ⟨t, ks, rfl, E6, ht, hkl, bk, hu6⟩
      have bk1 : below p (ks ++ [1]) := below_snoc (by omega) bk (by decide) (by omega)
      have kl1 : (ks ++ [1]).length ≤ 1000 := by rw [List.length_append, List.length_singleton]; omega
      refine q_asgU (xs := iL (ns.filter fun n => decide (Pr.atL p (ks ++ [1]) n 0 1 = 0))) (eu_of (K := K) ?_) fun du H7 _ e7 hdu => ?_
      · exact el_lcT (K := K) (j := 9) (vs := [9]) (fun n => decide (Pr.atL p (ks ++ [1]) n 0 1 = 0)) V.int (ev_var rfl) hu6 (by omega) (fun _ => rfl) (fun n hn => et_is (et_test (ev_op (x := .int (Pr.atL p (ks ++ [1]) n 0 1)) (ev_fn (ea_cons (ev_var rfl) (ea_cons (ev_var rfl) (ea_cons (ev_var rfl) ea_nil))) fun H9 e9 => ⟨p, n, t, ks ++ [1], rfl, e9 _ _ ht, kl1, by omega, pG, bk1, (bn n hn).1, (bn n hn).2, rfl⟩) ev_c (rv_eq rfl))) dec_vi) fun n hn _ => ev_var rfl
      · have hsame : (ns.filter fun n => decide (Pr.atL p (ks ++ [1]) n 0 1 = 0)) = ns.filter fun n => decide (Pr.wor p n (ks ++ [1]) = 0) := by
          congr 1
          funext n
          rw [Pr.wor_at (by omega) (ks ++ [1]) n 1 (.refl _ _)]
        rw [hsame] at hdu
        have hfl := List.length_filter_le (fun n => decide (Pr.wor p n (ks ++ [1]) = 0)) ns
        exact s_ret (ev_call2W (ew_fn (p := pRoots) (xs := iL (ns.filter fun n => decide (Pr.wor p n (ks ++ [1]) = 0))) (ea_cons (ev_var rfl) (ea_cons (ev_var rfl) (ea_cons (ev_var rfl) ea_nil))) fun H9 e9 => ⟨p, t, u, ks, ns, rfl, e9 _ _ (e7 _ _ ht), e9 _ _ (e7 _ _ hu6), hp, hkl, bk1, by omega, hpw, bn, rfl⟩) (ew_var rfl hdu) fun t' u' H9 e9 h9 h9' => spv_same h9 h9' (by omega)) fun H9 e9 => k H9 (E6.same (e7.trans e9))
  · have E4 := E3.trans D4
    have hu4 : H4 u = some (.tup (iL ns)) := D4.keep u _ nu hu
    refine q_asgL (xs := []) (el_lst ea_nil (by show (0 : Nat) ≤ 100000; decide)) fun Dm H5 hDm e5 hdm => ?_
    have E5 := E4.same e5
    have fDm : H Dm = none := E4.free W hDm
    have nDm := D4.well.ne hDm
    have nud : u ≠ Dm := fun e => by
      rw [e, hDm] at hu4
      cases hu4
    refine q_forRD (S := fun n => n ∈ ([0, 1, 2, 3, 7, 64] : List Int)) E5.well (dw_pick (ns := [0, 1, 2, 3, 7, 64]) rfl (fun H3 _ => ea_cons ev_c (ea_cons ev_c (ea_cons ev_c (ea_cons ev_c (ea_cons ev_c (ea_cons ev_c ea_nil)))))) rfl (by decide) (by decide)) (fun n hn => by have := made6 n hn; omega)
      (fun n i σ' H' => (∃ x8 : Option V, σ' = [some (V.ref wl), some (.int p), some (.int m), some (.ref u), none, none, none, some (.ref Dm), x8, none]) ∧ Drawn wl H H' ∧ H' u = some (.tup (iL ns)) ∧ ∃ ks : List Int, H' Dm = some (.lst (iL ks)) ∧ ks.length = i ∧ below p ks) (fun n H6 hn D6 => ⟨⟨none, rfl⟩, E5.trans D6, D6.keep u _ nu (e5 _ _ hu4), [], D6.keep Dm _ nDm hdm, rfl, fun _ h => (by cases h)⟩) ?_ ?_
    · rintro n i σ' H6 hn hi ⟨⟨x8, rfl⟩, E6, hu6, ks, h6, hl6, b6⟩
      have hn6 := made6 n hn
      show tIfS _ _ _ _ [some (V.ref wl), some (.int p), some (.int m), some (.ref u), none, none, none, some (.ref Dm), some (.int (i : Int)), none] H6
      have hll := iL_len ns
      have fin : ∀ (H7 H8 : Hp) (c : Int), Drawn wl H6 H7 → 0 ≤ c → c < p → Drawn wl H7 H8 → (∃ x8 : Option V, [some (V.ref wl), some (.int p), some (.int m), some (.ref u), none, none, none, some (.ref Dm), some (.int (i : Int)), none] = [some (V.ref wl), some (.int p), some (.int m), some (.ref u), none, none, none, some (.ref Dm), x8, none]) ∧ Drawn wl H (upd H8 Dm (.lst (iL ks ++ [.int c]))) ∧ upd H8 Dm (.lst (iL ks ++ [.int c])) u = some (.tup (iL ns)) ∧ ∃ ks' : List Int, upd H8 Dm (.lst (iL ks ++ [.int c])) Dm = some (.lst (iL ks')) ∧ ks'.length = i + 1 ∧ below p ks' := fun H7 H8 c D7 c0 c1 D8 =>
        ⟨⟨_, rfl⟩, ((E6.trans D7).trans D8).put W fDm, by rw [upd_ne nud]; exact (D7.trans D8).keep u _ nu hu6, ks ++ [c], by rw [upd_same, iL_snoc], by rw [List.length_append, hl6]; rfl, below_snoc (by omega) b6 c0 c1⟩
      refine s_ifD (U := fun c => c = true → decide ((0 : Int) < ((iL ns).length : Int)) = true) E6.well (dwt_and (U := fun _ => True) (fun H7 D7 => et_test (ev_op (ev_lenT (ev_var rfl) (D7.keep u _ nu hu6)) ev_c rv_I0)) fun _ => dwt_cmp (dw_draw rfl (fun _ _ => ev_c) (by decide) (by decide)) fun _ _ => trivial) (fun hU H7 D7 => ?_) (fun hU H7 D7 => ?_)
      · have h0 := of_decide_eq_true (hU rfl)
        exact s_appD (S := fun n => n ∈ ns) D7.well rfl (D7.keep Dm _ nDm h6) nDm (dw_ixT (K := K) D7.well rfl rfl (D7.keep u _ nu hu6) (by omega) (by omega)) (by rw [iL_len]; omega) fun c H8 hc D8 => fin H7 H8 c D7 (bn c hc).1 (bn c hc).2 D8
      · exact s_appD D7.well rfl (D7.keep Dm _ nDm h6) nDm (dw_num rfl rfl p2 pG) (by rw [iL_len]; omega) fun c H8 hc D8 => fin H7 H8 c D7 hc.1 hc.2 D8
    · rintro n σ' H6 hn ⟨⟨x8, rfl⟩, E6, hu6, ks, h6, hl6, b6⟩
      have hn6 := made6 n hn
      refine q_asgU (xs := iL (ns.filter fun n => decide (n ∈ ks))) (eu_of (K := K) ?_) fun du H7 _ e7 hdu => ?_
      · exact el_lcT (K := K) (j := 9) (vs := [9]) (fun n => decide (n ∈ ks)) V.int (ev_var rfl) hu6 (by omega) (fun _ => rfl) (fun n hn => et_is (et_test (ev_op (ev_var rfl) (ev_var rfl) (rv_isL (sq_of h6) rfl (iL_flat _)))) (inV_iL n ks)) fun n hn _ => ev_var rfl
      · obtain ⟨r, hr1, hr2⟩ := prod_monic (p := p) (by omega) ks.length ks rfl
        have hsame : (ns.filter fun n => decide (n ∈ ks)) = ns.filter fun n => decide (Pr.wor p n (r ++ [1]) = 0) := by
          refine List.filter_congr fun n hn => decide_eq_decide.mpr ?_
          rw [← hr1]
          exact (Pr.root_iff hp.pri (bn n hn).1 (bn n hn).2 b6).symm
        rw [hsame] at hdu
        have hfl := List.length_filter_le (fun n => decide (Pr.wor p n (r ++ [1]) = 0)) ns
        have bp : below p (r ++ [1]) := by rw [← hr1]; exact prodP_below (by omega) ks
        exact s_ret (ev_call2W (ew_fn3 (p := pRoots) (va := .int p) (vc := .ref u) (ys := iL (r ++ [1])) (xs := iL (ns.filter fun n => decide (Pr.wor p n (r ++ [1]) = 0))) (ev_var rfl) (ew_fn (p := pProd true) (ea_cons (ev_var rfl) (ea_cons (ev_var rfl) ea_nil)) fun H9 e9 => ⟨p, Dm, ks, rfl, e9 _ _ (e7 _ _ h6), by omega, by omega, pG, b6, by rw [hr1]⟩) (ev_var rfl) fun t H9 e9 h9 => ⟨p, t, u, r, ns, rfl, h9, e9 _ _ (e7 _ _ hu6), hp, by omega, bp, by omega, hpw, bn, rfl⟩) (ew_var rfl hdu) fun t' u' H9 e9 h9 h9' => spv_same h9 h9' (by omega)) fun H9 e9 => k H9 (E6.same (e7.trans e9))
end
end Hv
/-! k40: _law_pair, _law_sum, _law_near, _law_numbers_right -/
namespace Hv
open PySem PySem.Spec PyProof.Rows L2 Evl
abbrev lPair : Stmt := topS 53
abbrev lSum : Stmt := topS 54
abbrev lNear : Stmt := topS 55
abbrev lNumsRight : Stmt := topS 56
def revZ (z : Str) : Str := ⟨((Builtin.Str.strSliceIndices none none (-1) z.length).filterMap (z.cps[·]?)).toArray⟩
theorem revZ_len (z : Str) : (revZ z).length ≤ z.length := by
  show (((Builtin.Str.strSliceIndices none none (-1) z.length).filterMap (z.cps[·]?)).toArray).size ≤ _
  rw [List.size_toArray]
  exact Nat.le_trans (List.length_filterMap_le _ _) (sliceIndicesBy_le none none (-1) (by decide) z.length)
def tRevS (te : TE) : TE := fun σ H Q => te σ H fun x H1 => ∃ z, x = .str z ∧ z.length ≤ sizeLine ∧ Q (.str (revZ z)) H1
section
variable {X : Cx}
theorem pe_revS {e : Expr} {te : TE} {k : Nat} {p1 p2 p3 pos : Pos} (he : PE X e te) : PE X (.Subscript e (.Slice none none (some (.UnaryOp .USub (.Constant (.int 1) k p1) p2)) p3) pos) (tRevS te) := by
  refine ⟨fun pins s σ H Q I h => ?_⟩
  refine Subscript_ (thn (he.run pins s σ H _ I h) fun v s1 ⟨x, H1, I1, r1, q1⟩ => ?_)
  obtain ⟨z, ex, hz, q⟩ := q1
  subst ex
  obtain ⟨t, rfl⟩ := r1
  have hst : PO X (some (.UnaryOp .USub (.Constant (.int 1) k p1) p2)) (tPart (tUn (rU fun i => .int (-i)) (tC (.int 1)))) := po_some (pe_un un_neg pe_int)
  refine wpAny_Slice (thn (po_none.run pins s1 σ H1 (fun o H2 => o = none ∧ H2 = H1) I1 ⟨rfl, rfl⟩) fun vl s2 ⟨l, H2, I2, pl, el, e2⟩ => ?_)
  subst el e2
  refine thn (po_none.run pins s2 σ H2 (fun o H3 => o = none ∧ H3 = H2) I2 ⟨rfl, rfl⟩) fun vu s3 ⟨u, H3, I3, pu, eu, e3⟩ => ?_
  subst eu e3
  refine thn (hst.run pins s3 σ H3 (fun o H4 => o = some (-1) ∧ H4 = H3) I3 ⟨1, rfl, -1, rfl, rfl, rfl⟩) fun vs s4 ⟨o, H4, I4, ps, eo, e4⟩ => ?_
  subst eo e4
  have I5 : Inv X pins σ H4 { s4 with heap := s4.heap.push { cls := .type "slice", data := .fields #[vl, vu, vs] } } := I4.kept (t' := s4.toks) fun b ob q => Heap.get?_push_of_some _ q
  obtain ⟨l, rfl, hl⟩ := IsPart.raw pl
  obtain ⟨u, rfl, hu⟩ := IsPart.raw pu
  obtain ⟨st, rfl, hs⟩ := IsPart.raw ps
  show wpAny (model X.prog X.w) X.A (subscriptTail e (.Slice none none (some (.UnaryOp .USub (.Constant (.int 1) k p1) p2)) p3) (.str z t) (.ref s4.heap.objs.size)) (EP X pins σ Q) X.xe { s4 with heap := s4.heap.push { cls := .type "slice", data := .fields #[partValue l, partValue u, partValue st] } }
  refine tail_any (ops := [.str z t, .ref s4.heap.objs.size]) (typeIs_str _ _ _) F.slot_str_getitem.lookup ?_ (by with_unfolding_all rfl)
  refine wpAny_getItem_str_slice (l := l) (u := u) (st := st) ⟨_, Heap.get?_push_size _ rfl, rfl, rfl⟩ (by rw [hs]; rfl) ?_
  unfold sliceMade slicePicked
  rw [hs, hl, hu]
  rw [if_neg (by simp)]
  exact ⟨Nat.le_trans (revZ_len z) hz, .str _, H4, I5.tok _, ⟨_, rfl⟩, q⟩
end
section
variable {σ : L2.St} {H : Hp} {te : TE}
theorem ev_revS {z : Str} (h : Ev te σ H (.str z)) (hz : z.length ≤ 100000) : Ev (tRevS te) σ H (.str (revZ z)) := fun H1 e Q q => h H1 e _ fun H2 e2 => ⟨z, rfl, sz_of hz, q H2 e2⟩
end
theorem rev_tl (z : Str) : TL.tl (revZ z) = (TL.tl z).reverse := by
  have hl := TL.len_tl z
  show ((Builtin.Str.strSliceIndices none none (-1) z.length).filterMap (z.cps[·]?)).toArray.toList = _
  rw [picked_rev, List.toList_toArray]
  refine List.ext_getElem? fun k => ?_
  have e : ((List.range z.length).map fun k => z.length - 1 - k).filterMap (z.cps[·]?) = (List.range z.length).map fun k => z.cps.getD (z.length - 1 - k) 0 := by
    rw [filterMap_get, List.map_map]
    · rfl
    · intro i hi
      obtain ⟨k, hk, rfl⟩ := List.mem_map.mp hi
      have hk' : k < z.length := List.mem_range.mp hk
      show z.length - 1 - k < z.length
      omega
  rw [e, List.getElem?_map]
  by_cases hk : k < z.length
  · rw [List.getElem?_range hk, List.getElem?_reverse (by omega), ← hl]
    show some (z.cps.getD (z.length - 1 - k) 0) = (TL.tl z)[z.length - 1 - k]?
    have h2 : z.length - 1 - k < (TL.tl z).length := by omega
    rw [List.getElem?_eq_getElem h2]
    congr 1
    show z.cps.getD (z.length - 1 - k) 0 = z.cps.toList[z.length - 1 - k]
    have h3 : z.length - 1 - k < z.cps.size := by
      show z.length - 1 - k < z.length
      omega
    rw [Array.getElem_toList]
    simp [Array.getD, h3]
  · rw [List.getElem?_eq_none (by rw [List.length_range]; omega), List.getElem?_eq_none (by rw [List.length_reverse]; omega)]
    rfl
theorem join_tl (zs : List Str) : TL.tl (Txt.join ("" : Str) zs) = (zs.map TL.tl).flatten := by
  rw [TL.join_eq, TL.tl_join]
  have e : TL.tl ("" : Str) = [] := rfl
  rw [e]
  generalize zs.map TL.tl = l
  induction l with
  | nil => rfl
  | cons p r ih =>
    cases r with
    | nil => simp [TL.joinL]
    | cons q r =>
      show p ++ ([] ++ TL.joinL [] (q :: r)) = _
      rw [ih]
      rfl
theorem app_len (a b : Str) : (a ++ b).length = a.length + b.length := by rw [TL.len_tl, TL.tl_append, List.length_append, ← TL.len_tl, ← TL.len_tl]
abbrev rAddZ : R2 := fun x y H Q => ∃ i j : Str, x = .str i ∧ y = .str j ∧ i.length + j.length ≤ sizeLine ∧ Q (.str (i ++ j)) H
section
variable {σ : L2.St} {H : Hp} {wl : Addr} {K : PySem.W.Frag} {te ta tb tm : TE} {S T : Int → Prop} {E : XK}
theorem ev_addS {a b : Str} (ha : Ev ta σ H (.str a)) (hb : Ev tb σ H (.str b)) (h : a.length + b.length ≤ 100000) : Ev (tOp rAddZ ta tb) σ H (.str (a ++ b)) := ev_op ha hb fun H1 _ Q q => ⟨a, b, rfl, rfl, sz_of h, q H1 (Ex.refl H1)⟩
theorem ev_slS {tl th : TO} {z : Str} {lo hi : Option Int} (h : Ev te σ H (.str z)) (h1 : EvO tl σ H lo) (h2 : EvO th σ H hi) (hz : z.length ≤ 100000) : Ev (tSl rSlS te tl th) σ H (.str (cutS z lo hi)) := fun H1 e _ q =>
  h H1 e _ fun H2 e2 => h1 H2 (e.trans e2) _ fun H3 e3 => h2 H3 ((e.trans e2).trans e3) _ fun H4 e4 => ⟨z, rfl, sz_of hz, q H4 ((e2.trans e3).trans e4)⟩
theorem dw_drawD {i : Nat} {b : Int} (h : σ[i]? = some (some (.ref wl))) (hm : Dw tm σ wl H T) (hT : ∀ m, T m → 0 < m ∧ m ≤ b) (hb : b < 2 ^ 90) : Dw (tCall spDraw [] E (tCons (tVar i) (tCons tm tNil))) σ wl H (fun n => 0 ≤ n ∧ n < b) := fun H1 D1 Q q =>
  ⟨_, h, hm H1 D1 _ fun m H2 hmm D2 => ⟨wl, m, rfl, D2.well, (hT m hmm).1, Int.lt_of_le_of_lt (hT m hmm).2 hb, fun d H3 d0 d1 D3 => q d H3 ⟨d0, Int.lt_of_lt_of_le d1 (hT m hmm).2⟩ (D2.trans D3)⟩⟩
end
theorem cut_1 {z : Str} : TL.tl (cutS z (some 1) none) = (TL.tl z).drop 1 := by
  have hl := TL.len_tl z
  show ((z.cps.toList.drop (HT.sIx z.length 0 (some ((1 : Nat) : Int)))).take (HT.sIx z.length z.length none - HT.sIx z.length 0 (some ((1 : Nat) : Int)))) = _
  rw [HT.sIx_nat]
  by_cases h : 1 ≤ z.length
  · rw [Nat.min_eq_left h]
    refine List.take_of_length_le ?_
    rw [List.length_drop]
    show (TL.tl z).length - 1 ≤ z.length - 1
    omega
  · have : TL.tl z = [] := List.length_eq_zero_iff.mp (by omega)
    have h2 : z.cps.toList = [] := this
    rw [h2, this]
    simp
theorem join_sg (cs : List Nat) : TL.tl (Txt.join ("" : Str) (cs.map fun c => (⟨#[c]⟩ : Str))) = cs := by
  rw [join_tl, List.map_map]
  have e : ((TL.tl ∘ fun c => (⟨#[c]⟩ : Str))) = fun c : Nat => [c] := rfl
  rw [e]
  induction cs with
  | nil => rfl
  | cons c cs ih =>
    rw [List.map_cons, List.flatten_cons, ih]
    rfl
theorem sg_sum : ∀ cs : List Nat, ((cs.map fun c => (⟨#[c]⟩ : Str)).map (·.length)).sum = cs.length
  | [] => rfl
  | c :: cs => by
    rw [List.map_cons, List.map_cons, List.sum_cons, sg_sum cs, List.length_cons]
    show 1 + _ = _
    omega
/-! ### pairs -/
def stq (i j : Int) : Prop := stp i j ∧ i < 1000000
structure Pair (H : Hp) (t : Addr) (z : Str) (i j : Int) : Prop where
  ex : ∃ s, H t = some (.tup [.str z, .ref s]) ∧ H s = some (.tup [.int i, .int j])
  nm : nam z
  st : stq i j
theorem Pair.keep {H H1 : Hp} {t wl : Addr} {z : Str} {i j : Int} (h : Pair H t z i j) (W : Well H wl) (D : Drawn wl H H1) : Pair H1 t z i j := by
  obtain ⟨⟨s, h1, h2⟩, h3, h4⟩ := h
  obtain ⟨x, y, hw, _⟩ := W
  exact ⟨⟨s, D.keep t _ (fun e => by rw [e, hw] at h1; cases h1) h1, D.keep s _ (fun e => by rw [e, hw] at h2; cases h2) h2⟩, h3, h4⟩
theorem Pair.mono {H H1 : Hp} {t : Addr} {z : Str} {i j : Int} (h : Pair H t z i j) (e : Ex H H1) : Pair H1 t z i j := by
  obtain ⟨⟨s, h1, h2⟩, h3, h4⟩ := h
  exact ⟨⟨s, e _ _ h1, e _ _ h2⟩, h3, h4⟩
def spPair : Sp := fun vs H Q _ => ∃ wl : Addr, vs = [.ref wl] ∧ Well H wl ∧ ∀ (t : Addr) (z : Str) (i j : Int) (H' : Hp), Drawn wl H H' → Pair H' t z i j → Q (.ref t) H'
def pSum (vs : List V) (H : Hp) (r : V) : Prop := ∃ (t : Addr) (z : Str) (i j : Int), vs = [.ref t] ∧ Pair H t z i j ∧ r = .int (numZ z i j)
def spNear : Sp := fun vs H Q _ => ∃ (wl u : Addr) (z0 : Str) (i0 j0 : Int), vs = [.ref wl, .ref u] ∧ Well H wl ∧ Pair H u z0 i0 j0 ∧ ∀ (t : Addr) (z : Str) (i j : Int) (H' : Hp), Drawn wl H H' → Pair H' t z i j → Q (.ref t) H'
def spNums : Sp := fun vs H Q _ => ∃ wl : Addr, vs = [.ref wl] ∧ Well H wl ∧ ∀ H' : Hp, Drawn wl H H' → Q (.bl true) H'
section
variable {P : Program} {w : World} {K : PySem.W.Frag} {mg : Str → Option Value} {base : Heap} {fD : Addr} {dD : FuncData}
theorem scPair : FnScope ["hat", "letters", "name", "stamp", "k"] ["hat"] (defScope lPair) := ⟨rfl, rfl, rfl, by decide +kernel, rfl, by decide +kernel, by decide +kernel⟩
theorem abc_at : ∀ n < 26, ("abcdefghijklmnopqrstuvwxyz" : Str).cps.toList[n]? = some (97 + n) := by decide +kernel
theorem ok_pair {f : Addr} {fd : FuncData} (F : Fun K "_law_pair" "_law_pair" lPair f fd) (B : Bt mg) (D : Dd P w K mg base fD dD) : FnOk P w K mg base CX0 2 f fd ["hat"] spPair := by
  refine F.ok scPair (fun vs H Q E h => ?_) (fun cdv A outer s H vs Q E hr h => ?_)
  · obtain ⟨wl, rfl, _⟩ := h
    rfl
  obtain ⟨wl, rfl, W, k⟩ := h
  refine ⟨_, pss_cons (ps_set (i := 1) scPair.nd rfl (.inr rfl) pe_str)
    (Evl.pss_cut (ps_set (i := 2) scPair.nd rfl (.inl rfl) (pe_join pe_str (pe_lc (own := [("k", 4)]) (g := gName 4) (tt := tYes) rfl scPair.nd (pi_range1 (by rfl) B.b_range (pa_cons (pe_op op_add pe_int (pe_draw D hr (by decide) (by rfl) (pv 0) pe_int)) pa_nil)) (blkOk_by (N := ["hat", "letters", "name", "stamp", "k"]) (sc := defScope lPair) (by decide +kernel))
      (fun _ _ _ _ _ => pg_name (i := 4) scPair.nd rfl (Or.inl rfl)) (fun _ _ _ _ _ => pts_nil) (fun _ _ _ _ _ => pe_ix ix_str (pv 1) (pe_draw D hr (by decide) (by rfl) (pv 0) pe_int) (fun _ _ => rfl)))))
    (pss_cons (ps_set (i := 3) scPair.nd rfl (.inl rfl) (pe_tup (pa_cons pe_int (pa_cons pe_int pa_nil))))
    (Evl.pss_cut (ps_if (pt_cmpR op_gt (pe_draw D hr (by decide) (by rfl) (pv 0) pe_int) pe_int (nomark _))
      (pss_one (ps_set (i := 3) scPair.nd rfl (.inl rfl) (pe_tup (pa_cons (pe_op op_add pe_int (pe_draw D hr (by decide) (by rfl) (pv 0) (pe_ix ix_list (pe_lst (pa_cons pe_int (pa_cons pe_int pa_nil))) (pe_draw D hr (by decide) (by rfl) (pv 0) pe_int) (fun _ _ => rfl))))
        (pa_cons (pe_op op_add pe_int (pe_draw D hr (by decide) (by rfl) (pv 0) pe_int)) pa_nil))))) pss_nil)
    (pss_one (ps_ret (pe_tup (pa_cons (pv 2) (pa_cons (pv 3) pa_nil)))))))), ?_⟩
  refine q_asg (v := .str "abcdefghijklmnopqrstuvwxyz") ev_c fun H1 e1 => ?_
  have W1 := W.same e1
  refine q_cut (M := fun σ' H' => ∃ z : Str, σ' = [some (.ref wl), some (.str "abcdefghijklmnopqrstuvwxyz"), some (.str z), none, none] ∧ Drawn wl H H' ∧ nam z) ?_ ?_
  · refine ⟨⟨_, rfl⟩, _, rfl, wl, 8, rfl, W1, by decide, by decide, fun d H2 d0 d1 D2 => ⟨1, d, rfl, rfl, 1 + d, rfl, by omega, by omega, fun D' hD => ?_⟩⟩
    have nD := D2.well.ne hD
    refine lc_range (lo := 0) (n := (1 + d).toNat) (fun i H' => Drawn wl H2 H' ∧ ∃ cs : List Nat, H' D' = some (.lst ((cs.map fun c => (⟨#[c]⟩ : Str)).map V.str)) ∧ cs.length = i ∧ ∀ c ∈ cs, 97 ≤ c ∧ c ≤ 122) ⟨(Drawn.refl D2.well).new hD, [], upd_same, rfl, fun _ h => (by cases h)⟩ ?_ ?_
    · rintro i H3 hi ⟨D3, cs, hz, hl, hc⟩
      refine ⟨rfl, _, rfl, _, rfl, wl, 26, rfl, D3.well, by decide, by decide, fun x H4 x0 x1 D4 => ⟨"abcdefghijklmnopqrstuvwxyz", x, 97 + x.toNat, rfl, rfl, sz_of (show (26 : Nat) ≤ 100000 by decide), ?_, _, D4.keep D' _ nD hz, ?_, (D3.trans D4).put D2.well hD, cs ++ [97 + x.toNat], ?_, ?_, ?_⟩⟩
      · have := atI_nat (abc_at x.toNat (by omega))
        rw [show ((x.toNat : Nat) : Int) = x by omega] at this
        exact this
      · exact sz_lt (by rw [List.length_map, List.length_map]; omega)
      · rw [upd_same, List.map_append, List.map_append]
        rfl
      · rw [List.length_append, hl]
        rfl
      · intro c hc2
        rcases List.mem_append.mp hc2 with h | h
        · exact hc c h
        · rw [List.mem_singleton] at h
          omega
    · rintro H3 ⟨D3, cs, hz, hl, hc⟩
      refine ⟨_, D', cs.map fun c => (⟨#[c]⟩ : Str), rfl, rfl, .inl (SqL.of hz), ?_, _, rfl, ((Drawn.ex W e1).trans D2).trans D3, ?_, ?_, ?_⟩
      · rw [sg_sum]
        show cs.length + _ * 0 ≤ 16777216
        omega
      · rw [TL.len_tl, join_sg]
        omega
      · rw [TL.len_tl, join_sg]
        omega
      · rw [join_sg]
        exact hc
  rintro σ' H2 ⟨z, rfl, D2, hz⟩
  refine q_asgU (xs := [V.int 0, V.int 0]) (eu_tup (ea_cons ev_c (ea_cons ev_c ea_nil)) (by show (2 : Nat) ≤ 100000; decide)) fun s0 H3 _ e3 hs0 => ?_
  have D3 := D2.same e3
  refine q_cut (M := fun σ' H' => ∃ (s : Addr) (i j : Int), σ' = [some (.ref wl), some (.str "abcdefghijklmnopqrstuvwxyz"), some (.str z), some (.ref s), none] ∧ Drawn wl H H' ∧ H' s = some (.tup [.int i, .int j]) ∧ stq i j) ?_ ?_
  · refine s_ifD (U := fun _ => True) D3.well (dwt_cmp (dw_draw rfl (fun _ _ => ev_c) (by decide) (by decide)) fun _ _ => trivial) (fun _ H4 D4 => ?_) (fun _ H4 D4 => ?_)
    · refine (dw_op1 (a := 1) (T := fun n => 1 ≤ n ∧ n ≤ 999999) (fun _ _ => ev_c) (dw_drawD (b := 999999) rfl (dw_pick (ns := [3, 999999]) rfl (fun _ _ => ea_cons ev_c (ea_cons ev_c ea_nil)) rfl (by decide) (by decide)) (by decide) (by decide)) fun n hn => by omega) H4 (.refl D4.well) _ fun i H5 hi D5 => ?_
      refine (dw_op1 (a := 1) (T := fun n => 1 ≤ n ∧ n ≤ 99) (fun _ _ => ev_c) (dw_draw (m := 99) rfl (fun _ _ => ev_c) (by decide) (by decide)) fun n hn => by omega) H5 (.refl D5.well) _ fun j H6 hj D6 => ?_
      exact ⟨sz_of (show (2 : Nat) ≤ 100000 by decide), fun p hp' => ⟨p, i, j, rfl, (((D3.trans D4).trans D5).trans D6).new hp', upd_same, .inr ⟨hi.1, hj.1, hj.2⟩, by omega⟩⟩
    · refine ⟨s0, 0, 0, rfl, D3.trans D4, D4.keep s0 _ (fun e => ?_) hs0, .inl ⟨rfl, rfl⟩, by decide⟩
      obtain ⟨x, y, h1, _⟩ := D3.well
      rw [e, h1] at hs0
      cases hs0
  rintro σ' H4 ⟨s, i, j, rfl, D4, hs, hst⟩
  exact s_retU (eu_tup (ea_cons (ev_var rfl) (ea_cons (ev_var rfl) ea_nil)) (by show (2 : Nat) ≤ 100000; decide)) fun t H5 _ e5 h5 => k t z i j H5 (D4.same e5) ⟨⟨s, h5, e5 _ _ hs⟩, hz, hst⟩
theorem scSum : FnScope ["pair", "total", "weight", "sign"] ["pair"] (defScope lSum) := ⟨rfl, rfl, rfl, by decide +kernel, rfl, by decide +kernel, by decide +kernel⟩
theorem find_abc : ∀ d < 26, Txt.find ("abcdefghijklmnopqrstuvwxyz" : Str) ⟨#[97 + d]⟩ = (d : Int) := by decide +kernel
theorem ok_sum {f : Addr} {fd : FuncData} (F : Fun K "_law_sum" "_law_sum" lSum f fd) (B : Bt mg) : FnOk P w K mg base CX0 1 f fd ["pair"] (spFn pSum) := by
  refine F.ok scSum (lenF (by rintro _ _ _ ⟨t, z, i, j, rfl, _⟩; rfl)) (fun cdv A outer s H vs Q E hr h => ?_)
  obtain ⟨r, ⟨t, z, i, j, rfl, ⟨⟨u, ht, hu⟩, ⟨z1, z8, hz⟩, hst⟩, rfl⟩, k⟩ := h
  refine ⟨_, pss_cons (ps_set (i := 1) scSum.nd rfl (.inl rfl) pe_int) (pss_cons (ps_set (i := 2) scSum.nd rfl (.inl rfl) pe_int)
    (pss_cons (ps_for PassesOwn.never rfl (pi_str (pe_revS (pe_ix ix_tup (pv 0) pe_int (fun _ _ => rfl)))) (pg_name (i := 3) scSum.nd rfl (Or.inl rfl))
      (pss_cons (ps_set (i := 1) scSum.nd rfl (.inl rfl) (pe_op op_add (pv 1) (pe_op op_mul (pv 2) (pe_op op_add pe_int (pe_m1 PySem.F.slot_str_find PySem.F.type_str_find mt_find pe_str (pv 3))))))
      (pss_one (ps_set (i := 2) scSum.nd rfl (.inl rfl) (pe_op op_mul (pv 2) pe_int)))))
    (pss_one (ps_ret (pe_op op_add (pe_op op_add (pe_op op_mul (pe_op op_pow pe_int pe_int) (pv 1)) (pe_op op_mul pe_int (pe_ix ix_tup (pe_ix ix_tup (pv 0) pe_int (fun _ _ => rfl)) pe_int (fun _ _ => rfl)))) (pe_ix ix_tup (pe_ix ix_tup (pv 0) pe_int (fun _ _ => rfl)) pe_int (fun _ _ => rfl))))))), ?_⟩
  refine q_asg (v := .int ((0 : Nat) : Int)) ev_c fun H1 e1 => q_asg (v := .int ((1 : Nat) : Int)) ev_c fun H2 e2 => ?_
  have E2 := e1.trans e2
  refine s_forS (z := revZ z) (ev_revS (ev_ixT (j := 0) (v := .str z) (ev_var rfl) (E2 _ _ ht) rfl) (by omega)) (fun n σ' H' => (∃ (a b : Nat) (x3 : Option V), σ' = [some (.ref t), some (.int (a : Int)), some (.int (b : Int)), x3] ∧ Pr.sumL ((dgs z).reverse.drop n) a b = Pr.word (dgs z)) ∧ Ex H H') (fun H3 e3 => ⟨⟨0, 1, none, rfl, ?_⟩, E2.trans e3⟩) ?_ ?_
  · rw [List.drop_zero, Pr.sumL_eq]
    omega
  · rintro n c σ' H3 hc ⟨⟨a, b, x3, rfl, hs⟩, e3⟩
    rw [rev_tl] at hc
    have hcc := hz c (List.mem_reverse.mp (List.mem_of_getElem? hc))
    obtain ⟨d, hd, rfl⟩ : ∃ d, d < 26 ∧ c = 97 + d := ⟨c - 97, by omega, by omega⟩
    have hd1 : (dgs z).reverse[n]? = some (d + 1) := by
      unfold dgs
      rw [← List.map_reverse, List.getElem?_map, hc]
      show some (97 + d - 96) = _
      congr 1
      omega
    have hdr : (dgs z).reverse.drop n = (d + 1) :: (dgs z).reverse.drop (n + 1) := by
      have hi := (List.getElem?_eq_some_iff.mp hd1).1
      rw [List.drop_eq_getElem_cons hi]
      congr 1
      exact (List.getElem?_eq_some_iff.mp hd1).2
    rw [hdr] at hs
    have ei : Ev (tM1 (fun x xs H Q => ∃ a b, x = .str a ∧ xs = [.str b] ∧ Q (.int (Txt.find a b)) H) (tC (.str "abcdefghijklmnopqrstuvwxyz")) (tVar 3)) [some (.ref t), some (.int (a : Int)), some (.int (b : Int)), some (.str ⟨#[97 + d]⟩)] H3 (.int (d : Int)) := fun H4 e Q q =>
      ⟨⟨_, rfl⟩, _, rfl, _, _, rfl, rfl, by rw [find_abc d hd]; exact q H4 (Ex.refl H4)⟩
    show tSeq _ _ _ [some (.ref t), some (.int (a : Int)), some (.int (b : Int)), some (.str ⟨#[97 + d]⟩)] H3
    refine q_asg (v := .int ((a + b * (d + 1) : Nat) : Int)) (ev_is (ev_op (ev_var rfl) (ev_op (ev_var rfl) (ev_op ev_c ei rv_I0) (rv_mul2 (by omega) (by omega))) rv_I0) (congrArg V.int ?_)) fun H4 e4 => ?_
    · rw [Int.natCast_add, Int.natCast_mul, Int.natCast_add, Int.add_comm 1]
      rfl
    · refine s_asg (v := .int ((b * 27 : Nat) : Int)) (ev_is (ev_op (ev_var rfl) ev_c (rv_mul2 (by decide) (by decide))) (congrArg V.int ?_)) fun H5 e5 => ⟨⟨_, _, _, rfl, hs⟩, (e3.trans e4).trans e5⟩
      rw [Int.natCast_mul]
      rfl
  · rintro σ' H3 ⟨⟨a, b, x3, rfl, hs⟩, e3⟩
    have hl : (TL.tl (revZ z)).length = (dgs z).reverse.length := by
      rw [rev_tl, List.length_reverse, List.length_reverse]
      unfold dgs
      rw [List.length_map]
    rw [hl, List.drop_length] at hs
    have hs : a = Pr.word (dgs z) := hs
    have ht3 := e3 _ _ ht
    have hu3 := e3 _ _ hu
    refine s_ret (ev_is (ev_op (ev_op (ev_op (ev_op ev_c ev_c (rv_pow8 (H := H3))) (ev_var rfl) (rv_mul1 (by decide) (by decide))) (ev_op ev_c (ev_ixT (j := 0) (v := .int i) (ev_ixT (j := 1) (v := .ref u) (ev_var rfl) ht3 rfl) hu3 rfl) (rv_mul1 (by decide) (by decide))) rv_I0) (ev_ixT (j := 1) (v := .int j) (ev_ixT (j := 1) (v := .ref u) (ev_var rfl) ht3 rfl) hu3 rfl) rv_I0) (congrArg V.int ?_)) fun H4 e4 => k H4 (e3.trans e4)
    rw [hs]
    rfl
theorem scNear : FnScope ["hat", "pair", "kind"] ["hat", "pair"] (defScope lNear) := ⟨rfl, rfl, rfl, by decide +kernel, rfl, by decide +kernel, by decide +kernel⟩
theorem ok_near {f fP : Addr} {fd dP : FuncData} (F : Fun K "_law_near" "_law_near" lNear f fd) (B : Bt mg) (D : Dd P w K mg base fD dD) (DP : Df K mg "_law_pair" lPair ["hat"] fP dP) : FnOk P w K mg base CX0 3 f fd ["hat", "pair"] spNear := by
  have GP' : FnOk P w K mg base CX0 2 fP dP ["hat"] spPair := ok_pair DP.F B D
  refine F.ok scNear (fun vs H Q E h => ?_) (fun cdv A outer s H vs Q E hr h => ?_)
  · obtain ⟨wl, u, z0, i0, j0, rfl, _⟩ := h
    rfl
  obtain ⟨wl, u, z, i, j, rfl, W, hP, k⟩ := h
  refine ⟨_, pss_cons (ps_set (i := 2) scNear.nd rfl (.inl rfl) (pe_draw D hr (by decide) (by rfl) (pv 0) pe_int))
    (pss_cons (ps_if (pt_cmpR op_eq (pv 2) pe_int (nomark _)) (pss_one (ps_ret (pe_tup (pa_cons (pe_ix ix_tup (pv 1) pe_int (fun _ _ => rfl)) (pa_cons (pe_tup (pa_cons pe_int (pa_cons pe_int pa_nil))) pa_nil))))) pss_nil)
    (pss_cons (ps_if (PW.pt (pw_and (pt_cmpR op_eq (pv 2) pe_int (nomark _)) (pw_and1 (pt_cmpR op_lt (pe_callB call_len_str (by rfl) B.b_len PySem.boot_len (pa_cons (pe_ix ix_tup (pv 1) pe_int (fun _ _ => rfl)) pa_nil)) pe_int (nomark _)))))
      (pss_one (ps_ret (pe_tup (pa_cons (pe_op op_add_str (pe_ix ix_tup (pv 1) pe_int (fun _ _ => rfl)) pe_str) (pa_cons (pe_ix ix_tup (pv 1) pe_int (fun _ _ => rfl)) pa_nil))))) pss_nil)
    (pss_cons (ps_if (PW.pt (pw_and (pt_cmpR op_eq (pv 2) pe_int (nomark _)) (pw_and1 (pt_cmpR op_gt (pe_callB call_len_str (by rfl) B.b_len PySem.boot_len (pa_cons (pe_ix ix_tup (pv 1) pe_int (fun _ _ => rfl)) pa_nil)) pe_int (nomark _)))))
      (pss_one (ps_ret (pe_tup (pa_cons (pe_slice sl_str (pe_ix ix_tup (pv 1) pe_int (fun _ _ => rfl)) (po_some pe_int) po_none) (pa_cons (pe_ix ix_tup (pv 1) pe_int (fun _ _ => rfl)) pa_nil))))) pss_nil)
    (pss_one (ps_ret (pe_call GP' (hr.mono (by decide)) (by rfl) DP.g DP.F.kp DP.b .nil pass0 (pa_cons (pv 0) pa_nil))))))), ?_⟩
  refine q_asgD W (dw_draw rfl (fun _ _ => ev_c) (by decide) (by decide)) fun d H1 _ D1 => ?_
  obtain ⟨⟨s, h1, h2⟩, ⟨z1, z8, hz⟩, hst⟩ := hP.keep W D1
  have hlz := TL.len_tl z
  have at0 : ∀ {H' : Hp}, Ex H1 H' → Ev (tOp (rIxT K) (tVar 1) (tC (.int 0))) [some (.ref wl), some (.ref u), some (.int d)] H' (.str z) := fun e => ev_ixT (j := 0) (ev_var rfl) (e _ _ h1) rfl
  have at1 : ∀ {H' : Hp}, Ex H1 H' → Ev (tOp (rIxT K) (tVar 1) (tC (.int 1))) [some (.ref wl), some (.ref u), some (.int d)] H' (.ref s) := fun e => ev_ixT (j := 1) (ev_var rfl) (e _ _ h1) rfl
  refine q_when (et_test (ev_op (ev_var rfl) ev_c (rv_eq rfl))) (fun q H2 e2 => ?_) (fun q H2 e2 => ?_)
  · refine at0 e2 H2 (Ex.refl _) _ fun H3 e3 => ⟨sz_of (show (2 : Nat) ≤ 100000 by decide), fun s' hs' => ⟨sz_of (show (2 : Nat) ≤ 100000 by decide), fun t ht => ?_⟩⟩
    have D3 := ((D1.same (e2.trans e3)).new (o := .tup [.int 999999, .int 99]) hs').new (o := .tup [.str z, .ref s']) ht
    exact k t z 999999 99 _ D3 ⟨⟨s', upd_same, (Ex.new ht) _ _ upd_same⟩, ⟨z1, z8, hz⟩, .inr ⟨by decide, by decide, by decide⟩, by decide⟩
  refine q_when (b := decide (V.int d = V.int 1) && decide ((z.length : Int) < 8)) (et_and (et_test (ev_op (ev_var rfl) ev_c (rv_eq rfl))) fun _ => et_test (ev_op (ev_lenS (at0 e2) (by omega)) ev_c rv_I0)) (fun q H3 e3 => ?_) (fun q H3 e3 => ?_)
  · rw [Bool.and_eq_true] at q
    have q2 := of_decide_eq_true q.2
    have l1 : (("a" : Str)).length = 1 := by decide +kernel
    refine s_retU (eu_tup (ea_cons (ev_addS (at0 (e2.trans e3)) ev_c (by rw [l1]; omega)) (ea_cons (at1 (e2.trans e3)) ea_nil)) (by show (2 : Nat) ≤ 100000; decide)) fun t H4 _ e4 h4 => k t _ i j H4 (D1.same ((e2.trans e3).trans e4)) ⟨⟨s, h4, ((e2.trans e3).trans e4) _ _ h2⟩, ⟨?_, ?_, ?_⟩, hst⟩
    · rw [app_len, l1]; omega
    · rw [app_len, l1]; omega
    · intro c hc
      rw [TL.tl_append] at hc
      rcases List.mem_append.mp hc with h | h
      · exact hz c h
      · have h : c ∈ ([97] : List Nat) := by
          have e : TL.tl ("a" : Str) = [97] := by decide +kernel
          rw [← e]
          exact h
        rw [List.mem_singleton] at h
        omega
  have e23 := e2.trans e3
  refine q_when (b := decide (V.int d = V.int 2) && decide ((1 : Int) < (z.length : Int))) (et_and (et_test (ev_op (ev_var rfl) ev_c (rv_eq rfl))) fun _ => et_test (ev_op (ev_lenS (at0 e23) (by omega)) ev_c rv_I0)) (fun q H4 e4 => ?_) (fun q H4 e4 => ?_)
  · rw [Bool.and_eq_true] at q
    have q2 := of_decide_eq_true q.2
    have hc1 := cut_1 (z := z)
    refine s_retU (eu_tup (ea_cons (ev_slS (at0 (e23.trans e4)) (eo_some ev_c) eo_none (by omega)) (ea_cons (at1 (e23.trans e4)) ea_nil)) (by show (2 : Nat) ≤ 100000; decide)) fun t H5 _ e5 h5 => k t _ i j H5 (D1.same ((e23.trans e4).trans e5)) ⟨⟨s, h5, ((e23.trans e4).trans e5) _ _ h2⟩, ⟨?_, ?_, ?_⟩, hst⟩
    · rw [TL.len_tl, hc1, List.length_drop]; omega
    · rw [TL.len_tl, hc1, List.length_drop]; omega
    · intro c hc
      rw [hc1] at hc
      exact hz c (List.mem_of_mem_drop hc)
  · have D4 := D1.same (e23.trans e4)
    exact ⟨_, rfl, wl, rfl, D4.well, fun t z' i' j' H5 D5 hP5 => k t z' i' j' H5 (D4.trans D5) hP5⟩
/-! ### both numbers -/
theorem dgs_dig {z : Str} (h : nam z) : Pr.dig (dgs z) := fun d hd => by
  unfold dgs at hd
  obtain ⟨c, hc, rfl⟩ := List.mem_map.mp hd
  have := h.2.2 c hc
  omega
theorem dgs_inj {y z : Str} (hy : nam y) (hz : nam z) (h : dgs y = dgs z) : y = z := by
  refine TL.ext_tl ?_
  have e : ∀ {x : Str}, nam x → (dgs x).map (· + 96) = TL.tl x := fun {x} hx => by
    unfold dgs
    rw [List.map_map]
    conv => rhs; rw [← List.map_id (TL.tl x)]
    refine List.map_congr_left fun c hc => ?_
    have := hx.2.2 c hc
    show c - 96 + 96 = c
    omega
  rw [← e hy, ← e hz, h]
theorem stq_lo {i j : Int} (h : stq i j) : 0 ≤ i ∧ i < 1000000 ∧ 0 ≤ j ∧ j < 100 := by
  rcases h.1 with ⟨h1, h2⟩ | ⟨h1, h2, h3⟩
  · omega
  · have := h.2
    omega
theorem num_iff {y z : Str} {i j m n : Int} (hy : nam y) (hz : nam z) (h1 : stq i j) (h2 : stq m n) : numZ y i j = numZ z m n ↔ (y = z ∧ i = m ∧ j = n) := by
  have b1 := stq_lo h1
  have b2 := stq_lo h2
  constructor
  · intro h
    unfold numZ at h
    have hN := Pr.number_inj (a := dgs y) (b := dgs z) (n := i.toNat) (m := m.toNat) (h := j.toNat) (k := n.toNat) (dgs_dig hy) (dgs_dig hz) (by omega) (by omega) (by omega) (by omega) (by omega)
    exact ⟨dgs_inj hy hz hN.1, by omega, by omega⟩
  · rintro ⟨rfl, rfl, rfl⟩
    rfl
theorem eqv3 (y z : Str) (i j m n : Int) : PyData.eqv (.tuple [.str y, .tuple [.int i, .int j]]) (.tuple [.str z, .tuple [.int m, .int n]]) = (decide (y = z) && (decide (i = m) && decide (j = n))) := by
  simp only [PyData.eqv, PyData.eqvAll, Bool.and_true]
  congr 1
theorem strOk_nam {z : Str} (h : nam z) : PyData.strOk z = true := by
  unfold PyData.strOk
  rw [Array.all_eq_true_iff_forall_mem]
  intro c hc
  have := h.2.2 c (Array.mem_toList_iff.mpr hc)
  exact decide_eq_true (by omega)
theorem shp3 {z : Str} (h : nam z) (i j : Int) : SeqAt.shaped (.tuple [.str z, .tuple [.int i, .int j]]) = true := by
  show ((PyData.tuple [.str z, .tuple [.int i, .int j]]).canLay0 && decide ((PyData.tuple [.str z, .tuple [.int i, .int j]]).depth ≤ 64)) = true
  have := strOk_nam h
  simp [PyData.canLay0, PyData.canLayAll0, PyData.depth, PyData.depthAll, this]
theorem dp3 {H : Hp} {t s : Addr} {z : Str} {i j : Int} (h : H t = some (.tup [.str z, .ref s])) (h2 : H s = some (.tup [.int i, .int j])) : Dp K H (.ref t) (.tuple [.str z, .tuple [.int i, .int j]]) := .tup (st_of h) (.cons (.str z) (.cons (dp2 h2) .nil))
theorem scNR : FnScope ["hat", "pair", "other", "one", "two"] ["hat"] (defScope lNumsRight) := ⟨rfl, rfl, rfl, by decide +kernel, rfl, by decide +kernel, by decide +kernel⟩
theorem ok_NR {f fP fN fO fS fU : Addr} {fd dP dN dO dS dU : FuncData} (F : Fun K "_law_numbers_right" "_law_numbers_right" lNumsRight f fd) (B : Bt mg) (D : Dd P w K mg base fD dD) (DP : Df K mg "_law_pair" lPair ["hat"] fP dP) (DN : Df K mg "_law_near" lNear ["hat", "pair"] fN dN)
    (DO : Df K mg "number_of" sNumberOf ["name", "stamp"] fO dO) (GO : FnOk P w K mg base CX0 5 fO dO ["name", "stamp"] (spFn pNumAt)) (DS : Df K mg "_law_same" lSame ["actual", "due"] fS dS) (DU : Df K mg "_law_sum" lSum ["pair"] fU dU) : FnOk P w K mg base CX0 6 f fd ["hat"] spNums := by
  have GP' : FnOk P w K mg base CX0 5 fP dP ["hat"] spPair := (ok_pair DP.F B D).mono (by decide)
  have GN : FnOk P w K mg base CX0 5 fN dN ["hat", "pair"] spNear := (ok_near DN.F B D DP).mono (by decide)
  have GS : FnOk P w K mg base CX0 5 fS dS ["actual", "due"] (spFn (pSame 1)) := (ok_same DS B).mono (by decide)
  have GU : FnOk P w K mg base CX0 5 fU dU ["pair"] (spFn pSum) := (ok_sum DU.F B).mono (by decide)
  refine F.ok scNR (fun vs H Q E h => ?_) (fun cdv A outer s H vs Q E hr h => ?_)
  · obtain ⟨wl, rfl, _⟩ := h
    rfl
  obtain ⟨wl, rfl, W, k⟩ := h
  refine ⟨_, pss_cons (ps_set (i := 1) scNR.nd rfl (.inl rfl) (pe_call GP' hr (by rfl) DP.g DP.F.kp DP.b .nil pass0 (pa_cons (pv 0) pa_nil)))
    (pss_cons (ps_set (i := 2) scNR.nd rfl (.inl rfl) (pe_call GN hr (by rfl) DN.g DN.F.kp DN.b .nil pass0 (pa_cons (pv 0) (pa_cons (pv 1) pa_nil))))
    (pss_cons (ps_set (i := 3) scNR.nd rfl (.inl rfl) (pe_call GO hr (by rfl) DO.g DO.F.kp DO.b .nil pass0 (pa_cons (pe_ix ix_tup (pv 1) pe_int (fun _ _ => rfl)) (pa_cons (pe_ix ix_tup (pv 1) pe_int (fun _ _ => rfl)) pa_nil))))
    (pss_cons (ps_set (i := 4) scNR.nd rfl (.inl rfl) (pe_call GO hr (by rfl) DO.g DO.F.kp DO.b .nil pass0 (pa_cons (pe_ix ix_tup (pv 2) pe_int (fun _ _ => rfl)) (pa_cons (pe_ix ix_tup (pv 2) pe_int (fun _ _ => rfl)) pa_nil))))
    (pss_cons (ps_if (PW.pt (pw_or (pt_not (pt_val (pe_call GS hr (by rfl) DS.g DS.F.kp DS.b .nil pass0 (pa_cons (pv 3) (pa_cons (pe_call GU hr (by rfl) DU.g DU.F.kp DU.b .nil pass0 (pa_cons (pv 1) pa_nil)) pa_nil)))))
      (pw_or1 (pt_not (pt_val (pe_call GS hr (by rfl) DS.g DS.F.kp DS.b .nil pass0 (pa_cons (pv 4) (pa_cons (pe_call GU hr (by rfl) DU.g DU.F.kp DU.b .nil pass0 (pa_cons (pv 2) pa_nil)) pa_nil)))))))) (pss_one (ps_ret pe_bl)) pss_nil)
    (pss_one (ps_ret (pe_cmpR op_eq (pe_cmpR op_eq (pv 3) (pv 4) (nomark _)) (pe_cmpR (op_eqD (room_hu hr)) (pv 1) (pv 2) (nomark _)) (nomark _)))))))), ?_⟩
  refine q_asgC (vs := [.ref wl]) (ea_cons (ev_var rfl) ea_nil) fun H1 e1 => ⟨wl, rfl, W.same e1, fun t z i j H2 D2 hp => ?_⟩
  have E2 := (Drawn.ex W e1).trans D2
  show tSeq _ _ _ [some (.ref wl), some (.ref t), none, none, none] H2
  refine q_asgC (vs := [.ref wl, .ref t]) (ea_cons (ev_var rfl) (ea_cons (ev_var rfl) ea_nil)) fun H3 e3 => ⟨wl, t, z, i, j, rfl, D2.well.same e3, hp.mono e3, fun u y m n H4 D4 hq => ?_⟩
  have E4 := (E2.same e3).trans D4
  have hp4 : Pair H4 t z i j := (hp.mono e3).keep (D2.well.same e3) D4
  obtain ⟨⟨s, ht, hs⟩, nz, sz⟩ := hp4
  obtain ⟨⟨v, hu, hv⟩, ny, sy⟩ := hq
  show tSeq _ _ _ [some (.ref wl), some (.ref t), some (.ref u), none, none] H4
  refine q_asg (v := .int (numZ z i j)) (ev_fn (ea_cons (ev_ixT (j := 0) (v := .str z) (ev_var rfl) ht rfl) (ea_cons (ev_ixT (j := 1) (v := .ref s) (ev_var rfl) ht rfl) ea_nil)) fun H5 e5 => ⟨z, s, i, j, rfl, e5 _ _ hs, nz, sz.1, rfl⟩) fun H5 e5 => ?_
  have hu5 := e5 _ _ hu
  have hv5 := e5 _ _ hv
  refine q_asg (v := .int (numZ y m n)) (ev_fn (ea_cons (ev_ixT (j := 0) (v := .str y) (ev_var rfl) hu5 rfl) (ea_cons (ev_ixT (j := 1) (v := .ref v) (ev_var rfl) hu5 rfl) ea_nil)) fun H6 e6 => ⟨y, v, m, n, rfl, e6 _ _ hv5, ny, sy.1, rfl⟩) fun H6 e6 => ?_
  have e56 := e5.trans e6
  have sam : ∀ (q : Int), pSame 1 [.int q, .int q] H6 (.bl true) := fun q => .inl ⟨q, rfl, rfl⟩
  refine q_when (b := !true || !true) (et_or (et_not (et_B (ev_fn (p := pSame 1) (v := .bl true) (ea_cons (ev_var rfl) (ea_cons (ev_fn (p := pSum) (v := .int (numZ z i j)) (ea_cons (ev_var rfl) ea_nil) fun H7 e7 => ⟨t, z, i, j, rfl, ⟨⟨s, e7 _ _ (e56 _ _ ht), e7 _ _ (e56 _ _ hs)⟩, nz, sz⟩, rfl⟩) ea_nil)) fun H7 e7 => .inl ⟨_, rfl, rfl⟩))) fun _ =>
    et_not (et_B (ev_fn (p := pSame 1) (v := .bl true) (ea_cons (ev_var rfl) (ea_cons (ev_fn (p := pSum) (v := .int (numZ y m n)) (ea_cons (ev_var rfl) ea_nil) fun H7 e7 => ⟨u, y, m, n, rfl, ⟨⟨v, e7 _ _ (e56 _ _ hu), e7 _ _ (e56 _ _ hv)⟩, ny, sy⟩, rfl⟩) ea_nil)) fun H7 e7 => .inl ⟨_, rfl, rfl⟩))) (fun q => by cases q) (fun q H7 e7 => ?_)
  have e57 := e56.trans e7
  have eqp : RV (rEqD K) (.ref t) (.ref u) H7 (.bl (decide (z = y) && (decide (i = m) && decide (j = n)))) := fun H8 e8 Q f =>
    ⟨_, _, dp3 (e8 _ _ (e57 _ _ ht)) (e8 _ _ (e57 _ _ hs)), dp3 (e8 _ _ (e57 _ _ hu)) (e8 _ _ (e57 _ _ hv)), shp3 nz _ _, shp3 ny _ _, by rw [eqv3]; exact f H8 (Ex.refl H8)⟩
  refine s_ret (ev_is (ev_op (ev_op (ev_var rfl) (ev_var rfl) (rv_eq rfl)) (ev_op (ev_var rfl) (ev_var rfl) eqp) (rv_eq rfl)) (congrArg V.bl (decide_eq_true (congrArg V.bl ?_)))) fun H8 e8 => k H8 (E4.same (e57.trans e8))
  rw [dec_vi, ← Bool.decide_and, ← Bool.decide_and]
  exact decide_eq_decide.mpr (num_iff nz ny sz sy)
end
end Hv
/-! k40: _law_one, law -/
namespace Hv
open PySem PySem.Spec PyProof.Rows L2 Evl
abbrev lOne : Stmt := topS 57
abbrev lLaw : Stmt := topS 58
/-- all that the law's run reaches -/
structure La (K : PySem.W.Frag) (mg : Str → Option Value) : Prop where
  B : Bt mg
  N : Kn mg
  dis_integer : ∃ (f : Addr) (d : FuncData), Df K mg "is_integer" sIsInt ["thing"] f d
  dis_count : ∃ (f : Addr) (d : FuncData), Df K mg "is_count" sIsCount ["thing"] f d
  dis_from_one : ∃ (f : Addr) (d : FuncData), Df K mg "is_from_one" sFromOne ["thing"] f d
  dis_pair : ∃ (f : Addr) (d : FuncData), Df K mg "is_pair" sIsPair ["thing"] f d
  dis_ascending : ∃ (f : Addr) (d : FuncData), Df K mg "is_ascending" sIsAsc ["things"] f d
  dis_hand : ∃ (f : Addr) (d : FuncData), Df K mg "is_hand" sIsHand ["thing"] f d
  dis_name : ∃ (f : Addr) (d : FuncData), Df K mg "is_name" sIsName ["thing"] f d
  dis_stamp : ∃ (f : Addr) (d : FuncData), Df K mg "is_stamp" sIsStamp ["thing"] f d
  dworth_at : ∃ (f : Addr) (d : FuncData), Df K mg "worth_at" sWorth ["polynomial", "place", "prime"] f d
  dis_prime : ∃ (f : Addr) (d : FuncData), Df K mg "is_prime" sIsPrime ["thing"] f d
  dis_below : ∃ (f : Addr) (d : FuncData), Df K mg "is_below" sIsBelow ["prime", "thing"] f d
  dis_lot : ∃ (f : Addr) (d : FuncData), Df K mg "is_lot" sIsLot ["prime", "thing"] f d
  dis_places : ∃ (f : Addr) (d : FuncData), Df K mg "is_places" sIsPlaces ["prime", "lot", "thing"] f d
  dis_polynomial : ∃ (f : Addr) (d : FuncData), Df K mg "is_polynomial" sIsPoly ["prime", "thing"] f d
  dvalues : ∃ (f : Addr) (d : FuncData), Df K mg "values" sValues ["prime", "lot", "places"] f d
  dvalues_of : ∃ (f : Addr) (d : FuncData), Df K mg "values_of" sValuesOf ["prime", "lot", "places"] f d
  d_value : ∃ (f : Addr) (d : FuncData), Df K mg "_value" sValue ["prime", "lot", "place"] f d
  droots : ∃ (f : Addr) (d : FuncData), Df K mg "roots" sRoots ["prime", "polynomial", "lot"] f d
  droots_of : ∃ (f : Addr) (d : FuncData), Df K mg "roots_of" sRootsOf ["prime", "polynomial", "lot"] f d
  dnumber_of : ∃ (f : Addr) (d : FuncData), Df K mg "number_of" sNumberOf ["name", "stamp"] f d
  dnumber_at : ∃ (f : Addr) (d : FuncData), Df K mg "number_at" sNumberAt ["name", "stamp"] f d
  d_law_hat : ∃ (f : Addr) (d : FuncData), Df K mg "_law_hat" lHat ["cell", "k"] f d
  d_law_draw : ∃ (f : Addr) (d : FuncData), Df K mg "_law_draw" sDraw ["hat", "many"] f d
  d_law_same : ∃ (f : Addr) (d : FuncData), Df K mg "_law_same" lSame ["actual", "due"] f d
  d_law_prime : ∃ (f : Addr) (d : FuncData), Df K mg "_law_prime" lPrime ["hat"] f d
  d_law_number : ∃ (f : Addr) (d : FuncData), Df K mg "_law_number" lNumber ["hat", "prime"] f d
  d_law_lot : ∃ (f : Addr) (d : FuncData), Df K mg "_law_lot" lLot ["hat", "prime", "many", "barred"] f d
  d_law_places : ∃ (f : Addr) (d : FuncData), Df K mg "_law_places" lPlaces ["hat", "prime", "many", "barred"] f d
  d_law_product : ∃ (f : Addr) (d : FuncData), Df K mg "_law_product" lProduct ["prime", "lot"] f d
  d_law_at : ∃ (f : Addr) (d : FuncData), Df K mg "_law_at" lAt ["prime", "polynomial", "place"] f d
  d_law_values_right : ∃ (f : Addr) (d : FuncData), Df K mg "_law_values_right" lValuesRight ["hat", "prime"] f d
  d_law_roots_right : ∃ (f : Addr) (d : FuncData), Df K mg "_law_roots_right" lRootsRight ["hat", "prime"] f d
  d_law_pair : ∃ (f : Addr) (d : FuncData), Df K mg "_law_pair" lPair ["hat"] f d
  d_law_sum : ∃ (f : Addr) (d : FuncData), Df K mg "_law_sum" lSum ["pair"] f d
  d_law_near : ∃ (f : Addr) (d : FuncData), Df K mg "_law_near" lNear ["hat", "pair"] f d
  d_law_numbers_right : ∃ (f : Addr) (d : FuncData), Df K mg "_law_numbers_right" lNumsRight ["hat"] f d
  d_law_one : ∃ (f : Addr) (d : FuncData), Df K mg "_law_one" lOne ["hat"] f d
section
variable {P : Program} {w : World} {K : PySem.W.Frag} {mg : Str → Option Value} {base : Heap} {fD : Addr} {dD : FuncData}
theorem scOne : FnScope ["hat", "kind", "prime"] ["hat"] (defScope lOne) := ⟨rfl, rfl, rfl, by decide +kernel, rfl, by decide +kernel, by decide +kernel⟩
theorem ok_one {f fN fP fV fR : Addr} {fd dN dP dV dR : FuncData} (F : Fun K "_law_one" "_law_one" lOne f fd) (D : Dd P w K mg base fD dD) (DN : Df K mg "_law_numbers_right" lNumsRight ["hat"] fN dN) (GN : FnOk P w K mg base CX0 6 fN dN ["hat"] spNums)
    (DP : Df K mg "_law_prime" lPrime ["hat"] fP dP) (GP' : FnOk P w K mg base CX0 6 fP dP ["hat"] spPrime) (DV : Df K mg "_law_values_right" lValuesRight ["hat", "prime"] fV dV) (GV : FnOk P w K mg base CX0 6 fV dV ["hat", "prime"] spRight) (DR : Df K mg "_law_roots_right" lRootsRight ["hat", "prime"] fR dR) (GR : FnOk P w K mg base CX0 6 fR dR ["hat", "prime"] spRight) :
    FnOk P w K mg base CX0 7 f fd ["hat"] spNums := by
  refine F.ok scOne (fun vs H Q E h => ?_) (fun cdv A outer s H vs Q E hr h => ?_)
  · obtain ⟨wl, rfl, _⟩ := h
    rfl
  obtain ⟨wl, rfl, W, k⟩ := h
  refine ⟨_, pss_cons (ps_set (i := 1) scOne.nd rfl (.inl rfl) (pe_draw D hr (by decide) (by rfl) (pv 0) pe_int))
    (pss_cons (ps_if (pt_cmpR op_eq (pv 1) pe_int (nomark _)) (pss_one (ps_ret (pe_call GN hr (by rfl) DN.g DN.F.kp DN.b .nil pass0 (pa_cons (pv 0) pa_nil)))) pss_nil)
    (pss_cons (ps_set (i := 2) scOne.nd rfl (.inl rfl) (pe_call GP' hr (by rfl) DP.g DP.F.kp DP.b .nil pass0 (pa_cons (pv 0) pa_nil)))
    (pss_cons (ps_if (pt_cmpR op_eq (pv 1) pe_int (nomark _)) (pss_one (ps_ret (pe_call GV hr (by rfl) DV.g DV.F.kp DV.b .nil pass0 (pa_cons (pv 0) (pa_cons (pv 2) pa_nil))))) pss_nil)
    (pss_one (ps_ret (pe_call GR hr (by rfl) DR.g DR.F.kp DR.b .nil pass0 (pa_cons (pv 0) (pa_cons (pv 2) pa_nil)))))))), ?_⟩
  refine q_asgD W (dw_draw rfl (fun _ _ => ev_c) (by decide) (by decide)) fun d H1 _ D1 => ?_
  refine q_when (et_test (ev_op (ev_var rfl) ev_c (rv_eq rfl))) (fun q H2 e2 => ?_) (fun q H2 e2 => ?_)
  · have D2 := D1.same e2
    exact ⟨_, rfl, wl, rfl, D2.well, fun H' D' => k H' (D2.trans D')⟩
  have D2 := D1.same e2
  refine q_asgC (vs := [.ref wl]) (ea_cons (ev_var rfl) ea_nil) fun H3 e3 => ⟨wl, rfl, D2.well.same e3, fun p H4 hp D4 => ?_⟩
  have E4 := (D2.same e3).trans D4
  show tSeq _ _ _ [some (.ref wl), some (.int d), some (.int p)] H4
  refine q_when (et_test (ev_op (ev_var rfl) ev_c (rv_eq rfl))) (fun q H5 e5 => ?_) (fun q H5 e5 => ?_)
  · have D5 := E4.same e5
    exact ⟨_, rfl, _, rfl, wl, p, rfl, D5.well, hp, fun H' D' => k H' (D5.trans D')⟩
  · have D5 := E4.same e5
    exact ⟨_, rfl, _, rfl, wl, p, rfl, D5.well, hp, fun H' D' => k H' (D5.trans D')⟩
def spLaw (K : PySem.W.Frag) : Sp := fun vs H Q _ => ∃ (a : Addr) (ns : List Int), vs = [.ref a] ∧ SqL K H a (ns.map V.int) ∧ ns.length ≤ 63 ∧ ∀ H', Q (.bl true) H'
theorem scLaw : FnScope ["script", "k", "cell"] ["script"] (defScope lLaw) := ⟨rfl, rfl, rfl, by decide +kernel, rfl, by decide +kernel, by decide +kernel⟩
theorem ok_law {f : Addr} {fd : FuncData} (F : Fun K "law" "law" lLaw f fd) (L : La K mg) : FnOk P w K mg base CX0 8 f fd ["script"] (spLaw K) := by
  obtain ⟨fis_integer, dis_integer, Dis_integer⟩ := L.dis_integer
  obtain ⟨fis_count, dis_count, Dis_count⟩ := L.dis_count
  obtain ⟨fis_from_one, dis_from_one, Dis_from_one⟩ := L.dis_from_one
  obtain ⟨fis_pair, dis_pair, Dis_pair⟩ := L.dis_pair
  obtain ⟨fis_ascending, dis_ascending, Dis_ascending⟩ := L.dis_ascending
  obtain ⟨fis_hand, dis_hand, Dis_hand⟩ := L.dis_hand
  obtain ⟨fis_name, dis_name, Dis_name⟩ := L.dis_name
  obtain ⟨fis_stamp, dis_stamp, Dis_stamp⟩ := L.dis_stamp
  obtain ⟨fworth_at, dworth_at, Dworth_at⟩ := L.dworth_at
  obtain ⟨fis_prime, dis_prime, Dis_prime⟩ := L.dis_prime
  obtain ⟨fis_below, dis_below, Dis_below⟩ := L.dis_below
  obtain ⟨fis_lot, dis_lot, Dis_lot⟩ := L.dis_lot
  obtain ⟨fis_places, dis_places, Dis_places⟩ := L.dis_places
  obtain ⟨fis_polynomial, dis_polynomial, Dis_polynomial⟩ := L.dis_polynomial
  obtain ⟨fvalues, dvalues, Dvalues⟩ := L.dvalues
  obtain ⟨fvalues_of, dvalues_of, Dvalues_of⟩ := L.dvalues_of
  obtain ⟨f_value, d_value, D_value⟩ := L.d_value
  obtain ⟨froots, droots, Droots⟩ := L.droots
  obtain ⟨froots_of, droots_of, Droots_of⟩ := L.droots_of
  obtain ⟨fnumber_of, dnumber_of, Dnumber_of⟩ := L.dnumber_of
  obtain ⟨fnumber_at, dnumber_at, Dnumber_at⟩ := L.dnumber_at
  obtain ⟨f_law_hat, d_law_hat, D_law_hat⟩ := L.d_law_hat
  obtain ⟨f_law_draw, d_law_draw, D_law_draw⟩ := L.d_law_draw
  obtain ⟨f_law_same, d_law_same, D_law_same⟩ := L.d_law_same
  obtain ⟨f_law_prime, d_law_prime, D_law_prime⟩ := L.d_law_prime
  obtain ⟨f_law_number, d_law_number, D_law_number⟩ := L.d_law_number
  obtain ⟨f_law_lot, d_law_lot, D_law_lot⟩ := L.d_law_lot
  obtain ⟨f_law_places, d_law_places, D_law_places⟩ := L.d_law_places
  obtain ⟨f_law_product, d_law_product, D_law_product⟩ := L.d_law_product
  obtain ⟨f_law_at, d_law_at, D_law_at⟩ := L.d_law_at
  obtain ⟨f_law_values_right, d_law_values_right, D_law_values_right⟩ := L.d_law_values_right
  obtain ⟨f_law_roots_right, d_law_roots_right, D_law_roots_right⟩ := L.d_law_roots_right
  obtain ⟨f_law_pair, d_law_pair, D_law_pair⟩ := L.d_law_pair
  obtain ⟨f_law_sum, d_law_sum, D_law_sum⟩ := L.d_law_sum
  obtain ⟨f_law_near, d_law_near, D_law_near⟩ := L.d_law_near
  obtain ⟨f_law_numbers_right, d_law_numbers_right, D_law_numbers_right⟩ := L.d_law_numbers_right
  obtain ⟨f_law_one, d_law_one, D_law_one⟩ := L.d_law_one
  have B := L.B
  have N := L.N
  have D : Dd P w K mg base f_law_draw d_law_draw := ⟨ok_draw D_law_draw.F B, D_law_draw.g, D_law_draw.F.kp, D_law_draw.b⟩
  have G1 : FnOk P w K mg base CX0 4 fis_prime dis_prime ["thing"] (spFn pPrime) := (ok_isPrime Dis_prime.F B N Dis_integer).mono (by decide)
  have G2 : FnOk P w K mg base CX0 3 fis_below dis_below ["prime", "thing"] (spFn pBelow) := ok_isBelow Dis_below.F B Dis_integer Dis_count
  have G3 : FnOk P w K mg base CX0 4 fis_lot dis_lot ["prime", "thing"] (spFn pLot) := ok_isLot Dis_lot.F B N Dis_below G2 Dis_ascending
  have G4 : FnOk P w K mg base CX0 4 fis_places dis_places ["prime", "lot", "thing"] (spFn pPlaces) := ok_isPlaces Dis_places.F B N Dis_below G2
  have G5 : FnOk P w K mg base CX0 4 fis_polynomial dis_polynomial ["prime", "thing"] (spFn pPoly) := ok_isPoly Dis_polynomial.F B N Dis_below G2
  have G6 : FnOk P w K mg base CX0 4 fvalues_of dvalues_of ["prime", "lot", "places"] (spFnT pValuesOf) := (ok_valuesOf Dvalues_of.F B D_value).mono (by decide)
  have G7 : FnOk P w K mg base CX0 5 fvalues dvalues ["prime", "lot", "places"] (spFnT pValues) := ok_values Dvalues.F B Dis_prime G1 Dis_lot G3 Dis_places G4 Dvalues_of G6
  have G8 : FnOk P w K mg base CX0 4 froots_of droots_of ["prime", "polynomial", "lot"] (spFnT pRootsOf) := (ok_rootsOf Droots_of.F B Dworth_at).mono (by decide)
  have G9 : FnOk P w K mg base CX0 5 froots droots ["prime", "polynomial", "lot"] (spFnT pRoots) := ok_roots Droots.F B Dis_prime G1 Dis_polynomial G5 Dis_lot G3 Droots_of G8
  have G10 : FnOk P w K mg base CX0 4 fis_name dis_name ["thing"] (spFn pName) := (ok_isName Dis_name.F B N).mono (by decide)
  have G11 : FnOk P w K mg base CX0 4 fis_stamp dis_stamp ["thing"] (spFn pStamp) := (ok_isStamp Dis_stamp.F B N Dis_integer Dis_pair Dis_from_one Dis_hand).mono (by decide)
  have G12 : FnOk P w K mg base CX0 4 fnumber_at dnumber_at ["name", "stamp"] (spFn pNumAt) := (ok_numAt Dnumber_at.F B N).mono (by decide)
  have G13 : FnOk P w K mg base CX0 5 fnumber_of dnumber_of ["name", "stamp"] (spFn pNumAt) := ok_numOf Dnumber_of.F B Dis_name G10 Dis_stamp G11 Dnumber_at G12
  have GH : FnOk P w K mg base CX0 7 f_law_hat d_law_hat ["cell", "k"] spHat := (ok_hat D_law_hat.F B).mono (by decide)
  have GS : FnOk P w K mg base CX0 5 f_law_same d_law_same ["actual", "due"] (spFn (pSame 1)) := (ok_same D_law_same B).mono (by decide)
  have GPr : FnOk P w K mg base CX0 6 f_law_prime d_law_prime ["hat"] spPrime := (ok_prime D_law_prime.F B D).mono (by decide)
  have GNu : FnOk P w K mg base CX0 5 f_law_number d_law_number ["hat", "prime"] spNum := (ok_number D_law_number.F B D).mono (by decide)
  have GL : FnOk P w K mg base CX0 5 f_law_lot d_law_lot ["hat", "prime", "many", "barred"] spLot := (ok_lot D_law_lot.F B D_law_number D).mono (by decide)
  have GPl : FnOk P w K mg base CX0 5 f_law_places d_law_places ["hat", "prime", "many", "barred"] spPl := (ok_places D_law_places.F B D_law_number D).mono (by decide)
  have GT : FnOk P w K mg base CX0 5 f_law_product d_law_product ["prime", "lot"] (spFnT (pProd false)) := (ok_prodT D_law_product.F B).mono (by decide)
  have GLi : FnOk P w K mg base CX0 5 f_law_product d_law_product ["prime", "lot"] (spFnT (pProd true)) := (ok_prodL D_law_product.F B).mono (by decide)
  have GA : FnOk P w K mg base CX0 5 f_law_at d_law_at ["prime", "polynomial", "place"] (spFn pAt) := (ok_at D_law_at.F B).mono (by decide)
  have GV : FnOk P w K mg base CX0 6 f_law_values_right d_law_values_right ["hat", "prime"] spRight := ok_VR D_law_values_right.F B D D_law_places GPl D_law_lot GL D_law_product GT D_law_at GA Dvalues G7 D_law_same GS
  have GR : FnOk P w K mg base CX0 6 f_law_roots_right d_law_roots_right ["hat", "prime"] spRight := ok_RR D_law_roots_right.F B D D_law_number GNu D_law_lot GL D_law_product GLi D_law_at GA Droots G9 D_law_same GS
  have GN : FnOk P w K mg base CX0 6 f_law_numbers_right d_law_numbers_right ["hat"] spNums := ok_NR D_law_numbers_right.F B D D_law_pair D_law_near Dnumber_of G13 D_law_same D_law_sum
  have GO : FnOk P w K mg base CX0 7 f_law_one d_law_one ["hat"] spNums := ok_one D_law_one.F D D_law_numbers_right GN D_law_prime GPr D_law_values_right GV D_law_roots_right GR
  refine F.ok scLaw (fun vs H Q E h => ?_) (fun cdv A outer s H vs Q E hr h => ?_)
  · obtain ⟨a, ns, rfl, _⟩ := h
    rfl
  obtain ⟨a, ns, rfl, hS, hl, k⟩ := h
  refine ⟨_, pss_cons (ps_for PassesOwn.never rfl (pi_enum (by rfl) B.b_enum (pa_cons (pe_op op_cat (pe_callTy call_list_of (by rfl) B.b_list boot_list' (pa_cons (pv 0) pa_nil)) (pe_lst (pa_cons pe_int (pa_cons pe_int (pa_cons pe_int pa_nil))))) pa_nil)) (pg_tup rfl (pgs_cons (pg_name (i := 1) scLaw.nd rfl (.inl rfl)) (pgs_cons (pg_name (i := 2) scLaw.nd rfl (.inl rfl)) pgs_nil)))
      (pss_one (ps_if (pt_not (pt_val (pe_call GO hr (by rfl) D_law_one.g D_law_one.F.kp D_law_one.b .nil pass0 (pa_cons (pe_call GH hr (by rfl) D_law_hat.g D_law_hat.F.kp D_law_hat.b .nil pass0 (pa_cons (pv 2) (pa_cons (pv 1) pa_nil))) pa_nil)))) (pss_one (ps_ret pe_bl)) pss_nil)))
    (pss_one (ps_ret pe_bl)), ?_⟩
  have hE : EvL (tOp rCat (tCB (rListS K) (tCons (tVar 0) tNil)) (tLst (tCons (tC (.int 4)) (tCons (tC (.int 11)) (tCons (tC (.int 65)) tNil))))) [some (V.ref a), none, none] H (iL ns ++ iL [4, 11, 65]) :=
    el_catLL (el_list (ev_var rfl) hS) (el_lst (ea_cons ev_c (ea_cons ev_c (ea_cons ev_c ea_nil))) (by show (3 : Nat) ≤ 100000; decide)) (by rw [iL_len]; show ns.length + 3 ≤ _; omega)
  have happ : iL ns ++ iL [4, 11, 65] = iL (ns ++ [4, 11, 65]) := (List.map_append ..).symm
  rw [happ] at hE
  refine hE H (Ex.refl H) _ fun La H1 hLa e1 h1 => ⟨La, _, rfl, sq_of h1, ?_⟩
  refine for_it walk_enum (fun i σ' H' => (∃ x1 x2 : Option V, σ' = [some (V.ref a), x1, x2]) ∧ H' La = some (.lst (iL (ns ++ [4, 11, 65])))) ⟨⟨none, none, rfl⟩, h1⟩ (fun i σ' H' _ p => sq_of p.2) ?_ ?_
  · rintro i x σ' H2 H2' hi ⟨⟨x1, x2, rfl⟩, h2⟩ ⟨T, y1, y2, rfl, hT, rfl, hy1, hy2⟩
    cases hy1
    obtain ⟨c, hc, rfl⟩ := iL_of hy2
    have e2 : Ex H2 (upd H2 T (.tup [.int ((i : Nat) : Int), .int c])) := Ex.new hT
    refine ⟨T, _, rfl, st_of upd_same, rfl, .int ((i : Nat) : Int), _, rfl, .int c, _, rfl, rfl, ?_⟩
    refine ⟨_, rfl, _, rfl, c, ((i : Nat) : Int), rfl, by omega, fun wl H5 hwl s5 W5 => ⟨wl, rfl, W5, fun H6 D6 => ⟨true, rfl, ?_⟩⟩⟩
    have nL : La ≠ wl := fun e => by
      have := e2 _ _ h2
      rw [e, hwl] at this
      cases this
    exact ⟨⟨_, _, rfl⟩, D6.keep La _ nL (s5 _ _ (e2 _ _ h2))⟩
  · rintro σ' H2 ⟨⟨x1, x2, rfl⟩, h2⟩
    exact k H2
end
end Hv
namespace Hv
open PySem PySem.Spec PyProof.Rows L2
section
variable {K : PySem.W.Frag} {h : Heap} {mg : Str → Option Value}
theorem df_mk {x : Str} {st : Stmt} {ps : List Str} {f : Addr} {oc : Value} {od an : Option Addr} {sl : Array (Option Value)} {kV dc pm cd ct : Value} (X : K.In h) (G : h.Ns mainGlobals mg)
    (a : PySem.W.nsIn K mainGlobals x = some (some (.ref f))) (l : K.lookup f = some ⟨oc, od, .func (PySem.W.fnOf x x (defArgs st) (defBody st) (defScope st) .none kV dc pm an cd ct), sl⟩) (c : PySem.W.codeIn K cd x = true) (k : PySem.W.keepIn K (.ref f) = true)
    (b : ∀ (kV doc pm : Value) (an : Option Addr) (cdv ct : Value) (us : List Value), us.length = ps.length → bindArgs (PySem.W.fnOf x x (defArgs st) (defBody st) (defScope st) .none kV doc pm an cdv ct) ⟨us, []⟩ = pure (ps.zip us)) :
    Df K mg x st ps f (PySem.W.fnOf x x (defArgs st) (defBody st) (defScope st) .none kV dc pm an cd ct) := by
  have F := fun_mk (st := st) l c k
  exact ⟨F, F.binds b, PySem.W.mg_of X G a⟩
theorem gi_mk {x : Str} {n : Int} {t : Tok} (X : K.In h) (G : h.Ns mainGlobals mg) (a : PySem.W.nsIn K mainGlobals x = some (some (.int n t))) : ∃ t, mg x = some (.int n t) := ⟨t, PySem.W.mg_of X G a⟩
theorem gn_mk {x : Str} (X : K.In h) (G : h.Ns mainGlobals mg) (a : PySem.W.nsIn K mainGlobals x = some none) : mg x = none := PySem.W.mg_none_of X G a

theorem gs_mk {x : Str} {n : Str} {t : Tok} (X : K.In h) (G : h.Ns mainGlobals mg) (a : PySem.W.nsIn K mainGlobals x = some (some (.str n t))) : ∃ t, mg x = some (.str n t) := ⟨t, PySem.W.mg_of X G a⟩
theorem law_mk {l : PySem.W.OpenLaw} {w : World} {f fa : Addr} {oc : Value} {od an : Option Addr} {sl : Array (Option Value)} {kV dc pm cd ct : Value} (X : K.In h) (G : h.Ns mainGlobals mg) (hfa : mg "law" = some (.ref fa))
    (a : PySem.W.nsIn K mainGlobals "law" = some (some (.ref f))) (lk : K.lookup f = some ⟨oc, od, .func (PySem.W.fnOf "law" "law" (defArgs lLaw) (defBody lLaw) (defScope lLaw) .none kV dc pm an cd ct), sl⟩) (c : PySem.W.codeIn K cd "law" = true) (k : PySem.W.keepIn K (.ref f) = true)
    (A0 : La K mg) :
    ∃ fd : FuncData, (∀ (s : Shared) (v : Value), BindsTo s fd ⟨[v], []⟩ [("script", v)]) ∧ ∀ base : Heap, K.In base → base.Ns mainGlobals mg → FnOk l.prog w K mg base CX0 8 fa fd ["script"] (spLaw K) := by
  have e := hfa.symm.trans (PySem.W.mg_of X G a)
  cases e
  exact ⟨PySem.W.fnOf "law" "law" (defArgs lLaw) (defBody lLaw) (defScope lLaw) .none kV dc pm an cd ct, fun s v => .of_eq rfl, fun base _ _ => ok_law (fun_mk (st := lLaw) lk c k) A0⟩
end
end Hv
open PySem PySem.W PyProof.Rows
set_option maxRecDepth 100000 in
set_option maxHeartbeats 0 in
theorem PySem.Challenge.cw_homeshold_k40_values_and_roots_holds : PySem.Challenge.rw_homeshold_k40_values_and_roots.Holds := by
  w_on; o_law; k_head; (case hw => w_witness2)
  k_fill
  refine L2.walk_of (l := PySem.Challenge.rw_homeshold_k40_values_and_roots) (n := 63) (k := 8) (x := "script") (CX := fun _ => L2.CX0) (sp := fun w => Hv.spLaw _) rfl (by decide) rfl ⟨rfl, by decide, by decide⟩ (fun w h Y => PySem.W.kIn_of Y) ?F (fun _ _ a ns hl _ hS => ⟨a, ns, rfl, hS, hl, fun _ => rfl⟩) (fun _ _ _ _ _ h => h)
  case F =>
    intro w mg fa h KX G hmg
    obtain his_integer : ∃ f fd, Hv.Df _ mg "is_integer" Hv.sIsInt ["thing"] f fd := by
      refine' ⟨_, _, Hv.df_mk KX G ?a ?l ?c ?k (fun _ _ _ _ _ _ us hl => match us, hl with | [_], _ => rfl)⟩
      (case a => k_is); (case l => k_is); (case c => k_is); (case k => k_is)
    obtain his_count : ∃ f fd, Hv.Df _ mg "is_count" Hv.sIsCount ["thing"] f fd := by
      refine' ⟨_, _, Hv.df_mk KX G ?a ?l ?c ?k (fun _ _ _ _ _ _ us hl => match us, hl with | [_], _ => rfl)⟩
      (case a => k_is); (case l => k_is); (case c => k_is); (case k => k_is)
    obtain his_from_one : ∃ f fd, Hv.Df _ mg "is_from_one" Hv.sFromOne ["thing"] f fd := by
      refine' ⟨_, _, Hv.df_mk KX G ?a ?l ?c ?k (fun _ _ _ _ _ _ us hl => match us, hl with | [_], _ => rfl)⟩
      (case a => k_is); (case l => k_is); (case c => k_is); (case k => k_is)
    obtain his_pair : ∃ f fd, Hv.Df _ mg "is_pair" Hv.sIsPair ["thing"] f fd := by
      refine' ⟨_, _, Hv.df_mk KX G ?a ?l ?c ?k (fun _ _ _ _ _ _ us hl => match us, hl with | [_], _ => rfl)⟩
      (case a => k_is); (case l => k_is); (case c => k_is); (case k => k_is)
    obtain his_ascending : ∃ f fd, Hv.Df _ mg "is_ascending" Hv.sIsAsc ["things"] f fd := by
      refine' ⟨_, _, Hv.df_mk KX G ?a ?l ?c ?k (fun _ _ _ _ _ _ us hl => match us, hl with | [_], _ => rfl)⟩
      (case a => k_is); (case l => k_is); (case c => k_is); (case k => k_is)
    obtain his_hand : ∃ f fd, Hv.Df _ mg "is_hand" Hv.sIsHand ["thing"] f fd := by
      refine' ⟨_, _, Hv.df_mk KX G ?a ?l ?c ?k (fun _ _ _ _ _ _ us hl => match us, hl with | [_], _ => rfl)⟩
      (case a => k_is); (case l => k_is); (case c => k_is); (case k => k_is)
    obtain his_name : ∃ f fd, Hv.Df _ mg "is_name" Hv.sIsName ["thing"] f fd := by
      refine' ⟨_, _, Hv.df_mk KX G ?a ?l ?c ?k (fun _ _ _ _ _ _ us hl => match us, hl with | [_], _ => rfl)⟩
      (case a => k_is); (case l => k_is); (case c => k_is); (case k => k_is)
    obtain his_stamp : ∃ f fd, Hv.Df _ mg "is_stamp" Hv.sIsStamp ["thing"] f fd := by
      refine' ⟨_, _, Hv.df_mk KX G ?a ?l ?c ?k (fun _ _ _ _ _ _ us hl => match us, hl with | [_], _ => rfl)⟩
      (case a => k_is); (case l => k_is); (case c => k_is); (case k => k_is)
    obtain hworth_at : ∃ f fd, Hv.Df _ mg "worth_at" Hv.sWorth ["polynomial", "place", "prime"] f fd := by
      refine' ⟨_, _, Hv.df_mk KX G ?a ?l ?c ?k (fun _ _ _ _ _ _ us hl => match us, hl with | [_, _, _], _ => rfl)⟩
      (case a => k_is); (case l => k_is); (case c => k_is); (case k => k_is)
    obtain his_prime : ∃ f fd, Hv.Df _ mg "is_prime" Hv.sIsPrime ["thing"] f fd := by
      refine' ⟨_, _, Hv.df_mk KX G ?a ?l ?c ?k (fun _ _ _ _ _ _ us hl => match us, hl with | [_], _ => rfl)⟩
      (case a => k_is); (case l => k_is); (case c => k_is); (case k => k_is)
    obtain his_below : ∃ f fd, Hv.Df _ mg "is_below" Hv.sIsBelow ["prime", "thing"] f fd := by
      refine' ⟨_, _, Hv.df_mk KX G ?a ?l ?c ?k (fun _ _ _ _ _ _ us hl => match us, hl with | [_, _], _ => rfl)⟩
      (case a => k_is); (case l => k_is); (case c => k_is); (case k => k_is)
    obtain his_lot : ∃ f fd, Hv.Df _ mg "is_lot" Hv.sIsLot ["prime", "thing"] f fd := by
      refine' ⟨_, _, Hv.df_mk KX G ?a ?l ?c ?k (fun _ _ _ _ _ _ us hl => match us, hl with | [_, _], _ => rfl)⟩
      (case a => k_is); (case l => k_is); (case c => k_is); (case k => k_is)
    obtain his_places : ∃ f fd, Hv.Df _ mg "is_places" Hv.sIsPlaces ["prime", "lot", "thing"] f fd := by
      refine' ⟨_, _, Hv.df_mk KX G ?a ?l ?c ?k (fun _ _ _ _ _ _ us hl => match us, hl with | [_, _, _], _ => rfl)⟩
      (case a => k_is); (case l => k_is); (case c => k_is); (case k => k_is)
    obtain his_polynomial : ∃ f fd, Hv.Df _ mg "is_polynomial" Hv.sIsPoly ["prime", "thing"] f fd := by
      refine' ⟨_, _, Hv.df_mk KX G ?a ?l ?c ?k (fun _ _ _ _ _ _ us hl => match us, hl with | [_, _], _ => rfl)⟩
      (case a => k_is); (case l => k_is); (case c => k_is); (case k => k_is)
    obtain hvalues : ∃ f fd, Hv.Df _ mg "values" Hv.sValues ["prime", "lot", "places"] f fd := by
      refine' ⟨_, _, Hv.df_mk KX G ?a ?l ?c ?k (fun _ _ _ _ _ _ us hl => match us, hl with | [_, _, _], _ => rfl)⟩
      (case a => k_is); (case l => k_is); (case c => k_is); (case k => k_is)
    obtain hvalues_of : ∃ f fd, Hv.Df _ mg "values_of" Hv.sValuesOf ["prime", "lot", "places"] f fd := by
      refine' ⟨_, _, Hv.df_mk KX G ?a ?l ?c ?k (fun _ _ _ _ _ _ us hl => match us, hl with | [_, _, _], _ => rfl)⟩
      (case a => k_is); (case l => k_is); (case c => k_is); (case k => k_is)
    obtain h_value : ∃ f fd, Hv.Df _ mg "_value" Hv.sValue ["prime", "lot", "place"] f fd := by
      refine' ⟨_, _, Hv.df_mk KX G ?a ?l ?c ?k (fun _ _ _ _ _ _ us hl => match us, hl with | [_, _, _], _ => rfl)⟩
      (case a => k_is); (case l => k_is); (case c => k_is); (case k => k_is)
    obtain hroots : ∃ f fd, Hv.Df _ mg "roots" Hv.sRoots ["prime", "polynomial", "lot"] f fd := by
      refine' ⟨_, _, Hv.df_mk KX G ?a ?l ?c ?k (fun _ _ _ _ _ _ us hl => match us, hl with | [_, _, _], _ => rfl)⟩
      (case a => k_is); (case l => k_is); (case c => k_is); (case k => k_is)
    obtain hroots_of : ∃ f fd, Hv.Df _ mg "roots_of" Hv.sRootsOf ["prime", "polynomial", "lot"] f fd := by
      refine' ⟨_, _, Hv.df_mk KX G ?a ?l ?c ?k (fun _ _ _ _ _ _ us hl => match us, hl with | [_, _, _], _ => rfl)⟩
      (case a => k_is); (case l => k_is); (case c => k_is); (case k => k_is)
    obtain hnumber_of : ∃ f fd, Hv.Df _ mg "number_of" Hv.sNumberOf ["name", "stamp"] f fd := by
      refine' ⟨_, _, Hv.df_mk KX G ?a ?l ?c ?k (fun _ _ _ _ _ _ us hl => match us, hl with | [_, _], _ => rfl)⟩
      (case a => k_is); (case l => k_is); (case c => k_is); (case k => k_is)
    obtain hnumber_at : ∃ f fd, Hv.Df _ mg "number_at" Hv.sNumberAt ["name", "stamp"] f fd := by
      refine' ⟨_, _, Hv.df_mk KX G ?a ?l ?c ?k (fun _ _ _ _ _ _ us hl => match us, hl with | [_, _], _ => rfl)⟩
      (case a => k_is); (case l => k_is); (case c => k_is); (case k => k_is)
    obtain h_law_hat : ∃ f fd, Hv.Df _ mg "_law_hat" Hv.lHat ["cell", "k"] f fd := by
      refine' ⟨_, _, Hv.df_mk KX G ?a ?l ?c ?k (fun _ _ _ _ _ _ us hl => match us, hl with | [_, _], _ => rfl)⟩
      (case a => k_is); (case l => k_is); (case c => k_is); (case k => k_is)
    obtain h_law_draw : ∃ f fd, Hv.Df _ mg "_law_draw" Hv.sDraw ["hat", "many"] f fd := by
      refine' ⟨_, _, Hv.df_mk KX G ?a ?l ?c ?k (fun _ _ _ _ _ _ us hl => match us, hl with | [_, _], _ => rfl)⟩
      (case a => k_is); (case l => k_is); (case c => k_is); (case k => k_is)
    obtain h_law_same : ∃ f fd, Hv.Df _ mg "_law_same" Hv.lSame ["actual", "due"] f fd := by
      refine' ⟨_, _, Hv.df_mk KX G ?a ?l ?c ?k (fun _ _ _ _ _ _ us hl => match us, hl with | [_, _], _ => rfl)⟩
      (case a => k_is); (case l => k_is); (case c => k_is); (case k => k_is)
    obtain h_law_prime : ∃ f fd, Hv.Df _ mg "_law_prime" Hv.lPrime ["hat"] f fd := by
      refine' ⟨_, _, Hv.df_mk KX G ?a ?l ?c ?k (fun _ _ _ _ _ _ us hl => match us, hl with | [_], _ => rfl)⟩
      (case a => k_is); (case l => k_is); (case c => k_is); (case k => k_is)
    obtain h_law_number : ∃ f fd, Hv.Df _ mg "_law_number" Hv.lNumber ["hat", "prime"] f fd := by
      refine' ⟨_, _, Hv.df_mk KX G ?a ?l ?c ?k (fun _ _ _ _ _ _ us hl => match us, hl with | [_, _], _ => rfl)⟩
      (case a => k_is); (case l => k_is); (case c => k_is); (case k => k_is)
    obtain h_law_lot : ∃ f fd, Hv.Df _ mg "_law_lot" Hv.lLot ["hat", "prime", "many", "barred"] f fd := by
      refine' ⟨_, _, Hv.df_mk KX G ?a ?l ?c ?k (fun _ _ _ _ _ _ us hl => match us, hl with | [_, _, _, _], _ => rfl)⟩
      (case a => k_is); (case l => k_is); (case c => k_is); (case k => k_is)
    obtain h_law_places : ∃ f fd, Hv.Df _ mg "_law_places" Hv.lPlaces ["hat", "prime", "many", "barred"] f fd := by
      refine' ⟨_, _, Hv.df_mk KX G ?a ?l ?c ?k (fun _ _ _ _ _ _ us hl => match us, hl with | [_, _, _, _], _ => rfl)⟩
      (case a => k_is); (case l => k_is); (case c => k_is); (case k => k_is)
    obtain h_law_product : ∃ f fd, Hv.Df _ mg "_law_product" Hv.lProduct ["prime", "lot"] f fd := by
      refine' ⟨_, _, Hv.df_mk KX G ?a ?l ?c ?k (fun _ _ _ _ _ _ us hl => match us, hl with | [_, _], _ => rfl)⟩
      (case a => k_is); (case l => k_is); (case c => k_is); (case k => k_is)
    obtain h_law_at : ∃ f fd, Hv.Df _ mg "_law_at" Hv.lAt ["prime", "polynomial", "place"] f fd := by
      refine' ⟨_, _, Hv.df_mk KX G ?a ?l ?c ?k (fun _ _ _ _ _ _ us hl => match us, hl with | [_, _, _], _ => rfl)⟩
      (case a => k_is); (case l => k_is); (case c => k_is); (case k => k_is)
    obtain h_law_values_right : ∃ f fd, Hv.Df _ mg "_law_values_right" Hv.lValuesRight ["hat", "prime"] f fd := by
      refine' ⟨_, _, Hv.df_mk KX G ?a ?l ?c ?k (fun _ _ _ _ _ _ us hl => match us, hl with | [_, _], _ => rfl)⟩
      (case a => k_is); (case l => k_is); (case c => k_is); (case k => k_is)
    obtain h_law_roots_right : ∃ f fd, Hv.Df _ mg "_law_roots_right" Hv.lRootsRight ["hat", "prime"] f fd := by
      refine' ⟨_, _, Hv.df_mk KX G ?a ?l ?c ?k (fun _ _ _ _ _ _ us hl => match us, hl with | [_, _], _ => rfl)⟩
      (case a => k_is); (case l => k_is); (case c => k_is); (case k => k_is)
    obtain h_law_pair : ∃ f fd, Hv.Df _ mg "_law_pair" Hv.lPair ["hat"] f fd := by
      refine' ⟨_, _, Hv.df_mk KX G ?a ?l ?c ?k (fun _ _ _ _ _ _ us hl => match us, hl with | [_], _ => rfl)⟩
      (case a => k_is); (case l => k_is); (case c => k_is); (case k => k_is)
    obtain h_law_sum : ∃ f fd, Hv.Df _ mg "_law_sum" Hv.lSum ["pair"] f fd := by
      refine' ⟨_, _, Hv.df_mk KX G ?a ?l ?c ?k (fun _ _ _ _ _ _ us hl => match us, hl with | [_], _ => rfl)⟩
      (case a => k_is); (case l => k_is); (case c => k_is); (case k => k_is)
    obtain h_law_near : ∃ f fd, Hv.Df _ mg "_law_near" Hv.lNear ["hat", "pair"] f fd := by
      refine' ⟨_, _, Hv.df_mk KX G ?a ?l ?c ?k (fun _ _ _ _ _ _ us hl => match us, hl with | [_, _], _ => rfl)⟩
      (case a => k_is); (case l => k_is); (case c => k_is); (case k => k_is)
    obtain h_law_numbers_right : ∃ f fd, Hv.Df _ mg "_law_numbers_right" Hv.lNumsRight ["hat"] f fd := by
      refine' ⟨_, _, Hv.df_mk KX G ?a ?l ?c ?k (fun _ _ _ _ _ _ us hl => match us, hl with | [_], _ => rfl)⟩
      (case a => k_is); (case l => k_is); (case c => k_is); (case k => k_is)
    obtain h_law_one : ∃ f fd, Hv.Df _ mg "_law_one" Hv.lOne ["hat"] f fd := by
      refine' ⟨_, _, Hv.df_mk KX G ?a ?l ?c ?k (fun _ _ _ _ _ _ us hl => match us, hl with | [_], _ => rfl)⟩
      (case a => k_is); (case l => k_is); (case c => k_is); (case k => k_is)
    have nMOST_HANDS : ∃ t, mg "MOST_HANDS" = some (.int 99 t) := by
      refine' Hv.gi_mk KX G ?a
      (case a => k_is)
    have nNAME_SIGNS : ∃ t, mg "NAME_SIGNS" = some (.int 8 t) := by
      refine' Hv.gi_mk KX G ?a
      (case a => k_is)
    have nGREAT_PRIME : ∃ t, mg "GREAT_PRIME" = some (.int 618970019642690137449562111 t) := by
      refine' Hv.gi_mk KX G ?a
      (case a => k_is)
    have nSMALL_PRIMES : ∃ t, mg "SMALL_PRIMES" = some (.int 10000 t) := by
      refine' Hv.gi_mk KX G ?a
      (case a => k_is)
    have nDIVISORS : ∃ t, mg "DIVISORS" = some (.int 100 t) := by
      refine' Hv.gi_mk KX G ?a
      (case a => k_is)
    have nMOST_NUMBERS : ∃ t, mg "MOST_NUMBERS" = some (.int 200 t) := by
      refine' Hv.gi_mk KX G ?a
      (case a => k_is)
    have nMOST_PLACES : ∃ t, mg "MOST_PLACES" = some (.int 64 t) := by
      refine' Hv.gi_mk KX G ?a
      (case a => k_is)
    have nMOST_DEGREE : ∃ t, mg "MOST_DEGREE" = some (.int 64 t) := by
      refine' Hv.gi_mk KX G ?a
      (case a => k_is)
    have nLETTERS : ∃ t, mg "LETTERS" = some (.str "abcdefghijklmnopqrstuvwxyz" t) := by
      refine' Hv.gs_mk KX G ?a
      (case a => k_is)
    have b_int : mg "int" = none := by
      refine' Hv.gn_mk KX G ?a
      (case a => k_is)
    have b_len : mg "len" = none := by
      refine' Hv.gn_mk KX G ?a
      (case a => k_is)
    have b_range : mg "range" = none := by
      refine' Hv.gn_mk KX G ?a
      (case a => k_is)
    have b_all : mg "all" = none := by
      refine' Hv.gn_mk KX G ?a
      (case a => k_is)
    have b_isinstance : mg "isinstance" = none := by
      refine' Hv.gn_mk KX G ?a
      (case a => k_is)
    have b_tuple : mg "tuple" = none := by
      refine' Hv.gn_mk KX G ?a
      (case a => k_is)
    have b_list : mg "list" = none := by
      refine' Hv.gn_mk KX G ?a
      (case a => k_is)
    have b_str : mg "str" = none := by
      refine' Hv.gn_mk KX G ?a
      (case a => k_is)
    have b_min : mg "min" = none := by
      refine' Hv.gn_mk KX G ?a
      (case a => k_is)
    have b_zip : mg "zip" = none := by
      refine' Hv.gn_mk KX G ?a
      (case a => k_is)
    have b_sorted : mg "sorted" = none := by
      refine' Hv.gn_mk KX G ?a
      (case a => k_is)
    have b_set : mg "set" = none := by
      refine' Hv.gn_mk KX G ?a
      (case a => k_is)
    have b_bool : mg "bool" = none := by
      refine' Hv.gn_mk KX G ?a
      (case a => k_is)
    have b_enumerate : mg "enumerate" = none := by
      refine' Hv.gn_mk KX G ?a
      (case a => k_is)
    refine' Hv.law_mk KX G hmg ?a ?l ?c ?k ⟨⟨b_int, b_len, b_range, b_all, b_isinstance, b_tuple, b_list, b_str, b_min, b_zip, b_sorted, b_set, b_bool, b_enumerate⟩, ⟨nMOST_HANDS, nNAME_SIGNS, nGREAT_PRIME, nSMALL_PRIMES, nDIVISORS, nMOST_NUMBERS, nMOST_PLACES, nMOST_DEGREE, nLETTERS⟩, his_integer, his_count, his_from_one, his_pair, his_ascending, his_hand, his_name, his_stamp, hworth_at, his_prime, his_below, his_lot, his_places, his_polynomial, hvalues, hvalues_of, h_value, hroots, hroots_of, hnumber_of, hnumber_at, h_law_hat, h_law_draw, h_law_same, h_law_prime, h_law_number, h_law_lot, h_law_places, h_law_product, h_law_at, h_law_values_right, h_law_roots_right, h_law_pair, h_law_sum, h_law_near, h_law_numbers_right, h_law_one⟩
    (case a => k_is); (case l => k_is); (case c => k_is); (case k => k_is)
