import PyProof.Rows.All
import Wide.All
import OpenK.AllK
import Wide.FinOn
import HandS.ForMost
import HandS.More
import HandS.Wide
import HandS.WideBits
import HandS.Gcd
import HandS.IsInst
import HandS.Strs
import HandS.Style
import HandS.SetFor
import KE.KMathGC
import KE.SortData
import HandS.EndBits
import PySem.Challenge.RW_shadowrow_k01_whole_numbers
set_option Elab.async false
set_option linter.all false
set_option maxRecDepth 100000
set_option maxHeartbeats 4000000
/-! The mathematics of Shadowrow: counts of sets, greatest picks, whole roots. Core Lean alone. -/
namespace Sh
/-! ### how many sets of k there are of n things -/
def ch : Nat → Nat → Nat
  | _, 0 => 1
  | 0, _ + 1 => 0
  | n + 1, k + 1 => ch n k + ch n (k + 1)
theorem ch_zero (n : Nat) : ch n 0 = 1 := by cases n <;> rfl
theorem ch_none (k : Nat) : ch 0 (k + 1) = 0 := rfl
theorem ch_step (n k : Nat) : ch (n + 1) (k + 1) = ch n k + ch n (k + 1) := rfl
theorem ch_few : ∀ {n k : Nat}, n < k → ch n k = 0
  | 0, k + 1, _ => rfl
  | n + 1, k + 1, h => by
    rw [ch_step, ch_few (show n < k by omega), ch_few (show n < k + 1 by omega)]
theorem ch_pos : ∀ {n k : Nat}, k ≤ n → 0 < ch n k
  | n, 0, _ => by rw [ch_zero]; exact Nat.one_pos
  | n + 1, k + 1, h => by
    rw [ch_step]
    have := ch_pos (show k ≤ n by omega)
    omega
theorem ch_self : ∀ n : Nat, ch n n = 1
  | 0 => rfl
  | n + 1 => by rw [ch_step, ch_self n, ch_few (Nat.lt_succ_self n)]
theorem ch_one : ∀ n : Nat, ch n 1 = n
  | 0 => rfl
  | n + 1 => by rw [ch_step, ch_zero, ch_one n]; omega
theorem ch_le_succ (n k : Nat) : ch n k ≤ ch (n + 1) k := by
  cases k with
  | zero => rw [ch_zero, ch_zero]; exact Nat.le_refl _
  | succ k => rw [ch_step]; omega
theorem ch_mono {m n : Nat} (h : m ≤ n) (k : Nat) : ch m k ≤ ch n k := by
  induction h with
  | refl => exact Nat.le_refl _
  | step _ ih => exact Nat.le_trans ih (ch_le_succ _ k)
theorem ch_lt_succ {n k : Nat} (h : k ≤ n) : ch n (k + 1) < ch (n + 1) (k + 1) := by
  rw [ch_step]
  have := ch_pos h
  omega
theorem ch_lt {m n k : Nat} (h : m < n) (hk : k < n) : ch m (k + 1) < ch n (k + 1) := by
  obtain ⟨j, rfl⟩ : ∃ j, n = j + 1 := ⟨n - 1, by omega⟩
  exact Nat.lt_of_le_of_lt (ch_mono (show m ≤ j by omega) _) (ch_lt_succ (by omega))
/-- there is a number with more sets than m -/
theorem ch_more (k : Nat) : ∀ m : Nat, m < ch (m + k + 1) (k + 1)
  | 0 => ch_pos (by omega)
  | m + 1 => by
    have h1 := ch_more k m
    have h2 := ch_pos (show k ≤ m + k + 1 by omega)
    have e : m + 1 + k + 1 = (m + k + 1) + 1 := by omega
    rw [e, ch_step]
    omega
/-- (k + 1) * C(n, k + 1) = (n - k) * C(n, k) -/
theorem ch_next : ∀ n k : Nat, (k + 1) * ch n (k + 1) = ch n k * (n - k)
  | 0, k => by
    rw [ch_none, Nat.mul_zero, Nat.zero_sub, Nat.mul_zero]
  | n + 1, 0 => by
    rw [ch_zero, ch_one]
    omega
  | n + 1, k + 1 => by
    have h1 := ch_next n k
    have h2 := ch_next n (k + 1)
    by_cases h : k + 1 ≤ n
    · obtain ⟨d, rfl⟩ : ∃ d, n = k + 1 + d := ⟨n - (k + 1), by omega⟩
      have e1 : k + 1 + d - k = d + 1 := by omega
      have e2 : k + 1 + d - (k + 1) = d := by omega
      have e3 : k + 1 + d + 1 - (k + 1) = d + 1 := by omega
      rw [e1] at h1
      rw [e2] at h2
      rw [ch_step, ch_step, e3]
      generalize ch (k + 1 + d) (k + 1 + 1) = c at *
      generalize ch (k + 1 + d) (k + 1) = b at *
      generalize ch (k + 1 + d) k = a at *
      grind
    · rw [ch_few (show n + 1 < k + 1 + 1 by omega)]
      have e3 : n + 1 - (k + 1) = 0 := by omega
      rw [e3]
      simp
theorem ch_div (n k : Nat) : ch n k * (n - k) / (k + 1) = ch n (k + 1) := by
  rw [← ch_next, Nat.mul_div_cancel_left _ (by omega)]
def fac : Nat → Nat
  | 0 => 1
  | n + 1 => (n + 1) * fac n
theorem fac_pos : ∀ n, 0 < fac n
  | 0 => Nat.one_pos
  | n + 1 => Nat.mul_pos (Nat.succ_pos n) (fac_pos n)
/-- n * (n - 1) * .., k factors -/
def fal (n : Nat) : Nat → Nat
  | 0 => 1
  | k + 1 => fal n k * (n - k)
theorem fal_ch (n : Nat) : ∀ k : Nat, fal n k = ch n k * fac k
  | 0 => by rw [ch_zero]; rfl
  | k + 1 => by
    show fal n k * (n - k) = ch n (k + 1) * ((k + 1) * fac k)
    rw [fal_ch n k]
    have h := ch_next n k
    generalize ch n (k + 1) = a at *
    generalize ch n k = b at *
    generalize n - k = d at *
    grind
theorem fal_succ (n : Nat) : ∀ k : Nat, fal (n + 1) (k + 1) = (n + 1) * fal n k
  | 0 => by show 1 * (n + 1 - 0) = (n + 1) * 1; omega
  | k + 1 => by
    show fal (n + 1) (k + 1) * (n + 1 - (k + 1)) = (n + 1) * (fal n k * (n - k))
    rw [fal_succ n k, Nat.add_sub_add_right, Nat.mul_assoc]
/-- C(n, k) = C(n, n - k) -/
theorem ch_sym : ∀ {n k : Nat}, k ≤ n → ch n k = ch n (n - k)
  | n, 0, _ => by rw [ch_zero, Nat.sub_zero, ch_self]
  | n + 1, k + 1, h => by
    by_cases e : k = n
    · subst e; rw [ch_self, Nat.sub_self, ch_zero]
    · obtain ⟨d, hd⟩ : ∃ d, n - k = d + 1 := ⟨n - k - 1, by omega⟩
      rw [Nat.add_sub_add_right, hd, ch_step, ch_step]
      have h1 := ch_sym (show k ≤ n by omega)
      have h2 := ch_sym (show k + 1 ≤ n by omega)
      rw [hd] at h1
      have e2 : n - (k + 1) = d := by omega
      rw [e2] at h2
      omega
theorem ch_le_pow (n : Nat) : ∀ k : Nat, ch n k ≤ n ^ k
  | 0 => by rw [ch_zero, Nat.pow_zero]; exact Nat.le_refl _
  | k + 1 => by
    have h1 := ch_next n k
    have h2 := ch_le_pow n k
    have h3 : ch n (k + 1) ≤ (k + 1) * ch n (k + 1) := Nat.le_mul_of_pos_left _ (by omega)
    rw [h1] at h3
    rw [Nat.pow_succ]
    exact Nat.le_trans h3 (Nat.mul_le_mul h2 (Nat.sub_le _ _))
theorem fal_le (n : Nat) : ∀ k : Nat, fal n k ≤ n ^ k
  | 0 => Nat.le_refl _
  | k + 1 => by
    rw [Nat.pow_succ]
    exact Nat.mul_le_mul (fal_le n k) (Nat.sub_le _ _)
/-! ### where the search may start: the factors' mean -/
theorem mean_two (r c : Nat) : (r + (c + 1)) * (r - (c + 1)) ≤ r * r := by
  by_cases h : c + 1 ≤ r
  · obtain ⟨d, rfl⟩ : ∃ d, r = c + 1 + d := ⟨r - (c + 1), by omega⟩
    rw [Nat.add_sub_cancel_left]
    grind
  · have e : r - (c + 1) = 0 := by omega
    rw [e, Nat.mul_zero]
    exact Nat.zero_le _
theorem fal_mean (r : Nat) : ∀ k : Nat, fal (r + k / 2) (k + 1) ≤ r ^ (k + 1)
  | 0 => by show 1 * (r + 0 / 2 - 0) ≤ r ^ 1; simp
  | 1 => by
    show 1 * (r + 1 / 2 - 0) * (r + 1 / 2 - 1) ≤ r ^ 2
    simp [Nat.pow_succ]
    exact Nat.mul_le_mul_left _ (Nat.sub_le _ _)
  | k + 2 => by
    have ih := fal_mean r k
    have e : r + (k + 2) / 2 = (r + k / 2) + 1 := by omega
    rw [e, show k + 2 + 1 = (k + 1 + 1) + 1 from rfl, fal_succ]
    show (r + k / 2 + 1) * (fal (r + k / 2) (k + 1) * (r + k / 2 - (k + 1))) ≤ _
    have h2 := mean_two r (k / 2)
    have h3 : r + k / 2 - (k + 1) ≤ r - (k / 2 + 1) := by omega
    have h4 : (r + k / 2 + 1) * (r + k / 2 - (k + 1)) ≤ r * r := Nat.le_trans (Nat.mul_le_mul_left _ h3) (by rw [Nat.add_assoc]; exact h2)
    have h5 := Nat.mul_le_mul ih h4
    have e2 : r ^ (k + 1 + 1 + 1) = r ^ (k + 1) * (r * r) := by rw [Nat.pow_succ, Nat.pow_succ, Nat.mul_assoc]
    rw [e2]
    refine Nat.le_trans (Nat.le_of_eq ?_) h5
    generalize fal (r + k / 2) (k + 1) = f
    generalize r + k / 2 - (k + 1) = g
    generalize r + k / 2 + 1 = h
    grind
theorem start_ok {n k r : Nat} (h : r ^ (k + 1) ≤ n * fac (k + 1)) : ch (r + k / 2) (k + 1) ≤ n := by
  have h1 := fal_mean r k
  rw [fal_ch] at h1
  exact Nat.le_of_mul_le_mul_right (Nat.le_trans h1 h) (fac_pos _)
/-! ### whole roots, by Newton's steps -/
/-- r is the whole root of n -/
def IsRoot (n d r : Nat) : Prop := r ^ d ≤ n ∧ n < (r + 1) ^ d
theorem bern (r x : Int) (hr : 0 ≤ r) (hx : 0 ≤ x) : ∀ d : Nat, x ^ d * (x + ((d : Int) + 1) * (r - x)) ≤ r ^ (d + 1)
  | 0 => by
    rw [Int.pow_zero, Int.pow_succ, Int.pow_zero]
    omega
  | d + 1 => by
    have ih := bern r x hr hx d
    have h1 := Int.mul_le_mul_of_nonneg_left ih hr
    have hp : 0 ≤ x ^ d := Int.pow_nonneg hx
    have hs : 0 ≤ (r - x) * (r - x) := by
      by_cases h : 0 ≤ r - x
      · exact Int.mul_nonneg h h
      · have := Int.mul_nonneg (show 0 ≤ -(r - x) by omega) (show 0 ≤ -(r - x) by omega)
        rw [Int.neg_mul_neg] at this
        exact this
    have hd : 0 ≤ ((d : Int) + 1) := by omega
    have h2 : 0 ≤ x ^ d * (((d : Int) + 1) * ((r - x) * (r - x))) := Int.mul_nonneg hp (Int.mul_nonneg hd hs)
    rw [Int.pow_succ x d, Int.pow_succ r (d + 1)]
    have e : ((d + 1 : Nat) : Int) = (d : Int) + 1 := by omega
    rw [e]
    generalize x ^ d = p at *
    generalize r ^ (d + 1) = q at *
    generalize (d : Int) = z at *
    grind
/-- a step of Newton's from any x above 0 leads not below the root -/
theorem newton_above {n r x d : Nat} (h : r ^ (d + 1) ≤ n) (hx : 0 < x) : r ≤ (d * x + n / x ^ d) / (d + 1) := by
  rw [Nat.le_div_iff_mul_le (by omega)]
  have hp : 0 < x ^ d := Nat.pow_pos hx
  by_cases hc : r * (d + 1) ≤ d * x
  · exact Nat.le_trans hc (Nat.le_add_right _ _)
  · have hb := bern r x (by omega) (by omega) d
    have key : (r * (d + 1) - d * x) * x ^ d ≤ n := by
      refine Nat.le_trans ?_ h
      have e : ((r * (d + 1) - d * x : Nat) : Int) = (x : Int) + ((d : Int) + 1) * ((r : Int) - x) := by
        rw [Int.ofNat_sub (by omega)]
        simp only [Int.natCast_mul, Int.natCast_add, Int.natCast_one]
        grind
      have hb2 : (((r * (d + 1) - d * x) * x ^ d : Nat) : Int) ≤ ((r ^ (d + 1) : Nat) : Int) := by
        rw [Int.natCast_mul, e, Int.natCast_pow, Int.natCast_pow, Int.mul_comm]
        exact hb
      exact Int.ofNat_le.mp hb2
    have := Nat.sub_le_iff_le_add.mp ((Nat.le_div_iff_mul_le hp).mpr key)
    exact Nat.le_trans this (Nat.le_of_eq (Nat.add_comm _ _))
/-- above the root the step falls -/
theorem newton_falls {n x d : Nat} (h : n < x ^ (d + 1)) (hx : 0 < x) : (d * x + n / x ^ d) / (d + 1) < x := by
  rw [Nat.div_lt_iff_lt_mul (by omega)]
  have : n / x ^ d < x := by
    rw [Nat.div_lt_iff_lt_mul (Nat.pow_pos hx), Nat.mul_comm, ← Nat.pow_succ]
    exact h
  have e : x * (d + 1) = d * x + x := by rw [Nat.mul_add, Nat.mul_one, Nat.mul_comm]
  omega
theorem root_of {n x d : Nat} (hd : n < (x + 1) ^ (d + 1)) (hs : x ≤ (d * x + n / x ^ d) / (d + 1)) (hx : 0 < x) : IsRoot n (d + 1) x := by
  refine ⟨?_, hd⟩
  refine Nat.le_of_not_lt fun q => ?_
  have := newton_falls q hx
  omega
theorem step_keeps {n x d : Nat} (hx : 0 < x) : n < ((d * x + n / x ^ d) / (d + 1) + 1) ^ (d + 1) := by
  refine Nat.lt_of_not_le fun q => ?_
  have := newton_above q hx
  omega
theorem root_one {n d r : Nat} (a : IsRoot n (d + 1) r) {q : Nat} (b : IsRoot n (d + 1) q) : r = q := by
  have h1 : r < q + 1 := (Nat.pow_lt_pow_iff_left (by omega)).mp (Nat.lt_of_le_of_lt a.1 b.2)
  have h2 : q < r + 1 := (Nat.pow_lt_pow_iff_left (by omega)).mp (Nat.lt_of_le_of_lt b.1 a.2)
  omega
end Sh

/-! Sets by their numbers: greatest picks. -/
namespace Sh
def topGo (k n : Nat) : Nat → Nat
  | 0 => 0
  | f + 1 => if ch (f + 1) (k + 1) ≤ n then f + 1 else topGo k n f
/-- the greatest a with no more than n sets of size k + 1 below it -/
def top (k n : Nat) : Nat := topGo k n (n + k + 1)
theorem topGo_le (k n : Nat) : ∀ f, ch (topGo k n f) (k + 1) ≤ n
  | 0 => Nat.zero_le _
  | f + 1 => by
    unfold topGo
    split
    · assumption
    · exact topGo_le k n f
theorem topGo_max (k n : Nat) : ∀ f a, a ≤ f → ch a (k + 1) ≤ n → a ≤ topGo k n f
  | 0, a, h, _ => by rw [Nat.le_zero.mp h]; exact Nat.zero_le _
  | f + 1, a, h, hc => by
    unfold topGo
    split
    · exact h
    · rename_i hn
      refine topGo_max k n f a ?_ hc
      refine Nat.le_of_lt_succ (Nat.lt_of_le_of_ne h fun e => hn ?_)
      have e' : a = f + 1 := e
      rw [← e']
      exact hc
theorem top_le (k n : Nat) : ch (top k n) (k + 1) ≤ n := topGo_le k n _
theorem below_top {k n a : Nat} (h : ch a (k + 1) ≤ n) : a ≤ top k n := by
  refine topGo_max k n _ a ?_ h
  refine Nat.le_of_not_lt fun q => ?_
  have h1 := ch_more k n
  have h2 := ch_mono (show n + k + 1 ≤ a by omega) (k + 1)
  omega
theorem top_lt (k n : Nat) : n < ch (top k n + 1) (k + 1) := by
  refine Nat.lt_of_not_le fun q => ?_
  have := below_top q
  omega
theorem top_one {k n a : Nat} (h1 : ch a (k + 1) ≤ n) (h2 : n < ch (a + 1) (k + 1)) : a = top k n := by
  have h3 := below_top h1
  refine Nat.le_antisymm h3 (Nat.le_of_not_lt fun q => ?_)
  have h4 := ch_mono (show a + 1 ≤ top k n by omega) (k + 1)
  have h5 := top_le k n
  omega
theorem top_ge (k n : Nat) : k ≤ top k n := by
  refine Nat.le_of_not_lt fun q => ?_
  have h := top_lt k n
  rw [ch_few (by omega)] at h
  omega
theorem top_most (k n : Nat) : top k n ≤ n + k := by
  refine Nat.le_of_not_lt fun q => ?_
  have h1 := ch_more k n
  have h2 := ch_mono (show n + k + 1 ≤ top k n by omega) (k + 1)
  have h3 := top_le k n
  omega
theorem top_mono {k m n : Nat} (h : m ≤ n) : top k m ≤ top k n := below_top (Nat.le_trans (top_le k m) h)
/-- the set of size k with number n -/
def cas : Nat → Nat → List Nat
  | 0, _ => []
  | k + 1, n => top k n :: cas k (n - ch (top k n) (k + 1))
/-- a set's number -/
def num : List Nat → Nat
  | [] => 0
  | a :: l => ch a (l.length + 1) + num l
/-- falling, none twice -/
abbrev Down (l : List Nat) : Prop := l.Pairwise (· > ·)
theorem cas_length : ∀ k n, (cas k n).length = k
  | 0, _ => rfl
  | k + 1, n => by
    show (cas k _).length + 1 = k + 1
    rw [cas_length k]
theorem cas_succ (k n : Nat) : cas (k + 1) n = top k n :: cas k (n - ch (top k n) (k + 1)) := rfl
/-- what is left behind a pick is less than the pick's own sets -/
theorem left_lt (k n : Nat) : n - ch (top k n) (k + 1) < ch (top k n) k := by
  have h1 := top_lt k n
  have h2 := top_le k n
  rw [ch_step] at h1
  omega
theorem num_cas : ∀ k n : Nat, num (cas (k + 1) n) = n
  | 0, n => by
    show ch (top 0 n) (0 + 1) + 0 = n
    have h1 := top_lt 0 n
    have h2 := top_le 0 n
    rw [ch_one] at h1 h2 ⊢
    omega
  | k + 1, n => by
    rw [cas_succ]
    show ch (top (k + 1) n) ((cas (k + 1) _).length + 1) + num (cas (k + 1) _) = n
    rw [cas_length, num_cas k]
    have h2 := top_le (k + 1) n
    omega
theorem num_cas' {k n : Nat} (h : k = 0 → n = 0) : num (cas k n) = n := by
  cases k with
  | zero => rw [h rfl]; rfl
  | succ k => exact num_cas k n
theorem cas_down : ∀ k n : Nat, Down (cas k n) ∧ ∀ x ∈ cas k n, ∀ a, n < ch a k → x < a
  | 0, _ => ⟨List.Pairwise.nil, fun x hx => nomatch hx⟩
  | k + 1, n => by
    obtain ⟨h1, h2⟩ := cas_down k (n - ch (top k n) (k + 1))
    have h3 : ∀ a, n < ch a (k + 1) → top k n < a := fun a ha => by
      refine Nat.lt_of_not_le fun q => ?_
      have h4 := ch_mono q (k + 1)
      have h5 := top_le k n
      omega
    refine ⟨List.pairwise_cons.mpr ⟨fun x hx => h2 x hx _ (left_lt k n), h1⟩, fun x hx a ha => ?_⟩
    rcases List.mem_cons.mp hx with e | e
    · rw [e]
      exact h3 a ha
    · exact Nat.lt_trans (h2 x e _ (left_lt k n)) (h3 a ha)
/-- a falling list below a has fewer sets ahead of it -/
theorem num_lt : ∀ {l : List Nat} {a : Nat}, Down l → (∀ x ∈ l, x < a) → num l < ch a l.length
  | [], a, _, _ => by
    show 0 < ch a 0
    rw [ch_zero]
    exact Nat.one_pos
  | b :: l, a, h, hb => by
    have h1 := List.pairwise_cons.mp h
    have h2 := num_lt (a := b) h1.2 (fun x hx => h1.1 x hx)
    have h3 : b + 1 ≤ a := hb b List.mem_cons_self
    have h4 := ch_mono h3 (l.length + 1)
    rw [ch_step] at h4
    show ch b (l.length + 1) + num l < ch a (l.length + 1)
    omega
theorem top_num {a : Nat} {l : List Nat} (h : Down (a :: l)) : top l.length (num (a :: l)) = a := by
  have h1 := List.pairwise_cons.mp h
  have h2 := num_lt (a := a) h1.2 (fun x hx => h1.1 x hx)
  refine (top_one ?_ ?_).symm
  · show ch a (l.length + 1) ≤ ch a (l.length + 1) + num l
    omega
  · show ch a (l.length + 1) + num l < ch (a + 1) (l.length + 1)
    rw [ch_step]
    omega
/-- greatest picks give a set back -/
theorem cas_num : ∀ {l : List Nat}, Down l → cas l.length (num l) = l
  | [], _ => rfl
  | a :: l, h => by
    show cas (l.length + 1) (num (a :: l)) = a :: l
    rw [cas_succ, top_num h]
    have e : num (a :: l) - ch a (l.length + 1) = num l := by
      show ch a (l.length + 1) + num l - _ = _
      omega
    rw [e, cas_num (List.pairwise_cons.mp h).2]
/-- a greater number's set is greater -/
theorem cas_lt : ∀ {k m n : Nat}, m < n → cas (k + 1) m < cas (k + 1) n := by
  intro k
  induction k with
  | zero =>
    intro m n h
    rw [cas_succ, cas_succ]
    have e : ∀ z, top 0 z = z := fun z => by
      have h1 := top_lt 0 z
      have h2 := top_le 0 z
      rw [ch_one] at h1
      rw [ch_one] at h2
      omega
    rw [e, e]
    exact List.Lex.rel h
  | succ k ih =>
    intro m n h
    rw [cas_succ, cas_succ]
    have h1 := top_mono (k := k + 1) (Nat.le_of_lt h)
    rcases Nat.lt_or_ge (top (k + 1) m) (top (k + 1) n) with q | q
    · exact List.Lex.rel q
    · have e : top (k + 1) m = top (k + 1) n := by omega
      rw [e]
      have h2 := top_le (k + 1) m
      rw [e] at h2
      exact List.Lex.cons (ih (by omega))
theorem cas_bound {k n x : Nat} (h : x ∈ cas k n) : x ≤ n + k := by
  refine Nat.le_of_lt_succ ((cas_down k n).2 x h (n + k + 1) ?_)
  cases k with
  | zero => exact absurd h (by simp [cas])
  | succ k =>
    have h1 := ch_more k n
    have h2 := ch_mono (show n + k + 1 ≤ n + (k + 1) + 1 by omega) (k + 1)
    omega
theorem fac_lt : ∀ k, k < 21 → fac k < 2 ^ 62 := by decide
end Sh

/-! Rules of our own over the layer: great divisions, comb, factorial, lists compared and sorted, sets of lists. -/
namespace Sh
open PySem PySem.Spec PyProof.Rows L2
section
variable {X : Cx}
theorem op_fdivP : OpR X (binaryOp .FloorDiv) (rI CDivP fun i j => .int (i / j)) :=
  opI fun i j _ _ _ _ _ hc q => by
    have h1 : (0 : Int) < j := hc.1
    refine floordiv_int (by omega) ?_ (.inl hc.2)
    rw [Int.fdiv_eq_ediv_of_nonneg i (by omega)]
    exact q
/-- a dividend of at most 13500 bits is divided by C, whatever the divisor -/
theorem divp_few {i j : Int} (hj : 0 < j) (hi : i.natAbs.log2 < 13500) : CDivP i j := by
  refine ⟨hj, ?_⟩
  show (decide ((if j == 0 then 0 else j.natAbs.log2 / 30 + 1) > 300) && decide ((if i == 0 then 0 else i.natAbs.log2 / 30 + 1) > (if j == 0 then 0 else j.natAbs.log2 / 30 + 1) + 150)) = false
  by_cases h : (if j == 0 then 0 else j.natAbs.log2 / 30 + 1) > 300
  · have k : ¬ (if i == 0 then 0 else i.natAbs.log2 / 30 + 1) > (if j == 0 then 0 else j.natAbs.log2 / 30 + 1) + 150 := by
      generalize (if j == 0 then 0 else j.natAbs.log2 / 30 + 1) = d at *
      split <;> omega
    rw [decide_eq_false k, Bool.and_false]
  · rw [decide_eq_false h, Bool.false_and]
theorem log2_small {n b : Nat} (h : n < 2 ^ b) (h0 : 0 < b) : n.log2 < b := PySem.Flt.log2_lt_of h0 h
/-! ### comb, factorial -/
theorem fp_fal (n : Nat) : ∀ j : Nat, j ≤ n → Builtin.Math.fallingProduct (n : Int) j = ((fal n j : Nat) : Int)
  | 0, _ => rfl
  | j + 1, h => by
    rw [PySem.W.mc_fp_succ, fp_fal n j (by omega)]
    show _ = ((fal n j * (n - j) : Nat) : Int)
    rw [Int.natCast_mul, Int.ofNat_sub (show j ≤ n by omega)]
theorem fp_ch {n m : Nat} (h : m ≤ n) : Builtin.Math.fallingProduct (n : Int) m / Builtin.Math.fallingProduct (m : Int) m = ((ch n m : Nat) : Int) := by
  rw [fp_fal n m h, fp_fal m m (Nat.le_refl _), fal_ch, fal_ch, ch_self, Nat.one_mul, ← Int.natCast_ediv, Nat.mul_div_cancel _ (fac_pos m)]
/-- the bits of a count of sets -/
theorem ch_bits {n k b : Nat} (h : n < 2 ^ b) : ch n k ≤ 2 ^ (b * k) := by
  rw [Nat.pow_mul]
  exact Nat.le_trans (ch_le_pow n k) (Nat.pow_le_pow_left (Nat.le_of_lt h) k)
def rComb : List V → Hp → VK → Prop := fun vs H Q => ∃ n k b : Nat, vs = [.int (n : Int), .int (k : Int)] ∧ n < 2 ^ b ∧ b * k ≤ 100000000 ∧ k ≤ 9000 ∧ Q (.int ((ch n k : Nat) : Int)) H
theorem cr_comb : CallR X (.builtin "math.comb") rComb := by
  intro pins s σ H vs us Q I r h
  obtain ⟨n, k, b, rfl, hb, hbk, hk, q⟩ := h
  obtain ⟨t, u, rfl⟩ := Vals.int2 r
  suffices g : Gives (Builtin.«math.comb» ⟨[.int (n : Int) t, .int (k : Int) u], []⟩) (.int ((ch n k : Nat) : Int)) from
    call_function_meets PySem.W.MGF.kind_comb PySem.W.MGF.plain_comb PySem.W.MGF.entry_comb (PySem.W.MGF.args_comb _ _) g.meets ⟨.int _, H, I.tok _, ⟨_, rfl⟩, q⟩
  by_cases hkn : n < k
  · rw [ch_few hkn]
    exact PySem.W.mc_run_comb0 (n : Int) t (k : Int) u (by omega) (by omega) (by omega)
  · have e : min (k : Int) ((n : Int) - k) = ((min k (n - k) : Nat) : Int) := by omega
    have hm : min k (n - k) ≤ n := by omega
    have hc : ch n (min k (n - k)) = ch n k := by
      by_cases h2 : k ≤ n - k
      · rw [Nat.min_eq_left h2]
      · rw [Nat.min_eq_right (by omega), ← ch_sym (by omega)]
    have q := PySem.W.mc_run_comb (n : Int) t (k : Int) u (by omega) (by omega) (by omega)
    rw [e, Int.toNat_natCast, fp_ch hm, hc] at q
    refine q ?_ ?_ ?_ ?_
    · show ¬ _ > (2 : Int) ^ 63 - 1
      omega
    · show ¬ _ > (20000 : Int)
      omega
    · omega
    · have hp := ch_bits (n := n) (k := k) hb
      have hl : (ch n k).log2 ≤ b * k := PySem.W.mg_log (by
        have := Nat.two_pow_pos (b * k)
        rw [Nat.pow_succ]
        omega)
      rw [bitsLine_eq]
      show (ch n k).log2 < _
      omega
def rFact : List V → Hp → VK → Prop := fun vs H Q => ∃ n : Nat, vs = [.int (n : Int)] ∧ n ≤ 20000 ∧ Q (.int ((fac n : Nat) : Int)) H
theorem fac_nat : ∀ n : Nat, Builtin.Math.factorialNat n = fac n
  | 0 => rfl
  | n + 1 => by
    rw [PySem.W.mc_fac_succ, fac_nat n, Nat.mul_comm]
    rfl
theorem cr_factorial : CallR X (.builtin "math.factorial") rFact := by
  intro pins s σ H vs us Q I r h
  obtain ⟨n, rfl, hn, q⟩ := h
  obtain ⟨u, rfl, t, rfl⟩ : ∃ u, us = [u] ∧ RelV (.int (n : Int)) u := by
    cases r with
    | cons p r' =>
      cases r'
      exact ⟨_, rfl, p⟩
  refine PySem.W.mc_factorial (by omega) (by omega) fun _ => ?_
  rw [Int.toNat_natCast, fac_nat]
  exact ⟨.int _, H, I.tok _, ⟨_, rfl⟩, q⟩
/-! ### lists of ints compared by their order -/
def rLtL (K : PySem.W.Frag) : R2 := fun x y H Q => ∃ (a b : Addr) (ns ms : List Int), x = .ref a ∧ y = .ref b ∧ SqL K H a (ns.map V.int) ∧ SqL K H b (ms.map V.int) ∧ Q (.bl (decide (ns < ms))) H
theorem dp_ints {K : PySem.W.Frag} {H : Hp} : ∀ ns : List Int, DpAll K H (ns.map V.int) (ns.map PyData.int)
  | [] => .nil
  | n :: ns => .cons (.int n) (dp_ints ns)
theorem dp_list {K : PySem.W.Frag} {H : Hp} {a : Addr} {ns : List Int} (h : SqL K H a (ns.map V.int)) : Dp K H (.ref a) (.list (ns.map PyData.int)) := .lst h (dp_ints ns)
theorem op_ltL (hu : X.A.units + 64 < cLine) : OpR X (compareOp .Lt) (rLtL X.K) := by
  intro pins s σ H x y v u Q I rx ry h
  obtain ⟨a, b, ns, ms, rfl, rfl, ha, hb, q⟩ := h
  obtain ⟨as, r1⟩ := Dp.reads I _ _ v (dp_list ha) rx
  obtain ⟨bs, r2⟩ := Dp.reads I _ _ u (dp_list hb) ry
  have hd : min (PyData.list (ns.map PyData.int)).depth (PyData.list (ms.map PyData.int)).depth ≤ 1 := by
    have e : (PyData.list (ns.map PyData.int)).depth = 1 := by rw [PyData.depth, PySem.W.depth_ints]
    omega
  have hr := PySem.W.rcLt_alike (.list (ns.map PyData.int)) (.list (ms.map PyData.int)) X.A s v u as bs r1 r2 (by simpa [PySem.W.alike] using PySem.W.alike_ints ns ms) (by intro z; cases z) (by omega)
  have e : PySem.W.dataLt (.list (ns.map PyData.int)) (.list (ms.map PyData.int)) = decide (ns < ms) := by
    rw [PySem.W.dataLt_list]
    exact PySem.W.dataLt_ints ns ms
  rw [e] at hr
  exact hr X.prog X.w X.xe _ ⟨.bl _, H, I, rfl, q⟩
/-! ### arithmetic of numbers from 0 on -/
def NMul (n m : Nat) : Prop := ∃ a b, n < 2 ^ a ∧ m < 2 ^ b ∧ a + b ≤ 134217728
def NDiv (n m : Nat) : Prop := 0 < m ∧ ((∃ b, n < 2 ^ b ∧ b ≤ 13500) ∨ m < 1073741824)
theorem NDiv.few {n m b : Nat} (hm : 0 < m) (hn : n < 2 ^ b) (hb : b ≤ 13500) : NDiv n m := ⟨hm, .inl ⟨b, hn, hb⟩⟩
theorem NDiv.small {n m : Nat} (hm : 0 < m) (h : m < 1073741824) : NDiv n m := ⟨hm, .inr h⟩
def NShl (n m : Nat) : Prop := ∃ b, n < 2 ^ b ∧ b + m ≤ 134217728
def rNAdd : R2 := fun x y H Q => ∃ n m : Nat, x = .int (n : Int) ∧ y = .int (m : Int) ∧ Q (.int ((n + m : Nat) : Int)) H
def rNSub : R2 := fun x y H Q => ∃ n m : Nat, x = .int (n : Int) ∧ y = .int (m : Int) ∧ m ≤ n ∧ Q (.int ((n - m : Nat) : Int)) H
def rNMul : R2 := fun x y H Q => ∃ n m : Nat, x = .int (n : Int) ∧ y = .int (m : Int) ∧ NMul n m ∧ Q (.int ((n * m : Nat) : Int)) H
def rNDiv : R2 := fun x y H Q => ∃ n m : Nat, x = .int (n : Int) ∧ y = .int (m : Int) ∧ NDiv n m ∧ Q (.int ((n / m : Nat) : Int)) H
def rNMod : R2 := fun x y H Q => ∃ n m : Nat, x = .int (n : Int) ∧ y = .int (m : Int) ∧ 0 < m ∧ Q (.int ((n % m : Nat) : Int)) H
def rNShl : R2 := fun x y H Q => ∃ n m : Nat, x = .int (n : Int) ∧ y = .int (m : Int) ∧ NShl n m ∧ Q (.int ((n * 2 ^ m : Nat) : Int)) H
def rNShr : R2 := fun x y H Q => ∃ n m : Nat, x = .int (n : Int) ∧ y = .int (m : Int) ∧ Q (.int ((n / 2 ^ m : Nat) : Int)) H
def rNLt : R2 := fun x y H Q => ∃ n m : Nat, x = .int (n : Int) ∧ y = .int (m : Int) ∧ Q (.bl (decide (n < m))) H
def rNLe : R2 := fun x y H Q => ∃ n m : Nat, x = .int (n : Int) ∧ y = .int (m : Int) ∧ Q (.bl (decide (n ≤ m))) H
def rNGt : R2 := fun x y H Q => ∃ n m : Nat, x = .int (n : Int) ∧ y = .int (m : Int) ∧ Q (.bl (decide (m < n))) H
def rNGe : R2 := fun x y H Q => ∃ n m : Nat, x = .int (n : Int) ∧ y = .int (m : Int) ∧ Q (.bl (decide (m ≤ n))) H
def rNEq : R2 := fun x y H Q => ∃ n m : Nat, x = .int (n : Int) ∧ y = .int (m : Int) ∧ Q (.bl (decide (n = m))) H
def rNNe : R2 := fun x y H Q => ∃ n m : Nat, x = .int (n : Int) ∧ y = .int (m : Int) ∧ Q (.bl (!decide (n = m))) H
theorem op_nAdd : OpR X (binaryOp .Add) rNAdd := by
  intro pins s σ H x y v u Q I rx ry h
  obtain ⟨n, m, rfl, rfl, q⟩ := h
  exact op_add pins s σ H _ _ v u Q I rx ry ⟨_, _, rfl, rfl, q⟩
theorem op_nSub : OpR X (binaryOp .Sub) rNSub := by
  intro pins s σ H x y v u Q I rx ry h
  obtain ⟨n, m, rfl, rfl, c, q⟩ := h
  rw [Int.ofNat_sub c] at q
  exact op_sub pins s σ H _ _ v u Q I rx ry ⟨_, _, rfl, rfl, q⟩
theorem op_nMul : OpR X (binaryOp .Mult) rNMul := by
  intro pins s σ H x y v u Q I rx ry h
  obtain ⟨n, m, rfl, rfl, ⟨a, b, ha, hb, hab⟩, q⟩ := h
  rw [Int.natCast_mul] at q
  refine op_mulX pins s σ H _ _ v u Q I rx ry ⟨_, _, rfl, rfl, mulx_ok (a := a) (b := b) ?_ ?_ hab, q⟩
  · rw [Int.natAbs_natCast]; exact ha
  · rw [Int.natAbs_natCast]; exact hb
theorem op_nDiv : OpR X (binaryOp .FloorDiv) rNDiv := by
  intro pins s σ H x y v u Q I rx ry h
  obtain ⟨n, m, rfl, rfl, ⟨hm, hd⟩, q⟩ := h
  rw [Int.natCast_ediv] at q
  refine op_fdivP pins s σ H _ _ v u Q I rx ry ⟨_, _, rfl, rfl, ?_, q⟩
  rcases hd with ⟨b, hb, h9⟩ | hs
  · refine divp_few (by omega) ?_
    rw [Int.natAbs_natCast]
    by_cases h0 : n = 0
    · subst h0
      rw [Nat.log2_zero]
      decide
    · exact Nat.lt_of_lt_of_le ((Nat.log2_lt h0).mpr hb) h9
  · exact ⟨by omega, PyProof.noPylong_small (by rw [Int.natAbs_natCast]; exact hs)⟩
theorem op_nMod : OpR X (binaryOp .Mod) rNMod := by
  intro pins s σ H x y v u Q I rx ry h
  obtain ⟨n, m, rfl, rfl, hm, q⟩ := h
  rw [Int.natCast_emod] at q
  exact op_mod pins s σ H _ _ v u Q I rx ry ⟨_, _, rfl, rfl, (by omega), q⟩
theorem op_nShl : OpR X (binaryOp .LShift) rNShl := by
  intro pins s σ H x y v u Q I rx ry h
  obtain ⟨n, m, rfl, rfl, ⟨b, hb, hbm⟩, q⟩ := h
  rw [Int.natCast_mul, ← PyProof.Rows.two_pow_cast] at q
  refine op_shlN pins s σ H _ _ v u Q I rx ry ⟨_, _, rfl, rfl, shl_ok (n := b) ?_ hbm, q⟩
  rw [Int.natAbs_natCast]
  exact hb
theorem op_nShr : OpR X (binaryOp .RShift) rNShr := by
  intro pins s σ H x y v u Q I rx ry h
  obtain ⟨n, m, rfl, rfl, q⟩ := h
  rw [Int.natCast_ediv, ← PyProof.Rows.two_pow_cast] at q
  exact op_shrN pins s σ H _ _ v u Q I rx ry ⟨_, _, rfl, rfl, q⟩
theorem op_nLt : OpR X (compareOp .Lt) rNLt := by
  intro pins s σ H x y v u Q I rx ry h
  obtain ⟨n, m, rfl, rfl, q⟩ := h
  have q : Q (V.bl (decide (n < m))) H := q
  rw [← decide_eq_decide.mpr (Int.ofNat_lt (n := n) (m := m))] at q
  exact op_lt pins s σ H _ _ v u Q I rx ry ⟨_, _, rfl, rfl, q⟩
theorem op_nLe : OpR X (compareOp .LtE) rNLe := by
  intro pins s σ H x y v u Q I rx ry h
  obtain ⟨n, m, rfl, rfl, q⟩ := h
  have q : Q (V.bl (decide (n ≤ m))) H := q
  rw [← decide_eq_decide.mpr (Int.ofNat_le (m := n) (n := m))] at q
  exact op_le pins s σ H _ _ v u Q I rx ry ⟨_, _, rfl, rfl, q⟩
theorem op_nGt : OpR X (compareOp .Gt) rNGt := by
  intro pins s σ H x y v u Q I rx ry h
  obtain ⟨n, m, rfl, rfl, q⟩ := h
  have q : Q (V.bl (decide (m < n))) H := q
  rw [← decide_eq_decide.mpr (Int.ofNat_lt (n := m) (m := n))] at q
  exact op_gt pins s σ H _ _ v u Q I rx ry ⟨_, _, rfl, rfl, q⟩
theorem op_nGe : OpR X (compareOp .GtE) rNGe := by
  intro pins s σ H x y v u Q I rx ry h
  obtain ⟨n, m, rfl, rfl, q⟩ := h
  have q : Q (V.bl (decide (m ≤ n))) H := q
  rw [← decide_eq_decide.mpr (Int.ofNat_le (m := m) (n := n))] at q
  exact op_ge pins s σ H _ _ v u Q I rx ry ⟨_, _, rfl, rfl, q⟩
theorem nat_eq_dec (n m : Nat) : decide (V.int (n : Int) = V.int (m : Int)) = decide (n = m) :=
  decide_eq_decide.mpr ⟨fun h => Int.ofNat.inj (V.int.inj h), fun h => by rw [h]⟩
theorem op_nEq : OpR X (compareOp .Eq) rNEq := by
  intro pins s σ H x y v u Q I rx ry h
  obtain ⟨n, m, rfl, rfl, q⟩ := h
  have q : Q (V.bl (decide (n = m))) H := q
  rw [← nat_eq_dec] at q
  exact op_eq pins s σ H _ _ v u Q I rx ry ⟨rfl, q⟩
theorem op_nNe : OpR X (compareOp .NotEq) rNNe := by
  intro pins s σ H x y v u Q I rx ry h
  obtain ⟨n, m, rfl, rfl, q⟩ := h
  have q : Q (V.bl (!decide (n = m))) H := q
  rw [← nat_eq_dec] at q
  exact op_ne pins s σ H _ _ v u Q I rx ry ⟨rfl, q⟩
/-! ### the same of ints -/
def rIAdd : R2 := fun x y H Q => ∃ i j : Int, x = .int i ∧ y = .int j ∧ Q (.int (i + j)) H
def rISub : R2 := fun x y H Q => ∃ i j : Int, x = .int i ∧ y = .int j ∧ Q (.int (i - j)) H
def rIMul : R2 := fun x y H Q => ∃ i j : Int, x = .int i ∧ y = .int j ∧ CMulX i j ∧ Q (.int (i * j)) H
def rIDiv : R2 := fun x y H Q => ∃ i j : Int, x = .int i ∧ y = .int j ∧ CDivP i j ∧ Q (.int (i / j)) H
def rIMod : R2 := fun x y H Q => ∃ i j : Int, x = .int i ∧ y = .int j ∧ 0 < j ∧ Q (.int (i % j)) H
def rIPow : R2 := fun x y H Q => ∃ i j : Int, x = .int i ∧ y = .int j ∧ CPow i j ∧ Q (.int (i ^ j.toNat)) H
def rILt : R2 := fun x y H Q => ∃ i j : Int, x = .int i ∧ y = .int j ∧ Q (.bl (decide (i < j))) H
def rILe : R2 := fun x y H Q => ∃ i j : Int, x = .int i ∧ y = .int j ∧ Q (.bl (decide (i ≤ j))) H
def rIGt : R2 := fun x y H Q => ∃ i j : Int, x = .int i ∧ y = .int j ∧ Q (.bl (decide (j < i))) H
def rIGe : R2 := fun x y H Q => ∃ i j : Int, x = .int i ∧ y = .int j ∧ Q (.bl (decide (j ≤ i))) H
def rIEq : R2 := fun x y H Q => ∃ i j : Int, x = .int i ∧ y = .int j ∧ Q (.bl (decide (i = j))) H
def rINe : R2 := fun x y H Q => ∃ i j : Int, x = .int i ∧ y = .int j ∧ Q (.bl (!decide (i = j))) H
theorem op_iAdd : OpR X (binaryOp .Add) rIAdd := op_add
theorem op_iSub : OpR X (binaryOp .Sub) rISub := op_sub
theorem op_iMul : OpR X (binaryOp .Mult) rIMul := op_mulX
theorem op_iDiv : OpR X (binaryOp .FloorDiv) rIDiv := op_fdivP
theorem op_iMod : OpR X (binaryOp .Mod) rIMod := op_mod
theorem op_iPow : OpR X (binaryOp .Pow) rIPow := op_pow
theorem op_iLt : OpR X (compareOp .Lt) rILt := op_lt
theorem op_iLe : OpR X (compareOp .LtE) rILe := op_le
theorem op_iGt : OpR X (compareOp .Gt) rIGt := op_gt
theorem op_iGe : OpR X (compareOp .GtE) rIGe := op_ge
theorem int_eq_dec (i j : Int) : decide (V.int i = V.int j) = decide (i = j) := decide_eq_decide.mpr ⟨V.int.inj, fun h => by rw [h]⟩
theorem op_iEq : OpR X (compareOp .Eq) rIEq := by
  intro pins s σ H x y v u Q I rx ry h
  obtain ⟨n, m, rfl, rfl, q⟩ := h
  rw [← int_eq_dec] at q
  exact op_eq pins s σ H _ _ v u Q I rx ry ⟨rfl, q⟩
theorem op_iNe : OpR X (compareOp .NotEq) rINe := by
  intro pins s σ H x y v u Q I rx ry h
  obtain ⟨n, m, rfl, rfl, q⟩ := h
  rw [← int_eq_dec] at q
  exact op_ne pins s σ H _ _ v u Q I rx ry ⟨rfl, q⟩
/-- how many bits a number has -/
def bits (n : Nat) : Nat := Builtin.Int.intBits (n : Int)
theorem lt_bits (n : Nat) : n < 2 ^ bits n := by
  have := natAbs_lt_pow_bits (n : Int)
  rwa [Int.natAbs_natCast] at this
theorem bits_le {n b : Nat} (h : n < 2 ^ b) : bits n ≤ b := intBits_le (by rw [Int.natAbs_natCast]; exact h)
end
/-- a test that is decided -/
theorem dec2 {p A B : Prop} [Decidable p] (h1 : p → A) (h2 : ¬ p → B) : if decide p = true then A else B :=
  ite2 (fun c => h1 (of_decide_eq_true c)) (fun c => h2 (of_decide_eq_false (Bool.eq_false_iff.mpr c)))
theorem dec2n {p A B : Prop} [Decidable p] (h1 : ¬ p → A) (h2 : p → B) : if (!decide p) = true then A else B := by
  by_cases h : p
  · rw [decide_eq_true h]; exact iteF (h2 h)
  · rw [decide_eq_false h]; exact iteT (h1 h)
theorem decT {p A B : Prop} [Decidable p] (hp : p) (h : A) : if decide p = true then A else B := by rw [decide_eq_true hp]; exact iteT h
theorem decF {p A B : Prop} [Decidable p] (hp : ¬ p) (h : B) : if decide p = true then A else B := by rw [decide_eq_false hp]; exact iteF h
theorem decNT {p A B : Prop} [Decidable p] (hp : p) (h : B) : if (!decide p) = true then A else B := by rw [decide_eq_true hp]; exact iteF h

theorem decNF {p A B : Prop} [Decidable p] (hp : ¬ p) (h : A) : if (!decide p) = true then A else B := by rw [decide_eq_false hp]; exact iteT h
end Sh

/-! set(xs) of a list of ints, as a set that the layer tracks. -/
namespace Sh
open PySem PySem.Spec PyProof.Rows L2
section
variable {P : Program} {w : World} {A : Around} {E : Value → Shared → Prop} {s : Shared}
/-- a new set's record -/
abbrev emptySet (w : World) : Obj :=
  { cls := .type "set", dict := none, data := .set #[] 0 (.fresh 0 0 (!w.params.followText "set-order")) }
/-- set(xs), xs a list of ints -/
theorem run_set_list {l : Addr} {items : Array Value} (ns : List Int) {Q : Value → Shared → Prop} (calm : A.handled = none) (isl : s.heap.IsList l items)
    (hin : IntsAre items.toList ns) (few : ns.length + 1 < scanBound)
    (fin : ∀ (h' : Heap) (tk c : Nat), SetR w h' s.heap.objs.size (fun j => decide (j ∈ ns)) c → c ≤ ns.length →
      (∀ b o, s.heap.get? b = some o → h'.get? b = some o) → Q (.ref s.heap.objs.size) { s with heap := h', toks := tk }) :
    wpAny (model P w) A (call (.type "set") [.ref l]) Q E s := by
  have size_ns : items.size = ns.length := by
    have q := hin.length
    rwa [Array.length_toList] at q
  obtain ⟨c0, tl0, mro0⟩ := F.called_set.mro
  have made0 := F.called_set.made
  have sub0 := F.called_set.sub
  refine wpAny_call (codeAny_of_tree (show wpAny _ _ (callAny (.type "set") _) _ _ _ from ?_))
  refine wpAny_pure ⟨Code.quiet_builtin _ (by decide +kernel),
    codeAny_builtin F.entry_type_call ?_⟩
  rw [Around.under_plain (weight_type_call_type "set" [.ref l] [])
    rfl]
  have nt := F.called_set.notType
  have cc := F.called_set.canCreate
  have tc := F.typeCall_set_1 (.ref l)
  repeat any_goals first | assumption | wp_step
  -- the new set
  refine codeAny_mono (code_set_led1 (.ref l) (E := E)
    (Q₁ := fun z s1 => z = .ref s.heap.objs.size ∧ s1 = { s with heap := s.heap.push (emptySet w) }) ⟨rfl, rfl⟩) fun r s1 hr => ?_
  cases r with
  | error e => exact hr
  | ok fl =>
  cases fl with
  | next => exact hr.elim
  | brk => exact hr.elim
  | cont => exact hr.elim
  | ret z =>
  obtain ⟨rfl, rfl⟩ := hr
  have atS : (s.heap.push (emptySet w)).get? s.heap.objs.size = some (emptySet w) := Heap.get?_push_size _ rfl
  have tyS : Shared.TypeIs { s with heap := s.heap.push (emptySet w) } (.ref s.heap.objs.size) "set" := ⟨_, atS, rfl⟩
  have il := F.called_set.init.lookup
  have ib := F.called_set.init.bind (.ref s.heap.objs.size)
  repeat any_goals first | assumption | wp_step
  -- its __init__
  let Rw : Value → Shared → Prop := fun r s2 => r = .none ∧ ∃ h' tk c, s2 = { s with heap := h', toks := tk } ∧
    SetR w h' s.heap.objs.size (fun j => decide (j ∈ ns)) c ∧ c ≤ ns.length ∧ ∀ b o, s.heap.get? b = some o → h'.get? b = some o
  refine codeAny_mono (codeAny_call_builtin (R := wants Rw E) F.called_set.init.plain
    F.entry_set_init (check_set_init_1 tyS ?_)) fun r2 s2 hr2 => ?_
  · obtain ⟨ol, hol, hcl, nl, hdl⟩ := isl
    obtain ⟨oc, od, oda, osl⟩ := ol
    simp only at hcl hdl
    subst hcl hdl
    have hol1 : (s.heap.push (emptySet w)).get? l = some { cls := .type "list", dict := od, data := .seq items nl, slots := osl } :=
      Heap.get?_push_of_some _ hol
    have n1 := F.sub_list_set
    have n2 := F.sub_list_frozenset
    have n3 : (Value.type "list" == Value.type "dict") = false := by decide
    have isl1 : (s.heap.push (emptySet w)).IsList l items := ⟨_, hol1, rfl, nl, rfl⟩
    unfold Builtin.«set.__init__» noKeywords
    unfold Builtin.Frozenset.updateFrom
    generalize gI : pyIter = PI
    wp_walk
    subst gI
    refine wpAny_pyIter_list isl1 (wpAny_bind (wpAny_runValue ?_))
    have lS : l < s.heap.objs.size := Heap.lt_size hol
    have calm3 : A.in1.in1.in1.handled = none := by simp [calm]
    have lI : l ≠ (s.heap.push (emptySet w)).objs.size := by
      rw [Heap.size_push]
      exact Nat.ne_of_lt (Nat.lt_succ_of_lt lS)
    have nS : s.heap.objs.size ∉ [(s.heap.push (emptySet w)).objs.size, l] := by
      rw [Heap.size_push]
      intro q
      rcases List.mem_cons.mp q with q | q
      · exact absurd q (Nat.ne_of_lt (Nat.lt_succ_self _))
      · exact absurd (List.mem_singleton.mp q) (Nat.ne_of_gt lS)
    have at_i : ∀ (i : Nat) (v : Value), items[i]? = some v → ∃ k t, ns[i]? = some k ∧ v = .int k t := fun i v hv => by
      have hi : i < ns.length := size_ns ▸ (Array.getElem?_eq_some_iff.mp hv).1
      obtain ⟨t, e⟩ := hin.int_at i v (by rw [Array.getElem?_toList]; exact hv)
      have g := List.getElem?_eq_getElem hi
      exact ⟨ns[i], t, g, by rw [e, List.getD_eq_getElem?_getD, g] <;> rfl⟩
    refine set_update_ints ((Walks.list calm3 _ l lI items).toS) s.heap.objs.size nS ns size_ns few at_i (items.size - 0) 0 _ (by omega)
      (Nat.zero_le _) ⟨⟨_, Heap.get?_push_size _ rfl, rfl, rfl⟩, (isl1.push _)⟩ ?s0 ?sR
    case s0 =>
      exact ⟨0, Nat.le_refl 0, setR_new_at (Heap.get?_push_of_some _ atS)⟩
    case sR =>
      intro s3 c3 mv hc3 R3
      obtain ⟨h3, g3, d3, t3, o3⟩ := s3
      obtain rfl : g3 = s.gens := mv.gens
      obtain rfl : d3 = s.drawn := mv.drawn
      obtain rfl : o3 = s.os := mv.os
      rw [size_ns] at hc3
      refine wpAny_pure ?_
      show wpAny _ _ (ret Value.none) _ _ _
      refine wpAny_pure ⟨rfl, h3, t3, c3, rfl, R3, hc3, fun b o e => ?_⟩
      have b0 : b < s.heap.objs.size := Heap.lt_size e
      refine mv.heap b o (fun q => ?_) (Heap.get?_push_of_some _ (Heap.get?_push_of_some _ e))
      rcases List.mem_cons.mp q with q | q
      · exact absurd q (Nat.ne_of_lt b0)
      · have q := List.mem_singleton.mp q
        rw [Heap.size_push] at q
        exact absurd q (Nat.ne_of_lt (Nat.lt_succ_of_lt b0))
  · cases r2 with
    | error e => exact hr2
    | ok f2 =>
    cases f2 with
    | next => exact hr2.elim
    | brk => exact hr2.elim
    | cont => exact hr2.elim
    | ret r =>
    obtain ⟨rfl, h', tk, c, rfl, hS, hc, hk⟩ := hr2
    repeat any_goals first | assumption | wp_step
    exact fin _ _ _ hS hc hk
end
section
variable {X : Cx}
def rSetL (K : PySem.W.Frag) (w : World) : List V → Hp → VK → Prop := fun vs H Q => ∃ (a : Addr) (ns : List Int), vs = [.ref a] ∧ SqL K H a (ns.map V.int) ∧ ns.length < 60 ∧
  ∀ (p : Addr) (c : Nat), H p = none → c ≤ ns.length → Q (.ref p) (upd H p (SetO w p (fun j => decide (j ∈ ns)) c))
theorem cr_setL (hc : X.calm = true) : CallR X (.type "set") (rSetL X.K X.w) := by
  intro pins s σ H vs us Q I r h
  obtain ⟨a, ns, rfl, hs, h60, q⟩ := h
  rw [Vals.ref1 r]
  obtain ⟨its, rv, pl, hz⟩ := I.list hs
  have hi : IntsAre its.toArray.toList ns := intsAre_of rv
  refine run_set_list ns (I.ok.hd hc) pl.isList hi ?_ fun h' tk c R hc' keep => ?_
  · have e : 61 < scanBound := by decide
    omega
  · have hn : H s.heap.objs.size = none := I.hok.fresh (Nat.le_refl _)
    exact ⟨.ref _, upd H s.heap.objs.size (SetO X.w s.heap.objs.size (fun j => decide (j ∈ ns)) c), I.laid (t' := tk) keep (Nat.le_refl _) (setO_new R), rfl, q _ _ hn hc'⟩
/-! ### sorted(xs) of lists of ints that are in order already -/
def rSortedL (K : PySem.W.Frag) : List V → Hp → VK → Prop := fun vs H Q => ∃ (a : Addr) (ps : List (Addr × List Int)), vs = [.ref a] ∧ SqL K H a (ps.map fun p => V.ref p.1) ∧
  (∀ p ∈ ps, SqL K H p.1 (p.2.map V.int)) ∧ ps.Pairwise (fun p q => p.2 ≤ q.2) ∧ ∀ r, H r = none → Q (.ref r) (upd H r (.lst (ps.map fun p => V.ref p.1)))
theorem refs_each : ∀ {ps : List (Addr × List Int)} {us : List Value}, Vals (ps.map fun p => V.ref p.1) us → PySem.W.EachIs (fun (v : Value) (p : Addr × List Int) => v = .ref p.1) us ps
  | [], _, r => by cases r; exact .nil
  | p :: ps, _, r => by
    cases r with
    | cons r1 r2 => exact .cons r1 (refs_each r2)
theorem each_refs : ∀ {ps : List (Addr × List Int)} {us : List Value}, PySem.W.EachIs (fun (v : Value) (p : Addr × List Int) => v = .ref p.1) us ps → Vals (ps.map fun p => V.ref p.1) us
  | [], _, r => by cases r; exact .nil
  | p :: ps, _, r => by
    cases r with
    | cons r1 r2 => exact .cons r1 (each_refs r2)
theorem each_reads {pins : List (Addr × Obj)} {σ : L2.St} {H : Hp} {s : Shared} (I : Inv X pins σ H s) : ∀ {ps : List (Addr × List Int)} {us : List Value}, PySem.W.EachIs (fun (v : Value) (p : Addr × List Int) => v = .ref p.1) us ps →
    (∀ p ∈ ps, SqL X.K H p.1 (p.2.map V.int)) → PySem.W.EachIs (fun (v : Value) (p : Addr × List Int) => ∃ as, Reads s.heap v (.list (p.2.map PyData.int)) as) us ps
  | [], _, r, _ => by cases r; exact .nil
  | p :: ps, _, r, h => by
    cases r with
    | cons r1 r2 => exact .cons (Dp.reads I _ _ _ (dp_list (h p List.mem_cons_self)) r1) (each_reads I r2 fun q hq => h q (List.mem_cons_of_mem _ hq))
theorem cr_sortedL (hu : X.A.units + 64 < cLine) : CallR X (.builtin "sorted") (rSortedL X.K) := by
  intro pins s σ H vs us Q I r h
  obtain ⟨a, ps, rfl, hs, hall, hord, q⟩ := h
  rw [Vals.ref1 r]
  obtain ⟨its, rv, pl, hz⟩ := I.list hs
  have e1 := refs_each rv
  have e2 := each_reads I e1 hall
  rw [List.length_map] at hz
  refine PySem.W.sorted_data (enc := fun p : Addr × List Int => PyData.list (p.2.map PyData.int)) pl.isList e1 e2 ?_ ?_ hz ?_ fun out hlen he => ?_
  · exact .of fun b b' => by simpa [PySem.W.alike] using PySem.W.alike_ints b.2 b'.2
  · exact .others fun b => ⟨(fun z => nomatch z), fun xs z => nomatch z⟩
  · intro b _
    have e : (PyData.list (b.2.map PyData.int)).depth = 1 := by rw [PyData.depth, PySem.W.depth_ints]
    omega
  · rw [PySem.W.dataLe_rows, List.mergeSort_of_pairwise (by simpa using hord)] at he
    obtain ⟨c, hc⟩ := sortedAll_at s.heap its (List.toArray out)
    have hn : H (s.heap.objs.size + 1) = none := I.hok.fresh (Nat.le_succ _)
    refine ⟨.ref _, upd H (s.heap.objs.size + 1) (.lst (ps.map fun p => V.ref p.1)), I.laid (t' := s.toks) (fun _ _ => sortedAll_old) (Nat.le_succ _) ?_, rfl, q _ hn⟩
    exact ⟨by rw [List.length_map]; exact hz, out, c, each_refs he, hc⟩
end
end Sh

/-! Comprehensions with their list as it grows; loops over pairs. -/
namespace Sh
open PySem PySem.Spec PyProof.Rows L2
/-! ### rules that name the written part: for a comprehension's block -/
section
variable {X : Cx} {K : PySem.W.Frag}
theorem sl_listK (hK : X.K = K := by rfl) : SlR X (rSlL K) := hK ▸ sl_list
theorem sl_tupK (hK : X.K = K := by rfl) : SlR X (rSlT K) := hK ▸ sl_tup
theorem ix_listK (hK : X.K = K := by rfl) : IxR X (rIxL K) := hK ▸ ix_list
theorem ix_tupK (hK : X.K = K := by rfl) : IxR X (rIxT K) := hK ▸ ix_tup
theorem op_eqDK (hu : X.A.units + 64 < cLine) (hK : X.K = K := by rfl) : OpR X (compareOp .Eq) (rEqD K) := hK ▸ op_eqD hu
theorem op_neDK (hu : X.A.units + 64 < cLine) (hK : X.K = K := by rfl) : OpR X (compareOp .NotEq) (rNeD K) := hK ▸ op_neD hu
theorem op_ltLK (hu : X.A.units + 64 < cLine) (hK : X.K = K := by rfl) : OpR X (compareOp .Lt) (rLtL K) := hK ▸ op_ltL hu
def rLenS (K : PySem.W.Frag) : List V → Hp → VK → Prop := fun vs H Q => ∃ p ys, vs = [.ref p] ∧ (SqL K H p ys ∨ SqT K H p ys) ∧ Q (.int ((ys.length : Nat) : Int)) H
theorem call_lenK (hK : X.K = K := by rfl) : CallR X (.builtin "len") (rLenS K) := hK ▸ call_len_seq
theorem cr_sumK (hc : X.calm = true) (hK : X.K = K := by rfl) : CallR X (.builtin "sum") (rSum K) := hK ▸ cr_sum hc
theorem cr_allK (hc : X.calm = true) (hK : X.K = K := by rfl) : CallR X (.builtin "all") (rAll K) := hK ▸ cr_all hc
def rListOf (K : PySem.W.Frag) : List V → Hp → VK → Prop := fun vs H Q => ∃ p ys, vs = [.ref p] ∧ (SqL K H p ys ∨ SqT K H p ys) ∧ ∀ l, H l = none → Q (.ref l) (upd H l (.lst ys))
theorem call_listK (hK : X.K = K := by rfl) : CallR X (.type "list") (rListOf K) := hK ▸ call_list_of
theorem call_isiK (hK : X.K = K := by rfl) : CallR X (.builtin "isinstance") (rIsi K) := hK ▸ call_isi
theorem pe_revLK {e : Expr} {te : TE} {k : Nat} {p1 p2 p3 pos : Pos} (he : PE X e te) (hK : X.K = K := by rfl) :
    PE X (.Subscript e (.Slice none none (some (.UnaryOp .USub (.Constant (.int 1) k p1) p2)) p3) pos) (tRevL K te) := hK ▸ pe_revL he
theorem pg_tupK {es : List Expr} {k : Nat} {pos : Pos} {t : TGs} {n : Nat} (hc : X.calm = true) (h : PGs X es t) (hK : X.K = K := by rfl)
    (hn : (assignEach es X.env).length = n := by rfl) (hst : (assignEach es X.env).findIdx? (·.1) = none := by rfl) : PG X (.Tuple es k pos) (gTup K n t) := hK ▸ pg_tup hc h hn hst
end
/-- the list at D holds acc, of i items, of which Pv is true -/
def Acc (D : Addr) (Pv : List V → Hp → Prop) (i : Nat) : Hp → Prop := fun H => ∃ acc : List V, acc.length = i ∧ H D = some (.lst acc) ∧ Pv acc H
/-- a comprehension's item y is put -/
abbrev LcN (D : Addr) (P : Hp → Prop) : VK := fun y H => ∃ acc : List V, H D = some (.lst acc) ∧ acc.length < sizeLine ∧ P (upd H D (.lst (acc ++ [y])))
theorem LcN.put {D : Addr} {Pv : List V → Hp → Prop} {i : Nat} {acc : List V} {y : V} {H : Hp} (h : H D = some (.lst acc)) (hl : acc.length = i) (hz : i < sizeLine) (hp : Pv (acc ++ [y]) (upd H D (.lst (acc ++ [y])))) :
    LcN D (Acc D Pv (i + 1)) y H :=
  ⟨acc, h, by omega, acc ++ [y], by rw [List.length_append, List.length_singleton, hl], upd_same, hp⟩
/-- what a comprehension without tests asks behind its source -/
abbrev LcW (J : It) (g : TG) (te : TE) (vs : List Nat) (σ : L2.St) (H1 : Hp) (D : Addr) (Qd : Hp → Prop) : Prop :=
  ∃ W : Nat → Nat → Hp → Prop, (∃ m, W 0 m (upd H1 D (.lst []))) ∧ ∀ i m H, W i m H →
    (J.stop i H ∧ Qd H) ∨ (J.go i H ∧ ∃ Nx : Hp → Prop, (∀ H', Nx H' → ∃ m', m' < m ∧ W (i + 1) m' H') ∧
      ∀ x H', J.yld i H x H' → g x (wipe σ vs) H' fun σ2 H2 => wipe σ2 vs = wipe σ vs ∧ tYes σ2 H2 fun b H3 => if b = true then te σ2 H3 (LcN D Nx) else Nx H3)
theorem lc_gen {J : It} {g : TG} {te : TE} {vs : List Nat} {σ : L2.St} {H1 : Hp} {D : Addr} {Qd : Hp → Prop} (n : Nat) (Pv : Nat → List V → Hp → Prop)
    (h0 : Pv 0 [] (upd H1 D (.lst [])))
    (hgo : ∀ i acc H, i < n → Pv i acc H → J.go i H) (hst : ∀ acc H, Pv n acc H → J.stop n H)
    (hs : ∀ i acc H x H', i < n → acc.length = i → H D = some (.lst acc) → Pv i acc H → J.yld i H x H' →
      g x (wipe σ vs) H' fun σ2 H2 => wipe σ2 vs = wipe σ vs ∧ tYes σ2 H2 fun b H3 => if b = true then te σ2 H3 (LcN D (Acc D (Pv (i + 1)) (i + 1))) else Acc D (Pv (i + 1)) (i + 1) H3)
    (hd : ∀ acc H, acc.length = n → H D = some (.lst acc) → Pv n acc H → Qd H) : LcW J g te vs σ H1 D Qd := by
  refine ⟨fun i m H => m = n - i ∧ i ≤ n ∧ Acc D (Pv i) i H, ⟨n, by simp, Nat.zero_le _, [], rfl, upd_same, h0⟩, ?_⟩
  rintro i m H ⟨rfl, hi, acc, hl, hD, p⟩
  by_cases hlt : i < n
  · refine .inr ⟨hgo i acc H hlt p, Acc D (Pv (i + 1)) (i + 1), fun H' p' => ⟨n - (i + 1), by omega, rfl, hlt, p'⟩, fun x H' y => ?_⟩
    exact hs i acc H x H' hlt hl hD p y
  · have e : i = n := by omega
    subst e
    exact .inl ⟨hst acc H p, hd acc H hl hD p⟩
theorem yes_of {σ : L2.St} {H : Hp} {A B : Hp → Prop} (h : A H) : tYes σ H (fun b H3 => if b = true then A H3 else B H3) := by
  show (if true = true then A H else B H)
  rw [if_pos rfl]
  exact h
section
variable {K : PySem.W.Frag} {te : TE} {vs : List Nat} {σ : L2.St} {H1 : Hp} {D : Addr} {Qd : Hp → Prop}
theorem lc1_list {a : Addr} {xs : List V} {k : Nat} (Pv : Nat → List V → Hp → Prop) (h0 : Pv 0 [] (upd H1 D (.lst [])))
    (hl : ∀ i acc H, Pv i acc H → SqL K H a xs) (hw : ∀ x, wipe ((wipe σ vs).set k (some x)) vs = wipe σ vs)
    (hs : ∀ i x acc H, xs[i]? = some x → acc.length = i → H D = some (.lst acc) → Pv i acc H → te ((wipe σ vs).set k (some x)) H (LcN D (Acc D (Pv (i + 1)) (i + 1))))
    (hd : ∀ acc H, acc.length = xs.length → H D = some (.lst acc) → Pv xs.length acc H → Qd H) : LcW (Itl K a) (gName k) te vs σ H1 D Qd := by
  refine lc_gen xs.length Pv h0 (fun i acc H hi p => ⟨xs, xs[i], hl i acc H p, by simp [hi]⟩) (fun acc H p => ⟨xs, hl _ acc H p, Nat.le_refl _⟩) ?_ hd
  intro i acc H x H' hi hlen hD p y
  obtain ⟨e, y⟩ := y
  subst e
  exact ⟨hw x, yes_of (hs i x acc _ (y xs (hl i acc _ p)) hlen hD p)⟩
theorem lc1_range {lo : Int} {n k : Nat} (Pv : Nat → List V → Hp → Prop) (h0 : Pv 0 [] (upd H1 D (.lst [])))
    (hw : ∀ x, wipe ((wipe σ vs).set k (some x)) vs = wipe σ vs)
    (hs : ∀ i acc H, i < n → acc.length = i → H D = some (.lst acc) → Pv i acc H → te ((wipe σ vs).set k (some (.int (lo + i)))) H (LcN D (Acc D (Pv (i + 1)) (i + 1))))
    (hd : ∀ acc H, acc.length = n → H D = some (.lst acc) → Pv n acc H → Qd H) : LcW (Itr lo n) (gName k) te vs σ H1 D Qd := by
  refine lc_gen n Pv h0 (fun i acc H hi p => hi) (fun acc H p => Nat.le_refl _) ?_ hd
  intro i acc H x H' hi hlen hD p y
  obtain ⟨e, y⟩ := y
  subst e y
  exact ⟨hw _, yes_of (hs i acc _ hi hlen hD p)⟩
theorem lc1_rangeN {m n k : Nat} (hm : m = n) (Pv : Nat → List V → Hp → Prop) (h0 : Pv 0 [] (upd H1 D (.lst [])))
    (hw : ∀ x, wipe ((wipe σ vs).set k (some x)) vs = wipe σ vs)
    (hs : ∀ i acc H, i < n → acc.length = i → H D = some (.lst acc) → Pv i acc H → te ((wipe σ vs).set k (some (.int (i : Nat)))) H (LcN D (Acc D (Pv (i + 1)) (i + 1))))
    (hd : ∀ acc H, acc.length = n → H D = some (.lst acc) → Pv n acc H → Qd H) : LcW (Itr 0 m) (gName k) te vs σ H1 D Qd := by
  subst hm
  refine lc1_range Pv h0 hw (fun i acc H hi hl hD p => ?_) hd
  have h := hs i acc H hi hl hD p
  rw [← Int.zero_add (i : Int)] at h
  exact h
/-- a pair just made is stored in two names -/
theorem pair_in {K : PySem.W.Frag} {k j : Nat} {T : Addr} {x y : V} {σ : L2.St} {H : Hp} {Q : L2.St → Hp → Prop} (h : Q ((σ.set k (some x)).set j (some y)) (upd H T (.tup [x, y]))) :
    gTup K 2 (gCons (gName k) (gCons (gName j) gNil)) (.ref T) σ (upd H T (.tup [x, y])) Q :=
  ⟨T, [x, y], rfl, .inl (.inl upd_same), rfl, x, [y], rfl, y, [], rfl, rfl, h⟩
theorem pair_at {K : PySem.W.Frag} {k j : Nat} {T : Addr} {x y : V} {σ : L2.St} {H : Hp} {Q : L2.St → Hp → Prop} (hT : SqT K H T [x, y]) (h : Q ((σ.set k (some x)).set j (some y)) H) :
    gTup K 2 (gCons (gName k) (gCons (gName j) gNil)) (.ref T) σ H Q :=
  ⟨T, [x, y], rfl, hT, rfl, x, [y], rfl, y, [], rfl, rfl, h⟩
/-- what a new object leaves true -/
def Fresh (Pv : Hp → Prop) : Prop := ∀ H T o, H T = none → Pv H → Pv (upd H T o)
theorem lc2_enum {a : Addr} {xs : List V} {k j : Nat} (Pv : Nat → List V → Hp → Prop) (h0 : Pv 0 [] (upd H1 D (.lst [])))
    (hl : ∀ i acc H, Pv i acc H → SqL K H a xs) (hf : ∀ i acc, Fresh (Pv i acc)) (hw : ∀ x y, wipe (((wipe σ vs).set k (some x)).set j (some y)) vs = wipe σ vs)
    (hs : ∀ i x acc H, xs[i]? = some x → acc.length = i → H D = some (.lst acc) → Pv i acc H →
      te (((wipe σ vs).set k (some (.int (i : Nat)))).set j (some x)) H (LcN D (Acc D (Pv (i + 1)) (i + 1))))
    (hd : ∀ acc H, acc.length = xs.length → H D = some (.lst acc) → Pv xs.length acc H → Qd H) :
    LcW (Ite K a) (gTup K 2 (gCons (gName k) (gCons (gName j) gNil))) te vs σ H1 D Qd := by
  refine lc_gen xs.length Pv h0 (fun i acc H hi p => ⟨xs, xs[i], hl i acc H p, by simp [hi]⟩) (fun acc H p => ⟨xs, hl _ acc H p, Nat.le_refl _⟩) ?_ hd
  intro i acc H x H' hi hlen hD p y
  obtain ⟨T, z, rfl, nT, rfl, f⟩ := y
  refine pair_in ⟨hw _ _, yes_of (hs i z acc _ (f xs (hl i acc _ p)) hlen ?_ (hf i acc _ _ _ nT p))⟩
  rw [upd_ne (ne_of_none hD nT)]
  exact hD
theorem lc2_zip {a b : Addr} {xs ys : List V} {k j : Nat} (n : Nat) (hn : n = min xs.length ys.length) (Pv : Nat → List V → Hp → Prop) (h0 : Pv 0 [] (upd H1 D (.lst [])))
    (hl : ∀ i acc H, Pv i acc H → SqL K H a xs ∧ SqL K H b ys) (hf : ∀ i acc, Fresh (Pv i acc)) (hw : ∀ x y, wipe (((wipe σ vs).set k (some x)).set j (some y)) vs = wipe σ vs)
    (hs : ∀ i x y acc H, xs[i]? = some x → ys[i]? = some y → acc.length = i → H D = some (.lst acc) → Pv i acc H →
      te (((wipe σ vs).set k (some x)).set j (some y)) H (LcN D (Acc D (Pv (i + 1)) (i + 1))))
    (hd : ∀ acc H, acc.length = n → H D = some (.lst acc) → Pv n acc H → Qd H) :
    LcW (Itz K a b) (gTup K 2 (gCons (gName k) (gCons (gName j) gNil))) te vs σ H1 D Qd := by
  refine lc_gen n Pv h0 (fun i acc H hi p => ?_) (fun acc H p => ?_) ?_ hd
  · have h1 : i < xs.length := by omega
    have h2 : i < ys.length := by omega
    exact ⟨xs, ys, xs[i], ys[i], (hl i acc H p).1, (hl i acc H p).2, by simp [h1], by simp [h2]⟩
  · exact ⟨xs, ys, (hl n acc H p).1, (hl n acc H p).2, by omega⟩
  · intro i acc H x H' hi hlen hD p y
    obtain ⟨T, z1, z2, rfl, nT, rfl, f1, f2⟩ := y
    refine pair_in ⟨hw _ _, yes_of (hs i z1 z2 acc _ (f1 xs (hl i acc _ p).1) (f2 ys (hl i acc _ p).2) hlen ?_ (hf i acc _ _ _ nT p))⟩
    rw [upd_ne (ne_of_none hD nT)]
    exact hD
end
/-! ### loops -/
section
variable {K : PySem.W.Frag} {tb : TS} {D : Ends} {σ : L2.St} {H : Hp}
/-- what a loop asks behind its source -/
abbrev ForW (J : It) (g : TG) (tb : TS) (D : Ends) (σ : L2.St) (H : Hp) : Prop :=
  ∃ W : Nat → Nat → L2.St → Hp → Prop, (∃ m, W 0 m σ H) ∧ ∀ i m σ H, W i m σ H →
    (J.stop i H ∧ D.nx σ H) ∨ (J.go i H ∧ ∃ N : L2.St → Hp → Prop, (∀ σ' H', N σ' H' → ∃ m', m' < m ∧ W (i + 1) m' σ' H') ∧
      ∀ x H', J.yld i H x H' → g x σ H' fun σ2 H2 => tb { D with nx := N, ct := N, bk := D.nx } σ2 H2)
theorem for2_enum {a : Addr} {xs : List V} {k j : Nat} (Pv : Nat → L2.St → Hp → Prop) (h0 : Pv 0 σ H) (hl : ∀ i σ H, Pv i σ H → SqL K H a xs) (hf : ∀ i σ, Fresh (Pv i σ))
    (hs : ∀ i x σ H, xs[i]? = some x → Pv i σ H → tb { D with nx := Pv (i + 1), ct := Pv (i + 1), bk := D.nx } ((σ.set k (some (.int (i : Nat)))).set j (some x)) H)
    (hd : ∀ σ H, Pv xs.length σ H → D.nx σ H) : ForW (Ite K a) (gTup K 2 (gCons (gName k) (gCons (gName j) gNil))) tb D σ H := by
  refine ⟨fun i m σ H => m = xs.length - i ∧ i ≤ xs.length ∧ Pv i σ H, ⟨xs.length, by simp, Nat.zero_le _, h0⟩, ?_⟩
  rintro i m σ H ⟨rfl, hi, p⟩
  have q := hl i σ H p
  by_cases hlt : i < xs.length
  · refine .inr ⟨⟨xs, xs[i], q, by simp [hlt]⟩, Pv (i + 1), fun σ' H' p' => ⟨xs.length - (i + 1), by omega, rfl, hlt, p'⟩, fun x H' y => ?_⟩
    obtain ⟨T, z, rfl, nT, rfl, f⟩ := y
    exact pair_in (hs i z σ _ (f xs q) (hf i σ _ _ _ nT p))
  · have e : i = xs.length := by omega
    subst e
    exact .inl ⟨⟨xs, q, Nat.le_refl _⟩, hd σ H p⟩
/-- over range(n) -/
theorem for_rangeN {m n k : Nat} (hm : m = n) (Pv : Nat → L2.St → Hp → Prop) (h0 : Pv 0 σ H)
    (hs : ∀ i σ H, i < n → Pv i σ H → tb { D with nx := Pv (i + 1), ct := Pv (i + 1), bk := D.nx } (σ.set k (some (.int (i : Nat)))) H)
    (hd : ∀ σ H, Pv n σ H → D.nx σ H) : ForW (Itr 0 m) (gName k) tb D σ H := by
  subst hm
  refine for_range Pv h0 (fun i σ H hi p => ?_) hd
  have h := hs i σ H hi p
  rw [← Int.zero_add (i : Int)] at h
  exact h
/-- over range(n, 0, -1) -/
theorem for_down {n m k : Nat} (hm : m = n) (Pv : Nat → L2.St → Hp → Prop) (h0 : Pv 0 σ H)
    (hs : ∀ i σ H, i < n → Pv i σ H → tb { D with nx := Pv (i + 1), ct := Pv (i + 1), bk := D.nx } (σ.set k (some (.int ((n - i : Nat) : Int)))) H)
    (hd : ∀ σ H, Pv n σ H → D.nx σ H) : ForW (Itc (n : Int) (-1) m) (gName k) tb D σ H := by
  subst hm
  refine for_rangeC Pv h0 (fun i σ H hi p => ?_) hd
  have h := hs i σ H hi p
  have e : (m : Int) + (i : Nat) * (-1) = ((m - i : Nat) : Int) := by omega
  rw [← e] at h
  exact h
theorem for1_list {a : Addr} {xs : List V} {k : Nat} (Pv : Nat → L2.St → Hp → Prop) (h0 : Pv 0 σ H) (hl : ∀ i σ H, Pv i σ H → SqL K H a xs)
    (hs : ∀ i x σ H, xs[i]? = some x → Pv i σ H → tb { D with nx := Pv (i + 1), ct := Pv (i + 1), bk := D.nx } (σ.set k (some x)) H)
    (hd : ∀ σ H, Pv xs.length σ H → D.nx σ H) : ForW (Itl K a) (gName k) tb D σ H :=
  for_list Pv h0 (fun i σ H _ p => hl i σ H p) hs hd
end
/-! ### heaps -/
theorem same_new {H : Hp} {p : Addr} {o : HO} (h : H p = none) : Same H (upd H p o) := fun b x e => by
  rw [upd_ne (ne_of_none e h)]
  exact e
theorem same_free {H1 H : Hp} {D : Addr} {o : HO} (s : Same H1 H) (hD : H1 D = none) : Same H1 (upd H D o) := fun b x e => by
  rw [upd_ne (ne_of_none e hD)]
  exact s b x e
theorem same_fresh (H1 : Hp) : Fresh (Same H1) := fun H T o nT s b x e => by
  rw [upd_ne (ne_of_none (s b x e) nT)]
  exact s b x e
theorem sqL_new {K : PySem.W.Frag} {H : Hp} {a p : Addr} {o : HO} {xs : List V} (h : SqL K H a xs) (hp : H p = none) : SqL K (upd H p o) a xs := (same_new hp).seq h
theorem same_tup {K : PySem.W.Frag} {H H' : Hp} {a : Addr} {xs : List V} (e : Same H H') (h : SqT K H a xs) : SqT K H' a xs := by
  rcases h with (h | ⟨o, h⟩) | h
  · exact .inl (.inl (e _ _ h))
  · exact .inl (.inr ⟨o, e _ _ h⟩)
  · exact .inr h
end Sh

namespace Sh
open PySem PySem.Spec PyProof.Rows L2
def stS (i : Nat) : Stmt := PySem.Challenge.pw_shadowrow_k01_whole_numbers.main.body.getD i (.Pass ⟨0, 0, 0, 0⟩)
abbrev s_is_number : Stmt := stS 3
theorem sc_is_number : FnScope ["thing"] ["thing"] (defScope s_is_number) := ⟨rfl, rfl, rfl, by decide +kernel, rfl, by decide +kernel, by decide +kernel⟩
abbrev s_is_size : Stmt := stS 4
theorem sc_is_size : FnScope ["thing", "least", "greatest"] ["thing", "least", "greatest"] (defScope s_is_size) := ⟨rfl, rfl, rfl, by decide +kernel, rfl, by decide +kernel, by decide +kernel⟩
abbrev s_is_list_of_numbers : Stmt := stS 5
theorem sc_is_list_of_numbers : FnScope ["thing", "each"] ["thing"] (defScope s_is_list_of_numbers) := ⟨rfl, rfl, rfl, by decide +kernel, rfl, by decide +kernel, by decide +kernel⟩
abbrev s_is_falling : Stmt := stS 6
theorem sc_is_falling : FnScope ["numbers", "ahead", "behind"] ["numbers"] (defScope s_is_falling) := ⟨rfl, rfl, rfl, by decide +kernel, rfl, by decide +kernel, by decide +kernel⟩
abbrev s_is_set : Stmt := stS 7
theorem sc_is_set : FnScope ["thing"] ["thing"] (defScope s_is_set) := ⟨rfl, rfl, rfl, by decide +kernel, rfl, by decide +kernel, by decide +kernel⟩
abbrev s_power : Stmt := stS 9
theorem sc_power : FnScope ["base", "degree", "worth", "_"] ["base", "degree"] (defScope s_power) := ⟨rfl, rfl, rfl, by decide +kernel, rfl, by decide +kernel, by decide +kernel⟩
abbrev s_guess_above : Stmt := stS 10
theorem sc_guess_above : FnScope ["number", "degree", "half"] ["number", "degree"] (defScope s_guess_above) := ⟨rfl, rfl, rfl, by decide +kernel, rfl, by decide +kernel, by decide +kernel⟩
abbrev s_whole_root : Stmt := stS 11
theorem sc_whole_root : FnScope ["number", "degree", "root", "step"] ["number", "degree"] (defScope s_whole_root) := ⟨rfl, rfl, rfl, by decide +kernel, rfl, by decide +kernel, by decide +kernel⟩
abbrev s_greatest_first : Stmt := stS 12
theorem sc_greatest_first : FnScope ["size", "number", "first"] ["size", "number"] (defScope s_greatest_first) := ⟨rfl, rfl, rfl, by decide +kernel, rfl, by decide +kernel, by decide +kernel⟩
abbrev s_numbers_of_set : Stmt := stS 13
theorem sc_numbers_of_set : FnScope ["size", "number", "numbers", "left", "first"] ["size", "number"] (defScope s_numbers_of_set) := ⟨rfl, rfl, rfl, by decide +kernel, rfl, by decide +kernel, by decide +kernel⟩
abbrev s_check_set : Stmt := stS 20
theorem sc_check_set : FnScope ["some"] ["some"] (defScope s_check_set) := ⟨rfl, rfl, rfl, by decide +kernel, rfl, by decide +kernel, by decide +kernel⟩
abbrev s_number_of : Stmt := stS 21
theorem sc_number_of : FnScope ["some", "number", "place", "each"] ["some"] (defScope s_number_of) := ⟨rfl, rfl, rfl, by decide +kernel, rfl, by decide +kernel, by decide +kernel⟩
abbrev s_set_of : Stmt := stS 22
theorem sc_set_of : FnScope ["size", "number"] ["size", "number"] (defScope s_set_of) := ⟨rfl, rfl, rfl, by decide +kernel, rfl, by decide +kernel, by decide +kernel⟩
abbrev s_beneath : Stmt := stS 23
theorem sc_beneath : FnScope ["some", "place"] ["some"] (defScope s_beneath) := ⟨rfl, rfl, rfl, by decide +kernel, rfl, by decide +kernel, by decide +kernel⟩
abbrev s__law_cell_at : Stmt := stS 25
theorem sc__law_cell_at : FnScope ["_law_script", "_law_k"] ["_law_script", "_law_k"] (defScope s__law_cell_at) := ⟨rfl, rfl, rfl, by decide +kernel, rfl, by decide +kernel, by decide +kernel⟩
abbrev s__law_draw : Stmt := stS 26
theorem sc__law_draw : FnScope ["_law_cell", "_law_k", "_law_many", "_law_primes"] ["_law_cell", "_law_k", "_law_many"] (defScope s__law_draw) := ⟨rfl, rfl, rfl, by decide +kernel, rfl, by decide +kernel, by decide +kernel⟩
abbrev s__law_value : Stmt := stS 27
theorem sc__law_value : FnScope ["_law_cell", "_law_k", "_law_limit"] ["_law_cell", "_law_k", "_law_limit"] (defScope s__law_value) := ⟨rfl, rfl, rfl, by decide +kernel, rfl, by decide +kernel, by decide +kernel⟩
abbrev s__law_whole : Stmt := stS 28
theorem sc__law_whole : FnScope ["_law_number"] ["_law_number"] (defScope s__law_whole) := ⟨rfl, rfl, rfl, by decide +kernel, rfl, by decide +kernel, by decide +kernel⟩
abbrev s__law_picks : Stmt := stS 29
theorem sc__law_picks : FnScope ["_law_things", "_law_size", "_law_found", "_law_turn"] ["_law_things", "_law_size"] (defScope s__law_picks) := ⟨rfl, rfl, rfl, by decide +kernel, rfl, by decide +kernel, by decide +kernel⟩
abbrev s__law_place : Stmt := stS 30
theorem sc__law_place : FnScope ["_law_some", "_law_at", "_law_one"] ["_law_some"] (defScope s__law_place) := ⟨rfl, rfl, rfl, by decide +kernel, rfl, by decide +kernel, by decide +kernel⟩
abbrev s__law_states : Stmt := stS 31
theorem sc__law_states : FnScope ["_law_script", "_law_limit", "_law_top", "_law_found", "_law_k", "_law_cell"] ["_law_script"] (defScope s__law_states) := ⟨rfl, rfl, rfl, by decide +kernel, rfl, by decide +kernel, by decide +kernel⟩
abbrev s__law_is_set : Stmt := stS 32
theorem sc__law_is_set : FnScope ["_law_found", "_law_size", "_law_one"] ["_law_found", "_law_size"] (defScope s__law_is_set) := ⟨rfl, rfl, rfl, by decide +kernel, rfl, by decide +kernel, by decide +kernel⟩
abbrev s__law_number_right : Stmt := stS 33
theorem sc__law_number_right : FnScope ["_law_size", "_law_number", "_law_found", "_law_again"] ["_law_size", "_law_number"] (defScope s__law_number_right) := ⟨rfl, rfl, rfl, by decide +kernel, rfl, by decide +kernel, by decide +kernel⟩
abbrev s__law_set_right : Stmt := stS 34
theorem sc__law_set_right : FnScope ["_law_some", "_law_kept", "_law_number", "_law_again", "_law_found", "_law_one", "_law_at"] ["_law_some"] (defScope s__law_set_right) := ⟨rfl, rfl, rfl, by decide +kernel, rfl, by decide +kernel, by decide +kernel⟩
abbrev s_law : Stmt := stS 35
theorem sc_law : FnScope ["_law_script", "_law_size", "_law_number", "_law_k", "_law_drawn", "_law_first", "_law_at", "_law_cell", "_law_some"] ["_law_script"] (defScope s_law) := ⟨rfl, rfl, rfl, by decide +kernel, rfl, by decide +kernel, by decide +kernel⟩
/-- what the top has written -/
structure Txt (K : PySem.W.Frag) (mg : Str → Option Value) where
  f_is_number : Addr
  d_is_number : FuncData
  F_is_number : Fun K "is_number" "is_number" s_is_number f_is_number d_is_number
  g_is_number : mg "is_number" = some (.ref f_is_number)
  b_is_number : Binds K d_is_number ["thing"] []
  f_is_size : Addr
  d_is_size : FuncData
  F_is_size : Fun K "is_size" "is_size" s_is_size f_is_size d_is_size
  g_is_size : mg "is_size" = some (.ref f_is_size)
  b_is_size : Binds K d_is_size ["thing", "least", "greatest"] []
  f_is_list_of_numbers : Addr
  d_is_list_of_numbers : FuncData
  F_is_list_of_numbers : Fun K "is_list_of_numbers" "is_list_of_numbers" s_is_list_of_numbers f_is_list_of_numbers d_is_list_of_numbers
  g_is_list_of_numbers : mg "is_list_of_numbers" = some (.ref f_is_list_of_numbers)
  b_is_list_of_numbers : Binds K d_is_list_of_numbers ["thing"] []
  f_is_falling : Addr
  d_is_falling : FuncData
  F_is_falling : Fun K "is_falling" "is_falling" s_is_falling f_is_falling d_is_falling
  g_is_falling : mg "is_falling" = some (.ref f_is_falling)
  b_is_falling : Binds K d_is_falling ["numbers"] []
  f_is_set : Addr
  d_is_set : FuncData
  F_is_set : Fun K "is_set" "is_set" s_is_set f_is_set d_is_set
  g_is_set : mg "is_set" = some (.ref f_is_set)
  b_is_set : Binds K d_is_set ["thing"] []
  f_power : Addr
  d_power : FuncData
  F_power : Fun K "power" "power" s_power f_power d_power
  g_power : mg "power" = some (.ref f_power)
  b_power : Binds K d_power ["base", "degree"] []
  f_guess_above : Addr
  d_guess_above : FuncData
  F_guess_above : Fun K "guess_above" "guess_above" s_guess_above f_guess_above d_guess_above
  g_guess_above : mg "guess_above" = some (.ref f_guess_above)
  b_guess_above : Binds K d_guess_above ["number", "degree"] []
  f_whole_root : Addr
  d_whole_root : FuncData
  F_whole_root : Fun K "whole_root" "whole_root" s_whole_root f_whole_root d_whole_root
  g_whole_root : mg "whole_root" = some (.ref f_whole_root)
  b_whole_root : Binds K d_whole_root ["number", "degree"] []
  f_greatest_first : Addr
  d_greatest_first : FuncData
  F_greatest_first : Fun K "greatest_first" "greatest_first" s_greatest_first f_greatest_first d_greatest_first
  g_greatest_first : mg "greatest_first" = some (.ref f_greatest_first)
  b_greatest_first : Binds K d_greatest_first ["size", "number"] []
  f_numbers_of_set : Addr
  d_numbers_of_set : FuncData
  F_numbers_of_set : Fun K "numbers_of_set" "numbers_of_set" s_numbers_of_set f_numbers_of_set d_numbers_of_set
  g_numbers_of_set : mg "numbers_of_set" = some (.ref f_numbers_of_set)
  b_numbers_of_set : Binds K d_numbers_of_set ["size", "number"] []
  f_check_set : Addr
  d_check_set : FuncData
  F_check_set : Fun K "check_set" "check_set" s_check_set f_check_set d_check_set
  g_check_set : mg "check_set" = some (.ref f_check_set)
  b_check_set : Binds K d_check_set ["some"] []
  f_number_of : Addr
  d_number_of : FuncData
  F_number_of : Fun K "number_of" "number_of" s_number_of f_number_of d_number_of
  g_number_of : mg "number_of" = some (.ref f_number_of)
  b_number_of : Binds K d_number_of ["some"] []
  f_set_of : Addr
  d_set_of : FuncData
  F_set_of : Fun K "set_of" "set_of" s_set_of f_set_of d_set_of
  g_set_of : mg "set_of" = some (.ref f_set_of)
  b_set_of : Binds K d_set_of ["size", "number"] []
  f_beneath : Addr
  d_beneath : FuncData
  F_beneath : Fun K "beneath" "beneath" s_beneath f_beneath d_beneath
  g_beneath : mg "beneath" = some (.ref f_beneath)
  b_beneath : Binds K d_beneath ["some"] []
  f__law_cell_at : Addr
  d__law_cell_at : FuncData
  F__law_cell_at : Fun K "_law_cell_at" "_law_cell_at" s__law_cell_at f__law_cell_at d__law_cell_at
  g__law_cell_at : mg "_law_cell_at" = some (.ref f__law_cell_at)
  b__law_cell_at : Binds K d__law_cell_at ["_law_script", "_law_k"] []
  f__law_draw : Addr
  d__law_draw : FuncData
  F__law_draw : Fun K "_law_draw" "_law_draw" s__law_draw f__law_draw d__law_draw
  g__law_draw : mg "_law_draw" = some (.ref f__law_draw)
  b__law_draw : Binds K d__law_draw ["_law_cell", "_law_k", "_law_many"] []
  f__law_value : Addr
  d__law_value : FuncData
  F__law_value : Fun K "_law_value" "_law_value" s__law_value f__law_value d__law_value
  g__law_value : mg "_law_value" = some (.ref f__law_value)
  b__law_value : Binds K d__law_value ["_law_cell", "_law_k", "_law_limit"] []
  f__law_whole : Addr
  d__law_whole : FuncData
  F__law_whole : Fun K "_law_whole" "_law_whole" s__law_whole f__law_whole d__law_whole
  g__law_whole : mg "_law_whole" = some (.ref f__law_whole)
  b__law_whole : Binds K d__law_whole ["_law_number"] []
  f__law_picks : Addr
  d__law_picks : FuncData
  F__law_picks : Fun K "_law_picks" "_law_picks" s__law_picks f__law_picks d__law_picks
  g__law_picks : mg "_law_picks" = some (.ref f__law_picks)
  b__law_picks : Binds K d__law_picks ["_law_things", "_law_size"] []
  f__law_place : Addr
  d__law_place : FuncData
  F__law_place : Fun K "_law_place" "_law_place" s__law_place f__law_place d__law_place
  g__law_place : mg "_law_place" = some (.ref f__law_place)
  b__law_place : Binds K d__law_place ["_law_some"] []
  f__law_states : Addr
  d__law_states : FuncData
  F__law_states : Fun K "_law_states" "_law_states" s__law_states f__law_states d__law_states
  g__law_states : mg "_law_states" = some (.ref f__law_states)
  b__law_states : Binds K d__law_states ["_law_script"] []
  f__law_is_set : Addr
  d__law_is_set : FuncData
  F__law_is_set : Fun K "_law_is_set" "_law_is_set" s__law_is_set f__law_is_set d__law_is_set
  g__law_is_set : mg "_law_is_set" = some (.ref f__law_is_set)
  b__law_is_set : Binds K d__law_is_set ["_law_found", "_law_size"] []
  f__law_number_right : Addr
  d__law_number_right : FuncData
  F__law_number_right : Fun K "_law_number_right" "_law_number_right" s__law_number_right f__law_number_right d__law_number_right
  g__law_number_right : mg "_law_number_right" = some (.ref f__law_number_right)
  b__law_number_right : Binds K d__law_number_right ["_law_size", "_law_number"] []
  f__law_set_right : Addr
  d__law_set_right : FuncData
  F__law_set_right : Fun K "_law_set_right" "_law_set_right" s__law_set_right f__law_set_right d__law_set_right
  g__law_set_right : mg "_law_set_right" = some (.ref f__law_set_right)
  b__law_set_right : Binds K d__law_set_right ["_law_some"] []
  f_law : Addr
  d_law : FuncData
  F_law : Fun K "law" "law" s_law f_law d_law
  g_law : mg "law" = some (.ref f_law)
  b_law : Binds K d_law ["_law_script"] []
  z_all : mg "all" = none
  z_bool : mg "bool" = none
  c_GREATEST_SIZE : Σ' t : Tok, mg "GREATEST_SIZE" = some (.int 20 t)
  z_enumerate : mg "enumerate" = none
  z_int : mg "int" = none
  z_isinstance : mg "isinstance" = none
  z_len : mg "len" = none
  z_list : mg "list" = none
  m_comb : mg "comb" = some (.builtin "math.comb")
  m_factorial : mg "factorial" = some (.builtin "math.factorial")
  z_range : mg "range" = none
  z_set : mg "set" = none
  z_sorted : mg "sorted" = none
  z_sum : mg "sum" = none
  z_type : mg "type" = none
  z_zip : mg "zip" = none
end Sh

/-! Powers, roots, the first number of a set. -/
namespace Sh
open PySem PySem.Spec PyProof.Rows L2
section
variable {P : Program} {w : World} {K : PySem.W.Frag} {mg : Str → Option Value} {base : Heap}
/-- a power, of a base and a degree that are not too great -/
def spPower : Sp := fun vs H Q _ => ∃ x d b : Nat, vs = [.int (x : Int), .int (d : Int)] ∧ x < 2 ^ b ∧ d ≤ 20 ∧ b ≤ 100000 ∧ Q (.int ((x ^ d : Nat) : Int)) H
noncomputable def dv_power {P : Program} {w : World} {K : PySem.W.Frag} {mg : Str → Option Value} {base : Heap} (T : Txt K mg)  {cdv : Value} {A : Around} {outer : List Env} {s : Shared} {H : Hp} {E : XK}
    (hr : Room 0 (A.deeper (envOfC "power" (defScope s_power) s.heap.objs.size T.f_power cdv))) :
    Σ' t : TS, PSs (cxOf CX0 P w K mg base ["base", "degree", "worth", "_"] "power" (defScope s_power) T.f_power cdv A outer s H E).nox (defBody s_power) t :=
  ⟨_, (pss_cons (ps_set (i := 2) sc_power.nd rfl (.inl rfl) pe_int)
      (pss_cons (ps_for PassesOwn.never rfl (pi_range1 (by rfl) T.z_range (pa_cons (pv 1) pa_nil)) (pg_name (i := 3) sc_power.nd rfl (.inl rfl)) (pss_one (ps_set (i := 2) sc_power.nd rfl (.inl rfl) (pe_op op_nMul (pv 2) (pv 0)))))
      (pss_one (ps_ret (pv 2)))))⟩
theorem pow_lt {x b : Nat} (h : x < 2 ^ b) (i : Nat) : x ^ i < 2 ^ (b * i + 1) := by
  rw [Nat.pow_succ, Nat.pow_mul]
  have := Nat.pow_le_pow_left (Nat.le_of_lt h) i
  have := Nat.pow_pos (n := i) (Nat.two_pow_pos b)
  omega
theorem ok_power (T : Txt K mg) : FnOk P w K mg base CX0 1 T.f_power T.d_power ["base", "degree"] spPower := by
  refine T.F_power.ok sc_power (fun vs H Q E h => ?_) (fun cdv A outer s H vs Q E hr h => ⟨_, (dv_power T hr).2, ?_⟩)
  · obtain ⟨x, d, b, rfl, _⟩ := h
    rfl
  · obtain ⟨x, d, b, rfl, hx, hd, hb, q⟩ := h
    refine ⟨_, rfl, d, rfl, by omega, by omega, ?_⟩
    refine for_rangeN (n := d) rfl (fun i σ H' => H' = H ∧ ∃ y, σ = [some (.int (x : Int)), some (.int (d : Int)), some (.int ((x ^ i : Nat) : Int)), y]) ⟨rfl, none, rfl⟩ ?_ ?_
    · rintro i σ H' hi ⟨rfl, y, rfl⟩
      have h20 : b * i ≤ b * 20 := Nat.mul_le_mul_left b (by omega)
      exact ⟨_, rfl, _, rfl, _, _, rfl, rfl, ⟨b * i + 1, b, pow_lt hx i, hx, by omega⟩, rfl, some (.int (i : Nat)), rfl⟩
    · rintro σ H' ⟨rfl, y, rfl⟩
      exact ⟨_, rfl, q⟩
end
end Sh

/-! Roots. -/
namespace Sh
open PySem PySem.Spec PyProof.Rows L2
/-- so many bits are served by n calls -/
def fuel (d : Nat) : Nat → Nat
  | 0 => 0
  | 1 => 2 * d - 1
  | n + 2 => d * (2 ^ n + 2) - 1
theorem fuel_next {d n b : Nat} (hd : 1 ≤ d) (h : b ≤ fuel d (n + 1)) (hh : b / (2 * d) ≠ 0) : 1 ≤ n ∧ b - d * (b / (2 * d)) ≤ fuel d n := by
  have h2 : 0 < 2 * d := by omega
  have hb : 2 * d ≤ b := by
    refine Nat.le_of_not_lt fun q => hh (Nat.div_eq_of_lt q)
  have hm := Nat.div_add_mod b (2 * d)
  have hl := Nat.mod_lt b h2
  generalize b / (2 * d) = k at *
  generalize b % (2 * d) = r at *
  have e : 2 * d * k = d * k + d * k := by rw [Nat.mul_assoc, Nat.two_mul]
  cases n with
  | zero =>
    have h : b ≤ 2 * d - 1 := h
    omega
  | succ n =>
    refine ⟨by omega, ?_⟩
    cases n with
    | zero =>
      have h : b ≤ d * (2 ^ 0 + 2) - 1 := h
      show b - d * k ≤ 2 * d - 1
      have hk : 1 ≤ k := by omega
      have := Nat.mul_le_mul_left d hk
      rw [Nat.pow_zero] at h
      omega
    | succ n =>
      have h : b ≤ d * (2 ^ (n + 1) + 2) - 1 := h
      show b - d * k ≤ d * (2 ^ n + 2) - 1
      rw [Nat.pow_succ] at h
      rw [Nat.mul_add] at h ⊢
      rw [← Nat.mul_assoc] at h
      omega
/-- the guess is not below the root -/
theorem guess_one {n d b : Nat} (hd : 1 ≤ d) (hb : n < 2 ^ b) : n < (2 ^ (b / d + 1) + 1) ^ d := by
  have h1 : b ≤ (b / d + 1) * d := by
    have := Nat.div_add_mod b d
    have := Nat.mod_lt b (show 0 < d by omega)
    rw [Nat.add_mul, Nat.mul_comm]
    omega
  have h2 : 2 ^ b ≤ (2 ^ (b / d + 1)) ^ d := by
    rw [← Nat.pow_mul]
    exact Nat.pow_le_pow_right (by omega) h1
  exact Nat.lt_of_lt_of_le hb (Nat.le_trans h2 (Nat.pow_le_pow_left (Nat.le_succ _) d))
theorem guess_more {n d k r : Nat} (h : IsRoot (n / 2 ^ (k * d)) d r) : n < ((r + 1) * 2 ^ k + 1) ^ d := by
  have h1 := h.2
  rw [Nat.div_lt_iff_lt_mul (Nat.two_pow_pos _)] at h1
  refine Nat.lt_of_lt_of_le h1 ?_
  rw [Nat.pow_mul, ← Nat.mul_pow]
  exact Nat.pow_le_pow_left (Nat.le_succ _) d
section
variable {P : Program} {w : World} {K : PySem.W.Frag} {mg : Str → Option Value} {base : Heap}
/-- the whole root of a number of at most b bits, which n calls serve -/
def spRoot (n : Nat) : Sp := fun vs H Q _ => ∃ N d b : Nat, vs = [.int (N : Int), .int (d : Int)] ∧ 1 ≤ n ∧ 1 ≤ d ∧ d ≤ 20 ∧ N < 2 ^ b ∧ b ≤ 13000 ∧ b ≤ fuel d n ∧
  ∀ r : Nat, IsRoot N d r → Q (.int (r : Int)) H
def spGuess (n : Nat) : Sp := fun vs H Q _ => ∃ N d b : Nat, vs = [.int (N : Int), .int (d : Int)] ∧ 1 ≤ n ∧ 1 ≤ d ∧ d ≤ 20 ∧ 0 < N ∧ N < 2 ^ b ∧ b ≤ 13000 ∧ b ≤ fuel d n ∧
  ∀ g c : Nat, 0 < g → N < (g + 1) ^ d → g < 2 ^ c → c ≤ 30000 → Q (.int (g : Int)) H
noncomputable def dv_guess_above {P : Program} {w : World} {K : PySem.W.Frag} {mg : Str → Option Value} {base : Heap} (T : Txt K mg) {n : Nat} (GW : FnOk P w K mg base CX0 (2 * n) T.f_whole_root T.d_whole_root ["number", "degree"] (spRoot n)) {cdv : Value} {A : Around} {outer : List Env} {s : Shared} {H : Hp} {E : XK}
    (hr : Room (2 * n) (A.deeper (envOfC "guess_above" (defScope s_guess_above) s.heap.objs.size T.f_guess_above cdv))) :
    Σ' t : TS, PSs (cxOf CX0 P w K mg base ["number", "degree", "half"] "guess_above" (defScope s_guess_above) T.f_guess_above cdv A outer s H E).nox (defBody s_guess_above) t :=
  ⟨_, (pss_cons (ps_set (i := 2) sc_guess_above.nd rfl (.inl rfl) (pe_op op_nDiv (pe_bits (pv 0)) (pe_op op_nMul pe_int (pv 1))))
      (pss_cons (ps_if (pt_cmpR op_nEq (pv 2) pe_int (nomark _)) (pss_one (ps_ret (pe_op op_nShl pe_int (pe_op op_nAdd (pe_op op_nDiv (pe_bits (pv 0)) (pv 1)) pe_int)))) pss_nil)
      (pss_one (ps_ret (pe_op op_nShl (pe_op op_nAdd (pe_call GW (hr.mono (by omega)) (by rfl) T.g_whole_root T.F_whole_root.kp T.b_whole_root .nil pass0 (pa_cons (pe_op op_nShr (pv 0) (pe_op op_nMul (pv 2) (pv 1))) (pa_cons (pv 1) pa_nil))) pe_int) (pv 2))))))⟩
theorem ok_guess_above {n : Nat} (T : Txt K mg) (GW : FnOk P w K mg base CX0 (2 * n) T.f_whole_root T.d_whole_root ["number", "degree"] (spRoot n)) :
    FnOk P w K mg base CX0 (2 * n + 1) T.f_guess_above T.d_guess_above ["number", "degree"] (spGuess (n + 1)) := by
  refine T.F_guess_above.ok sc_guess_above (fun vs H Q E h => ?_) (fun cdv A outer s H vs Q E hr h => ⟨_, (dv_guess_above T GW hr).2, ?_⟩)
  · obtain ⟨N, d, b, rfl, _⟩ := h
    rfl
  · obtain ⟨N, d, b, rfl, hn, hd, hd2, h0, hN, hb, hf, q⟩ := h
    have hNB : N < 2 ^ bits N := lt_bits N
    have hBb : bits N ≤ b := bits_le hN
    have d5 : d < 2 ^ 5 := Nat.lt_of_le_of_lt hd2 (by decide)
    have b14 : bits N < 2 ^ 14 := Nat.lt_of_le_of_lt (Nat.le_trans hBb hb) (by decide)
    refine ⟨_, rfl, _, rfl, _, rfl, 2, d, rfl, rfl, ⟨2, 5, by decide, d5, by decide⟩, bits N, 2 * d, rfl, rfl, .few (by omega) b14 (by decide), _, rfl, _, 0, rfl, rfl, _, rfl, dec2 (fun c => ?_) (fun c => ?_)⟩
    · -- the bits are few
      have h1 : bits N / d ≤ bits N := Nat.div_le_self _ _
      refine ⟨_, rfl, _, rfl, _, rfl, bits N, d, rfl, rfl, .few (by omega) b14 (by decide), _, 1, rfl, rfl, 1, _, rfl, rfl, ⟨1, by decide, by omega⟩, ?_⟩
      rw [Nat.one_mul]
      exact q _ (bits N / d + 2) (Nat.two_pow_pos _) (guess_one hd hNB) (Nat.pow_lt_pow_right (by decide) (by omega)) (by omega)
    · -- the root of the front half
      obtain ⟨n1, f1⟩ := fuel_next hd (Nat.le_trans hBb hf) c
      generalize hk : bits N / (2 * d) = k at *
      have hkB : k * (2 * d) ≤ bits N := by
        rw [← hk]
        exact Nat.div_mul_le_self _ _
      have hkd : k * d ≤ bits N := by
        rw [Nat.mul_comm 2 d, ← Nat.mul_assoc] at hkB
        omega
      have hk1 : k ≤ bits N := Nat.le_trans (Nat.le_mul_of_pos_right _ (by omega)) hkd
      refine ⟨_, rfl, _, rfl, _, rfl, k, d, rfl, rfl, ⟨14, 5, Nat.lt_of_le_of_lt hk1 b14, d5, by decide⟩, N, k * d, rfl, rfl, _, rfl, N / 2 ^ (k * d), d, bits N - d * k, rfl, n1, hd, hd2, ?_, by omega, f1, fun r hr => ?_⟩
      · rw [Nat.div_lt_iff_lt_mul (Nat.two_pow_pos _), ← Nat.pow_add, Nat.mul_comm d k, Nat.sub_add_cancel hkd]
        exact hNB
      · have hrN : r ≤ N := by
          have h1 : r ^ d ≤ N / 2 ^ (k * d) := hr.1
          have h2 : r ≤ r ^ d := by
            cases r with
            | zero => exact Nat.zero_le _
            | succ r => exact Nat.le_pow (by omega)
          exact Nat.le_trans h2 (Nat.le_trans h1 (Nat.div_le_self _ _))
        have hr1 : r + 1 < 2 ^ (bits N + 1) := by
          rw [Nat.pow_succ]
          omega
        refine ⟨_, 1, rfl, rfl, _, rfl, _, k, rfl, rfl, ⟨bits N + 1, hr1, by omega⟩, ?_⟩
        refine q _ (bits N + 1 + k) (Nat.mul_pos (Nat.succ_pos _) (Nat.two_pow_pos _)) (guess_more hr) ?_ (by omega)
        rw [Nat.pow_add]
        exact Nat.mul_lt_mul_of_pos_right hr1 (Nat.two_pow_pos _)
end
end Sh

/-! Roots by Newton's steps. -/
namespace Sh
open PySem PySem.Spec PyProof.Rows L2
section
variable {P : Program} {w : World} {K : PySem.W.Frag} {mg : Str → Option Value} {base : Heap}
noncomputable def dv_whole_root {P : Program} {w : World} {K : PySem.W.Frag} {mg : Str → Option Value} {base : Heap} (T : Txt K mg) {n : Nat} (GG : FnOk P w K mg base CX0 (2 * n + 1) T.f_guess_above T.d_guess_above ["number", "degree"] (spGuess (n + 1))) {cdv : Value} {A : Around} {outer : List Env} {s : Shared} {H : Hp} {E : XK}
    (hr : Room (2 * n + 1) (A.deeper (envOfC "whole_root" (defScope s_whole_root) s.heap.objs.size T.f_whole_root cdv))) :
    Σ' t : TS, PSs (cxOf CX0 P w K mg base ["number", "degree", "root", "step"] "whole_root" (defScope s_whole_root) T.f_whole_root cdv A outer s H E).nox (defBody s_whole_root) t :=
  ⟨_, (pss_cons (ps_if (pt_cmpR op_nEq (pv 0) pe_int (nomark _)) (pss_one (ps_ret pe_int)) pss_nil)
      (pss_cons (ps_set (i := 2) sc_whole_root.nd rfl (.inl rfl) (pe_call GG (hr.mono (by omega)) (by rfl) T.g_guess_above T.F_guess_above.kp T.b_guess_above .nil pass0 (pa_cons (pv 0) (pa_cons (pv 1) pa_nil))))
      (pss_one (ps_while PassesOwn.never (pt_val pe_bl) (pss_cons (ps_set (i := 3) sc_whole_root.nd rfl (.inl rfl) (pe_op op_nDiv (pe_op op_nAdd (pe_op op_nMul (pe_op op_nSub (pv 1) pe_int) (pv 2)) (pe_op op_nDiv (pv 0) (pe_call (ok_power T) (hr.mono (by omega)) (by rfl) T.g_power T.F_power.kp T.b_power .nil pass0 (pa_cons (pv 2) (pa_cons (pe_op op_nSub (pv 1) pe_int) pa_nil))))) (pv 1)))
      (pss_cons (ps_if (pt_cmpR op_nGe (pv 3) (pv 2) (nomark _)) (pss_one (ps_ret (pv 2))) pss_nil)
      (pss_one (ps_set (i := 2) sc_whole_root.nd rfl (.inl rfl) (pv 3)))))))))⟩
theorem ok_whole_root {n : Nat} (T : Txt K mg) (GG : FnOk P w K mg base CX0 (2 * n + 1) T.f_guess_above T.d_guess_above ["number", "degree"] (spGuess (n + 1))) :
    FnOk P w K mg base CX0 (2 * n + 2) T.f_whole_root T.d_whole_root ["number", "degree"] (spRoot (n + 1)) := by
  refine T.F_whole_root.ok sc_whole_root (fun vs H Q E h => ?_) (fun cdv A outer s H vs Q E hr h => ⟨_, (dv_whole_root T GG hr).2, ?_⟩)
  · obtain ⟨N, d, b, rfl, _⟩ := h
    rfl
  · obtain ⟨N, d, b, rfl, hn, hd, hd2, hN, hb, hf, q⟩ := h
    refine ⟨_, rfl, N, 0, rfl, rfl, _, rfl, dec2 (fun c => ?_) (fun c => ?_)⟩
    · subst c
      exact q 0 ⟨by rw [Nat.zero_pow (by omega)]; exact Nat.le_refl _, by rw [Nat.one_pow]; exact Nat.one_pos⟩
    · refine ⟨_, rfl, _, rfl, N, d, b, rfl, hn, hd, hd2, by omega, hN, hb, hf, fun g c hg hgN hgc hc => ?_⟩
      -- while True
      obtain ⟨e, rfl⟩ : ∃ e, d = e + 1 := ⟨d - 1, by omega⟩
      refine ⟨fun m σ H' => H' = H ∧ ∃ x y, m = x ∧ σ = [some (.int (N : Int)), some (.int ((e + 1 : Nat) : Int)), some (.int (x : Int)), y] ∧ 0 < x ∧ x < 2 ^ c ∧ N < (x + 1) ^ (e + 1), ⟨g, rfl, g, none, rfl, rfl, hg, hgc, hgN⟩, ?_⟩
      rintro m σ H' ⟨rfl, x, y, rfl, rfl, hx, hxc, hxN⟩
      refine ⟨true, rfl, iteT ?_⟩
      refine ⟨fun σ' H'' => H'' = H' ∧ ∃ x' y', x' < m ∧ σ' = [some (.int (N : Int)), some (.int ((e + 1 : Nat) : Int)), some (.int (x' : Int)), y'] ∧ 0 < x' ∧ x' < 2 ^ c ∧ N < (x' + 1) ^ (e + 1), ?_, ?_⟩
      · rintro σ' H'' ⟨rfl, x', y', hlt, rfl, h1, h2, h3⟩
        exact ⟨x', hlt, rfl, x', y', rfl, rfl, h1, h2, h3⟩
      · have hNd : N / m ^ e ≤ N := Nat.div_le_self _ _
        have hes : e < 2 ^ 5 := Nat.lt_of_lt_of_le (by omega) (show 20 ≤ 2 ^ 5 by decide)
        have hem : e * m < 2 ^ (5 + c) := by
          rw [Nat.pow_add]
          exact Nat.lt_of_le_of_lt (Nat.mul_le_mul_left e (Nat.le_of_lt hxc)) (Nat.mul_lt_mul_of_pos_right hes (Nat.two_pow_pos c))
        refine ⟨_, rfl, e + 1, 1, rfl, rfl, (by omega), _, rfl, e, m, rfl, rfl, ⟨5, c, hes, hxc, by omega⟩, _, rfl, _, rfl, _, rfl, e + 1, 1, rfl, rfl, (by omega), m, e, c, rfl, hxc, (by omega), (by omega),
          N, m ^ e, rfl, rfl, .few (Nat.pow_pos hx) hN (by omega), e * m, N / m ^ e, rfl, rfl, _, rfl, e * m + N / m ^ e, e + 1, rfl, rfl, .small (by omega) (by omega), ?_⟩
        -- if step >= root
        refine ⟨_, rfl, _, rfl, (e * m + N / m ^ e) / (e + 1), m, rfl, rfl, _, rfl, dec2 (fun c1 => ?_) (fun c1 => ?_)⟩
        · exact ⟨_, rfl, q m (root_of hxN c1 hx)⟩
        · have hlt : (e * m + N / m ^ e) / (e + 1) < m := Nat.lt_of_not_le c1
          have hk : N < ((e * m + N / m ^ e) / (e + 1) + 1) ^ (e + 1) := step_keeps hx
          refine ⟨_, rfl, rfl, _, some (.int (((e * m + N / m ^ e) / (e + 1) : Nat) : Int)), hlt, rfl, ?_, Nat.lt_trans hlt hxc, hk⟩
          refine Nat.pos_of_ne_zero fun z => ?_
          rw [z, Nat.zero_add, Nat.one_pow] at hk
          omega
/-! ### both, for every number of calls -/
theorem none_left {f : Addr} {fd : FuncData} : FnOk P w K mg base CX0 0 f fd ["number", "degree"] (spRoot 0) := by
  have no : ∀ vs H Q E, ¬ spRoot 0 vs H Q E := fun vs H Q E h => by
    obtain ⟨N, d, b, _, h1, _⟩ := h
    omega
  exact ⟨fun vs H Q E h => absurd h (no vs H Q E), fun A outer s H args us vs Q E _ _ _ _ h => absurd h (no vs H Q E)⟩
theorem roots (T : Txt K mg) : ∀ n : Nat, FnOk P w K mg base CX0 (2 * n) T.f_whole_root T.d_whole_root ["number", "degree"] (spRoot n)
  | 0 => none_left
  | n + 1 => ok_whole_root T (ok_guess_above T (roots T n))
/-- the whole root of a number of at most 13000 bits -/
def spRoot15 : Sp := fun vs H Q _ => ∃ N d b : Nat, vs = [.int (N : Int), .int (d : Int)] ∧ 1 ≤ d ∧ d ≤ 20 ∧ N < 2 ^ b ∧ b ≤ 8000 ∧ ∀ r : Nat, IsRoot N d r → Q (.int (r : Int)) H
theorem ok_root (T : Txt K mg) : FnOk P w K mg base CX0 30 T.f_whole_root T.d_whole_root ["number", "degree"] spRoot15 :=
  (roots T 15).imp fun vs H Q E h => by
    obtain ⟨N, d, b, rfl, h1, h2, h3, h4, q⟩ := h
    refine ⟨N, d, b, rfl, by omega, h1, h2, h3, by omega, ?_, q⟩
    show b ≤ d * (2 ^ 13 + 2) - 1
    have := Nat.mul_le_mul_right (2 ^ 13 + 2) h1
    omega
end
end Sh

/-! The first number of a set. -/
namespace Sh
open PySem PySem.Spec PyProof.Rows L2
section
variable {P : Program} {w : World} {K : PySem.W.Frag} {mg : Str → Option Value} {base : Heap}
def spFirst : Sp := fun vs H Q _ => ∃ k n b : Nat, vs = [.int ((k + 1 : Nat) : Int), .int (n : Int)] ∧ k < 20 ∧ n < 2 ^ b ∧ b ≤ 7000 ∧ Q (.int ((top k n : Nat) : Int)) H
noncomputable def dv_greatest_first {P : Program} {w : World} {K : PySem.W.Frag} {mg : Str → Option Value} {base : Heap} (T : Txt K mg) (GW : FnOk P w K mg base CX0 30 T.f_whole_root T.d_whole_root ["number", "degree"] spRoot15) {cdv : Value} {A : Around} {outer : List Env} {s : Shared} {H : Hp} {E : XK}
    (hr : Room 30 (A.deeper (envOfC "greatest_first" (defScope s_greatest_first) s.heap.objs.size T.f_greatest_first cdv))) :
    Σ' t : TS, PSs (cxOf CX0 P w K mg base ["size", "number", "first"] "greatest_first" (defScope s_greatest_first) T.f_greatest_first cdv A outer s H E).nox (defBody s_greatest_first) t :=
  ⟨_, (pss_cons (ps_set (i := 2) sc_greatest_first.nd rfl (.inl rfl) (pe_op op_nAdd (pe_call GW (hr.mono (by omega)) (by rfl) T.g_whole_root T.F_whole_root.kp T.b_whole_root .nil pass0 (pa_cons (pe_op op_nMul (pv 1) (pe_callBfun cr_factorial (by rfl) T.m_factorial (pa_cons (pv 0) pa_nil))) (pa_cons (pv 0) pa_nil))) (pe_op op_nDiv (pe_op op_nSub (pv 0) pe_int) pe_int)))
      (pss_cons (ps_while PassesOwn.never (pt_cmpR op_nLe (pe_callBfun cr_comb (by rfl) T.m_comb (pa_cons (pe_op op_nAdd (pv 2) pe_int) (pa_cons (pv 0) pa_nil))) (pv 1) (nomark _)) (pss_one (ps_set (i := 2) sc_greatest_first.nd rfl (.inl rfl) (pe_op op_nAdd (pv 2) pe_int))))
      (pss_one (ps_ret (pv 2)))))⟩
theorem ok_greatest_first (T : Txt K mg) : FnOk P w K mg base CX0 31 T.f_greatest_first T.d_greatest_first ["size", "number"] spFirst := by
  refine T.F_greatest_first.ok sc_greatest_first (fun vs H Q E h => ?_) (fun cdv A outer s H vs Q E hr h => ⟨_, (dv_greatest_first T (ok_root T) hr).2, ?_⟩)
  · obtain ⟨k, n, b, rfl, _⟩ := h
    rfl
  · obtain ⟨k, n, b, rfl, hk, hn, hb, q⟩ := h
    have hf : fac (k + 1) < 2 ^ 62 := fac_lt (k + 1) (by omega)
    have hnf : n * fac (k + 1) < 2 ^ (b + 62) := by
      rw [Nat.pow_add]
      exact Nat.lt_of_le_of_lt (Nat.mul_le_mul_right _ (Nat.le_of_lt hn)) (Nat.mul_lt_mul_of_pos_left hf (Nat.two_pow_pos b))
    refine ⟨_, rfl, _, rfl, k + 1, rfl, (by omega), n, fac (k + 1), rfl, rfl, ⟨b, 62, hn, hf, by omega⟩, _, rfl, n * fac (k + 1), k + 1, b + 62, rfl, by omega, by omega, hnf, by omega, fun r hr => ?_⟩
    have hs : ch (r + k / 2) (k + 1) ≤ n := start_ok hr.1
    refine ⟨_, rfl, k + 1, 1, rfl, rfl, (by omega), k, 2, rfl, rfl, .small (by omega) (by omega), r, k / 2, rfl, rfl, ?_⟩
    refine ⟨fun m σ H' => H' = H ∧ ∃ a, m = n + k + 1 - a ∧ σ = [some (.int ((k + 1 : Nat) : Int)), some (.int (n : Int)), some (.int (a : Int))] ∧ ch a (k + 1) ≤ n, ⟨_, rfl, _, rfl, rfl, hs⟩, ?_⟩
    rintro m σ H' ⟨rfl, a, rfl, rfl, ha⟩
    have ha2 : a ≤ n + k := Nat.le_trans (below_top ha) (top_most k n)
    have hab : a + 1 < 2 ^ (b + 5) := by
      rw [Nat.pow_add]
      omega
    have hab2 : (b + 5) * (k + 1) ≤ (b + 5) * 20 := Nat.mul_le_mul_left _ (by omega)
    refine ⟨_, rfl, a, 1, rfl, rfl, _, rfl, a + 1, k + 1, b + 5, rfl, hab, by omega, by omega, _, rfl, ch (a + 1) (k + 1), n, rfl, rfl, _, rfl, dec2 (fun c => ?_) (fun c => ?_)⟩
    · refine ⟨fun σ' H'' => H'' = H' ∧ σ' = [some (.int ((k + 1 : Nat) : Int)), some (.int (n : Int)), some (.int ((a + 1 : Nat) : Int))], ?_, _, rfl, a, 1, rfl, rfl, rfl, rfl⟩
      rintro σ' H'' ⟨rfl, rfl⟩
      exact ⟨n + k + 1 - (a + 1), by omega, rfl, a + 1, rfl, rfl, c⟩
    · refine ⟨_, rfl, ?_⟩
      rw [top_one ha (Nat.lt_of_not_le c)]
      exact q
end
end Sh

/-! What is a number, a size, a set. -/
namespace Sh
open PySem PySem.Spec PyProof.Rows L2
/-- a whole number, 0 or more -/
def numV : V → Bool
  | .int i => decide (0 ≤ i)
  | _ => false
/-- each less than the one ahead -/
def fallI (ns : List Int) : Bool := (ns.zip (ns.drop 1)).all fun p => decide (p.2 < p.1)
def intOf : V → Int
  | .int i => i
  | _ => 0
def setV (xs : List V) : Bool := decide (xs.length ≤ 20) && (xs.all numV && fallI (xs.map intOf))
/-- the kind is known -/
def Kind (x : V) (H : Hp) : Prop := ∃ n, zTyV x H = some n
theorem kind_int (i : Int) (H : Hp) : Kind (.int i) H := ⟨_, rfl⟩
theorem zTy_int {x : V} {H : Hp} (h : zTyV x H = some "int") : ∃ i, x = .int i := by
  cases x with
  | int i => exact ⟨i, rfl⟩
  | ref p =>
    simp only [zTyV] at h
    split at h <;> simp at h
  | _ => simp [zTyV] at h
theorem zTy_list {x : V} {H : Hp} (h : zTyV x H = some "list") : ∃ a xs, x = .ref a ∧ H a = some (.lst xs) := by
  cases x with
  | ref p =>
    simp only [zTyV] at h
    split at h
    · rename_i xs e
      exact ⟨p, xs, rfl, e⟩
    · simp at h
    · simp at h
  | _ => simp [zTyV] at h
theorem numV_not {x : V} {H : Hp} {n : String} (h : zTyV x H = some n) (hn : ¬ n = "int") : numV x = false := by
  cases x with
  | int i => exact absurd (Option.some.inj h).symm hn
  | _ => rfl
theorem numV_all {xs : List V} (h : xs.all numV = true) : xs = (xs.map intOf).map V.int := by
  induction xs with
  | nil => rfl
  | cons x xs ih =>
    rw [List.all_cons, Bool.and_eq_true] at h
    rw [List.map_cons, List.map_cons, ← ih h.2]
    cases x with
    | int i => rfl
    | _ => exact absurd h.1 (by simp [numV])
section
variable {P : Program} {w : World} {K : PySem.W.Frag} {mg : Str → Option Value} {base : Heap}
def spIsNumber : Sp := fun vs H Q _ => ∃ x, vs = [x] ∧ Kind x H ∧ Q (.bl (numV x)) H
noncomputable def dv_is_number {P : Program} {w : World} {K : PySem.W.Frag} {mg : Str → Option Value} {base : Heap} (T : Txt K mg)  {cdv : Value} {A : Around} {outer : List Env} {s : Shared} {H : Hp} {E : XK}
    (hr : Room 0 (A.deeper (envOfC "is_number" (defScope s_is_number) s.heap.objs.size T.f_is_number cdv))) :
    Σ' t : TS, PSs (cxOf CX0 P w K mg base ["thing"] "is_number" (defScope s_is_number) T.f_is_number cdv A outer s H E).nox (defBody s_is_number) t :=
  ⟨_, (pss_one (ps_ret (pe_and (pe_cmpR op_isTy (pe_typeOf (by rfl) T.z_type (pv 0)) (pe_bltn (v := .ty "int") (by rfl) T.z_int (by decide +kernel) rfl) (nomark _)) (pe_one (pe_cmpR op_iGe (pv 0) pe_int (nomark _))))))⟩
theorem ok_is_number (T : Txt K mg) : FnOk P w K mg base CX0 1 T.f_is_number T.d_is_number ["thing"] spIsNumber := by
  refine T.F_is_number.ok sc_is_number (fun vs H Q E h => ?_) (fun cdv A outer s H vs Q E hr h => ⟨_, (dv_is_number T hr).2, ?_⟩)
  · obtain ⟨x, rfl, _⟩ := h
    rfl
  · obtain ⟨x, rfl, ⟨n, hn⟩, q⟩ := h
    refine ⟨x, rfl, n, hn, _, _, rfl, rfl, _, rfl, dec2 (fun c => ?_) (fun c => ?_)⟩
    · subst c
      obtain ⟨i, rfl⟩ := zTy_int hn
      exact ⟨_, rfl, i, 0, rfl, rfl, q⟩
    · rw [numV_not hn c] at q
      exact q
def sizeV (x : V) (lo hi : Int) : Bool := numV x && (decide (lo ≤ intOf x) && decide (intOf x ≤ hi))
def spIsSize : Sp := fun vs H Q _ => ∃ x lo hi, vs = [x, .int lo, .int hi] ∧ Kind x H ∧ Q (.bl (sizeV x lo hi)) H
noncomputable def dv_is_size {P : Program} {w : World} {K : PySem.W.Frag} {mg : Str → Option Value} {base : Heap} (T : Txt K mg)  {cdv : Value} {A : Around} {outer : List Env} {s : Shared} {H : Hp} {E : XK}
    (hr : Room 1 (A.deeper (envOfC "is_size" (defScope s_is_size) s.heap.objs.size T.f_is_size cdv))) :
    Σ' t : TS, PSs (cxOf CX0 P w K mg base ["thing", "least", "greatest"] "is_size" (defScope s_is_size) T.f_is_size cdv A outer s H E).nox (defBody s_is_size) t :=
  ⟨_, (pss_one (ps_ret (pe_and (pe_call (ok_is_number T) (hr.mono (by omega)) (by rfl) T.g_is_number T.F_is_number.kp T.b_is_number .nil pass0 (pa_cons (pv 0) pa_nil)) (pe_one (pe_chain op_iLe op_iLe (pv 1) (pv 0) (pv 2))))))⟩
theorem ok_is_size (T : Txt K mg) : FnOk P w K mg base CX0 2 T.f_is_size T.d_is_size ["thing", "least", "greatest"] spIsSize := by
  refine T.F_is_size.ok sc_is_size (fun vs H Q E h => ?_) (fun cdv A outer s H vs Q E hr h => ⟨_, (dv_is_size T hr).2, ?_⟩)
  · obtain ⟨x, lo, hi, rfl, _⟩ := h
    rfl
  · obtain ⟨x, lo, hi, rfl, hk, q⟩ := h
    refine ⟨x, rfl, x, rfl, hk, _, rfl, ?_⟩
    unfold sizeV at q
    cases x with
    | int i =>
      refine dec2 (fun c => ?_) (fun c => ?_)
      · refine ⟨_, rfl, _, rfl, lo, i, rfl, rfl, _, rfl, dec2 (fun c1 => ?_) (fun c1 => ?_)⟩
        · refine ⟨_, rfl, i, hi, rfl, rfl, ?_⟩
          rw [show numV (.int i) = true from decide_eq_true c, show decide (lo ≤ intOf (.int i)) = true from decide_eq_true c1, Bool.true_and, Bool.true_and] at q
          exact q
        · rw [show decide (lo ≤ intOf (.int i)) = false from decide_eq_false c1, Bool.false_and, Bool.and_false] at q
          exact q
      · rw [show numV (.int i) = false from decide_eq_false c, Bool.false_and] at q
        exact q
    | _ => exact iteF q
def spIsFalling (K : PySem.W.Frag) : Sp := fun vs H Q _ => ∃ (a : Addr) (ns : List Int), vs = [.ref a] ∧ SqL K H a (ns.map V.int) ∧ ns.length ≤ 1000 ∧ ∀ H', Same H H' → Q (.bl (fallI ns)) H'
noncomputable def dv_is_falling {P : Program} {w : World} {K : PySem.W.Frag} {mg : Str → Option Value} {base : Heap} (T : Txt K mg)  {cdv : Value} {A : Around} {outer : List Env} {s : Shared} {H : Hp} {E : XK}
    (hr : Room 0 (A.deeper (envOfC "is_falling" (defScope s_is_falling) s.heap.objs.size T.f_is_falling cdv))) :
    Σ' t : TS, PSs (cxOf CX0 P w K mg base ["numbers", "ahead", "behind"] "is_falling" (defScope s_is_falling) T.f_is_falling cdv A outer s H E).nox (defBody s_is_falling) t :=
  ⟨_, (pss_one (ps_ret (pe_callB (cr_allK (K := K) rfl) (by rfl) T.z_all (by decide +kernel) (pa_cons (pe_lc (g := gTup K 2 (gCons (gName 1) (gCons (gName 2) (gNil)))) (own := [("ahead", 1), ("behind", 2)]) rfl sc_is_falling.nd (pi_zip (by rfl) T.z_zip (pa_cons (pv 0) (pa_cons (pe_slice (sl_listK (K := K)) (pv 0) (po_some pe_int) po_none) pa_nil))) (blkOk_by (own := [("ahead", 1), ("behind", 2)]) (N := ["numbers", "ahead", "behind"]) (sc := defScope s_is_falling) (by decide +kernel)) (fun _ _ _ _ _ => by exact (pg_tupK (K := K) rfl (pgs_cons (pg_name (i := 1) sc_is_falling.nd rfl (.inl rfl)) (pgs_cons (pg_name (i := 2) sc_is_falling.nd rfl (.inl rfl)) pgs_nil)))) (fun _ _ _ _ _ => by exact pts_nil) (fun _ _ _ _ _ => by exact (pe_cmpR op_iGt (pv 1) (pv 2) (nomark _)))) pa_nil))))⟩
theorem cut_one (xs : List V) : cutV xs (some 1) none = xs.drop 1 := by
  unfold cutV
  rw [show HT.sIx xs.length 0 (some 1) = min 1 xs.length from HT.sIx_nat xs.length 0 1, HT.sIx_none]
  cases xs with
  | nil => rfl
  | cons x r =>
    rw [List.length_cons, Nat.min_eq_left (by omega)]
    exact List.take_of_length_le (by simp)
theorem ok_is_falling (T : Txt K mg) : FnOk P w K mg base CX0 1 T.f_is_falling T.d_is_falling ["numbers"] (spIsFalling K) := by
  refine T.F_is_falling.ok sc_is_falling (fun vs H Q E h => ?_) (fun cdv A outer s H vs Q E hr h => ⟨_, (dv_is_falling T hr).2, ?_⟩)
  · obtain ⟨a, ns, rfl, _⟩ := h
    rfl
  · obtain ⟨a, ns, rfl, hS, hz, q⟩ := h
    refine ⟨_, rfl, _, rfl, 1, rfl, a, _, rfl, hS, fun c nc => ?_⟩
    rw [cut_one, ← List.map_drop]
    have s1 : Same H (upd H c (.lst ((ns.drop 1).map V.int))) := same_new nc
    refine ⟨a, c, _, _, rfl, s1.seq hS, .of upd_same, fun D nD => ?_⟩
    have s2 : Same H (upd (upd H c (.lst ((ns.drop 1).map V.int))) D (.lst [])) := s1.trans (same_new nD)
    have nDH : H D = none := s1.free nD
    have ncD : c ≠ D := fun e => by rw [← e, upd_same] at nD; cases nD
    refine lc2_zip (ns.length - 1) (by rw [List.length_map, List.length_map, List.length_drop]; omega)
      (fun i acc H' => Same H H' ∧ H' c = some (.lst ((ns.drop 1).map V.int)) ∧ acc = ((ns.zip (ns.drop 1)).take i).map fun p => V.bl (decide (p.2 < p.1)))
      ⟨s2, by rw [upd_ne ncD, upd_same], rfl⟩ (fun i acc H' p => ⟨p.1.seq hS, .of p.2.1⟩) (fun i acc H' X o nX p => ⟨same_fresh H _ _ _ nX p.1, by rw [upd_ne (ne_of_none p.2.1 nX)]; exact p.2.1, p.2.2⟩)
      (fun _ _ => rfl) ?_ ?_
    · rintro i x y acc H' hx hy hl hD ⟨sm, hc, ha⟩
      rw [List.getElem?_map] at hx hy
      obtain ⟨z, hz1, rfl⟩ := Option.map_eq_some_iff.mp hx
      obtain ⟨z2, hz2, rfl⟩ := Option.map_eq_some_iff.mp hy
      refine ⟨_, rfl, _, rfl, z, z2, rfl, rfl, LcN.put hD hl ?_ ⟨same_free sm nDH, by rw [upd_ne ncD]; exact hc, ?_⟩⟩
      · have hi := (List.getElem?_eq_some_iff.mp hz1).1
        exact small1000 (by omega)
      · have hzz : (ns.zip (ns.drop 1))[i]? = some (z, z2) := List.getElem?_zip_eq_some.mpr ⟨hz1, hz2⟩
        rw [List.take_add_one, hzz, List.map_append, ha]
        rfl
    · rintro acc H' hl hD ⟨sm, hc, ha⟩
      have e : (ns.zip (ns.drop 1)).take (ns.length - 1) = ns.zip (ns.drop 1) := List.take_of_length_le (by rw [List.length_zip, List.length_drop]; omega)
      rw [e] at ha
      refine ⟨D, (ns.zip (ns.drop 1)).map fun p => decide (p.2 < p.1), rfl, .of ?_, ?_⟩
      · rw [hD, ha, List.map_map]
        rfl
      · rw [List.all_map]
        exact q H' sm
end
end Sh

/-! What is a list of numbers, a set, a row. -/
namespace Sh
open PySem PySem.Spec PyProof.Rows L2
theorem kind_same {H H' : Hp} {x : V} (sm : Same H H') (h : Kind x H) : Kind x H' := by
  obtain ⟨n, h⟩ := h
  cases x with
  | ref p =>
    simp only [zTyV] at h
    split at h
    · rename_i xs e
      exact ⟨"list", by simp only [zTyV]; rw [sm _ _ e]⟩
    · rename_i xs e
      exact ⟨"tuple", by simp only [zTyV]; rw [sm _ _ e]⟩
    · cases h
  | _ => exact ⟨n, h⟩
theorem all_take {xs : List V} {i : Nat} {x : V} (h : xs[i]? = some x) : (xs.take (i + 1)).map numV = (xs.take i).map numV ++ [numV x] := by
  rw [List.take_add_one, h, List.map_append]
  rfl
/-- a list of at most 20 numbers -/
def listV (xs : List V) : Bool := decide (xs.length ≤ 20) && xs.all numV
theorem setV_list (xs : List V) : setV xs = (listV xs && fallI (xs.map intOf)) := by
  unfold setV listV
  rw [Bool.and_assoc]
section
variable {P : Program} {w : World} {K : PySem.W.Frag} {mg : Str → Option Value} {base : Heap}
/-- of any thing whose kind is known -/
def spIsF (f : List V → Bool) : Sp := fun vs H Q _ => ∃ x, vs = [x] ∧
  ((∃ n, zTyV x H = some n ∧ n ≠ "list" ∧ Q (.bl false) H) ∨
    ∃ a xs, x = .ref a ∧ H a = some (.lst xs) ∧ (xs.length ≤ 20 → ∀ v ∈ xs, Kind v H) ∧ ∀ H', Same H H' → Q (.bl (f xs)) H')
abbrev spIsList : Sp := spIsF listV
abbrev spIsSet : Sp := spIsF setV
noncomputable def dv_is_list_of_numbers {P : Program} {w : World} {K : PySem.W.Frag} {mg : Str → Option Value} {base : Heap} (T : Txt K mg)  {cdv : Value} {A : Around} {outer : List Env} {s : Shared} {H : Hp} {E : XK}
    (hr : Room 1 (A.deeper (envOfC "is_list_of_numbers" (defScope s_is_list_of_numbers) s.heap.objs.size T.f_is_list_of_numbers cdv))) :
    Σ' t : TS, PSs (cxOf CX0 P w K mg base ["thing", "each"] "is_list_of_numbers" (defScope s_is_list_of_numbers) T.f_is_list_of_numbers cdv A outer s H E).nox (defBody s_is_list_of_numbers) t :=
  ⟨_, (pss_cons (ps_if (PW.pt (pw_or (pt_cmpR op_isNotTy (pe_typeOf (by rfl) T.z_type (pv 0)) (pe_bltn (v := .ty "list") (by rfl) T.z_list (by decide +kernel) rfl) (nomark _)) (pw_or1 (pt_cmpR op_nGt (pe_callB (call_lenK (K := K)) (by rfl) T.z_len PySem.boot_len (pa_cons (pv 0) pa_nil)) (pe_glob (v := .int 20) rfl T.c_GREATEST_SIZE.2 ⟨_, rfl⟩) (nomark _))))) (pss_one (ps_ret pe_bl)) pss_nil)
      (pss_one (ps_ret (pe_callB (cr_allK (K := K) rfl) (by rfl) T.z_all (by decide +kernel) (pa_cons (pe_lc (g := gName 1) (own := [("each", 1)]) rfl sc_is_list_of_numbers.nd (pi_list (pv 0)) (blkOk_by (own := [("each", 1)]) (N := ["thing", "each"]) (sc := defScope s_is_list_of_numbers) (by decide +kernel)) (fun _ _ _ _ _ => by exact (pg_name (i := 1) sc_is_list_of_numbers.nd rfl (.inl rfl))) (fun _ _ _ _ _ => by exact pts_nil) (fun _ _ _ _ _ => by exact (pe_call (ok_is_number T) (hr.mono (by omega)) (by rfl) T.g_is_number T.F_is_number.kp T.b_is_number .nil pass0 (pa_cons (pv 1) pa_nil)))) pa_nil)))))⟩
theorem ok_is_list_of_numbers (T : Txt K mg) : FnOk P w K mg base CX0 2 T.f_is_list_of_numbers T.d_is_list_of_numbers ["thing"] spIsList := by
  refine T.F_is_list_of_numbers.ok sc_is_list_of_numbers (fun vs H Q E h => ?_) (fun cdv A outer s H vs Q E hr h => ⟨_, (dv_is_list_of_numbers T hr).2, ?_⟩)
  · obtain ⟨x, rfl, _⟩ := h
    rfl
  · obtain ⟨x, rfl, h⟩ := h
    rcases h with ⟨n, hn, hl, q⟩ | ⟨a, xs, rfl, ha, hk, q⟩
    · exact ⟨x, rfl, n, hn, _, _, rfl, rfl, _, rfl, decNF hl (iteT q)⟩
    · have hS : SqL K H a xs := .of ha
      refine ⟨_, rfl, "list", by simp only [zTyV]; rw [ha], _, _, rfl, rfl, _, rfl, decNT rfl ?_⟩
      refine ⟨_, rfl, a, xs, rfl, .inl hS, xs.length, 20, rfl, rfl, _, rfl, dec2 (fun c => ?_) (fun c => ?_)⟩
      · have e : listV xs = false := by
          unfold listV
          rw [decide_eq_false (by omega), Bool.false_and]
        rw [e] at q
        exact q H (Same.refl H)
      · have c20 : xs.length ≤ 20 := Nat.le_of_not_lt c
        have hkk := hk c20
        have e0 : decide (xs.length ≤ 20) = true := decide_eq_true c20
        unfold listV at q
        rw [e0, Bool.true_and] at q
        refine ⟨_, rfl, a, rfl, ⟨xs, hS⟩, fun D nD => ?_⟩
        refine lc1_list (xs := xs) (fun i acc H' => Same H H' ∧ acc = ((xs.take i).map numV).map V.bl) ⟨same_new nD, rfl⟩
          (fun i acc H' p => p.1.seq hS) (fun _ => rfl) ?_ ?_
        · rintro i x acc H' hx hl hD ⟨sm, he⟩
          refine ⟨_, rfl, x, rfl, kind_same sm (hkk x (List.mem_of_getElem? hx)), LcN.put hD hl ?_ ⟨same_free sm nD, ?_⟩⟩
          · have := (List.getElem?_eq_some_iff.mp hx).1
            exact small1000 (by omega)
          · rw [all_take hx, List.map_append, ← he]
            rfl
        · rintro acc H' hl hD ⟨sm, he⟩
          rw [List.take_length] at he
          refine ⟨D, xs.map numV, rfl, .of (by rw [hD, he]), ?_⟩
          have e1 : (xs.map numV).all id = xs.all numV := by
            rw [List.all_map]
            rfl
          rw [e1]
          exact q H' sm
noncomputable def dv_is_set {P : Program} {w : World} {K : PySem.W.Frag} {mg : Str → Option Value} {base : Heap} (T : Txt K mg)  {cdv : Value} {A : Around} {outer : List Env} {s : Shared} {H : Hp} {E : XK}
    (hr : Room 2 (A.deeper (envOfC "is_set" (defScope s_is_set) s.heap.objs.size T.f_is_set cdv))) :
    Σ' t : TS, PSs (cxOf CX0 P w K mg base ["thing"] "is_set" (defScope s_is_set) T.f_is_set cdv A outer s H E).nox (defBody s_is_set) t :=
  ⟨_, (pss_one (ps_ret (pe_and (pe_call (ok_is_list_of_numbers T) (hr.mono (by omega)) (by rfl) T.g_is_list_of_numbers T.F_is_list_of_numbers.kp T.b_is_list_of_numbers .nil pass0 (pa_cons (pv 0) pa_nil)) (pe_one (pe_call (ok_is_falling T) (hr.mono (by omega)) (by rfl) T.g_is_falling T.F_is_falling.kp T.b_is_falling .nil pass0 (pa_cons (pv 0) pa_nil))))))⟩
theorem ok_is_set (T : Txt K mg) : FnOk P w K mg base CX0 3 T.f_is_set T.d_is_set ["thing"] spIsSet := by
  refine T.F_is_set.ok sc_is_set (fun vs H Q E h => ?_) (fun cdv A outer s H vs Q E hr h => ⟨_, (dv_is_set T hr).2, ?_⟩)
  · obtain ⟨x, rfl, _⟩ := h
    rfl
  · obtain ⟨x, rfl, h⟩ := h
    rcases h with ⟨n, hn, hl, q⟩ | ⟨a, xs, rfl, ha, hk, q⟩
    · exact ⟨x, rfl, x, rfl, .inl ⟨n, hn, hl, false, rfl, iteF q⟩⟩
    · refine ⟨_, rfl, _, rfl, .inr ⟨a, xs, rfl, ha, hk, fun H1 sm => ⟨_, rfl, ?_⟩⟩⟩
      rw [setV_list] at q
      cases hb : listV xs with
      | false =>
        rw [hb] at q
        exact iteF (q H1 sm)
      | true =>
        rw [hb, Bool.true_and] at q
        obtain ⟨h20, ha2⟩ : xs.length ≤ 20 ∧ xs.all numV = true := by
          unfold listV at hb
          rw [Bool.and_eq_true, decide_eq_true_eq] at hb
          exact hb
        have hx := numV_all ha2
        refine iteT ⟨_, rfl, a, xs.map intOf, rfl, ?_, ?_, fun H'' sm2 => ?_⟩
        · rw [← hx]
          exact sm.seq (.of ha)
        · rw [List.length_map]
          omega
        · exact q H'' (sm.trans sm2)
end
end Sh

/-! A set's number; a number's set; the sets beneath. -/
namespace Sh
open PySem PySem.Spec PyProof.Rows L2
/-- a list of numbers as it stands -/
def natsV (l : List Nat) : List V := l.map fun n : Nat => V.int (n : Int)
theorem natsV_length (l : List Nat) : (natsV l).length = l.length := List.length_map _
theorem natsV_get {l : List Nat} {i n : Nat} (h : l[i]? = some n) : (natsV l)[i]? = some (.int (n : Int)) := by
  unfold natsV
  rw [List.getElem?_map, h]
  rfl
theorem get_natsV {l : List Nat} {i : Nat} {x : V} (h : (natsV l)[i]? = some x) : ∃ n, l[i]? = some n ∧ x = .int (n : Int) := by
  unfold natsV at h
  rw [List.getElem?_map] at h
  obtain ⟨n, h1, h2⟩ := Option.map_eq_some_iff.mp h
  exact ⟨n, h1, h2.symm⟩
theorem natsV_ints (l : List Nat) : natsV l = (l.map fun n : Nat => (n : Int)).map V.int := by
  unfold natsV
  rw [List.map_map]
  rfl
theorem natsV_app (l : List Nat) (n : Nat) : natsV l ++ [V.int (n : Int)] = natsV (l ++ [n]) := by
  unfold natsV
  rw [List.map_append]
  rfl
theorem natsV_kind {l : List Nat} {H : Hp} : ∀ v ∈ natsV l, Kind v H := fun v hv => by
  unfold natsV at hv
  obtain ⟨n, _, rfl⟩ := List.mem_map.mp hv
  exact kind_int _ _
theorem fall_down : ∀ {l : List Nat}, Down l → fallI (l.map fun n : Nat => (n : Int)) = true
  | [], _ => rfl
  | [_], _ => rfl
  | a :: b :: l, h => by
    have h1 := List.pairwise_cons.mp h
    have ih := fall_down h1.2
    have hab : b < a := h1.1 b List.mem_cons_self
    show (decide ((b : Int) < (a : Int)) && fallI ((b :: l).map fun n : Nat => (n : Int))) = true
    rw [ih, decide_eq_true (by omega)]
    rfl
theorem setV_of {l : List Nat} (h : Down l) (h20 : l.length ≤ 20) : setV (natsV l) = true := by
  unfold setV
  have e1 : (natsV l).all numV = true := by
    rw [List.all_eq_true]
    intro v hv
    unfold natsV at hv
    obtain ⟨n, _, rfl⟩ := List.mem_map.mp hv
    exact decide_eq_true (show (0 : Int) ≤ (n : Int) by omega)
  have e2 : (natsV l).map intOf = l.map fun n : Nat => (n : Int) := by
    unfold natsV
    rw [List.map_map]
    rfl
  rw [e1, e2, fall_down h, natsV_length, decide_eq_true h20]
  rfl
/-- a set of numbers that are not too great -/
structure Good (l : List Nat) (b : Nat) : Prop where
  down : Down l
  few : l.length ≤ 20
  small : ∀ x ∈ l, x < 2 ^ b
  bits : b ≤ 5000
theorem drop_num {l : List Nat} {i x : Nat} (h : l[i]? = some x) : num (l.drop i) = ch x (l.length - i) + num (l.drop (i + 1)) := by
  obtain ⟨hi, rfl⟩ := List.getElem?_eq_some_iff.mp h
  rw [List.drop_eq_getElem_cons hi]
  show ch _ ((l.drop (i + 1)).length + 1) + _ = _
  have e : (l.drop (i + 1)).length + 1 = l.length - i := by
    rw [List.length_drop]
    omega
  rw [e]
section
variable {P : Program} {w : World} {K : PySem.W.Frag} {mg : Str → Option Value} {base : Heap}
def spCheckSet : Sp := fun vs H Q _ => ∃ (a : Addr) (l : List Nat), vs = [.ref a] ∧ H a = some (.lst (natsV l)) ∧ Down l ∧ l.length ≤ 20 ∧ ∀ H', Same H H' → Q .non H'
noncomputable def dv_check_set {P : Program} {w : World} {K : PySem.W.Frag} {mg : Str → Option Value} {base : Heap} (T : Txt K mg)  {cdv : Value} {A : Around} {outer : List Env} {s : Shared} {H : Hp} {E : XK}
    (hr : Room 3 (A.deeper (envOfC "check_set" (defScope s_check_set) s.heap.objs.size T.f_check_set cdv))) :
    Σ' t : TS, PSs (cxOf CX0 P w K mg base ["some"] "check_set" (defScope s_check_set) T.f_check_set cdv A outer s H E).nox (defBody s_check_set) t :=
  ⟨_, (pss_one (ps_if (pt_not (pt_val (pe_call (ok_is_set T) (hr.mono (by omega)) (by rfl) T.g_is_set T.F_is_set.kp T.b_is_set .nil pass0 (pa_cons (pv 0) pa_nil)))) (pss_one ps_never) pss_nil))⟩
theorem ok_check_set (T : Txt K mg) : FnOk P w K mg base CX0 4 T.f_check_set T.d_check_set ["some"] spCheckSet := by
  refine T.F_check_set.ok sc_check_set (fun vs H Q E h => ?_) (fun cdv A outer s H vs Q E hr h => ⟨_, (dv_check_set T hr).2, ?_⟩)
  · obtain ⟨a, l, rfl, _⟩ := h
    rfl
  · obtain ⟨a, l, rfl, ha, hd, h20, q⟩ := h
    refine ⟨_, rfl, _, rfl, .inr ⟨a, _, rfl, ha, fun _ => natsV_kind, fun H' sm => ?_⟩⟩
    rw [setV_of hd h20]
    exact ⟨true, rfl, iteF (q H' sm)⟩
def spNumberOf : Sp := fun vs H Q _ => ∃ (a : Addr) (l : List Nat) (b : Nat), vs = [.ref a] ∧ H a = some (.lst (natsV l)) ∧ Good l b ∧ ∀ H', Same H H' → Q (.int ((num l : Nat) : Int)) H'
noncomputable def dv_number_of {P : Program} {w : World} {K : PySem.W.Frag} {mg : Str → Option Value} {base : Heap} (T : Txt K mg)  {cdv : Value} {A : Around} {outer : List Env} {s : Shared} {H : Hp} {E : XK}
    (hr : Room 4 (A.deeper (envOfC "number_of" (defScope s_number_of) s.heap.objs.size T.f_number_of cdv))) :
    Σ' t : TS, PSs (cxOf CX0 P w K mg base ["some", "number", "place", "each"] "number_of" (defScope s_number_of) T.f_number_of cdv A outer s H E).nox (defBody s_number_of) t :=
  ⟨_, (pss_cons (ps_expr (pe_call (ok_check_set T) (hr.mono (by omega)) (by rfl) T.g_check_set T.F_check_set.kp T.b_check_set .nil pass0 (pa_cons (pv 0) pa_nil)))
      (pss_cons (ps_set (i := 1) sc_number_of.nd rfl (.inl rfl) pe_int)
      (pss_cons (ps_for PassesOwn.never rfl (pi_enum (by rfl) T.z_enumerate (pa_cons (pv 0) pa_nil)) (pg_tupK (K := K) rfl (pgs_cons (pg_name (i := 2) sc_number_of.nd rfl (.inl rfl)) (pgs_cons (pg_name (i := 3) sc_number_of.nd rfl (.inl rfl)) pgs_nil))) (pss_one (ps_set (i := 1) sc_number_of.nd rfl (.inl rfl) (pe_op op_nAdd (pv 1) (pe_callBfun cr_comb (by rfl) T.m_comb (pa_cons (pv 3) (pa_cons (pe_op op_nSub (pe_callB (call_lenK (K := K)) (by rfl) T.z_len PySem.boot_len (pa_cons (pv 0) pa_nil)) (pv 2)) pa_nil)))))))
      (pss_one (ps_ret (pv 1))))))⟩
theorem ok_number_of (T : Txt K mg) : FnOk P w K mg base CX0 5 T.f_number_of T.d_number_of ["some"] spNumberOf := by
  refine T.F_number_of.ok sc_number_of (fun vs H Q E h => ?_) (fun cdv A outer s H vs Q E hr h => ⟨_, (dv_number_of T hr).2, ?_⟩)
  · obtain ⟨a, l, b, rfl, _⟩ := h
    rfl
  · obtain ⟨a, l, b, rfl, ha, g, q⟩ := h
    refine ⟨_, rfl, a, l, rfl, ha, g.down, g.few, fun H1 sm1 => ?_⟩
    have hS : SqL K H1 a (natsV l) := .of (sm1 _ _ ha)
    refine ⟨_, rfl, a, _, rfl, hS, ?_⟩
    refine for2_enum (xs := natsV l) (fun i σ H' => Same H H' ∧ ∃ p y z, σ = [some (.ref a), some (.int ((p : Nat) : Int)), y, z] ∧ p + num (l.drop i) = num l) ⟨sm1, 0, none, none, rfl, by rw [Nat.zero_add]; rfl⟩
      (fun i σ H' p => .of (p.1 _ _ ha)) (fun i σ H' T o nT p => ⟨same_fresh H _ _ _ nT p.1, p.2⟩) ?_ ?_
    · rintro i x σ H' hx ⟨sm, p, y, z, rfl, hp⟩
      obtain ⟨n, hn, rfl⟩ := get_natsV hx
      have hi := (List.getElem?_eq_some_iff.mp hn).1
      have hnb := g.small n (List.mem_of_getElem? hn)
      have g20 := g.few
      have gb := g.bits
      have hb2 : b * (l.length - i) ≤ b * 20 := Nat.mul_le_mul_left _ (by omega)
      refine ⟨_, rfl, _, rfl, _, rfl, a, natsV l, rfl, .inl (.of (sm _ _ ha)), ?_⟩
      rw [natsV_length]
      refine ⟨_, rfl, l.length, i, rfl, rfl, by omega, n, l.length - i, b, rfl, hnb, by omega, by omega, p, ch n (l.length - i), rfl, rfl, sm, _, _, _, rfl, ?_⟩
      rw [drop_num hn] at hp
      omega
    · rintro σ H' ⟨sm, p, y, z, rfl, hp⟩
      rw [natsV_length, List.drop_length] at hp
      have hp : p = num l := hp
      subst hp
      exact ⟨_, rfl, q H' sm⟩
end
end Sh

/-! A number's set; the sets beneath. -/
namespace Sh
open PySem PySem.Spec PyProof.Rows L2
section
variable {P : Program} {w : World} {K : PySem.W.Frag} {mg : Str → Option Value} {base : Heap}
def spSetN : Sp := fun vs H Q _ => ∃ k n b : Nat, vs = [.int (k : Int), .int (n : Int)] ∧ k ≤ 20 ∧ n < 2 ^ b ∧ b ≤ 7000 ∧
  ∀ H' p, Same H H' → H p = none → H' p = some (.lst (natsV (cas k n))) → Q (.ref p) H'
noncomputable def dv_numbers_of_set {P : Program} {w : World} {K : PySem.W.Frag} {mg : Str → Option Value} {base : Heap} (T : Txt K mg)  {cdv : Value} {A : Around} {outer : List Env} {s : Shared} {H : Hp} {E : XK}
    (hr : Room 31 (A.deeper (envOfC "numbers_of_set" (defScope s_numbers_of_set) s.heap.objs.size T.f_numbers_of_set cdv))) :
    Σ' t : TS, PSs (cxOf CX0 P w K mg base ["size", "number", "numbers", "left", "first"] "numbers_of_set" (defScope s_numbers_of_set) T.f_numbers_of_set cdv A outer s H E).nox (defBody s_numbers_of_set) t :=
  ⟨_, (pss_cons (ps_set (i := 2) sc_numbers_of_set.nd rfl (.inl rfl) (pe_lst pa_nil))
      (pss_cons (ps_for PassesOwn.never rfl (pi_range3 (by rfl) T.z_range (pa_cons (pv 0) (pa_cons pe_int (pa_cons (pe_un un_neg pe_int) pa_nil)))) (pg_name (i := 3) sc_numbers_of_set.nd rfl (.inl rfl)) (pss_cons (ps_set (i := 4) sc_numbers_of_set.nd rfl (.inl rfl) (pe_call (ok_greatest_first T) (hr.mono (by omega)) (by rfl) T.g_greatest_first T.F_greatest_first.kp T.b_greatest_first .nil pass0 (pa_cons (pv 3) (pa_cons (pv 1) pa_nil))))
      (pss_cons (ps_expr (pe_bm PySem.F.plainAttrs_list PySem.F.slot_list_append PySem.F.type_list_append mt_append (pv 2) (pa_cons (pv 4) pa_nil)))
      (pss_one (ps_set (i := 1) sc_numbers_of_set.nd rfl (.inl rfl) (pe_op op_nSub (pv 1) (pe_callBfun cr_comb (by rfl) T.m_comb (pa_cons (pv 4) (pa_cons (pv 3) pa_nil)))))))))
      (pss_one (ps_ret (pv 2)))))⟩
theorem ok_numbers_of_set (T : Txt K mg) : FnOk P w K mg base CX0 32 T.f_numbers_of_set T.d_numbers_of_set ["size", "number"] spSetN := by
  refine T.F_numbers_of_set.ok sc_numbers_of_set (fun vs H Q E h => ?_) (fun cdv A outer s H vs Q E hr h => ⟨_, (dv_numbers_of_set T hr).2, ?_⟩)
  · obtain ⟨k, n, b, rfl, _⟩ := h
    rfl
  · obtain ⟨k, n, b, rfl, hk, hn, hb, q⟩ := h
    refine ⟨Nat.zero_le _, fun p hp => ?_⟩
    refine ⟨_, rfl, 1, rfl, (k : Int), 0, -1, _, rfl, RgC.neg (by omega) (by omega) (by omega) (by omega), ?_⟩
    refine for_down (n := k) (by omega) (fun i σ H' => Same H H' ∧ ∃ m l y z, σ = [some (.int (k : Int)), some (.int ((m : Nat) : Int)), some (.ref p), y, z] ∧ m ≤ n ∧ l ++ cas (k - i) m = cas k n ∧ l.length = i ∧ H' p = some (.lst (natsV l)))
      ⟨same_new hp, n, [], none, none, rfl, Nat.le_refl _, rfl, rfl, upd_same⟩ ?_ ?_
    · rintro i σ H' hi ⟨sm, m, l, y, z, rfl, hm, hl, hli, hpp⟩
      obtain ⟨j, hj⟩ : ∃ j, k - i = j + 1 := ⟨k - i - 1, by omega⟩
      rw [hj] at hl ⊢
      have hc := top_le j m
      have hc2 := top_most j m
      have htb : top j m < 2 ^ (b + 5) := by
        rw [Nat.pow_add]
        omega
      have hbk : (b + 5) * (j + 1) ≤ (b + 5) * 20 := Nat.mul_le_mul_left _ (by omega)
      refine ⟨_, rfl, _, rfl, j, m, b, rfl, by omega, by omega, hb, ?_⟩
      refine ⟨_, rfl, .inl ⟨rfl, _, .of hpp⟩, _, rfl, p, _, _, rfl, rfl, hpp, ?_, ?_⟩
      · rw [natsV_length, hli]
        exact small1000 (by omega)
      · have hnew : ∀ b' o, H b' = some o → b' ≠ p := fun b' o e => ne_of_none e hp
        refine ⟨_, rfl, _, rfl, _, rfl, top j m, j + 1, b + 5, rfl, htb, by omega, by omega, m, ch (top j m) (j + 1), rfl, rfl, hc, ?_⟩
        refine ⟨fun b' o e => ?_, m - ch (top j m) (j + 1), l ++ [top j m], _, _, rfl, by omega, ?_, ?_, ?_⟩
        · rw [upd_ne (hnew b' o e)]
          exact sm b' o e
        · rw [show k - (i + 1) = j by omega, List.append_assoc]
          exact hl
        · rw [List.length_append, hli]
          rfl
        · rw [upd_same, natsV_app]
    · rintro σ H' ⟨sm, m, l, y, z, rfl, hm, hl, hli, hpp⟩
      rw [Nat.sub_self] at hl
      have hl : l ++ [] = cas k n := hl
      rw [List.append_nil] at hl
      subst hl
      exact ⟨_, rfl, q H' p sm hp hpp⟩
theorem size_yes {k : Nat} {lo hi : Int} (h1 : lo ≤ (k : Int)) (h2 : (k : Int) ≤ hi) : sizeV (.int (k : Int)) lo hi = true := by
  show (decide ((0 : Int) ≤ k) && (decide (lo ≤ (k : Int)) && decide ((k : Int) ≤ hi))) = true
  rw [decide_eq_true (show (0 : Int) ≤ k by omega), decide_eq_true h1, decide_eq_true h2]
  rfl
theorem num_yes (n : Nat) : numV (.int (n : Int)) = true := decide_eq_true (show (0 : Int) ≤ n by omega)
def spSetOf : Sp := fun vs H Q _ => ∃ k n b : Nat, vs = [.int (k : Int), .int (n : Int)] ∧ k ≤ 20 ∧ n < 2 ^ b ∧ b ≤ 7000 ∧ (k = 0 → n = 0) ∧
  ∀ H' p, Same H H' → H p = none → H' p = some (.lst (natsV (cas k n))) → Q (.ref p) H'
noncomputable def dv_set_of {P : Program} {w : World} {K : PySem.W.Frag} {mg : Str → Option Value} {base : Heap} (T : Txt K mg)  {cdv : Value} {A : Around} {outer : List Env} {s : Shared} {H : Hp} {E : XK}
    (hr : Room 32 (A.deeper (envOfC "set_of" (defScope s_set_of) s.heap.objs.size T.f_set_of cdv))) :
    Σ' t : TS, PSs (cxOf CX0 P w K mg base ["size", "number"] "set_of" (defScope s_set_of) T.f_set_of cdv A outer s H E).nox (defBody s_set_of) t :=
  ⟨_, (pss_cons (ps_if (pt_not (pt_val (pe_call (ok_is_size T) (hr.mono (by omega)) (by rfl) T.g_is_size T.F_is_size.kp T.b_is_size .nil pass0 (pa_cons (pv 0) (pa_cons pe_int (pa_cons (pe_glob (v := .int 20) rfl T.c_GREATEST_SIZE.2 ⟨_, rfl⟩) pa_nil)))))) (pss_one ps_never) pss_nil)
      (pss_cons (ps_if (pt_not (pt_val (pe_call (ok_is_number T) (hr.mono (by omega)) (by rfl) T.g_is_number T.F_is_number.kp T.b_is_number .nil pass0 (pa_cons (pv 1) pa_nil)))) (pss_one ps_never) pss_nil)
      (pss_cons (ps_if (PW.pt (pw_and (pt_cmpR op_nEq (pv 0) pe_int (nomark _)) (pw_and1 (pt_cmpR op_nGt (pv 1) pe_int (nomark _))))) (pss_one ps_never) pss_nil)
      (pss_one (ps_ret (pe_call (ok_numbers_of_set T) (hr.mono (by omega)) (by rfl) T.g_numbers_of_set T.F_numbers_of_set.kp T.b_numbers_of_set .nil pass0 (pa_cons (pv 0) (pa_cons (pv 1) pa_nil))))))))⟩
theorem ok_set_of (T : Txt K mg) : FnOk P w K mg base CX0 33 T.f_set_of T.d_set_of ["size", "number"] spSetOf := by
  refine T.F_set_of.ok sc_set_of (fun vs H Q E h => ?_) (fun cdv A outer s H vs Q E hr h => ⟨_, (dv_set_of T hr).2, ?_⟩)
  · obtain ⟨k, n, b, rfl, _⟩ := h
    rfl
  · obtain ⟨k, n, b, rfl, hk, hn, hb, h0, q⟩ := h
    refine ⟨_, rfl, _, 0, 20, rfl, kind_int _ _, ?_⟩
    rw [size_yes (by omega) (by omega)]
    refine ⟨true, rfl, iteF ?_⟩
    refine ⟨_, rfl, _, rfl, kind_int _ _, ?_⟩
    rw [num_yes]
    refine ⟨true, rfl, iteF ?_⟩
    refine ⟨_, rfl, k, 0, rfl, rfl, _, rfl, ?_⟩
    refine (fun key => dec2 (fun c => ⟨_, rfl, n, 0, rfl, rfl, _, rfl, decF (by have := h0 c; omega) key⟩) (fun c => iteF key)) ?_
    exact ⟨_, rfl, _, rfl, k, n, b, rfl, hk, hn, hb, q⟩
end
end Sh

/-! The sets beneath. -/
namespace Sh
open PySem PySem.Spec PyProof.Rows L2
theorem cut_to (xs : List V) (i : Nat) : cutV xs none (some (i : Int)) = xs.take i := by
  unfold cutV
  rw [HT.sIx_none, show HT.sIx xs.length xs.length (some (i : Int)) = min i xs.length from HT.sIx_nat _ _ _, List.drop_zero, Nat.sub_zero]
  by_cases h : i ≤ xs.length
  · rw [Nat.min_eq_left h]
  · rw [Nat.min_eq_right (by omega), List.take_of_length_le (Nat.le_refl _), List.take_of_length_le (by omega)]
theorem cut_from (xs : List V) (i : Nat) : cutV xs (some (i : Int)) none = xs.drop i := by
  unfold cutV
  rw [HT.sIx_none, show HT.sIx xs.length 0 (some (i : Int)) = min i xs.length from HT.sIx_nat _ _ _]
  by_cases h : i ≤ xs.length
  · rw [Nat.min_eq_left h]
    exact List.take_of_length_le (by rw [List.length_drop]; exact Nat.le_refl _)
  · rw [Nat.min_eq_right (by omega), Nat.sub_self, List.take_zero, List.drop_eq_nil_of_le (by omega)]
theorem natsV_take (l : List Nat) (i : Nat) : (natsV l).take i = natsV (l.take i) := by
  unfold natsV
  rw [List.map_take]
theorem natsV_drop (l : List Nat) (i : Nat) : (natsV l).drop i = natsV (l.drop i) := by
  unfold natsV
  rw [List.map_drop]
theorem natsV_append (l m : List Nat) : natsV l ++ natsV m = natsV (l ++ m) := by
  unfold natsV
  rw [List.map_append]
/-- the list at p holds new lists, one for each place of l, without that place's number -/
structure Beneath (H H' : Hp) (l : List Nat) (ps : List Addr) : Prop where
  len : ps.length = l.length
  at_ : ∀ i x, ps[i]? = some x → H' x = some (.lst (natsV (l.eraseIdx i))) ∧ H x = none
  nd : ps.Nodup
/-- some[:at] + some[at + 1:] -/
abbrev tWithout (K : PySem.W.Frag) (i j : Nat) : TE := tOp rCat (tSl (rSlL K) (tVar i) tNoPart (tPart (tVar j))) (tSl (rSlL K) (tVar i) (tPart (tOp rNAdd (tVar j) (tC (.int 1)))) tNoPart)
theorem lc_beneath {K : PySem.W.Frag} {vs : List Nat} {σ : L2.St} {H1 : Hp} {D a : Addr} {Qd : Hp → Prop} {l : List Nat} {m i j : Nat} (hm : m = l.length) (hz : l.length ≤ 1000) (ha : H1 a = some (.lst (natsV l))) (hD : H1 D = none)
    (hw : ∀ x, wipe ((wipe σ vs).set j (some x)) vs = wipe σ vs) (hi : ∀ x, ((wipe σ vs).set j (some x))[i]? = some (some (.ref a))) (hj : ∀ x, ((wipe σ vs).set j (some x))[j]? = some (some x))
    (hd : ∀ H' ps, Same H1 H' → H' D = some (.lst (ps.map V.ref)) → Beneath H1 H' l ps → D ∉ ps → Qd H') : LcW (Itr 0 m) (gName j) (tWithout K i j) vs σ H1 D Qd := by
  refine lc1_rangeN hm (fun n acc H' => Same H1 H' ∧ ∃ ps : List Addr, acc = ps.map V.ref ∧ (∀ n x, ps[n]? = some x → H' x = some (.lst (natsV (l.eraseIdx n))) ∧ H1 x = none ∧ x ≠ D) ∧ ps.Nodup)
    ⟨same_new hD, [], rfl, fun n x h => by simp at h, List.nodup_nil⟩ hw ?_ ?_
  · rintro n acc H' hn hl hDH ⟨sm, ps, rfl, hps, hnd⟩
    have haH := sm _ _ ha
    refine ⟨_, hi _, _, hj _, n, rfl, a, _, rfl, .of haH, fun p1 n1 => ?_⟩
    rw [cut_to, natsV_take]
    refine ⟨_, hi _, _, hj _, n, 1, rfl, rfl, ((n + 1 : Nat) : Int), rfl, a, natsV l, rfl, .of (by rw [upd_ne (ne_of_none haH n1)]; exact haH), fun p2 n2 => ?_⟩
    rw [cut_from, natsV_drop]
    have d12 : p1 ≠ p2 := fun e => by rw [e] at n2; rw [upd_same] at n2; cases n2
    refine ⟨p1, p2, _, _, rfl, rfl, by rw [upd_ne d12, upd_same], upd_same, ?_, fun p3 n3 => ?_⟩
    · rw [natsV_length, natsV_length, List.length_take, List.length_drop]
      exact Nat.le_of_lt (small1000 (by omega))
    · rw [natsV_append]
      have d23 : p3 ≠ p2 := fun e => by rw [e, upd_same] at n3; cases n3
      have f2 : (upd H' p1 (.lst (natsV (l.take n)))) p3 = none := by rw [upd_ne d23] at n3; exact n3
      have d13 : p3 ≠ p1 := fun e => by rw [e, upd_same] at f2; cases f2
      have f3 : H' p3 = none := by rw [upd_ne d13] at f2; exact f2
      have dD : ∀ q, H' q = none → D ≠ q := fun q z => ne_of_none hDH z
      have n2' : H' p2 = none := by rw [upd_ne d12.symm] at n2; exact n2
      have old : ∀ x o, H' x = some o → (upd (upd (upd H' p1 (.lst (natsV (l.take n)))) p2 (.lst (natsV (l.drop (n + 1))))) p3 (.lst (natsV (l.take n ++ l.drop (n + 1))))) x = some o := fun x o e => by
        rw [upd_ne (ne_of_none e f3), upd_ne (ne_of_none e n2'), upd_ne (ne_of_none e n1)]
        exact e
      refine LcN.put (old _ _ hDH) hl (small1000 (by omega)) ⟨fun b o e => ?_, ps ++ [p3], by rw [List.map_append]; rfl, fun k x hx => ?_, ?_⟩
      · rw [upd_ne (ne_of_none e hD)]
        exact old _ _ (sm b o e)
      · rw [List.length_map] at hl
        rcases Nat.lt_or_ge k ps.length with hk | hk
        · rw [List.getElem?_append_left hk] at hx
          obtain ⟨g1, g2, g3⟩ := hps k x hx
          exact ⟨by rw [upd_ne g3]; exact old _ _ g1, g2, g3⟩
        · rw [List.getElem?_append_right hk] at hx
          have hk0 : k - ps.length = 0 := by
            refine Nat.lt_one_iff.mp ?_
            have := (List.getElem?_eq_some_iff.mp hx).1
            simpa using this
          rw [hk0] at hx
          have ex : p3 = x := Option.some.inj hx
          subst ex
          have ek : k = n := by omega
          subst ek
          refine ⟨?_, ?_, (dD _ f3).symm⟩
          · rw [upd_ne (dD _ f3).symm, upd_same, List.eraseIdx_eq_take_drop_succ]
          · cases q : H1 p3 with
            | none => rfl
            | some o =>
              rw [sm _ _ q] at f3
              cases f3
      · refine List.nodup_append.mpr ⟨hnd, List.nodup_cons.mpr ⟨List.not_mem_nil, List.nodup_nil⟩, fun x hx y hy e => ?_⟩
        have hy := List.mem_singleton.mp hy
        obtain ⟨k, hk⟩ := List.getElem?_of_mem hx
        obtain ⟨g1, _⟩ := hps k x hk
        rw [e, hy, f3] at g1
        cases g1
  · rintro acc H' hl hDH ⟨sm, ps, rfl, hps, hnd⟩
    rw [List.length_map] at hl
    refine hd H' ps sm hDH ⟨hl, fun n x h => ⟨(hps n x h).1, (hps n x h).2.1⟩, hnd⟩ fun hx => ?_
    obtain ⟨k, hk⟩ := List.getElem?_of_mem hx
    exact (hps k D hk).2.2 rfl
section
variable {P : Program} {w : World} {K : PySem.W.Frag} {mg : Str → Option Value} {base : Heap}
def spBeneath : Sp := fun vs H Q _ => ∃ (a : Addr) (l : List Nat), vs = [.ref a] ∧ H a = some (.lst (natsV l)) ∧ Down l ∧ l.length ≤ 20 ∧
  ∀ H' p ps, Same H H' → H p = none → H' p = some (.lst (ps.map V.ref)) → Beneath H H' l ps → p ∉ ps → Q (.ref p) H'
noncomputable def dv_beneath {P : Program} {w : World} {K : PySem.W.Frag} {mg : Str → Option Value} {base : Heap} (T : Txt K mg)  {cdv : Value} {A : Around} {outer : List Env} {s : Shared} {H : Hp} {E : XK}
    (hr : Room 4 (A.deeper (envOfC "beneath" (defScope s_beneath) s.heap.objs.size T.f_beneath cdv))) :
    Σ' t : TS, PSs (cxOf CX0 P w K mg base ["some", "place"] "beneath" (defScope s_beneath) T.f_beneath cdv A outer s H E).nox (defBody s_beneath) t :=
  ⟨_, (pss_cons (ps_expr (pe_call (ok_check_set T) (hr.mono (by omega)) (by rfl) T.g_check_set T.F_check_set.kp T.b_check_set .nil pass0 (pa_cons (pv 0) pa_nil)))
      (pss_one (ps_ret (pe_lc (g := gName 1) (own := [("place", 1)]) rfl sc_beneath.nd (pi_range1 (by rfl) T.z_range (pa_cons (pe_callB (call_lenK (K := K)) (by rfl) T.z_len PySem.boot_len (pa_cons (pv 0) pa_nil)) pa_nil)) (blkOk_by (own := [("place", 1)]) (N := ["some", "place"]) (sc := defScope s_beneath) (by decide +kernel)) (fun _ _ _ _ _ => by exact (pg_name (i := 1) sc_beneath.nd rfl (.inl rfl))) (fun _ _ _ _ _ => by exact pts_nil) (fun _ _ _ _ _ => by exact (pe_op op_cat (pe_slice (sl_listK (K := K)) (pv 0) po_none (po_some (pv 1))) (pe_slice (sl_listK (K := K)) (pv 0) (po_some (pe_op op_nAdd (pv 1) pe_int)) po_none)))))))⟩
theorem ok_beneath (T : Txt K mg) : FnOk P w K mg base CX0 5 T.f_beneath T.d_beneath ["some"] spBeneath := by
  refine T.F_beneath.ok sc_beneath (fun vs H Q E h => ?_) (fun cdv A outer s H vs Q E hr h => ⟨_, (dv_beneath T hr).2, ?_⟩)
  · obtain ⟨a, l, rfl, _⟩ := h
    rfl
  · obtain ⟨a, l, rfl, ha, hd, h20, q⟩ := h
    refine ⟨_, rfl, a, l, rfl, ha, hd, h20, fun H1 sm1 => ?_⟩
    have ha1 := sm1 _ _ ha
    refine ⟨_, rfl, a, natsV l, rfl, .inl (.of ha1), ?_⟩
    rw [natsV_length]
    refine ⟨(l.length : Int), rfl, by omega, by omega, fun D nD => ?_⟩
    refine lc_beneath rfl (by omega) ha1 nD (fun _ => rfl) (fun _ => rfl) (fun _ => rfl) fun H' ps sm hDH hb hnD => ?_
    refine q H' D ps (sm1.trans sm) (sm1.free nD) hDH ⟨hb.len, fun i x h => ⟨(hb.at_ i x h).1, sm1.free (hb.at_ i x h).2⟩, hb.nd⟩ hnD
end
end Sh

/-! The law's small defs: cells, draws, values, picks, places. -/
namespace Sh
open PySem PySem.Spec PyProof.Rows L2
/-- a number of a script is not too great -/
abbrev Bounded (ns : List Int) : Prop := ∀ z ∈ ns, Builtin.Int.intBits z ≤ 1048576
def many : Nat := 10 ^ 40
section
variable {P : Program} {w : World} {K : PySem.W.Frag} {mg : Str → Option Value} {base : Heap}
def spCellAt (K : PySem.W.Frag) : Sp := fun vs H Q _ => ∃ (a : Addr) (ns : List Int) (k : Nat), vs = [.ref a, .int (k : Int)] ∧ SqL K H a (ns.map V.int) ∧ ∀ z : Int, (z = 0 ∨ z ∈ ns) → Q (.int z) H
noncomputable def dv__law_cell_at {P : Program} {w : World} {K : PySem.W.Frag} {mg : Str → Option Value} {base : Heap} (T : Txt K mg)  {cdv : Value} {A : Around} {outer : List Env} {s : Shared} {H : Hp} {E : XK}
    (hr : Room 0 (A.deeper (envOfC "_law_cell_at" (defScope s__law_cell_at) s.heap.objs.size T.f__law_cell_at cdv))) :
    Σ' t : TS, PSs (cxOf CX0 P w K mg base ["_law_script", "_law_k"] "_law_cell_at" (defScope s__law_cell_at) T.f__law_cell_at cdv A outer s H E).nox (defBody s__law_cell_at) t :=
  ⟨_, (pss_cons (ps_if (pt_cmpR op_nLt (pv 1) (pe_callB (call_lenK (K := K)) (by rfl) T.z_len PySem.boot_len (pa_cons (pv 0) pa_nil)) (nomark _)) (pss_one (ps_ret (pe_ix (ix_listK (K := K)) (pv 0) (pv 1) (fun _ _ => rfl)))) pss_nil)
      (pss_one (ps_ret pe_int)))⟩
theorem ok__law_cell_at (T : Txt K mg) : FnOk P w K mg base CX0 1 T.f__law_cell_at T.d__law_cell_at ["_law_script", "_law_k"] (spCellAt K) := by
  refine T.F__law_cell_at.ok sc__law_cell_at (fun vs H Q E h => ?_) (fun cdv A outer s H vs Q E hr h => ⟨_, (dv__law_cell_at T hr).2, ?_⟩)
  · obtain ⟨a, ns, k, rfl, _⟩ := h
    rfl
  · obtain ⟨a, ns, k, rfl, hS, q⟩ := h
    refine ⟨_, rfl, _, rfl, a, _, rfl, .inl hS, k, _, rfl, rfl, _, rfl, dec2 (fun c => ?_) (fun c => ?_)⟩
    · rw [List.length_map] at c
      have g : (ns.map V.int)[k]? = some (.int ns[k]) := by
        rw [List.getElem?_map, List.getElem?_eq_getElem c]
        rfl
      exact ⟨_, rfl, _, rfl, a, _, k, _, rfl, rfl, hS, atI_nat g, q _ (.inr (List.getElem_mem c))⟩
    · exact q 0 (.inl rfl)
def primes : List Int := [1000003, 1000033, 1000037, 1000039, 1000081, 1000099, 1000117, 1000121, 1000133, 1000151, 1000159, 1000171, 1000183, 1000187, 1000193, 1000199]
theorem primes_pos : ∀ p ∈ primes, 0 < p := by decide
def spDraw : Sp := fun vs H Q _ => ∃ (c : Int) (k m : Nat), vs = [.int c, .int (k : Int), .int (m : Int)] ∧ Builtin.Int.intBits c ≤ 10000000 ∧ k ≤ 1000 ∧ 0 < m ∧ ∀ (z : Nat) H', z < m → Same H H' → Q (.int (z : Int)) H'
noncomputable def dv__law_draw {P : Program} {w : World} {K : PySem.W.Frag} {mg : Str → Option Value} {base : Heap} (T : Txt K mg)  {cdv : Value} {A : Around} {outer : List Env} {s : Shared} {H : Hp} {E : XK}
    (hr : Room 0 (A.deeper (envOfC "_law_draw" (defScope s__law_draw) s.heap.objs.size T.f__law_draw cdv))) :
    Σ' t : TS, PSs (cxOf CX0 P w K mg base ["_law_cell", "_law_k", "_law_many", "_law_primes"] "_law_draw" (defScope s__law_draw) T.f__law_draw cdv A outer s H E).nox (defBody s__law_draw) t :=
  ⟨_, (pss_cons (ps_set (i := 3) sc__law_draw.nd rfl (.inl rfl) (pe_tup (pa_cons pe_int (pa_cons pe_int (pa_cons pe_int (pa_cons pe_int (pa_cons pe_int (pa_cons pe_int (pa_cons pe_int (pa_cons pe_int (pa_cons pe_int (pa_cons pe_int (pa_cons pe_int (pa_cons pe_int (pa_cons pe_int (pa_cons pe_int (pa_cons pe_int (pa_cons pe_int pa_nil))))))))))))))))))
      (pss_one (ps_ret (pe_op op_iMod (pe_op op_iMod (pe_op op_iAdd (pe_op op_iMul (pv 0) pe_int) (pe_op op_nMul (pv 1) pe_int)) (pe_ix (ix_tupK (K := K)) (pv 3) (pe_op op_nMod (pv 1) pe_int) (fun _ _ => rfl))) (pv 2)))))⟩
theorem ok__law_draw (T : Txt K mg) : FnOk P w K mg base CX0 1 T.f__law_draw T.d__law_draw ["_law_cell", "_law_k", "_law_many"] spDraw := by
  refine T.F__law_draw.ok sc__law_draw (fun vs H Q E h => ?_) (fun cdv A outer s H vs Q E hr h => ⟨_, (dv__law_draw T hr).2, ?_⟩)
  · obtain ⟨c, k, m, rfl, _⟩ := h
    rfl
  · obtain ⟨c, k, m, rfl, hc, hk, hm, q⟩ := h
    refine ⟨(by show 16 ≤ sizeLine; decide), fun t ht => ?_⟩
    have hj : k % 16 < primes.length := Nat.mod_lt _ (by decide)
    have g : (primes.map V.int)[k % 16]? = some (.int primes[k % 16]) := by
      rw [List.getElem?_map, List.getElem?_eq_getElem hj]
      rfl
    have hp := primes_pos _ (List.getElem_mem hj)
    generalize primes[k % 16] = p at g hp
    refine ⟨_, rfl, c, 48271, rfl, rfl, ?_, _, rfl, k, 69621, rfl, rfl, ⟨10, 17, by omega, by decide, by decide⟩, c * 48271, _, rfl, rfl, _, rfl, _, rfl, k, 16, rfl, rfl, by decide,
      t, primes.map V.int, ((k % 16 : Nat) : Int), _, rfl, rfl, .of upd_same, atI_nat g, _, p, rfl, rfl, hp, _, rfl, _, (m : Int), rfl, rfl, by omega, ?_⟩
    · have e : Builtin.Int.intBits 48271 = 16 := by decide +kernel
      unfold CMulX
      rw [e]
      omega
    · generalize (c * 48271 + ((k * 69621 : Nat) : Int)) % p = y
      have h1 := Int.emod_nonneg y (show (m : Int) ≠ 0 by omega)
      have h2 := Int.emod_lt_of_pos y (show (0 : Int) < m by omega)
      obtain ⟨z, hz⟩ := Int.eq_ofNat_of_zero_le h1
      have hz : y % (m : Int) = (z : Int) := hz
      rw [hz] at h2 ⊢
      exact q z _ (by omega) (same_new ht)
theorem mul_bits {i j : Int} {a b : Nat} (h1 : Builtin.Int.intBits i ≤ a) (h2 : Builtin.Int.intBits j ≤ b) : Builtin.Int.intBits (i * j) ≤ a + b := by
  refine intBits_le ?_
  rw [Int.natAbs_mul, Nat.pow_add]
  have x := Nat.lt_of_lt_of_le (natAbs_lt_pow_bits i) (Nat.pow_le_pow_right (by decide) h1)
  have y := Nat.lt_of_lt_of_le (natAbs_lt_pow_bits j) (Nat.pow_le_pow_right (by decide) h2)
  exact Nat.mul_lt_mul'' x y
theorem add_bits {i : Int} {n a : Nat} (h1 : Builtin.Int.intBits i ≤ a) (h2 : n < 2 ^ a) : Builtin.Int.intBits (i + (n : Int)) ≤ a + 1 := by
  refine intBits_le ?_
  have x := Nat.lt_of_lt_of_le (natAbs_lt_pow_bits i) (Nat.pow_le_pow_right (by decide) h1)
  rw [Nat.pow_succ]
  omega
def spValue : Sp := fun vs H Q _ => ∃ (c : Int) (k m : Nat), vs = [.int c, .int (k : Int), .int (m : Int)] ∧ Builtin.Int.intBits c ≤ 1048576 ∧ k ≤ 1000 ∧ 0 < m ∧ m ≤ many ∧ ∀ (z : Nat) H', z < many → Same H H' → Q (.int (z : Int)) H'
noncomputable def dv__law_value {P : Program} {w : World} {K : PySem.W.Frag} {mg : Str → Option Value} {base : Heap} (T : Txt K mg)  {cdv : Value} {A : Around} {outer : List Env} {s : Shared} {H : Hp} {E : XK}
    (hr : Room 1 (A.deeper (envOfC "_law_value" (defScope s__law_value) s.heap.objs.size T.f__law_value cdv))) :
    Σ' t : TS, PSs (cxOf CX0 P w K mg base ["_law_cell", "_law_k", "_law_limit"] "_law_value" (defScope s__law_value) T.f__law_value cdv A outer s H E).nox (defBody s__law_value) t :=
  ⟨_, (pss_cons (ps_if (pt_cmpR op_iGe (pv 0) (pe_op op_iPow pe_int pe_int) (nomark _)) (pss_one (ps_ret (pe_op op_iMod (pe_op op_iSub (pv 0) (pe_op op_iPow pe_int pe_int)) (pe_op op_iPow pe_int pe_int)))) pss_nil)
      (pss_one (ps_ret (pe_call (ok__law_draw T) (hr.mono (by omega)) (by rfl) T.g__law_draw T.F__law_draw.kp T.b__law_draw .nil pass0 (pa_cons (pe_op op_iMul (pe_op op_iAdd (pv 0) (pe_op op_nMul pe_int (pv 1))) (pe_op op_iAdd (pe_op op_iAdd (pv 0) (pe_op op_nMul pe_int (pv 1))) pe_int)) (pa_cons (pe_op op_nAdd (pe_op op_nMod (pv 1) pe_int) pe_int) (pa_cons (pv 2) pa_nil)))))))⟩
theorem ok__law_value (T : Txt K mg) : FnOk P w K mg base CX0 2 T.f__law_value T.d__law_value ["_law_cell", "_law_k", "_law_limit"] spValue := by
  refine T.F__law_value.ok sc__law_value (fun vs H Q E h => ?_) (fun cdv A outer s H vs Q E hr h => ⟨_, (dv__law_value T hr).2, ?_⟩)
  · obtain ⟨c, k, m, rfl, _⟩ := h
    rfl
  · obtain ⟨c, k, m, rfl, hc, hk, hm, hm2, q⟩ := h
    have cp : CPow 10 18 := ⟨by decide, by decide, by decide⟩
    have cp2 : CPow 10 40 := ⟨by decide, by decide, by decide⟩
    have e40 : (10 : Int) ^ (40 : Int).toNat = ((many : Nat) : Int) := by decide +kernel
    refine ⟨_, rfl, 10, 18, rfl, rfl, cp, c, _, rfl, rfl, _, rfl, dec2 (fun c1 => ?_) (fun c1 => ?_)⟩
    · refine ⟨_, rfl, 10, 18, rfl, rfl, cp, c, _, rfl, rfl, 10, 40, rfl, rfl, cp2, _, _, rfl, rfl, ?_, ?_⟩
      · rw [e40]
        have : 0 < many := Nat.pow_pos (by decide)
        omega
      · rw [e40]
        generalize c - 10 ^ (18 : Int).toNat = y
        have hp : 0 < many := Nat.pow_pos (by decide)
        have h1 := Int.emod_nonneg y (show (many : Int) ≠ 0 by omega)
        have h2 := Int.emod_lt_of_pos y (show (0 : Int) < many by omega)
        obtain ⟨z, hz⟩ := Int.eq_ofNat_of_zero_le h1
        have hz : y % (many : Int) = (z : Int) := hz
        rw [hz] at h2 ⊢
        exact q z H (by omega) (Same.refl H)
    · have n977 : 977 * k < 2 ^ 1048576 := Nat.lt_of_lt_of_le (show 977 * k < 2 ^ 20 by omega) (Nat.pow_le_pow_right (by decide) (show 20 ≤ 1048576 by decide))
      have n31 : 31 * k < 2 ^ 1048576 := Nat.lt_of_lt_of_le (show 31 * k < 2 ^ 20 by omega) (Nat.pow_le_pow_right (by decide) (by decide))
      have n5 : (5 : Nat) < 2 ^ (1048576 + 1) := Nat.lt_of_lt_of_le (show 5 < 2 ^ 3 by decide) (Nat.pow_le_pow_right (by decide) (by decide))
      have b1 := add_bits hc n977
      have b2 : Builtin.Int.intBits (c + ((31 * k : Nat) : Int) + 5) ≤ 1048576 + 1 + 1 := add_bits (add_bits hc n31) n5
      have b3 := mul_bits b1 b2
      refine ⟨_, rfl, _, rfl, 977, k, rfl, rfl, ⟨10, 10, by decide, by omega, by decide⟩, c, _, rfl, rfl, _, rfl, _, rfl, 31, k, rfl, rfl, ⟨10, 10, by decide, by omega, by decide⟩, c, _, rfl, rfl, _, 5, rfl, rfl, _, _, rfl, rfl, ?_,
        _, rfl, k, 9, rfl, rfl, by decide, _, 1, rfl, rfl, _, rfl, _, k % 9 + 1, m, rfl, Nat.le_trans b3 (by decide), by omega, hm, fun z H' hz sm => q z H' (by omega) sm⟩
      unfold CMulX
      omega
def spWhole : Sp := fun vs H Q _ => ∃ i : Int, vs = [.int i] ∧ Q (.bl true) H
noncomputable def dv__law_whole {P : Program} {w : World} {K : PySem.W.Frag} {mg : Str → Option Value} {base : Heap} (T : Txt K mg)  {cdv : Value} {A : Around} {outer : List Env} {s : Shared} {H : Hp} {E : XK}
    (hr : Room 0 (A.deeper (envOfC "_law_whole" (defScope s__law_whole) s.heap.objs.size T.f__law_whole cdv))) :
    Σ' t : TS, PSs (cxOf CX0 P w K mg base ["_law_number"] "_law_whole" (defScope s__law_whole) T.f__law_whole cdv A outer s H E).nox (defBody s__law_whole) t :=
  ⟨_, (pss_one (ps_ret (pe_and (pe_callB (call_isiK (K := K)) (by rfl) T.z_isinstance (by decide +kernel) (pa_cons (pv 0) (pa_cons (pe_bltn (v := .ty "int") (by rfl) T.z_int (by decide +kernel) rfl) pa_nil))) (pe_one (pe_not (pe_callB (call_isiK (K := K)) (by rfl) T.z_isinstance (by decide +kernel) (pa_cons (pv 0) (pa_cons (pe_bltn (v := .ty "bool") (by rfl) T.z_bool (by decide +kernel) rfl) pa_nil))))))))⟩
theorem ok__law_whole (T : Txt K mg) : FnOk P w K mg base CX0 1 T.f__law_whole T.d__law_whole ["_law_number"] spWhole := by
  refine T.F__law_whole.ok sc__law_whole (fun vs H Q E h => ?_) (fun cdv A outer s H vs Q E hr h => ⟨_, (dv__law_whole T hr).2, ?_⟩)
  · obtain ⟨i, rfl, _⟩ := h
    rfl
  · obtain ⟨i, rfl, q⟩ := h
    refine ⟨_, rfl, _, _, _, _, true, rfl, .ty _, .base (.int i), kit_ty (by decide +kernel), true, rfl, iteT ?_⟩
    exact ⟨_, rfl, _, _, _, _, false, rfl, .ty _, .base (.int i), kit_ty (by decide +kernel), false, rfl, q⟩
def spPicks : Sp := fun vs H Q _ => ∃ n k b : Nat, vs = [.int (n : Int), .int (k : Int)] ∧ n < 2 ^ b ∧ b ≤ 10000 ∧ k ≤ 30 ∧ Q (.int ((ch n k : Nat) : Int)) H
noncomputable def dv__law_picks {P : Program} {w : World} {K : PySem.W.Frag} {mg : Str → Option Value} {base : Heap} (T : Txt K mg)  {cdv : Value} {A : Around} {outer : List Env} {s : Shared} {H : Hp} {E : XK}
    (hr : Room 0 (A.deeper (envOfC "_law_picks" (defScope s__law_picks) s.heap.objs.size T.f__law_picks cdv))) :
    Σ' t : TS, PSs (cxOf CX0 P w K mg base ["_law_things", "_law_size", "_law_found", "_law_turn"] "_law_picks" (defScope s__law_picks) T.f__law_picks cdv A outer s H E).nox (defBody s__law_picks) t :=
  ⟨_, (pss_cons (ps_if (pt_cmpR op_nLt (pv 0) (pv 1) (nomark _)) (pss_one (ps_ret pe_int)) pss_nil)
      (pss_cons (ps_set (i := 2) sc__law_picks.nd rfl (.inl rfl) pe_int)
      (pss_cons (ps_for PassesOwn.never rfl (pi_range1 (by rfl) T.z_range (pa_cons (pv 1) pa_nil)) (pg_name (i := 3) sc__law_picks.nd rfl (.inl rfl)) (pss_one (ps_set (i := 2) sc__law_picks.nd rfl (.inl rfl) (pe_op op_nDiv (pe_op op_nMul (pv 2) (pe_op op_nSub (pv 0) (pv 3))) (pe_op op_nAdd (pv 3) pe_int)))))
      (pss_one (ps_ret (pv 2))))))⟩
theorem ok__law_picks (T : Txt K mg) : FnOk P w K mg base CX0 1 T.f__law_picks T.d__law_picks ["_law_things", "_law_size"] spPicks := by
  refine T.F__law_picks.ok sc__law_picks (fun vs H Q E h => ?_) (fun cdv A outer s H vs Q E hr h => ⟨_, (dv__law_picks T hr).2, ?_⟩)
  · obtain ⟨n, k, b, rfl, _⟩ := h
    rfl
  · obtain ⟨n, k, b, rfl, hn, hb, hk, q⟩ := h
    refine ⟨_, rfl, _, rfl, n, k, rfl, rfl, _, rfl, dec2 (fun c => ?_) (fun c => ?_)⟩
    · rw [ch_few c] at q
      exact q
    · refine ⟨_, rfl, k, rfl, by omega, by omega, ?_⟩
      refine for_rangeN (n := k) rfl (fun i σ H' => H' = H ∧ ∃ y, σ = [some (.int (n : Int)), some (.int (k : Int)), some (.int ((ch n i : Nat) : Int)), y]) ⟨rfl, none, by rw [ch_zero]; rfl⟩ ?_ ?_
      · rintro i σ H' hi ⟨rfl, y, rfl⟩
        have h1 := ch_bits (k := i) hn
        have h2 : ch n i < 2 ^ (b * i + 1) := by
          rw [Nat.pow_succ]
          have := Nat.two_pow_pos (b * i)
          omega
        have h3 : b * i ≤ b * 30 := Nat.mul_le_mul_left _ (by omega)
        refine ⟨_, rfl, _, rfl, _, rfl, n, i, rfl, rfl, by omega, _, _, rfl, rfl, ⟨b * i + 1, b, h2, by omega, by omega⟩, _, rfl, i, 1, rfl, rfl, _, _, rfl, rfl, .small (by omega) (by omega), rfl, some (.int (i : Nat)), ?_⟩
        rw [ch_div]
        rfl
      · rintro σ H' ⟨rfl, y, rfl⟩
        exact ⟨_, rfl, q⟩
/-- what is ahead of a set, place by place -/
def terms : List Nat → List Nat
  | [] => []
  | a :: l => ch a (l.length + 1) :: terms l
theorem terms_sum : ∀ l : List Nat, (terms l).sum = num l
  | [] => rfl
  | a :: l => by
    show ((ch a (l.length + 1)) :: terms l).sum = ch a (l.length + 1) + num l
    rw [List.sum_cons, terms_sum l]
theorem terms_length : ∀ l : List Nat, (terms l).length = l.length
  | [] => rfl
  | a :: l => congrArg Nat.succ (terms_length l)
theorem terms_get : ∀ {l : List Nat} {i n : Nat}, l[i]? = some n → (terms l)[i]? = some (ch n (l.length - i))
  | a :: l, 0, n, h => by
    have e : a = n := Option.some.inj h
    subst e
    rfl
  | a :: l, i + 1, n, h => by
    have h : l[i]? = some n := h
    have ih := terms_get h
    show (terms l)[i]? = some (ch n (l.length + 1 - (i + 1)))
    rw [ih, Nat.add_sub_add_right]
theorem sum_nats : ∀ l : List Nat, (l.map fun n : Nat => (n : Int)).sum = ((l.sum : Nat) : Int)
  | [] => rfl
  | a :: l => by
    rw [List.map_cons, List.sum_cons, List.sum_cons, sum_nats l]
    rfl
def spPlace : Sp := fun vs H Q _ => ∃ (a : Addr) (l : List Nat) (b : Nat), vs = [.ref a] ∧ H a = some (.lst (natsV l)) ∧ l.length ≤ 30 ∧ (∀ x ∈ l, x < 2 ^ b) ∧ b ≤ 10000 ∧ ∀ H', Same H H' → Q (.int ((num l : Nat) : Int)) H'
noncomputable def dv__law_place {P : Program} {w : World} {K : PySem.W.Frag} {mg : Str → Option Value} {base : Heap} (T : Txt K mg)  {cdv : Value} {A : Around} {outer : List Env} {s : Shared} {H : Hp} {E : XK}
    (hr : Room 1 (A.deeper (envOfC "_law_place" (defScope s__law_place) s.heap.objs.size T.f__law_place cdv))) :
    Σ' t : TS, PSs (cxOf CX0 P w K mg base ["_law_some", "_law_at", "_law_one"] "_law_place" (defScope s__law_place) T.f__law_place cdv A outer s H E).nox (defBody s__law_place) t :=
  ⟨_, (pss_one (ps_ret (pe_callB (cr_sumK (K := K) rfl) (by rfl) T.z_sum (by decide +kernel) (pa_cons (pe_lc (g := gTup K 2 (gCons (gName 1) (gCons (gName 2) (gNil)))) (own := [("_law_at", 1), ("_law_one", 2)]) rfl sc__law_place.nd (pi_enum (by rfl) T.z_enumerate (pa_cons (pv 0) pa_nil)) (blkOk_by (own := [("_law_at", 1), ("_law_one", 2)]) (N := ["_law_some", "_law_at", "_law_one"]) (sc := defScope s__law_place) (by decide +kernel)) (fun _ _ _ _ _ => by exact (pg_tupK (K := K) rfl (pgs_cons (pg_name (i := 1) sc__law_place.nd rfl (.inl rfl)) (pgs_cons (pg_name (i := 2) sc__law_place.nd rfl (.inl rfl)) pgs_nil)))) (fun _ _ _ _ _ => by exact pts_nil) (fun _ _ _ _ _ => by exact (pe_call (ok__law_picks T) (hr.mono (by omega)) (by rfl) T.g__law_picks T.F__law_picks.kp T.b__law_picks .nil pass0 (pa_cons (pv 2) (pa_cons (pe_op op_nSub (pe_callB (call_lenK (K := K)) (by rfl) T.z_len PySem.boot_len (pa_cons (pv 0) pa_nil)) (pv 1)) pa_nil))))) pa_nil))))⟩
theorem ok__law_place (T : Txt K mg) : FnOk P w K mg base CX0 2 T.f__law_place T.d__law_place ["_law_some"] spPlace := by
  refine T.F__law_place.ok sc__law_place (fun vs H Q E h => ?_) (fun cdv A outer s H vs Q E hr h => ⟨_, (dv__law_place T hr).2, ?_⟩)
  · obtain ⟨a, l, b, rfl, _⟩ := h
    rfl
  · obtain ⟨a, l, b, rfl, ha, h30, hl, hb, q⟩ := h
    refine ⟨_, rfl, a, natsV l, rfl, .of ha, fun D nD => ?_⟩
    refine lc2_enum (xs := natsV l) (fun i acc H' => Same H H' ∧ acc = natsV ((terms l).take i)) ⟨same_new nD, rfl⟩ (fun i acc H' p => .of (p.1 _ _ ha))
      (fun i acc H' T o nT p => ⟨same_fresh H _ _ _ nT p.1, p.2⟩) (fun _ _ => rfl) ?_ ?_
    · rintro i x acc H' hx hlen hD ⟨sm, he⟩
      obtain ⟨n, hn, rfl⟩ := get_natsV hx
      have hi := (List.getElem?_eq_some_iff.mp hn).1
      refine ⟨_, rfl, _, rfl, a, natsV l, rfl, .inl (.of (sm _ _ ha)), ?_⟩
      rw [natsV_length]
      refine ⟨_, rfl, l.length, i, rfl, rfl, by omega, n, l.length - i, b, rfl, hl n (List.mem_of_getElem? hn), hb, by omega, LcN.put hD hlen (small1000 (by omega)) ⟨same_free sm nD, ?_⟩⟩
      rw [he, natsV_app, List.take_add_one, terms_get hn]
      rfl
    · rintro acc H' hlen hD ⟨sm, he⟩
      rw [natsV_length, ← terms_length l, List.take_length] at he
      refine ⟨D, (terms l).map fun n : Nat => (n : Int), rfl, .of (by rw [hD, he, natsV_ints]), ?_⟩
      rw [sum_nats, terms_sum]
      exact q H' sm
end
end Sh

/-! Lists of numbers, and lists of such, as data. -/
namespace Sh
open PySem PySem.Spec PyProof.Rows L2
def dataN (l : List Nat) : PyData := .list ((l.map fun n : Nat => (n : Int)).map PyData.int)
def dataNN (ls : List (List Nat)) : PyData := .list (ls.map dataN)
theorem cast_inj : ∀ {l m : List Nat}, (l.map fun n : Nat => (n : Int)) = (m.map fun n : Nat => (n : Int)) → l = m
  | [], [], _ => rfl
  | [], _ :: _, h => by simp at h
  | _ :: _, [], h => by simp at h
  | a :: l, b :: m, h => by
    rw [List.map_cons, List.map_cons, List.cons.injEq] at h
    rw [cast_inj h.2, Int.ofNat.inj h.1]
theorem eqvAll_ints : ∀ ns ms : List Int, PyData.eqvAll (ns.map PyData.int) (ms.map PyData.int) = decide (ns = ms)
  | [], [] => by simp [PyData.eqvAll]
  | [], _ :: _ => by simp [PyData.eqvAll]
  | _ :: _, [] => by simp [PyData.eqvAll]
  | n :: r, k :: q => by
    rw [List.map_cons, List.map_cons, PyData.eqvAll, eqvAll_ints r q]
    by_cases h : n = k <;> simp [h, PyData.eqv]
theorem eqv_N (l m : List Nat) : PyData.eqv (dataN l) (dataN m) = decide (l = m) := by
  unfold dataN
  rw [PyData.eqv, eqvAll_ints]
  exact decide_eq_decide.mpr ⟨cast_inj, fun h => by rw [h]⟩
theorem shaped_N (l : List Nat) : SeqAt.shaped (dataN l) = true := PySem.W.shaped_ints _
theorem canLay_N (l : List Nat) : (dataN l).canLay0 = true := SeqAt.canLay_of_shaped (shaped_N l)
theorem canLay_all : ∀ ls : List (List Nat), PyData.canLayAll0 (ls.map dataN) = true
  | [] => by simp [PyData.canLayAll0]
  | l :: ls => by rw [List.map_cons, PyData.canLayAll0, canLay_N, canLay_all ls]; rfl
theorem depth_N (l : List Nat) : (dataN l).depth = 1 := by
  unfold dataN
  rw [PyData.depth, PySem.W.depth_ints]
theorem depth_all : ∀ ls : List (List Nat), PyData.depthAll (ls.map dataN) ≤ 1
  | [] => by simp [PyData.depthAll]
  | l :: ls => by
    rw [List.map_cons, PyData.depthAll, depth_N]
    have := depth_all ls
    omega
theorem shaped_NN (ls : List (List Nat)) : SeqAt.shaped (dataNN ls) = true := by
  have h1 : (dataNN ls).canLay0 = true := by
    unfold dataNN
    rw [PyData.canLay0]
    exact canLay_all ls
  have h2 : (dataNN ls).depth ≤ 64 := by
    unfold dataNN
    rw [PyData.depth]
    have := depth_all ls
    omega
  unfold SeqAt.shaped
  rw [h1, decide_eq_true h2]
  rfl
theorem eqv_NN (ls : List (List Nat)) : PyData.eqv (dataNN ls) (dataNN ls) = true := SeqAt.eqv_refl _ (SeqAt.canLay_of_shaped (shaped_NN ls))
section
variable {K : PySem.W.Frag} {H : Hp}
theorem dp_N {a : Addr} {l : List Nat} (h : SqL K H a (natsV l)) : Dp K H (.ref a) (dataN l) := dp_list (by rw [← natsV_ints]; exact h)
theorem dp_all : ∀ {ps : List Addr} {ls : List (List Nat)}, ps.length = ls.length → (∀ (i : Nat) (p : Addr) (l : List Nat), ps[i]? = some p → ls[i]? = some l → SqL K H p (natsV l)) → DpAll K H (ps.map V.ref) (ls.map dataN)
  | [], [], _, _ => .nil
  | [], _ :: _, h, _ => by simp at h
  | _ :: _, [], h, _ => by simp at h
  | p :: ps, l :: ls, h, f => .cons (dp_N (f 0 p l rfl rfl)) (dp_all (by simpa using h) fun i q m h1 h2 => f (i + 1) q m h1 h2)
theorem dp_NN {a : Addr} {ps : List Addr} {ls : List (List Nat)} (h : SqL K H a (ps.map V.ref)) (hl : ps.length = ls.length) (f : ∀ (i : Nat) (p : Addr) (l : List Nat), ps[i]? = some p → ls[i]? = some l → SqL K H p (natsV l)) :
    Dp K H (.ref a) (dataNN ls) := .lst h (dp_all hl f)
theorem eqN {x y : V} {Q : VK} {a b : Addr} {l m : List Nat} (hx : x = .ref a) (hy : y = .ref b) (ha : SqL K H a (natsV l)) (hb : SqL K H b (natsV m)) (q : Q (.bl (decide (l = m))) H) : rEqD K x y H Q := by
  subst hx hy
  exact ⟨dataN l, dataN m, dp_N ha, dp_N hb, shaped_N l, shaped_N m, by rw [eqv_N]; exact q⟩
theorem neN {x y : V} {Q : VK} {a b : Addr} {l m : List Nat} (hx : x = .ref a) (hy : y = .ref b) (ha : SqL K H a (natsV l)) (hb : SqL K H b (natsV m)) (q : Q (.bl (!decide (l = m))) H) : rNeD K x y H Q := by
  subst hx hy
  exact ⟨dataN l, dataN m, dp_N ha, dp_N hb, shaped_N l, shaped_N m, by rw [eqv_N]; exact q⟩
end
theorem strict_one : ∀ {xs ys : List Int}, xs.Pairwise (· < ·) → ys.Pairwise (· < ·) → (∀ k, k ∈ xs ↔ k ∈ ys) → xs = ys
  | [], [], _, _, _ => rfl
  | [], y :: ys, _, _, h => absurd ((h y).mpr List.mem_cons_self) (by simp)
  | x :: xs, [], _, _, h => absurd ((h x).mp List.mem_cons_self) (by simp)
  | x :: xs, y :: ys, hx, hy, h => by
    have h1 := List.pairwise_cons.mp hx
    have h2 := List.pairwise_cons.mp hy
    have e : x = y := by
      have a := (h x).mp List.mem_cons_self
      have b := (h y).mpr List.mem_cons_self
      rcases List.mem_cons.mp a with a | a
      · exact a
      · rcases List.mem_cons.mp b with b | b
        · exact b.symm
        · have p := h1.1 y b
          have q := h2.1 x a
          omega
    subst e
    refine congrArg (x :: ·) (strict_one h1.2 h2.2 fun k => ⟨fun m => ?_, fun m => ?_⟩)
    · rcases List.mem_cons.mp ((h k).mp (List.mem_cons_of_mem _ m)) with z | z
      · have := h1.1 k m
        omega
      · exact z
    · rcases List.mem_cons.mp ((h k).mpr (List.mem_cons_of_mem _ m)) with z | z
      · have := h2.1 k m
        omega
      · exact z
/-- the members of a falling list in order, turned round, are the list -/
theorem sorted_back {l : List Nat} {ns : List Int} (hd : Down l) (hp : ns.Pairwise (· < ·)) (hm : ∀ k : Int, k ∈ ns ↔ decide (k ∈ l.map fun n : Nat => (n : Int)) = true) : (ns.map V.int).reverse = natsV l := by
  have e : ns = (l.map fun n : Nat => (n : Int)).reverse := by
    refine strict_one hp ?_ fun k => ?_
    · rw [List.pairwise_reverse, List.pairwise_map]
      exact hd.imp fun h => by omega
    · rw [hm k, decide_eq_true_eq, List.mem_reverse]
  rw [e, ← List.map_reverse, List.reverse_reverse, natsV_ints]
end Sh

/-! The law of sets by numbers: states, sets told, numbers told. -/
namespace Sh
open PySem PySem.Spec PyProof.Rows L2
theorem zero_bits : Builtin.Int.intBits 0 ≤ 1048576 := by decide +kernel
theorem cell_bits {ns : List Int} (hb : Bounded ns) {z : Int} (h : z = 0 ∨ z ∈ ns) : Builtin.Int.intBits z ≤ 1048576 := by
  rcases h with rfl | h
  · exact zero_bits
  · exact hb z h
theorem menu {ms : List Nat} {z : Nat} (h : z < ms.length) : (natsV ms)[z]? = some (.int ((ms[z] : Nat) : Int)) := natsV_get (List.getElem?_eq_getElem h)
theorem mod_bits {c p : Int} {b : Nat} (hp : 0 < p) (hb : p.natAbs < 2 ^ b) : Builtin.Int.intBits (c % p) ≤ b := by
  have h1 := Int.emod_nonneg c (show p ≠ 0 by omega)
  have h2 := Int.emod_lt_of_pos c hp
  refine intBits_le (Nat.lt_of_le_of_lt ?_ hb)
  omega
theorem if_either {p : Prop} [Decidable p] {σ : L2.St} {H : Hp} {Q : VK} {x y : V} (h : ∀ v, (v = x ∨ v = y) → Q v H) : if decide p = true then tC x σ H Q else tC y σ H Q :=
  dec2 (fun _ => h x (.inl rfl)) (fun _ => h y (.inr rfl))
def cutL {α : Type} (xs : List α) (lo hi : Option Int) : List α := (xs.drop (HT.sIx xs.length 0 lo)).take (HT.sIx xs.length xs.length hi - HT.sIx xs.length 0 lo)
theorem cutV_map {α : Type} (f : α → V) (xs : List α) (lo hi : Option Int) : cutV (xs.map f) lo hi = (cutL xs lo hi).map f := by
  unfold cutV cutL
  rw [List.length_map, List.map_take, List.map_drop]
theorem mem_cutL {α : Type} {xs : List α} {lo hi : Option Int} {x : α} (h : x ∈ cutL xs lo hi) : x ∈ xs := List.mem_of_mem_drop (List.mem_of_mem_take h)
theorem cutL_length {α : Type} (xs : List α) (lo hi : Option Int) : (cutL xs lo hi).length ≤ xs.length := by
  unfold cutL
  rw [List.length_take, List.length_drop]
  omega
theorem get_map {α : Type} {f : α → V} {xs : List α} {i : Nat} {x : V} (h : (xs.map f)[i]? = some x) : ∃ z, xs[i]? = some z ∧ x = f z := by
  rw [List.getElem?_map] at h
  obtain ⟨z, h1, h2⟩ := Option.map_eq_some_iff.mp h
  exact ⟨z, h1, h2.symm⟩
section
variable {P : Program} {w : World} {K : PySem.W.Frag} {mg : Str → Option Value} {base : Heap}
/-- new pairs: a size from 1 to 20, a number below 10 ** 40 -/
def Pairs (K : PySem.W.Frag) (H' : Hp) (ts : List Addr) : Prop := ∀ t ∈ ts, ∃ k n : Nat, SqT K H' t [.int (k : Int), .int (n : Int)] ∧ 1 ≤ k ∧ k ≤ 20 ∧ n < many
def spStates (K : PySem.W.Frag) : Sp := fun vs H Q _ => ∃ (a : Addr) (ns : List Int), vs = [.ref a] ∧ SqL K H a (ns.map V.int) ∧ ns.length ≤ 63 ∧ Bounded ns ∧
  ∀ H' p ts, Same H H' → H p = none → H' p = some (.lst (ts.map V.ref)) → Pairs K H' ts → Q (.ref p) H'
noncomputable def dv__law_states {P : Program} {w : World} {K : PySem.W.Frag} {mg : Str → Option Value} {base : Heap} (T : Txt K mg)  {cdv : Value} {A : Around} {outer : List Env} {s : Shared} {H : Hp} {E : XK}
    (hr : Room 2 (A.deeper (envOfC "_law_states" (defScope s__law_states) s.heap.objs.size T.f__law_states cdv))) :
    Σ' t : TS, PSs (cxOf CX0 P w K mg base ["_law_script", "_law_limit", "_law_top", "_law_found", "_law_k", "_law_cell"] "_law_states" (defScope s__law_states) T.f__law_states cdv A outer s H E).nox (defBody s__law_states) t :=
  ⟨_, (pss_cons (ps_set (i := 1) sc__law_states.nd rfl (.inl rfl) (pe_ix (ix_tupK (K := K)) (pe_tup (pa_cons pe_int (pa_cons pe_int (pa_cons pe_int (pa_cons pe_int pa_nil))))) (pe_call (ok__law_draw T) (hr.mono (by omega)) (by rfl) T.g__law_draw T.F__law_draw.kp T.b__law_draw .nil pass0 (pa_cons (pe_call (ok__law_cell_at T) (hr.mono (by omega)) (by rfl) T.g__law_cell_at T.F__law_cell_at.kp T.b__law_cell_at .nil pass0 (pa_cons (pv 0) (pa_cons pe_int pa_nil))) (pa_cons pe_int (pa_cons pe_int pa_nil)))) (fun _ _ => rfl)))
      (pss_cons (ps_set (i := 2) sc__law_states.nd rfl (.inl rfl) (pe_ix (ix_tupK (K := K)) (pe_tup (pa_cons pe_int (pa_cons pe_int (pa_cons pe_int (pa_cons pe_int pa_nil))))) (pe_call (ok__law_draw T) (hr.mono (by omega)) (by rfl) T.g__law_draw T.F__law_draw.kp T.b__law_draw .nil pass0 (pa_cons (pe_call (ok__law_cell_at T) (hr.mono (by omega)) (by rfl) T.g__law_cell_at T.F__law_cell_at.kp T.b__law_cell_at .nil pass0 (pa_cons (pv 0) (pa_cons pe_int pa_nil))) (pa_cons pe_int (pa_cons pe_int pa_nil)))) (fun _ _ => rfl)))
      (pss_cons (ps_set (i := 3) sc__law_states.nd rfl (.inl rfl) (pe_lst pa_nil))
      (pss_cons (ps_for PassesOwn.never rfl (pi_enum (by rfl) T.z_enumerate (pa_cons (pe_slice (sl_listK (K := K)) (pv 0) po_none (po_some (pe_ifExp (pt_cmpR op_nLt (pv 2) pe_int (nomark _)) pe_int pe_int))) pa_nil)) (pg_tupK (K := K) rfl (pgs_cons (pg_name (i := 4) sc__law_states.nd rfl (.inl rfl)) (pgs_cons (pg_name (i := 5) sc__law_states.nd rfl (.inl rfl)) pgs_nil))) (pss_one (ps_expr (pe_bm PySem.F.plainAttrs_list PySem.F.slot_list_append PySem.F.type_list_append mt_append (pv 3) (pa_cons (pe_tup (pa_cons (pe_op op_nAdd pe_int (pe_call (ok__law_draw T) (hr.mono (by omega)) (by rfl) T.g__law_draw T.F__law_draw.kp T.b__law_draw .nil pass0 (pa_cons (pe_op op_iAdd (pe_op op_iMod (pv 5) (pe_op op_iPow pe_int pe_int)) (pe_op op_nMul pe_int (pv 4))) (pa_cons pe_int (pa_cons (pv 2) pa_nil))))) (pa_cons (pe_call (ok__law_value T) (hr.mono (by omega)) (by rfl) T.g__law_value T.F__law_value.kp T.b__law_value .nil pass0 (pa_cons (pv 5) (pa_cons (pv 4) (pa_cons (pv 1) pa_nil)))) pa_nil))) pa_nil)))))
      (pss_one (ps_ret (pv 3)))))))⟩
theorem pairs_same {H H' : Hp} {ts : List Addr} (sm : Same H H') (h : Pairs K H ts) : Pairs K H' ts := fun t ht =>
  let ⟨k, n, h1, h2⟩ := h t ht
  ⟨k, n, same_tup sm h1, h2⟩
theorem ok__law_states (T : Txt K mg) : FnOk P w K mg base CX0 3 T.f__law_states T.d__law_states ["_law_script"] (spStates K) := by
  refine T.F__law_states.ok sc__law_states (fun vs H Q E h => ?_) (fun cdv A outer s H vs Q E hr h => ⟨_, (dv__law_states T hr).2, ?_⟩)
  · obtain ⟨a, ns, rfl, _⟩ := h
    rfl
  · obtain ⟨a, ns, rfl, hS, h63, hb, q⟩ := h
    refine ⟨(by show 4 ≤ sizeLine; decide), fun t1 n1 => ?_⟩
    have s1 : Same H (upd H t1 (.tup (natsV [4, 30, 5000, 900000]))) := same_new n1
    refine ⟨_, rfl, a, ns, 0, rfl, s1.seq hS, fun c1 hc1 => ?_⟩
    refine ⟨c1, 7, 4, rfl, Nat.le_trans (cell_bits hb hc1) (by decide), by decide, by decide, fun z1 H1 hz1 sm1 => ?_⟩
    refine ⟨t1, natsV [4, 30, 5000, 900000], (z1 : Int), _, rfl, rfl, same_tup sm1 (.of upd_same), atI_nat (menu hz1), ?_⟩
    have hlim : ∀ m ∈ [4, 30, 5000, 900000], 0 < m ∧ m ≤ many := by decide
    have hl := hlim _ (List.getElem_mem (l := [4, 30, 5000, 900000]) hz1)
    generalize ([4, 30, 5000, 900000] : List Nat)[z1] = lim at hl ⊢
    have s2 : Same H H1 := s1.trans sm1
    refine ⟨(by show 4 ≤ sizeLine; decide), fun t2 n2 => ?_⟩
    have s3 : Same H (upd H1 t2 (.tup (natsV [3, 5, 8, 20]))) := s2.trans (same_new n2)
    refine ⟨_, rfl, a, ns, 1, rfl, s3.seq hS, fun c2 hc2 => ?_⟩
    refine ⟨c2, 6, 4, rfl, Nat.le_trans (cell_bits hb hc2) (by decide), by decide, by decide, fun z2 H2 hz2 sm2 => ?_⟩
    refine ⟨t2, natsV [3, 5, 8, 20], (z2 : Int), _, rfl, rfl, same_tup sm2 (.of upd_same), atI_nat (menu hz2), ?_⟩
    have htop : ∀ m ∈ [3, 5, 8, 20], 0 < m ∧ m ≤ 20 := by decide
    have ht := htop _ (List.getElem_mem (l := [3, 5, 8, 20]) hz2)
    generalize ([3, 5, 8, 20] : List Nat)[z2] = top' at ht ⊢
    have s4 : Same H H2 := s3.trans sm2
    refine ⟨Nat.zero_le _, fun p np => ?_⟩
    have npH : H p = none := s4.free np
    -- the slice
    have s5 : Same H (upd H2 p (.lst [])) := s4.trans (same_new np)
    refine ⟨_, rfl, _, rfl, top', 8, rfl, rfl, _, rfl, if_either fun v hv => ?_⟩
    obtain ⟨m, rfl⟩ : ∃ m : Int, v = .int m := by
      rcases hv with rfl | rfl
      · exact ⟨_, rfl⟩
      · exact ⟨_, rfl⟩
    refine ⟨m, rfl, a, ns.map V.int, rfl, s5.seq hS, fun c nc => ?_⟩
    rw [cutV_map]
    have hcl := cutL_length ns none (some m)
    have hcm : ∀ z ∈ cutL ns none (some m), z ∈ ns := fun z h => mem_cutL h
    generalize cutL ns none (some m) = ms at hcl hcm ⊢
    have ncp : c ≠ p := fun e => by rw [e, upd_same] at nc; cases nc
    refine ⟨c, ms.map V.int, rfl, .of upd_same, ?_⟩
    refine for2_enum (xs := ms.map V.int) (fun i σ H' => (Same H H' ∧ H' c = some (.lst (ms.map V.int))) ∧ ∃ ts y z, σ = [some (.ref a), some (.int (lim : Int)), some (.int (top' : Int)), some (.ref p), y, z] ∧ H' p = some (.lst (ts.map V.ref)) ∧ ts.length = i ∧ Pairs K H' ts)
      ⟨⟨s5.trans (same_new nc), upd_same⟩, [], none, none, rfl, by rw [upd_ne ncp.symm, upd_same]; rfl, rfl, fun t h => nomatch h⟩ (fun i σ H' h => .of h.1.2) ?_ ?_ ?_
    · rintro i σ H' X o nX ⟨⟨sm, hc⟩, ts, y, z, e, hp, hli, hps⟩
      exact ⟨⟨same_fresh H _ _ _ nX sm, by rw [upd_ne (ne_of_none hc nX)]; exact hc⟩, ts, y, z, e, by rw [upd_ne (ne_of_none hp nX)]; exact hp, hli, pairs_same (same_new nX) hps⟩
    · rintro i x σ H' hx ⟨⟨sm, hc⟩, ts, y, z, rfl, hp, hli, hps⟩
      obtain ⟨cell, hcell, rfl⟩ := get_map hx
      have hi := (List.getElem?_eq_some_iff.mp hcell).1
      have hcb := hb cell (hcm _ (List.mem_of_getElem? hcell))
      have cp : CPow 10 18 := ⟨by decide, by decide, by decide⟩
      have e18 : (10 : Int) ^ (18 : Int).toNat = 1000000000000000000 := by decide +kernel
      refine ⟨.ref p, rfl, .inl ⟨rfl, _, .of hp⟩, ?_⟩
      refine ⟨_, rfl, 10, 18, rfl, rfl, cp, cell, _, rfl, rfl, by rw [e18]; decide, _, rfl, 977, i, rfl, rfl, ⟨10, 10, by decide, by omega, by decide⟩, _, _, rfl, rfl, _, rfl, _, 4, top', rfl, ?_, by decide, ht.1, fun d H3 hd sm3 => ?_⟩
      · rw [e18]
        have b1 : Builtin.Int.intBits (cell % 1000000000000000000) ≤ 60 := mod_bits (by decide) (by decide)
        exact Nat.le_trans (add_bits b1 (Nat.lt_of_lt_of_le (show 977 * i < 2 ^ 20 by omega) (Nat.pow_le_pow_right (by decide) (by decide)))) (by decide)
      · refine ⟨1, d, rfl, rfl, _, rfl, _, rfl, _, rfl, cell, i, lim, rfl, hcb, by omega, hl.1, hl.2, fun v H4 hv sm4 => ?_⟩
        refine ⟨(by show 2 ≤ sizeLine; decide), fun t nt => ?_⟩
        have sp : Same H' (upd H4 t (.tup [.int ((1 + d : Nat) : Int), .int (v : Int)])) := (sm3.trans sm4).trans (same_new nt)
        refine ⟨p, _, _, rfl, rfl, sp _ _ hp, by rw [List.length_map, hli]; exact small1000 (by omega), ?_⟩
        have npo : ∀ b o, H b = some o → b ≠ p := fun b o e => ne_of_none e npH
        refine ⟨⟨fun b o e => ?_, ?_⟩, ts ++ [t], _, _, rfl, ?_, ?_, ?_⟩
        · rw [upd_ne (npo b o e)]
          exact sp _ _ (sm b o e)
        · rw [upd_ne ncp]
          exact sp _ _ hc
        · rw [upd_same, List.map_append]
          rfl
        · rw [List.length_append, hli]
          rfl
        · have keep : ∀ {b : Addr} {xs : List V}, SqT K (upd H4 t (.tup [.int ((1 + d : Nat) : Int), .int (v : Int)])) b xs → SqT K (upd (upd H4 t (.tup [.int ((1 + d : Nat) : Int), .int (v : Int)])) p (.lst (ts.map V.ref ++ [V.ref t]))) b xs := fun {b xs} h => by
            rcases h with (h | ⟨o, h⟩) | h
            · refine .inl (.inl ?_)
              rw [upd_ne (ne_of h (sp _ _ hp) (by intro z; cases z))]
              exact h
            · refine .inl (.inr ⟨o, ?_⟩)
              rw [upd_ne (ne_of h (sp _ _ hp) (by intro z; cases z))]
              exact h
            · exact .inr h
          intro b hbm
          rcases List.mem_append.mp hbm with hbm | hbm
          · obtain ⟨k, n, h1, h2, h3, h4⟩ := hps b hbm
            exact ⟨k, n, keep (same_tup sp h1), h2, h3, h4⟩
          · rw [List.mem_singleton.mp hbm]
            exact ⟨1 + d, v, keep (.of upd_same), by omega, by omega, hv⟩
    · rintro σ H' ⟨⟨sm, hc⟩, ts, y, z, rfl, hp, hli, hps⟩
      exact ⟨_, rfl, q H' p ts sm npH hp hps⟩
end
end Sh

/-! The law of sets by numbers: a set told, a number right. -/
namespace Sh
open PySem PySem.Spec PyProof.Rows L2
section
variable {P : Program} {w : World} {K : PySem.W.Frag} {mg : Str → Option Value} {base : Heap}
/-- all of a list of ints are whole numbers: a comprehension of _law_whole -/
theorem lc_whole {σ : L2.St} {H1 : Hp} {D a : Addr} {Qd : Hp → Prop} {l : List Nat} {k : Nat} {vs : List Nat} (hz : l.length ≤ 1000) (ha : SqL K H1 a (natsV l)) (hD : H1 D = none)
    (hw : ∀ x, wipe ((wipe σ vs).set k (some x)) vs = wipe σ vs) (hk : ∀ x, ((wipe σ vs).set k (some x))[k]? = some (some x))
    (hd : ∀ H', Same H1 H' → H' D = some (.lst (List.replicate l.length (V.bl true))) → Qd H') : LcW (Itl K a) (gName k) (tCall spWhole [] E0 (tCons (tVar k) tNil)) vs σ H1 D Qd := by
  refine lc1_list (xs := natsV l) (fun i acc H' => Same H1 H' ∧ acc = List.replicate i (V.bl true)) ⟨same_new hD, rfl⟩ (fun i acc H' p => p.1.seq ha) hw ?_ ?_
  · rintro i x acc H' hx hl hDD ⟨sm, he⟩
    obtain ⟨n, hn, rfl⟩ := get_natsV hx
    have hi := (List.getElem?_eq_some_iff.mp hn).1
    refine ⟨_, hk _, _, rfl, LcN.put hDD hl (small1000 (by omega)) ⟨same_free sm hD, ?_⟩⟩
    rw [he, ← List.replicate_succ']
  · rintro acc H' hl hDD ⟨sm, he⟩
    rw [natsV_length] at he
    rw [he] at hDD
    exact hd H' sm hDD
def spLawIsSet : Sp := fun vs H Q _ => ∃ (a : Addr) (l : List Nat), vs = [.ref a, .int ((l.length : Nat) : Int)] ∧ H a = some (.lst (natsV l)) ∧ Down l ∧ l.length ≤ 50 ∧ ∀ H', Same H H' → Q (.bl true) H'
noncomputable def dv__law_is_set {P : Program} {w : World} {K : PySem.W.Frag} {mg : Str → Option Value} {base : Heap} (T : Txt K mg)  {cdv : Value} {A : Around} {outer : List Env} {s : Shared} {H : Hp} {E : XK}
    (hr : Room 1 (A.deeper (envOfC "_law_is_set" (defScope s__law_is_set) s.heap.objs.size T.f__law_is_set cdv))) :
    Σ' t : TS, PSs (cxOf CX0 P w K mg base ["_law_found", "_law_size", "_law_one"] "_law_is_set" (defScope s__law_is_set) T.f__law_is_set cdv A outer s H E).nox (defBody s__law_is_set) t :=
  ⟨_, (pss_cons (ps_if (PW.pt (pw_or (pt_not (pt_val (pe_callB (call_isiK (K := K)) (by rfl) T.z_isinstance (by decide +kernel) (pa_cons (pv 0) (pa_cons (pe_bltn (v := .ty "list") (by rfl) T.z_list (by decide +kernel) rfl) pa_nil))))) (pw_or (pt_cmpR op_nNe (pe_callB (call_lenK (K := K)) (by rfl) T.z_len PySem.boot_len (pa_cons (pv 0) pa_nil)) (pv 1) (nomark _)) (pw_or1 (pt_not (pt_val (pe_callB (cr_allK (K := K) rfl) (by rfl) T.z_all (by decide +kernel) (pa_cons (pe_lc (g := gName 2) (own := [("_law_one", 2)]) rfl sc__law_is_set.nd (pi_list (pv 0)) (blkOk_by (own := [("_law_one", 2)]) (N := ["_law_found", "_law_size", "_law_one"]) (sc := defScope s__law_is_set) (by decide +kernel)) (fun _ _ _ _ _ => by exact (pg_name (i := 2) sc__law_is_set.nd rfl (.inl rfl))) (fun _ _ _ _ _ => by exact pts_nil) (fun _ _ _ _ _ => by exact (pe_call (ok__law_whole T) (hr.mono (by omega)) (by rfl) T.g__law_whole T.F__law_whole.kp T.b__law_whole .nil pass0 (pa_cons (pv 2) pa_nil)))) pa_nil)))))))) (pss_one (ps_ret pe_bl)) pss_nil)
      (pss_one (ps_ret (pe_and (pe_cmpR (op_eqDK (K := K) hr.units) (pv 0) (pe_revLK (K := K) (pe_callB (cr_sortedSet rfl) (by rfl) T.z_sorted (by decide +kernel) (pa_cons (pe_callTy (cr_setL rfl) (by rfl) T.z_set (by decide +kernel) (pa_cons (pv 0) pa_nil)) pa_nil))) (nomark _)) (pe_one (pe_or (pe_cmpR (op_eqDK (K := K) hr.units) (pv 0) (pe_lst pa_nil) (nomark _)) (pe_one (pe_cmpR op_iGe (pe_ix (ix_listK (K := K)) (pv 0) (pe_un un_neg pe_int) (fun _ _ => rfl)) pe_int (nomark _)))))))))⟩
theorem ok__law_is_set (T : Txt K mg) : FnOk P w K mg base CX0 2 T.f__law_is_set T.d__law_is_set ["_law_found", "_law_size"] spLawIsSet := by
  refine T.F__law_is_set.ok sc__law_is_set (fun vs H Q E h => ?_) (fun cdv A outer s H vs Q E hr h => ⟨_, (dv__law_is_set T hr).2, ?_⟩)
  · obtain ⟨a, l, rfl, _⟩ := h
    rfl
  · obtain ⟨a, l, rfl, ha, hd, h50, q⟩ := h
    have hS : SqL K H a (natsV l) := .of ha
    refine ⟨_, rfl, _, _, _, _, true, rfl, .ty _, .base (.lst ha), kit_ty (by decide +kernel), true, rfl, iteF ?_⟩
    refine ⟨_, rfl, a, natsV l, rfl, .inl hS, ?_⟩
    rw [natsV_length]
    refine ⟨_, rfl, l.length, l.length, rfl, rfl, _, rfl, decNT rfl ?_⟩
    refine ⟨_, rfl, a, rfl, ⟨_, hS⟩, fun D nD => ?_⟩
    refine lc_whole (by omega) hS nD (fun _ => rfl) (fun _ => rfl) fun H1 s1 hDD => ?_
    refine ⟨D, List.replicate l.length true, rfl, .of (by rw [hDD, List.map_replicate]), ?_⟩
    have e1 : (List.replicate l.length true).all id = true := by
      rw [List.all_eq_true]
      intro x hx
      rw [List.eq_of_mem_replicate hx]
      rfl
    rw [e1]
    refine ⟨true, rfl, iteF ?_⟩
    have ha1 := s1 _ _ ha
    refine ⟨_, rfl, _, rfl, a, l.map fun n : Nat => (n : Int), rfl, .of (by rw [← natsV_ints]; exact ha1), by rw [List.length_map]; omega, fun p c np hc => ?_⟩
    refine ⟨p, _, c, rfl, upd_same, by rw [List.length_map] at hc; omega, fun ns r hp hm hlen nr => ?_⟩
    refine ⟨r, ns.map V.int, rfl, .of upd_same, fun t nt => ?_⟩
    rw [sorted_back hd hp hm]
    have s2 : Same H1 (upd H1 p (SetO w p (fun j => decide (j ∈ l.map fun n : Nat => (n : Int))) c)) := same_new np
    have s3 := s2.trans (same_new (o := .lst (ns.map V.int)) nr)
    have s4 := s3.trans (same_new (o := .lst (natsV l)) nt)
    refine eqN rfl rfl (.of (s4 _ _ ha1)) (.of upd_same) ⟨_, rfl, decT rfl ?_⟩
    refine ⟨_, rfl, Nat.zero_le _, fun e ne => ?_⟩
    have s5 := s4.trans (same_new (o := .lst []) ne)
    refine eqN (m := []) rfl rfl (.of (s5 _ _ ha1)) (.of upd_same) ⟨_, rfl, dec2 (fun c => ?_) (fun c => ?_)⟩
    · exact q _ (s1.trans s5)
    · obtain ⟨l', z, rfl⟩ : ∃ l' z, l = l' ++ [z] := ⟨l.dropLast, l.getLast c, (List.dropLast_concat_getLast c).symm⟩
      have g : atI (natsV (l' ++ [z])) (-1) = some (.int (z : Int)) := by
        rw [← natsV_app]
        exact atI_last _ _
      refine ⟨_, rfl, 1, rfl, a, _, -1, _, rfl, rfl, .of (s5 _ _ ha1), g, z, 0, rfl, rfl, ?_⟩
      rw [decide_eq_true (by omega)]
      exact q _ (s1.trans s5)
end
end Sh

/-! The law of sets by numbers: a number right. -/
namespace Sh
open PySem PySem.Spec PyProof.Rows L2
theorem many_lt : many < 2 ^ 133 := by decide +kernel
theorem lt_cast : ∀ {l m : List Nat}, l < m → (l.map fun n : Nat => (n : Int)) < (m.map fun n : Nat => (n : Int)) := by
  intro l m h
  induction h with
  | nil => exact List.Lex.nil
  | rel h => exact List.Lex.rel (Int.ofNat_lt.mpr h)
  | cons h ih => exact List.Lex.cons ih
theorem cas_good {k n : Nat} (hk : k ≤ 20) (hn : n < 2 ^ 133) : Good (cas k n) 134 where
  down := (cas_down k n).1
  few := by rw [cas_length]; exact hk
  small := fun x hx => by
    have := cas_bound hx
    rw [Nat.pow_succ]
    have : 2 ^ 7 ≤ 2 ^ 133 := Nat.pow_le_pow_right (by decide) (by decide)
    omega
  bits := by decide
section
variable {P : Program} {w : World} {K : PySem.W.Frag} {mg : Str → Option Value} {base : Heap}
def spNumberRight : Sp := fun vs H Q _ => ∃ k n : Nat, vs = [.int (k : Int), .int (n : Int)] ∧ 1 ≤ k ∧ k ≤ 20 ∧ n < many ∧ ∀ H', Same H H' → Q (.bl true) H'
noncomputable def dv__law_number_right {P : Program} {w : World} {K : PySem.W.Frag} {mg : Str → Option Value} {base : Heap} (T : Txt K mg)  {cdv : Value} {A : Around} {outer : List Env} {s : Shared} {H : Hp} {E : XK}
    (hr : Room 33 (A.deeper (envOfC "_law_number_right" (defScope s__law_number_right) s.heap.objs.size T.f__law_number_right cdv))) :
    Σ' t : TS, PSs (cxOf CX0 P w K mg base ["_law_size", "_law_number", "_law_found", "_law_again"] "_law_number_right" (defScope s__law_number_right) T.f__law_number_right cdv A outer s H E).nox (defBody s__law_number_right) t :=
  ⟨_, (pss_cons (ps_set (i := 2) sc__law_number_right.nd rfl (.inl rfl) (pe_call (ok_set_of T) (hr.mono (by omega)) (by rfl) T.g_set_of T.F_set_of.kp T.b_set_of .nil pass0 (pa_cons (pv 0) (pa_cons (pv 1) pa_nil))))
      (pss_cons (ps_if (PW.pt (pw_or (pt_not (pt_val (pe_call (ok__law_is_set T) (hr.mono (by omega)) (by rfl) T.g__law_is_set T.F__law_is_set.kp T.b__law_is_set .nil pass0 (pa_cons (pv 2) (pa_cons (pv 0) pa_nil))))) (pw_or1 (pt_cmpR op_nNe (pe_call (ok__law_place T) (hr.mono (by omega)) (by rfl) T.g__law_place T.F__law_place.kp T.b__law_place .nil pass0 (pa_cons (pv 2) pa_nil)) (pv 1) (nomark _))))) (pss_one (ps_ret pe_bl)) pss_nil)
      (pss_cons (ps_set (i := 3) sc__law_number_right.nd rfl (.inl rfl) (pe_call (ok_number_of T) (hr.mono (by omega)) (by rfl) T.g_number_of T.F_number_of.kp T.b_number_of .nil pass0 (pa_cons (pv 2) pa_nil)))
      (pss_cons (ps_if (PW.pt (pw_or (pt_not (pt_val (pe_call (ok__law_whole T) (hr.mono (by omega)) (by rfl) T.g__law_whole T.F__law_whole.kp T.b__law_whole .nil pass0 (pa_cons (pv 3) pa_nil)))) (pw_or (pt_cmpR op_nNe (pv 3) (pv 1) (nomark _)) (pw_or1 (pt_not (pt_cmpR (op_ltLK (K := K) hr.units) (pv 2) (pe_call (ok_set_of T) (hr.mono (by omega)) (by rfl) T.g_set_of T.F_set_of.kp T.b_set_of .nil pass0 (pa_cons (pv 0) (pa_cons (pe_op op_nAdd (pv 1) pe_int) pa_nil))) (nomark _))))))) (pss_one (ps_ret pe_bl)) pss_nil)
      (pss_cons (ps_asg (pe_op op_nAdd (pe_ix (ix_listK (K := K)) (pv 2) pe_int (fun _ _ => rfl)) pe_int) (pg_sub (pv 2) pe_int set_list))
      (pss_one (ps_ret (pe_cmpR op_nEq (pe_call (ok__law_place T) (hr.mono (by omega)) (by rfl) T.g__law_place T.F__law_place.kp T.b__law_place .nil pass0 (pa_cons (pe_call (ok_set_of T) (hr.mono (by omega)) (by rfl) T.g_set_of T.F_set_of.kp T.b_set_of .nil pass0 (pa_cons (pv 0) (pa_cons (pv 1) pa_nil))) pa_nil)) (pv 1) (nomark _)))))))))⟩
theorem ok__law_number_right (T : Txt K mg) : FnOk P w K mg base CX0 34 T.f__law_number_right T.d__law_number_right ["_law_size", "_law_number"] spNumberRight := by
  refine T.F__law_number_right.ok sc__law_number_right (fun vs H Q E h => ?_) (fun cdv A outer s H vs Q E hr h => ⟨_, (dv__law_number_right T hr).2, ?_⟩)
  · obtain ⟨k, n, rfl, _⟩ := h
    rfl
  · obtain ⟨k, n, rfl, h1, hk, hn, q⟩ := h
    have hml := many_lt
    have hn1 : n < 2 ^ 133 := by omega
    have hn2 : n + 1 < 2 ^ 133 := by omega
    have g := cas_good hk hn1
    have hnum : num (cas k n) = n := num_cas' (by omega)
    refine ⟨_, rfl, _, rfl, k, n, 133, rfl, hk, hn1, by decide, by omega, fun H1 p s1 np hp => ?_⟩
    refine ⟨_, rfl, _, rfl, p, cas k n, by rw [cas_length]; rfl, hp, g.down, by rw [cas_length]; omega, fun H2 s2 => ?_⟩
    refine ⟨true, rfl, iteF ?_⟩
    have hp2 := s2 _ _ hp
    refine ⟨_, rfl, p, cas k n, 134, rfl, hp2, by rw [cas_length]; omega, g.small, by decide, fun H3 s3 => ?_⟩
    rw [hnum]
    refine ⟨_, rfl, n, n, rfl, rfl, _, rfl, decNT rfl ?_⟩
    have hp3 := s3 _ _ hp2
    refine ⟨_, rfl, p, cas k n, 134, rfl, hp3, g, fun H4 s4 => ?_⟩
    rw [hnum]
    have hp4 := s4 _ _ hp3
    refine ⟨_, rfl, (n : Int), rfl, true, rfl, iteF ?_⟩
    refine ⟨_, rfl, _, rfl, n, n, rfl, rfl, _, rfl, decNT rfl ?_⟩
    refine ⟨_, rfl, _, rfl, _, rfl, n, 1, rfl, rfl, k, n + 1, 133, rfl, hk, hn2, by decide, by omega, fun H5 p5 s5 np5 hp5 => ?_⟩
    have hp5' := s5 _ _ hp4
    refine ⟨p, p5, (cas k n).map fun n : Nat => (n : Int), (cas k (n + 1)).map fun n : Nat => (n : Int), rfl, rfl, .of (by rw [← natsV_ints]; exact hp5'), .of (by rw [← natsV_ints]; exact hp5), _, rfl, ?_⟩
    have hlt : (cas k n).map (fun n : Nat => (n : Int)) < (cas k (n + 1)).map (fun n : Nat => (n : Int)) := by
      obtain ⟨j, rfl⟩ : ∃ j, k = j + 1 := ⟨k - 1, by omega⟩
      exact lt_cast (cas_lt (Nat.lt_succ_self n))
    refine decNT hlt ?_
    -- found[0] = found[0] + 1
    obtain ⟨x, l, hxl⟩ : ∃ x l, cas k n = x :: l := by
      obtain ⟨j, rfl⟩ : ∃ j, k = j + 1 := ⟨k - 1, by omega⟩
      exact ⟨_, _, rfl⟩
    rw [hxl] at hp5'
    refine ⟨_, rfl, p, natsV (x :: l), 0, .int (x : Int), rfl, rfl, .of hp5', atI_nat (j := 0) rfl, x, 1, rfl, rfl, ?_⟩
    refine ⟨_, rfl, p, _, 0, 0, rfl, rfl, hp5', (by unfold ixN; rw [if_pos (Int.le_refl 0), if_pos (by rw [natsV_length, List.length_cons]; omega)]; rfl), ?_⟩
    have npH : ∀ b o, H b = some o → b ≠ p := fun b o e => ne_of_none e np
    have s6 : Same H (upd H5 p (.lst ((natsV (x :: l)).set 0 (.int ((x + 1 : Nat) : Int))))) := fun b o e => by
      rw [upd_ne (npH b o e)]
      exact s5 _ _ (s4 _ _ (s3 _ _ (s2 _ _ (s1 _ _ e))))
    refine ⟨_, rfl, _, rfl, k, n, 133, rfl, hk, hn1, by decide, by omega, fun H7 p7 s7 np7 hp7 => ?_⟩
    refine ⟨p7, cas k n, 134, rfl, hp7, by rw [cas_length]; omega, g.small, by decide, fun H8 s8 => ?_⟩
    rw [hnum]
    refine ⟨_, rfl, n, n, rfl, rfl, ?_⟩
    rw [decide_eq_true rfl]
    exact q H8 (s6.trans (s7.trans s8))
end
end Sh

/-! The law of sets by numbers: a set right. -/
namespace Sh
open PySem PySem.Spec PyProof.Rows L2
/-- a list without each of its places -/
def lacks (l : List Nat) : List (List Nat) := (List.range l.length).map l.eraseIdx
theorem lacks_length (l : List Nat) : (lacks l).length = l.length := by
  unfold lacks
  rw [List.length_map, List.length_range]
theorem lacks_get {l m : List Nat} {i : Nat} (h : (lacks l)[i]? = some m) : m = l.eraseIdx i := by
  unfold lacks at h
  rw [List.getElem?_map] at h
  obtain ⟨j, h1, h2⟩ := Option.map_eq_some_iff.mp h
  have e := (List.getElem?_eq_some_iff.mp h1).2
  rw [List.getElem_range] at e
  rw [← h2, e]
theorem num_bits {l : List Nat} (hd : Down l) (h12 : l.length ≤ 12) (hl : ∀ x ∈ l, x < many) : num l < 2 ^ 1597 := by
  have h1 := num_lt hd hl
  have h2 : ch many l.length ≤ 2 ^ (133 * l.length) := ch_bits many_lt
  have h3 : (2 : Nat) ^ (133 * l.length) ≤ 2 ^ 1597 := Nat.pow_le_pow_right (by decide) (by omega)
  omega
section
variable {P : Program} {w : World} {K : PySem.W.Frag} {mg : Str → Option Value} {base : Heap}
theorem beneath_dp {H H' H'' : Hp} {p : Addr} {l : List Nat} {ps : List Addr} (hb : Beneath H H' l ps) (sm : Same H' H'') (hp : H'' p = some (.lst (ps.map V.ref))) : Dp K H'' (.ref p) (dataNN (lacks l)) := by
  refine dp_NN (.of hp) (by rw [hb.len, lacks_length]) fun i q m h1 h2 => ?_
  rw [lacks_get h2]
  exact .of (sm _ _ (hb.at_ i q h1).1)
def spSetRight : Sp := fun vs H Q _ => ∃ (a : Addr) (l : List Nat), vs = [.ref a] ∧ H a = some (.lst (natsV l)) ∧ Down l ∧ l.length ≤ 12 ∧ (∀ x ∈ l, x < many) ∧ ∀ H', Same H H' → Q (.bl true) H'
noncomputable def dv__law_set_right {P : Program} {w : World} {K : PySem.W.Frag} {mg : Str → Option Value} {base : Heap} (T : Txt K mg)  {cdv : Value} {A : Around} {outer : List Env} {s : Shared} {H : Hp} {E : XK}
    (hr : Room 33 (A.deeper (envOfC "_law_set_right" (defScope s__law_set_right) s.heap.objs.size T.f__law_set_right cdv))) :
    Σ' t : TS, PSs (cxOf CX0 P w K mg base ["_law_some", "_law_kept", "_law_number", "_law_again", "_law_found", "_law_one", "_law_at"] "_law_set_right" (defScope s__law_set_right) T.f__law_set_right cdv A outer s H E).nox (defBody s__law_set_right) t :=
  ⟨_, (pss_cons (ps_par (i := 1) (j := 2) (by rfl) sc__law_set_right.nd rfl rfl (by decide) rfl rfl (pa_cons (pe_callTy (call_listK (K := K)) (by rfl) T.z_list (by decide +kernel) (pa_cons (pv 0) pa_nil)) (pa_cons (pe_call (ok_number_of T) (hr.mono (by omega)) (by rfl) T.g_number_of T.F_number_of.kp T.b_number_of .nil pass0 (pa_cons (pv 0) pa_nil)) pa_nil)) (by rfl))
      (pss_cons (ps_if (PW.pt (pw_or (pt_not (pt_val (pe_call (ok__law_whole T) (hr.mono (by omega)) (by rfl) T.g__law_whole T.F__law_whole.kp T.b__law_whole .nil pass0 (pa_cons (pv 2) pa_nil)))) (pw_or (pt_cmpR op_nNe (pv 2) (pe_call (ok__law_place T) (hr.mono (by omega)) (by rfl) T.g__law_place T.F__law_place.kp T.b__law_place .nil pass0 (pa_cons (pv 0) pa_nil)) (nomark _)) (pw_or1 (pt_cmpR (op_neDK (K := K) hr.units) (pe_call (ok_set_of T) (hr.mono (by omega)) (by rfl) T.g_set_of T.F_set_of.kp T.b_set_of .nil pass0 (pa_cons (pe_callB (call_lenK (K := K)) (by rfl) T.z_len PySem.boot_len (pa_cons (pv 0) pa_nil)) (pa_cons (pv 2) pa_nil))) (pv 0) (nomark _)))))) (pss_one (ps_ret pe_bl)) pss_nil)
      (pss_cons (ps_for PassesOwn.never rfl (pi_range1 (by rfl) T.z_range (pa_cons pe_int pa_nil)) (pg_name (i := 3) sc__law_set_right.nd rfl (.inl rfl)) (pss_cons (ps_set (i := 4) sc__law_set_right.nd rfl (.inl rfl) (pe_call (ok_beneath T) (hr.mono (by omega)) (by rfl) T.g_beneath T.F_beneath.kp T.b_beneath .nil pass0 (pa_cons (pv 0) pa_nil)))
      (pss_cons (ps_if (PW.pt (pw_or (pt_not (pt_val (pe_callB (call_isiK (K := K)) (by rfl) T.z_isinstance (by decide +kernel) (pa_cons (pv 4) (pa_cons (pe_bltn (v := .ty "list") (by rfl) T.z_list (by decide +kernel) rfl) pa_nil))))) (pw_or1 (pt_cmpR (op_neDK (K := K) hr.units) (pv 4) (pe_lc (g := gName 6) (own := [("_law_at", 6)]) rfl sc__law_set_right.nd (pi_range1 (by rfl) T.z_range (pa_cons (pe_callB (call_lenK (K := K)) (by rfl) T.z_len PySem.boot_len (pa_cons (pv 0) pa_nil)) pa_nil)) (blkOk_by (own := [("_law_at", 6)]) (N := ["_law_some", "_law_kept", "_law_number", "_law_again", "_law_found", "_law_one", "_law_at"]) (sc := defScope s__law_set_right) (by decide +kernel)) (fun _ _ _ _ _ => by exact (pg_name (i := 6) sc__law_set_right.nd rfl (.inl rfl))) (fun _ _ _ _ _ => by exact pts_nil) (fun _ _ _ _ _ => by exact (pe_op op_cat (pe_slice (sl_listK (K := K)) (pv 0) po_none (po_some (pv 6))) (pe_slice (sl_listK (K := K)) (pv 0) (po_some (pe_op op_nAdd (pv 6) pe_int)) po_none)))) (nomark _))))) (pss_one (ps_ret pe_bl)) pss_nil)
      (pss_cons (ps_if (pt_not (pt_val (pe_callB (cr_allK (K := K) rfl) (by rfl) T.z_all (by decide +kernel) (pa_cons (pe_lc (g := gName 5) (own := [("_law_one", 5)]) rfl sc__law_set_right.nd (pi_list (pv 4)) (blkOk_by (own := [("_law_one", 5)]) (N := ["_law_some", "_law_kept", "_law_number", "_law_again", "_law_found", "_law_one", "_law_at"]) (sc := defScope s__law_set_right) (by decide +kernel)) (fun _ _ _ _ _ => by exact (pg_name (i := 5) sc__law_set_right.nd rfl (.inl rfl))) (fun _ _ _ _ _ => by exact pts_nil) (fun _ _ _ _ _ => by exact (pe_callB (call_isiK (K := K)) (by rfl) T.z_isinstance (by decide +kernel) (pa_cons (pv 5) (pa_cons (pe_bltn (v := .ty "list") (by rfl) T.z_list (by decide +kernel) rfl) pa_nil))))) pa_nil)))) (pss_one (ps_ret pe_bl)) pss_nil)
      (pss_cons (ps_for PassesOwn.never rfl (pi_list (pv 4)) (pg_name (i := 5) sc__law_set_right.nd rfl (.inl rfl)) (pss_one (ps_expr (pe_bm PySem.F.plainAttrs_list PySem.F.slot_list_append PySem.F.type_list_append mt_append (pv 5) (pa_cons pe_int pa_nil)))))
      (pss_one (ps_expr (pe_bm PySem.F.plainAttrs_list PySem.F.slot_list_append PySem.F.type_list_append mt_append (pv 4) (pa_cons (pe_lst pa_nil) pa_nil)))))))))
      (pss_one (ps_ret (pe_cmpR (op_eqDK (K := K) hr.units) (pv 0) (pv 1) (nomark _)))))))⟩
theorem ok__law_set_right (T : Txt K mg) : FnOk P w K mg base CX0 34 T.f__law_set_right T.d__law_set_right ["_law_some"] spSetRight := by
  refine T.F__law_set_right.ok sc__law_set_right (fun vs H Q E h => ?_) (fun cdv A outer s H vs Q E hr h => ⟨_, (dv__law_set_right T hr).2, ?_⟩)
  · obtain ⟨a, l, rfl, _⟩ := h
    rfl
  · obtain ⟨a, l, rfl, ha, hd, h12, hl, q⟩ := h
    have hml := many_lt
    have hnb := num_bits hd h12 hl
    have hl2 : ∀ x ∈ l, x < 2 ^ 133 := fun x hx => Nat.lt_trans (hl x hx) hml
    have g : Good l 133 := ⟨hd, by omega, hl2, by decide⟩
    have h0 : l.length = 0 → num l = 0 := fun e => by
      rw [List.length_eq_zero_iff.mp e]
      rfl
    refine ⟨_, rfl, a, natsV l, rfl, .inl (.of ha), fun kp nkp => ?_⟩
    have s0 : Same H (upd H kp (.lst (natsV l))) := same_new nkp
    refine ⟨_, rfl, a, l, 133, rfl, s0 _ _ ha, g, fun H1 s1 => ?_⟩
    have s01 := s0.trans s1
    have hkp1 := s1 kp _ upd_same
    have ha1 := s01 _ _ ha
    refine ⟨_, _, rfl, ?_⟩
    refine ⟨_, rfl, ((num l : Nat) : Int), rfl, true, rfl, iteF ?_⟩
    refine ⟨_, rfl, _, rfl, a, l, 133, rfl, ha1, by omega, hl2, by decide, fun H2 s2 => ?_⟩
    refine ⟨_, _, rfl, rfl, _, rfl, decNT rfl ?_⟩
    have ha2 := s2 _ _ ha1
    refine ⟨_, rfl, a, natsV l, rfl, .inl (.of ha2), ?_⟩
    rw [natsV_length]
    refine ⟨_, rfl, l.length, num l, 1597, rfl, by omega, hnb, by decide, h0, fun H3 p s3 np hp => ?_⟩
    rw [cas_num hd] at hp
    have ha3 := s3 _ _ ha2
    refine ⟨_, rfl, neN rfl rfl (.of hp) (.of ha3) ⟨_, rfl, decNT rfl ?_⟩⟩
    have s13 := s2.trans s3
    have hkp3 := s13 _ _ hkp1
    have s03 := s01.trans s13
    refine ⟨_, rfl, (by decide), (by decide), ?_⟩
    refine for_rangeN (n := 2) rfl (fun i σ H' => Same H H' ∧ H' kp = some (.lst (natsV l)) ∧ ∃ y z u v, σ = [some (.ref a), some (.ref kp), some (.int ((num l : Nat) : Int)), y, z, u, v]) ⟨s03, hkp3, none, none, none, none, rfl⟩ ?_ ?_
    · rintro i σ H' hi ⟨sm, hk, y, z, u, v, rfl⟩
      have haH := sm _ _ ha
      refine ⟨_, rfl, a, l, rfl, haH, hd, by omega, fun H4 f ps s4 nf hf hb hnf => ?_⟩
      refine ⟨_, rfl, _, _, _, _, true, rfl, .ty _, .base (.lst hf), kit_ty (by decide +kernel), true, rfl, iteF ?_⟩
      have ha4 := s4 _ _ haH
      refine ⟨_, rfl, _, rfl, a, natsV l, rfl, .inl (.of ha4), ?_⟩
      rw [natsV_length]
      refine ⟨(l.length : Int), rfl, by omega, by omega, fun D nD => ?_⟩
      refine lc_beneath rfl (by omega) ha4 nD (fun _ => rfl) (fun _ => rfl) (fun _ => rfl) fun H5 ps5 s5 hD hb5 hnD => ?_
      refine ⟨dataNN (lacks l), dataNN (lacks l), beneath_dp hb s5 (s5 _ _ hf), beneath_dp hb5 (Same.refl _) hD, shaped_NN _, shaped_NN _, ?_⟩
      rw [eqv_NN]
      refine ⟨false, rfl, iteF ?_⟩
      have hf5 := s5 _ _ hf
      refine ⟨_, rfl, f, rfl, ⟨_, .of hf5⟩, fun D2 nD2 => ?_⟩
      have hpl : ps.length = l.length := hb.len
      refine lc1_list (xs := ps.map V.ref) (fun i acc H' => Same H5 H' ∧ acc = List.replicate i (V.bl true)) ⟨same_new nD2, rfl⟩ (fun i acc H' p => .of (p.1 _ _ hf5)) (fun _ => rfl) ?_ ?_
      · rintro n x acc H6 hx hlen hDD ⟨s6, he⟩
        obtain ⟨b, hbn, rfl⟩ := get_map hx
        have hn := (List.getElem?_eq_some_iff.mp hbn).1
        have hbx := s6 _ _ (s5 _ _ (hb.at_ n b hbn).1)
        refine ⟨_, rfl, _, _, _, _, true, rfl, .ty _, .base (.lst hbx), kit_ty (by decide +kernel), LcN.put hDD hlen (small1000 (by omega)) ⟨same_free s6 nD2, ?_⟩⟩
        rw [he, ← List.replicate_succ']
      · rintro acc H6 hlen hDD ⟨s6, he⟩
        refine ⟨D2, List.replicate acc.length true, rfl, .of (by rw [hDD, he, List.map_replicate, List.length_replicate]), ?_⟩
        have e1 : (List.replicate acc.length true).all id = true := by
          rw [List.all_eq_true]
          intro x hx
          rw [List.eq_of_mem_replicate hx]
          rfl
        rw [e1]
        refine ⟨true, rfl, iteF ?_⟩
        have s46 := s5.trans s6
        have hf6 := s46 _ _ hf
        refine ⟨_, rfl, f, rfl, ⟨_, .of hf6⟩, ?_⟩
        refine for1_list (xs := ps.map V.ref) (fun i σ H7 => Same H' H7 ∧ H7 f = some (.lst (ps.map V.ref)) ∧ (∀ (k : Nat) (x : Addr), ps[k]? = some x → ∃ ys, H7 x = some (.lst ys) ∧ ys.length ≤ l.length + i) ∧
            ∃ y u v, σ = [some (.ref a), some (.ref kp), some (.int ((num l : Nat) : Int)), y, some (.ref f), u, v])
          ⟨s4.trans s46, hf6, fun k x hx => ⟨_, s46 _ _ (hb.at_ k x hx).1, ?_⟩, _, _, _, rfl⟩ (fun i σ H7 h => .of h.2.1) ?_ ?_
        · rw [natsV_length, List.length_eraseIdx]
          split <;> omega
        · rintro n x σ H7 hx ⟨s7, hf7, hps, y, u, v, rfl⟩
          obtain ⟨b, hbn, rfl⟩ := get_map hx
          have hn := (List.getElem?_eq_some_iff.mp hbn).1
          obtain ⟨ys, hys, hyl⟩ := hps n b hbn
          refine ⟨_, rfl, .inl ⟨rfl, _, .of hys⟩, b, _, _, rfl, rfl, hys, small1000 (by omega), ?_⟩
          have hbf : f ≠ b := fun e => hnf (e ▸ List.mem_of_getElem? hbn)
          refine ⟨same_free s7 (hb.at_ n b hbn).2, by rw [upd_ne hbf]; exact hf7, fun k x hx => ?_, _, _, _, rfl⟩
          by_cases e : x = b
          · subst e
            exact ⟨_, upd_same, by rw [List.length_append, List.length_singleton]; omega⟩
          · obtain ⟨zs, h1, h2⟩ := hps k x hx
            exact ⟨zs, by rw [upd_ne e]; exact h1, by omega⟩
        · rintro σ H7 ⟨s7, hf7, hps, y, u, v, rfl⟩
          refine ⟨_, rfl, .inl ⟨rfl, _, .of hf7⟩, Nat.zero_le _, fun e ne => ?_⟩
          refine ⟨f, _, _, rfl, rfl, same_new ne _ _ hf7, by rw [List.length_map]; exact small1000 (by omega), ?_⟩
          have s8 := same_free (o := .lst (ps.map V.ref ++ [V.ref e])) (s7.trans (same_new (o := .lst []) ne)) nf
          exact ⟨sm.trans s8, s8 _ _ hk, _, _, _, _, rfl⟩
    · rintro σ H' ⟨sm, hk, y, z, u, v, rfl⟩
      refine ⟨_, rfl, _, rfl, eqN rfl rfl (.of (sm _ _ ha)) (.of hk) ?_⟩
      rw [decide_eq_true rfl]
      exact q H' sm
end
end Sh

/-! The law of sets by numbers. -/
namespace Sh
open PySem PySem.Spec PyProof.Rows L2
theorem back_down {ms : List Nat} {ns : List Int} (hp : ns.Pairwise (· < ·)) (hm : ∀ k : Int, k ∈ ns ↔ decide (k ∈ ms.map fun n : Nat => (n : Int)) = true) :
    ∃ l : List Nat, (ns.map V.int).reverse = natsV l ∧ Down l ∧ l.length = ns.length ∧ ∀ x ∈ l, x ∈ ms := by
  have h0 : ∀ z ∈ ns, ∃ n, n ∈ ms ∧ z = ((n : Nat) : Int) := fun z hz => by
    have h := (hm z).mp hz
    rw [decide_eq_true_eq, List.mem_map] at h
    obtain ⟨n, h1, h2⟩ := h
    exact ⟨n, h1, h2.symm⟩
  refine ⟨(ns.map Int.toNat).reverse, ?_, ?_, by rw [List.length_reverse, List.length_map], fun x hx => ?_⟩
  · unfold natsV
    rw [List.map_reverse, List.map_map]
    refine congrArg List.reverse (List.map_congr_left fun z hz => ?_)
    obtain ⟨n, _, rfl⟩ := h0 z hz
    rfl
  · unfold Down
    rw [List.pairwise_reverse, List.pairwise_map]
    refine hp.imp_of_mem fun {x y} hx hy hxy => ?_
    obtain ⟨n, _, rfl⟩ := h0 x hx
    obtain ⟨m, _, rfl⟩ := h0 y hy
    show n < m
    omega
  · obtain ⟨z, hz, rfl⟩ := List.mem_map.mp (List.mem_reverse.mp hx)
    obtain ⟨n, h1, rfl⟩ := h0 z hz
    exact h1
/-- the sets of a size, by their numbers -/
def firsts (k n : Nat) : List (List Nat) := (List.range n).map (cas k)
theorem firsts_length (k n : Nat) : (firsts k n).length = n := by
  unfold firsts
  rw [List.length_map, List.length_range]
theorem firsts_get {k n i : Nat} {m : List Nat} (h : (firsts k n)[i]? = some m) : m = cas k i := by
  unfold firsts at h
  rw [List.getElem?_map] at h
  obtain ⟨j, h1, h2⟩ := Option.map_eq_some_iff.mp h
  have e := (List.getElem?_eq_some_iff.mp h1).2
  rw [List.getElem_range] at e
  rw [← h2, e]
/-- lists with their ints -/
def told (k : Nat) (ps : List Addr) : List (Addr × List Int) := ps.mapIdx fun i p => (p, (cas k i).map fun n : Nat => (n : Int))
theorem told_refs (k : Nat) (ps : List Addr) : (told k ps).map (fun p => V.ref p.1) = ps.map V.ref := by
  unfold told
  refine List.ext_getElem? fun i => ?_
  rw [List.getElem?_map, List.getElem?_mapIdx, List.getElem?_map]
  cases ps[i]? <;> rfl
theorem told_get {k : Nat} {ps : List Addr} {p : Addr × List Int} (h : p ∈ told k ps) : ∃ i, ps[i]? = some p.1 ∧ p.2 = (cas k i).map fun n : Nat => (n : Int) := by
  obtain ⟨i, hi⟩ := List.getElem?_of_mem h
  unfold told at hi
  rw [List.getElem?_mapIdx] at hi
  obtain ⟨q, h1, h2⟩ := Option.map_eq_some_iff.mp hi
  rw [← h2]
  exact ⟨i, h1, rfl⟩
theorem told_rise {k : Nat} {ps : List Addr} : (told (k + 1) ps).Pairwise fun p q => p.2 ≤ q.2 := by
  unfold told
  rw [List.pairwise_iff_getElem]
  intro i j hi hj hij
  rw [List.getElem_mapIdx, List.getElem_mapIdx]
  exact List.le_of_lt (lt_cast (cas_lt hij))
theorem tIf_at {p : Prop} [Decidable p] {ta tb : TE} {σ : L2.St} {H : Hp} {Q : VK} (Pd : V → Hp → Prop) (ha : p → ∀ Q', (∀ v H', Pd v H' → Q' v H') → ta σ H Q') (hb : ¬ p → ∀ Q', (∀ v H', Pd v H' → Q' v H') → tb σ H Q')
    (h : ∀ v H', Pd v H' → Q v H') : if decide p = true then ta σ H Q else tb σ H Q :=
  dec2 (fun c => ha c Q h) (fun c => hb c Q h)
section
variable {P : Program} {w : World} {K : PySem.W.Frag} {mg : Str → Option Value} {base : Heap}
def spLaw (K : PySem.W.Frag) : Sp := fun vs H Q _ => ∃ (a : Addr) (ns : List Int), vs = [.ref a] ∧ SqL K H a (ns.map V.int) ∧ ns.length ≤ 63 ∧ Bounded ns ∧ ∀ H', Same H H' → Q (.bl true) H'
noncomputable def dv_law {P : Program} {w : World} {K : PySem.W.Frag} {mg : Str → Option Value} {base : Heap} (T : Txt K mg)  {cdv : Value} {A : Around} {outer : List Env} {s : Shared} {H : Hp} {E : XK}
    (hr : Room 34 (A.deeper (envOfC "law" (defScope s_law) s.heap.objs.size T.f_law cdv))) :
    Σ' t : TS, PSs (cxOf CX0 P w K mg base ["_law_script", "_law_size", "_law_number", "_law_k", "_law_drawn", "_law_first", "_law_at", "_law_cell", "_law_some"] "law" (defScope s_law) T.f_law cdv A outer s H E).nox (defBody s_law) t :=
  ⟨_, (pss_cons (ps_for PassesOwn.never rfl (pi_list (pe_call (ok__law_states T) (hr.mono (by omega)) (by rfl) T.g__law_states T.F__law_states.kp T.b__law_states .nil pass0 (pa_cons (pv 0) pa_nil))) (pg_tupK (K := K) rfl (pgs_cons (pg_name (i := 1) sc_law.nd rfl (.inr rfl)) (pgs_cons (pg_name (i := 2) sc_law.nd rfl (.inl rfl)) pgs_nil))) (pss_one (ps_if (pt_not (pt_val (pe_call (ok__law_number_right T) (hr.mono (by omega)) (by rfl) T.g__law_number_right T.F__law_number_right.kp T.b__law_number_right .nil pass0 (pa_cons (pv 1) (pa_cons (pv 2) pa_nil))))) (pss_one (ps_ret pe_bl)) pss_nil)))
      (pss_cons (ps_for PassesOwn.never rfl (pi_range1 (by rfl) T.z_range (pa_cons pe_int pa_nil)) (pg_name (i := 3) sc_law.nd rfl (.inr rfl)) (pss_cons (ps_setLc (g := gTup K 2 (gCons (gName 6) (gCons (gName 7) (gNil)))) (i := 4) (own := [("_law_at", 6), ("_law_cell", 7)]) rfl sc_law.nd rfl rfl (sw_true rfl rfl rfl (by decide +kernel)) (pi_enum (by rfl) T.z_enumerate (pa_cons (pe_slice (sl_listK (K := K)) (pv 0) (po_some (pv 3)) (po_some (pe_op op_nAdd (pe_op op_nAdd (pv 3) pe_int) (pe_op op_nMul pe_int (pv 3))))) pa_nil)) (blkOk_by (own := [("_law_at", 6), ("_law_cell", 7)]) (N := ["_law_script", "_law_size", "_law_number", "_law_k", "_law_drawn", "_law_first", "_law_at", "_law_cell", "_law_some"]) (sc := defScope s_law) (by decide +kernel)) (fun _ _ _ _ _ => by exact (pg_tupK (K := K) rfl (pgs_cons (pg_name (i := 6) sc_law.nd rfl (.inl rfl)) (pgs_cons (pg_name (i := 7) sc_law.nd rfl (.inl rfl)) pgs_nil)))) (fun _ _ _ _ _ => by exact pts_nil) (fun _ _ _ _ _ => by exact (pe_call (ok__law_value T) (hr.mono (by omega)) (by rfl) T.g__law_value T.F__law_value.kp T.b__law_value .nil pass0 (pa_cons (pv 7) (pa_cons (pe_op op_nAdd (pv 6) (pv 3)) (pa_cons (pe_ix (ix_tupK (K := K)) (pe_tup (pa_cons pe_int (pa_cons pe_int (pa_cons pe_int pa_nil)))) (pv 3) (fun _ _ => rfl)) pa_nil))))))
      (pss_cons (ps_set (i := 4) sc_law.nd rfl (.inl rfl) (pe_ifExp (pt_cmpR op_nLt (pv 3) pe_int (nomark _)) (pv 4) (pe_lc (g := gName 2) (own := [("_law_number", 2)]) rfl sc_law.nd (pi_list (pv 4)) (blkOk_by (own := [("_law_number", 2)]) (N := ["_law_script", "_law_size", "_law_number", "_law_k", "_law_drawn", "_law_first", "_law_at", "_law_cell", "_law_some"]) (sc := defScope s_law) (by decide +kernel)) (fun _ _ _ _ _ => by exact (pg_name (i := 2) sc_law.nd rfl (.inl rfl))) (fun _ _ _ _ _ => by exact pts_nil) (fun _ _ _ _ _ => by exact (pe_op op_nMod (pv 2) pe_int)))))
      (pss_one (ps_if (pt_not (pt_val (pe_call (ok__law_set_right T) (hr.mono (by omega)) (by rfl) T.g__law_set_right T.F__law_set_right.kp T.b__law_set_right .nil pass0 (pa_cons (pe_revLK (K := K) (pe_callB (cr_sortedSet rfl) (by rfl) T.z_sorted (by decide +kernel) (pa_cons (pe_callTy (cr_setL rfl) (by rfl) T.z_set (by decide +kernel) (pa_cons (pe_slice (sl_listK (K := K)) (pv 4) po_none (po_some (pe_op op_nAdd pe_int (pe_op op_nMul pe_int (pe_op op_nDiv (pv 3) pe_int))))) pa_nil)) pa_nil))) pa_nil)))) (pss_one (ps_ret pe_bl)) pss_nil)))))
      (pss_cons (ps_for PassesOwn.never rfl (pi_tup (pe_tup (pa_cons pe_int (pa_cons pe_int (pa_cons pe_int pa_nil))))) (pg_name (i := 1) sc_law.nd rfl (.inr rfl)) (pss_cons (ps_setLc (g := gName 2) (i := 5) (own := [("_law_number", 2)]) rfl sc_law.nd rfl rfl (sw_true rfl rfl rfl (by decide +kernel)) (pi_range1 (by rfl) T.z_range (pa_cons pe_int pa_nil)) (blkOk_by (own := [("_law_number", 2)]) (N := ["_law_script", "_law_size", "_law_number", "_law_k", "_law_drawn", "_law_first", "_law_at", "_law_cell", "_law_some"]) (sc := defScope s_law) (by decide +kernel)) (fun _ _ _ _ _ => by exact (pg_name (i := 2) sc_law.nd rfl (.inl rfl))) (fun _ _ _ _ _ => by exact pts_nil) (fun _ _ _ _ _ => by exact (pe_call (ok_set_of T) (hr.mono (by omega)) (by rfl) T.g_set_of T.F_set_of.kp T.b_set_of .nil pass0 (pa_cons (pv 1) (pa_cons (pv 2) pa_nil)))))
      (pss_one (ps_if (PW.pt (pw_or (pt_cmpR (op_neDK (K := K) hr.units) (pv 5) (pe_callB (cr_sortedL hr.units) (by rfl) T.z_sorted (by decide +kernel) (pa_cons (pv 5) pa_nil)) (nomark _)) (pw_or1 (pt_not (pt_val (pe_callB (cr_allK (K := K) rfl) (by rfl) T.z_all (by decide +kernel) (pa_cons (pe_lc (g := gTup K 2 (gCons (gName 6) (gCons (gName 8) (gNil)))) (own := [("_law_at", 6), ("_law_some", 8)]) rfl sc_law.nd (pi_enum (by rfl) T.z_enumerate (pa_cons (pv 5) pa_nil)) (blkOk_by (own := [("_law_at", 6), ("_law_some", 8)]) (N := ["_law_script", "_law_size", "_law_number", "_law_k", "_law_drawn", "_law_first", "_law_at", "_law_cell", "_law_some"]) (sc := defScope s_law) (by decide +kernel)) (fun _ _ _ _ _ => by exact (pg_tupK (K := K) rfl (pgs_cons (pg_name (i := 6) sc_law.nd rfl (.inl rfl)) (pgs_cons (pg_name (i := 8) sc_law.nd rfl (.inl rfl)) pgs_nil)))) (fun _ _ _ _ _ => by exact pts_nil) (fun _ _ _ _ _ => by exact (pe_cmpR op_nEq (pe_call (ok__law_place T) (hr.mono (by omega)) (by rfl) T.g__law_place T.F__law_place.kp T.b__law_place .nil pass0 (pa_cons (pv 8) pa_nil)) (pv 6) (nomark _)))) pa_nil))))))) (pss_one (ps_ret pe_bl)) pss_nil))))
      (pss_one (ps_ret (pe_and (pe_cmpR (op_eqDK (K := K) hr.units) (pe_call (ok_set_of T) (hr.mono (by omega)) (by rfl) T.g_set_of T.F_set_of.kp T.b_set_of .nil pass0 (pa_cons pe_int (pa_cons pe_int pa_nil))) (pe_lst pa_nil) (nomark _)) (pe_and (pe_cmpR op_nEq (pe_call (ok_number_of T) (hr.mono (by omega)) (by rfl) T.g_number_of T.F_number_of.kp T.b_number_of .nil pass0 (pa_cons (pe_lst pa_nil) pa_nil)) pe_int (nomark _)) (pe_and (pe_cmpR (op_eqDK (K := K) hr.units) (pe_call (ok_beneath T) (hr.mono (by omega)) (by rfl) T.g_beneath T.F_beneath.kp T.b_beneath .nil pass0 (pa_cons (pe_lst pa_nil) pa_nil)) (pe_lst pa_nil) (nomark _)) (pe_one (pe_cmpR (op_eqDK (K := K) hr.units) (pe_call (ok_set_of T) (hr.mono (by omega)) (by rfl) T.g_set_of T.F_set_of.kp T.b_set_of .nil pass0 (pa_cons pe_int (pa_cons pe_int pa_nil))) (pe_lst (pa_cons pe_int (pa_cons pe_int pa_nil))) (nomark _)))))))))))⟩
theorem ok_law (T : Txt K mg) : FnOk P w K mg base CX0 35 T.f_law T.d_law ["_law_script"] (spLaw K) := by
  refine T.F_law.ok sc_law (fun vs H Q E h => ?_) (fun cdv A outer s H vs Q E hr h => ⟨_, (dv_law T hr).2, ?_⟩)
  · obtain ⟨a, ns, rfl, _⟩ := h
    rfl
  · obtain ⟨a, ns, rfl, hS, h63, hb, q⟩ := h
    have hml := many_lt
    refine ⟨_, rfl, a, ns, rfl, hS, h63, hb, fun H1 p ts s1 np hp hps => ?_⟩
    refine ⟨p, rfl, ⟨_, .of hp⟩, ?_⟩
    refine for_list (xs := ts.map V.ref) (fun i σ H' => Same H1 H' ∧ ∃ y1 y2 y3 y4 y5 y6 y7 y8, σ = [some (.ref a), y1, y2, y3, y4, y5, y6, y7, y8]) ⟨Same.refl _, _, _, _, _, _, _, _, _, rfl⟩ (fun i σ H' _ h => .of (h.1 _ _ hp)) ?_ ?_
    · rintro i x σ H' hx ⟨sm, y1, y2, y3, y4, y5, y6, y7, y8, rfl⟩
      obtain ⟨t, ht, rfl⟩ := get_map hx
      obtain ⟨k, n, hT, h1, hk, hn⟩ := hps t (List.mem_of_getElem? ht)
      refine pair_at (same_tup sm hT) ?_
      refine ⟨_, rfl, _, rfl, k, n, rfl, h1, hk, hn, fun H2 s2 => ⟨true, rfl, iteF ?_⟩⟩
      exact ⟨sm.trans s2, _, _, _, _, _, _, _, _, rfl⟩
    rintro σ H2 ⟨s2, y1, y2, y3, y4, y5, y6, y7, y8, rfl⟩
    have s12 := s1.trans s2
    clear s1 s2 hp hps np
    refine ⟨_, rfl, (by decide), (by decide), ?_⟩
    refine for_rangeN (n := 3) rfl (fun i σ H' => Same H H' ∧ ∃ y1 y2 y3 y4 y5 y6 y7 y8, σ = [some (.ref a), y1, y2, y3, y4, y5, y6, y7, y8]) ⟨s12, _, _, _, _, _, _, _, _, rfl⟩ ?_ ?_
    · rintro k σ H3 hk ⟨sm, y1, y2, y3, y4, y5, y6, y7, y8, rfl⟩
      refine ⟨_, rfl, _, rfl, (k : Int), rfl, _, rfl, k, 4, rfl, rfl, _, rfl, 8, k, rfl, rfl, ⟨4, 2, by decide, by omega, by decide⟩, k + 4, 8 * k, rfl, rfl, ((k + 4 + 8 * k : Nat) : Int), rfl, a, ns.map V.int, rfl, sm.seq hS, fun c nc => ?_⟩
      rw [cutV_map]
      have hcl := cutL_length ns (some (k : Int)) (some ((k + 4 + 8 * k : Nat) : Int))
      have hcm : ∀ z ∈ cutL ns (some (k : Int)) (some ((k + 4 + 8 * k : Nat) : Int)), z ∈ ns := fun z h => mem_cutL h
      generalize cutL ns (some (k : Int)) (some ((k + 4 + 8 * k : Nat) : Int)) = ms at hcl hcm ⊢
      have s3 : Same H (upd H3 c (.lst (ms.map V.int))) := sm.trans (same_new nc)
      refine ⟨c, ms.map V.int, rfl, .of upd_same, fun D nD => ?_⟩
      refine lc2_enum (xs := ms.map V.int) (fun i acc H' => Same (upd H3 c (.lst (ms.map V.int))) H' ∧ ∃ l : List Nat, acc = natsV l ∧ ∀ x ∈ l, x < many) ⟨same_new nD, [], rfl, fun x h => nomatch h⟩ (fun i acc H' h => .of (h.1 _ _ upd_same))
        (fun i acc H' T o nT h => ⟨same_fresh _ _ _ _ nT h.1, h.2⟩) (fun _ _ => rfl) ?_ ?_
      · rintro i x acc H4 hx hlen hD ⟨s4, l, rfl, hl⟩
        obtain ⟨cell, hcell, rfl⟩ := get_map hx
        have hi := (List.getElem?_eq_some_iff.mp hcell).1
        have hcb := hb cell (hcm _ (List.mem_of_getElem? hcell))
        refine ⟨_, rfl, _, rfl, _, rfl, i, k, rfl, rfl, (by show 3 ≤ sizeLine; decide), fun t nt => ?_⟩
        refine ⟨_, rfl, t, natsV [20, 60, 900000], (k : Int), _, rfl, rfl, .of upd_same, atI_nat (menu (show k < 3 from hk)), ?_⟩
        have hlim : ∀ m ∈ [20, 60, 900000], 0 < m ∧ m ≤ many := by decide
        have hm := hlim _ (List.getElem_mem (l := [20, 60, 900000]) (show k < 3 from hk))
        generalize ([20, 60, 900000] : List Nat)[k] = lim at hm ⊢
        refine ⟨cell, i + k, lim, rfl, hcb, by omega, hm.1, hm.2, fun z H5 hz s5 => ?_⟩
        have s45 : Same H4 H5 := (same_new nt).trans s5
        refine LcN.put (s45 _ _ hD) hlen (small1000 (by omega)) ⟨same_free (s4.trans s45) nD, l ++ [z], natsV_app _ _, fun x hx => ?_⟩
        rcases List.mem_append.mp hx with hx | hx
        · exact hl x hx
        · rw [List.mem_singleton.mp hx]
          exact hz
      rintro acc H4 hlen hD ⟨s4, l, rfl, hl⟩
      rw [List.length_map, natsV_length] at hlen
      have s04 := s3.trans s4
      refine ⟨_, rfl, k, 2, rfl, rfl, _, rfl, ?_⟩
      refine tIf_at (fun v H' => ∃ e l, v = .ref e ∧ Same H H' ∧ H' e = some (.lst (natsV l)) ∧ ∀ x ∈ l, x < many) (fun _ Q' h => ?_) (fun _ Q' h => ?_) ?_
      · exact ⟨_, rfl, h _ _ ⟨D, l, rfl, s04, hD, hl⟩⟩
      · refine ⟨_, rfl, D, rfl, ⟨_, .of hD⟩, fun D2 nD2 => ?_⟩
        refine lc1_list (xs := natsV l) (fun i acc H' => Same H4 H' ∧ ∃ m : List Nat, acc = natsV m ∧ ∀ x ∈ m, x < many) ⟨same_new nD2, [], rfl, fun x h => nomatch h⟩ (fun i acc H' h => .of (h.1 _ _ hD)) (fun _ => rfl) ?_ ?_
        · rintro i x acc H5 hx hlen5 hD5 ⟨s5, m, rfl, hm⟩
          obtain ⟨n, hn, rfl⟩ := get_natsV hx
          have hi := (List.getElem?_eq_some_iff.mp hn).1
          refine ⟨_, rfl, n, 900000, rfl, rfl, by decide, LcN.put hD5 hlen5 (small1000 (by omega)) ⟨same_free s5 nD2, m ++ [n % 900000], natsV_app _ _, fun x hx => ?_⟩⟩
          rcases List.mem_append.mp hx with hx | hx
          · exact hm x hx
          · rw [List.mem_singleton.mp hx]
            exact Nat.lt_of_lt_of_le (Nat.mod_lt _ (by decide)) (by decide)
        · rintro acc H5 hlen5 hD5 ⟨s5, m, rfl, hm⟩
          exact h _ _ ⟨D2, m, rfl, s04.trans s5, hD5, hm⟩
      rintro v H5 ⟨e, m, rfl, s5, he, hm⟩
      clear s04 s4 hD hl hlen nD s3 nc hcm hcl
      refine ⟨_, rfl, _, rfl, k, 2, rfl, rfl, .small (by decide) (by decide), 4, k / 2, rfl, rfl, ⟨3, 1, by decide, by omega, by decide⟩, 8, 4 * (k / 2), rfl, rfl, ((8 + 4 * (k / 2) : Nat) : Int), rfl, e, natsV m, rfl, .of he, fun c nc => ?_⟩
      rw [cut_to, natsV_take]
      have hc12 : (m.take (8 + 4 * (k / 2))).length ≤ 12 := by
        rw [List.length_take]
        omega
      have hcm : ∀ x ∈ m.take (8 + 4 * (k / 2)), x < many := fun x hx => hm x (List.mem_of_mem_take hx)
      generalize m.take (8 + 4 * (k / 2)) = u at hc12 hcm ⊢
      have s6 : Same H (upd H5 c (.lst (natsV u))) := s5.trans (same_new nc)
      refine ⟨c, u.map fun n : Nat => (n : Int), rfl, .of (by rw [← natsV_ints]; exact upd_same), by rw [List.length_map]; omega, fun b cnt nb hcnt => ?_⟩
      rw [List.length_map] at hcnt
      refine ⟨b, _, cnt, rfl, upd_same, by omega, fun zs r hz hzm hzl nr => ?_⟩
      obtain ⟨l, h1, h2, h3, h4⟩ := back_down hz hzm
      refine ⟨r, zs.map V.int, rfl, .of upd_same, fun t nt => ?_⟩
      rw [h1]
      have s7 := ((s6.trans (same_new nb)).trans (same_new (o := .lst (zs.map V.int)) nr)).trans (same_new (o := .lst (natsV l)) nt)
      refine ⟨t, l, rfl, upd_same, h2, by omega, fun x hx => hcm x (h4 x hx), fun H6 s8 => ⟨true, rfl, iteF ?_⟩⟩
      exact ⟨s7.trans s8, _, _, _, _, _, _, _, _, rfl⟩
    rintro σ H3 ⟨s3, y1, y2, y3, y4, y5, y6, y7, y8, rfl⟩
    clear s12
    refine ⟨(by show 3 ≤ sizeLine; decide), fun t nt => ?_⟩
    have st : Same H (upd H3 t (.tup (natsV [2, 3, 4]))) := s3.trans (same_new nt)
    refine ⟨t, rfl, ⟨_, .of upd_same⟩, ?_⟩
    refine for_tup (xs := natsV [2, 3, 4]) (fun i σ H' => (Same H H' ∧ SqT K H' t (natsV [2, 3, 4])) ∧ ∃ y1 y2 y3 y4 y5 y6 y7 y8, σ = [some (.ref a), y1, y2, y3, y4, y5, y6, y7, y8]) ⟨⟨st, .of upd_same⟩, _, _, _, _, _, _, _, _, rfl⟩ (fun i σ H' _ h => h.1.2) ?_ ?_
    · rintro i x σ H4 hx ⟨⟨s4, hT⟩, y1, y2, y3, y4, y5, y6, y7, y8, rfl⟩
      obtain ⟨k, hk, rfl⟩ := get_natsV hx
      obtain ⟨j, rfl, hj⟩ : ∃ j, k = j + 1 ∧ j ≤ 3 := by
        have : ∀ x ∈ [2, 3, 4], 1 ≤ x ∧ x ≤ 4 := by decide
        have := this k (List.mem_of_getElem? hk)
        exact ⟨k - 1, by omega, by omega⟩
      clear hk hx
      refine ⟨20, rfl, (by decide), (by decide), fun D nD => ?_⟩
      refine lc1_rangeN (n := 20) rfl (fun n acc H' => Same H4 H' ∧ ∃ ps : List Addr, acc = ps.map V.ref ∧ ∀ (n : Nat) (x : Addr), ps[n]? = some x → H' x = some (.lst (natsV (cas (j + 1) n))) ∧ x ≠ D) ⟨same_new nD, [], rfl, fun n x h => by simp at h⟩ (fun _ => rfl) ?_ ?_
      · rintro n acc H5 hn hlen hD ⟨s5, ps, rfl, hps⟩
        rw [List.length_map] at hlen
        refine ⟨_, rfl, _, rfl, j + 1, n, 5, rfl, by omega, by omega, by decide, fun e => by omega, fun H6 x s6 nx hx => ?_⟩
        have hxD : x ≠ D := fun e => by rw [e, hD] at nx; cases nx
        refine LcN.put (s6 _ _ hD) (by rw [List.length_map]; exact hlen) (small1000 (by omega)) ⟨same_free (s5.trans s6) nD, ps ++ [x], by rw [List.map_append]; rfl, fun m z hz => ?_⟩
        rcases Nat.lt_or_ge m ps.length with hm | hm
        · rw [List.getElem?_append_left hm] at hz
          obtain ⟨g1, g2⟩ := hps m z hz
          exact ⟨by rw [upd_ne g2]; exact s6 _ _ g1, g2⟩
        · rw [List.getElem?_append_right hm] at hz
          have hm0 : m - ps.length = 0 := by
            refine Nat.lt_one_iff.mp ?_
            have := (List.getElem?_eq_some_iff.mp hz).1
            simpa using this
          rw [hm0] at hz
          have ex : x = z := Option.some.inj hz
          subst ex
          have ek : m = n := by omega
          subst ek
          exact ⟨by rw [upd_ne hxD]; exact hx, hxD⟩
      rintro acc H5 hlen hD ⟨s5, ps, rfl, hps⟩
      rw [List.length_map] at hlen
      have hdp : ∀ {H' : Hp} {b : Addr}, Same H5 H' → H' b = some (.lst (ps.map V.ref)) → Dp K H' (.ref b) (dataNN (firsts (j + 1) 20)) := fun {H' b} s h => by
        refine dp_NN (.of h) (by rw [hlen, firsts_length]) fun i z m h1 h2 => ?_
        rw [firsts_get h2]
        exact .of (s _ _ (hps i z h1).1)
      refine ⟨_, rfl, _, rfl, D, told (j + 1) ps, rfl, by rw [told_refs]; exact .of hD, fun p hp => ?_, told_rise, fun r nr => ?_⟩
      · obtain ⟨i, h1, h2⟩ := told_get hp
        rw [h2, ← natsV_ints]
        exact .of (hps i p.1 h1).1
      rw [told_refs]
      refine ⟨_, _, hdp (same_new nr) (same_new nr _ _ hD), hdp (same_new nr) upd_same, shaped_NN _, shaped_NN _, ?_⟩
      rw [eqv_NN]
      refine ⟨false, rfl, iteF ?_⟩
      generalize hH6 : upd H5 r (.lst (ps.map V.ref)) = H6
      have s6 : Same H5 H6 := hH6 ▸ same_new nr
      refine ⟨_, rfl, D, ps.map V.ref, rfl, .of (s6 _ _ hD), fun D2 nD2 => ?_⟩
      refine lc2_enum (xs := ps.map V.ref) (fun i acc H' => Same H6 H' ∧ acc = List.replicate i (V.bl true)) ⟨same_new nD2, rfl⟩ (fun i acc H' h => .of (h.1 _ _ (s6 _ _ hD)))
        (fun i acc H' T o nT h => ⟨same_fresh _ _ _ _ nT h.1, h.2⟩) (fun _ _ => rfl) ?_ ?_
      · rintro i x acc H7 hx hl7 hD7 ⟨s7, he⟩
        obtain ⟨b, hb1, rfl⟩ := get_map hx
        have hi := (List.getElem?_eq_some_iff.mp hb1).1
        have hi20 : i < 2 ^ 133 := Nat.lt_of_lt_of_le (show i < 2 ^ 5 by omega) (Nat.pow_le_pow_right (by decide) (by decide))
        have g := cas_good (k := j + 1) (n := i) (by omega) hi20
        refine ⟨_, rfl, b, cas (j + 1) i, 134, rfl, s7 _ _ (s6 _ _ (hps i b hb1).1), by rw [cas_length]; omega, g.small, by decide, fun H8 s8 => ?_⟩
        rw [num_cas]
        refine ⟨_, rfl, i, i, rfl, rfl, ?_⟩
        rw [decide_eq_true rfl]
        refine LcN.put (s8 _ _ hD7) hl7 (small1000 (by omega)) ⟨same_free (s7.trans s8) nD2, ?_⟩
        rw [he, ← List.replicate_succ']
      rintro acc H7 hl7 hD7 ⟨s7, he⟩
      refine ⟨D2, List.replicate acc.length true, rfl, .of (by rw [hD7, he, List.map_replicate, List.length_replicate]), ?_⟩
      have e1 : (List.replicate acc.length true).all id = true := by
        rw [List.all_eq_true]
        intro x hx
        rw [List.eq_of_mem_replicate hx]
        rfl
      rw [e1]
      refine ⟨true, rfl, iteF ?_⟩
      have s57 := s5.trans (s6.trans s7)
      exact ⟨⟨s4.trans s57, same_tup s57 hT⟩, _, _, _, _, _, _, _, _, rfl⟩
    rintro σ H4 ⟨⟨s4, _⟩, y1, y2, y3, y4, y5, y6, y7, y8, rfl⟩
    clear s3 nt
    refine ⟨0, 0, 1, rfl, by decide, by decide, by decide, fun _ => rfl, fun H5 p1 s5 n5 h5 => ?_⟩
    refine ⟨Nat.zero_le _, fun e1 ne1 => ?_⟩
    have s5' : Same H5 (upd H5 e1 (.lst [])) := same_new ne1
    refine eqN (l := []) (m := []) rfl rfl (.of (s5' _ _ h5)) (.of upd_same) ⟨_, rfl, decT rfl ?_⟩
    have s6 := s4.trans (s5.trans s5')
    refine ⟨Nat.zero_le _, fun e2 ne2 => ?_⟩
    have s7 := s6.trans (same_new (o := .lst []) ne2)
    refine ⟨e2, [], 1, rfl, upd_same, ⟨List.Pairwise.nil, by decide, fun x h => (nomatch h), by decide⟩, fun H8 s8 => ?_⟩
    refine ⟨0, 0, rfl, rfl, _, rfl, decT rfl ?_⟩
    refine ⟨Nat.zero_le _, fun e3 ne3 => ?_⟩
    have s9 := (s7.trans s8).trans (same_new (o := .lst []) ne3)
    refine ⟨e3, [], rfl, upd_same, List.Pairwise.nil, by decide, fun H10 p4 ps s10 n10 h10 hb10 _ => ?_⟩
    have eps : ps = [] := List.length_eq_zero_iff.mp hb10.len
    subst eps
    refine ⟨Nat.zero_le _, fun e4 ne4 => ?_⟩
    have s11 := (s9.trans s10).trans (same_new (o := .lst []) ne4)
    refine eqN (l := []) (m := []) rfl rfl (.of (same_new ne4 _ _ h10)) (.of upd_same) ⟨_, rfl, decT rfl ?_⟩
    refine ⟨2, 3, 2, rfl, by decide, by decide, by decide, fun e => by omega, fun H12 p5 s12 n12 h12 => ?_⟩
    refine ⟨(by show 2 ≤ sizeLine; decide), fun e5 ne5 => ?_⟩
    have e : cas 2 3 = [3, 0] := by decide
    rw [e] at h12
    refine eqN (l := [3, 0]) (m := [3, 0]) rfl rfl (.of (same_new ne5 _ _ h12)) (.of upd_same) ?_
    rw [decide_eq_true rfl]
    exact q _ ((s11.trans s12).trans (same_new ne5))
end
end Sh

/-! What the top has written; the law. -/
namespace Sh
open PySem PySem.Spec PyProof.Rows L2
theorem all_mk {l : PySem.W.OpenLaw} {w : World} {K : PySem.W.Frag} {h : Heap} {mg : Str → Option Value} {fa : Addr} (X : K.In h) (G : h.Ns mainGlobals mg) (hfa : mg "law" = some (.ref fa))
    {f0 : Addr} {od0 an0 : Option Addr} {sl0 : Array (Option Value)} {oc0 kV0 dc0 pm0 cd0 ct0 : Value}
    (a0 : PySem.W.nsIn K mainGlobals "is_number" = some (some (.ref f0)))
    (l0 : K.lookup f0 = some ⟨oc0, od0, .func (PySem.W.fnOf "is_number" "is_number" (defArgs s_is_number) (defBody s_is_number) (defScope s_is_number) .none kV0 dc0 pm0 an0 cd0 ct0), sl0⟩)
    (c0 : PySem.W.codeIn K cd0 "is_number" = true) (k0 : PySem.W.keepIn K (.ref f0) = true)
    {f1 : Addr} {od1 an1 : Option Addr} {sl1 : Array (Option Value)} {oc1 kV1 dc1 pm1 cd1 ct1 : Value}
    (a1 : PySem.W.nsIn K mainGlobals "is_size" = some (some (.ref f1)))
    (l1 : K.lookup f1 = some ⟨oc1, od1, .func (PySem.W.fnOf "is_size" "is_size" (defArgs s_is_size) (defBody s_is_size) (defScope s_is_size) .none kV1 dc1 pm1 an1 cd1 ct1), sl1⟩)
    (c1 : PySem.W.codeIn K cd1 "is_size" = true) (k1 : PySem.W.keepIn K (.ref f1) = true)
    {f2 : Addr} {od2 an2 : Option Addr} {sl2 : Array (Option Value)} {oc2 kV2 dc2 pm2 cd2 ct2 : Value}
    (a2 : PySem.W.nsIn K mainGlobals "is_list_of_numbers" = some (some (.ref f2)))
    (l2 : K.lookup f2 = some ⟨oc2, od2, .func (PySem.W.fnOf "is_list_of_numbers" "is_list_of_numbers" (defArgs s_is_list_of_numbers) (defBody s_is_list_of_numbers) (defScope s_is_list_of_numbers) .none kV2 dc2 pm2 an2 cd2 ct2), sl2⟩)
    (c2 : PySem.W.codeIn K cd2 "is_list_of_numbers" = true) (k2 : PySem.W.keepIn K (.ref f2) = true)
    {f3 : Addr} {od3 an3 : Option Addr} {sl3 : Array (Option Value)} {oc3 kV3 dc3 pm3 cd3 ct3 : Value}
    (a3 : PySem.W.nsIn K mainGlobals "is_falling" = some (some (.ref f3)))
    (l3 : K.lookup f3 = some ⟨oc3, od3, .func (PySem.W.fnOf "is_falling" "is_falling" (defArgs s_is_falling) (defBody s_is_falling) (defScope s_is_falling) .none kV3 dc3 pm3 an3 cd3 ct3), sl3⟩)
    (c3 : PySem.W.codeIn K cd3 "is_falling" = true) (k3 : PySem.W.keepIn K (.ref f3) = true)
    {f4 : Addr} {od4 an4 : Option Addr} {sl4 : Array (Option Value)} {oc4 kV4 dc4 pm4 cd4 ct4 : Value}
    (a4 : PySem.W.nsIn K mainGlobals "is_set" = some (some (.ref f4)))
    (l4 : K.lookup f4 = some ⟨oc4, od4, .func (PySem.W.fnOf "is_set" "is_set" (defArgs s_is_set) (defBody s_is_set) (defScope s_is_set) .none kV4 dc4 pm4 an4 cd4 ct4), sl4⟩)
    (c4 : PySem.W.codeIn K cd4 "is_set" = true) (k4 : PySem.W.keepIn K (.ref f4) = true)
    {f5 : Addr} {od5 an5 : Option Addr} {sl5 : Array (Option Value)} {oc5 kV5 dc5 pm5 cd5 ct5 : Value}
    (a5 : PySem.W.nsIn K mainGlobals "power" = some (some (.ref f5)))
    (l5 : K.lookup f5 = some ⟨oc5, od5, .func (PySem.W.fnOf "power" "power" (defArgs s_power) (defBody s_power) (defScope s_power) .none kV5 dc5 pm5 an5 cd5 ct5), sl5⟩)
    (c5 : PySem.W.codeIn K cd5 "power" = true) (k5 : PySem.W.keepIn K (.ref f5) = true)
    {f6 : Addr} {od6 an6 : Option Addr} {sl6 : Array (Option Value)} {oc6 kV6 dc6 pm6 cd6 ct6 : Value}
    (a6 : PySem.W.nsIn K mainGlobals "guess_above" = some (some (.ref f6)))
    (l6 : K.lookup f6 = some ⟨oc6, od6, .func (PySem.W.fnOf "guess_above" "guess_above" (defArgs s_guess_above) (defBody s_guess_above) (defScope s_guess_above) .none kV6 dc6 pm6 an6 cd6 ct6), sl6⟩)
    (c6 : PySem.W.codeIn K cd6 "guess_above" = true) (k6 : PySem.W.keepIn K (.ref f6) = true)
    {f7 : Addr} {od7 an7 : Option Addr} {sl7 : Array (Option Value)} {oc7 kV7 dc7 pm7 cd7 ct7 : Value}
    (a7 : PySem.W.nsIn K mainGlobals "whole_root" = some (some (.ref f7)))
    (l7 : K.lookup f7 = some ⟨oc7, od7, .func (PySem.W.fnOf "whole_root" "whole_root" (defArgs s_whole_root) (defBody s_whole_root) (defScope s_whole_root) .none kV7 dc7 pm7 an7 cd7 ct7), sl7⟩)
    (c7 : PySem.W.codeIn K cd7 "whole_root" = true) (k7 : PySem.W.keepIn K (.ref f7) = true)
    {f8 : Addr} {od8 an8 : Option Addr} {sl8 : Array (Option Value)} {oc8 kV8 dc8 pm8 cd8 ct8 : Value}
    (a8 : PySem.W.nsIn K mainGlobals "greatest_first" = some (some (.ref f8)))
    (l8 : K.lookup f8 = some ⟨oc8, od8, .func (PySem.W.fnOf "greatest_first" "greatest_first" (defArgs s_greatest_first) (defBody s_greatest_first) (defScope s_greatest_first) .none kV8 dc8 pm8 an8 cd8 ct8), sl8⟩)
    (c8 : PySem.W.codeIn K cd8 "greatest_first" = true) (k8 : PySem.W.keepIn K (.ref f8) = true)
    {f9 : Addr} {od9 an9 : Option Addr} {sl9 : Array (Option Value)} {oc9 kV9 dc9 pm9 cd9 ct9 : Value}
    (a9 : PySem.W.nsIn K mainGlobals "numbers_of_set" = some (some (.ref f9)))
    (l9 : K.lookup f9 = some ⟨oc9, od9, .func (PySem.W.fnOf "numbers_of_set" "numbers_of_set" (defArgs s_numbers_of_set) (defBody s_numbers_of_set) (defScope s_numbers_of_set) .none kV9 dc9 pm9 an9 cd9 ct9), sl9⟩)
    (c9 : PySem.W.codeIn K cd9 "numbers_of_set" = true) (k9 : PySem.W.keepIn K (.ref f9) = true)
    {f10 : Addr} {od10 an10 : Option Addr} {sl10 : Array (Option Value)} {oc10 kV10 dc10 pm10 cd10 ct10 : Value}
    (a10 : PySem.W.nsIn K mainGlobals "check_set" = some (some (.ref f10)))
    (l10 : K.lookup f10 = some ⟨oc10, od10, .func (PySem.W.fnOf "check_set" "check_set" (defArgs s_check_set) (defBody s_check_set) (defScope s_check_set) .none kV10 dc10 pm10 an10 cd10 ct10), sl10⟩)
    (c10 : PySem.W.codeIn K cd10 "check_set" = true) (k10 : PySem.W.keepIn K (.ref f10) = true)
    {f11 : Addr} {od11 an11 : Option Addr} {sl11 : Array (Option Value)} {oc11 kV11 dc11 pm11 cd11 ct11 : Value}
    (a11 : PySem.W.nsIn K mainGlobals "number_of" = some (some (.ref f11)))
    (l11 : K.lookup f11 = some ⟨oc11, od11, .func (PySem.W.fnOf "number_of" "number_of" (defArgs s_number_of) (defBody s_number_of) (defScope s_number_of) .none kV11 dc11 pm11 an11 cd11 ct11), sl11⟩)
    (c11 : PySem.W.codeIn K cd11 "number_of" = true) (k11 : PySem.W.keepIn K (.ref f11) = true)
    {f12 : Addr} {od12 an12 : Option Addr} {sl12 : Array (Option Value)} {oc12 kV12 dc12 pm12 cd12 ct12 : Value}
    (a12 : PySem.W.nsIn K mainGlobals "set_of" = some (some (.ref f12)))
    (l12 : K.lookup f12 = some ⟨oc12, od12, .func (PySem.W.fnOf "set_of" "set_of" (defArgs s_set_of) (defBody s_set_of) (defScope s_set_of) .none kV12 dc12 pm12 an12 cd12 ct12), sl12⟩)
    (c12 : PySem.W.codeIn K cd12 "set_of" = true) (k12 : PySem.W.keepIn K (.ref f12) = true)
    {f13 : Addr} {od13 an13 : Option Addr} {sl13 : Array (Option Value)} {oc13 kV13 dc13 pm13 cd13 ct13 : Value}
    (a13 : PySem.W.nsIn K mainGlobals "beneath" = some (some (.ref f13)))
    (l13 : K.lookup f13 = some ⟨oc13, od13, .func (PySem.W.fnOf "beneath" "beneath" (defArgs s_beneath) (defBody s_beneath) (defScope s_beneath) .none kV13 dc13 pm13 an13 cd13 ct13), sl13⟩)
    (c13 : PySem.W.codeIn K cd13 "beneath" = true) (k13 : PySem.W.keepIn K (.ref f13) = true)
    {f14 : Addr} {od14 an14 : Option Addr} {sl14 : Array (Option Value)} {oc14 kV14 dc14 pm14 cd14 ct14 : Value}
    (a14 : PySem.W.nsIn K mainGlobals "_law_cell_at" = some (some (.ref f14)))
    (l14 : K.lookup f14 = some ⟨oc14, od14, .func (PySem.W.fnOf "_law_cell_at" "_law_cell_at" (defArgs s__law_cell_at) (defBody s__law_cell_at) (defScope s__law_cell_at) .none kV14 dc14 pm14 an14 cd14 ct14), sl14⟩)
    (c14 : PySem.W.codeIn K cd14 "_law_cell_at" = true) (k14 : PySem.W.keepIn K (.ref f14) = true)
    {f15 : Addr} {od15 an15 : Option Addr} {sl15 : Array (Option Value)} {oc15 kV15 dc15 pm15 cd15 ct15 : Value}
    (a15 : PySem.W.nsIn K mainGlobals "_law_draw" = some (some (.ref f15)))
    (l15 : K.lookup f15 = some ⟨oc15, od15, .func (PySem.W.fnOf "_law_draw" "_law_draw" (defArgs s__law_draw) (defBody s__law_draw) (defScope s__law_draw) .none kV15 dc15 pm15 an15 cd15 ct15), sl15⟩)
    (c15 : PySem.W.codeIn K cd15 "_law_draw" = true) (k15 : PySem.W.keepIn K (.ref f15) = true)
    {f16 : Addr} {od16 an16 : Option Addr} {sl16 : Array (Option Value)} {oc16 kV16 dc16 pm16 cd16 ct16 : Value}
    (a16 : PySem.W.nsIn K mainGlobals "_law_value" = some (some (.ref f16)))
    (l16 : K.lookup f16 = some ⟨oc16, od16, .func (PySem.W.fnOf "_law_value" "_law_value" (defArgs s__law_value) (defBody s__law_value) (defScope s__law_value) .none kV16 dc16 pm16 an16 cd16 ct16), sl16⟩)
    (c16 : PySem.W.codeIn K cd16 "_law_value" = true) (k16 : PySem.W.keepIn K (.ref f16) = true)
    {f17 : Addr} {od17 an17 : Option Addr} {sl17 : Array (Option Value)} {oc17 kV17 dc17 pm17 cd17 ct17 : Value}
    (a17 : PySem.W.nsIn K mainGlobals "_law_whole" = some (some (.ref f17)))
    (l17 : K.lookup f17 = some ⟨oc17, od17, .func (PySem.W.fnOf "_law_whole" "_law_whole" (defArgs s__law_whole) (defBody s__law_whole) (defScope s__law_whole) .none kV17 dc17 pm17 an17 cd17 ct17), sl17⟩)
    (c17 : PySem.W.codeIn K cd17 "_law_whole" = true) (k17 : PySem.W.keepIn K (.ref f17) = true)
    {f18 : Addr} {od18 an18 : Option Addr} {sl18 : Array (Option Value)} {oc18 kV18 dc18 pm18 cd18 ct18 : Value}
    (a18 : PySem.W.nsIn K mainGlobals "_law_picks" = some (some (.ref f18)))
    (l18 : K.lookup f18 = some ⟨oc18, od18, .func (PySem.W.fnOf "_law_picks" "_law_picks" (defArgs s__law_picks) (defBody s__law_picks) (defScope s__law_picks) .none kV18 dc18 pm18 an18 cd18 ct18), sl18⟩)
    (c18 : PySem.W.codeIn K cd18 "_law_picks" = true) (k18 : PySem.W.keepIn K (.ref f18) = true)
    {f19 : Addr} {od19 an19 : Option Addr} {sl19 : Array (Option Value)} {oc19 kV19 dc19 pm19 cd19 ct19 : Value}
    (a19 : PySem.W.nsIn K mainGlobals "_law_place" = some (some (.ref f19)))
    (l19 : K.lookup f19 = some ⟨oc19, od19, .func (PySem.W.fnOf "_law_place" "_law_place" (defArgs s__law_place) (defBody s__law_place) (defScope s__law_place) .none kV19 dc19 pm19 an19 cd19 ct19), sl19⟩)
    (c19 : PySem.W.codeIn K cd19 "_law_place" = true) (k19 : PySem.W.keepIn K (.ref f19) = true)
    {f20 : Addr} {od20 an20 : Option Addr} {sl20 : Array (Option Value)} {oc20 kV20 dc20 pm20 cd20 ct20 : Value}
    (a20 : PySem.W.nsIn K mainGlobals "_law_states" = some (some (.ref f20)))
    (l20 : K.lookup f20 = some ⟨oc20, od20, .func (PySem.W.fnOf "_law_states" "_law_states" (defArgs s__law_states) (defBody s__law_states) (defScope s__law_states) .none kV20 dc20 pm20 an20 cd20 ct20), sl20⟩)
    (c20 : PySem.W.codeIn K cd20 "_law_states" = true) (k20 : PySem.W.keepIn K (.ref f20) = true)
    {f21 : Addr} {od21 an21 : Option Addr} {sl21 : Array (Option Value)} {oc21 kV21 dc21 pm21 cd21 ct21 : Value}
    (a21 : PySem.W.nsIn K mainGlobals "_law_is_set" = some (some (.ref f21)))
    (l21 : K.lookup f21 = some ⟨oc21, od21, .func (PySem.W.fnOf "_law_is_set" "_law_is_set" (defArgs s__law_is_set) (defBody s__law_is_set) (defScope s__law_is_set) .none kV21 dc21 pm21 an21 cd21 ct21), sl21⟩)
    (c21 : PySem.W.codeIn K cd21 "_law_is_set" = true) (k21 : PySem.W.keepIn K (.ref f21) = true)
    {f22 : Addr} {od22 an22 : Option Addr} {sl22 : Array (Option Value)} {oc22 kV22 dc22 pm22 cd22 ct22 : Value}
    (a22 : PySem.W.nsIn K mainGlobals "_law_number_right" = some (some (.ref f22)))
    (l22 : K.lookup f22 = some ⟨oc22, od22, .func (PySem.W.fnOf "_law_number_right" "_law_number_right" (defArgs s__law_number_right) (defBody s__law_number_right) (defScope s__law_number_right) .none kV22 dc22 pm22 an22 cd22 ct22), sl22⟩)
    (c22 : PySem.W.codeIn K cd22 "_law_number_right" = true) (k22 : PySem.W.keepIn K (.ref f22) = true)
    {f23 : Addr} {od23 an23 : Option Addr} {sl23 : Array (Option Value)} {oc23 kV23 dc23 pm23 cd23 ct23 : Value}
    (a23 : PySem.W.nsIn K mainGlobals "_law_set_right" = some (some (.ref f23)))
    (l23 : K.lookup f23 = some ⟨oc23, od23, .func (PySem.W.fnOf "_law_set_right" "_law_set_right" (defArgs s__law_set_right) (defBody s__law_set_right) (defScope s__law_set_right) .none kV23 dc23 pm23 an23 cd23 ct23), sl23⟩)
    (c23 : PySem.W.codeIn K cd23 "_law_set_right" = true) (k23 : PySem.W.keepIn K (.ref f23) = true)
    {f24 : Addr} {od24 an24 : Option Addr} {sl24 : Array (Option Value)} {oc24 kV24 dc24 pm24 cd24 ct24 : Value}
    (a24 : PySem.W.nsIn K mainGlobals "law" = some (some (.ref f24)))
    (l24 : K.lookup f24 = some ⟨oc24, od24, .func (PySem.W.fnOf "law" "law" (defArgs s_law) (defBody s_law) (defScope s_law) .none kV24 dc24 pm24 an24 cd24 ct24), sl24⟩)
    (c24 : PySem.W.codeIn K cd24 "law" = true) (k24 : PySem.W.keepIn K (.ref f24) = true)
    (z_all : PySem.W.nsIn K mainGlobals "all" = some none)
    (z_bool : PySem.W.nsIn K mainGlobals "bool" = some none)
    (z_enumerate : PySem.W.nsIn K mainGlobals "enumerate" = some none)
    (z_int : PySem.W.nsIn K mainGlobals "int" = some none)
    (z_isinstance : PySem.W.nsIn K mainGlobals "isinstance" = some none)
    (z_len : PySem.W.nsIn K mainGlobals "len" = some none)
    (z_list : PySem.W.nsIn K mainGlobals "list" = some none)
    (z_range : PySem.W.nsIn K mainGlobals "range" = some none)
    (z_set : PySem.W.nsIn K mainGlobals "set" = some none)
    (z_sorted : PySem.W.nsIn K mainGlobals "sorted" = some none)
    (z_sum : PySem.W.nsIn K mainGlobals "sum" = some none)
    (z_type : PySem.W.nsIn K mainGlobals "type" = some none)
    (z_zip : PySem.W.nsIn K mainGlobals "zip" = some none)
    (m_comb : PySem.W.nsIn K mainGlobals "comb" = some (some (.builtin "math.comb")))
    (m_factorial : PySem.W.nsIn K mainGlobals "factorial" = some (some (.builtin "math.factorial")))
    {t_GREATEST_SIZE : Tok} (i_GREATEST_SIZE : PySem.W.nsIn K mainGlobals "GREATEST_SIZE" = some (some (.int 20 t_GREATEST_SIZE)))
    : ∃ fd : FuncData, (∀ (s : Shared) (v : Value), BindsTo s fd ⟨[v], []⟩ [("_law_script", v)]) ∧ ∀ base : Heap, K.In base → base.Ns mainGlobals mg → FnOk l.prog w K mg base CX0 35 fa fd ["_law_script"] (spLaw K) := by
  have e := hfa.symm.trans (PySem.W.mg_of X G a24)
  cases e
  have F0 := fun_mk (st := s_is_number) l0 c0 k0
  have b0 := F0.binds (ps := ["thing"]) fun _ _ _ _ _ _ us hl => match us, hl with | [_], _ => rfl
  have F1 := fun_mk (st := s_is_size) l1 c1 k1
  have b1 := F1.binds (ps := ["thing", "least", "greatest"]) fun _ _ _ _ _ _ us hl => match us, hl with | [_, _, _], _ => rfl
  have F2 := fun_mk (st := s_is_list_of_numbers) l2 c2 k2
  have b2 := F2.binds (ps := ["thing"]) fun _ _ _ _ _ _ us hl => match us, hl with | [_], _ => rfl
  have F3 := fun_mk (st := s_is_falling) l3 c3 k3
  have b3 := F3.binds (ps := ["numbers"]) fun _ _ _ _ _ _ us hl => match us, hl with | [_], _ => rfl
  have F4 := fun_mk (st := s_is_set) l4 c4 k4
  have b4 := F4.binds (ps := ["thing"]) fun _ _ _ _ _ _ us hl => match us, hl with | [_], _ => rfl
  have F5 := fun_mk (st := s_power) l5 c5 k5
  have b5 := F5.binds (ps := ["base", "degree"]) fun _ _ _ _ _ _ us hl => match us, hl with | [_, _], _ => rfl
  have F6 := fun_mk (st := s_guess_above) l6 c6 k6
  have b6 := F6.binds (ps := ["number", "degree"]) fun _ _ _ _ _ _ us hl => match us, hl with | [_, _], _ => rfl
  have F7 := fun_mk (st := s_whole_root) l7 c7 k7
  have b7 := F7.binds (ps := ["number", "degree"]) fun _ _ _ _ _ _ us hl => match us, hl with | [_, _], _ => rfl
  have F8 := fun_mk (st := s_greatest_first) l8 c8 k8
  have b8 := F8.binds (ps := ["size", "number"]) fun _ _ _ _ _ _ us hl => match us, hl with | [_, _], _ => rfl
  have F9 := fun_mk (st := s_numbers_of_set) l9 c9 k9
  have b9 := F9.binds (ps := ["size", "number"]) fun _ _ _ _ _ _ us hl => match us, hl with | [_, _], _ => rfl
  have F10 := fun_mk (st := s_check_set) l10 c10 k10
  have b10 := F10.binds (ps := ["some"]) fun _ _ _ _ _ _ us hl => match us, hl with | [_], _ => rfl
  have F11 := fun_mk (st := s_number_of) l11 c11 k11
  have b11 := F11.binds (ps := ["some"]) fun _ _ _ _ _ _ us hl => match us, hl with | [_], _ => rfl
  have F12 := fun_mk (st := s_set_of) l12 c12 k12
  have b12 := F12.binds (ps := ["size", "number"]) fun _ _ _ _ _ _ us hl => match us, hl with | [_, _], _ => rfl
  have F13 := fun_mk (st := s_beneath) l13 c13 k13
  have b13 := F13.binds (ps := ["some"]) fun _ _ _ _ _ _ us hl => match us, hl with | [_], _ => rfl
  have F14 := fun_mk (st := s__law_cell_at) l14 c14 k14
  have b14 := F14.binds (ps := ["_law_script", "_law_k"]) fun _ _ _ _ _ _ us hl => match us, hl with | [_, _], _ => rfl
  have F15 := fun_mk (st := s__law_draw) l15 c15 k15
  have b15 := F15.binds (ps := ["_law_cell", "_law_k", "_law_many"]) fun _ _ _ _ _ _ us hl => match us, hl with | [_, _, _], _ => rfl
  have F16 := fun_mk (st := s__law_value) l16 c16 k16
  have b16 := F16.binds (ps := ["_law_cell", "_law_k", "_law_limit"]) fun _ _ _ _ _ _ us hl => match us, hl with | [_, _, _], _ => rfl
  have F17 := fun_mk (st := s__law_whole) l17 c17 k17
  have b17 := F17.binds (ps := ["_law_number"]) fun _ _ _ _ _ _ us hl => match us, hl with | [_], _ => rfl
  have F18 := fun_mk (st := s__law_picks) l18 c18 k18
  have b18 := F18.binds (ps := ["_law_things", "_law_size"]) fun _ _ _ _ _ _ us hl => match us, hl with | [_, _], _ => rfl
  have F19 := fun_mk (st := s__law_place) l19 c19 k19
  have b19 := F19.binds (ps := ["_law_some"]) fun _ _ _ _ _ _ us hl => match us, hl with | [_], _ => rfl
  have F20 := fun_mk (st := s__law_states) l20 c20 k20
  have b20 := F20.binds (ps := ["_law_script"]) fun _ _ _ _ _ _ us hl => match us, hl with | [_], _ => rfl
  have F21 := fun_mk (st := s__law_is_set) l21 c21 k21
  have b21 := F21.binds (ps := ["_law_found", "_law_size"]) fun _ _ _ _ _ _ us hl => match us, hl with | [_, _], _ => rfl
  have F22 := fun_mk (st := s__law_number_right) l22 c22 k22
  have b22 := F22.binds (ps := ["_law_size", "_law_number"]) fun _ _ _ _ _ _ us hl => match us, hl with | [_, _], _ => rfl
  have F23 := fun_mk (st := s__law_set_right) l23 c23 k23
  have b23 := F23.binds (ps := ["_law_some"]) fun _ _ _ _ _ _ us hl => match us, hl with | [_], _ => rfl
  have F24 := fun_mk (st := s_law) l24 c24 k24
  have b24 := F24.binds (ps := ["_law_script"]) fun _ _ _ _ _ _ us hl => match us, hl with | [_], _ => rfl
  let T : Txt K mg := {
    f_is_number := _, d_is_number := _, F_is_number := F0, g_is_number := PySem.W.mg_of X G a0, b_is_number := b0,
    f_is_size := _, d_is_size := _, F_is_size := F1, g_is_size := PySem.W.mg_of X G a1, b_is_size := b1,
    f_is_list_of_numbers := _, d_is_list_of_numbers := _, F_is_list_of_numbers := F2, g_is_list_of_numbers := PySem.W.mg_of X G a2, b_is_list_of_numbers := b2,
    f_is_falling := _, d_is_falling := _, F_is_falling := F3, g_is_falling := PySem.W.mg_of X G a3, b_is_falling := b3,
    f_is_set := _, d_is_set := _, F_is_set := F4, g_is_set := PySem.W.mg_of X G a4, b_is_set := b4,
    f_power := _, d_power := _, F_power := F5, g_power := PySem.W.mg_of X G a5, b_power := b5,
    f_guess_above := _, d_guess_above := _, F_guess_above := F6, g_guess_above := PySem.W.mg_of X G a6, b_guess_above := b6,
    f_whole_root := _, d_whole_root := _, F_whole_root := F7, g_whole_root := PySem.W.mg_of X G a7, b_whole_root := b7,
    f_greatest_first := _, d_greatest_first := _, F_greatest_first := F8, g_greatest_first := PySem.W.mg_of X G a8, b_greatest_first := b8,
    f_numbers_of_set := _, d_numbers_of_set := _, F_numbers_of_set := F9, g_numbers_of_set := PySem.W.mg_of X G a9, b_numbers_of_set := b9,
    f_check_set := _, d_check_set := _, F_check_set := F10, g_check_set := PySem.W.mg_of X G a10, b_check_set := b10,
    f_number_of := _, d_number_of := _, F_number_of := F11, g_number_of := PySem.W.mg_of X G a11, b_number_of := b11,
    f_set_of := _, d_set_of := _, F_set_of := F12, g_set_of := PySem.W.mg_of X G a12, b_set_of := b12,
    f_beneath := _, d_beneath := _, F_beneath := F13, g_beneath := PySem.W.mg_of X G a13, b_beneath := b13,
    f__law_cell_at := _, d__law_cell_at := _, F__law_cell_at := F14, g__law_cell_at := PySem.W.mg_of X G a14, b__law_cell_at := b14,
    f__law_draw := _, d__law_draw := _, F__law_draw := F15, g__law_draw := PySem.W.mg_of X G a15, b__law_draw := b15,
    f__law_value := _, d__law_value := _, F__law_value := F16, g__law_value := PySem.W.mg_of X G a16, b__law_value := b16,
    f__law_whole := _, d__law_whole := _, F__law_whole := F17, g__law_whole := PySem.W.mg_of X G a17, b__law_whole := b17,
    f__law_picks := _, d__law_picks := _, F__law_picks := F18, g__law_picks := PySem.W.mg_of X G a18, b__law_picks := b18,
    f__law_place := _, d__law_place := _, F__law_place := F19, g__law_place := PySem.W.mg_of X G a19, b__law_place := b19,
    f__law_states := _, d__law_states := _, F__law_states := F20, g__law_states := PySem.W.mg_of X G a20, b__law_states := b20,
    f__law_is_set := _, d__law_is_set := _, F__law_is_set := F21, g__law_is_set := PySem.W.mg_of X G a21, b__law_is_set := b21,
    f__law_number_right := _, d__law_number_right := _, F__law_number_right := F22, g__law_number_right := PySem.W.mg_of X G a22, b__law_number_right := b22,
    f__law_set_right := _, d__law_set_right := _, F__law_set_right := F23, g__law_set_right := PySem.W.mg_of X G a23, b__law_set_right := b23,
    f_law := _, d_law := _, F_law := F24, g_law := PySem.W.mg_of X G a24, b_law := b24,
    z_all := PySem.W.mg_none_of X G z_all,
    z_bool := PySem.W.mg_none_of X G z_bool,
    z_enumerate := PySem.W.mg_none_of X G z_enumerate,
    z_int := PySem.W.mg_none_of X G z_int,
    z_isinstance := PySem.W.mg_none_of X G z_isinstance,
    z_len := PySem.W.mg_none_of X G z_len,
    z_list := PySem.W.mg_none_of X G z_list,
    z_range := PySem.W.mg_none_of X G z_range,
    z_set := PySem.W.mg_none_of X G z_set,
    z_sorted := PySem.W.mg_none_of X G z_sorted,
    z_sum := PySem.W.mg_none_of X G z_sum,
    z_type := PySem.W.mg_none_of X G z_type,
    z_zip := PySem.W.mg_none_of X G z_zip,
    m_comb := PySem.W.mg_of X G m_comb,
    m_factorial := PySem.W.mg_of X G m_factorial,
    c_GREATEST_SIZE := ⟨_, PySem.W.mg_of X G i_GREATEST_SIZE⟩ }
  exact ⟨_, fun s v => .of_eq rfl, fun base _ _ => ok_law T⟩
end Sh
open PySem PySem.W PyProof.Rows
set_option maxHeartbeats 0 in
theorem PySem.Challenge.cw_shadowrow_k01_whole_numbers_holds : PySem.Challenge.rw_shadowrow_k01_whole_numbers.Holds := by
  w_on; o_law; k_head; (case hw => w_witness2)
  k_fill
  refine L2.walk_ofB (l := PySem.Challenge.rw_shadowrow_k01_whole_numbers) (n := 63) (k := 35) (x := "_law_script") (CX := fun _ => L2.CX0) (sp := fun w => Sh.spLaw _) rfl (by decide) rfl ⟨rfl, by decide, by decide⟩ (fun w h Y => PySem.W.kIn_of Y) ?F (fun _ _ a ns hl hb _ hS => ⟨a, ns, rfl, hS, hl, hb, fun _ _ => rfl⟩) (fun _ _ _ _ _ h => h)
  case F =>
    intro w mg fa h KX G hmg
    refine' Sh.all_mk KX G hmg ?a0 ?l0 ?c0 ?k0 ?a1 ?l1 ?c1 ?k1 ?a2 ?l2 ?c2 ?k2 ?a3 ?l3 ?c3 ?k3 ?a4 ?l4 ?c4 ?k4 ?a5 ?l5 ?c5 ?k5 ?a6 ?l6 ?c6 ?k6 ?a7 ?l7 ?c7 ?k7 ?a8 ?l8 ?c8 ?k8 ?a9 ?l9 ?c9 ?k9 ?a10 ?l10 ?c10 ?k10 ?a11 ?l11 ?c11 ?k11 ?a12 ?l12 ?c12 ?k12 ?a13 ?l13 ?c13 ?k13 ?a14 ?l14 ?c14 ?k14 ?a15 ?l15 ?c15 ?k15 ?a16 ?l16 ?c16 ?k16 ?a17 ?l17 ?c17 ?k17 ?a18 ?l18 ?c18 ?k18 ?a19 ?l19 ?c19 ?k19 ?a20 ?l20 ?c20 ?k20 ?a21 ?l21 ?c21 ?k21 ?a22 ?l22 ?c22 ?k22 ?a23 ?l23 ?c23 ?k23 ?a24 ?l24 ?c24 ?k24 ?z_all ?z_bool ?z_enumerate ?z_int ?z_isinstance ?z_len ?z_list ?z_range ?z_set ?z_sorted ?z_sum ?z_type ?z_zip ?m_comb ?m_factorial ?i_GREATEST_SIZE
    (case a0 => k_is)
    (case l0 => k_is)
    (case c0 => k_is)
    (case k0 => k_is)
    (case a1 => k_is)
    (case l1 => k_is)
    (case c1 => k_is)
    (case k1 => k_is)
    (case a2 => k_is)
    (case l2 => k_is)
    (case c2 => k_is)
    (case k2 => k_is)
    (case a3 => k_is)
    (case l3 => k_is)
    (case c3 => k_is)
    (case k3 => k_is)
    (case a4 => k_is)
    (case l4 => k_is)
    (case c4 => k_is)
    (case k4 => k_is)
    (case a5 => k_is)
    (case l5 => k_is)
    (case c5 => k_is)
    (case k5 => k_is)
    (case a6 => k_is)
    (case l6 => k_is)
    (case c6 => k_is)
    (case k6 => k_is)
    (case a7 => k_is)
    (case l7 => k_is)
    (case c7 => k_is)
    (case k7 => k_is)
    (case a8 => k_is)
    (case l8 => k_is)
    (case c8 => k_is)
    (case k8 => k_is)
    (case a9 => k_is)
    (case l9 => k_is)
    (case c9 => k_is)
    (case k9 => k_is)
    (case a10 => k_is)
    (case l10 => k_is)
    (case c10 => k_is)
    (case k10 => k_is)
    (case a11 => k_is)
    (case l11 => k_is)
    (case c11 => k_is)
    (case k11 => k_is)
    (case a12 => k_is)
    (case l12 => k_is)
    (case c12 => k_is)
    (case k12 => k_is)
    (case a13 => k_is)
    (case l13 => k_is)
    (case c13 => k_is)
    (case k13 => k_is)
    (case a14 => k_is)
    (case l14 => k_is)
    (case c14 => k_is)
    (case k14 => k_is)
    (case a15 => k_is)
    (case l15 => k_is)
    (case c15 => k_is)
    (case k15 => k_is)
    (case a16 => k_is)
    (case l16 => k_is)
    (case c16 => k_is)
    (case k16 => k_is)
    (case a17 => k_is)
    (case l17 => k_is)
    (case c17 => k_is)
    (case k17 => k_is)
    (case a18 => k_is)
    (case l18 => k_is)
    (case c18 => k_is)
    (case k18 => k_is)
    (case a19 => k_is)
    (case l19 => k_is)
    (case c19 => k_is)
    (case k19 => k_is)
    (case a20 => k_is)
    (case l20 => k_is)
    (case c20 => k_is)
    (case k20 => k_is)
    (case a21 => k_is)
    (case l21 => k_is)
    (case c21 => k_is)
    (case k21 => k_is)
    (case a22 => k_is)
    (case l22 => k_is)
    (case c22 => k_is)
    (case k22 => k_is)
    (case a23 => k_is)
    (case l23 => k_is)
    (case c23 => k_is)
    (case k23 => k_is)
    (case a24 => k_is)
    (case l24 => k_is)
    (case c24 => k_is)
    (case k24 => k_is)
    (case z_all => k_is)
    (case z_bool => k_is)
    (case z_enumerate => k_is)
    (case z_int => k_is)
    (case z_isinstance => k_is)
    (case z_len => k_is)
    (case z_list => k_is)
    (case z_range => k_is)
    (case z_set => k_is)
    (case z_sorted => k_is)
    (case z_sum => k_is)
    (case z_type => k_is)
    (case z_zip => k_is)
    (case m_comb => k_is)
    (case m_factorial => k_is)
    (case i_GREATEST_SIZE => k_is)
