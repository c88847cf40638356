import PyProof.Rows.All
import Wide.All
import OpenK.AllK
import Wide.FinOn
import HandS.ForMost
import HandS.More
import HandS.Wide
import HandS.WideBits
import HandS.Gcd
import HandS.IsInst
import HandS.Strs
import HandS.Style
import HandS.SetFor
import KE.KMathGC
import KE.SortData
import HandS.EndBits
import HandS.Dict
import HandS.Small
import HandS.Conv
import HandS.List
import HandS.Call
import HandS.CallRecv
import HandS.Iter
import HandS.TupLe
import PySem.Challenge.RW_shadowrow_k03_whole_rows
set_option Elab.async false
set_option linter.all false
set_option maxRecDepth 100000
set_option maxHeartbeats 4000000
/-! The mathematics of Shadowrow: counts of sets, greatest picks, whole roots. Core Lean alone. -/
namespace Sh
/-! ### how many sets of k there are of n things -/
def ch : Nat → Nat → Nat
  | _, 0 => 1
  | 0, _ + 1 => 0
  | n + 1, k + 1 => ch n k + ch n (k + 1)
theorem ch_zero (n : Nat) : ch n 0 = 1 := by cases n <;> rfl
theorem ch_none (k : Nat) : ch 0 (k + 1) = 0 := rfl
theorem ch_step (n k : Nat) : ch (n + 1) (k + 1) = ch n k + ch n (k + 1) := rfl
theorem ch_few : ∀ {n k : Nat}, n < k → ch n k = 0
  | 0, k + 1, _ => rfl
  | n + 1, k + 1, h => by
    rw [ch_step, ch_few (show n < k by omega), ch_few (show n < k + 1 by omega)]
theorem ch_pos : ∀ {n k : Nat}, k ≤ n → 0 < ch n k
  | n, 0, _ => by rw [ch_zero]; exact Nat.one_pos
  | n + 1, k + 1, h => by
    rw [ch_step]
    have := ch_pos (show k ≤ n by omega)
    omega
theorem ch_self : ∀ n : Nat, ch n n = 1
  | 0 => rfl
  | n + 1 => by rw [ch_step, ch_self n, ch_few (Nat.lt_succ_self n)]
theorem ch_one : ∀ n : Nat, ch n 1 = n
  | 0 => rfl
  | n + 1 => by rw [ch_step, ch_zero, ch_one n]; omega
theorem ch_le_succ (n k : Nat) : ch n k ≤ ch (n + 1) k := by
  cases k with
  | zero => rw [ch_zero, ch_zero]; exact Nat.le_refl _
  | succ k => rw [ch_step]; omega
theorem ch_mono {m n : Nat} (h : m ≤ n) (k : Nat) : ch m k ≤ ch n k := by
  induction h with
  | refl => exact Nat.le_refl _
  | step _ ih => exact Nat.le_trans ih (ch_le_succ _ k)
theorem ch_lt_succ {n k : Nat} (h : k ≤ n) : ch n (k + 1) < ch (n + 1) (k + 1) := by
  rw [ch_step]
  have := ch_pos h
  omega
theorem ch_lt {m n k : Nat} (h : m < n) (hk : k < n) : ch m (k + 1) < ch n (k + 1) := by
  obtain ⟨j, rfl⟩ : ∃ j, n = j + 1 := ⟨n - 1, by omega⟩
  exact Nat.lt_of_le_of_lt (ch_mono (show m ≤ j by omega) _) (ch_lt_succ (by omega))
/-- there is a number with more sets than m -/
theorem ch_more (k : Nat) : ∀ m : Nat, m < ch (m + k + 1) (k + 1)
  | 0 => ch_pos (by omega)
  | m + 1 => by
    have h1 := ch_more k m
    have h2 := ch_pos (show k ≤ m + k + 1 by omega)
    have e : m + 1 + k + 1 = (m + k + 1) + 1 := by omega
    rw [e, ch_step]
    omega
/-- (k + 1) * C(n, k + 1) = (n - k) * C(n, k) -/
theorem ch_next : ∀ n k : Nat, (k + 1) * ch n (k + 1) = ch n k * (n - k)
  | 0, k => by
    rw [ch_none, Nat.mul_zero, Nat.zero_sub, Nat.mul_zero]
  | n + 1, 0 => by
    rw [ch_zero, ch_one]
    omega
  | n + 1, k + 1 => by
    have h1 := ch_next n k
    have h2 := ch_next n (k + 1)
    by_cases h : k + 1 ≤ n
    · obtain ⟨d, rfl⟩ : ∃ d, n = k + 1 + d := ⟨n - (k + 1), by omega⟩
      have e1 : k + 1 + d - k = d + 1 := by omega
      have e2 : k + 1 + d - (k + 1) = d := by omega
      have e3 : k + 1 + d + 1 - (k + 1) = d + 1 := by omega
      rw [e1] at h1
      rw [e2] at h2
      rw [ch_step, ch_step, e3]
      generalize ch (k + 1 + d) (k + 1 + 1) = c at *
      generalize ch (k + 1 + d) (k + 1) = b at *
      generalize ch (k + 1 + d) k = a at *
      grind
    · rw [ch_few (show n + 1 < k + 1 + 1 by omega)]
      have e3 : n + 1 - (k + 1) = 0 := by omega
      rw [e3]
      simp
theorem ch_div (n k : Nat) : ch n k * (n - k) / (k + 1) = ch n (k + 1) := by
  rw [← ch_next, Nat.mul_div_cancel_left _ (by omega)]
def fac : Nat → Nat
  | 0 => 1
  | n + 1 => (n + 1) * fac n
theorem fac_pos : ∀ n, 0 < fac n
  | 0 => Nat.one_pos
  | n + 1 => Nat.mul_pos (Nat.succ_pos n) (fac_pos n)
/-- n * (n - 1) * .., k factors -/
def fal (n : Nat) : Nat → Nat
  | 0 => 1
  | k + 1 => fal n k * (n - k)
theorem fal_ch (n : Nat) : ∀ k : Nat, fal n k = ch n k * fac k
  | 0 => by rw [ch_zero]; rfl
  | k + 1 => by
    show fal n k * (n - k) = ch n (k + 1) * ((k + 1) * fac k)
    rw [fal_ch n k]
    have h := ch_next n k
    generalize ch n (k + 1) = a at *
    generalize ch n k = b at *
    generalize n - k = d at *
    grind
theorem fal_succ (n : Nat) : ∀ k : Nat, fal (n + 1) (k + 1) = (n + 1) * fal n k
  | 0 => by show 1 * (n + 1 - 0) = (n + 1) * 1; omega
  | k + 1 => by
    show fal (n + 1) (k + 1) * (n + 1 - (k + 1)) = (n + 1) * (fal n k * (n - k))
    rw [fal_succ n k, Nat.add_sub_add_right, Nat.mul_assoc]
/-- C(n, k) = C(n, n - k) -/
theorem ch_sym : ∀ {n k : Nat}, k ≤ n → ch n k = ch n (n - k)
  | n, 0, _ => by rw [ch_zero, Nat.sub_zero, ch_self]
  | n + 1, k + 1, h => by
    by_cases e : k = n
    · subst e; rw [ch_self, Nat.sub_self, ch_zero]
    · obtain ⟨d, hd⟩ : ∃ d, n - k = d + 1 := ⟨n - k - 1, by omega⟩
      rw [Nat.add_sub_add_right, hd, ch_step, ch_step]
      have h1 := ch_sym (show k ≤ n by omega)
      have h2 := ch_sym (show k + 1 ≤ n by omega)
      rw [hd] at h1
      have e2 : n - (k + 1) = d := by omega
      rw [e2] at h2
      omega
theorem ch_le_pow (n : Nat) : ∀ k : Nat, ch n k ≤ n ^ k
  | 0 => by rw [ch_zero, Nat.pow_zero]; exact Nat.le_refl _
  | k + 1 => by
    have h1 := ch_next n k
    have h2 := ch_le_pow n k
    have h3 : ch n (k + 1) ≤ (k + 1) * ch n (k + 1) := Nat.le_mul_of_pos_left _ (by omega)
    rw [h1] at h3
    rw [Nat.pow_succ]
    exact Nat.le_trans h3 (Nat.mul_le_mul h2 (Nat.sub_le _ _))
theorem fal_le (n : Nat) : ∀ k : Nat, fal n k ≤ n ^ k
  | 0 => Nat.le_refl _
  | k + 1 => by
    rw [Nat.pow_succ]
    exact Nat.mul_le_mul (fal_le n k) (Nat.sub_le _ _)
/-! ### where the search may start: the factors' mean -/
theorem mean_two (r c : Nat) : (r + (c + 1)) * (r - (c + 1)) ≤ r * r := by
  by_cases h : c + 1 ≤ r
  · obtain ⟨d, rfl⟩ : ∃ d, r = c + 1 + d := ⟨r - (c + 1), by omega⟩
    rw [Nat.add_sub_cancel_left]
    grind
  · have e : r - (c + 1) = 0 := by omega
    rw [e, Nat.mul_zero]
    exact Nat.zero_le _
theorem fal_mean (r : Nat) : ∀ k : Nat, fal (r + k / 2) (k + 1) ≤ r ^ (k + 1)
  | 0 => by show 1 * (r + 0 / 2 - 0) ≤ r ^ 1; simp
  | 1 => by
    show 1 * (r + 1 / 2 - 0) * (r + 1 / 2 - 1) ≤ r ^ 2
    simp [Nat.pow_succ]
    exact Nat.mul_le_mul_left _ (Nat.sub_le _ _)
  | k + 2 => by
    have ih := fal_mean r k
    have e : r + (k + 2) / 2 = (r + k / 2) + 1 := by omega
    rw [e, show k + 2 + 1 = (k + 1 + 1) + 1 from rfl, fal_succ]
    show (r + k / 2 + 1) * (fal (r + k / 2) (k + 1) * (r + k / 2 - (k + 1))) ≤ _
    have h2 := mean_two r (k / 2)
    have h3 : r + k / 2 - (k + 1) ≤ r - (k / 2 + 1) := by omega
    have h4 : (r + k / 2 + 1) * (r + k / 2 - (k + 1)) ≤ r * r := Nat.le_trans (Nat.mul_le_mul_left _ h3) (by rw [Nat.add_assoc]; exact h2)
    have h5 := Nat.mul_le_mul ih h4
    have e2 : r ^ (k + 1 + 1 + 1) = r ^ (k + 1) * (r * r) := by rw [Nat.pow_succ, Nat.pow_succ, Nat.mul_assoc]
    rw [e2]
    refine Nat.le_trans (Nat.le_of_eq ?_) h5
    generalize fal (r + k / 2) (k + 1) = f
    generalize r + k / 2 - (k + 1) = g
    generalize r + k / 2 + 1 = h
    grind
theorem start_ok {n k r : Nat} (h : r ^ (k + 1) ≤ n * fac (k + 1)) : ch (r + k / 2) (k + 1) ≤ n := by
  have h1 := fal_mean r k
  rw [fal_ch] at h1
  exact Nat.le_of_mul_le_mul_right (Nat.le_trans h1 h) (fac_pos _)
/-! ### whole roots, by Newton's steps -/
/-- r is the whole root of n -/
def IsRoot (n d r : Nat) : Prop := r ^ d ≤ n ∧ n < (r + 1) ^ d
theorem bern (r x : Int) (hr : 0 ≤ r) (hx : 0 ≤ x) : ∀ d : Nat, x ^ d * (x + ((d : Int) + 1) * (r - x)) ≤ r ^ (d + 1)
  | 0 => by
    rw [Int.pow_zero, Int.pow_succ, Int.pow_zero]
    omega
  | d + 1 => by
    have ih := bern r x hr hx d
    have h1 := Int.mul_le_mul_of_nonneg_left ih hr
    have hp : 0 ≤ x ^ d := Int.pow_nonneg hx
    have hs : 0 ≤ (r - x) * (r - x) := by
      by_cases h : 0 ≤ r - x
      · exact Int.mul_nonneg h h
      · have := Int.mul_nonneg (show 0 ≤ -(r - x) by omega) (show 0 ≤ -(r - x) by omega)
        rw [Int.neg_mul_neg] at this
        exact this
    have hd : 0 ≤ ((d : Int) + 1) := by omega
    have h2 : 0 ≤ x ^ d * (((d : Int) + 1) * ((r - x) * (r - x))) := Int.mul_nonneg hp (Int.mul_nonneg hd hs)
    rw [Int.pow_succ x d, Int.pow_succ r (d + 1)]
    have e : ((d + 1 : Nat) : Int) = (d : Int) + 1 := by omega
    rw [e]
    generalize x ^ d = p at *
    generalize r ^ (d + 1) = q at *
    generalize (d : Int) = z at *
    grind
/-- a step of Newton's from any x above 0 leads not below the root -/
theorem newton_above {n r x d : Nat} (h : r ^ (d + 1) ≤ n) (hx : 0 < x) : r ≤ (d * x + n / x ^ d) / (d + 1) := by
  rw [Nat.le_div_iff_mul_le (by omega)]
  have hp : 0 < x ^ d := Nat.pow_pos hx
  by_cases hc : r * (d + 1) ≤ d * x
  · exact Nat.le_trans hc (Nat.le_add_right _ _)
  · have hb := bern r x (by omega) (by omega) d
    have key : (r * (d + 1) - d * x) * x ^ d ≤ n := by
      refine Nat.le_trans ?_ h
      have e : ((r * (d + 1) - d * x : Nat) : Int) = (x : Int) + ((d : Int) + 1) * ((r : Int) - x) := by
        rw [Int.ofNat_sub (by omega)]
        simp only [Int.natCast_mul, Int.natCast_add, Int.natCast_one]
        grind
      have hb2 : (((r * (d + 1) - d * x) * x ^ d : Nat) : Int) ≤ ((r ^ (d + 1) : Nat) : Int) := by
        rw [Int.natCast_mul, e, Int.natCast_pow, Int.natCast_pow, Int.mul_comm]
        exact hb
      exact Int.ofNat_le.mp hb2
    have := Nat.sub_le_iff_le_add.mp ((Nat.le_div_iff_mul_le hp).mpr key)
    exact Nat.le_trans this (Nat.le_of_eq (Nat.add_comm _ _))
/-- above the root the step falls -/
theorem newton_falls {n x d : Nat} (h : n < x ^ (d + 1)) (hx : 0 < x) : (d * x + n / x ^ d) / (d + 1) < x := by
  rw [Nat.div_lt_iff_lt_mul (by omega)]
  have : n / x ^ d < x := by
    rw [Nat.div_lt_iff_lt_mul (Nat.pow_pos hx), Nat.mul_comm, ← Nat.pow_succ]
    exact h
  have e : x * (d + 1) = d * x + x := by rw [Nat.mul_add, Nat.mul_one, Nat.mul_comm]
  omega
theorem root_of {n x d : Nat} (hd : n < (x + 1) ^ (d + 1)) (hs : x ≤ (d * x + n / x ^ d) / (d + 1)) (hx : 0 < x) : IsRoot n (d + 1) x := by
  refine ⟨?_, hd⟩
  refine Nat.le_of_not_lt fun q => ?_
  have := newton_falls q hx
  omega
theorem step_keeps {n x d : Nat} (hx : 0 < x) : n < ((d * x + n / x ^ d) / (d + 1) + 1) ^ (d + 1) := by
  refine Nat.lt_of_not_le fun q => ?_
  have := newton_above q hx
  omega
theorem root_one {n d r : Nat} (a : IsRoot n (d + 1) r) {q : Nat} (b : IsRoot n (d + 1) q) : r = q := by
  have h1 : r < q + 1 := (Nat.pow_lt_pow_iff_left (by omega)).mp (Nat.lt_of_le_of_lt a.1 b.2)
  have h2 : q < r + 1 := (Nat.pow_lt_pow_iff_left (by omega)).mp (Nat.lt_of_le_of_lt b.1 a.2)
  omega
end Sh

/-! Sets by their numbers: greatest picks. -/
namespace Sh
def topGo (k n : Nat) : Nat → Nat
  | 0 => 0
  | f + 1 => if ch (f + 1) (k + 1) ≤ n then f + 1 else topGo k n f
/-- the greatest a with no more than n sets of size k + 1 below it -/
def top (k n : Nat) : Nat := topGo k n (n + k + 1)
theorem topGo_le (k n : Nat) : ∀ f, ch (topGo k n f) (k + 1) ≤ n
  | 0 => Nat.zero_le _
  | f + 1 => by
    unfold topGo
    split
    · assumption
    · exact topGo_le k n f
theorem topGo_max (k n : Nat) : ∀ f a, a ≤ f → ch a (k + 1) ≤ n → a ≤ topGo k n f
  | 0, a, h, _ => by rw [Nat.le_zero.mp h]; exact Nat.zero_le _
  | f + 1, a, h, hc => by
    unfold topGo
    split
    · exact h
    · rename_i hn
      refine topGo_max k n f a ?_ hc
      refine Nat.le_of_lt_succ (Nat.lt_of_le_of_ne h fun e => hn ?_)
      have e' : a = f + 1 := e
      rw [← e']
      exact hc
theorem top_le (k n : Nat) : ch (top k n) (k + 1) ≤ n := topGo_le k n _
theorem below_top {k n a : Nat} (h : ch a (k + 1) ≤ n) : a ≤ top k n := by
  refine topGo_max k n _ a ?_ h
  refine Nat.le_of_not_lt fun q => ?_
  have h1 := ch_more k n
  have h2 := ch_mono (show n + k + 1 ≤ a by omega) (k + 1)
  omega
theorem top_lt (k n : Nat) : n < ch (top k n + 1) (k + 1) := by
  refine Nat.lt_of_not_le fun q => ?_
  have := below_top q
  omega
theorem top_one {k n a : Nat} (h1 : ch a (k + 1) ≤ n) (h2 : n < ch (a + 1) (k + 1)) : a = top k n := by
  have h3 := below_top h1
  refine Nat.le_antisymm h3 (Nat.le_of_not_lt fun q => ?_)
  have h4 := ch_mono (show a + 1 ≤ top k n by omega) (k + 1)
  have h5 := top_le k n
  omega
theorem top_ge (k n : Nat) : k ≤ top k n := by
  refine Nat.le_of_not_lt fun q => ?_
  have h := top_lt k n
  rw [ch_few (by omega)] at h
  omega
theorem top_most (k n : Nat) : top k n ≤ n + k := by
  refine Nat.le_of_not_lt fun q => ?_
  have h1 := ch_more k n
  have h2 := ch_mono (show n + k + 1 ≤ top k n by omega) (k + 1)
  have h3 := top_le k n
  omega
theorem top_mono {k m n : Nat} (h : m ≤ n) : top k m ≤ top k n := below_top (Nat.le_trans (top_le k m) h)
/-- the set of size k with number n -/
def cas : Nat → Nat → List Nat
  | 0, _ => []
  | k + 1, n => top k n :: cas k (n - ch (top k n) (k + 1))
/-- a set's number -/
def num : List Nat → Nat
  | [] => 0
  | a :: l => ch a (l.length + 1) + num l
/-- falling, none twice -/
abbrev Down (l : List Nat) : Prop := l.Pairwise (· > ·)
theorem cas_length : ∀ k n, (cas k n).length = k
  | 0, _ => rfl
  | k + 1, n => by
    show (cas k _).length + 1 = k + 1
    rw [cas_length k]
theorem cas_succ (k n : Nat) : cas (k + 1) n = top k n :: cas k (n - ch (top k n) (k + 1)) := rfl
/-- what is left behind a pick is less than the pick's own sets -/
theorem left_lt (k n : Nat) : n - ch (top k n) (k + 1) < ch (top k n) k := by
  have h1 := top_lt k n
  have h2 := top_le k n
  rw [ch_step] at h1
  omega
theorem num_cas : ∀ k n : Nat, num (cas (k + 1) n) = n
  | 0, n => by
    show ch (top 0 n) (0 + 1) + 0 = n
    have h1 := top_lt 0 n
    have h2 := top_le 0 n
    rw [ch_one] at h1 h2 ⊢
    omega
  | k + 1, n => by
    rw [cas_succ]
    show ch (top (k + 1) n) ((cas (k + 1) _).length + 1) + num (cas (k + 1) _) = n
    rw [cas_length, num_cas k]
    have h2 := top_le (k + 1) n
    omega
theorem num_cas' {k n : Nat} (h : k = 0 → n = 0) : num (cas k n) = n := by
  cases k with
  | zero => rw [h rfl]; rfl
  | succ k => exact num_cas k n
theorem cas_down : ∀ k n : Nat, Down (cas k n) ∧ ∀ x ∈ cas k n, ∀ a, n < ch a k → x < a
  | 0, _ => ⟨List.Pairwise.nil, fun x hx => nomatch hx⟩
  | k + 1, n => by
    obtain ⟨h1, h2⟩ := cas_down k (n - ch (top k n) (k + 1))
    have h3 : ∀ a, n < ch a (k + 1) → top k n < a := fun a ha => by
      refine Nat.lt_of_not_le fun q => ?_
      have h4 := ch_mono q (k + 1)
      have h5 := top_le k n
      omega
    refine ⟨List.pairwise_cons.mpr ⟨fun x hx => h2 x hx _ (left_lt k n), h1⟩, fun x hx a ha => ?_⟩
    rcases List.mem_cons.mp hx with e | e
    · rw [e]
      exact h3 a ha
    · exact Nat.lt_trans (h2 x e _ (left_lt k n)) (h3 a ha)
/-- a falling list below a has fewer sets ahead of it -/
theorem num_lt : ∀ {l : List Nat} {a : Nat}, Down l → (∀ x ∈ l, x < a) → num l < ch a l.length
  | [], a, _, _ => by
    show 0 < ch a 0
    rw [ch_zero]
    exact Nat.one_pos
  | b :: l, a, h, hb => by
    have h1 := List.pairwise_cons.mp h
    have h2 := num_lt (a := b) h1.2 (fun x hx => h1.1 x hx)
    have h3 : b + 1 ≤ a := hb b List.mem_cons_self
    have h4 := ch_mono h3 (l.length + 1)
    rw [ch_step] at h4
    show ch b (l.length + 1) + num l < ch a (l.length + 1)
    omega
theorem top_num {a : Nat} {l : List Nat} (h : Down (a :: l)) : top l.length (num (a :: l)) = a := by
  have h1 := List.pairwise_cons.mp h
  have h2 := num_lt (a := a) h1.2 (fun x hx => h1.1 x hx)
  refine (top_one ?_ ?_).symm
  · show ch a (l.length + 1) ≤ ch a (l.length + 1) + num l
    omega
  · show ch a (l.length + 1) + num l < ch (a + 1) (l.length + 1)
    rw [ch_step]
    omega
/-- greatest picks give a set back -/
theorem cas_num : ∀ {l : List Nat}, Down l → cas l.length (num l) = l
  | [], _ => rfl
  | a :: l, h => by
    show cas (l.length + 1) (num (a :: l)) = a :: l
    rw [cas_succ, top_num h]
    have e : num (a :: l) - ch a (l.length + 1) = num l := by
      show ch a (l.length + 1) + num l - _ = _
      omega
    rw [e, cas_num (List.pairwise_cons.mp h).2]
/-- a greater number's set is greater -/
theorem cas_lt : ∀ {k m n : Nat}, m < n → cas (k + 1) m < cas (k + 1) n := by
  intro k
  induction k with
  | zero =>
    intro m n h
    rw [cas_succ, cas_succ]
    have e : ∀ z, top 0 z = z := fun z => by
      have h1 := top_lt 0 z
      have h2 := top_le 0 z
      rw [ch_one] at h1
      rw [ch_one] at h2
      omega
    rw [e, e]
    exact List.Lex.rel h
  | succ k ih =>
    intro m n h
    rw [cas_succ, cas_succ]
    have h1 := top_mono (k := k + 1) (Nat.le_of_lt h)
    rcases Nat.lt_or_ge (top (k + 1) m) (top (k + 1) n) with q | q
    · exact List.Lex.rel q
    · have e : top (k + 1) m = top (k + 1) n := by omega
      rw [e]
      have h2 := top_le (k + 1) m
      rw [e] at h2
      exact List.Lex.cons (ih (by omega))
theorem cas_bound {k n x : Nat} (h : x ∈ cas k n) : x ≤ n + k := by
  refine Nat.le_of_lt_succ ((cas_down k n).2 x h (n + k + 1) ?_)
  cases k with
  | zero => exact absurd h (by simp [cas])
  | succ k =>
    have h1 := ch_more k n
    have h2 := ch_mono (show n + k + 1 ≤ n + (k + 1) + 1 by omega) (k + 1)
    omega
theorem fac_lt : ∀ k, k < 21 → fac k < 2 ^ 62 := by decide
end Sh

/-! Rules of our own over the layer: great divisions, comb, factorial, lists compared and sorted, sets of lists. -/
namespace Sh
open PySem PySem.Spec PyProof.Rows L2
section
variable {X : Cx}
theorem op_fdivP : OpR X (binaryOp .FloorDiv) (rI CDivP fun i j => .int (i / j)) :=
  opI fun i j _ _ _ _ _ hc q => by
    have h1 : (0 : Int) < j := hc.1
    refine floordiv_int (by omega) ?_ (.inl hc.2)
    rw [Int.fdiv_eq_ediv_of_nonneg i (by omega)]
    exact q
/-- a dividend of at most 13500 bits is divided by C, whatever the divisor -/
theorem divp_few {i j : Int} (hj : 0 < j) (hi : i.natAbs.log2 < 13500) : CDivP i j := by
  refine ⟨hj, ?_⟩
  show (decide ((if j == 0 then 0 else j.natAbs.log2 / 30 + 1) > 300) && decide ((if i == 0 then 0 else i.natAbs.log2 / 30 + 1) > (if j == 0 then 0 else j.natAbs.log2 / 30 + 1) + 150)) = false
  by_cases h : (if j == 0 then 0 else j.natAbs.log2 / 30 + 1) > 300
  · have k : ¬ (if i == 0 then 0 else i.natAbs.log2 / 30 + 1) > (if j == 0 then 0 else j.natAbs.log2 / 30 + 1) + 150 := by
      generalize (if j == 0 then 0 else j.natAbs.log2 / 30 + 1) = d at *
      split <;> omega
    rw [decide_eq_false k, Bool.and_false]
  · rw [decide_eq_false h, Bool.false_and]
theorem log2_small {n b : Nat} (h : n < 2 ^ b) (h0 : 0 < b) : n.log2 < b := PySem.Flt.log2_lt_of h0 h
/-! ### comb, factorial -/
theorem fp_fal (n : Nat) : ∀ j : Nat, j ≤ n → Builtin.Math.fallingProduct (n : Int) j = ((fal n j : Nat) : Int)
  | 0, _ => rfl
  | j + 1, h => by
    rw [PySem.W.mc_fp_succ, fp_fal n j (by omega)]
    show _ = ((fal n j * (n - j) : Nat) : Int)
    rw [Int.natCast_mul, Int.ofNat_sub (show j ≤ n by omega)]
theorem fp_ch {n m : Nat} (h : m ≤ n) : Builtin.Math.fallingProduct (n : Int) m / Builtin.Math.fallingProduct (m : Int) m = ((ch n m : Nat) : Int) := by
  rw [fp_fal n m h, fp_fal m m (Nat.le_refl _), fal_ch, fal_ch, ch_self, Nat.one_mul, ← Int.natCast_ediv, Nat.mul_div_cancel _ (fac_pos m)]
/-- the bits of a count of sets -/
theorem ch_bits {n k b : Nat} (h : n < 2 ^ b) : ch n k ≤ 2 ^ (b * k) := by
  rw [Nat.pow_mul]
  exact Nat.le_trans (ch_le_pow n k) (Nat.pow_le_pow_left (Nat.le_of_lt h) k)
def rComb : List V → Hp → VK → Prop := fun vs H Q => ∃ n k b : Nat, vs = [.int (n : Int), .int (k : Int)] ∧ n < 2 ^ b ∧ b * k ≤ 100000000 ∧ k ≤ 9000 ∧ Q (.int ((ch n k : Nat) : Int)) H
theorem cr_comb : CallR X (.builtin "math.comb") rComb := by
  intro pins s σ H vs us Q I r h
  obtain ⟨n, k, b, rfl, hb, hbk, hk, q⟩ := h
  obtain ⟨t, u, rfl⟩ := Vals.int2 r
  suffices g : Gives (Builtin.«math.comb» ⟨[.int (n : Int) t, .int (k : Int) u], []⟩) (.int ((ch n k : Nat) : Int)) from
    call_function_meets PySem.W.MGF.kind_comb PySem.W.MGF.plain_comb PySem.W.MGF.entry_comb (PySem.W.MGF.args_comb _ _) g.meets ⟨.int _, H, I.tok _, ⟨_, rfl⟩, q⟩
  by_cases hkn : n < k
  · rw [ch_few hkn]
    exact PySem.W.mc_run_comb0 (n : Int) t (k : Int) u (by omega) (by omega) (by omega)
  · have e : min (k : Int) ((n : Int) - k) = ((min k (n - k) : Nat) : Int) := by omega
    have hm : min k (n - k) ≤ n := by omega
    have hc : ch n (min k (n - k)) = ch n k := by
      by_cases h2 : k ≤ n - k
      · rw [Nat.min_eq_left h2]
      · rw [Nat.min_eq_right (by omega), ← ch_sym (by omega)]
    have q := PySem.W.mc_run_comb (n : Int) t (k : Int) u (by omega) (by omega) (by omega)
    rw [e, Int.toNat_natCast, fp_ch hm, hc] at q
    refine q ?_ ?_ ?_ ?_
    · show ¬ _ > (2 : Int) ^ 63 - 1
      omega
    · show ¬ _ > (20000 : Int)
      omega
    · omega
    · have hp := ch_bits (n := n) (k := k) hb
      have hl : (ch n k).log2 ≤ b * k := PySem.W.mg_log (by
        have := Nat.two_pow_pos (b * k)
        rw [Nat.pow_succ]
        omega)
      rw [bitsLine_eq]
      show (ch n k).log2 < _
      omega
def rFact : List V → Hp → VK → Prop := fun vs H Q => ∃ n : Nat, vs = [.int (n : Int)] ∧ n ≤ 20000 ∧ Q (.int ((fac n : Nat) : Int)) H
theorem fac_nat : ∀ n : Nat, Builtin.Math.factorialNat n = fac n
  | 0 => rfl
  | n + 1 => by
    rw [PySem.W.mc_fac_succ, fac_nat n, Nat.mul_comm]
    rfl
theorem cr_factorial : CallR X (.builtin "math.factorial") rFact := by
  intro pins s σ H vs us Q I r h
  obtain ⟨n, rfl, hn, q⟩ := h
  obtain ⟨u, rfl, t, rfl⟩ : ∃ u, us = [u] ∧ RelV (.int (n : Int)) u := by
    cases r with
    | cons p r' =>
      cases r'
      exact ⟨_, rfl, p⟩
  refine PySem.W.mc_factorial (by omega) (by omega) fun _ => ?_
  rw [Int.toNat_natCast, fac_nat]
  exact ⟨.int _, H, I.tok _, ⟨_, rfl⟩, q⟩
/-! ### lists of ints compared by their order -/
def rLtL (K : PySem.W.Frag) : R2 := fun x y H Q => ∃ (a b : Addr) (ns ms : List Int), x = .ref a ∧ y = .ref b ∧ SqL K H a (ns.map V.int) ∧ SqL K H b (ms.map V.int) ∧ Q (.bl (decide (ns < ms))) H
theorem dp_ints {K : PySem.W.Frag} {H : Hp} : ∀ ns : List Int, DpAll K H (ns.map V.int) (ns.map PyData.int)
  | [] => .nil
  | n :: ns => .cons (.int n) (dp_ints ns)
theorem dp_list {K : PySem.W.Frag} {H : Hp} {a : Addr} {ns : List Int} (h : SqL K H a (ns.map V.int)) : Dp K H (.ref a) (.list (ns.map PyData.int)) := .lst h (dp_ints ns)
theorem op_ltL (hu : X.A.units + 64 < cLine) : OpR X (compareOp .Lt) (rLtL X.K) := by
  intro pins s σ H x y v u Q I rx ry h
  obtain ⟨a, b, ns, ms, rfl, rfl, ha, hb, q⟩ := h
  obtain ⟨as, r1⟩ := Dp.reads I _ _ v (dp_list ha) rx
  obtain ⟨bs, r2⟩ := Dp.reads I _ _ u (dp_list hb) ry
  have hd : min (PyData.list (ns.map PyData.int)).depth (PyData.list (ms.map PyData.int)).depth ≤ 1 := by
    have e : (PyData.list (ns.map PyData.int)).depth = 1 := by rw [PyData.depth, PySem.W.depth_ints]
    omega
  have hr := PySem.W.rcLt_alike (.list (ns.map PyData.int)) (.list (ms.map PyData.int)) X.A s v u as bs r1 r2 (by simpa [PySem.W.alike] using PySem.W.alike_ints ns ms) (by intro z; cases z) (by omega)
  have e : PySem.W.dataLt (.list (ns.map PyData.int)) (.list (ms.map PyData.int)) = decide (ns < ms) := by
    rw [PySem.W.dataLt_list]
    exact PySem.W.dataLt_ints ns ms
  rw [e] at hr
  exact hr X.prog X.w X.xe _ ⟨.bl _, H, I, rfl, q⟩
/-! ### arithmetic of numbers from 0 on -/
def NMul (n m : Nat) : Prop := ∃ a b, n < 2 ^ a ∧ m < 2 ^ b ∧ a + b ≤ 134217728
def NDiv (n m : Nat) : Prop := 0 < m ∧ ((∃ b, n < 2 ^ b ∧ b ≤ 13500) ∨ m < 1073741824)
theorem NDiv.few {n m b : Nat} (hm : 0 < m) (hn : n < 2 ^ b) (hb : b ≤ 13500) : NDiv n m := ⟨hm, .inl ⟨b, hn, hb⟩⟩
theorem NDiv.small {n m : Nat} (hm : 0 < m) (h : m < 1073741824) : NDiv n m := ⟨hm, .inr h⟩
def NShl (n m : Nat) : Prop := ∃ b, n < 2 ^ b ∧ b + m ≤ 134217728
def rNAdd : R2 := fun x y H Q => ∃ n m : Nat, x = .int (n : Int) ∧ y = .int (m : Int) ∧ Q (.int ((n + m : Nat) : Int)) H
def rNSub : R2 := fun x y H Q => ∃ n m : Nat, x = .int (n : Int) ∧ y = .int (m : Int) ∧ m ≤ n ∧ Q (.int ((n - m : Nat) : Int)) H
def rNMul : R2 := fun x y H Q => ∃ n m : Nat, x = .int (n : Int) ∧ y = .int (m : Int) ∧ NMul n m ∧ Q (.int ((n * m : Nat) : Int)) H
def rNDiv : R2 := fun x y H Q => ∃ n m : Nat, x = .int (n : Int) ∧ y = .int (m : Int) ∧ NDiv n m ∧ Q (.int ((n / m : Nat) : Int)) H
def rNMod : R2 := fun x y H Q => ∃ n m : Nat, x = .int (n : Int) ∧ y = .int (m : Int) ∧ 0 < m ∧ Q (.int ((n % m : Nat) : Int)) H
def rNShl : R2 := fun x y H Q => ∃ n m : Nat, x = .int (n : Int) ∧ y = .int (m : Int) ∧ NShl n m ∧ Q (.int ((n * 2 ^ m : Nat) : Int)) H
def rNShr : R2 := fun x y H Q => ∃ n m : Nat, x = .int (n : Int) ∧ y = .int (m : Int) ∧ Q (.int ((n / 2 ^ m : Nat) : Int)) H
def rNLt : R2 := fun x y H Q => ∃ n m : Nat, x = .int (n : Int) ∧ y = .int (m : Int) ∧ Q (.bl (decide (n < m))) H
def rNLe : R2 := fun x y H Q => ∃ n m : Nat, x = .int (n : Int) ∧ y = .int (m : Int) ∧ Q (.bl (decide (n ≤ m))) H
def rNGt : R2 := fun x y H Q => ∃ n m : Nat, x = .int (n : Int) ∧ y = .int (m : Int) ∧ Q (.bl (decide (m < n))) H
def rNGe : R2 := fun x y H Q => ∃ n m : Nat, x = .int (n : Int) ∧ y = .int (m : Int) ∧ Q (.bl (decide (m ≤ n))) H
def rNEq : R2 := fun x y H Q => ∃ n m : Nat, x = .int (n : Int) ∧ y = .int (m : Int) ∧ Q (.bl (decide (n = m))) H
def rNNe : R2 := fun x y H Q => ∃ n m : Nat, x = .int (n : Int) ∧ y = .int (m : Int) ∧ Q (.bl (!decide (n = m))) H
theorem op_nAdd : OpR X (binaryOp .Add) rNAdd := by
  intro pins s σ H x y v u Q I rx ry h
  obtain ⟨n, m, rfl, rfl, q⟩ := h
  exact op_add pins s σ H _ _ v u Q I rx ry ⟨_, _, rfl, rfl, q⟩
theorem op_nSub : OpR X (binaryOp .Sub) rNSub := by
  intro pins s σ H x y v u Q I rx ry h
  obtain ⟨n, m, rfl, rfl, c, q⟩ := h
  rw [Int.ofNat_sub c] at q
  exact op_sub pins s σ H _ _ v u Q I rx ry ⟨_, _, rfl, rfl, q⟩
theorem op_nMul : OpR X (binaryOp .Mult) rNMul := by
  intro pins s σ H x y v u Q I rx ry h
  obtain ⟨n, m, rfl, rfl, ⟨a, b, ha, hb, hab⟩, q⟩ := h
  rw [Int.natCast_mul] at q
  refine op_mulX pins s σ H _ _ v u Q I rx ry ⟨_, _, rfl, rfl, mulx_ok (a := a) (b := b) ?_ ?_ hab, q⟩
  · rw [Int.natAbs_natCast]; exact ha
  · rw [Int.natAbs_natCast]; exact hb
theorem op_nDiv : OpR X (binaryOp .FloorDiv) rNDiv := by
  intro pins s σ H x y v u Q I rx ry h
  obtain ⟨n, m, rfl, rfl, ⟨hm, hd⟩, q⟩ := h
  rw [Int.natCast_ediv] at q
  refine op_fdivP pins s σ H _ _ v u Q I rx ry ⟨_, _, rfl, rfl, ?_, q⟩
  rcases hd with ⟨b, hb, h9⟩ | hs
  · refine divp_few (by omega) ?_
    rw [Int.natAbs_natCast]
    by_cases h0 : n = 0
    · subst h0
      rw [Nat.log2_zero]
      decide
    · exact Nat.lt_of_lt_of_le ((Nat.log2_lt h0).mpr hb) h9
  · exact ⟨by omega, PyProof.noPylong_small (by rw [Int.natAbs_natCast]; exact hs)⟩
theorem op_nMod : OpR X (binaryOp .Mod) rNMod := by
  intro pins s σ H x y v u Q I rx ry h
  obtain ⟨n, m, rfl, rfl, hm, q⟩ := h
  rw [Int.natCast_emod] at q
  exact op_mod pins s σ H _ _ v u Q I rx ry ⟨_, _, rfl, rfl, (by omega), q⟩
theorem op_nShl : OpR X (binaryOp .LShift) rNShl := by
  intro pins s σ H x y v u Q I rx ry h
  obtain ⟨n, m, rfl, rfl, ⟨b, hb, hbm⟩, q⟩ := h
  rw [Int.natCast_mul, ← PyProof.Rows.two_pow_cast] at q
  refine op_shlN pins s σ H _ _ v u Q I rx ry ⟨_, _, rfl, rfl, shl_ok (n := b) ?_ hbm, q⟩
  rw [Int.natAbs_natCast]
  exact hb
theorem op_nShr : OpR X (binaryOp .RShift) rNShr := by
  intro pins s σ H x y v u Q I rx ry h
  obtain ⟨n, m, rfl, rfl, q⟩ := h
  rw [Int.natCast_ediv, ← PyProof.Rows.two_pow_cast] at q
  exact op_shrN pins s σ H _ _ v u Q I rx ry ⟨_, _, rfl, rfl, q⟩
theorem op_nLt : OpR X (compareOp .Lt) rNLt := by
  intro pins s σ H x y v u Q I rx ry h
  obtain ⟨n, m, rfl, rfl, q⟩ := h
  have q : Q (V.bl (decide (n < m))) H := q
  rw [← decide_eq_decide.mpr (Int.ofNat_lt (n := n) (m := m))] at q
  exact op_lt pins s σ H _ _ v u Q I rx ry ⟨_, _, rfl, rfl, q⟩
theorem op_nLe : OpR X (compareOp .LtE) rNLe := by
  intro pins s σ H x y v u Q I rx ry h
  obtain ⟨n, m, rfl, rfl, q⟩ := h
  have q : Q (V.bl (decide (n ≤ m))) H := q
  rw [← decide_eq_decide.mpr (Int.ofNat_le (m := n) (n := m))] at q
  exact op_le pins s σ H _ _ v u Q I rx ry ⟨_, _, rfl, rfl, q⟩
theorem op_nGt : OpR X (compareOp .Gt) rNGt := by
  intro pins s σ H x y v u Q I rx ry h
  obtain ⟨n, m, rfl, rfl, q⟩ := h
  have q : Q (V.bl (decide (m < n))) H := q
  rw [← decide_eq_decide.mpr (Int.ofNat_lt (n := m) (m := n))] at q
  exact op_gt pins s σ H _ _ v u Q I rx ry ⟨_, _, rfl, rfl, q⟩
theorem op_nGe : OpR X (compareOp .GtE) rNGe := by
  intro pins s σ H x y v u Q I rx ry h
  obtain ⟨n, m, rfl, rfl, q⟩ := h
  have q : Q (V.bl (decide (m ≤ n))) H := q
  rw [← decide_eq_decide.mpr (Int.ofNat_le (m := m) (n := n))] at q
  exact op_ge pins s σ H _ _ v u Q I rx ry ⟨_, _, rfl, rfl, q⟩
theorem nat_eq_dec (n m : Nat) : decide (V.int (n : Int) = V.int (m : Int)) = decide (n = m) :=
  decide_eq_decide.mpr ⟨fun h => Int.ofNat.inj (V.int.inj h), fun h => by rw [h]⟩
theorem op_nEq : OpR X (compareOp .Eq) rNEq := by
  intro pins s σ H x y v u Q I rx ry h
  obtain ⟨n, m, rfl, rfl, q⟩ := h
  have q : Q (V.bl (decide (n = m))) H := q
  rw [← nat_eq_dec] at q
  exact op_eq pins s σ H _ _ v u Q I rx ry ⟨rfl, q⟩
theorem op_nNe : OpR X (compareOp .NotEq) rNNe := by
  intro pins s σ H x y v u Q I rx ry h
  obtain ⟨n, m, rfl, rfl, q⟩ := h
  have q : Q (V.bl (!decide (n = m))) H := q
  rw [← nat_eq_dec] at q
  exact op_ne pins s σ H _ _ v u Q I rx ry ⟨rfl, q⟩
/-! ### the same of ints -/
def rIAdd : R2 := fun x y H Q => ∃ i j : Int, x = .int i ∧ y = .int j ∧ Q (.int (i + j)) H
def rISub : R2 := fun x y H Q => ∃ i j : Int, x = .int i ∧ y = .int j ∧ Q (.int (i - j)) H
def rIMul : R2 := fun x y H Q => ∃ i j : Int, x = .int i ∧ y = .int j ∧ CMulX i j ∧ Q (.int (i * j)) H
def rIDiv : R2 := fun x y H Q => ∃ i j : Int, x = .int i ∧ y = .int j ∧ CDivP i j ∧ Q (.int (i / j)) H
def rIMod : R2 := fun x y H Q => ∃ i j : Int, x = .int i ∧ y = .int j ∧ 0 < j ∧ Q (.int (i % j)) H
def rIPow : R2 := fun x y H Q => ∃ i j : Int, x = .int i ∧ y = .int j ∧ CPow i j ∧ Q (.int (i ^ j.toNat)) H
def rILt : R2 := fun x y H Q => ∃ i j : Int, x = .int i ∧ y = .int j ∧ Q (.bl (decide (i < j))) H
def rILe : R2 := fun x y H Q => ∃ i j : Int, x = .int i ∧ y = .int j ∧ Q (.bl (decide (i ≤ j))) H
def rIGt : R2 := fun x y H Q => ∃ i j : Int, x = .int i ∧ y = .int j ∧ Q (.bl (decide (j < i))) H
def rIGe : R2 := fun x y H Q => ∃ i j : Int, x = .int i ∧ y = .int j ∧ Q (.bl (decide (j ≤ i))) H
def rIEq : R2 := fun x y H Q => ∃ i j : Int, x = .int i ∧ y = .int j ∧ Q (.bl (decide (i = j))) H
def rINe : R2 := fun x y H Q => ∃ i j : Int, x = .int i ∧ y = .int j ∧ Q (.bl (!decide (i = j))) H
theorem op_iAdd : OpR X (binaryOp .Add) rIAdd := op_add
theorem op_iSub : OpR X (binaryOp .Sub) rISub := op_sub
theorem op_iMul : OpR X (binaryOp .Mult) rIMul := op_mulX
theorem op_iDiv : OpR X (binaryOp .FloorDiv) rIDiv := op_fdivP
theorem op_iMod : OpR X (binaryOp .Mod) rIMod := op_mod
theorem op_iPow : OpR X (binaryOp .Pow) rIPow := op_pow
theorem op_iLt : OpR X (compareOp .Lt) rILt := op_lt
theorem op_iLe : OpR X (compareOp .LtE) rILe := op_le
theorem op_iGt : OpR X (compareOp .Gt) rIGt := op_gt
theorem op_iGe : OpR X (compareOp .GtE) rIGe := op_ge
theorem int_eq_dec (i j : Int) : decide (V.int i = V.int j) = decide (i = j) := decide_eq_decide.mpr ⟨V.int.inj, fun h => by rw [h]⟩
theorem op_iEq : OpR X (compareOp .Eq) rIEq := by
  intro pins s σ H x y v u Q I rx ry h
  obtain ⟨n, m, rfl, rfl, q⟩ := h
  rw [← int_eq_dec] at q
  exact op_eq pins s σ H _ _ v u Q I rx ry ⟨rfl, q⟩
theorem op_iNe : OpR X (compareOp .NotEq) rINe := by
  intro pins s σ H x y v u Q I rx ry h
  obtain ⟨n, m, rfl, rfl, q⟩ := h
  rw [← int_eq_dec] at q
  exact op_ne pins s σ H _ _ v u Q I rx ry ⟨rfl, q⟩
/-- how many bits a number has -/
def bits (n : Nat) : Nat := Builtin.Int.intBits (n : Int)
theorem lt_bits (n : Nat) : n < 2 ^ bits n := by
  have := natAbs_lt_pow_bits (n : Int)
  rwa [Int.natAbs_natCast] at this
theorem bits_le {n b : Nat} (h : n < 2 ^ b) : bits n ≤ b := intBits_le (by rw [Int.natAbs_natCast]; exact h)
end
/-- a test that is decided -/
theorem dec2 {p A B : Prop} [Decidable p] (h1 : p → A) (h2 : ¬ p → B) : if decide p = true then A else B :=
  ite2 (fun c => h1 (of_decide_eq_true c)) (fun c => h2 (of_decide_eq_false (Bool.eq_false_iff.mpr c)))
theorem dec2n {p A B : Prop} [Decidable p] (h1 : ¬ p → A) (h2 : p → B) : if (!decide p) = true then A else B := by
  by_cases h : p
  · rw [decide_eq_true h]; exact iteF (h2 h)
  · rw [decide_eq_false h]; exact iteT (h1 h)
theorem decT {p A B : Prop} [Decidable p] (hp : p) (h : A) : if decide p = true then A else B := by rw [decide_eq_true hp]; exact iteT h
theorem decF {p A B : Prop} [Decidable p] (hp : ¬ p) (h : B) : if decide p = true then A else B := by rw [decide_eq_false hp]; exact iteF h
theorem decNT {p A B : Prop} [Decidable p] (hp : p) (h : B) : if (!decide p) = true then A else B := by rw [decide_eq_true hp]; exact iteF h

theorem decNF {p A B : Prop} [Decidable p] (hp : ¬ p) (h : A) : if (!decide p) = true then A else B := by rw [decide_eq_false hp]; exact iteT h
end Sh

/-! set(xs) of a list of ints, as a set that the layer tracks. -/
namespace Sh
open PySem PySem.Spec PyProof.Rows L2
section
variable {P : Program} {w : World} {A : Around} {E : Value → Shared → Prop} {s : Shared}
/-- a new set's record -/
abbrev emptySet (w : World) : Obj :=
  { cls := .type "set", dict := none, data := .set #[] 0 (.fresh 0 0 (!w.params.followText "set-order")) }
/-- set(xs), xs a list of ints -/
theorem run_set_list {l : Addr} {items : Array Value} (ns : List Int) {Q : Value → Shared → Prop} (calm : A.handled = none) (isl : s.heap.IsList l items)
    (hin : IntsAre items.toList ns) (few : ns.length + 1 < scanBound)
    (fin : ∀ (h' : Heap) (tk c : Nat), SetR w h' s.heap.objs.size (fun j => decide (j ∈ ns)) c → c ≤ ns.length →
      (∀ b o, s.heap.get? b = some o → h'.get? b = some o) → Q (.ref s.heap.objs.size) { s with heap := h', toks := tk }) :
    wpAny (model P w) A (call (.type "set") [.ref l]) Q E s := by
  have size_ns : items.size = ns.length := by
    have q := hin.length
    rwa [Array.length_toList] at q
  obtain ⟨c0, tl0, mro0⟩ := F.called_set.mro
  have made0 := F.called_set.made
  have sub0 := F.called_set.sub
  refine wpAny_call (codeAny_of_tree (show wpAny _ _ (callAny (.type "set") _) _ _ _ from ?_))
  refine wpAny_pure ⟨Code.quiet_builtin _ (by decide +kernel),
    codeAny_builtin F.entry_type_call ?_⟩
  rw [Around.under_plain (weight_type_call_type "set" [.ref l] [])
    rfl]
  have nt := F.called_set.notType
  have cc := F.called_set.canCreate
  have tc := F.typeCall_set_1 (.ref l)
  repeat any_goals first | assumption | wp_step
  -- the new set
  refine codeAny_mono (code_set_led1 (.ref l) (E := E)
    (Q₁ := fun z s1 => z = .ref s.heap.objs.size ∧ s1 = { s with heap := s.heap.push (emptySet w) }) ⟨rfl, rfl⟩) fun r s1 hr => ?_
  cases r with
  | error e => exact hr
  | ok fl =>
  cases fl with
  | next => exact hr.elim
  | brk => exact hr.elim
  | cont => exact hr.elim
  | ret z =>
  obtain ⟨rfl, rfl⟩ := hr
  have atS : (s.heap.push (emptySet w)).get? s.heap.objs.size = some (emptySet w) := Heap.get?_push_size _ rfl
  have tyS : Shared.TypeIs { s with heap := s.heap.push (emptySet w) } (.ref s.heap.objs.size) "set" := ⟨_, atS, rfl⟩
  have il := F.called_set.init.lookup
  have ib := F.called_set.init.bind (.ref s.heap.objs.size)
  repeat any_goals first | assumption | wp_step
  -- its __init__
  let Rw : Value → Shared → Prop := fun r s2 => r = .none ∧ ∃ h' tk c, s2 = { s with heap := h', toks := tk } ∧
    SetR w h' s.heap.objs.size (fun j => decide (j ∈ ns)) c ∧ c ≤ ns.length ∧ ∀ b o, s.heap.get? b = some o → h'.get? b = some o
  refine codeAny_mono (codeAny_call_builtin (R := wants Rw E) F.called_set.init.plain
    F.entry_set_init (check_set_init_1 tyS ?_)) fun r2 s2 hr2 => ?_
  · obtain ⟨ol, hol, hcl, nl, hdl⟩ := isl
    obtain ⟨oc, od, oda, osl⟩ := ol
    simp only at hcl hdl
    subst hcl hdl
    have hol1 : (s.heap.push (emptySet w)).get? l = some { cls := .type "list", dict := od, data := .seq items nl, slots := osl } :=
      Heap.get?_push_of_some _ hol
    have n1 := F.sub_list_set
    have n2 := F.sub_list_frozenset
    have n3 : (Value.type "list" == Value.type "dict") = false := by decide
    have isl1 : (s.heap.push (emptySet w)).IsList l items := ⟨_, hol1, rfl, nl, rfl⟩
    unfold Builtin.«set.__init__» noKeywords
    unfold Builtin.Frozenset.updateFrom
    generalize gI : pyIter = PI
    wp_walk
    subst gI
    refine wpAny_pyIter_list isl1 (wpAny_bind (wpAny_runValue ?_))
    have lS : l < s.heap.objs.size := Heap.lt_size hol
    have calm3 : A.in1.in1.in1.handled = none := by simp [calm]
    have lI : l ≠ (s.heap.push (emptySet w)).objs.size := by
      rw [Heap.size_push]
      exact Nat.ne_of_lt (Nat.lt_succ_of_lt lS)
    have nS : s.heap.objs.size ∉ [(s.heap.push (emptySet w)).objs.size, l] := by
      rw [Heap.size_push]
      intro q
      rcases List.mem_cons.mp q with q | q
      · exact absurd q (Nat.ne_of_lt (Nat.lt_succ_self _))
      · exact absurd (List.mem_singleton.mp q) (Nat.ne_of_gt lS)
    have at_i : ∀ (i : Nat) (v : Value), items[i]? = some v → ∃ k t, ns[i]? = some k ∧ v = .int k t := fun i v hv => by
      have hi : i < ns.length := size_ns ▸ (Array.getElem?_eq_some_iff.mp hv).1
      obtain ⟨t, e⟩ := hin.int_at i v (by rw [Array.getElem?_toList]; exact hv)
      have g := List.getElem?_eq_getElem hi
      exact ⟨ns[i], t, g, by rw [e, List.getD_eq_getElem?_getD, g] <;> rfl⟩
    refine set_update_ints ((Walks.list calm3 _ l lI items).toS) s.heap.objs.size nS ns size_ns few at_i (items.size - 0) 0 _ (by omega)
      (Nat.zero_le _) ⟨⟨_, Heap.get?_push_size _ rfl, rfl, rfl⟩, (isl1.push _)⟩ ?s0 ?sR
    case s0 =>
      exact ⟨0, Nat.le_refl 0, setR_new_at (Heap.get?_push_of_some _ atS)⟩
    case sR =>
      intro s3 c3 mv hc3 R3
      obtain ⟨h3, g3, d3, t3, o3⟩ := s3
      obtain rfl : g3 = s.gens := mv.gens
      obtain rfl : d3 = s.drawn := mv.drawn
      obtain rfl : o3 = s.os := mv.os
      rw [size_ns] at hc3
      refine wpAny_pure ?_
      show wpAny _ _ (ret Value.none) _ _ _
      refine wpAny_pure ⟨rfl, h3, t3, c3, rfl, R3, hc3, fun b o e => ?_⟩
      have b0 : b < s.heap.objs.size := Heap.lt_size e
      refine mv.heap b o (fun q => ?_) (Heap.get?_push_of_some _ (Heap.get?_push_of_some _ e))
      rcases List.mem_cons.mp q with q | q
      · exact absurd q (Nat.ne_of_lt b0)
      · have q := List.mem_singleton.mp q
        rw [Heap.size_push] at q
        exact absurd q (Nat.ne_of_lt (Nat.lt_succ_of_lt b0))
  · cases r2 with
    | error e => exact hr2
    | ok f2 =>
    cases f2 with
    | next => exact hr2.elim
    | brk => exact hr2.elim
    | cont => exact hr2.elim
    | ret r =>
    obtain ⟨rfl, h', tk, c, rfl, hS, hc, hk⟩ := hr2
    repeat any_goals first | assumption | wp_step
    exact fin _ _ _ hS hc hk
end
section
variable {X : Cx}
def rSetL (K : PySem.W.Frag) (w : World) : List V → Hp → VK → Prop := fun vs H Q => ∃ (a : Addr) (ns : List Int), vs = [.ref a] ∧ SqL K H a (ns.map V.int) ∧ ns.length < 60 ∧
  ∀ (p : Addr) (c : Nat), H p = none → c ≤ ns.length → Q (.ref p) (upd H p (SetO w p (fun j => decide (j ∈ ns)) c))
theorem cr_setL (hc : X.calm = true) : CallR X (.type "set") (rSetL X.K X.w) := by
  intro pins s σ H vs us Q I r h
  obtain ⟨a, ns, rfl, hs, h60, q⟩ := h
  rw [Vals.ref1 r]
  obtain ⟨its, rv, pl, hz⟩ := I.list hs
  have hi : IntsAre its.toArray.toList ns := intsAre_of rv
  refine run_set_list ns (I.ok.hd hc) pl.isList hi ?_ fun h' tk c R hc' keep => ?_
  · have e : 61 < scanBound := by decide
    omega
  · have hn : H s.heap.objs.size = none := I.hok.fresh (Nat.le_refl _)
    exact ⟨.ref _, upd H s.heap.objs.size (SetO X.w s.heap.objs.size (fun j => decide (j ∈ ns)) c), I.laid (t' := tk) keep (Nat.le_refl _) (setO_new R), rfl, q _ _ hn hc'⟩
/-! ### sorted(xs) of lists of ints that are in order already -/
def rSortedL (K : PySem.W.Frag) : List V → Hp → VK → Prop := fun vs H Q => ∃ (a : Addr) (ps : List (Addr × List Int)), vs = [.ref a] ∧ SqL K H a (ps.map fun p => V.ref p.1) ∧
  (∀ p ∈ ps, SqL K H p.1 (p.2.map V.int)) ∧ ps.Pairwise (fun p q => p.2 ≤ q.2) ∧ ∀ r, H r = none → Q (.ref r) (upd H r (.lst (ps.map fun p => V.ref p.1)))
theorem refs_each : ∀ {ps : List (Addr × List Int)} {us : List Value}, Vals (ps.map fun p => V.ref p.1) us → PySem.W.EachIs (fun (v : Value) (p : Addr × List Int) => v = .ref p.1) us ps
  | [], _, r => by cases r; exact .nil
  | p :: ps, _, r => by
    cases r with
    | cons r1 r2 => exact .cons r1 (refs_each r2)
theorem each_refs : ∀ {ps : List (Addr × List Int)} {us : List Value}, PySem.W.EachIs (fun (v : Value) (p : Addr × List Int) => v = .ref p.1) us ps → Vals (ps.map fun p => V.ref p.1) us
  | [], _, r => by cases r; exact .nil
  | p :: ps, _, r => by
    cases r with
    | cons r1 r2 => exact .cons r1 (each_refs r2)
theorem each_reads {pins : List (Addr × Obj)} {σ : L2.St} {H : Hp} {s : Shared} (I : Inv X pins σ H s) : ∀ {ps : List (Addr × List Int)} {us : List Value}, PySem.W.EachIs (fun (v : Value) (p : Addr × List Int) => v = .ref p.1) us ps →
    (∀ p ∈ ps, SqL X.K H p.1 (p.2.map V.int)) → PySem.W.EachIs (fun (v : Value) (p : Addr × List Int) => ∃ as, Reads s.heap v (.list (p.2.map PyData.int)) as) us ps
  | [], _, r, _ => by cases r; exact .nil
  | p :: ps, _, r, h => by
    cases r with
    | cons r1 r2 => exact .cons (Dp.reads I _ _ _ (dp_list (h p List.mem_cons_self)) r1) (each_reads I r2 fun q hq => h q (List.mem_cons_of_mem _ hq))
theorem cr_sortedL (hu : X.A.units + 64 < cLine) : CallR X (.builtin "sorted") (rSortedL X.K) := by
  intro pins s σ H vs us Q I r h
  obtain ⟨a, ps, rfl, hs, hall, hord, q⟩ := h
  rw [Vals.ref1 r]
  obtain ⟨its, rv, pl, hz⟩ := I.list hs
  have e1 := refs_each rv
  have e2 := each_reads I e1 hall
  rw [List.length_map] at hz
  refine PySem.W.sorted_data (enc := fun p : Addr × List Int => PyData.list (p.2.map PyData.int)) pl.isList e1 e2 ?_ ?_ hz ?_ fun out hlen he => ?_
  · exact .of fun b b' => by simpa [PySem.W.alike] using PySem.W.alike_ints b.2 b'.2
  · exact .others fun b => ⟨(fun z => nomatch z), fun xs z => nomatch z⟩
  · intro b _
    have e : (PyData.list (b.2.map PyData.int)).depth = 1 := by rw [PyData.depth, PySem.W.depth_ints]
    omega
  · rw [PySem.W.dataLe_rows, List.mergeSort_of_pairwise (by simpa using hord)] at he
    obtain ⟨c, hc⟩ := sortedAll_at s.heap its (List.toArray out)
    have hn : H (s.heap.objs.size + 1) = none := I.hok.fresh (Nat.le_succ _)
    refine ⟨.ref _, upd H (s.heap.objs.size + 1) (.lst (ps.map fun p => V.ref p.1)), I.laid (t' := s.toks) (fun _ _ => sortedAll_old) (Nat.le_succ _) ?_, rfl, q _ hn⟩
    exact ⟨by rw [List.length_map]; exact hz, out, c, each_refs he, hc⟩
end
end Sh

/-! Comprehensions with their list as it grows; loops over pairs. -/
namespace Sh
open PySem PySem.Spec PyProof.Rows L2
/-! ### rules that name the written part: for a comprehension's block -/
section
variable {X : Cx} {K : PySem.W.Frag}
theorem sl_listK (hK : X.K = K := by rfl) : SlR X (rSlL K) := hK ▸ sl_list
theorem sl_tupK (hK : X.K = K := by rfl) : SlR X (rSlT K) := hK ▸ sl_tup
theorem ix_listK (hK : X.K = K := by rfl) : IxR X (rIxL K) := hK ▸ ix_list
theorem ix_tupK (hK : X.K = K := by rfl) : IxR X (rIxT K) := hK ▸ ix_tup
theorem op_eqDK (hu : X.A.units + 64 < cLine) (hK : X.K = K := by rfl) : OpR X (compareOp .Eq) (rEqD K) := hK ▸ op_eqD hu
theorem op_neDK (hu : X.A.units + 64 < cLine) (hK : X.K = K := by rfl) : OpR X (compareOp .NotEq) (rNeD K) := hK ▸ op_neD hu
theorem op_ltLK (hu : X.A.units + 64 < cLine) (hK : X.K = K := by rfl) : OpR X (compareOp .Lt) (rLtL K) := hK ▸ op_ltL hu
def rLenS (K : PySem.W.Frag) : List V → Hp → VK → Prop := fun vs H Q => ∃ p ys, vs = [.ref p] ∧ (SqL K H p ys ∨ SqT K H p ys) ∧ Q (.int ((ys.length : Nat) : Int)) H
theorem call_lenK (hK : X.K = K := by rfl) : CallR X (.builtin "len") (rLenS K) := hK ▸ call_len_seq
theorem cr_sumK (hc : X.calm = true) (hK : X.K = K := by rfl) : CallR X (.builtin "sum") (rSum K) := hK ▸ cr_sum hc
theorem cr_allK (hc : X.calm = true) (hK : X.K = K := by rfl) : CallR X (.builtin "all") (rAll K) := hK ▸ cr_all hc
def rListOf (K : PySem.W.Frag) : List V → Hp → VK → Prop := fun vs H Q => ∃ p ys, vs = [.ref p] ∧ (SqL K H p ys ∨ SqT K H p ys) ∧ ∀ l, H l = none → Q (.ref l) (upd H l (.lst ys))
theorem call_listK (hK : X.K = K := by rfl) : CallR X (.type "list") (rListOf K) := hK ▸ call_list_of
theorem call_isiK (hK : X.K = K := by rfl) : CallR X (.builtin "isinstance") (rIsi K) := hK ▸ call_isi
theorem pe_revLK {e : Expr} {te : TE} {k : Nat} {p1 p2 p3 pos : Pos} (he : PE X e te) (hK : X.K = K := by rfl) :
    PE X (.Subscript e (.Slice none none (some (.UnaryOp .USub (.Constant (.int 1) k p1) p2)) p3) pos) (tRevL K te) := hK ▸ pe_revL he
theorem pg_tupK {es : List Expr} {k : Nat} {pos : Pos} {t : TGs} {n : Nat} (hc : X.calm = true) (h : PGs X es t) (hK : X.K = K := by rfl)
    (hn : (assignEach es X.env).length = n := by rfl) (hst : (assignEach es X.env).findIdx? (·.1) = none := by rfl) : PG X (.Tuple es k pos) (gTup K n t) := hK ▸ pg_tup hc h hn hst
end
/-- the list at D holds acc, of i items, of which Pv is true -/
def Acc (D : Addr) (Pv : List V → Hp → Prop) (i : Nat) : Hp → Prop := fun H => ∃ acc : List V, acc.length = i ∧ H D = some (.lst acc) ∧ Pv acc H
/-- a comprehension's item y is put -/
abbrev LcN (D : Addr) (P : Hp → Prop) : VK := fun y H => ∃ acc : List V, H D = some (.lst acc) ∧ acc.length < sizeLine ∧ P (upd H D (.lst (acc ++ [y])))
theorem LcN.put {D : Addr} {Pv : List V → Hp → Prop} {i : Nat} {acc : List V} {y : V} {H : Hp} (h : H D = some (.lst acc)) (hl : acc.length = i) (hz : i < sizeLine) (hp : Pv (acc ++ [y]) (upd H D (.lst (acc ++ [y])))) :
    LcN D (Acc D Pv (i + 1)) y H :=
  ⟨acc, h, by omega, acc ++ [y], by rw [List.length_append, List.length_singleton, hl], upd_same, hp⟩
/-- what a comprehension without tests asks behind its source -/
abbrev LcW (J : It) (g : TG) (te : TE) (vs : List Nat) (σ : L2.St) (H1 : Hp) (D : Addr) (Qd : Hp → Prop) : Prop :=
  ∃ W : Nat → Nat → Hp → Prop, (∃ m, W 0 m (upd H1 D (.lst []))) ∧ ∀ i m H, W i m H →
    (J.stop i H ∧ Qd H) ∨ (J.go i H ∧ ∃ Nx : Hp → Prop, (∀ H', Nx H' → ∃ m', m' < m ∧ W (i + 1) m' H') ∧
      ∀ x H', J.yld i H x H' → g x (wipe σ vs) H' fun σ2 H2 => wipe σ2 vs = wipe σ vs ∧ tYes σ2 H2 fun b H3 => if b = true then te σ2 H3 (LcN D Nx) else Nx H3)
theorem lc_gen {J : It} {g : TG} {te : TE} {vs : List Nat} {σ : L2.St} {H1 : Hp} {D : Addr} {Qd : Hp → Prop} (n : Nat) (Pv : Nat → List V → Hp → Prop)
    (h0 : Pv 0 [] (upd H1 D (.lst [])))
    (hgo : ∀ i acc H, i < n → Pv i acc H → J.go i H) (hst : ∀ acc H, Pv n acc H → J.stop n H)
    (hs : ∀ i acc H x H', i < n → acc.length = i → H D = some (.lst acc) → Pv i acc H → J.yld i H x H' →
      g x (wipe σ vs) H' fun σ2 H2 => wipe σ2 vs = wipe σ vs ∧ tYes σ2 H2 fun b H3 => if b = true then te σ2 H3 (LcN D (Acc D (Pv (i + 1)) (i + 1))) else Acc D (Pv (i + 1)) (i + 1) H3)
    (hd : ∀ acc H, acc.length = n → H D = some (.lst acc) → Pv n acc H → Qd H) : LcW J g te vs σ H1 D Qd := by
  refine ⟨fun i m H => m = n - i ∧ i ≤ n ∧ Acc D (Pv i) i H, ⟨n, by simp, Nat.zero_le _, [], rfl, upd_same, h0⟩, ?_⟩
  rintro i m H ⟨rfl, hi, acc, hl, hD, p⟩
  by_cases hlt : i < n
  · refine .inr ⟨hgo i acc H hlt p, Acc D (Pv (i + 1)) (i + 1), fun H' p' => ⟨n - (i + 1), by omega, rfl, hlt, p'⟩, fun x H' y => ?_⟩
    exact hs i acc H x H' hlt hl hD p y
  · have e : i = n := by omega
    subst e
    exact .inl ⟨hst acc H p, hd acc H hl hD p⟩
theorem yes_of {σ : L2.St} {H : Hp} {A B : Hp → Prop} (h : A H) : tYes σ H (fun b H3 => if b = true then A H3 else B H3) := by
  show (if true = true then A H else B H)
  rw [if_pos rfl]
  exact h
section
variable {K : PySem.W.Frag} {te : TE} {vs : List Nat} {σ : L2.St} {H1 : Hp} {D : Addr} {Qd : Hp → Prop}
theorem lc1_list {a : Addr} {xs : List V} {k : Nat} (Pv : Nat → List V → Hp → Prop) (h0 : Pv 0 [] (upd H1 D (.lst [])))
    (hl : ∀ i acc H, Pv i acc H → SqL K H a xs) (hw : ∀ x, wipe ((wipe σ vs).set k (some x)) vs = wipe σ vs)
    (hs : ∀ i x acc H, xs[i]? = some x → acc.length = i → H D = some (.lst acc) → Pv i acc H → te ((wipe σ vs).set k (some x)) H (LcN D (Acc D (Pv (i + 1)) (i + 1))))
    (hd : ∀ acc H, acc.length = xs.length → H D = some (.lst acc) → Pv xs.length acc H → Qd H) : LcW (Itl K a) (gName k) te vs σ H1 D Qd := by
  refine lc_gen xs.length Pv h0 (fun i acc H hi p => ⟨xs, xs[i], hl i acc H p, by simp [hi]⟩) (fun acc H p => ⟨xs, hl _ acc H p, Nat.le_refl _⟩) ?_ hd
  intro i acc H x H' hi hlen hD p y
  obtain ⟨e, y⟩ := y
  subst e
  exact ⟨hw x, yes_of (hs i x acc _ (y xs (hl i acc _ p)) hlen hD p)⟩
theorem lc1_range {lo : Int} {n k : Nat} (Pv : Nat → List V → Hp → Prop) (h0 : Pv 0 [] (upd H1 D (.lst [])))
    (hw : ∀ x, wipe ((wipe σ vs).set k (some x)) vs = wipe σ vs)
    (hs : ∀ i acc H, i < n → acc.length = i → H D = some (.lst acc) → Pv i acc H → te ((wipe σ vs).set k (some (.int (lo + i)))) H (LcN D (Acc D (Pv (i + 1)) (i + 1))))
    (hd : ∀ acc H, acc.length = n → H D = some (.lst acc) → Pv n acc H → Qd H) : LcW (Itr lo n) (gName k) te vs σ H1 D Qd := by
  refine lc_gen n Pv h0 (fun i acc H hi p => hi) (fun acc H p => Nat.le_refl _) ?_ hd
  intro i acc H x H' hi hlen hD p y
  obtain ⟨e, y⟩ := y
  subst e y
  exact ⟨hw _, yes_of (hs i acc _ hi hlen hD p)⟩
theorem lc1_rangeN {m n k : Nat} (hm : m = n) (Pv : Nat → List V → Hp → Prop) (h0 : Pv 0 [] (upd H1 D (.lst [])))
    (hw : ∀ x, wipe ((wipe σ vs).set k (some x)) vs = wipe σ vs)
    (hs : ∀ i acc H, i < n → acc.length = i → H D = some (.lst acc) → Pv i acc H → te ((wipe σ vs).set k (some (.int (i : Nat)))) H (LcN D (Acc D (Pv (i + 1)) (i + 1))))
    (hd : ∀ acc H, acc.length = n → H D = some (.lst acc) → Pv n acc H → Qd H) : LcW (Itr 0 m) (gName k) te vs σ H1 D Qd := by
  subst hm
  refine lc1_range Pv h0 hw (fun i acc H hi hl hD p => ?_) hd
  have h := hs i acc H hi hl hD p
  rw [← Int.zero_add (i : Int)] at h
  exact h
/-- a pair just made is stored in two names -/
theorem pair_in {K : PySem.W.Frag} {k j : Nat} {T : Addr} {x y : V} {σ : L2.St} {H : Hp} {Q : L2.St → Hp → Prop} (h : Q ((σ.set k (some x)).set j (some y)) (upd H T (.tup [x, y]))) :
    gTup K 2 (gCons (gName k) (gCons (gName j) gNil)) (.ref T) σ (upd H T (.tup [x, y])) Q :=
  ⟨T, [x, y], rfl, .inl (.inl upd_same), rfl, x, [y], rfl, y, [], rfl, rfl, h⟩
theorem pair_at {K : PySem.W.Frag} {k j : Nat} {T : Addr} {x y : V} {σ : L2.St} {H : Hp} {Q : L2.St → Hp → Prop} (hT : SqT K H T [x, y]) (h : Q ((σ.set k (some x)).set j (some y)) H) :
    gTup K 2 (gCons (gName k) (gCons (gName j) gNil)) (.ref T) σ H Q :=
  ⟨T, [x, y], rfl, hT, rfl, x, [y], rfl, y, [], rfl, rfl, h⟩
/-- what a new object leaves true -/
def Fresh (Pv : Hp → Prop) : Prop := ∀ H T o, H T = none → Pv H → Pv (upd H T o)
theorem lc2_enum {a : Addr} {xs : List V} {k j : Nat} (Pv : Nat → List V → Hp → Prop) (h0 : Pv 0 [] (upd H1 D (.lst [])))
    (hl : ∀ i acc H, Pv i acc H → SqL K H a xs) (hf : ∀ i acc, Fresh (Pv i acc)) (hw : ∀ x y, wipe (((wipe σ vs).set k (some x)).set j (some y)) vs = wipe σ vs)
    (hs : ∀ i x acc H, xs[i]? = some x → acc.length = i → H D = some (.lst acc) → Pv i acc H →
      te (((wipe σ vs).set k (some (.int (i : Nat)))).set j (some x)) H (LcN D (Acc D (Pv (i + 1)) (i + 1))))
    (hd : ∀ acc H, acc.length = xs.length → H D = some (.lst acc) → Pv xs.length acc H → Qd H) :
    LcW (Ite K a) (gTup K 2 (gCons (gName k) (gCons (gName j) gNil))) te vs σ H1 D Qd := by
  refine lc_gen xs.length Pv h0 (fun i acc H hi p => ⟨xs, xs[i], hl i acc H p, by simp [hi]⟩) (fun acc H p => ⟨xs, hl _ acc H p, Nat.le_refl _⟩) ?_ hd
  intro i acc H x H' hi hlen hD p y
  obtain ⟨T, z, rfl, nT, rfl, f⟩ := y
  refine pair_in ⟨hw _ _, yes_of (hs i z acc _ (f xs (hl i acc _ p)) hlen ?_ (hf i acc _ _ _ nT p))⟩
  rw [upd_ne (ne_of_none hD nT)]
  exact hD
theorem lc2_zip {a b : Addr} {xs ys : List V} {k j : Nat} (n : Nat) (hn : n = min xs.length ys.length) (Pv : Nat → List V → Hp → Prop) (h0 : Pv 0 [] (upd H1 D (.lst [])))
    (hl : ∀ i acc H, Pv i acc H → SqL K H a xs ∧ SqL K H b ys) (hf : ∀ i acc, Fresh (Pv i acc)) (hw : ∀ x y, wipe (((wipe σ vs).set k (some x)).set j (some y)) vs = wipe σ vs)
    (hs : ∀ i x y acc H, xs[i]? = some x → ys[i]? = some y → acc.length = i → H D = some (.lst acc) → Pv i acc H →
      te (((wipe σ vs).set k (some x)).set j (some y)) H (LcN D (Acc D (Pv (i + 1)) (i + 1))))
    (hd : ∀ acc H, acc.length = n → H D = some (.lst acc) → Pv n acc H → Qd H) :
    LcW (Itz K a b) (gTup K 2 (gCons (gName k) (gCons (gName j) gNil))) te vs σ H1 D Qd := by
  refine lc_gen n Pv h0 (fun i acc H hi p => ?_) (fun acc H p => ?_) ?_ hd
  · have h1 : i < xs.length := by omega
    have h2 : i < ys.length := by omega
    exact ⟨xs, ys, xs[i], ys[i], (hl i acc H p).1, (hl i acc H p).2, by simp [h1], by simp [h2]⟩
  · exact ⟨xs, ys, (hl n acc H p).1, (hl n acc H p).2, by omega⟩
  · intro i acc H x H' hi hlen hD p y
    obtain ⟨T, z1, z2, rfl, nT, rfl, f1, f2⟩ := y
    refine pair_in ⟨hw _ _, yes_of (hs i z1 z2 acc _ (f1 xs (hl i acc _ p).1) (f2 ys (hl i acc _ p).2) hlen ?_ (hf i acc _ _ _ nT p))⟩
    rw [upd_ne (ne_of_none hD nT)]
    exact hD
end
/-! ### loops -/
section
variable {K : PySem.W.Frag} {tb : TS} {D : Ends} {σ : L2.St} {H : Hp}
/-- what a loop asks behind its source -/
abbrev ForW (J : It) (g : TG) (tb : TS) (D : Ends) (σ : L2.St) (H : Hp) : Prop :=
  ∃ W : Nat → Nat → L2.St → Hp → Prop, (∃ m, W 0 m σ H) ∧ ∀ i m σ H, W i m σ H →
    (J.stop i H ∧ D.nx σ H) ∨ (J.go i H ∧ ∃ N : L2.St → Hp → Prop, (∀ σ' H', N σ' H' → ∃ m', m' < m ∧ W (i + 1) m' σ' H') ∧
      ∀ x H', J.yld i H x H' → g x σ H' fun σ2 H2 => tb { D with nx := N, ct := N, bk := D.nx } σ2 H2)
theorem for2_enum {a : Addr} {xs : List V} {k j : Nat} (Pv : Nat → L2.St → Hp → Prop) (h0 : Pv 0 σ H) (hl : ∀ i σ H, Pv i σ H → SqL K H a xs) (hf : ∀ i σ, Fresh (Pv i σ))
    (hs : ∀ i x σ H, xs[i]? = some x → Pv i σ H → tb { D with nx := Pv (i + 1), ct := Pv (i + 1), bk := D.nx } ((σ.set k (some (.int (i : Nat)))).set j (some x)) H)
    (hd : ∀ σ H, Pv xs.length σ H → D.nx σ H) : ForW (Ite K a) (gTup K 2 (gCons (gName k) (gCons (gName j) gNil))) tb D σ H := by
  refine ⟨fun i m σ H => m = xs.length - i ∧ i ≤ xs.length ∧ Pv i σ H, ⟨xs.length, by simp, Nat.zero_le _, h0⟩, ?_⟩
  rintro i m σ H ⟨rfl, hi, p⟩
  have q := hl i σ H p
  by_cases hlt : i < xs.length
  · refine .inr ⟨⟨xs, xs[i], q, by simp [hlt]⟩, Pv (i + 1), fun σ' H' p' => ⟨xs.length - (i + 1), by omega, rfl, hlt, p'⟩, fun x H' y => ?_⟩
    obtain ⟨T, z, rfl, nT, rfl, f⟩ := y
    exact pair_in (hs i z σ _ (f xs q) (hf i σ _ _ _ nT p))
  · have e : i = xs.length := by omega
    subst e
    exact .inl ⟨⟨xs, q, Nat.le_refl _⟩, hd σ H p⟩
/-- over range(n) -/
theorem for_rangeN {m n k : Nat} (hm : m = n) (Pv : Nat → L2.St → Hp → Prop) (h0 : Pv 0 σ H)
    (hs : ∀ i σ H, i < n → Pv i σ H → tb { D with nx := Pv (i + 1), ct := Pv (i + 1), bk := D.nx } (σ.set k (some (.int (i : Nat)))) H)
    (hd : ∀ σ H, Pv n σ H → D.nx σ H) : ForW (Itr 0 m) (gName k) tb D σ H := by
  subst hm
  refine for_range Pv h0 (fun i σ H hi p => ?_) hd
  have h := hs i σ H hi p
  rw [← Int.zero_add (i : Int)] at h
  exact h
/-- over range(n, 0, -1) -/
theorem for_down {n m k : Nat} (hm : m = n) (Pv : Nat → L2.St → Hp → Prop) (h0 : Pv 0 σ H)
    (hs : ∀ i σ H, i < n → Pv i σ H → tb { D with nx := Pv (i + 1), ct := Pv (i + 1), bk := D.nx } (σ.set k (some (.int ((n - i : Nat) : Int)))) H)
    (hd : ∀ σ H, Pv n σ H → D.nx σ H) : ForW (Itc (n : Int) (-1) m) (gName k) tb D σ H := by
  subst hm
  refine for_rangeC Pv h0 (fun i σ H hi p => ?_) hd
  have h := hs i σ H hi p
  have e : (m : Int) + (i : Nat) * (-1) = ((m - i : Nat) : Int) := by omega
  rw [← e] at h
  exact h
theorem for1_list {a : Addr} {xs : List V} {k : Nat} (Pv : Nat → L2.St → Hp → Prop) (h0 : Pv 0 σ H) (hl : ∀ i σ H, Pv i σ H → SqL K H a xs)
    (hs : ∀ i x σ H, xs[i]? = some x → Pv i σ H → tb { D with nx := Pv (i + 1), ct := Pv (i + 1), bk := D.nx } (σ.set k (some x)) H)
    (hd : ∀ σ H, Pv xs.length σ H → D.nx σ H) : ForW (Itl K a) (gName k) tb D σ H :=
  for_list Pv h0 (fun i σ H _ p => hl i σ H p) hs hd
end
/-! ### heaps -/
theorem same_new {H : Hp} {p : Addr} {o : HO} (h : H p = none) : Same H (upd H p o) := fun b x e => by
  rw [upd_ne (ne_of_none e h)]
  exact e
theorem same_free {H1 H : Hp} {D : Addr} {o : HO} (s : Same H1 H) (hD : H1 D = none) : Same H1 (upd H D o) := fun b x e => by
  rw [upd_ne (ne_of_none e hD)]
  exact s b x e
theorem same_fresh (H1 : Hp) : Fresh (Same H1) := fun H T o nT s b x e => by
  rw [upd_ne (ne_of_none (s b x e) nT)]
  exact s b x e
theorem sqL_new {K : PySem.W.Frag} {H : Hp} {a p : Addr} {o : HO} {xs : List V} (h : SqL K H a xs) (hp : H p = none) : SqL K (upd H p o) a xs := (same_new hp).seq h
theorem same_tup {K : PySem.W.Frag} {H H' : Hp} {a : Addr} {xs : List V} (e : Same H H') (h : SqT K H a xs) : SqT K H' a xs := by
  rcases h with (h | ⟨o, h⟩) | h
  · exact .inl (.inl (e _ _ h))
  · exact .inl (.inr ⟨o, e _ _ h⟩)
  · exact .inr h
end Sh

/-! The fewest sets within, the most sets that hold: of falling lists, then of numbers. Core Lean alone. -/
namespace Sh
/-- the most sets of one number more that the sets ahead of l hold -/
def ov : List Nat → Nat
  | [] => 0
  | a :: l => ch a (l.length + 2) + ov l
/-- the fewest sets of one number fewer within the sets ahead of l -/
def un : List Nat → Nat
  | [] => 0
  | a :: l => (if l.length + 1 ≤ a then ch a l.length else 0) + un l
theorem len_pos {l : List Nat} (h : l ≠ []) : 0 < l.length := List.length_pos_iff.mpr h
theorem ch_step2 (n k : Nat) : ch (n + 1) (k + 2) = ch n (k + 1) + ch n (k + 2) := rfl
theorem down_ge : ∀ {l : List Nat} {a : Nat}, Down l → (∀ x ∈ l, x < a) → l.length ≤ a
  | [], a, _, _ => Nat.zero_le _
  | b :: l, a, h, hb => by
    have h1 := List.pairwise_cons.mp h
    have h2 := down_ge (a := b) h1.2 (fun x hx => h1.1 x hx)
    have h3 := hb b List.mem_cons_self
    show l.length + 1 ≤ a
    omega
theorem down_head {a : Nat} {l : List Nat} (h : Down (a :: l)) : Down l ∧ l.length ≤ a ∧ num l < ch a l.length := by
  have h1 := List.pairwise_cons.mp h
  exact ⟨h1.2, down_ge h1.2 (fun x hx => h1.1 x hx), num_lt h1.2 (fun x hx => h1.1 x hx)⟩
theorem num_cons (a : Nat) (l : List Nat) : num (a :: l) = ch a (l.length + 1) + num l := rfl
theorem ov_le : ∀ {l : List Nat} {a : Nat}, Down l → (∀ x ∈ l, x < a) → ov l ≤ ch a (l.length + 1)
  | [], a, _, _ => Nat.zero_le _
  | b :: l, a, h, hb => by
    have h1 := List.pairwise_cons.mp h
    have h2 := ov_le (a := b) h1.2 (fun x hx => h1.1 x hx)
    have h3 : b + 1 ≤ a := hb b List.mem_cons_self
    have h4 := ch_mono h3 (l.length + 2)
    rw [ch_step2] at h4
    show ch b (l.length + 2) + ov l ≤ ch a (l.length + 2)
    omega
theorem drop_cons {s : Nat} {l : List Nat} (h : l ≠ []) : (s :: l).dropLast = s :: l.dropLast := List.dropLast_cons_of_ne_nil h
theorem num_drop {s : Nat} {l : List Nat} (h : l ≠ []) : num (s :: l).dropLast = ch s l.length + num l.dropLast := by
  have h0 : 0 < l.length := len_pos h
  rw [drop_cons h, num_cons, List.length_dropLast, Nat.sub_add_cancel h0]
/-- a set of one number more is among those that hold just when its greatest one within it is ahead -/
theorem ov_iff : ∀ {S T : List Nat}, Down S → Down T → S.length = T.length + 1 → (num S < ov T ↔ num S.dropLast < num T)
  | [], _, _, _, h => by simp at h
  | s :: S, [], hS, hT, h => by
    show num (s :: S) < 0 ↔ num (s :: S).dropLast < 0
    omega
  | s :: S, t :: T, hS, hT, h => by
    have hl : S.length = T.length + 1 := by simpa using h
    have hn : S ≠ [] := fun e => by rw [e] at hl; simp at hl
    obtain ⟨dS, gS, bS⟩ := down_head hS
    obtain ⟨dT, gT, bT⟩ := down_head hT
    have ih := ov_iff dS dT hl
    have hb := ov_le dT (fun x hx => (List.pairwise_cons.mp hT).1 x hx)
    have dD : Down (s :: S.dropLast) := by
      rw [← drop_cons hn]
      exact hS.sublist (List.dropLast_sublist _)
    have bD := (down_head dD).2.2
    rw [List.length_dropLast, hl, Nat.add_sub_cancel] at bD
    rw [num_drop hn, num_cons, num_cons, hl]
    show ch s (T.length + 2) + num S < ch t (T.length + 2) + ov T ↔ ch s (T.length + 1) + num S.dropLast < ch t (T.length + 1) + num T
    rw [hl] at bS
    rcases Nat.lt_trichotomy s t with q | q | q
    · have m1 := ch_mono (show s + 1 ≤ t from q) (T.length + 2)
      have m2 := ch_mono (show s + 1 ≤ t from q) (T.length + 1)
      rw [ch_step2] at m1
      rw [ch_step] at m2
      omega
    · subst q
      omega
    · have m1 := ch_mono (show t + 1 ≤ s from q) (T.length + 2)
      have m2 := ch_mono (show t + 1 ≤ s from q) (T.length + 1)
      rw [ch_step2] at m1
      rw [ch_step] at m2
      omega
theorem un_zero : ∀ {l : List Nat}, num l = 0 → un l = 0
  | [], _ => rfl
  | a :: l, h => by
    rw [num_cons] at h
    have h1 : ¬ l.length + 1 ≤ a := fun q => by
      have := ch_pos q
      omega
    show (if l.length + 1 ≤ a then ch a l.length else 0) + un l = 0
    rw [if_neg h1, un_zero (by omega)]
theorem full : ∀ {l : List Nat} {s : Nat}, Down l → (∀ x ∈ l, x < s) → l ≠ [] → num l + 1 = ch s l.length → num l.dropLast + 1 = ch s (l.length - 1)
  | [], _, _, _, h, _ => absurd rfl h
  | u :: l, s, h, hb, _, e => by
    obtain ⟨d, g, b⟩ := down_head h
    have h3 : u + 1 ≤ s := hb u List.mem_cons_self
    have h4 := ch_mono h3 (l.length + 1)
    rw [ch_step] at h4
    have e : ch u (l.length + 1) + num l + 1 = ch s (l.length + 1) := e
    have hus : u + 1 = s := by
      rcases Nat.lt_or_ge (u + 1) s with q | q
      · have := ch_lt (k := l.length) q (by omega)
        rw [ch_step] at this
        omega
      · omega
    subst hus
    rw [ch_step] at e
    show num (u :: l).dropLast + 1 = ch (u + 1) l.length
    by_cases hn : l = []
    · subst hn
      show 0 + 1 = ch (u + 1) 0
      rw [ch_zero]
    · have ih := full (s := u) d (fun x hx => (List.pairwise_cons.mp h).1 x hx) hn (by omega)
      obtain ⟨j, hj⟩ : ∃ j, l.length = j + 1 := ⟨l.length - 1, by have := len_pos hn; omega⟩
      rw [num_drop hn, hj, ch_step]
      rw [hj, Nat.add_sub_cancel] at ih
      omega
/-- of the next set: what lies within the sets ahead of it ends with the greatest one within the last of them -/
theorem un_next : ∀ {S T : List Nat}, Down S → Down T → S.length = T.length → num T = num S + 1 → un T = num S.dropLast + 1
  | [], [], _, _, _, e => by
    have e : 0 = 0 + 1 := e
    omega
  | [], _ :: _, _, _, h, _ => by simp at h
  | _ :: _, [], _, _, h, _ => by simp at h
  | s :: S, t :: T, hS, hT, h, e => by
    have hl : S.length = T.length := by simpa using h
    obtain ⟨dS, gS, bS⟩ := down_head hS
    obtain ⟨dT, gT, bT⟩ := down_head hT
    rw [num_cons, num_cons, hl] at e
    rw [hl] at bS gS
    have hu : un (t :: T) = (if T.length + 1 ≤ t then ch t T.length else 0) + un T := rfl
    rw [hu]
    rcases Nat.lt_trichotomy t s with q | q | q
    · have m1 := ch_mono (show t + 1 ≤ s from q) (T.length + 1)
      rw [ch_step] at m1
      omega
    · subst q
      have e1 : num T = num S + 1 := by omega
      have hn : S ≠ [] := fun z => by
        rw [z] at hl
        have : T = [] := List.length_eq_zero_iff.mp hl.symm
        rw [this, z] at e1
        have e1 : 0 = 0 + 1 := e1
        omega
      have hg : T.length + 1 ≤ t := by
        refine Nat.lt_of_not_le fun z => ?_
        have := ch_mono z T.length
        rw [ch_self] at this
        omega
      rw [if_pos hg, un_next dS dT hl e1, num_drop hn, hl]
      omega
    · have m1 := ch_mono (show s + 1 ≤ t from q) (T.length + 1)
      have st : t = s + 1 := by
        rcases Nat.lt_or_ge (s + 1) t with z | z
        · have := ch_lt (k := T.length) z (by omega)
          rw [ch_step] at this
          omega
        · omega
      subst st
      rw [ch_step] at e m1
      have e0 : num T = 0 := by omega
      rw [un_zero e0, if_pos (by omega)]
      by_cases hn : S = []
      · subst hn
        have h0 : T.length = 0 := hl.symm
        rw [h0, ch_zero]
        rfl
      · have f := full (s := s) dS (fun x hx => (List.pairwise_cons.mp hS).1 x hx) hn (by rw [hl]; omega)
        obtain ⟨j, hj⟩ : ∃ j, S.length = j + 1 := ⟨S.length - 1, by have := len_pos hn; omega⟩
        rw [num_drop hn, ← hl, hj, ch_step]
        rw [hj, Nat.add_sub_cancel] at f
        omega
theorem erase_le : ∀ {S : List Nat} {i : Nat}, Down S → i < S.length → num (S.eraseIdx i) ≤ num S.dropLast
  | [], _, _, h => absurd h (Nat.not_lt_zero _)
  | s :: S, 0, h, _ => by
    obtain ⟨d, g, b⟩ := down_head h
    show num S ≤ num (s :: S).dropLast
    by_cases hn : S = []
    · subst hn
      exact Nat.le_refl _
    · rw [num_drop hn]
      omega
  | s :: S, i + 1, h, hi => by
    obtain ⟨d, g, b⟩ := down_head h
    have hi : i < S.length := by simpa using hi
    have hn : S ≠ [] := fun z => by rw [z] at hi; exact absurd hi (Nat.not_lt_zero _)
    have ih := erase_le d hi
    show num (s :: S.eraseIdx i) ≤ num (s :: S).dropLast
    rw [num_drop hn, num_cons, List.length_eraseIdx, if_pos hi, Nat.sub_add_cancel (by omega)]
    omega
/-- what is new below a set lies within it -/
theorem new_in : ∀ {T : List Nat} {p : Nat}, Down T → T ≠ [] → un T ≤ p → p ≤ num T.dropLast → ∃ i, i < T.length ∧ num (T.eraseIdx i) = p
  | [], _, _, h, _, _ => absurd rfl h
  | t :: T, p, h, _, h1, h2 => by
    obtain ⟨d, g, b⟩ := down_head h
    have hu : un (t :: T) = (if T.length + 1 ≤ t then ch t T.length else 0) + un T := rfl
    rw [hu] at h1
    by_cases hn : T = []
    · subst hn
      have h2 : p ≤ 0 := h2
      exact ⟨0, by simp, by have : p = 0 := by omega
                            rw [this]; rfl⟩
    · have hp := len_pos hn
      rw [num_drop hn] at h2
      have key : ∀ q, un T ≤ q → q ≤ num T.dropLast → p = ch t T.length + q → ∃ i, i < (t :: T).length ∧ num ((t :: T).eraseIdx i) = p := fun q a1 a2 a3 => by
        obtain ⟨i, hi, e⟩ := new_in d hn a1 a2
        refine ⟨i + 1, by simpa using hi, ?_⟩
        show num (t :: T.eraseIdx i) = p
        rw [num_cons, List.length_eraseIdx, if_pos hi, Nat.sub_add_cancel hp, e, a3]
      by_cases c : T.length + 1 ≤ t
      · rw [if_pos c] at h1
        exact key (p - ch t T.length) (by omega) (by omega) (by omega)
      · have ht : t = T.length := by omega
        rw [if_neg c] at h1
        rw [ht, ch_self] at b h2
        have e0 : num T = 0 := by omega
        by_cases hp0 : p = 0
        · exact ⟨0, by simp, by rw [hp0]; exact e0⟩
        · refine key (p - 1) (by rw [un_zero e0]; exact Nat.zero_le _) (by omega) ?_
          rw [ht, ch_self]
          omega
/-! ### of numbers -/
def overN (k n : Nat) : Nat := ov (cas k n)
def underN (k n : Nat) : Nat := un (cas k n)
/-- the number of the greatest set within the set of a number -/
def dropN (k m : Nat) : Nat := num (cas (k + 1) m).dropLast
theorem under_zero (k : Nat) : underN k 0 = 0 := un_zero (num_cas' fun _ => rfl)
theorem under_succ (k m : Nat) : underN (k + 1) (m + 1) = dropN k m + 1 :=
  un_next (cas_down _ _).1 (cas_down _ _).1 (by rw [cas_length, cas_length]) (by rw [num_cas, num_cas])
theorem over_iff {k n m : Nat} (h : k = 0 → n = 0) : m < overN k n ↔ dropN k m < n := by
  have := ov_iff (cas_down (k + 1) m).1 (cas_down k n).1 (by rw [cas_length, cas_length])
  rw [num_cas, num_cas' h] at this
  exact this
/-- so many hold just as have so few within -/
theorem over_under {k n m : Nat} (h : k = 0 → n = 0) : m ≤ overN k n ↔ underN (k + 1) m ≤ n := by
  cases m with
  | zero =>
    rw [under_zero]
    omega
  | succ m =>
    rw [under_succ]
    exact over_iff h
theorem under_over {k n : Nat} (h : k = 0 → n = 0) : underN (k + 1) (overN k n) ≤ n := (over_under h).mp (Nat.le_refl _)
theorem lt_under_over {k n : Nat} (h : k = 0 → n = 0) : n < underN (k + 1) (overN k n + 1) :=
  Nat.lt_of_not_le fun q => absurd ((over_under h).mpr q) (Nat.not_succ_le_self _)
theorem drop_mono {k m n : Nat} (h : m ≤ n) : dropN k m ≤ dropN k n := by
  cases k with
  | zero =>
    have e : ∀ z, dropN 0 z = 0 := fun z => rfl
    rw [e]
    exact Nat.zero_le _
  | succ k =>
    have h1 : n < overN (k + 1) (dropN (k + 1) n + 1) := (over_iff (fun z => by omega)).mpr (Nat.lt_succ_self _)
    have h2 := (over_iff (k := k + 1) (fun z => by omega)).mp (Nat.lt_of_le_of_lt h h1)
    omega
theorem under_mono {k m n : Nat} (h : m ≤ n) : underN (k + 1) m ≤ underN (k + 1) n := by
  cases m with
  | zero =>
    rw [under_zero]
    exact Nat.zero_le _
  | succ m =>
    obtain ⟨j, rfl⟩ : ∃ j, n = j + 1 := ⟨n - 1, by omega⟩
    rw [under_succ, under_succ]
    have := drop_mono (k := k) (show m ≤ j by omega)
    omega
theorem over_mono {k m n : Nat} (h : m ≤ n) : overN (k + 1) m ≤ overN (k + 1) n :=
  (over_under (fun z => by omega)).mpr (Nat.le_trans (under_over (fun z => by omega)) h)
theorem erase_lt {k n m i : Nat} (h : n < m) (hi : i < k + 1) : num ((cas (k + 1) n).eraseIdx i) < underN (k + 1) m := by
  obtain ⟨j, rfl⟩ : ∃ j, m = j + 1 := ⟨m - 1, by omega⟩
  rw [under_succ]
  have h1 := erase_le (i := i) (cas_down (k + 1) n).1 (by rw [cas_length]; exact hi)
  have h2 := drop_mono (k := k) (show n ≤ j by omega)
  have h3 : dropN k n = num (cas (k + 1) n).dropLast := rfl
  omega
theorem erase_step {k p m : Nat} (h : p < underN (k + 1) (m + 1)) : p < underN (k + 1) m ∨ ∃ i, i < k + 1 ∧ num ((cas (k + 1) m).eraseIdx i) = p := by
  by_cases c : p < underN (k + 1) m
  · exact .inl c
  · rw [under_succ] at h
    obtain ⟨i, h1, h2⟩ := new_in (T := cas (k + 1) m) (p := p) (cas_down _ _).1 (by rw [cas_succ]; exact List.cons_ne_nil _ _) (Nat.le_of_not_lt c) (Nat.le_of_lt_succ h)
    rw [cas_length] at h1
    exact .inr ⟨i, h1, h2⟩
theorem under_le {k m a : Nat} (h : m ≤ ch a (k + 1)) : underN (k + 1) m ≤ ch a k := by
  cases m with
  | zero =>
    rw [under_zero]
    exact Nat.zero_le _
  | succ m =>
    rw [under_succ]
    have hd : Down (cas (k + 1) m).dropLast := (cas_down (k + 1) m).1.sublist (List.dropLast_sublist _)
    have := num_lt (a := a) hd fun x hx => (cas_down (k + 1) m).2 x ((List.dropLast_sublist _).subset hx) a h
    rw [List.length_dropLast, cas_length] at this
    exact this
theorem erase_some {k p : Nat} : ∀ {m : Nat}, p < underN (k + 1) m → ∃ n i, n < m ∧ i < k + 1 ∧ num ((cas (k + 1) n).eraseIdx i) = p
  | 0, h => by
    rw [under_zero] at h
    omega
  | m + 1, h => by
    rcases erase_step h with c | ⟨i, h1, h2⟩
    · obtain ⟨n, i, h1, h2, h3⟩ := erase_some c
      exact ⟨n, i, by omega, h2, h3⟩
    · exact ⟨m, i, Nat.lt_succ_self _, h1, h2⟩
/-- bounds -/
theorem over_le {k n a : Nat} (h : n < ch a k) : overN k n ≤ ch a (k + 1) := by
  have := ov_le (cas_down k n).1 (fun x hx => (cas_down k n).2 x hx a h)
  rw [cas_length] at this
  exact this
theorem over_few {k n a : Nat} (hk : k ≤ a) (h : n < ch a k) : overN k n < ch (a + 1) (k + 1) := by
  have h1 := over_le h
  have h2 := ch_lt_succ hk
  omega
end Sh

/-! Rules of numbers for min and max; truths compared; places of a dict. -/
namespace Sh
open PySem PySem.Spec PyProof.Rows L2
section
variable {X : Cx} {K : PySem.W.Frag}
theorem hu1 {u : Nat} (h : u + 64 < cLine) : u + 1 < cLine := Nat.lt_of_le_of_lt (Nat.add_le_add_left (by decide) u) h
def rMinN : List V → Hp → VK → Prop := fun vs H Q => ∃ n m : Nat, vs = [.int (n : Int), .int (m : Int)] ∧ Q (.int ((min n m : Nat) : Int)) H
def rMaxN : List V → Hp → VK → Prop := fun vs H Q => ∃ n m : Nat, vs = [.int (n : Int), .int (m : Int)] ∧ Q (.int ((max n m : Nat) : Int)) H
theorem call_minN (hc : X.calm = true) : CallR X (.builtin "min") rMinN := by
  intro pins s σ H vs us Q I r h
  obtain ⟨n, m, rfl, q⟩ := h
  refine call_min2 hc pins s σ H _ us Q I r ⟨n, m, rfl, ?_⟩
  have e : (if (m : Int) < (n : Int) then (m : Int) else (n : Int)) = ((min n m : Nat) : Int) := by
    split <;> omega
  rw [e]
  exact q
theorem call_maxN (hc : X.calm = true) : CallR X (.builtin "max") rMaxN := by
  intro pins s σ H vs us Q I r h
  obtain ⟨n, m, rfl, q⟩ := h
  refine call_max2 hc pins s σ H _ us Q I r ⟨n, m, rfl, ?_⟩
  have e : (if (m : Int) > (n : Int) then (m : Int) else (n : Int)) = ((max n m : Nat) : Int) := by
    split <;> omega
  rw [e]
  exact q
theorem cr_maxK (hc : X.calm = true) (hK : X.K = K := by rfl) : CallR X (.builtin "max") (rMax K) := hK ▸ cr_max hc
theorem cr_minK (hc : X.calm = true) (hK : X.K = K := by rfl) : CallR X (.builtin "min") (rMin K) := hK ▸ cr_min hc
def rBNe : R2 := fun x y H Q => ∃ a b : Bool, x = .bl a ∧ y = .bl b ∧ Q (.bl (!decide (a = b))) H
def rBEq : R2 := fun x y H Q => ∃ a b : Bool, x = .bl a ∧ y = .bl b ∧ Q (.bl (decide (a = b))) H
theorem op_bNe : OpR X (compareOp .NotEq) rBNe := by
  intro pins s σ H x y u v Q I r1 r2 h
  obtain ⟨a, b, rfl, rfl, q⟩ := h
  refine op_ne pins s σ H _ _ u v Q I r1 r2 ⟨rfl, ?_⟩
  have e : decide (V.bl a = V.bl b) = decide (a = b) := decide_eq_decide.mpr ⟨V.bl.inj, fun h => by rw [h]⟩
  rw [e]
  exact q
theorem op_bEq : OpR X (compareOp .Eq) rBEq := by
  intro pins s σ H x y u v Q I r1 r2 h
  obtain ⟨a, b, rfl, rfl, q⟩ := h
  refine op_eq pins s σ H _ _ u v Q I r1 r2 ⟨rfl, ?_⟩
  have e : decide (V.bl a = V.bl b) = decide (a = b) := decide_eq_decide.mpr ⟨V.bl.inj, fun h => by rw [h]⟩
  rw [e]
  exact q
end
end Sh

/-! Classes: an object of a class without an own __init__, isinstance of an object, a method of an object of one of two classes; comprehensions over tuples; equality of what may be None or a pair. -/
namespace Sh
open PySem PySem.Spec PyProof.Rows L2
/-- C() where no __init__ is written -/
structure Mk0 (K : PySem.W.Frag) (C : Addr) : Prop where
  makes : PySem.W.makesIn K C = true
  init : PySem.W.findIn K (.ref C) "__init__" = some (some (.builtin "object.__init__"))
  kp : PySem.W.keepIn K (.ref C) = true
def tBare (C : Addr) : TE := fun _ H Q => ∀ x dx, H x = none → H dx = none → dx ≠ x → Q (.ref x) (upd (upd H dx (.own x)) x (.ins C dx []))
section
variable {X : Cx} {C : Addr} {x : Str} {p pos : Pos}
theorem pe_bare (M : Mk0 X.K C) (hg : Gl X x) (hm : X.mg x = some (.ref C)) (hdb : (x == ("__debug__" : Str)) = false := by decide) : PE X (.Call (.Name x p) [] [] pos) (tBare C) := by
  refine ⟨fun pins s σ H Q I h => ?_⟩
  refine wpAny_Call_Name_kw (ld_glob I hg hm ?_ hdb)
  refine PySem.W.callWith_K0 I.kIn M.kp ?_
  have hq := h (s.heap.objs.size + 1) s.heap.objs.size (I.hok.fresh (Nat.le_succ _)) (I.hok.fresh (Nat.le_refl _)) (Nat.ne_of_lt (Nat.lt_succ_self _))
  have I2 := Inv.made (C := C) I
  have Y := PySem.W.makes_of (M := model X.prog X.w) I.kIn M.makes
  have k : ∀ b o, s.heap.get? b = some o → ((s.heap.push PySem.W.emptyDict).push (PySem.W.instObj C s.heap.objs.size)).get? b = some o := fun b o e => Heap.get?_push_of_some _ (Heap.get?_push_of_some _ e)
  have hx : ((s.heap.push PySem.W.emptyDict).push (PySem.W.instObj C s.heap.objs.size)).get? (s.heap.objs.size + 1) = some (PySem.W.instObj C s.heap.objs.size) := by
    have := Heap.get?_push_size (s.heap.push PySem.W.emptyDict) (o := PySem.W.instObj C s.heap.objs.size) rfl
    rwa [Heap.size_push] at this
  have t1 : PySem.W.Looks (model X.prog X.w) ((s.heap.push PySem.W.emptyDict).push (PySem.W.instObj C s.heap.objs.size)) (typeOf (.ref (s.heap.objs.size + 1))) (.ref C) := (PySem.W.Looks.ld hx).andThen .now
  have t2 : PySem.W.Looks (model X.prog X.w) ((s.heap.push PySem.W.emptyDict).push (PySem.W.instObj C s.heap.objs.size)) (isInstance (.ref (s.heap.objs.size + 1)) (.type "object")) true := t1.andThen (Y.top.keeps k)
  refine wpAny_call (make_map0 I.kIn M.makes M.init (fun self => .of_pure (PySem.W.oi_bind self)) ?_)
  refine codeAny_call_builtin PySem.W.oi_plain PySem.W.entry_oi (PySem.W.check_slot PySem.W.oi_kind PySem.W.oi_split t2 (PySem.W.oi_args _) ?_)
  rw [PySem.W.oi_run]
  exact wpAny_pure (And.intro rfl ⟨V.ref (s.heap.objs.size + 1), _, I2, (show Value.ref (s.heap.objs.size + 1) = Value.ref (s.heap.objs.size + 1) from rfl), hq⟩)
end
/-- what isinstance asks of a class -/
structure Isi (K : PySem.W.Frag) (C : Addr) : Prop where
  ca : PySem.W.findIn K (.ref C) "__class__" = some (some (.builtin "object.__class__"))
  gt : PySem.W.specialIn K (.builtin "object.__class__") "__get__" = some (some (.builtin "getset_descriptor.__get__"))
  tk : PySem.W.takesIn K (.builtin "object.__class__") = some true
  ob : PySem.W.mroIn K C (.type "object") = some true
theorem isi_ins {K : PySem.W.Frag} {H : Hp} {a C dx : Addr} {fs : List (Str × V)} (e : H a = some (.ins C dx fs)) (c : Cls K C) (i : Isi K C) : TyX K H (.ref a) (.ref C) := .base (.ins e c i.ca i.gt i.tk i.ob)
/-- o.m(..), o of one of two classes -/
def tMeth2 (C1 C2 : Addr) (m : Str) (sp1 sp2 : Sp) (E : XK) (ta : TE) (t : TA) : TE := fun σ H Q => ta σ H fun x H1 => ∃ a dx fs, x = .ref a ∧ fs.lookup m = none ∧
  ((H1 a = some (.ins C1 dx fs) ∧ t σ H1 fun vs H2 => sp1 (x :: (vs ++ [])) H2 Q E) ∨ (H1 a = some (.ins C2 dx fs) ∧ t σ H1 fun vs H2 => sp2 (x :: (vs ++ [])) H2 Q E))
section
variable {X : Cx} {CX : CXT} {k f1 f2 C1 C2 : Nat} {fd1 fd2 : FuncData} {ps1 ps2 : List Str} {sp1 sp2 : Sp} {E : XK} {m : Str} {pos apos : Pos} {e o : Expr} {es : List Expr} {ta : TE} {t : TA}
theorem pe_meth2 {pl : Sem Bool} (he : PE X o ta) (c1 : Cls X.K C1) (c2 : Cls X.K C2) (hm1 : Meth X.K C1 m f1) (hm2 : Meth X.K C2 m f2) (G1 : FnOk X.prog X.w X.K X.mg X.base CX k f1 fd1 ps1 sp1) (G2 : FnOk X.prog X.w X.K X.mg X.base CX k f2 fd2 ps2 sp2) (hr : Room k X.A)
    (hb1 : Binds X.K fd1 ps1 []) (hb2 : Binds X.K fd2 ps2 []) (hx : Passes CX X E) (ha : PA X (e :: es) t)
    (hst : starEach (e :: es) X.env = (false, eval e X.env) :: starEach es X.env := by rfl) (hpl : (backTo pos (starEach es X.env)).any (·.1) = false := by rfl)
    (ht : eval (.Call (.Attribute o m apos) (e :: es) [] pos) X.env = (do
      let ov ← eval o X.env
      standAt apos.atName
      let (f, first) ← holding [ov] (getMethod ov m pl)
      callWith pos f first (backTo pos (starEach (e :: es) X.env)) (backToKw pos (keywordEach [] X.env))) := by rfl) :
    PE X (.Call (.Attribute o m apos) (e :: es) [] pos) (tMeth2 C1 C2 m sp1 sp2 E ta t) := by
  refine ⟨fun pins s σ H Q I h => ?_⟩
  refine PySem.W.methodCall_KW (pl := pl) (thn (he.run pins s σ H _ I h) fun u s1 ⟨x, H1, I1, rx, a, dx, fs, ex, l, q⟩ => ?_) ht
  subst ex
  obtain rfl : u = Value.ref a := rx
  rcases q with ⟨ea, q⟩ | ⟨ea, q⟩
  · refine getmeth_ok I1 ea c1 hm1 l ?_
    refine PySem.W.callWith_K (first := [.ref a]) (h₀ := X.base) I.ok.mod.kin hm1.kp (thn (ha.run pos pins s1 σ H1 _ I1 q) fun us s2 ⟨vs, H2, I2, r, q2⟩ => ⟨I2.kIn, ?_⟩) hst hpl
    exact run_fn (us := .ref a :: us) (vs := .ref a :: vs) G1 hr hb1 .nil hx I2 (.cons rfl r) q2
  · refine getmeth_ok I1 ea c2 hm2 l ?_
    refine PySem.W.callWith_K (first := [.ref a]) (h₀ := X.base) I.ok.mod.kin hm2.kp (thn (ha.run pos pins s1 σ H1 _ I1 q) fun us s2 ⟨vs, H2, I2, r, q2⟩ => ⟨I2.kIn, ?_⟩) hst hpl
    exact run_fn (us := .ref a :: us) (vs := .ref a :: vs) G2 hr hb2 .nil hx I2 (.cons rfl r) q2
end
section
variable {K : PySem.W.Frag} {te : TE} {vs : List Nat} {σ : L2.St} {H1 : Hp} {D : Addr} {Qd : Hp → Prop}
theorem lc1_tup {a : Addr} {xs : List V} {k : Nat} (Pv : Nat → List V → Hp → Prop) (h0 : Pv 0 [] (upd H1 D (.lst [])))
    (hl : ∀ i acc H, Pv i acc H → SqT K H a xs) (hw : ∀ x, wipe ((wipe σ vs).set k (some x)) vs = wipe σ vs)
    (hs : ∀ i x acc H, xs[i]? = some x → acc.length = i → H D = some (.lst acc) → Pv i acc H → te ((wipe σ vs).set k (some x)) H (LcN D (Acc D (Pv (i + 1)) (i + 1))))
    (hd : ∀ acc H, acc.length = xs.length → H D = some (.lst acc) → Pv xs.length acc H → Qd H) : LcW (Itt K a) (gName k) te vs σ H1 D Qd := by
  refine lc_gen xs.length Pv h0 (fun i acc H hi p => ⟨xs, xs[i], hl i acc H p, by simp [hi]⟩) (fun acc H p => ⟨xs, hl _ acc H p, Nat.le_refl _⟩) ?_ hd
  intro i acc H x H' hi hlen hD p y
  obtain ⟨e, y⟩ := y
  subst e
  exact ⟨hw x, yes_of (hs i x acc _ (y xs (hl i acc _ p)) hlen hD p)⟩
end
/-- None, or a pair -/
def dataP : Option (Int × Int) → PyData
  | none => .none
  | some (i, j) => .tuple [.int i, .int j]
theorem eqv_P (a b : Option (Int × Int)) : PyData.eqv (dataP a) (dataP b) = decide (a = b) := by
  cases a with
  | none => cases b with
    | none => rfl
    | some q => rfl
  | some p => cases b with
    | none => rfl
    | some q =>
      obtain ⟨i, j⟩ := p
      obtain ⟨k, l⟩ := q
      simp only [dataP, PyData.eqv, PyData.eqvAll, Bool.and_true]
      by_cases h1 : i = k
      · by_cases h2 : j = l
        · simp [h1, h2]
        · simp [h2]
      · simp [h1]
theorem shaped_P (a : Option (Int × Int)) : SeqAt.shaped (dataP a) = true := by
  cases a with
  | none => rfl
  | some p => rfl
/-- what None, or a pair, is -/
inductive IsP (K : PySem.W.Frag) (H : Hp) : V → Option (Int × Int) → Prop
  | none : IsP K H .non none
  | some {a : Addr} {i j : Int} (h : SqT K H a [.int i, .int j]) : IsP K H (.ref a) (some (i, j))
theorem dp_P {K : PySem.W.Frag} {H : Hp} {x : V} {a : Option (Int × Int)} (h : IsP K H x a) : Dp K H x (dataP a) := by
  cases h with
  | none => exact .non
  | some h => exact .tup h (.cons (.int _) (.cons (.int _) .nil))
theorem eqP {K : PySem.W.Frag} {H : Hp} {x y : V} {Q : VK} {a b : Option (Int × Int)} (hx : IsP K H x a) (hy : IsP K H y b) (q : Q (.bl (decide (a = b))) H) : rEqD K x y H Q :=
  ⟨dataP a, dataP b, dp_P hx, dp_P hy, shaped_P a, shaped_P b, by rw [eqv_P]; exact q⟩
end Sh

/-! New objects: the heap with one more is given a name. -/
namespace Sh
open PySem PySem.Spec PyProof.Rows L2
theorem new_same {H H' : Hp} {c : Addr} {o : HO} (n : H c = none) (e : upd H c o = H') : Same H H' := e ▸ same_new n
theorem new_at {H H' : Hp} {c : Addr} {o : HO} (e : upd H c o = H') : H' c = some o := e ▸ upd_same
theorem tIf_any {b : Bool} {ta tb : TE} {σ : L2.St} {H : Hp} {Q : VK} (Pd : V → Hp → Prop) (ha : b = true → ∀ Q', (∀ v H', Pd v H' → Q' v H') → ta σ H Q') (hb : b = false → ∀ Q', (∀ v H', Pd v H' → Q' v H') → tb σ H Q')
    (h : ∀ v H', Pd v H' → Q v H') : if b = true then ta σ H Q else tb σ H Q := by
  cases b with
  | true => exact iteT (ha rfl Q h)
  | false => exact iteF (hb rfl Q h)
theorem pe_fldK {X : Cx} {K : PySem.W.Frag} {e : Expr} {f : Str} {pos : Pos} {ta : TE} (he : PE X e ta) (hb : attributeBase e f X.env (eval e X.env) = eval e X.env) (hK : X.K = K := by rfl) : PE X (.Attribute e f pos) (tFld K ta f) := hK ▸ pe_fld he hb
theorem ifS_any {b : Bool} {ta tb : TS} {D : Ends} {σ : L2.St} {H : Hp} (Pd : L2.St → Hp → Prop) (ha : b = true → ∀ D' : Ends, (∀ σ' H', Pd σ' H' → D'.nx σ' H') → ta D' σ H) (hb : b = false → ∀ D' : Ends, (∀ σ' H', Pd σ' H' → D'.nx σ' H') → tb D' σ H)
    (h : ∀ σ' H', Pd σ' H' → D.nx σ' H') : if b = true then ta D σ H else tb D σ H := by
  cases b with
  | true => exact iteT (ha rfl D h)
  | false => exact iteF (hb rfl D h)
end Sh

/-! list(range(i, j, c)). -/
namespace Sh
open PySem PySem.Spec PyProof.Rows L2
def rgS (i c : Int) (n : Nat) : List V := (List.range n).map fun k : Nat => V.int (i + (k : Int) * c)
theorem vals_rgS {i c : Int} {n : Nat} {acc : Array Value} (h : ItemsOf (fun k v => ∃ t, v = .int (i + k * c) t) acc n) : Vals (rgS i c n) acc.toList := by
  have e : acc.toList.length = n := by rw [Array.length_toList]; exact h.1
  unfold rgS
  rw [← e]
  refine vals_of_get acc.toList _ fun j u hj => ?_
  obtain ⟨t, rfl⟩ := h.2 j u (by rw [← hj, Array.getElem?_toList])
  exact ⟨t, rfl⟩
def tLstRg3 (ta : TA) : TE := fun σ H Q => ta σ H fun vs H1 => ∃ (i j c : Int) (n : Nat), vs = [.int i, .int j, .int c] ∧ RgC i j c n ∧ n ≤ 2 ^ 24 ∧ ∀ q, H1 q = none → Q (.ref q) (upd H1 q (.lst (rgS i c n)))
section
variable {X : Cx}
theorem pe_listRg3 {a b c : Expr} {ta : TA} {p pos p2 pos2 : Pos} (hc : X.calm = true) (hg : Gl X "list") (hm : X.mg "list" = none) (hg2 : Gl X "range") (hm2 : X.mg "range" = none) (ha : PA X [a, b, c] ta)
    (hs : starEach [a, b, c] X.env = (false, eval a X.env) :: starEach [b, c] X.env := by rfl) (hpl : (backTo pos2 (starEach [b, c] X.env)).any (·.1) = false := by rfl)
    (na : starEach [.Call (.Name "range" p2) [a, b, c] [] pos2] X.env = (false, eval (.Call (.Name "range" p2) [a, b, c] [] pos2) X.env) :: starEach [] X.env := by rfl) :
    PE X (.Call (.Name "list" p) [.Call (.Name "range" p2) [a, b, c] [] pos2] [] pos) (tLstRg3 ta) := by
  refine ⟨fun pins s σ H Q I h => ?_⟩
  have rng : wpAny (model X.prog X.w) X.A (eval (.Call (.Name "range" p2) [a, b, c] [] pos2) X.env) (fun x s' => ∃ (r : Addr) (i j k : Int) (n : Nat) (t u v : Tok) (H' : Hp), x = .ref r ∧ IsRange s'.heap r i j k t u v ∧ Inv X pins σ H' s' ∧ RgC i j k n ∧ n ≤ 2 ^ 24 ∧
      ∀ q, H' q = none → Q (.ref q) (upd H' q (.lst (rgS i k n)))) X.xe s := by
    refine Call_ (ld_blt I hg2 hm2 boot_range (PyProof.Rows.callWith_type1 (thn (ha.run pos2 pins s σ H _ I h) fun us s1 ⟨vs, H1, I1, r1, q1⟩ => ?_) hs hpl))
    obtain ⟨i, j, k, n, e, ⟨c0, c1, c2, c3⟩, hn, q⟩ := q1
    subst e
    cases r1 with
    | cons r rr =>
      cases rr with
      | cons r' rr =>
        cases rr with
        | cons r'' rr =>
          cases rr
          obtain ⟨t, rfl⟩ := r
          obtain ⟨t', rfl⟩ := r'
          obtain ⟨t'', rfl⟩ := r''
          refine call_range_3 c0 ?_ (.inl (PyProof.noPylong_small c1))
          exact ⟨_, i, j, k, n, t, t', t'', H1, rfl, IsRange.new .., I1.kept (t' := s1.toks) fun b o e => Heap.get?_push_of_some _ e, ⟨c0, c1, c2, c3⟩, hn, q⟩
  refine Call_ (ld_blt I hg hm boot_list (PyProof.Rows.callWith_type1 (args_cons (thn rng fun x s1 ⟨r, i, j, k, n, t, u, v, H1, ex, hr, I1, ok, hn, q⟩ => args_nil ?_) na) na))
  subst ex
  obtain ⟨c0, c1, c2, c3⟩ := ok
  refine call_list_range (n := n) (I1.ok.hd hc) hr c2 c3 hn fun h' tk acc c' hk e' hi => ?_
  refine ⟨.ref s1.heap.objs.size, upd H1 s1.heap.objs.size (.lst (rgS i k n)), I1.laid hk (Nat.le_refl _) (show ObjOk X.prog X.w _ _ _ (.lst (rgS i k n)) from ⟨?_, acc.toList, c', vals_rgS hi, ?_⟩), rfl, q _ (I1.hok.fresh (Nat.le_refl _))⟩
  · unfold rgS
    rw [List.length_map, List.length_range, sizeLine_eq]
    omega
  · rw [Array.toArray_toList]; exact e'
end
end Sh

namespace Sh
open PySem PySem.Spec PyProof.Rows L2
def stS (i : Nat) : Stmt := PySem.Challenge.pw_shadowrow_k03_whole_rows.main.body.getD i (.Pass ⟨0, 0, 0, 0⟩)
abbrev s_is_number : Stmt := stS 3
theorem sc_is_number : FnScope ["thing"] ["thing"] (defScope s_is_number) := ⟨rfl, rfl, rfl, by decide +kernel, rfl, by decide +kernel, by decide +kernel⟩
abbrev s_is_size : Stmt := stS 4
theorem sc_is_size : FnScope ["thing", "least", "greatest"] ["thing", "least", "greatest"] (defScope s_is_size) := ⟨rfl, rfl, rfl, by decide +kernel, rfl, by decide +kernel, by decide +kernel⟩
abbrev s_is_list_of_numbers : Stmt := stS 5
theorem sc_is_list_of_numbers : FnScope ["thing", "each"] ["thing"] (defScope s_is_list_of_numbers) := ⟨rfl, rfl, rfl, by decide +kernel, rfl, by decide +kernel, by decide +kernel⟩
abbrev s_is_falling : Stmt := stS 6
theorem sc_is_falling : FnScope ["numbers", "ahead", "behind"] ["numbers"] (defScope s_is_falling) := ⟨rfl, rfl, rfl, by decide +kernel, rfl, by decide +kernel, by decide +kernel⟩
abbrev s_is_set : Stmt := stS 7
theorem sc_is_set : FnScope ["thing"] ["thing"] (defScope s_is_set) := ⟨rfl, rfl, rfl, by decide +kernel, rfl, by decide +kernel, by decide +kernel⟩
abbrev s_is_row : Stmt := stS 8
theorem sc_is_row : FnScope ["thing"] ["thing"] (defScope s_is_row) := ⟨rfl, rfl, rfl, by decide +kernel, rfl, by decide +kernel, by decide +kernel⟩
abbrev s_power : Stmt := stS 10
theorem sc_power : FnScope ["base", "degree", "worth", "_"] ["base", "degree"] (defScope s_power) := ⟨rfl, rfl, rfl, by decide +kernel, rfl, by decide +kernel, by decide +kernel⟩
abbrev s_guess_above : Stmt := stS 11
theorem sc_guess_above : FnScope ["number", "degree", "half"] ["number", "degree"] (defScope s_guess_above) := ⟨rfl, rfl, rfl, by decide +kernel, rfl, by decide +kernel, by decide +kernel⟩
abbrev s_whole_root : Stmt := stS 12
theorem sc_whole_root : FnScope ["number", "degree", "root", "step"] ["number", "degree"] (defScope s_whole_root) := ⟨rfl, rfl, rfl, by decide +kernel, rfl, by decide +kernel, by decide +kernel⟩
abbrev s_greatest_first : Stmt := stS 13
theorem sc_greatest_first : FnScope ["size", "number", "first"] ["size", "number"] (defScope s_greatest_first) := ⟨rfl, rfl, rfl, by decide +kernel, rfl, by decide +kernel, by decide +kernel⟩
abbrev s_numbers_of_set : Stmt := stS 14
theorem sc_numbers_of_set : FnScope ["size", "number", "numbers", "left", "first"] ["size", "number"] (defScope s_numbers_of_set) := ⟨rfl, rfl, rfl, by decide +kernel, rfl, by decide +kernel, by decide +kernel⟩
abbrev s_check_number : Stmt := stS 22
theorem sc_check_number : FnScope ["many"] ["many"] (defScope s_check_number) := ⟨rfl, rfl, rfl, by decide +kernel, rfl, by decide +kernel, by decide +kernel⟩
abbrev s_first_sets_at : Stmt := stS 23
theorem sc_first_sets_at : FnScope ["size", "many", "by", "total", "place", "each", "left"] ["size", "many", "by"] (defScope s_first_sets_at) := ⟨rfl, rfl, rfl, by decide +kernel, rfl, by decide +kernel, by decide +kernel⟩
abbrev s_over : Stmt := stS 24
theorem sc_over : FnScope ["size", "many"] ["size", "many"] (defScope s_over) := ⟨rfl, rfl, rfl, by decide +kernel, rfl, by decide +kernel, by decide +kernel⟩
abbrev s_first_excess : Stmt := stS 26
theorem sc_first_excess : FnScope ["row", "size", "can_be"] ["row"] (defScope s_first_excess) := ⟨rfl, rfl, rfl, by decide +kernel, rfl, by decide +kernel, by decide +kernel⟩
abbrev s_Can_shows : Stmt := inClass (stS 29) 0
theorem sc_Can_shows : FnScope ["self", "row"] ["self", "row"] (defScope s_Can_shows) := ⟨rfl, rfl, rfl, by decide +kernel, rfl, by decide +kernel, by decide +kernel⟩
abbrev s_Barred___init__ : Stmt := inClass (stS 30) 0
theorem sc_Barred___init__ : FnScope ["self", "size", "most"] ["self", "size", "most"] (defScope s_Barred___init__) := ⟨rfl, rfl, rfl, by decide +kernel, rfl, by decide +kernel, by decide +kernel⟩
abbrev s_Barred_shows : Stmt := inClass (stS 30) 1
theorem sc_Barred_shows : FnScope ["self", "row", "fields", "each"] ["self", "row"] (defScope s_Barred_shows) := ⟨rfl, rfl, rfl, by decide +kernel, rfl, by decide +kernel, by decide +kernel⟩
abbrev s_check_set : Stmt := stS 32
theorem sc_check_set : FnScope ["some"] ["some"] (defScope s_check_set) := ⟨rfl, rfl, rfl, by decide +kernel, rfl, by decide +kernel, by decide +kernel⟩
abbrev s_number_of : Stmt := stS 33
theorem sc_number_of : FnScope ["some", "number", "place", "each"] ["some"] (defScope s_number_of) := ⟨rfl, rfl, rfl, by decide +kernel, rfl, by decide +kernel, by decide +kernel⟩
abbrev s_check_row : Stmt := stS 35
theorem sc_check_row : FnScope ["row"] ["row"] (defScope s_check_row) := ⟨rfl, rfl, rfl, by decide +kernel, rfl, by decide +kernel, by decide +kernel⟩
abbrev s_check_family : Stmt := stS 36
theorem sc_check_family : FnScope ["row"] ["row"] (defScope s_check_family) := ⟨rfl, rfl, rfl, by decide +kernel, rfl, by decide +kernel, by decide +kernel⟩
abbrev s_told : Stmt := stS 37
theorem sc_told : FnScope ["row", "excess", "size", "can_be"] ["row"] (defScope s_told) := ⟨rfl, rfl, rfl, by decide +kernel, rfl, by decide +kernel, by decide +kernel⟩
abbrev s_has : Stmt := stS 38
theorem sc_has : FnScope ["row", "some", "number"] ["row", "some"] (defScope s_has) := ⟨rfl, rfl, rfl, by decide +kernel, rfl, by decide +kernel, by decide +kernel⟩
abbrev s_most : Stmt := stS 39
theorem sc_most : FnScope ["row"] ["row"] (defScope s_most) := ⟨rfl, rfl, rfl, by decide +kernel, rfl, by decide +kernel, by decide +kernel⟩
abbrev s__law_cell_at : Stmt := stS 41
theorem sc__law_cell_at : FnScope ["_law_script", "_law_k"] ["_law_script", "_law_k"] (defScope s__law_cell_at) := ⟨rfl, rfl, rfl, by decide +kernel, rfl, by decide +kernel, by decide +kernel⟩
abbrev s__law_draw : Stmt := stS 42
theorem sc__law_draw : FnScope ["_law_cell", "_law_k", "_law_many", "_law_primes"] ["_law_cell", "_law_k", "_law_many"] (defScope s__law_draw) := ⟨rfl, rfl, rfl, by decide +kernel, rfl, by decide +kernel, by decide +kernel⟩
abbrev s__law_value : Stmt := stS 43
theorem sc__law_value : FnScope ["_law_cell", "_law_k", "_law_limit"] ["_law_cell", "_law_k", "_law_limit"] (defScope s__law_value) := ⟨rfl, rfl, rfl, by decide +kernel, rfl, by decide +kernel, by decide +kernel⟩
abbrev s__law_whole : Stmt := stS 44
theorem sc__law_whole : FnScope ["_law_number"] ["_law_number"] (defScope s__law_whole) := ⟨rfl, rfl, rfl, by decide +kernel, rfl, by decide +kernel, by decide +kernel⟩
abbrev s__law_picks : Stmt := stS 45
theorem sc__law_picks : FnScope ["_law_things", "_law_size", "_law_found", "_law_turn"] ["_law_things", "_law_size"] (defScope s__law_picks) := ⟨rfl, rfl, rfl, by decide +kernel, rfl, by decide +kernel, by decide +kernel⟩
abbrev s__law_set : Stmt := stS 46
theorem sc__law_set : FnScope ["_law_size", "_law_number", "_law_found", "_law_left", "_law_rest", "_law_low", "_law_step"] ["_law_size", "_law_number"] (defScope s__law_set) := ⟨rfl, rfl, rfl, by decide +kernel, rfl, by decide +kernel, by decide +kernel⟩
abbrev s__law_moved : Stmt := stS 47
theorem sc__law_moved : FnScope ["_law_size", "_law_number", "_law_by", "_law_found", "_law_at", "_law_one"] ["_law_size", "_law_number", "_law_by"] (defScope s__law_moved) := ⟨rfl, rfl, rfl, by decide +kernel, rfl, by decide +kernel, by decide +kernel⟩
abbrev s__law_least : Stmt := stS 48
theorem sc__law_least : FnScope ["_law_row_here", "_law_size", "_law_limit"] ["_law_row_here"] (defScope s__law_least) := ⟨rfl, rfl, rfl, by decide +kernel, rfl, by decide +kernel, by decide +kernel⟩
abbrev s__law_row : Stmt := stS 49
theorem sc__law_row : FnScope ["_law_script", "_law_kind", "_law_long", "_law_row_here", "_law_k", "_law_cell", "_law_limit", "_law_number", "_law_at"] ["_law_script"] (defScope s__law_row) := ⟨rfl, rfl, rfl, by decide +kernel, rfl, by decide +kernel, by decide +kernel⟩
abbrev s__law_due : Stmt := stS 50
theorem sc__law_due : FnScope ["_law_row_here", "_law_found"] ["_law_row_here", "_law_found"] (defScope s__law_due) := ⟨rfl, rfl, rfl, by decide +kernel, rfl, by decide +kernel, by decide +kernel⟩
abbrev s__law_says : Stmt := stS 51
theorem sc__law_says : FnScope ["_law_said", "_law_due_here"] ["_law_said", "_law_due_here"] (defScope s__law_says) := ⟨rfl, rfl, rfl, by decide +kernel, rfl, by decide +kernel, by decide +kernel⟩
abbrev s__law_family_right : Stmt := stS 52
theorem sc__law_family_right : FnScope ["_law_row_here", "_law_cell", "_law_sizes", "_law_size", "_law_count", "_law_number", "_law_some", "_law_near", "_law_at"] ["_law_row_here", "_law_cell"] (defScope s__law_family_right) := ⟨rfl, rfl, rfl, by decide +kernel, rfl, by decide +kernel, by decide +kernel⟩
abbrev s__law_right : Stmt := stS 53
theorem sc__law_right : FnScope ["_law_row_here", "_law_others", "_law_cell", "_law_kept", "_law_found", "_law_other"] ["_law_row_here", "_law_others", "_law_cell"] (defScope s__law_right) := ⟨rfl, rfl, rfl, by decide +kernel, rfl, by decide +kernel, by decide +kernel⟩
abbrev s_law : Stmt := stS 54
theorem sc_law : FnScope ["_law_script", "_law_row_here", "_law_cell", "_law_more", "_law_limit", "_law_some", "_law_good", "_law_bad", "_law_one"] ["_law_script"] (defScope s_law) := ⟨rfl, rfl, rfl, by decide +kernel, rfl, by decide +kernel, by decide +kernel⟩
/-- what the top has written -/
structure Txt (K : PySem.W.Frag) (mg : Str → Option Value) where
  f_is_number : Addr
  d_is_number : FuncData
  F_is_number : Fun K "is_number" "is_number" s_is_number f_is_number d_is_number
  g_is_number : mg "is_number" = some (.ref f_is_number)
  b_is_number : Binds K d_is_number ["thing"] []
  f_is_size : Addr
  d_is_size : FuncData
  F_is_size : Fun K "is_size" "is_size" s_is_size f_is_size d_is_size
  g_is_size : mg "is_size" = some (.ref f_is_size)
  b_is_size : Binds K d_is_size ["thing", "least", "greatest"] []
  f_is_list_of_numbers : Addr
  d_is_list_of_numbers : FuncData
  F_is_list_of_numbers : Fun K "is_list_of_numbers" "is_list_of_numbers" s_is_list_of_numbers f_is_list_of_numbers d_is_list_of_numbers
  g_is_list_of_numbers : mg "is_list_of_numbers" = some (.ref f_is_list_of_numbers)
  b_is_list_of_numbers : Binds K d_is_list_of_numbers ["thing"] []
  f_is_falling : Addr
  d_is_falling : FuncData
  F_is_falling : Fun K "is_falling" "is_falling" s_is_falling f_is_falling d_is_falling
  g_is_falling : mg "is_falling" = some (.ref f_is_falling)
  b_is_falling : Binds K d_is_falling ["numbers"] []
  f_is_set : Addr
  d_is_set : FuncData
  F_is_set : Fun K "is_set" "is_set" s_is_set f_is_set d_is_set
  g_is_set : mg "is_set" = some (.ref f_is_set)
  b_is_set : Binds K d_is_set ["thing"] []
  f_is_row : Addr
  d_is_row : FuncData
  F_is_row : Fun K "is_row" "is_row" s_is_row f_is_row d_is_row
  g_is_row : mg "is_row" = some (.ref f_is_row)
  b_is_row : Binds K d_is_row ["thing"] []
  f_power : Addr
  d_power : FuncData
  F_power : Fun K "power" "power" s_power f_power d_power
  g_power : mg "power" = some (.ref f_power)
  b_power : Binds K d_power ["base", "degree"] []
  f_guess_above : Addr
  d_guess_above : FuncData
  F_guess_above : Fun K "guess_above" "guess_above" s_guess_above f_guess_above d_guess_above
  g_guess_above : mg "guess_above" = some (.ref f_guess_above)
  b_guess_above : Binds K d_guess_above ["number", "degree"] []
  f_whole_root : Addr
  d_whole_root : FuncData
  F_whole_root : Fun K "whole_root" "whole_root" s_whole_root f_whole_root d_whole_root
  g_whole_root : mg "whole_root" = some (.ref f_whole_root)
  b_whole_root : Binds K d_whole_root ["number", "degree"] []
  f_greatest_first : Addr
  d_greatest_first : FuncData
  F_greatest_first : Fun K "greatest_first" "greatest_first" s_greatest_first f_greatest_first d_greatest_first
  g_greatest_first : mg "greatest_first" = some (.ref f_greatest_first)
  b_greatest_first : Binds K d_greatest_first ["size", "number"] []
  f_numbers_of_set : Addr
  d_numbers_of_set : FuncData
  F_numbers_of_set : Fun K "numbers_of_set" "numbers_of_set" s_numbers_of_set f_numbers_of_set d_numbers_of_set
  g_numbers_of_set : mg "numbers_of_set" = some (.ref f_numbers_of_set)
  b_numbers_of_set : Binds K d_numbers_of_set ["size", "number"] []
  f_check_number : Addr
  d_check_number : FuncData
  F_check_number : Fun K "check_number" "check_number" s_check_number f_check_number d_check_number
  g_check_number : mg "check_number" = some (.ref f_check_number)
  b_check_number : Binds K d_check_number ["many"] []
  f_first_sets_at : Addr
  d_first_sets_at : FuncData
  F_first_sets_at : Fun K "first_sets_at" "first_sets_at" s_first_sets_at f_first_sets_at d_first_sets_at
  g_first_sets_at : mg "first_sets_at" = some (.ref f_first_sets_at)
  b_first_sets_at : Binds K d_first_sets_at ["size", "many", "by"] []
  f_over : Addr
  d_over : FuncData
  F_over : Fun K "over" "over" s_over f_over d_over
  g_over : mg "over" = some (.ref f_over)
  b_over : Binds K d_over ["size", "many"] []
  f_first_excess : Addr
  d_first_excess : FuncData
  F_first_excess : Fun K "first_excess" "first_excess" s_first_excess f_first_excess d_first_excess
  g_first_excess : mg "first_excess" = some (.ref f_first_excess)
  b_first_excess : Binds K d_first_excess ["row"] []
  f_Can_shows : Addr
  d_Can_shows : FuncData
  F_Can_shows : Fun K "shows" "Can.shows" s_Can_shows f_Can_shows d_Can_shows
  b_Can_shows : Binds K d_Can_shows ["self", "row"] []
  f_Barred___init__ : Addr
  d_Barred___init__ : FuncData
  F_Barred___init__ : Fun K "__init__" "Barred.__init__" s_Barred___init__ f_Barred___init__ d_Barred___init__
  b_Barred___init__ : Binds K d_Barred___init__ ["self", "size", "most"] []
  f_Barred_shows : Addr
  d_Barred_shows : FuncData
  F_Barred_shows : Fun K "shows" "Barred.shows" s_Barred_shows f_Barred_shows d_Barred_shows
  b_Barred_shows : Binds K d_Barred_shows ["self", "row"] []
  f_check_set : Addr
  d_check_set : FuncData
  F_check_set : Fun K "check_set" "check_set" s_check_set f_check_set d_check_set
  g_check_set : mg "check_set" = some (.ref f_check_set)
  b_check_set : Binds K d_check_set ["some"] []
  f_number_of : Addr
  d_number_of : FuncData
  F_number_of : Fun K "number_of" "number_of" s_number_of f_number_of d_number_of
  g_number_of : mg "number_of" = some (.ref f_number_of)
  b_number_of : Binds K d_number_of ["some"] []
  f_check_row : Addr
  d_check_row : FuncData
  F_check_row : Fun K "check_row" "check_row" s_check_row f_check_row d_check_row
  g_check_row : mg "check_row" = some (.ref f_check_row)
  b_check_row : Binds K d_check_row ["row"] []
  f_check_family : Addr
  d_check_family : FuncData
  F_check_family : Fun K "check_family" "check_family" s_check_family f_check_family d_check_family
  g_check_family : mg "check_family" = some (.ref f_check_family)
  b_check_family : Binds K d_check_family ["row"] []
  f_told : Addr
  d_told : FuncData
  F_told : Fun K "told" "told" s_told f_told d_told
  g_told : mg "told" = some (.ref f_told)
  b_told : Binds K d_told ["row"] []
  f_has : Addr
  d_has : FuncData
  F_has : Fun K "has" "has" s_has f_has d_has
  g_has : mg "has" = some (.ref f_has)
  b_has : Binds K d_has ["row", "some"] []
  f_most : Addr
  d_most : FuncData
  F_most : Fun K "most" "most" s_most f_most d_most
  g_most : mg "most" = some (.ref f_most)
  b_most : Binds K d_most ["row"] []
  f__law_cell_at : Addr
  d__law_cell_at : FuncData
  F__law_cell_at : Fun K "_law_cell_at" "_law_cell_at" s__law_cell_at f__law_cell_at d__law_cell_at
  g__law_cell_at : mg "_law_cell_at" = some (.ref f__law_cell_at)
  b__law_cell_at : Binds K d__law_cell_at ["_law_script", "_law_k"] []
  f__law_draw : Addr
  d__law_draw : FuncData
  F__law_draw : Fun K "_law_draw" "_law_draw" s__law_draw f__law_draw d__law_draw
  g__law_draw : mg "_law_draw" = some (.ref f__law_draw)
  b__law_draw : Binds K d__law_draw ["_law_cell", "_law_k", "_law_many"] []
  f__law_value : Addr
  d__law_value : FuncData
  F__law_value : Fun K "_law_value" "_law_value" s__law_value f__law_value d__law_value
  g__law_value : mg "_law_value" = some (.ref f__law_value)
  b__law_value : Binds K d__law_value ["_law_cell", "_law_k", "_law_limit"] []
  f__law_whole : Addr
  d__law_whole : FuncData
  F__law_whole : Fun K "_law_whole" "_law_whole" s__law_whole f__law_whole d__law_whole
  g__law_whole : mg "_law_whole" = some (.ref f__law_whole)
  b__law_whole : Binds K d__law_whole ["_law_number"] []
  f__law_picks : Addr
  d__law_picks : FuncData
  F__law_picks : Fun K "_law_picks" "_law_picks" s__law_picks f__law_picks d__law_picks
  g__law_picks : mg "_law_picks" = some (.ref f__law_picks)
  b__law_picks : Binds K d__law_picks ["_law_things", "_law_size"] []
  f__law_set : Addr
  d__law_set : FuncData
  F__law_set : Fun K "_law_set" "_law_set" s__law_set f__law_set d__law_set
  g__law_set : mg "_law_set" = some (.ref f__law_set)
  b__law_set : Binds K d__law_set ["_law_size", "_law_number"] []
  f__law_moved : Addr
  d__law_moved : FuncData
  F__law_moved : Fun K "_law_moved" "_law_moved" s__law_moved f__law_moved d__law_moved
  g__law_moved : mg "_law_moved" = some (.ref f__law_moved)
  b__law_moved : Binds K d__law_moved ["_law_size", "_law_number", "_law_by"] []
  f__law_least : Addr
  d__law_least : FuncData
  F__law_least : Fun K "_law_least" "_law_least" s__law_least f__law_least d__law_least
  g__law_least : mg "_law_least" = some (.ref f__law_least)
  b__law_least : Binds K d__law_least ["_law_row_here"] []
  f__law_row : Addr
  d__law_row : FuncData
  F__law_row : Fun K "_law_row" "_law_row" s__law_row f__law_row d__law_row
  g__law_row : mg "_law_row" = some (.ref f__law_row)
  b__law_row : Binds K d__law_row ["_law_script"] []
  f__law_due : Addr
  d__law_due : FuncData
  F__law_due : Fun K "_law_due" "_law_due" s__law_due f__law_due d__law_due
  g__law_due : mg "_law_due" = some (.ref f__law_due)
  b__law_due : Binds K d__law_due ["_law_row_here", "_law_found"] []
  f__law_says : Addr
  d__law_says : FuncData
  F__law_says : Fun K "_law_says" "_law_says" s__law_says f__law_says d__law_says
  g__law_says : mg "_law_says" = some (.ref f__law_says)
  b__law_says : Binds K d__law_says ["_law_said", "_law_due_here"] []
  f__law_family_right : Addr
  d__law_family_right : FuncData
  F__law_family_right : Fun K "_law_family_right" "_law_family_right" s__law_family_right f__law_family_right d__law_family_right
  g__law_family_right : mg "_law_family_right" = some (.ref f__law_family_right)
  b__law_family_right : Binds K d__law_family_right ["_law_row_here", "_law_cell"] []
  f__law_right : Addr
  d__law_right : FuncData
  F__law_right : Fun K "_law_right" "_law_right" s__law_right f__law_right d__law_right
  g__law_right : mg "_law_right" = some (.ref f__law_right)
  b__law_right : Binds K d__law_right ["_law_row_here", "_law_others", "_law_cell"] []
  f_law : Addr
  d_law : FuncData
  F_law : Fun K "law" "law" s_law f_law d_law
  g_law : mg "law" = some (.ref f_law)
  b_law : Binds K d_law ["_law_script"] []
  z_all : mg "all" = none
  z_bool : mg "bool" = none
  c_GREATEST_SIZE : Σ' t : Tok, mg "GREATEST_SIZE" = some (.int 20 t)
  z_enumerate : mg "enumerate" = none
  z_int : mg "int" = none
  z_isinstance : mg "isinstance" = none
  z_len : mg "len" = none
  z_list : mg "list" = none
  m_comb : mg "comb" = some (.builtin "math.comb")
  m_factorial : mg "factorial" = some (.builtin "math.factorial")
  z_max : mg "max" = none
  z_min : mg "min" = none
  z_range : mg "range" = none
  z_type : mg "type" = none
  z_zip : mg "zip" = none
  k_Answer : Addr
  k_Can : Addr
  k_Barred : Addr
  g_Answer : mg "Answer" = some (.ref k_Answer)
  g_Can : mg "Can" = some (.ref k_Can)
  C_Can : Cls K k_Can
  I_Can : Isi K k_Can
  M_Can : Mk0 K k_Can
  m_Can_shows : Meth K k_Can "shows" f_Can_shows
  s_Can_Answer : PySem.W.kitOne K (.ref k_Can) (.ref k_Answer) = some true
  s_Can_Can : PySem.W.kitOne K (.ref k_Can) (.ref k_Can) = some true
  s_Can_Barred : PySem.W.kitOne K (.ref k_Can) (.ref k_Barred) = some false
  g_Barred : mg "Barred" = some (.ref k_Barred)
  C_Barred : Cls K k_Barred
  I_Barred : Isi K k_Barred
  M_Barred : Mk K k_Barred f_Barred___init__
  m_Barred_shows : Meth K k_Barred "shows" f_Barred_shows
  n_Barred_size : NoAttr K k_Barred "size"
  n_Barred_most : NoAttr K k_Barred "most"
  s_Barred_Answer : PySem.W.kitOne K (.ref k_Barred) (.ref k_Answer) = some true
  s_Barred_Can : PySem.W.kitOne K (.ref k_Barred) (.ref k_Can) = some false
  s_Barred_Barred : PySem.W.kitOne K (.ref k_Barred) (.ref k_Barred) = some true
end Sh

/-! Powers, roots, the first number of a set. -/
namespace Sh
open PySem PySem.Spec PyProof.Rows L2
section
variable {P : Program} {w : World} {K : PySem.W.Frag} {mg : Str → Option Value} {base : Heap}
/-- a power, of a base and a degree that are not too great -/
def spPower : Sp := fun vs H Q _ => ∃ x d b : Nat, vs = [.int (x : Int), .int (d : Int)] ∧ x < 2 ^ b ∧ d ≤ 20 ∧ b ≤ 100000 ∧ Q (.int ((x ^ d : Nat) : Int)) H
noncomputable def dv_power {P : Program} {w : World} {K : PySem.W.Frag} {mg : Str → Option Value} {base : Heap} (T : Txt K mg)  {cdv : Value} {A : Around} {outer : List Env} {s : Shared} {H : Hp} {E : XK}
    (hr : Room 0 (A.deeper (envOfC "power" (defScope s_power) s.heap.objs.size T.f_power cdv))) :
    Σ' t : TS, PSs (cxOf CX0 P w K mg base ["base", "degree", "worth", "_"] "power" (defScope s_power) T.f_power cdv A outer s H E).nox (defBody s_power) t :=
  ⟨_, (pss_cons (ps_set (i := 2) sc_power.nd rfl (.inl rfl) pe_int)
      (pss_cons (ps_for PassesOwn.never rfl (pi_range1 (by rfl) T.z_range (pa_cons (pv 1) pa_nil)) (pg_name (i := 3) sc_power.nd rfl (.inl rfl)) (pss_one (ps_set (i := 2) sc_power.nd rfl (.inl rfl) (pe_op op_nMul (pv 2) (pv 0)))))
      (pss_one (ps_ret (pv 2)))))⟩
theorem pow_lt {x b : Nat} (h : x < 2 ^ b) (i : Nat) : x ^ i < 2 ^ (b * i + 1) := by
  rw [Nat.pow_succ, Nat.pow_mul]
  have := Nat.pow_le_pow_left (Nat.le_of_lt h) i
  have := Nat.pow_pos (n := i) (Nat.two_pow_pos b)
  omega
theorem ok_power (T : Txt K mg) : FnOk P w K mg base CX0 1 T.f_power T.d_power ["base", "degree"] spPower := by
  refine T.F_power.ok sc_power (fun vs H Q E h => ?_) (fun cdv A outer s H vs Q E hr h => ⟨_, (dv_power T hr).2, ?_⟩)
  · obtain ⟨x, d, b, rfl, _⟩ := h
    rfl
  · obtain ⟨x, d, b, rfl, hx, hd, hb, q⟩ := h
    refine ⟨_, rfl, d, rfl, by omega, by omega, ?_⟩
    refine for_rangeN (n := d) rfl (fun i σ H' => H' = H ∧ ∃ y, σ = [some (.int (x : Int)), some (.int (d : Int)), some (.int ((x ^ i : Nat) : Int)), y]) ⟨rfl, none, rfl⟩ ?_ ?_
    · rintro i σ H' hi ⟨rfl, y, rfl⟩
      have h20 : b * i ≤ b * 20 := Nat.mul_le_mul_left b (by omega)
      exact ⟨_, rfl, _, rfl, _, _, rfl, rfl, ⟨b * i + 1, b, pow_lt hx i, hx, by omega⟩, rfl, some (.int (i : Nat)), rfl⟩
    · rintro σ H' ⟨rfl, y, rfl⟩
      exact ⟨_, rfl, q⟩
end
end Sh

/-! Roots. -/
namespace Sh
open PySem PySem.Spec PyProof.Rows L2
/-- so many bits are served by n calls -/
def fuel (d : Nat) : Nat → Nat
  | 0 => 0
  | 1 => 2 * d - 1
  | n + 2 => d * (2 ^ n + 2) - 1
theorem fuel_next {d n b : Nat} (hd : 1 ≤ d) (h : b ≤ fuel d (n + 1)) (hh : b / (2 * d) ≠ 0) : 1 ≤ n ∧ b - d * (b / (2 * d)) ≤ fuel d n := by
  have h2 : 0 < 2 * d := by omega
  have hb : 2 * d ≤ b := by
    refine Nat.le_of_not_lt fun q => hh (Nat.div_eq_of_lt q)
  have hm := Nat.div_add_mod b (2 * d)
  have hl := Nat.mod_lt b h2
  generalize b / (2 * d) = k at *
  generalize b % (2 * d) = r at *
  have e : 2 * d * k = d * k + d * k := by rw [Nat.mul_assoc, Nat.two_mul]
  cases n with
  | zero =>
    have h : b ≤ 2 * d - 1 := h
    omega
  | succ n =>
    refine ⟨by omega, ?_⟩
    cases n with
    | zero =>
      have h : b ≤ d * (2 ^ 0 + 2) - 1 := h
      show b - d * k ≤ 2 * d - 1
      have hk : 1 ≤ k := by omega
      have := Nat.mul_le_mul_left d hk
      rw [Nat.pow_zero] at h
      omega
    | succ n =>
      have h : b ≤ d * (2 ^ (n + 1) + 2) - 1 := h
      show b - d * k ≤ d * (2 ^ n + 2) - 1
      rw [Nat.pow_succ] at h
      rw [Nat.mul_add] at h ⊢
      rw [← Nat.mul_assoc] at h
      omega
/-- the guess is not below the root -/
theorem guess_one {n d b : Nat} (hd : 1 ≤ d) (hb : n < 2 ^ b) : n < (2 ^ (b / d + 1) + 1) ^ d := by
  have h1 : b ≤ (b / d + 1) * d := by
    have := Nat.div_add_mod b d
    have := Nat.mod_lt b (show 0 < d by omega)
    rw [Nat.add_mul, Nat.mul_comm]
    omega
  have h2 : 2 ^ b ≤ (2 ^ (b / d + 1)) ^ d := by
    rw [← Nat.pow_mul]
    exact Nat.pow_le_pow_right (by omega) h1
  exact Nat.lt_of_lt_of_le hb (Nat.le_trans h2 (Nat.pow_le_pow_left (Nat.le_succ _) d))
theorem guess_more {n d k r : Nat} (h : IsRoot (n / 2 ^ (k * d)) d r) : n < ((r + 1) * 2 ^ k + 1) ^ d := by
  have h1 := h.2
  rw [Nat.div_lt_iff_lt_mul (Nat.two_pow_pos _)] at h1
  refine Nat.lt_of_lt_of_le h1 ?_
  rw [Nat.pow_mul, ← Nat.mul_pow]
  exact Nat.pow_le_pow_left (Nat.le_succ _) d
section
variable {P : Program} {w : World} {K : PySem.W.Frag} {mg : Str → Option Value} {base : Heap}
/-- the whole root of a number of at most b bits, which n calls serve -/
def spRoot (n : Nat) : Sp := fun vs H Q _ => ∃ N d b : Nat, vs = [.int (N : Int), .int (d : Int)] ∧ 1 ≤ n ∧ 1 ≤ d ∧ d ≤ 20 ∧ N < 2 ^ b ∧ b ≤ 13000 ∧ b ≤ fuel d n ∧
  ∀ r : Nat, IsRoot N d r → Q (.int (r : Int)) H
def spGuess (n : Nat) : Sp := fun vs H Q _ => ∃ N d b : Nat, vs = [.int (N : Int), .int (d : Int)] ∧ 1 ≤ n ∧ 1 ≤ d ∧ d ≤ 20 ∧ 0 < N ∧ N < 2 ^ b ∧ b ≤ 13000 ∧ b ≤ fuel d n ∧
  ∀ g c : Nat, 0 < g → N < (g + 1) ^ d → g < 2 ^ c → c ≤ 30000 → Q (.int (g : Int)) H
noncomputable def dv_guess_above {P : Program} {w : World} {K : PySem.W.Frag} {mg : Str → Option Value} {base : Heap} (T : Txt K mg) {n : Nat} (GW : FnOk P w K mg base CX0 (2 * n) T.f_whole_root T.d_whole_root ["number", "degree"] (spRoot n)) {cdv : Value} {A : Around} {outer : List Env} {s : Shared} {H : Hp} {E : XK}
    (hr : Room (2 * n) (A.deeper (envOfC "guess_above" (defScope s_guess_above) s.heap.objs.size T.f_guess_above cdv))) :
    Σ' t : TS, PSs (cxOf CX0 P w K mg base ["number", "degree", "half"] "guess_above" (defScope s_guess_above) T.f_guess_above cdv A outer s H E).nox (defBody s_guess_above) t :=
  ⟨_, (pss_cons (ps_set (i := 2) sc_guess_above.nd rfl (.inl rfl) (pe_op op_nDiv (pe_bits (pv 0)) (pe_op op_nMul pe_int (pv 1))))
      (pss_cons (ps_if (pt_cmpR op_nEq (pv 2) pe_int (nomark _)) (pss_one (ps_ret (pe_op op_nShl pe_int (pe_op op_nAdd (pe_op op_nDiv (pe_bits (pv 0)) (pv 1)) pe_int)))) pss_nil)
      (pss_one (ps_ret (pe_op op_nShl (pe_op op_nAdd (pe_call GW (hr.mono (by omega)) (by rfl) T.g_whole_root T.F_whole_root.kp T.b_whole_root .nil pass0 (pa_cons (pe_op op_nShr (pv 0) (pe_op op_nMul (pv 2) (pv 1))) (pa_cons (pv 1) pa_nil))) pe_int) (pv 2))))))⟩
theorem ok_guess_above {n : Nat} (T : Txt K mg) (GW : FnOk P w K mg base CX0 (2 * n) T.f_whole_root T.d_whole_root ["number", "degree"] (spRoot n)) :
    FnOk P w K mg base CX0 (2 * n + 1) T.f_guess_above T.d_guess_above ["number", "degree"] (spGuess (n + 1)) := by
  refine T.F_guess_above.ok sc_guess_above (fun vs H Q E h => ?_) (fun cdv A outer s H vs Q E hr h => ⟨_, (dv_guess_above T GW hr).2, ?_⟩)
  · obtain ⟨N, d, b, rfl, _⟩ := h
    rfl
  · obtain ⟨N, d, b, rfl, hn, hd, hd2, h0, hN, hb, hf, q⟩ := h
    have hNB : N < 2 ^ bits N := lt_bits N
    have hBb : bits N ≤ b := bits_le hN
    have d5 : d < 2 ^ 5 := Nat.lt_of_le_of_lt hd2 (by decide)
    have b14 : bits N < 2 ^ 14 := Nat.lt_of_le_of_lt (Nat.le_trans hBb hb) (by decide)
    refine ⟨_, rfl, _, rfl, _, rfl, 2, d, rfl, rfl, ⟨2, 5, by decide, d5, by decide⟩, bits N, 2 * d, rfl, rfl, .few (by omega) b14 (by decide), _, rfl, _, 0, rfl, rfl, _, rfl, dec2 (fun c => ?_) (fun c => ?_)⟩
    · -- the bits are few
      have h1 : bits N / d ≤ bits N := Nat.div_le_self _ _
      refine ⟨_, rfl, _, rfl, _, rfl, bits N, d, rfl, rfl, .few (by omega) b14 (by decide), _, 1, rfl, rfl, 1, _, rfl, rfl, ⟨1, by decide, by omega⟩, ?_⟩
      rw [Nat.one_mul]
      exact q _ (bits N / d + 2) (Nat.two_pow_pos _) (guess_one hd hNB) (Nat.pow_lt_pow_right (by decide) (by omega)) (by omega)
    · -- the root of the front half
      obtain ⟨n1, f1⟩ := fuel_next hd (Nat.le_trans hBb hf) c
      generalize hk : bits N / (2 * d) = k at *
      have hkB : k * (2 * d) ≤ bits N := by
        rw [← hk]
        exact Nat.div_mul_le_self _ _
      have hkd : k * d ≤ bits N := by
        rw [Nat.mul_comm 2 d, ← Nat.mul_assoc] at hkB
        omega
      have hk1 : k ≤ bits N := Nat.le_trans (Nat.le_mul_of_pos_right _ (by omega)) hkd
      refine ⟨_, rfl, _, rfl, _, rfl, k, d, rfl, rfl, ⟨14, 5, Nat.lt_of_le_of_lt hk1 b14, d5, by decide⟩, N, k * d, rfl, rfl, _, rfl, N / 2 ^ (k * d), d, bits N - d * k, rfl, n1, hd, hd2, ?_, by omega, f1, fun r hr => ?_⟩
      · rw [Nat.div_lt_iff_lt_mul (Nat.two_pow_pos _), ← Nat.pow_add, Nat.mul_comm d k, Nat.sub_add_cancel hkd]
        exact hNB
      · have hrN : r ≤ N := by
          have h1 : r ^ d ≤ N / 2 ^ (k * d) := hr.1
          have h2 : r ≤ r ^ d := by
            cases r with
            | zero => exact Nat.zero_le _
            | succ r => exact Nat.le_pow (by omega)
          exact Nat.le_trans h2 (Nat.le_trans h1 (Nat.div_le_self _ _))
        have hr1 : r + 1 < 2 ^ (bits N + 1) := by
          rw [Nat.pow_succ]
          omega
        refine ⟨_, 1, rfl, rfl, _, rfl, _, k, rfl, rfl, ⟨bits N + 1, hr1, by omega⟩, ?_⟩
        refine q _ (bits N + 1 + k) (Nat.mul_pos (Nat.succ_pos _) (Nat.two_pow_pos _)) (guess_more hr) ?_ (by omega)
        rw [Nat.pow_add]
        exact Nat.mul_lt_mul_of_pos_right hr1 (Nat.two_pow_pos _)
end
end Sh

/-! Roots by Newton's steps. -/
namespace Sh
open PySem PySem.Spec PyProof.Rows L2
section
variable {P : Program} {w : World} {K : PySem.W.Frag} {mg : Str → Option Value} {base : Heap}
noncomputable def dv_whole_root {P : Program} {w : World} {K : PySem.W.Frag} {mg : Str → Option Value} {base : Heap} (T : Txt K mg) {n : Nat} (GG : FnOk P w K mg base CX0 (2 * n + 1) T.f_guess_above T.d_guess_above ["number", "degree"] (spGuess (n + 1))) {cdv : Value} {A : Around} {outer : List Env} {s : Shared} {H : Hp} {E : XK}
    (hr : Room (2 * n + 1) (A.deeper (envOfC "whole_root" (defScope s_whole_root) s.heap.objs.size T.f_whole_root cdv))) :
    Σ' t : TS, PSs (cxOf CX0 P w K mg base ["number", "degree", "root", "step"] "whole_root" (defScope s_whole_root) T.f_whole_root cdv A outer s H E).nox (defBody s_whole_root) t :=
  ⟨_, (pss_cons (ps_if (pt_cmpR op_nEq (pv 0) pe_int (nomark _)) (pss_one (ps_ret pe_int)) pss_nil)
      (pss_cons (ps_set (i := 2) sc_whole_root.nd rfl (.inl rfl) (pe_call GG (hr.mono (by omega)) (by rfl) T.g_guess_above T.F_guess_above.kp T.b_guess_above .nil pass0 (pa_cons (pv 0) (pa_cons (pv 1) pa_nil))))
      (pss_one (ps_while PassesOwn.never (pt_val pe_bl) (pss_cons (ps_set (i := 3) sc_whole_root.nd rfl (.inl rfl) (pe_op op_nDiv (pe_op op_nAdd (pe_op op_nMul (pe_op op_nSub (pv 1) pe_int) (pv 2)) (pe_op op_nDiv (pv 0) (pe_call (ok_power T) (hr.mono (by omega)) (by rfl) T.g_power T.F_power.kp T.b_power .nil pass0 (pa_cons (pv 2) (pa_cons (pe_op op_nSub (pv 1) pe_int) pa_nil))))) (pv 1)))
      (pss_cons (ps_if (pt_cmpR op_nGe (pv 3) (pv 2) (nomark _)) (pss_one (ps_ret (pv 2))) pss_nil)
      (pss_one (ps_set (i := 2) sc_whole_root.nd rfl (.inl rfl) (pv 3)))))))))⟩
theorem ok_whole_root {n : Nat} (T : Txt K mg) (GG : FnOk P w K mg base CX0 (2 * n + 1) T.f_guess_above T.d_guess_above ["number", "degree"] (spGuess (n + 1))) :
    FnOk P w K mg base CX0 (2 * n + 2) T.f_whole_root T.d_whole_root ["number", "degree"] (spRoot (n + 1)) := by
  refine T.F_whole_root.ok sc_whole_root (fun vs H Q E h => ?_) (fun cdv A outer s H vs Q E hr h => ⟨_, (dv_whole_root T GG hr).2, ?_⟩)
  · obtain ⟨N, d, b, rfl, _⟩ := h
    rfl
  · obtain ⟨N, d, b, rfl, hn, hd, hd2, hN, hb, hf, q⟩ := h
    refine ⟨_, rfl, N, 0, rfl, rfl, _, rfl, dec2 (fun c => ?_) (fun c => ?_)⟩
    · subst c
      exact q 0 ⟨by rw [Nat.zero_pow (by omega)]; exact Nat.le_refl _, by rw [Nat.one_pow]; exact Nat.one_pos⟩
    · refine ⟨_, rfl, _, rfl, N, d, b, rfl, hn, hd, hd2, by omega, hN, hb, hf, fun g c hg hgN hgc hc => ?_⟩
      -- while True
      obtain ⟨e, rfl⟩ : ∃ e, d = e + 1 := ⟨d - 1, by omega⟩
      refine ⟨fun m σ H' => H' = H ∧ ∃ x y, m = x ∧ σ = [some (.int (N : Int)), some (.int ((e + 1 : Nat) : Int)), some (.int (x : Int)), y] ∧ 0 < x ∧ x < 2 ^ c ∧ N < (x + 1) ^ (e + 1), ⟨g, rfl, g, none, rfl, rfl, hg, hgc, hgN⟩, ?_⟩
      rintro m σ H' ⟨rfl, x, y, rfl, rfl, hx, hxc, hxN⟩
      refine ⟨true, rfl, iteT ?_⟩
      refine ⟨fun σ' H'' => H'' = H' ∧ ∃ x' y', x' < m ∧ σ' = [some (.int (N : Int)), some (.int ((e + 1 : Nat) : Int)), some (.int (x' : Int)), y'] ∧ 0 < x' ∧ x' < 2 ^ c ∧ N < (x' + 1) ^ (e + 1), ?_, ?_⟩
      · rintro σ' H'' ⟨rfl, x', y', hlt, rfl, h1, h2, h3⟩
        exact ⟨x', hlt, rfl, x', y', rfl, rfl, h1, h2, h3⟩
      · have hNd : N / m ^ e ≤ N := Nat.div_le_self _ _
        have hes : e < 2 ^ 5 := Nat.lt_of_lt_of_le (by omega) (show 20 ≤ 2 ^ 5 by decide)
        have hem : e * m < 2 ^ (5 + c) := by
          rw [Nat.pow_add]
          exact Nat.lt_of_le_of_lt (Nat.mul_le_mul_left e (Nat.le_of_lt hxc)) (Nat.mul_lt_mul_of_pos_right hes (Nat.two_pow_pos c))
        refine ⟨_, rfl, e + 1, 1, rfl, rfl, (by omega), _, rfl, e, m, rfl, rfl, ⟨5, c, hes, hxc, by omega⟩, _, rfl, _, rfl, _, rfl, e + 1, 1, rfl, rfl, (by omega), m, e, c, rfl, hxc, (by omega), (by omega),
          N, m ^ e, rfl, rfl, .few (Nat.pow_pos hx) hN (by omega), e * m, N / m ^ e, rfl, rfl, _, rfl, e * m + N / m ^ e, e + 1, rfl, rfl, .small (by omega) (by omega), ?_⟩
        -- if step >= root
        refine ⟨_, rfl, _, rfl, (e * m + N / m ^ e) / (e + 1), m, rfl, rfl, _, rfl, dec2 (fun c1 => ?_) (fun c1 => ?_)⟩
        · exact ⟨_, rfl, q m (root_of hxN c1 hx)⟩
        · have hlt : (e * m + N / m ^ e) / (e + 1) < m := Nat.lt_of_not_le c1
          have hk : N < ((e * m + N / m ^ e) / (e + 1) + 1) ^ (e + 1) := step_keeps hx
          refine ⟨_, rfl, rfl, _, some (.int (((e * m + N / m ^ e) / (e + 1) : Nat) : Int)), hlt, rfl, ?_, Nat.lt_trans hlt hxc, hk⟩
          refine Nat.pos_of_ne_zero fun z => ?_
          rw [z, Nat.zero_add, Nat.one_pow] at hk
          omega
/-! ### both, for every number of calls -/
theorem none_left {f : Addr} {fd : FuncData} : FnOk P w K mg base CX0 0 f fd ["number", "degree"] (spRoot 0) := by
  have no : ∀ vs H Q E, ¬ spRoot 0 vs H Q E := fun vs H Q E h => by
    obtain ⟨N, d, b, _, h1, _⟩ := h
    omega
  exact ⟨fun vs H Q E h => absurd h (no vs H Q E), fun A outer s H args us vs Q E _ _ _ _ h => absurd h (no vs H Q E)⟩
theorem roots (T : Txt K mg) : ∀ n : Nat, FnOk P w K mg base CX0 (2 * n) T.f_whole_root T.d_whole_root ["number", "degree"] (spRoot n)
  | 0 => none_left
  | n + 1 => ok_whole_root T (ok_guess_above T (roots T n))
/-- the whole root of a number of at most 13000 bits -/
def spRoot15 : Sp := fun vs H Q _ => ∃ N d b : Nat, vs = [.int (N : Int), .int (d : Int)] ∧ 1 ≤ d ∧ d ≤ 20 ∧ N < 2 ^ b ∧ b ≤ 8000 ∧ ∀ r : Nat, IsRoot N d r → Q (.int (r : Int)) H
theorem ok_root (T : Txt K mg) : FnOk P w K mg base CX0 30 T.f_whole_root T.d_whole_root ["number", "degree"] spRoot15 :=
  (roots T 15).imp fun vs H Q E h => by
    obtain ⟨N, d, b, rfl, h1, h2, h3, h4, q⟩ := h
    refine ⟨N, d, b, rfl, by omega, h1, h2, h3, by omega, ?_, q⟩
    show b ≤ d * (2 ^ 13 + 2) - 1
    have := Nat.mul_le_mul_right (2 ^ 13 + 2) h1
    omega
end
end Sh

/-! The first number of a set. -/
namespace Sh
open PySem PySem.Spec PyProof.Rows L2
section
variable {P : Program} {w : World} {K : PySem.W.Frag} {mg : Str → Option Value} {base : Heap}
def spFirst : Sp := fun vs H Q _ => ∃ k n b : Nat, vs = [.int ((k + 1 : Nat) : Int), .int (n : Int)] ∧ k < 20 ∧ n < 2 ^ b ∧ b ≤ 7000 ∧ Q (.int ((top k n : Nat) : Int)) H
noncomputable def dv_greatest_first {P : Program} {w : World} {K : PySem.W.Frag} {mg : Str → Option Value} {base : Heap} (T : Txt K mg) (GW : FnOk P w K mg base CX0 30 T.f_whole_root T.d_whole_root ["number", "degree"] spRoot15) {cdv : Value} {A : Around} {outer : List Env} {s : Shared} {H : Hp} {E : XK}
    (hr : Room 30 (A.deeper (envOfC "greatest_first" (defScope s_greatest_first) s.heap.objs.size T.f_greatest_first cdv))) :
    Σ' t : TS, PSs (cxOf CX0 P w K mg base ["size", "number", "first"] "greatest_first" (defScope s_greatest_first) T.f_greatest_first cdv A outer s H E).nox (defBody s_greatest_first) t :=
  ⟨_, (pss_cons (ps_set (i := 2) sc_greatest_first.nd rfl (.inl rfl) (pe_op op_nAdd (pe_call GW (hr.mono (by omega)) (by rfl) T.g_whole_root T.F_whole_root.kp T.b_whole_root .nil pass0 (pa_cons (pe_op op_nMul (pv 1) (pe_callBfun cr_factorial (by rfl) T.m_factorial (pa_cons (pv 0) pa_nil))) (pa_cons (pv 0) pa_nil))) (pe_op op_nDiv (pe_op op_nSub (pv 0) pe_int) pe_int)))
      (pss_cons (ps_while PassesOwn.never (pt_cmpR op_nLe (pe_callBfun cr_comb (by rfl) T.m_comb (pa_cons (pe_op op_nAdd (pv 2) pe_int) (pa_cons (pv 0) pa_nil))) (pv 1) (nomark _)) (pss_one (ps_set (i := 2) sc_greatest_first.nd rfl (.inl rfl) (pe_op op_nAdd (pv 2) pe_int))))
      (pss_one (ps_ret (pv 2)))))⟩
theorem ok_greatest_first (T : Txt K mg) : FnOk P w K mg base CX0 31 T.f_greatest_first T.d_greatest_first ["size", "number"] spFirst := by
  refine T.F_greatest_first.ok sc_greatest_first (fun vs H Q E h => ?_) (fun cdv A outer s H vs Q E hr h => ⟨_, (dv_greatest_first T (ok_root T) hr).2, ?_⟩)
  · obtain ⟨k, n, b, rfl, _⟩ := h
    rfl
  · obtain ⟨k, n, b, rfl, hk, hn, hb, q⟩ := h
    have hf : fac (k + 1) < 2 ^ 62 := fac_lt (k + 1) (by omega)
    have hnf : n * fac (k + 1) < 2 ^ (b + 62) := by
      rw [Nat.pow_add]
      exact Nat.lt_of_le_of_lt (Nat.mul_le_mul_right _ (Nat.le_of_lt hn)) (Nat.mul_lt_mul_of_pos_left hf (Nat.two_pow_pos b))
    refine ⟨_, rfl, _, rfl, k + 1, rfl, (by omega), n, fac (k + 1), rfl, rfl, ⟨b, 62, hn, hf, by omega⟩, _, rfl, n * fac (k + 1), k + 1, b + 62, rfl, by omega, by omega, hnf, by omega, fun r hr => ?_⟩
    have hs : ch (r + k / 2) (k + 1) ≤ n := start_ok hr.1
    refine ⟨_, rfl, k + 1, 1, rfl, rfl, (by omega), k, 2, rfl, rfl, .small (by omega) (by omega), r, k / 2, rfl, rfl, ?_⟩
    refine ⟨fun m σ H' => H' = H ∧ ∃ a, m = n + k + 1 - a ∧ σ = [some (.int ((k + 1 : Nat) : Int)), some (.int (n : Int)), some (.int (a : Int))] ∧ ch a (k + 1) ≤ n, ⟨_, rfl, _, rfl, rfl, hs⟩, ?_⟩
    rintro m σ H' ⟨rfl, a, rfl, rfl, ha⟩
    have ha2 : a ≤ n + k := Nat.le_trans (below_top ha) (top_most k n)
    have hab : a + 1 < 2 ^ (b + 5) := by
      rw [Nat.pow_add]
      omega
    have hab2 : (b + 5) * (k + 1) ≤ (b + 5) * 20 := Nat.mul_le_mul_left _ (by omega)
    refine ⟨_, rfl, a, 1, rfl, rfl, _, rfl, a + 1, k + 1, b + 5, rfl, hab, by omega, by omega, _, rfl, ch (a + 1) (k + 1), n, rfl, rfl, _, rfl, dec2 (fun c => ?_) (fun c => ?_)⟩
    · refine ⟨fun σ' H'' => H'' = H' ∧ σ' = [some (.int ((k + 1 : Nat) : Int)), some (.int (n : Int)), some (.int ((a + 1 : Nat) : Int))], ?_, _, rfl, a, 1, rfl, rfl, rfl, rfl⟩
      rintro σ' H'' ⟨rfl, rfl⟩
      exact ⟨n + k + 1 - (a + 1), by omega, rfl, a + 1, rfl, rfl, c⟩
    · refine ⟨_, rfl, ?_⟩
      rw [top_one ha (Nat.lt_of_not_le c)]
      exact q
end
end Sh

/-! What is a number, a size, a set. -/
namespace Sh
open PySem PySem.Spec PyProof.Rows L2
/-- a whole number, 0 or more -/
def numV : V → Bool
  | .int i => decide (0 ≤ i)
  | _ => false
/-- each less than the one ahead -/
def fallI (ns : List Int) : Bool := (ns.zip (ns.drop 1)).all fun p => decide (p.2 < p.1)
def intOf : V → Int
  | .int i => i
  | _ => 0
def setV (xs : List V) : Bool := decide (xs.length ≤ 20) && (xs.all numV && fallI (xs.map intOf))
/-- the kind is known -/
def Kind (x : V) (H : Hp) : Prop := ∃ n, zTyV x H = some n
theorem kind_int (i : Int) (H : Hp) : Kind (.int i) H := ⟨_, rfl⟩
theorem zTy_int {x : V} {H : Hp} (h : zTyV x H = some "int") : ∃ i, x = .int i := by
  cases x with
  | int i => exact ⟨i, rfl⟩
  | ref p =>
    simp only [zTyV] at h
    split at h <;> simp at h
  | _ => simp [zTyV] at h
theorem zTy_list {x : V} {H : Hp} (h : zTyV x H = some "list") : ∃ a xs, x = .ref a ∧ H a = some (.lst xs) := by
  cases x with
  | ref p =>
    simp only [zTyV] at h
    split at h
    · rename_i xs e
      exact ⟨p, xs, rfl, e⟩
    · simp at h
    · simp at h
  | _ => simp [zTyV] at h
theorem numV_not {x : V} {H : Hp} {n : String} (h : zTyV x H = some n) (hn : ¬ n = "int") : numV x = false := by
  cases x with
  | int i => exact absurd (Option.some.inj h).symm hn
  | _ => rfl
theorem numV_all {xs : List V} (h : xs.all numV = true) : xs = (xs.map intOf).map V.int := by
  induction xs with
  | nil => rfl
  | cons x xs ih =>
    rw [List.all_cons, Bool.and_eq_true] at h
    rw [List.map_cons, List.map_cons, ← ih h.2]
    cases x with
    | int i => rfl
    | _ => exact absurd h.1 (by simp [numV])
section
variable {P : Program} {w : World} {K : PySem.W.Frag} {mg : Str → Option Value} {base : Heap}
def spIsNumber : Sp := fun vs H Q _ => ∃ x, vs = [x] ∧ Kind x H ∧ Q (.bl (numV x)) H
noncomputable def dv_is_number {P : Program} {w : World} {K : PySem.W.Frag} {mg : Str → Option Value} {base : Heap} (T : Txt K mg)  {cdv : Value} {A : Around} {outer : List Env} {s : Shared} {H : Hp} {E : XK}
    (hr : Room 0 (A.deeper (envOfC "is_number" (defScope s_is_number) s.heap.objs.size T.f_is_number cdv))) :
    Σ' t : TS, PSs (cxOf CX0 P w K mg base ["thing"] "is_number" (defScope s_is_number) T.f_is_number cdv A outer s H E).nox (defBody s_is_number) t :=
  ⟨_, (pss_one (ps_ret (pe_and (pe_cmpR op_isTy (pe_typeOf (by rfl) T.z_type (pv 0)) (pe_bltn (v := .ty "int") (by rfl) T.z_int (by decide +kernel) rfl) (nomark _)) (pe_one (pe_cmpR op_iGe (pv 0) pe_int (nomark _))))))⟩
theorem ok_is_number (T : Txt K mg) : FnOk P w K mg base CX0 1 T.f_is_number T.d_is_number ["thing"] spIsNumber := by
  refine T.F_is_number.ok sc_is_number (fun vs H Q E h => ?_) (fun cdv A outer s H vs Q E hr h => ⟨_, (dv_is_number T hr).2, ?_⟩)
  · obtain ⟨x, rfl, _⟩ := h
    rfl
  · obtain ⟨x, rfl, ⟨n, hn⟩, q⟩ := h
    refine ⟨x, rfl, n, hn, _, _, rfl, rfl, _, rfl, dec2 (fun c => ?_) (fun c => ?_)⟩
    · subst c
      obtain ⟨i, rfl⟩ := zTy_int hn
      exact ⟨_, rfl, i, 0, rfl, rfl, q⟩
    · rw [numV_not hn c] at q
      exact q
def sizeV (x : V) (lo hi : Int) : Bool := numV x && (decide (lo ≤ intOf x) && decide (intOf x ≤ hi))
def spIsSize : Sp := fun vs H Q _ => ∃ x lo hi, vs = [x, .int lo, .int hi] ∧ Kind x H ∧ Q (.bl (sizeV x lo hi)) H
noncomputable def dv_is_size {P : Program} {w : World} {K : PySem.W.Frag} {mg : Str → Option Value} {base : Heap} (T : Txt K mg)  {cdv : Value} {A : Around} {outer : List Env} {s : Shared} {H : Hp} {E : XK}
    (hr : Room 1 (A.deeper (envOfC "is_size" (defScope s_is_size) s.heap.objs.size T.f_is_size cdv))) :
    Σ' t : TS, PSs (cxOf CX0 P w K mg base ["thing", "least", "greatest"] "is_size" (defScope s_is_size) T.f_is_size cdv A outer s H E).nox (defBody s_is_size) t :=
  ⟨_, (pss_one (ps_ret (pe_and (pe_call (ok_is_number T) (hr.mono (by omega)) (by rfl) T.g_is_number T.F_is_number.kp T.b_is_number .nil pass0 (pa_cons (pv 0) pa_nil)) (pe_one (pe_chain op_iLe op_iLe (pv 1) (pv 0) (pv 2))))))⟩
theorem ok_is_size (T : Txt K mg) : FnOk P w K mg base CX0 2 T.f_is_size T.d_is_size ["thing", "least", "greatest"] spIsSize := by
  refine T.F_is_size.ok sc_is_size (fun vs H Q E h => ?_) (fun cdv A outer s H vs Q E hr h => ⟨_, (dv_is_size T hr).2, ?_⟩)
  · obtain ⟨x, lo, hi, rfl, _⟩ := h
    rfl
  · obtain ⟨x, lo, hi, rfl, hk, q⟩ := h
    refine ⟨x, rfl, x, rfl, hk, _, rfl, ?_⟩
    unfold sizeV at q
    cases x with
    | int i =>
      refine dec2 (fun c => ?_) (fun c => ?_)
      · refine ⟨_, rfl, _, rfl, lo, i, rfl, rfl, _, rfl, dec2 (fun c1 => ?_) (fun c1 => ?_)⟩
        · refine ⟨_, rfl, i, hi, rfl, rfl, ?_⟩
          rw [show numV (.int i) = true from decide_eq_true c, show decide (lo ≤ intOf (.int i)) = true from decide_eq_true c1, Bool.true_and, Bool.true_and] at q
          exact q
        · rw [show decide (lo ≤ intOf (.int i)) = false from decide_eq_false c1, Bool.false_and, Bool.and_false] at q
          exact q
      · rw [show numV (.int i) = false from decide_eq_false c, Bool.false_and] at q
        exact q
    | _ => exact iteF q
def spIsFalling (K : PySem.W.Frag) : Sp := fun vs H Q _ => ∃ (a : Addr) (ns : List Int), vs = [.ref a] ∧ SqL K H a (ns.map V.int) ∧ ns.length ≤ 1000 ∧ ∀ H', Same H H' → Q (.bl (fallI ns)) H'
noncomputable def dv_is_falling {P : Program} {w : World} {K : PySem.W.Frag} {mg : Str → Option Value} {base : Heap} (T : Txt K mg)  {cdv : Value} {A : Around} {outer : List Env} {s : Shared} {H : Hp} {E : XK}
    (hr : Room 0 (A.deeper (envOfC "is_falling" (defScope s_is_falling) s.heap.objs.size T.f_is_falling cdv))) :
    Σ' t : TS, PSs (cxOf CX0 P w K mg base ["numbers", "ahead", "behind"] "is_falling" (defScope s_is_falling) T.f_is_falling cdv A outer s H E).nox (defBody s_is_falling) t :=
  ⟨_, (pss_one (ps_ret (pe_callB (cr_allK (K := K) rfl) (by rfl) T.z_all (by decide +kernel) (pa_cons (pe_lc (g := gTup K 2 (gCons (gName 1) (gCons (gName 2) (gNil)))) (own := [("ahead", 1), ("behind", 2)]) rfl sc_is_falling.nd (pi_zip (by rfl) T.z_zip (pa_cons (pv 0) (pa_cons (pe_slice (sl_listK (K := K)) (pv 0) (po_some pe_int) po_none) pa_nil))) (blkOk_by (own := [("ahead", 1), ("behind", 2)]) (N := ["numbers", "ahead", "behind"]) (sc := defScope s_is_falling) (by decide +kernel)) (fun _ _ _ _ _ => by exact (pg_tupK (K := K) rfl (pgs_cons (pg_name (i := 1) sc_is_falling.nd rfl (.inl rfl)) (pgs_cons (pg_name (i := 2) sc_is_falling.nd rfl (.inl rfl)) pgs_nil)))) (fun _ _ _ _ _ => by exact pts_nil) (fun _ _ _ _ _ => by exact (pe_cmpR op_iGt (pv 1) (pv 2) (nomark _)))) pa_nil))))⟩
theorem cut_one (xs : List V) : cutV xs (some 1) none = xs.drop 1 := by
  unfold cutV
  rw [show HT.sIx xs.length 0 (some 1) = min 1 xs.length from HT.sIx_nat xs.length 0 1, HT.sIx_none]
  cases xs with
  | nil => rfl
  | cons x r =>
    rw [List.length_cons, Nat.min_eq_left (by omega)]
    exact List.take_of_length_le (by simp)
theorem ok_is_falling (T : Txt K mg) : FnOk P w K mg base CX0 1 T.f_is_falling T.d_is_falling ["numbers"] (spIsFalling K) := by
  refine T.F_is_falling.ok sc_is_falling (fun vs H Q E h => ?_) (fun cdv A outer s H vs Q E hr h => ⟨_, (dv_is_falling T hr).2, ?_⟩)
  · obtain ⟨a, ns, rfl, _⟩ := h
    rfl
  · obtain ⟨a, ns, rfl, hS, hz, q⟩ := h
    refine ⟨_, rfl, _, rfl, 1, rfl, a, _, rfl, hS, fun c nc => ?_⟩
    rw [cut_one, ← List.map_drop]
    have s1 : Same H (upd H c (.lst ((ns.drop 1).map V.int))) := same_new nc
    refine ⟨a, c, _, _, rfl, s1.seq hS, .of upd_same, fun D nD => ?_⟩
    have s2 : Same H (upd (upd H c (.lst ((ns.drop 1).map V.int))) D (.lst [])) := s1.trans (same_new nD)
    have nDH : H D = none := s1.free nD
    have ncD : c ≠ D := fun e => by rw [← e, upd_same] at nD; cases nD
    refine lc2_zip (ns.length - 1) (by rw [List.length_map, List.length_map, List.length_drop]; omega)
      (fun i acc H' => Same H H' ∧ H' c = some (.lst ((ns.drop 1).map V.int)) ∧ acc = ((ns.zip (ns.drop 1)).take i).map fun p => V.bl (decide (p.2 < p.1)))
      ⟨s2, by rw [upd_ne ncD, upd_same], rfl⟩ (fun i acc H' p => ⟨p.1.seq hS, .of p.2.1⟩) (fun i acc H' X o nX p => ⟨same_fresh H _ _ _ nX p.1, by rw [upd_ne (ne_of_none p.2.1 nX)]; exact p.2.1, p.2.2⟩)
      (fun _ _ => rfl) ?_ ?_
    · rintro i x y acc H' hx hy hl hD ⟨sm, hc, ha⟩
      rw [List.getElem?_map] at hx hy
      obtain ⟨z, hz1, rfl⟩ := Option.map_eq_some_iff.mp hx
      obtain ⟨z2, hz2, rfl⟩ := Option.map_eq_some_iff.mp hy
      refine ⟨_, rfl, _, rfl, z, z2, rfl, rfl, LcN.put hD hl ?_ ⟨same_free sm nDH, by rw [upd_ne ncD]; exact hc, ?_⟩⟩
      · have hi := (List.getElem?_eq_some_iff.mp hz1).1
        exact small1000 (by omega)
      · have hzz : (ns.zip (ns.drop 1))[i]? = some (z, z2) := List.getElem?_zip_eq_some.mpr ⟨hz1, hz2⟩
        rw [List.take_add_one, hzz, List.map_append, ha]
        rfl
    · rintro acc H' hl hD ⟨sm, hc, ha⟩
      have e : (ns.zip (ns.drop 1)).take (ns.length - 1) = ns.zip (ns.drop 1) := List.take_of_length_le (by rw [List.length_zip, List.length_drop]; omega)
      rw [e] at ha
      refine ⟨D, (ns.zip (ns.drop 1)).map fun p => decide (p.2 < p.1), rfl, .of ?_, ?_⟩
      · rw [hD, ha, List.map_map]
        rfl
      · rw [List.all_map]
        exact q H' sm
end
end Sh

/-! What is a list of numbers, a set, a row. -/
namespace Sh
open PySem PySem.Spec PyProof.Rows L2
theorem kind_same {H H' : Hp} {x : V} (sm : Same H H') (h : Kind x H) : Kind x H' := by
  obtain ⟨n, h⟩ := h
  cases x with
  | ref p =>
    simp only [zTyV] at h
    split at h
    · rename_i xs e
      exact ⟨"list", by simp only [zTyV]; rw [sm _ _ e]⟩
    · rename_i xs e
      exact ⟨"tuple", by simp only [zTyV]; rw [sm _ _ e]⟩
    · cases h
  | _ => exact ⟨n, h⟩
theorem all_take {xs : List V} {i : Nat} {x : V} (h : xs[i]? = some x) : (xs.take (i + 1)).map numV = (xs.take i).map numV ++ [numV x] := by
  rw [List.take_add_one, h, List.map_append]
  rfl
/-- a list of at most 20 numbers -/
def listV (xs : List V) : Bool := decide (xs.length ≤ 20) && xs.all numV
theorem setV_list (xs : List V) : setV xs = (listV xs && fallI (xs.map intOf)) := by
  unfold setV listV
  rw [Bool.and_assoc]
section
variable {P : Program} {w : World} {K : PySem.W.Frag} {mg : Str → Option Value} {base : Heap}
/-- of any thing whose kind is known -/
def spIsF (f : List V → Bool) : Sp := fun vs H Q _ => ∃ x, vs = [x] ∧
  ((∃ n, zTyV x H = some n ∧ n ≠ "list" ∧ Q (.bl false) H) ∨
    ∃ a xs, x = .ref a ∧ H a = some (.lst xs) ∧ (xs.length ≤ 20 → ∀ v ∈ xs, Kind v H) ∧ ∀ H', Same H H' → Q (.bl (f xs)) H')
abbrev spIsList : Sp := spIsF listV
abbrev spIsSet : Sp := spIsF setV
noncomputable def dv_is_list_of_numbers {P : Program} {w : World} {K : PySem.W.Frag} {mg : Str → Option Value} {base : Heap} (T : Txt K mg)  {cdv : Value} {A : Around} {outer : List Env} {s : Shared} {H : Hp} {E : XK}
    (hr : Room 1 (A.deeper (envOfC "is_list_of_numbers" (defScope s_is_list_of_numbers) s.heap.objs.size T.f_is_list_of_numbers cdv))) :
    Σ' t : TS, PSs (cxOf CX0 P w K mg base ["thing", "each"] "is_list_of_numbers" (defScope s_is_list_of_numbers) T.f_is_list_of_numbers cdv A outer s H E).nox (defBody s_is_list_of_numbers) t :=
  ⟨_, (pss_cons (ps_if (PW.pt (pw_or (pt_cmpR op_isNotTy (pe_typeOf (by rfl) T.z_type (pv 0)) (pe_bltn (v := .ty "list") (by rfl) T.z_list (by decide +kernel) rfl) (nomark _)) (pw_or1 (pt_cmpR op_nGt (pe_callB (call_lenK (K := K)) (by rfl) T.z_len PySem.boot_len (pa_cons (pv 0) pa_nil)) (pe_glob (v := .int 20) rfl T.c_GREATEST_SIZE.2 ⟨_, rfl⟩) (nomark _))))) (pss_one (ps_ret pe_bl)) pss_nil)
      (pss_one (ps_ret (pe_callB (cr_allK (K := K) rfl) (by rfl) T.z_all (by decide +kernel) (pa_cons (pe_lc (g := gName 1) (own := [("each", 1)]) rfl sc_is_list_of_numbers.nd (pi_list (pv 0)) (blkOk_by (own := [("each", 1)]) (N := ["thing", "each"]) (sc := defScope s_is_list_of_numbers) (by decide +kernel)) (fun _ _ _ _ _ => by exact (pg_name (i := 1) sc_is_list_of_numbers.nd rfl (.inl rfl))) (fun _ _ _ _ _ => by exact pts_nil) (fun _ _ _ _ _ => by exact (pe_call (ok_is_number T) (hr.mono (by omega)) (by rfl) T.g_is_number T.F_is_number.kp T.b_is_number .nil pass0 (pa_cons (pv 1) pa_nil)))) pa_nil)))))⟩
theorem ok_is_list_of_numbers (T : Txt K mg) : FnOk P w K mg base CX0 2 T.f_is_list_of_numbers T.d_is_list_of_numbers ["thing"] spIsList := by
  refine T.F_is_list_of_numbers.ok sc_is_list_of_numbers (fun vs H Q E h => ?_) (fun cdv A outer s H vs Q E hr h => ⟨_, (dv_is_list_of_numbers T hr).2, ?_⟩)
  · obtain ⟨x, rfl, _⟩ := h
    rfl
  · obtain ⟨x, rfl, h⟩ := h
    rcases h with ⟨n, hn, hl, q⟩ | ⟨a, xs, rfl, ha, hk, q⟩
    · exact ⟨x, rfl, n, hn, _, _, rfl, rfl, _, rfl, decNF hl (iteT q)⟩
    · have hS : SqL K H a xs := .of ha
      refine ⟨_, rfl, "list", by simp only [zTyV]; rw [ha], _, _, rfl, rfl, _, rfl, decNT rfl ?_⟩
      refine ⟨_, rfl, a, xs, rfl, .inl hS, xs.length, 20, rfl, rfl, _, rfl, dec2 (fun c => ?_) (fun c => ?_)⟩
      · have e : listV xs = false := by
          unfold listV
          rw [decide_eq_false (by omega), Bool.false_and]
        rw [e] at q
        exact q H (Same.refl H)
      · have c20 : xs.length ≤ 20 := Nat.le_of_not_lt c
        have hkk := hk c20
        have e0 : decide (xs.length ≤ 20) = true := decide_eq_true c20
        unfold listV at q
        rw [e0, Bool.true_and] at q
        refine ⟨_, rfl, a, rfl, ⟨xs, hS⟩, fun D nD => ?_⟩
        refine lc1_list (xs := xs) (fun i acc H' => Same H H' ∧ acc = ((xs.take i).map numV).map V.bl) ⟨same_new nD, rfl⟩
          (fun i acc H' p => p.1.seq hS) (fun _ => rfl) ?_ ?_
        · rintro i x acc H' hx hl hD ⟨sm, he⟩
          refine ⟨_, rfl, x, rfl, kind_same sm (hkk x (List.mem_of_getElem? hx)), LcN.put hD hl ?_ ⟨same_free sm nD, ?_⟩⟩
          · have := (List.getElem?_eq_some_iff.mp hx).1
            exact small1000 (by omega)
          · rw [all_take hx, List.map_append, ← he]
            rfl
        · rintro acc H' hl hD ⟨sm, he⟩
          rw [List.take_length] at he
          refine ⟨D, xs.map numV, rfl, .of (by rw [hD, he]), ?_⟩
          have e1 : (xs.map numV).all id = xs.all numV := by
            rw [List.all_map]
            rfl
          rw [e1]
          exact q H' sm
noncomputable def dv_is_row {P : Program} {w : World} {K : PySem.W.Frag} {mg : Str → Option Value} {base : Heap} (T : Txt K mg)  {cdv : Value} {A : Around} {outer : List Env} {s : Shared} {H : Hp} {E : XK}
    (hr : Room 2 (A.deeper (envOfC "is_row" (defScope s_is_row) s.heap.objs.size T.f_is_row cdv))) :
    Σ' t : TS, PSs (cxOf CX0 P w K mg base ["thing"] "is_row" (defScope s_is_row) T.f_is_row cdv A outer s H E).nox (defBody s_is_row) t :=
  ⟨_, (pss_one (ps_ret (pe_call (ok_is_list_of_numbers T) (hr.mono (by omega)) (by rfl) T.g_is_list_of_numbers T.F_is_list_of_numbers.kp T.b_is_list_of_numbers .nil pass0 (pa_cons (pv 0) pa_nil))))⟩
theorem ok_is_row (T : Txt K mg) : FnOk P w K mg base CX0 3 T.f_is_row T.d_is_row ["thing"] spIsList := by
  refine T.F_is_row.ok sc_is_row (fun vs H Q E h => ?_) (fun cdv A outer s H vs Q E hr h => ⟨_, (dv_is_row T hr).2, ?_⟩)
  · obtain ⟨x, rfl, _⟩ := h
    rfl
  · obtain ⟨x, rfl, h⟩ := h
    exact ⟨_, rfl, x, rfl, h⟩
noncomputable def dv_is_set {P : Program} {w : World} {K : PySem.W.Frag} {mg : Str → Option Value} {base : Heap} (T : Txt K mg)  {cdv : Value} {A : Around} {outer : List Env} {s : Shared} {H : Hp} {E : XK}
    (hr : Room 2 (A.deeper (envOfC "is_set" (defScope s_is_set) s.heap.objs.size T.f_is_set cdv))) :
    Σ' t : TS, PSs (cxOf CX0 P w K mg base ["thing"] "is_set" (defScope s_is_set) T.f_is_set cdv A outer s H E).nox (defBody s_is_set) t :=
  ⟨_, (pss_one (ps_ret (pe_and (pe_call (ok_is_list_of_numbers T) (hr.mono (by omega)) (by rfl) T.g_is_list_of_numbers T.F_is_list_of_numbers.kp T.b_is_list_of_numbers .nil pass0 (pa_cons (pv 0) pa_nil)) (pe_one (pe_call (ok_is_falling T) (hr.mono (by omega)) (by rfl) T.g_is_falling T.F_is_falling.kp T.b_is_falling .nil pass0 (pa_cons (pv 0) pa_nil))))))⟩
theorem ok_is_set (T : Txt K mg) : FnOk P w K mg base CX0 3 T.f_is_set T.d_is_set ["thing"] spIsSet := by
  refine T.F_is_set.ok sc_is_set (fun vs H Q E h => ?_) (fun cdv A outer s H vs Q E hr h => ⟨_, (dv_is_set T hr).2, ?_⟩)
  · obtain ⟨x, rfl, _⟩ := h
    rfl
  · obtain ⟨x, rfl, h⟩ := h
    rcases h with ⟨n, hn, hl, q⟩ | ⟨a, xs, rfl, ha, hk, q⟩
    · exact ⟨x, rfl, x, rfl, .inl ⟨n, hn, hl, false, rfl, iteF q⟩⟩
    · refine ⟨_, rfl, _, rfl, .inr ⟨a, xs, rfl, ha, hk, fun H1 sm => ⟨_, rfl, ?_⟩⟩⟩
      rw [setV_list] at q
      cases hb : listV xs with
      | false =>
        rw [hb] at q
        exact iteF (q H1 sm)
      | true =>
        rw [hb, Bool.true_and] at q
        obtain ⟨h20, ha2⟩ : xs.length ≤ 20 ∧ xs.all numV = true := by
          unfold listV at hb
          rw [Bool.and_eq_true, decide_eq_true_eq] at hb
          exact hb
        have hx := numV_all ha2
        refine iteT ⟨_, rfl, a, xs.map intOf, rfl, ?_, ?_, fun H'' sm2 => ?_⟩
        · rw [← hx]
          exact sm.seq (.of ha)
        · rw [List.length_map]
          omega
        · exact q H'' (sm.trans sm2)
end
end Sh

/-! A set's number; a number's set; the sets beneath. -/
namespace Sh
open PySem PySem.Spec PyProof.Rows L2
/-- a list of numbers as it stands -/
def natsV (l : List Nat) : List V := l.map fun n : Nat => V.int (n : Int)
theorem natsV_length (l : List Nat) : (natsV l).length = l.length := List.length_map _
theorem natsV_get {l : List Nat} {i n : Nat} (h : l[i]? = some n) : (natsV l)[i]? = some (.int (n : Int)) := by
  unfold natsV
  rw [List.getElem?_map, h]
  rfl
theorem get_natsV {l : List Nat} {i : Nat} {x : V} (h : (natsV l)[i]? = some x) : ∃ n, l[i]? = some n ∧ x = .int (n : Int) := by
  unfold natsV at h
  rw [List.getElem?_map] at h
  obtain ⟨n, h1, h2⟩ := Option.map_eq_some_iff.mp h
  exact ⟨n, h1, h2.symm⟩
theorem natsV_ints (l : List Nat) : natsV l = (l.map fun n : Nat => (n : Int)).map V.int := by
  unfold natsV
  rw [List.map_map]
  rfl
theorem natsV_app (l : List Nat) (n : Nat) : natsV l ++ [V.int (n : Int)] = natsV (l ++ [n]) := by
  unfold natsV
  rw [List.map_append]
  rfl
theorem natsV_kind {l : List Nat} {H : Hp} : ∀ v ∈ natsV l, Kind v H := fun v hv => by
  unfold natsV at hv
  obtain ⟨n, _, rfl⟩ := List.mem_map.mp hv
  exact kind_int _ _
theorem fall_down : ∀ {l : List Nat}, Down l → fallI (l.map fun n : Nat => (n : Int)) = true
  | [], _ => rfl
  | [_], _ => rfl
  | a :: b :: l, h => by
    have h1 := List.pairwise_cons.mp h
    have ih := fall_down h1.2
    have hab : b < a := h1.1 b List.mem_cons_self
    show (decide ((b : Int) < (a : Int)) && fallI ((b :: l).map fun n : Nat => (n : Int))) = true
    rw [ih, decide_eq_true (by omega)]
    rfl
theorem setV_of {l : List Nat} (h : Down l) (h20 : l.length ≤ 20) : setV (natsV l) = true := by
  unfold setV
  have e1 : (natsV l).all numV = true := by
    rw [List.all_eq_true]
    intro v hv
    unfold natsV at hv
    obtain ⟨n, _, rfl⟩ := List.mem_map.mp hv
    exact decide_eq_true (show (0 : Int) ≤ (n : Int) by omega)
  have e2 : (natsV l).map intOf = l.map fun n : Nat => (n : Int) := by
    unfold natsV
    rw [List.map_map]
    rfl
  rw [e1, e2, fall_down h, natsV_length, decide_eq_true h20]
  rfl
/-- a set of numbers that are not too great -/
structure Good (l : List Nat) (b : Nat) : Prop where
  down : Down l
  few : l.length ≤ 20
  small : ∀ x ∈ l, x < 2 ^ b
  bits : b ≤ 5000
theorem drop_num {l : List Nat} {i x : Nat} (h : l[i]? = some x) : num (l.drop i) = ch x (l.length - i) + num (l.drop (i + 1)) := by
  obtain ⟨hi, rfl⟩ := List.getElem?_eq_some_iff.mp h
  rw [List.drop_eq_getElem_cons hi]
  show ch _ ((l.drop (i + 1)).length + 1) + _ = _
  have e : (l.drop (i + 1)).length + 1 = l.length - i := by
    rw [List.length_drop]
    omega
  rw [e]
section
variable {P : Program} {w : World} {K : PySem.W.Frag} {mg : Str → Option Value} {base : Heap}
def spCheckSet : Sp := fun vs H Q _ => ∃ (a : Addr) (l : List Nat), vs = [.ref a] ∧ H a = some (.lst (natsV l)) ∧ Down l ∧ l.length ≤ 20 ∧ ∀ H', Same H H' → Q .non H'
noncomputable def dv_check_set {P : Program} {w : World} {K : PySem.W.Frag} {mg : Str → Option Value} {base : Heap} (T : Txt K mg)  {cdv : Value} {A : Around} {outer : List Env} {s : Shared} {H : Hp} {E : XK}
    (hr : Room 3 (A.deeper (envOfC "check_set" (defScope s_check_set) s.heap.objs.size T.f_check_set cdv))) :
    Σ' t : TS, PSs (cxOf CX0 P w K mg base ["some"] "check_set" (defScope s_check_set) T.f_check_set cdv A outer s H E).nox (defBody s_check_set) t :=
  ⟨_, (pss_one (ps_if (pt_not (pt_val (pe_call (ok_is_set T) (hr.mono (by omega)) (by rfl) T.g_is_set T.F_is_set.kp T.b_is_set .nil pass0 (pa_cons (pv 0) pa_nil)))) (pss_one ps_never) pss_nil))⟩
theorem ok_check_set (T : Txt K mg) : FnOk P w K mg base CX0 4 T.f_check_set T.d_check_set ["some"] spCheckSet := by
  refine T.F_check_set.ok sc_check_set (fun vs H Q E h => ?_) (fun cdv A outer s H vs Q E hr h => ⟨_, (dv_check_set T hr).2, ?_⟩)
  · obtain ⟨a, l, rfl, _⟩ := h
    rfl
  · obtain ⟨a, l, rfl, ha, hd, h20, q⟩ := h
    refine ⟨_, rfl, _, rfl, .inr ⟨a, _, rfl, ha, fun _ => natsV_kind, fun H' sm => ?_⟩⟩
    rw [setV_of hd h20]
    exact ⟨true, rfl, iteF (q H' sm)⟩
def spNumberOf : Sp := fun vs H Q _ => ∃ (a : Addr) (l : List Nat) (b : Nat), vs = [.ref a] ∧ H a = some (.lst (natsV l)) ∧ Good l b ∧ ∀ H', Same H H' → Q (.int ((num l : Nat) : Int)) H'
noncomputable def dv_number_of {P : Program} {w : World} {K : PySem.W.Frag} {mg : Str → Option Value} {base : Heap} (T : Txt K mg)  {cdv : Value} {A : Around} {outer : List Env} {s : Shared} {H : Hp} {E : XK}
    (hr : Room 4 (A.deeper (envOfC "number_of" (defScope s_number_of) s.heap.objs.size T.f_number_of cdv))) :
    Σ' t : TS, PSs (cxOf CX0 P w K mg base ["some", "number", "place", "each"] "number_of" (defScope s_number_of) T.f_number_of cdv A outer s H E).nox (defBody s_number_of) t :=
  ⟨_, (pss_cons (ps_expr (pe_call (ok_check_set T) (hr.mono (by omega)) (by rfl) T.g_check_set T.F_check_set.kp T.b_check_set .nil pass0 (pa_cons (pv 0) pa_nil)))
      (pss_cons (ps_set (i := 1) sc_number_of.nd rfl (.inl rfl) pe_int)
      (pss_cons (ps_for PassesOwn.never rfl (pi_enum (by rfl) T.z_enumerate (pa_cons (pv 0) pa_nil)) (pg_tupK (K := K) rfl (pgs_cons (pg_name (i := 2) sc_number_of.nd rfl (.inl rfl)) (pgs_cons (pg_name (i := 3) sc_number_of.nd rfl (.inl rfl)) pgs_nil))) (pss_one (ps_set (i := 1) sc_number_of.nd rfl (.inl rfl) (pe_op op_nAdd (pv 1) (pe_callBfun cr_comb (by rfl) T.m_comb (pa_cons (pv 3) (pa_cons (pe_op op_nSub (pe_callB (call_lenK (K := K)) (by rfl) T.z_len PySem.boot_len (pa_cons (pv 0) pa_nil)) (pv 2)) pa_nil)))))))
      (pss_one (ps_ret (pv 1))))))⟩
theorem ok_number_of (T : Txt K mg) : FnOk P w K mg base CX0 5 T.f_number_of T.d_number_of ["some"] spNumberOf := by
  refine T.F_number_of.ok sc_number_of (fun vs H Q E h => ?_) (fun cdv A outer s H vs Q E hr h => ⟨_, (dv_number_of T hr).2, ?_⟩)
  · obtain ⟨a, l, b, rfl, _⟩ := h
    rfl
  · obtain ⟨a, l, b, rfl, ha, g, q⟩ := h
    refine ⟨_, rfl, a, l, rfl, ha, g.down, g.few, fun H1 sm1 => ?_⟩
    have hS : SqL K H1 a (natsV l) := .of (sm1 _ _ ha)
    refine ⟨_, rfl, a, _, rfl, hS, ?_⟩
    refine for2_enum (xs := natsV l) (fun i σ H' => Same H H' ∧ ∃ p y z, σ = [some (.ref a), some (.int ((p : Nat) : Int)), y, z] ∧ p + num (l.drop i) = num l) ⟨sm1, 0, none, none, rfl, by rw [Nat.zero_add]; rfl⟩
      (fun i σ H' p => .of (p.1 _ _ ha)) (fun i σ H' T o nT p => ⟨same_fresh H _ _ _ nT p.1, p.2⟩) ?_ ?_
    · rintro i x σ H' hx ⟨sm, p, y, z, rfl, hp⟩
      obtain ⟨n, hn, rfl⟩ := get_natsV hx
      have hi := (List.getElem?_eq_some_iff.mp hn).1
      have hnb := g.small n (List.mem_of_getElem? hn)
      have g20 := g.few
      have gb := g.bits
      have hb2 : b * (l.length - i) ≤ b * 20 := Nat.mul_le_mul_left _ (by omega)
      refine ⟨_, rfl, _, rfl, _, rfl, a, natsV l, rfl, .inl (.of (sm _ _ ha)), ?_⟩
      rw [natsV_length]
      refine ⟨_, rfl, l.length, i, rfl, rfl, by omega, n, l.length - i, b, rfl, hnb, by omega, by omega, p, ch n (l.length - i), rfl, rfl, sm, _, _, _, rfl, ?_⟩
      rw [drop_num hn] at hp
      omega
    · rintro σ H' ⟨sm, p, y, z, rfl, hp⟩
      rw [natsV_length, List.drop_length] at hp
      have hp : p = num l := hp
      subst hp
      exact ⟨_, rfl, q H' sm⟩
end
end Sh

/-! A number's set; the sets beneath. -/
namespace Sh
open PySem PySem.Spec PyProof.Rows L2
section
variable {P : Program} {w : World} {K : PySem.W.Frag} {mg : Str → Option Value} {base : Heap}
def spSetN : Sp := fun vs H Q _ => ∃ k n b : Nat, vs = [.int (k : Int), .int (n : Int)] ∧ k ≤ 20 ∧ n < 2 ^ b ∧ b ≤ 7000 ∧
  ∀ H' p, Same H H' → H p = none → H' p = some (.lst (natsV (cas k n))) → Q (.ref p) H'
noncomputable def dv_numbers_of_set {P : Program} {w : World} {K : PySem.W.Frag} {mg : Str → Option Value} {base : Heap} (T : Txt K mg)  {cdv : Value} {A : Around} {outer : List Env} {s : Shared} {H : Hp} {E : XK}
    (hr : Room 31 (A.deeper (envOfC "numbers_of_set" (defScope s_numbers_of_set) s.heap.objs.size T.f_numbers_of_set cdv))) :
    Σ' t : TS, PSs (cxOf CX0 P w K mg base ["size", "number", "numbers", "left", "first"] "numbers_of_set" (defScope s_numbers_of_set) T.f_numbers_of_set cdv A outer s H E).nox (defBody s_numbers_of_set) t :=
  ⟨_, (pss_cons (ps_set (i := 2) sc_numbers_of_set.nd rfl (.inl rfl) (pe_lst pa_nil))
      (pss_cons (ps_for PassesOwn.never rfl (pi_range3 (by rfl) T.z_range (pa_cons (pv 0) (pa_cons pe_int (pa_cons (pe_un un_neg pe_int) pa_nil)))) (pg_name (i := 3) sc_numbers_of_set.nd rfl (.inl rfl)) (pss_cons (ps_set (i := 4) sc_numbers_of_set.nd rfl (.inl rfl) (pe_call (ok_greatest_first T) (hr.mono (by omega)) (by rfl) T.g_greatest_first T.F_greatest_first.kp T.b_greatest_first .nil pass0 (pa_cons (pv 3) (pa_cons (pv 1) pa_nil))))
      (pss_cons (ps_expr (pe_bm PySem.F.plainAttrs_list PySem.F.slot_list_append PySem.F.type_list_append mt_append (pv 2) (pa_cons (pv 4) pa_nil)))
      (pss_one (ps_set (i := 1) sc_numbers_of_set.nd rfl (.inl rfl) (pe_op op_nSub (pv 1) (pe_callBfun cr_comb (by rfl) T.m_comb (pa_cons (pv 4) (pa_cons (pv 3) pa_nil)))))))))
      (pss_one (ps_ret (pv 2)))))⟩
theorem ok_numbers_of_set (T : Txt K mg) : FnOk P w K mg base CX0 32 T.f_numbers_of_set T.d_numbers_of_set ["size", "number"] spSetN := by
  refine T.F_numbers_of_set.ok sc_numbers_of_set (fun vs H Q E h => ?_) (fun cdv A outer s H vs Q E hr h => ⟨_, (dv_numbers_of_set T hr).2, ?_⟩)
  · obtain ⟨k, n, b, rfl, _⟩ := h
    rfl
  · obtain ⟨k, n, b, rfl, hk, hn, hb, q⟩ := h
    refine ⟨Nat.zero_le _, fun p hp => ?_⟩
    refine ⟨_, rfl, 1, rfl, (k : Int), 0, -1, _, rfl, RgC.neg (by omega) (by omega) (by omega) (by omega), ?_⟩
    refine for_down (n := k) (by omega) (fun i σ H' => Same H H' ∧ ∃ m l y z, σ = [some (.int (k : Int)), some (.int ((m : Nat) : Int)), some (.ref p), y, z] ∧ m ≤ n ∧ l ++ cas (k - i) m = cas k n ∧ l.length = i ∧ H' p = some (.lst (natsV l)))
      ⟨same_new hp, n, [], none, none, rfl, Nat.le_refl _, rfl, rfl, upd_same⟩ ?_ ?_
    · rintro i σ H' hi ⟨sm, m, l, y, z, rfl, hm, hl, hli, hpp⟩
      obtain ⟨j, hj⟩ : ∃ j, k - i = j + 1 := ⟨k - i - 1, by omega⟩
      rw [hj] at hl ⊢
      have hc := top_le j m
      have hc2 := top_most j m
      have htb : top j m < 2 ^ (b + 5) := by
        rw [Nat.pow_add]
        omega
      have hbk : (b + 5) * (j + 1) ≤ (b + 5) * 20 := Nat.mul_le_mul_left _ (by omega)
      refine ⟨_, rfl, _, rfl, j, m, b, rfl, by omega, by omega, hb, ?_⟩
      refine ⟨_, rfl, .inl ⟨rfl, _, .of hpp⟩, _, rfl, p, _, _, rfl, rfl, hpp, ?_, ?_⟩
      · rw [natsV_length, hli]
        exact small1000 (by omega)
      · have hnew : ∀ b' o, H b' = some o → b' ≠ p := fun b' o e => ne_of_none e hp
        refine ⟨_, rfl, _, rfl, _, rfl, top j m, j + 1, b + 5, rfl, htb, by omega, by omega, m, ch (top j m) (j + 1), rfl, rfl, hc, ?_⟩
        refine ⟨fun b' o e => ?_, m - ch (top j m) (j + 1), l ++ [top j m], _, _, rfl, by omega, ?_, ?_, ?_⟩
        · rw [upd_ne (hnew b' o e)]
          exact sm b' o e
        · rw [show k - (i + 1) = j by omega, List.append_assoc]
          exact hl
        · rw [List.length_append, hli]
          rfl
        · rw [upd_same, natsV_app]
    · rintro σ H' ⟨sm, m, l, y, z, rfl, hm, hl, hli, hpp⟩
      rw [Nat.sub_self] at hl
      have hl : l ++ [] = cas k n := hl
      rw [List.append_nil] at hl
      subst hl
      exact ⟨_, rfl, q H' p sm hp hpp⟩
theorem size_yes {k : Nat} {lo hi : Int} (h1 : lo ≤ (k : Int)) (h2 : (k : Int) ≤ hi) : sizeV (.int (k : Int)) lo hi = true := by
  show (decide ((0 : Int) ≤ k) && (decide (lo ≤ (k : Int)) && decide ((k : Int) ≤ hi))) = true
  rw [decide_eq_true (show (0 : Int) ≤ k by omega), decide_eq_true h1, decide_eq_true h2]
  rfl
theorem num_yes (n : Nat) : numV (.int (n : Int)) = true := decide_eq_true (show (0 : Int) ≤ n by omega)
def spSetOf : Sp := fun vs H Q _ => ∃ k n b : Nat, vs = [.int (k : Int), .int (n : Int)] ∧ k ≤ 20 ∧ n < 2 ^ b ∧ b ≤ 7000 ∧ (k = 0 → n = 0) ∧
  ∀ H' p, Same H H' → H p = none → H' p = some (.lst (natsV (cas k n))) → Q (.ref p) H'
end
end Sh

/-! The sets beneath. -/
namespace Sh
open PySem PySem.Spec PyProof.Rows L2
theorem cut_to (xs : List V) (i : Nat) : cutV xs none (some (i : Int)) = xs.take i := by
  unfold cutV
  rw [HT.sIx_none, show HT.sIx xs.length xs.length (some (i : Int)) = min i xs.length from HT.sIx_nat _ _ _, List.drop_zero, Nat.sub_zero]
  by_cases h : i ≤ xs.length
  · rw [Nat.min_eq_left h]
  · rw [Nat.min_eq_right (by omega), List.take_of_length_le (Nat.le_refl _), List.take_of_length_le (by omega)]
theorem cut_from (xs : List V) (i : Nat) : cutV xs (some (i : Int)) none = xs.drop i := by
  unfold cutV
  rw [HT.sIx_none, show HT.sIx xs.length 0 (some (i : Int)) = min i xs.length from HT.sIx_nat _ _ _]
  by_cases h : i ≤ xs.length
  · rw [Nat.min_eq_left h]
    exact List.take_of_length_le (by rw [List.length_drop]; exact Nat.le_refl _)
  · rw [Nat.min_eq_right (by omega), Nat.sub_self, List.take_zero, List.drop_eq_nil_of_le (by omega)]
theorem natsV_take (l : List Nat) (i : Nat) : (natsV l).take i = natsV (l.take i) := by
  unfold natsV
  rw [List.map_take]
theorem natsV_drop (l : List Nat) (i : Nat) : (natsV l).drop i = natsV (l.drop i) := by
  unfold natsV
  rw [List.map_drop]
theorem natsV_append (l m : List Nat) : natsV l ++ natsV m = natsV (l ++ m) := by
  unfold natsV
  rw [List.map_append]
/-- the list at p holds new lists, one for each place of l, without that place's number -/
structure Beneath (H H' : Hp) (l : List Nat) (ps : List Addr) : Prop where
  len : ps.length = l.length
  at_ : ∀ i x, ps[i]? = some x → H' x = some (.lst (natsV (l.eraseIdx i))) ∧ H x = none
  nd : ps.Nodup
/-- some[:at] + some[at + 1:] -/
abbrev tWithout (K : PySem.W.Frag) (i j : Nat) : TE := tOp rCat (tSl (rSlL K) (tVar i) tNoPart (tPart (tVar j))) (tSl (rSlL K) (tVar i) (tPart (tOp rNAdd (tVar j) (tC (.int 1)))) tNoPart)
theorem lc_beneath {K : PySem.W.Frag} {vs : List Nat} {σ : L2.St} {H1 : Hp} {D a : Addr} {Qd : Hp → Prop} {l : List Nat} {m i j : Nat} (hm : m = l.length) (hz : l.length ≤ 1000) (ha : H1 a = some (.lst (natsV l))) (hD : H1 D = none)
    (hw : ∀ x, wipe ((wipe σ vs).set j (some x)) vs = wipe σ vs) (hi : ∀ x, ((wipe σ vs).set j (some x))[i]? = some (some (.ref a))) (hj : ∀ x, ((wipe σ vs).set j (some x))[j]? = some (some x))
    (hd : ∀ H' ps, Same H1 H' → H' D = some (.lst (ps.map V.ref)) → Beneath H1 H' l ps → D ∉ ps → Qd H') : LcW (Itr 0 m) (gName j) (tWithout K i j) vs σ H1 D Qd := by
  refine lc1_rangeN hm (fun n acc H' => Same H1 H' ∧ ∃ ps : List Addr, acc = ps.map V.ref ∧ (∀ n x, ps[n]? = some x → H' x = some (.lst (natsV (l.eraseIdx n))) ∧ H1 x = none ∧ x ≠ D) ∧ ps.Nodup)
    ⟨same_new hD, [], rfl, fun n x h => by simp at h, List.nodup_nil⟩ hw ?_ ?_
  · rintro n acc H' hn hl hDH ⟨sm, ps, rfl, hps, hnd⟩
    have haH := sm _ _ ha
    refine ⟨_, hi _, _, hj _, n, rfl, a, _, rfl, .of haH, fun p1 n1 => ?_⟩
    rw [cut_to, natsV_take]
    refine ⟨_, hi _, _, hj _, n, 1, rfl, rfl, ((n + 1 : Nat) : Int), rfl, a, natsV l, rfl, .of (by rw [upd_ne (ne_of_none haH n1)]; exact haH), fun p2 n2 => ?_⟩
    rw [cut_from, natsV_drop]
    have d12 : p1 ≠ p2 := fun e => by rw [e] at n2; rw [upd_same] at n2; cases n2
    refine ⟨p1, p2, _, _, rfl, rfl, by rw [upd_ne d12, upd_same], upd_same, ?_, fun p3 n3 => ?_⟩
    · rw [natsV_length, natsV_length, List.length_take, List.length_drop]
      exact Nat.le_of_lt (small1000 (by omega))
    · rw [natsV_append]
      have d23 : p3 ≠ p2 := fun e => by rw [e, upd_same] at n3; cases n3
      have f2 : (upd H' p1 (.lst (natsV (l.take n)))) p3 = none := by rw [upd_ne d23] at n3; exact n3
      have d13 : p3 ≠ p1 := fun e => by rw [e, upd_same] at f2; cases f2
      have f3 : H' p3 = none := by rw [upd_ne d13] at f2; exact f2
      have dD : ∀ q, H' q = none → D ≠ q := fun q z => ne_of_none hDH z
      have n2' : H' p2 = none := by rw [upd_ne d12.symm] at n2; exact n2
      have old : ∀ x o, H' x = some o → (upd (upd (upd H' p1 (.lst (natsV (l.take n)))) p2 (.lst (natsV (l.drop (n + 1))))) p3 (.lst (natsV (l.take n ++ l.drop (n + 1))))) x = some o := fun x o e => by
        rw [upd_ne (ne_of_none e f3), upd_ne (ne_of_none e n2'), upd_ne (ne_of_none e n1)]
        exact e
      refine LcN.put (old _ _ hDH) hl (small1000 (by omega)) ⟨fun b o e => ?_, ps ++ [p3], by rw [List.map_append]; rfl, fun k x hx => ?_, ?_⟩
      · rw [upd_ne (ne_of_none e hD)]
        exact old _ _ (sm b o e)
      · rw [List.length_map] at hl
        rcases Nat.lt_or_ge k ps.length with hk | hk
        · rw [List.getElem?_append_left hk] at hx
          obtain ⟨g1, g2, g3⟩ := hps k x hx
          exact ⟨by rw [upd_ne g3]; exact old _ _ g1, g2, g3⟩
        · rw [List.getElem?_append_right hk] at hx
          have hk0 : k - ps.length = 0 := by
            refine Nat.lt_one_iff.mp ?_
            have := (List.getElem?_eq_some_iff.mp hx).1
            simpa using this
          rw [hk0] at hx
          have ex : p3 = x := Option.some.inj hx
          subst ex
          have ek : k = n := by omega
          subst ek
          refine ⟨?_, ?_, (dD _ f3).symm⟩
          · rw [upd_ne (dD _ f3).symm, upd_same, List.eraseIdx_eq_take_drop_succ]
          · cases q : H1 p3 with
            | none => rfl
            | some o =>
              rw [sm _ _ q] at f3
              cases f3
      · refine List.nodup_append.mpr ⟨hnd, List.nodup_cons.mpr ⟨List.not_mem_nil, List.nodup_nil⟩, fun x hx y hy e => ?_⟩
        have hy := List.mem_singleton.mp hy
        obtain ⟨k, hk⟩ := List.getElem?_of_mem hx
        obtain ⟨g1, _⟩ := hps k x hk
        rw [e, hy, f3] at g1
        cases g1
  · rintro acc H' hl hDH ⟨sm, ps, rfl, hps, hnd⟩
    rw [List.length_map] at hl
    refine hd H' ps sm hDH ⟨hl, fun n x h => ⟨(hps n x h).1, (hps n x h).2.1⟩, hnd⟩ fun hx => ?_
    obtain ⟨k, hk⟩ := List.getElem?_of_mem hx
    exact (hps k D hk).2.2 rfl
section
variable {P : Program} {w : World} {K : PySem.W.Frag} {mg : Str → Option Value} {base : Heap}
def spBeneath : Sp := fun vs H Q _ => ∃ (a : Addr) (l : List Nat), vs = [.ref a] ∧ H a = some (.lst (natsV l)) ∧ Down l ∧ l.length ≤ 20 ∧
  ∀ H' p ps, Same H H' → H p = none → H' p = some (.lst (ps.map V.ref)) → Beneath H H' l ps → p ∉ ps → Q (.ref p) H'
end
end Sh

/-! The law's small defs: cells, draws, values, picks, places. -/
namespace Sh
open PySem PySem.Spec PyProof.Rows L2
/-- a number of a script is not too great -/
abbrev Bounded (ns : List Int) : Prop := ∀ z ∈ ns, Builtin.Int.intBits z ≤ 1048576
def many : Nat := 10 ^ 40
section
variable {P : Program} {w : World} {K : PySem.W.Frag} {mg : Str → Option Value} {base : Heap}
def spCellAt (K : PySem.W.Frag) : Sp := fun vs H Q _ => ∃ (a : Addr) (ns : List Int) (k : Nat), vs = [.ref a, .int (k : Int)] ∧ SqL K H a (ns.map V.int) ∧ ∀ z : Int, (z = 0 ∨ z ∈ ns) → Q (.int z) H
noncomputable def dv__law_cell_at {P : Program} {w : World} {K : PySem.W.Frag} {mg : Str → Option Value} {base : Heap} (T : Txt K mg)  {cdv : Value} {A : Around} {outer : List Env} {s : Shared} {H : Hp} {E : XK}
    (hr : Room 0 (A.deeper (envOfC "_law_cell_at" (defScope s__law_cell_at) s.heap.objs.size T.f__law_cell_at cdv))) :
    Σ' t : TS, PSs (cxOf CX0 P w K mg base ["_law_script", "_law_k"] "_law_cell_at" (defScope s__law_cell_at) T.f__law_cell_at cdv A outer s H E).nox (defBody s__law_cell_at) t :=
  ⟨_, (pss_cons (ps_if (pt_cmpR op_nLt (pv 1) (pe_callB (call_lenK (K := K)) (by rfl) T.z_len PySem.boot_len (pa_cons (pv 0) pa_nil)) (nomark _)) (pss_one (ps_ret (pe_ix (ix_listK (K := K)) (pv 0) (pv 1) (fun _ _ => rfl)))) pss_nil)
      (pss_one (ps_ret pe_int)))⟩
theorem ok__law_cell_at (T : Txt K mg) : FnOk P w K mg base CX0 1 T.f__law_cell_at T.d__law_cell_at ["_law_script", "_law_k"] (spCellAt K) := by
  refine T.F__law_cell_at.ok sc__law_cell_at (fun vs H Q E h => ?_) (fun cdv A outer s H vs Q E hr h => ⟨_, (dv__law_cell_at T hr).2, ?_⟩)
  · obtain ⟨a, ns, k, rfl, _⟩ := h
    rfl
  · obtain ⟨a, ns, k, rfl, hS, q⟩ := h
    refine ⟨_, rfl, _, rfl, a, _, rfl, .inl hS, k, _, rfl, rfl, _, rfl, dec2 (fun c => ?_) (fun c => ?_)⟩
    · rw [List.length_map] at c
      have g : (ns.map V.int)[k]? = some (.int ns[k]) := by
        rw [List.getElem?_map, List.getElem?_eq_getElem c]
        rfl
      exact ⟨_, rfl, _, rfl, a, _, k, _, rfl, rfl, hS, atI_nat g, q _ (.inr (List.getElem_mem c))⟩
    · exact q 0 (.inl rfl)
def primes : List Int := [1000003, 1000033, 1000037, 1000039, 1000081, 1000099, 1000117, 1000121, 1000133, 1000151, 1000159, 1000171, 1000183, 1000187, 1000193, 1000199]
theorem primes_pos : ∀ p ∈ primes, 0 < p := by decide
def spDraw : Sp := fun vs H Q _ => ∃ (c : Int) (k m : Nat), vs = [.int c, .int (k : Int), .int (m : Int)] ∧ Builtin.Int.intBits c ≤ 10000000 ∧ k ≤ 1000 ∧ 0 < m ∧ ∀ (z : Nat) H', z < m → Same H H' → Q (.int (z : Int)) H'
noncomputable def dv__law_draw {P : Program} {w : World} {K : PySem.W.Frag} {mg : Str → Option Value} {base : Heap} (T : Txt K mg)  {cdv : Value} {A : Around} {outer : List Env} {s : Shared} {H : Hp} {E : XK}
    (hr : Room 0 (A.deeper (envOfC "_law_draw" (defScope s__law_draw) s.heap.objs.size T.f__law_draw cdv))) :
    Σ' t : TS, PSs (cxOf CX0 P w K mg base ["_law_cell", "_law_k", "_law_many", "_law_primes"] "_law_draw" (defScope s__law_draw) T.f__law_draw cdv A outer s H E).nox (defBody s__law_draw) t :=
  ⟨_, (pss_cons (ps_set (i := 3) sc__law_draw.nd rfl (.inl rfl) (pe_tup (pa_cons pe_int (pa_cons pe_int (pa_cons pe_int (pa_cons pe_int (pa_cons pe_int (pa_cons pe_int (pa_cons pe_int (pa_cons pe_int (pa_cons pe_int (pa_cons pe_int (pa_cons pe_int (pa_cons pe_int (pa_cons pe_int (pa_cons pe_int (pa_cons pe_int (pa_cons pe_int pa_nil))))))))))))))))))
      (pss_one (ps_ret (pe_op op_iMod (pe_op op_iMod (pe_op op_iAdd (pe_op op_iMul (pv 0) pe_int) (pe_op op_nMul (pv 1) pe_int)) (pe_ix (ix_tupK (K := K)) (pv 3) (pe_op op_nMod (pv 1) pe_int) (fun _ _ => rfl))) (pv 2)))))⟩
theorem ok__law_draw (T : Txt K mg) : FnOk P w K mg base CX0 1 T.f__law_draw T.d__law_draw ["_law_cell", "_law_k", "_law_many"] spDraw := by
  refine T.F__law_draw.ok sc__law_draw (fun vs H Q E h => ?_) (fun cdv A outer s H vs Q E hr h => ⟨_, (dv__law_draw T hr).2, ?_⟩)
  · obtain ⟨c, k, m, rfl, _⟩ := h
    rfl
  · obtain ⟨c, k, m, rfl, hc, hk, hm, q⟩ := h
    refine ⟨(by show 16 ≤ sizeLine; decide), fun t ht => ?_⟩
    have hj : k % 16 < primes.length := Nat.mod_lt _ (by decide)
    have g : (primes.map V.int)[k % 16]? = some (.int primes[k % 16]) := by
      rw [List.getElem?_map, List.getElem?_eq_getElem hj]
      rfl
    have hp := primes_pos _ (List.getElem_mem hj)
    generalize primes[k % 16] = p at g hp
    refine ⟨_, rfl, c, 48271, rfl, rfl, ?_, _, rfl, k, 69621, rfl, rfl, ⟨10, 17, by omega, by decide, by decide⟩, c * 48271, _, rfl, rfl, _, rfl, _, rfl, k, 16, rfl, rfl, by decide,
      t, primes.map V.int, ((k % 16 : Nat) : Int), _, rfl, rfl, .of upd_same, atI_nat g, _, p, rfl, rfl, hp, _, rfl, _, (m : Int), rfl, rfl, by omega, ?_⟩
    · have e : Builtin.Int.intBits 48271 = 16 := by decide +kernel
      unfold CMulX
      rw [e]
      omega
    · generalize (c * 48271 + ((k * 69621 : Nat) : Int)) % p = y
      have h1 := Int.emod_nonneg y (show (m : Int) ≠ 0 by omega)
      have h2 := Int.emod_lt_of_pos y (show (0 : Int) < m by omega)
      obtain ⟨z, hz⟩ := Int.eq_ofNat_of_zero_le h1
      have hz : y % (m : Int) = (z : Int) := hz
      rw [hz] at h2 ⊢
      exact q z _ (by omega) (same_new ht)
theorem mul_bits {i j : Int} {a b : Nat} (h1 : Builtin.Int.intBits i ≤ a) (h2 : Builtin.Int.intBits j ≤ b) : Builtin.Int.intBits (i * j) ≤ a + b := by
  refine intBits_le ?_
  rw [Int.natAbs_mul, Nat.pow_add]
  have x := Nat.lt_of_lt_of_le (natAbs_lt_pow_bits i) (Nat.pow_le_pow_right (by decide) h1)
  have y := Nat.lt_of_lt_of_le (natAbs_lt_pow_bits j) (Nat.pow_le_pow_right (by decide) h2)
  exact Nat.mul_lt_mul'' x y
theorem add_bits {i : Int} {n a : Nat} (h1 : Builtin.Int.intBits i ≤ a) (h2 : n < 2 ^ a) : Builtin.Int.intBits (i + (n : Int)) ≤ a + 1 := by
  refine intBits_le ?_
  have x := Nat.lt_of_lt_of_le (natAbs_lt_pow_bits i) (Nat.pow_le_pow_right (by decide) h1)
  rw [Nat.pow_succ]
  omega
def spValue : Sp := fun vs H Q _ => ∃ (c : Int) (k m : Nat), vs = [.int c, .int (k : Int), .int (m : Int)] ∧ Builtin.Int.intBits c ≤ 1048576 ∧ k ≤ 1000 ∧ 0 < m ∧ m ≤ many ∧ ∀ (z : Nat) H', z < many → Same H H' → Q (.int (z : Int)) H'
noncomputable def dv__law_value {P : Program} {w : World} {K : PySem.W.Frag} {mg : Str → Option Value} {base : Heap} (T : Txt K mg)  {cdv : Value} {A : Around} {outer : List Env} {s : Shared} {H : Hp} {E : XK}
    (hr : Room 1 (A.deeper (envOfC "_law_value" (defScope s__law_value) s.heap.objs.size T.f__law_value cdv))) :
    Σ' t : TS, PSs (cxOf CX0 P w K mg base ["_law_cell", "_law_k", "_law_limit"] "_law_value" (defScope s__law_value) T.f__law_value cdv A outer s H E).nox (defBody s__law_value) t :=
  ⟨_, (pss_cons (ps_if (pt_cmpR op_iGe (pv 0) (pe_op op_iPow pe_int pe_int) (nomark _)) (pss_one (ps_ret (pe_op op_iMod (pe_op op_iSub (pv 0) (pe_op op_iPow pe_int pe_int)) (pe_op op_iPow pe_int pe_int)))) pss_nil)
      (pss_one (ps_ret (pe_call (ok__law_draw T) (hr.mono (by omega)) (by rfl) T.g__law_draw T.F__law_draw.kp T.b__law_draw .nil pass0 (pa_cons (pe_op op_iMul (pe_op op_iAdd (pv 0) (pe_op op_nMul pe_int (pv 1))) (pe_op op_iAdd (pe_op op_iAdd (pv 0) (pe_op op_nMul pe_int (pv 1))) pe_int)) (pa_cons (pe_op op_nAdd (pe_op op_nMod (pv 1) pe_int) pe_int) (pa_cons (pv 2) pa_nil)))))))⟩
theorem ok__law_value (T : Txt K mg) : FnOk P w K mg base CX0 2 T.f__law_value T.d__law_value ["_law_cell", "_law_k", "_law_limit"] spValue := by
  refine T.F__law_value.ok sc__law_value (fun vs H Q E h => ?_) (fun cdv A outer s H vs Q E hr h => ⟨_, (dv__law_value T hr).2, ?_⟩)
  · obtain ⟨c, k, m, rfl, _⟩ := h
    rfl
  · obtain ⟨c, k, m, rfl, hc, hk, hm, hm2, q⟩ := h
    have cp : CPow 10 18 := ⟨by decide, by decide, by decide⟩
    have cp2 : CPow 10 40 := ⟨by decide, by decide, by decide⟩
    have e40 : (10 : Int) ^ (40 : Int).toNat = ((many : Nat) : Int) := by decide +kernel
    refine ⟨_, rfl, 10, 18, rfl, rfl, cp, c, _, rfl, rfl, _, rfl, dec2 (fun c1 => ?_) (fun c1 => ?_)⟩
    · refine ⟨_, rfl, 10, 18, rfl, rfl, cp, c, _, rfl, rfl, 10, 40, rfl, rfl, cp2, _, _, rfl, rfl, ?_, ?_⟩
      · rw [e40]
        have : 0 < many := Nat.pow_pos (by decide)
        omega
      · rw [e40]
        generalize c - 10 ^ (18 : Int).toNat = y
        have hp : 0 < many := Nat.pow_pos (by decide)
        have h1 := Int.emod_nonneg y (show (many : Int) ≠ 0 by omega)
        have h2 := Int.emod_lt_of_pos y (show (0 : Int) < many by omega)
        obtain ⟨z, hz⟩ := Int.eq_ofNat_of_zero_le h1
        have hz : y % (many : Int) = (z : Int) := hz
        rw [hz] at h2 ⊢
        exact q z H (by omega) (Same.refl H)
    · have n977 : 977 * k < 2 ^ 1048576 := Nat.lt_of_lt_of_le (show 977 * k < 2 ^ 20 by omega) (Nat.pow_le_pow_right (by decide) (show 20 ≤ 1048576 by decide))
      have n31 : 31 * k < 2 ^ 1048576 := Nat.lt_of_lt_of_le (show 31 * k < 2 ^ 20 by omega) (Nat.pow_le_pow_right (by decide) (by decide))
      have n5 : (5 : Nat) < 2 ^ (1048576 + 1) := Nat.lt_of_lt_of_le (show 5 < 2 ^ 3 by decide) (Nat.pow_le_pow_right (by decide) (by decide))
      have b1 := add_bits hc n977
      have b2 : Builtin.Int.intBits (c + ((31 * k : Nat) : Int) + 5) ≤ 1048576 + 1 + 1 := add_bits (add_bits hc n31) n5
      have b3 := mul_bits b1 b2
      refine ⟨_, rfl, _, rfl, 977, k, rfl, rfl, ⟨10, 10, by decide, by omega, by decide⟩, c, _, rfl, rfl, _, rfl, _, rfl, 31, k, rfl, rfl, ⟨10, 10, by decide, by omega, by decide⟩, c, _, rfl, rfl, _, 5, rfl, rfl, _, _, rfl, rfl, ?_,
        _, rfl, k, 9, rfl, rfl, by decide, _, 1, rfl, rfl, _, rfl, _, k % 9 + 1, m, rfl, Nat.le_trans b3 (by decide), by omega, hm, fun z H' hz sm => q z H' (by omega) sm⟩
      unfold CMulX
      omega
def spWhole : Sp := fun vs H Q _ => ∃ i : Int, vs = [.int i] ∧ Q (.bl true) H
noncomputable def dv__law_whole {P : Program} {w : World} {K : PySem.W.Frag} {mg : Str → Option Value} {base : Heap} (T : Txt K mg)  {cdv : Value} {A : Around} {outer : List Env} {s : Shared} {H : Hp} {E : XK}
    (hr : Room 0 (A.deeper (envOfC "_law_whole" (defScope s__law_whole) s.heap.objs.size T.f__law_whole cdv))) :
    Σ' t : TS, PSs (cxOf CX0 P w K mg base ["_law_number"] "_law_whole" (defScope s__law_whole) T.f__law_whole cdv A outer s H E).nox (defBody s__law_whole) t :=
  ⟨_, (pss_one (ps_ret (pe_and (pe_callB (call_isiK (K := K)) (by rfl) T.z_isinstance (by decide +kernel) (pa_cons (pv 0) (pa_cons (pe_bltn (v := .ty "int") (by rfl) T.z_int (by decide +kernel) rfl) pa_nil))) (pe_one (pe_not (pe_callB (call_isiK (K := K)) (by rfl) T.z_isinstance (by decide +kernel) (pa_cons (pv 0) (pa_cons (pe_bltn (v := .ty "bool") (by rfl) T.z_bool (by decide +kernel) rfl) pa_nil))))))))⟩
theorem ok__law_whole (T : Txt K mg) : FnOk P w K mg base CX0 1 T.f__law_whole T.d__law_whole ["_law_number"] spWhole := by
  refine T.F__law_whole.ok sc__law_whole (fun vs H Q E h => ?_) (fun cdv A outer s H vs Q E hr h => ⟨_, (dv__law_whole T hr).2, ?_⟩)
  · obtain ⟨i, rfl, _⟩ := h
    rfl
  · obtain ⟨i, rfl, q⟩ := h
    refine ⟨_, rfl, _, _, _, _, true, rfl, .ty _, .base (.int i), kit_ty (by decide +kernel), true, rfl, iteT ?_⟩
    exact ⟨_, rfl, _, _, _, _, false, rfl, .ty _, .base (.int i), kit_ty (by decide +kernel), false, rfl, q⟩
def spPicks : Sp := fun vs H Q _ => ∃ n k b : Nat, vs = [.int (n : Int), .int (k : Int)] ∧ n < 2 ^ b ∧ b ≤ 10000 ∧ k ≤ 30 ∧ Q (.int ((ch n k : Nat) : Int)) H
noncomputable def dv__law_picks {P : Program} {w : World} {K : PySem.W.Frag} {mg : Str → Option Value} {base : Heap} (T : Txt K mg)  {cdv : Value} {A : Around} {outer : List Env} {s : Shared} {H : Hp} {E : XK}
    (hr : Room 0 (A.deeper (envOfC "_law_picks" (defScope s__law_picks) s.heap.objs.size T.f__law_picks cdv))) :
    Σ' t : TS, PSs (cxOf CX0 P w K mg base ["_law_things", "_law_size", "_law_found", "_law_turn"] "_law_picks" (defScope s__law_picks) T.f__law_picks cdv A outer s H E).nox (defBody s__law_picks) t :=
  ⟨_, (pss_cons (ps_if (pt_cmpR op_nLt (pv 0) (pv 1) (nomark _)) (pss_one (ps_ret pe_int)) pss_nil)
      (pss_cons (ps_set (i := 2) sc__law_picks.nd rfl (.inl rfl) pe_int)
      (pss_cons (ps_for PassesOwn.never rfl (pi_range1 (by rfl) T.z_range (pa_cons (pv 1) pa_nil)) (pg_name (i := 3) sc__law_picks.nd rfl (.inl rfl)) (pss_one (ps_set (i := 2) sc__law_picks.nd rfl (.inl rfl) (pe_op op_nDiv (pe_op op_nMul (pv 2) (pe_op op_nSub (pv 0) (pv 3))) (pe_op op_nAdd (pv 3) pe_int)))))
      (pss_one (ps_ret (pv 2))))))⟩
theorem ok__law_picks (T : Txt K mg) : FnOk P w K mg base CX0 1 T.f__law_picks T.d__law_picks ["_law_things", "_law_size"] spPicks := by
  refine T.F__law_picks.ok sc__law_picks (fun vs H Q E h => ?_) (fun cdv A outer s H vs Q E hr h => ⟨_, (dv__law_picks T hr).2, ?_⟩)
  · obtain ⟨n, k, b, rfl, _⟩ := h
    rfl
  · obtain ⟨n, k, b, rfl, hn, hb, hk, q⟩ := h
    refine ⟨_, rfl, _, rfl, n, k, rfl, rfl, _, rfl, dec2 (fun c => ?_) (fun c => ?_)⟩
    · rw [ch_few c] at q
      exact q
    · refine ⟨_, rfl, k, rfl, by omega, by omega, ?_⟩
      refine for_rangeN (n := k) rfl (fun i σ H' => H' = H ∧ ∃ y, σ = [some (.int (n : Int)), some (.int (k : Int)), some (.int ((ch n i : Nat) : Int)), y]) ⟨rfl, none, by rw [ch_zero]; rfl⟩ ?_ ?_
      · rintro i σ H' hi ⟨rfl, y, rfl⟩
        have h1 := ch_bits (k := i) hn
        have h2 : ch n i < 2 ^ (b * i + 1) := by
          rw [Nat.pow_succ]
          have := Nat.two_pow_pos (b * i)
          omega
        have h3 : b * i ≤ b * 30 := Nat.mul_le_mul_left _ (by omega)
        refine ⟨_, rfl, _, rfl, _, rfl, n, i, rfl, rfl, by omega, _, _, rfl, rfl, ⟨b * i + 1, b, h2, by omega, by omega⟩, _, rfl, i, 1, rfl, rfl, _, _, rfl, rfl, .small (by omega) (by omega), rfl, some (.int (i : Nat)), ?_⟩
        rw [ch_div]
        rfl
      · rintro σ H' ⟨rfl, y, rfl⟩
        exact ⟨_, rfl, q⟩
/-- what is ahead of a set, place by place -/
def terms : List Nat → List Nat
  | [] => []
  | a :: l => ch a (l.length + 1) :: terms l
theorem terms_sum : ∀ l : List Nat, (terms l).sum = num l
  | [] => rfl
  | a :: l => by
    show ((ch a (l.length + 1)) :: terms l).sum = ch a (l.length + 1) + num l
    rw [List.sum_cons, terms_sum l]
theorem terms_length : ∀ l : List Nat, (terms l).length = l.length
  | [] => rfl
  | a :: l => congrArg Nat.succ (terms_length l)
theorem terms_get : ∀ {l : List Nat} {i n : Nat}, l[i]? = some n → (terms l)[i]? = some (ch n (l.length - i))
  | a :: l, 0, n, h => by
    have e : a = n := Option.some.inj h
    subst e
    rfl
  | a :: l, i + 1, n, h => by
    have h : l[i]? = some n := h
    have ih := terms_get h
    show (terms l)[i]? = some (ch n (l.length + 1 - (i + 1)))
    rw [ih, Nat.add_sub_add_right]
theorem sum_nats : ∀ l : List Nat, (l.map fun n : Nat => (n : Int)).sum = ((l.sum : Nat) : Int)
  | [] => rfl
  | a :: l => by
    rw [List.map_cons, List.sum_cons, List.sum_cons, sum_nats l]
    rfl
def spPlace : Sp := fun vs H Q _ => ∃ (a : Addr) (l : List Nat) (b : Nat), vs = [.ref a] ∧ H a = some (.lst (natsV l)) ∧ l.length ≤ 30 ∧ (∀ x ∈ l, x < 2 ^ b) ∧ b ≤ 10000 ∧ ∀ H', Same H H' → Q (.int ((num l : Nat) : Int)) H'
end
end Sh

/-! Lists of numbers, and lists of such, as data. -/
namespace Sh
open PySem PySem.Spec PyProof.Rows L2
def dataN (l : List Nat) : PyData := .list ((l.map fun n : Nat => (n : Int)).map PyData.int)
def dataNN (ls : List (List Nat)) : PyData := .list (ls.map dataN)
theorem cast_inj : ∀ {l m : List Nat}, (l.map fun n : Nat => (n : Int)) = (m.map fun n : Nat => (n : Int)) → l = m
  | [], [], _ => rfl
  | [], _ :: _, h => by simp at h
  | _ :: _, [], h => by simp at h
  | a :: l, b :: m, h => by
    rw [List.map_cons, List.map_cons, List.cons.injEq] at h
    rw [cast_inj h.2, Int.ofNat.inj h.1]
theorem eqvAll_ints : ∀ ns ms : List Int, PyData.eqvAll (ns.map PyData.int) (ms.map PyData.int) = decide (ns = ms)
  | [], [] => by simp [PyData.eqvAll]
  | [], _ :: _ => by simp [PyData.eqvAll]
  | _ :: _, [] => by simp [PyData.eqvAll]
  | n :: r, k :: q => by
    rw [List.map_cons, List.map_cons, PyData.eqvAll, eqvAll_ints r q]
    by_cases h : n = k <;> simp [h, PyData.eqv]
theorem eqv_N (l m : List Nat) : PyData.eqv (dataN l) (dataN m) = decide (l = m) := by
  unfold dataN
  rw [PyData.eqv, eqvAll_ints]
  exact decide_eq_decide.mpr ⟨cast_inj, fun h => by rw [h]⟩
theorem shaped_N (l : List Nat) : SeqAt.shaped (dataN l) = true := PySem.W.shaped_ints _
theorem canLay_N (l : List Nat) : (dataN l).canLay0 = true := SeqAt.canLay_of_shaped (shaped_N l)
theorem canLay_all : ∀ ls : List (List Nat), PyData.canLayAll0 (ls.map dataN) = true
  | [] => by simp [PyData.canLayAll0]
  | l :: ls => by rw [List.map_cons, PyData.canLayAll0, canLay_N, canLay_all ls]; rfl
theorem depth_N (l : List Nat) : (dataN l).depth = 1 := by
  unfold dataN
  rw [PyData.depth, PySem.W.depth_ints]
theorem depth_all : ∀ ls : List (List Nat), PyData.depthAll (ls.map dataN) ≤ 1
  | [] => by simp [PyData.depthAll]
  | l :: ls => by
    rw [List.map_cons, PyData.depthAll, depth_N]
    have := depth_all ls
    omega
theorem shaped_NN (ls : List (List Nat)) : SeqAt.shaped (dataNN ls) = true := by
  have h1 : (dataNN ls).canLay0 = true := by
    unfold dataNN
    rw [PyData.canLay0]
    exact canLay_all ls
  have h2 : (dataNN ls).depth ≤ 64 := by
    unfold dataNN
    rw [PyData.depth]
    have := depth_all ls
    omega
  unfold SeqAt.shaped
  rw [h1, decide_eq_true h2]
  rfl
theorem eqv_NN (ls : List (List Nat)) : PyData.eqv (dataNN ls) (dataNN ls) = true := SeqAt.eqv_refl _ (SeqAt.canLay_of_shaped (shaped_NN ls))
section
variable {K : PySem.W.Frag} {H : Hp}
theorem dp_N {a : Addr} {l : List Nat} (h : SqL K H a (natsV l)) : Dp K H (.ref a) (dataN l) := dp_list (by rw [← natsV_ints]; exact h)
theorem dp_all : ∀ {ps : List Addr} {ls : List (List Nat)}, ps.length = ls.length → (∀ (i : Nat) (p : Addr) (l : List Nat), ps[i]? = some p → ls[i]? = some l → SqL K H p (natsV l)) → DpAll K H (ps.map V.ref) (ls.map dataN)
  | [], [], _, _ => .nil
  | [], _ :: _, h, _ => by simp at h
  | _ :: _, [], h, _ => by simp at h
  | p :: ps, l :: ls, h, f => .cons (dp_N (f 0 p l rfl rfl)) (dp_all (by simpa using h) fun i q m h1 h2 => f (i + 1) q m h1 h2)
theorem dp_NN {a : Addr} {ps : List Addr} {ls : List (List Nat)} (h : SqL K H a (ps.map V.ref)) (hl : ps.length = ls.length) (f : ∀ (i : Nat) (p : Addr) (l : List Nat), ps[i]? = some p → ls[i]? = some l → SqL K H p (natsV l)) :
    Dp K H (.ref a) (dataNN ls) := .lst h (dp_all hl f)
theorem eqN {x y : V} {Q : VK} {a b : Addr} {l m : List Nat} (hx : x = .ref a) (hy : y = .ref b) (ha : SqL K H a (natsV l)) (hb : SqL K H b (natsV m)) (q : Q (.bl (decide (l = m))) H) : rEqD K x y H Q := by
  subst hx hy
  exact ⟨dataN l, dataN m, dp_N ha, dp_N hb, shaped_N l, shaped_N m, by rw [eqv_N]; exact q⟩
theorem neN {x y : V} {Q : VK} {a b : Addr} {l m : List Nat} (hx : x = .ref a) (hy : y = .ref b) (ha : SqL K H a (natsV l)) (hb : SqL K H b (natsV m)) (q : Q (.bl (!decide (l = m))) H) : rNeD K x y H Q := by
  subst hx hy
  exact ⟨dataN l, dataN m, dp_N ha, dp_N hb, shaped_N l, shaped_N m, by rw [eqv_N]; exact q⟩
end
theorem strict_one : ∀ {xs ys : List Int}, xs.Pairwise (· < ·) → ys.Pairwise (· < ·) → (∀ k, k ∈ xs ↔ k ∈ ys) → xs = ys
  | [], [], _, _, _ => rfl
  | [], y :: ys, _, _, h => absurd ((h y).mpr List.mem_cons_self) (by simp)
  | x :: xs, [], _, _, h => absurd ((h x).mp List.mem_cons_self) (by simp)
  | x :: xs, y :: ys, hx, hy, h => by
    have h1 := List.pairwise_cons.mp hx
    have h2 := List.pairwise_cons.mp hy
    have e : x = y := by
      have a := (h x).mp List.mem_cons_self
      have b := (h y).mpr List.mem_cons_self
      rcases List.mem_cons.mp a with a | a
      · exact a
      · rcases List.mem_cons.mp b with b | b
        · exact b.symm
        · have p := h1.1 y b
          have q := h2.1 x a
          omega
    subst e
    refine congrArg (x :: ·) (strict_one h1.2 h2.2 fun k => ⟨fun m => ?_, fun m => ?_⟩)
    · rcases List.mem_cons.mp ((h k).mp (List.mem_cons_of_mem _ m)) with z | z
      · have := h1.1 k m
        omega
      · exact z
    · rcases List.mem_cons.mp ((h k).mpr (List.mem_cons_of_mem _ m)) with z | z
      · have := h2.1 k m
        omega
      · exact z
/-- the members of a falling list in order, turned round, are the list -/
theorem sorted_back {l : List Nat} {ns : List Int} (hd : Down l) (hp : ns.Pairwise (· < ·)) (hm : ∀ k : Int, k ∈ ns ↔ decide (k ∈ l.map fun n : Nat => (n : Int)) = true) : (ns.map V.int).reverse = natsV l := by
  have e : ns = (l.map fun n : Nat => (n : Int)).reverse := by
    refine strict_one hp ?_ fun k => ?_
    · rw [List.pairwise_reverse, List.pairwise_map]
      exact hd.imp fun h => by omega
    · rw [hm k, decide_eq_true_eq, List.mem_reverse]
  rw [e, ← List.map_reverse, List.reverse_reverse, natsV_ints]
end Sh

/-! The law of sets by numbers: states, sets told, numbers told. -/
namespace Sh
open PySem PySem.Spec PyProof.Rows L2
theorem zero_bits : Builtin.Int.intBits 0 ≤ 1048576 := by decide +kernel
theorem cell_bits {ns : List Int} (hb : Bounded ns) {z : Int} (h : z = 0 ∨ z ∈ ns) : Builtin.Int.intBits z ≤ 1048576 := by
  rcases h with rfl | h
  · exact zero_bits
  · exact hb z h
theorem menu {ms : List Nat} {z : Nat} (h : z < ms.length) : (natsV ms)[z]? = some (.int ((ms[z] : Nat) : Int)) := natsV_get (List.getElem?_eq_getElem h)
theorem mod_bits {c p : Int} {b : Nat} (hp : 0 < p) (hb : p.natAbs < 2 ^ b) : Builtin.Int.intBits (c % p) ≤ b := by
  have h1 := Int.emod_nonneg c (show p ≠ 0 by omega)
  have h2 := Int.emod_lt_of_pos c hp
  refine intBits_le (Nat.lt_of_le_of_lt ?_ hb)
  omega
theorem if_either {p : Prop} [Decidable p] {σ : L2.St} {H : Hp} {Q : VK} {x y : V} (h : ∀ v, (v = x ∨ v = y) → Q v H) : if decide p = true then tC x σ H Q else tC y σ H Q :=
  dec2 (fun _ => h x (.inl rfl)) (fun _ => h y (.inr rfl))
def cutL {α : Type} (xs : List α) (lo hi : Option Int) : List α := (xs.drop (HT.sIx xs.length 0 lo)).take (HT.sIx xs.length xs.length hi - HT.sIx xs.length 0 lo)
theorem cutV_map {α : Type} (f : α → V) (xs : List α) (lo hi : Option Int) : cutV (xs.map f) lo hi = (cutL xs lo hi).map f := by
  unfold cutV cutL
  rw [List.length_map, List.map_take, List.map_drop]
theorem mem_cutL {α : Type} {xs : List α} {lo hi : Option Int} {x : α} (h : x ∈ cutL xs lo hi) : x ∈ xs := List.mem_of_mem_drop (List.mem_of_mem_take h)
theorem cutL_length {α : Type} (xs : List α) (lo hi : Option Int) : (cutL xs lo hi).length ≤ xs.length := by
  unfold cutL
  rw [List.length_take, List.length_drop]
  omega
theorem get_map {α : Type} {f : α → V} {xs : List α} {i : Nat} {x : V} (h : (xs.map f)[i]? = some x) : ∃ z, xs[i]? = some z ∧ x = f z := by
  rw [List.getElem?_map] at h
  obtain ⟨z, h1, h2⟩ := Option.map_eq_some_iff.mp h
  exact ⟨z, h1, h2.symm⟩
section
variable {P : Program} {w : World} {K : PySem.W.Frag} {mg : Str → Option Value} {base : Heap}
/-- new pairs: a size from 1 to 20, a number below 10 ** 40 -/
def Pairs (K : PySem.W.Frag) (H' : Hp) (ts : List Addr) : Prop := ∀ t ∈ ts, ∃ k n : Nat, SqT K H' t [.int (k : Int), .int (n : Int)] ∧ 1 ≤ k ∧ k ≤ 20 ∧ n < many
def spStates (K : PySem.W.Frag) : Sp := fun vs H Q _ => ∃ (a : Addr) (ns : List Int), vs = [.ref a] ∧ SqL K H a (ns.map V.int) ∧ ns.length ≤ 63 ∧ Bounded ns ∧
  ∀ H' p ts, Same H H' → H p = none → H' p = some (.lst (ts.map V.ref)) → Pairs K H' ts → Q (.ref p) H'
theorem pairs_same {H H' : Hp} {ts : List Addr} (sm : Same H H') (h : Pairs K H ts) : Pairs K H' ts := fun t ht =>
  let ⟨k, n, h1, h2⟩ := h t ht
  ⟨k, n, same_tup sm h1, h2⟩
end
end Sh

/-! The law's own set of a number, and the counts moved. -/
namespace Sh
open PySem PySem.Spec PyProof.Rows L2
/-- how far a search by halves has come: m lies below low and twice the step -/
def Wide (j m low s : Nat) : Prop := (∃ e, s = 2 ^ e ∧ m < ch (low + 2 * 2 ^ e) (j + 1)) ∨ (s = 0 ∧ m < ch (low + 1) (j + 1))
theorem wide_half {j m low low' s : Nat} (h : Wide j m low s) (h0 : 0 < s) (hm : m < ch (low' + s) (j + 1)) : Wide j m low' (s / 2) := by
  rcases h with ⟨e, rfl, _⟩ | ⟨rfl, _⟩
  · cases e with
    | zero => exact .inr ⟨rfl, hm⟩
    | succ e =>
      refine .inl ⟨e, ?_, ?_⟩
      · rw [Nat.pow_succ, Nat.mul_div_cancel _ (by decide)]
      · rw [Nat.pow_succ, Nat.mul_comm] at hm
        exact hm
  · exact absurd h0 (Nat.lt_irrefl 0)
theorem wide_in {j m low s : Nat} (h : Wide j m low s) (h0 : 0 < s) : m < ch (low + s + s) (j + 1) := by
  rcases h with ⟨e, rfl, q⟩ | ⟨rfl, _⟩
  · rw [Nat.add_assoc, ← Nat.two_mul]
    exact q
  · exact absurd h0 (Nat.lt_irrefl 0)
theorem wide_end {j m low : Nat} (h : Wide j m low 0) : m < ch (low + 1) (j + 1) := by
  rcases h with ⟨e, q, _⟩ | ⟨_, q⟩
  · exact absurd q.symm (Nat.ne_of_gt (Nat.two_pow_pos e))
  · exact q
/-- the count of a set, its picks of d more -/
def mvd (d : Int) : List Nat → Nat
  | [] => 0
  | a :: l => (if l.length + 1 ≤ a then ch a (((l.length + 1 : Nat) : Int) + d).toNat else 0) + mvd d l
theorem mvd_up : ∀ l : List Nat, mvd 1 l = ov l
  | [] => rfl
  | a :: l => by
    show (if l.length + 1 ≤ a then ch a (((l.length + 1 : Nat) : Int) + 1).toNat else 0) + mvd 1 l = ch a (l.length + 2) + ov l
    have e : (((l.length + 1 : Nat) : Int) + 1).toNat = l.length + 2 := by omega
    rw [mvd_up l, e]
    split
    · rfl
    · rw [ch_few (by omega)]
theorem mvd_down : ∀ l : List Nat, mvd (-1) l = un l
  | [] => rfl
  | a :: l => by
    show (if l.length + 1 ≤ a then ch a (((l.length + 1 : Nat) : Int) + (-1)).toNat else 0) + mvd (-1) l = (if l.length + 1 ≤ a then ch a l.length else 0) + un l
    have e : (((l.length + 1 : Nat) : Int) + (-1)).toNat = l.length := by omega
    rw [mvd_down l, e]
theorem drop_mvd {d : Int} {l : List Nat} {i x : Nat} (h : l[i]? = some x) : mvd d (l.drop i) = (if l.length - i ≤ x then ch x (((l.length - i : Nat) : Int) + d).toNat else 0) + mvd d (l.drop (i + 1)) := by
  obtain ⟨hi, rfl⟩ := List.getElem?_eq_some_iff.mp h
  rw [List.drop_eq_getElem_cons hi]
  have e : (l.drop (i + 1)).length + 1 = l.length - i := by
    rw [List.length_drop]
    omega
  show (if (l.drop (i + 1)).length + 1 ≤ _ then ch _ ((((l.drop (i + 1)).length + 1 : Nat) : Int) + d).toNat else 0) + _ = _
  rw [e]
section
variable {P : Program} {w : World} {K : PySem.W.Frag} {mg : Str → Option Value} {base : Heap}
def spLawSet : Sp := fun vs H Q _ => ∃ k n b : Nat, vs = [.int (k : Int), .int (n : Int)] ∧ k ≤ 20 ∧ n < 2 ^ b ∧ b ≤ 7000 ∧
  ∀ H' p, Same H H' → H p = none → H' p = some (.lst (natsV (cas k n))) → Q (.ref p) H'
noncomputable def dv__law_set {P : Program} {w : World} {K : PySem.W.Frag} {mg : Str → Option Value} {base : Heap} (T : Txt K mg)  {cdv : Value} {A : Around} {outer : List Env} {s : Shared} {H : Hp} {E : XK}
    (hr : Room 1 (A.deeper (envOfC "_law_set" (defScope s__law_set) s.heap.objs.size T.f__law_set cdv))) :
    Σ' t : TS, PSs (cxOf CX0 P w K mg base ["_law_size", "_law_number", "_law_found", "_law_left", "_law_rest", "_law_low", "_law_step"] "_law_set" (defScope s__law_set) T.f__law_set cdv A outer s H E).nox (defBody s__law_set) t :=
  ⟨_, (pss_cons (ps_par (i := 2) (j := 3) (by rfl) sc__law_set.nd rfl rfl (by decide) rfl rfl (pa_cons (pe_lst pa_nil) (pa_cons (pv 1) pa_nil)) (by rfl))
      (pss_cons (ps_for PassesOwn.never rfl (pi_range3 (by rfl) T.z_range (pa_cons (pv 0) (pa_cons pe_int (pa_cons (pe_un un_neg pe_int) pa_nil)))) (pg_name (i := 4) sc__law_set.nd rfl (.inl rfl)) (pss_cons (ps_par (i := 5) (j := 6) (by rfl) sc__law_set.nd rfl rfl (by decide) rfl rfl (pa_cons (pe_op op_nSub (pv 4) pe_int) (pa_cons pe_int pa_nil)) (by rfl))
      (pss_cons (ps_while PassesOwn.never (pt_cmpR op_nLe (pe_call (ok__law_picks T) (hr.mono (by omega)) (by rfl) T.g__law_picks T.F__law_picks.kp T.b__law_picks .nil pass0 (pa_cons (pe_op op_nAdd (pv 5) (pv 6)) (pa_cons (pv 4) pa_nil))) (pv 3) (nomark _)) (pss_one (ps_set (i := 6) sc__law_set.nd rfl (.inl rfl) (pe_op op_nMul pe_int (pv 6)))))
      (pss_cons (ps_while PassesOwn.never (pt_cmpR op_nGt (pv 6) pe_int (nomark _)) (pss_cons (ps_if (pt_cmpR op_nLe (pe_call (ok__law_picks T) (hr.mono (by omega)) (by rfl) T.g__law_picks T.F__law_picks.kp T.b__law_picks .nil pass0 (pa_cons (pe_op op_nAdd (pv 5) (pv 6)) (pa_cons (pv 4) pa_nil))) (pv 3) (nomark _)) (pss_one (ps_set (i := 5) sc__law_set.nd rfl (.inl rfl) (pe_op op_nAdd (pv 5) (pv 6)))) pss_nil)
      (pss_one (ps_set (i := 6) sc__law_set.nd rfl (.inl rfl) (pe_op op_nDiv (pv 6) pe_int)))))
      (pss_cons (ps_expr (pe_bm PySem.F.plainAttrs_list PySem.F.slot_list_append PySem.F.type_list_append mt_append (pv 2) (pa_cons (pv 5) pa_nil)))
      (pss_one (ps_set (i := 3) sc__law_set.nd rfl (.inl rfl) (pe_op op_nSub (pv 3) (pe_call (ok__law_picks T) (hr.mono (by omega)) (by rfl) T.g__law_picks T.F__law_picks.kp T.b__law_picks .nil pass0 (pa_cons (pv 5) (pa_cons (pv 4) pa_nil)))))))))))
      (pss_one (ps_ret (pv 2)))))⟩
theorem ok__law_set (T : Txt K mg) : FnOk P w K mg base CX0 2 T.f__law_set T.d__law_set ["_law_size", "_law_number"] spLawSet := by
  refine T.F__law_set.ok sc__law_set (fun vs H Q E h => ?_) (fun cdv A outer s H vs Q E hr h => ⟨_, (dv__law_set T hr).2, ?_⟩)
  · obtain ⟨k, n, b, rfl, _⟩ := h
    rfl
  · obtain ⟨k, n, b, rfl, hk, hn, hb, q⟩ := h
    refine ⟨Nat.zero_le _, fun p hp => ?_⟩
    refine ⟨_, rfl, _, _, rfl, ?_⟩
    refine ⟨_, rfl, 1, rfl, (k : Int), 0, -1, _, rfl, RgC.neg (by omega) (by omega) (by omega) (by omega), ?_⟩
    refine for_down (n := k) (by omega) (fun i σ H' => Same H H' ∧ ∃ m l y z u, σ = [some (.int (k : Int)), some (.int (n : Int)), some (.ref p), some (.int ((m : Nat) : Int)), y, z, u] ∧ m ≤ n ∧ l ++ cas (k - i) m = cas k n ∧ l.length = i ∧ H' p = some (.lst (natsV l)))
      ⟨same_new hp, n, [], none, none, none, rfl, Nat.le_refl _, rfl, rfl, upd_same⟩ ?_ ?_
    · rintro i σ H1 hi ⟨sm, m, l, y, z, u, rfl, hm, hl, hli, hpp⟩
      obtain ⟨j, hj⟩ : ∃ j, k - i = j + 1 := ⟨k - i - 1, by omega⟩
      rw [hj] at hl ⊢
      have big : ∀ low s, low ≤ m + j → s ≤ 2 * m + 1 → low + s < 2 ^ (b + 6) := fun low s h1 h2 => by
        rw [Nat.pow_add]
        omega
      refine ⟨_, rfl, j + 1, 1, rfl, rfl, by omega, _, _, rfl, ?_⟩
      -- while the step is not too great: twice
      refine ⟨fun c σ H' => H' = H1 ∧ ∃ s e, c = m + 1 - s ∧ s = 2 ^ e ∧ s ≤ 2 * m + 1 ∧ σ = [some (.int (k : Int)), some (.int (n : Int)), some (.ref p), some (.int ((m : Nat) : Int)), some (.int ((j + 1 : Nat) : Int)), some (.int (j : Int)), some (.int (s : Int))],
        ⟨_, rfl, 1, 0, rfl, rfl, by omega, rfl⟩, ?_⟩
      rintro c σ H' ⟨rfl, s, e, rfl, hse, hs, rfl⟩
      have hs0 : 0 < s := hse ▸ Nat.two_pow_pos e
      refine ⟨_, rfl, _, rfl, j, s, rfl, rfl, _, rfl, j + s, j + 1, b + 6, rfl, big _ _ (by omega) hs, by omega, by omega, _, rfl, ch (j + s) (j + 1), m, rfl, rfl, _, rfl, dec2 (fun c => ?_) (fun c => ?_)⟩
      · have hsm : s ≤ m := by
          have h1 := below_top c
          have h2 := top_most j m
          omega
        have h3 : s < 2 ^ (b + 6) := by
          have := big 0 s (by omega) hs
          omega
        refine ⟨fun σ' H'' => H'' = H' ∧ σ' = [some (.int (k : Int)), some (.int (n : Int)), some (.ref p), some (.int ((m : Nat) : Int)), some (.int ((j + 1 : Nat) : Int)), some (.int (j : Int)), some (.int ((2 * s : Nat) : Int))], ?_, _, rfl, 2, s, rfl, rfl, ⟨2, b + 6, by decide, h3, by omega⟩, rfl, rfl⟩
        rintro σ' H'' ⟨rfl, rfl⟩
        exact ⟨m + 1 - 2 * s, by omega, rfl, 2 * s, e + 1, rfl, by rw [hse, Nat.pow_succ]; omega, by omega, rfl⟩
      -- by halves
      have hlt : m < ch (j + 2 * 2 ^ e) (j + 1) := by
        have h1 := ch_mono (show j + s ≤ j + 2 * 2 ^ e by omega) (j + 1)
        omega
      refine ⟨fun c σ H'' => H'' = H' ∧ ∃ low s, c = s ∧ s ≤ 2 * m + 1 ∧ ch low (j + 1) ≤ m ∧ Wide j m low s ∧ σ = [some (.int (k : Int)), some (.int (n : Int)), some (.ref p), some (.int ((m : Nat) : Int)), some (.int ((j + 1 : Nat) : Int)), some (.int (low : Int)), some (.int (s : Int))],
        ⟨_, rfl, j, s, rfl, hs, by rw [ch_few (Nat.lt_succ_self j)]; exact Nat.zero_le _, .inl ⟨e, hse, hlt⟩, rfl⟩, ?_⟩
      clear hs0 hlt hs hse c
      rintro c σ H'' ⟨rfl, low, s, rfl, hs, hlow, hw, rfl⟩
      have hlm : low ≤ m + j := Nat.le_trans (below_top hlow) (top_most j m)
      refine ⟨_, rfl, c, 0, rfl, rfl, _, rfl, dec2 (fun c1 => ?_) (fun c1 => ?_)⟩
      · refine ⟨fun σ' H3 => H3 = H'' ∧ ∃ low', ch low' (j + 1) ≤ m ∧ Wide j m low' (c / 2) ∧ σ' = [some (.int (k : Int)), some (.int (n : Int)), some (.ref p), some (.int ((m : Nat) : Int)), some (.int ((j + 1 : Nat) : Int)), some (.int (low' : Int)), some (.int ((c / 2 : Nat) : Int))], ?_, ?_⟩
        · rintro σ' H3 ⟨rfl, low', h1, h2, rfl⟩
          exact ⟨c / 2, by omega, rfl, low', c / 2, rfl, by omega, h1, h2, rfl⟩
        · refine ⟨_, rfl, _, rfl, low, c, rfl, rfl, _, rfl, low + c, j + 1, b + 6, rfl, big _ _ hlm hs, by omega, by omega, _, rfl, ch (low + c) (j + 1), m, rfl, rfl, _, rfl, dec2 (fun c2 => ?_) (fun c2 => ?_)⟩
          · exact ⟨_, rfl, _, rfl, low, c, rfl, rfl, _, rfl, c, 2, rfl, rfl, .small (by decide) (by decide), rfl, low + c, c2, wide_half hw c1 (wide_in hw c1), rfl⟩
          · exact ⟨_, rfl, c, 2, rfl, rfl, .small (by decide) (by decide), rfl, low, hlow, wide_half hw c1 (Nat.lt_of_not_le c2), rfl⟩
      have hc0 : c = 0 := by omega
      subst hc0
      have ht : low = top j m := top_one hlow (wide_end hw)
      subst ht
      have htb : top j m < 2 ^ (b + 6) := by
        have := big (top j m) 0 hlm (by omega)
        omega
      refine ⟨_, rfl, .inl ⟨rfl, _, .of hpp⟩, _, rfl, p, _, _, rfl, rfl, hpp, ?_, ?_⟩
      · rw [natsV_length, hli]
        exact small1000 (by omega)
      · have hnew : ∀ b' o, H b' = some o → b' ≠ p := fun b' o e => ne_of_none e hp
        refine ⟨_, rfl, _, rfl, _, rfl, top j m, j + 1, b + 6, rfl, htb, by omega, by omega, m, ch (top j m) (j + 1), rfl, rfl, hlow, ?_⟩
        refine ⟨fun b' o e => ?_, m - ch (top j m) (j + 1), l ++ [top j m], _, _, _, rfl, by omega, ?_, ?_, ?_⟩
        · rw [upd_ne (hnew b' o e)]
          exact sm b' o e
        · rw [show k - (i + 1) = j by omega, List.append_assoc]
          exact hl
        · rw [List.length_append, hli]
          rfl
        · rw [upd_same, natsV_app]
    · rintro σ H' ⟨sm, m, l, y, z, u, rfl, hm, hl, hli, hpp⟩
      rw [Nat.sub_self] at hl
      have hl : l ++ [] = cas k n := hl
      rw [List.append_nil] at hl
      subst hl
      exact ⟨_, rfl, q H' p sm hp hpp⟩
def spMoved : Sp := fun vs H Q _ => ∃ (k n b : Nat) (d : Int), vs = [.int (k : Int), .int (n : Int), .int d] ∧ k ≤ 20 ∧ n < 2 ^ b ∧ b ≤ 7000 ∧ (d = 1 ∨ d = -1) ∧ ∀ H', Same H H' → Q (.int ((mvd d (cas k n) : Nat) : Int)) H'
noncomputable def dv__law_moved {P : Program} {w : World} {K : PySem.W.Frag} {mg : Str → Option Value} {base : Heap} (T : Txt K mg)  {cdv : Value} {A : Around} {outer : List Env} {s : Shared} {H : Hp} {E : XK}
    (hr : Room 2 (A.deeper (envOfC "_law_moved" (defScope s__law_moved) s.heap.objs.size T.f__law_moved cdv))) :
    Σ' t : TS, PSs (cxOf CX0 P w K mg base ["_law_size", "_law_number", "_law_by", "_law_found", "_law_at", "_law_one"] "_law_moved" (defScope s__law_moved) T.f__law_moved cdv A outer s H E).nox (defBody s__law_moved) t :=
  ⟨_, (pss_cons (ps_set (i := 3) sc__law_moved.nd rfl (.inl rfl) pe_int)
      (pss_cons (ps_for PassesOwn.never rfl (pi_enum (by rfl) T.z_enumerate (pa_cons (pe_call (ok__law_set T) (hr.mono (by omega)) (by rfl) T.g__law_set T.F__law_set.kp T.b__law_set .nil pass0 (pa_cons (pv 0) (pa_cons (pv 1) pa_nil))) pa_nil)) (pg_tupK (K := K) rfl (pgs_cons (pg_name (i := 4) sc__law_moved.nd rfl (.inl rfl)) (pgs_cons (pg_name (i := 5) sc__law_moved.nd rfl (.inl rfl)) pgs_nil))) (pss_one (ps_if (pt_cmpR op_nGe (pv 5) (pe_op op_nSub (pv 0) (pv 4)) (nomark _)) (pss_one (ps_set (i := 3) sc__law_moved.nd rfl (.inl rfl) (pe_op op_nAdd (pv 3) (pe_call (ok__law_picks T) (hr.mono (by omega)) (by rfl) T.g__law_picks T.F__law_picks.kp T.b__law_picks .nil pass0 (pa_cons (pv 5) (pa_cons (pe_op op_iAdd (pe_op op_nSub (pv 0) (pv 4)) (pv 2)) pa_nil)))))) pss_nil)))
      (pss_one (ps_ret (pv 3)))))⟩
theorem ok__law_moved (T : Txt K mg) : FnOk P w K mg base CX0 3 T.f__law_moved T.d__law_moved ["_law_size", "_law_number", "_law_by"] spMoved := by
  refine T.F__law_moved.ok sc__law_moved (fun vs H Q E h => ?_) (fun cdv A outer s H vs Q E hr h => ⟨_, (dv__law_moved T hr).2, ?_⟩)
  · obtain ⟨k, n, b, d, rfl, _⟩ := h
    rfl
  · obtain ⟨k, n, b, d, rfl, hk, hn, hb, hd, q⟩ := h
    refine ⟨_, rfl, _, rfl, k, n, b, rfl, hk, hn, hb, fun H1 p s1 np hp => ?_⟩
    refine ⟨p, natsV (cas k n), rfl, .of hp, ?_⟩
    have hlen := cas_length k n
    refine for2_enum (xs := natsV (cas k n)) (fun i σ H' => Same H1 H' ∧ ∃ f y z, σ = [some (.int (k : Int)), some (.int (n : Int)), some (.int d), some (.int ((f : Nat) : Int)), y, z] ∧ f + mvd d ((cas k n).drop i) = mvd d (cas k n)) ⟨Same.refl _, 0, none, none, rfl, by rw [Nat.zero_add]; rfl⟩
      (fun i σ H' h => .of (h.1 _ _ hp)) (fun i σ H' T o nT h => ⟨same_fresh _ _ _ _ nT h.1, h.2⟩) ?_ ?_
    · rintro i x σ H' hx ⟨sm, f, y, z, rfl, hf⟩
      obtain ⟨a, ha, rfl⟩ := get_natsV hx
      have hi := (List.getElem?_eq_some_iff.mp ha).1
      rw [hlen] at hi
      have hab : a < 2 ^ (b + 5) := by
        have := cas_bound (List.mem_of_getElem? ha)
        rw [Nat.pow_add]
        omega
      have hdr := drop_mvd (d := d) ha
      rw [hlen] at hdr
      refine ⟨_, rfl, _, rfl, _, rfl, k, i, rfl, rfl, by omega, a, k - i, rfl, rfl, _, rfl, dec2 (fun c => ?_) (fun c => ?_)⟩
      · rw [if_pos c] at hdr
        obtain ⟨r, hr⟩ : ∃ r : Nat, ((k - i : Nat) : Int) + d = (r : Int) := ⟨(((k - i : Nat) : Int) + d).toNat, by omega⟩
        rw [hr, Int.toNat_natCast] at hdr
        refine ⟨_, rfl, _, rfl, _, rfl, _, rfl, k, i, rfl, rfl, by omega, _, rfl, ((k - i : Nat) : Int), d, rfl, rfl, ?_⟩
        rw [hr]
        refine ⟨a, r, b + 5, rfl, hab, by omega, by omega, f, ch a r, rfl, rfl, sm, _, _, _, rfl, ?_⟩
        omega
      · rw [if_neg c] at hdr
        refine ⟨sm, _, _, _, rfl, ?_⟩
        omega
    · rintro σ H' ⟨sm, f, y, z, rfl, hf⟩
      rw [natsV_length, List.drop_length] at hf
      have hf : f = mvd d (cas k n) := hf
      subst hf
      exact ⟨_, rfl, q H' (s1.trans sm)⟩
end
end Sh

/-! The fewest within, the most that hold. -/
namespace Sh
open PySem PySem.Spec PyProof.Rows L2
section
variable {P : Program} {w : World} {K : PySem.W.Frag} {mg : Str → Option Value} {base : Heap}
/-- a number is no refusal -/
def spCheckNumber : Sp := fun vs H Q _ => ∃ n : Nat, vs = [.int (n : Int)] ∧ Q .non H
noncomputable def dv_check_number {P : Program} {w : World} {K : PySem.W.Frag} {mg : Str → Option Value} {base : Heap} (T : Txt K mg)  {cdv : Value} {A : Around} {outer : List Env} {s : Shared} {H : Hp} {E : XK}
    (hr : Room 1 (A.deeper (envOfC "check_number" (defScope s_check_number) s.heap.objs.size T.f_check_number cdv))) :
    Σ' t : TS, PSs (cxOf CX0 P w K mg base ["many"] "check_number" (defScope s_check_number) T.f_check_number cdv A outer s H E).nox (defBody s_check_number) t :=
  ⟨_, (pss_one (ps_if (pt_not (pt_val (pe_call (ok_is_number T) (hr.mono (by omega)) (by rfl) T.g_is_number T.F_is_number.kp T.b_is_number .nil pass0 (pa_cons (pv 0) pa_nil)))) (pss_one ps_never) pss_nil))⟩
theorem ok_check_number (T : Txt K mg) : FnOk P w K mg base CX0 2 T.f_check_number T.d_check_number ["many"] spCheckNumber := by
  refine T.F_check_number.ok sc_check_number (fun vs H Q E h => ?_) (fun cdv A outer s H vs Q E hr h => ⟨_, (dv_check_number T hr).2, ?_⟩)
  · obtain ⟨n, rfl, _⟩ := h
    rfl
  · obtain ⟨n, rfl, q⟩ := h
    refine ⟨_, rfl, _, rfl, kind_int _ _, ?_⟩
    rw [num_yes]
    exact ⟨true, rfl, iteF q⟩
def spFirstSets : Sp := fun vs H Q _ => ∃ (k n b : Nat) (d : Int), vs = [.int (k : Int), .int (n : Int), .int d] ∧ 1 ≤ k ∧ k ≤ 20 ∧ n < 2 ^ b ∧ b ≤ 6900 ∧ (d = 1 ∨ d = -1) ∧ ∀ H', Same H H' → Q (.int ((mvd d (cas k n) : Nat) : Int)) H'
noncomputable def dv_first_sets_at {P : Program} {w : World} {K : PySem.W.Frag} {mg : Str → Option Value} {base : Heap} (T : Txt K mg)  {cdv : Value} {A : Around} {outer : List Env} {s : Shared} {H : Hp} {E : XK}
    (hr : Room 32 (A.deeper (envOfC "first_sets_at" (defScope s_first_sets_at) s.heap.objs.size T.f_first_sets_at cdv))) :
    Σ' t : TS, PSs (cxOf CX0 P w K mg base ["size", "many", "by", "total", "place", "each", "left"] "first_sets_at" (defScope s_first_sets_at) T.f_first_sets_at cdv A outer s H E).nox (defBody s_first_sets_at) t :=
  ⟨_, (pss_cons (ps_set (i := 3) sc_first_sets_at.nd rfl (.inl rfl) pe_int)
      (pss_cons (ps_for PassesOwn.never rfl (pi_enum (by rfl) T.z_enumerate (pa_cons (pe_call (ok_numbers_of_set T) (hr.mono (by omega)) (by rfl) T.g_numbers_of_set T.F_numbers_of_set.kp T.b_numbers_of_set .nil pass0 (pa_cons (pv 0) (pa_cons (pv 1) pa_nil))) pa_nil)) (pg_tupK (K := K) rfl (pgs_cons (pg_name (i := 4) sc_first_sets_at.nd rfl (.inl rfl)) (pgs_cons (pg_name (i := 5) sc_first_sets_at.nd rfl (.inl rfl)) pgs_nil))) (pss_cons (ps_set (i := 6) sc_first_sets_at.nd rfl (.inl rfl) (pe_op op_nSub (pv 0) (pv 4)))
      (pss_one (ps_if (pt_cmpR op_nGe (pv 5) (pv 6) (nomark _)) (pss_one (ps_set (i := 3) sc_first_sets_at.nd rfl (.inl rfl) (pe_op op_nAdd (pv 3) (pe_callBfun cr_comb (by rfl) T.m_comb (pa_cons (pv 5) (pa_cons (pe_op op_iAdd (pv 6) (pv 2)) pa_nil)))))) pss_nil))))
      (pss_one (ps_ret (pv 3)))))⟩
theorem ok_first_sets_at (T : Txt K mg) : FnOk P w K mg base CX0 33 T.f_first_sets_at T.d_first_sets_at ["size", "many", "by"] spFirstSets := by
  refine T.F_first_sets_at.ok sc_first_sets_at (fun vs H Q E h => ?_) (fun cdv A outer s H vs Q E hr h => ⟨_, (dv_first_sets_at T hr).2, ?_⟩)
  · obtain ⟨k, n, b, d, rfl, _⟩ := h
    rfl
  · obtain ⟨k, n, b, d, rfl, hk1, hk, hn, hb, hd, q⟩ := h
    refine ⟨_, rfl, _, rfl, k, n, b, rfl, hk, hn, by omega, fun H1 p s1 np hp => ?_⟩
    refine ⟨p, natsV (cas k n), rfl, .of hp, ?_⟩
    have hlen := cas_length k n
    refine for2_enum (xs := natsV (cas k n)) (fun i σ H' => Same H1 H' ∧ ∃ f y z u, σ = [some (.int (k : Int)), some (.int (n : Int)), some (.int d), some (.int ((f : Nat) : Int)), y, z, u] ∧ f + mvd d ((cas k n).drop i) = mvd d (cas k n)) ⟨Same.refl _, 0, none, none, none, rfl, by rw [Nat.zero_add]; rfl⟩
      (fun i σ H' h => .of (h.1 _ _ hp)) (fun i σ H' T o nT h => ⟨same_fresh _ _ _ _ nT h.1, h.2⟩) ?_ ?_
    · rintro i x σ H' hx ⟨sm, f, y, z, u, rfl, hf⟩
      obtain ⟨a, ha, rfl⟩ := get_natsV hx
      have hi := (List.getElem?_eq_some_iff.mp ha).1
      rw [hlen] at hi
      have hab : a < 2 ^ (b + 5) := by
        have := cas_bound (List.mem_of_getElem? ha)
        rw [Nat.pow_add]
        omega
      have hdr := drop_mvd (d := d) ha
      rw [hlen] at hdr
      refine ⟨_, rfl, _, rfl, k, i, rfl, rfl, by omega, _, rfl, _, rfl, a, k - i, rfl, rfl, _, rfl, dec2 (fun c => ?_) (fun c => ?_)⟩
      · rw [if_pos c] at hdr
        obtain ⟨r, hr⟩ : ∃ r : Nat, ((k - i : Nat) : Int) + d = (r : Int) := ⟨(((k - i : Nat) : Int) + d).toNat, by omega⟩
        rw [hr, Int.toNat_natCast] at hdr
        refine ⟨_, rfl, _, rfl, _, rfl, _, rfl, ((k - i : Nat) : Int), d, rfl, rfl, ?_⟩
        rw [hr]
        have hr21 : r ≤ 21 := by omega
        have hbr : (b + 5) * r ≤ (b + 5) * 21 := Nat.mul_le_mul_left _ hr21
        refine ⟨a, r, b + 5, rfl, hab, by omega, by omega, f, ch a r, rfl, rfl, sm, _, _, _, _, rfl, ?_⟩
        omega
      · rw [if_neg c] at hdr
        refine ⟨sm, _, _, _, _, rfl, ?_⟩
        omega
    · rintro σ H' ⟨sm, f, y, z, u, rfl, hf⟩
      rw [natsV_length, List.drop_length] at hf
      have hf : f = mvd d (cas k n) := hf
      subst hf
      exact ⟨_, rfl, q H' (s1.trans sm)⟩
def spUnder : Sp := fun vs H Q _ => ∃ k n b : Nat, vs = [.int (k : Int), .int (n : Int)] ∧ 1 ≤ k ∧ k ≤ 20 ∧ n < 2 ^ b ∧ b ≤ 6000 ∧ ∀ H', Same H H' → Q (.int ((underN k n : Nat) : Int)) H'
def spOver : Sp := fun vs H Q _ => ∃ k n b : Nat, vs = [.int (k : Int), .int (n : Int)] ∧ 1 ≤ k ∧ k ≤ 19 ∧ n < 2 ^ b ∧ b ≤ 6000 ∧ ∀ H', Same H H' → Q (.int ((overN k n : Nat) : Int)) H'
noncomputable def dv_over {P : Program} {w : World} {K : PySem.W.Frag} {mg : Str → Option Value} {base : Heap} (T : Txt K mg)  {cdv : Value} {A : Around} {outer : List Env} {s : Shared} {H : Hp} {E : XK}
    (hr : Room 33 (A.deeper (envOfC "over" (defScope s_over) s.heap.objs.size T.f_over cdv))) :
    Σ' t : TS, PSs (cxOf CX0 P w K mg base ["size", "many"] "over" (defScope s_over) T.f_over cdv A outer s H E).nox (defBody s_over) t :=
  ⟨_, (pss_cons (ps_if (pt_not (pt_val (pe_call (ok_is_size T) (hr.mono (by omega)) (by rfl) T.g_is_size T.F_is_size.kp T.b_is_size .nil pass0 (pa_cons (pv 0) (pa_cons pe_int (pa_cons (pe_op op_iSub (pe_glob (v := .int 20) rfl T.c_GREATEST_SIZE.2 ⟨_, rfl⟩) pe_int) pa_nil)))))) (pss_one ps_never) pss_nil)
      (pss_cons (ps_expr (pe_call (ok_check_number T) (hr.mono (by omega)) (by rfl) T.g_check_number T.F_check_number.kp T.b_check_number .nil pass0 (pa_cons (pv 1) pa_nil)))
      (pss_one (ps_ret (pe_call (ok_first_sets_at T) (hr.mono (by omega)) (by rfl) T.g_first_sets_at T.F_first_sets_at.kp T.b_first_sets_at .nil pass0 (pa_cons (pv 0) (pa_cons (pv 1) (pa_cons pe_int pa_nil))))))))⟩
theorem ok_over (T : Txt K mg) : FnOk P w K mg base CX0 34 T.f_over T.d_over ["size", "many"] spOver := by
  refine T.F_over.ok sc_over (fun vs H Q E h => ?_) (fun cdv A outer s H vs Q E hr h => ⟨_, (dv_over T hr).2, ?_⟩)
  · obtain ⟨k, n, b, rfl, _⟩ := h
    rfl
  · obtain ⟨k, n, b, rfl, hk1, hk, hn, hb, q⟩ := h
    refine ⟨_, rfl, 20, 1, rfl, rfl, _, 1, 19, rfl, kind_int _ _, ?_⟩
    rw [size_yes (by omega) (by omega)]
    refine ⟨true, rfl, iteF ?_⟩
    refine ⟨_, rfl, n, rfl, ?_⟩
    refine ⟨_, rfl, _, rfl, k, n, b, 1, rfl, hk1, by omega, hn, by omega, .inl rfl, fun H' sm => ?_⟩
    rw [mvd_up]
    exact q H' sm
end
end Sh

/-! The least size of which there are too many. -/
namespace Sh
open PySem PySem.Spec PyProof.Rows L2
/-- of counts from size k on: the least size of which there are too many, and the most -/
def leastFrom (k : Nat) : List Nat → Option (Nat × Nat)
  | a :: b :: l => if overN k a < b then some (k + 1, overN k a) else leastFrom (k + 1) (b :: l)
  | [_] => none
  | [] => none
def leastN (r : List Nat) : Option (Nat × Nat) := leastFrom 1 r
theorem least_step {k i a b : Nat} {r : List Nat} (h1 : r[i]? = some a) (h2 : r[i + 1]? = some b) : leastFrom k (r.drop i) = if overN k a < b then some (k + 1, overN k a) else leastFrom (k + 1) (r.drop (i + 1)) := by
  obtain ⟨hi, rfl⟩ := List.getElem?_eq_some_iff.mp h1
  obtain ⟨hj, rfl⟩ := List.getElem?_eq_some_iff.mp h2
  rw [List.drop_eq_getElem_cons hi, List.drop_eq_getElem_cons hj]
  rfl
theorem least_end {k i : Nat} {r : List Nat} (h : r.length ≤ i + 1) : leastFrom k (r.drop i) = none := by
  have hl : (r.drop i).length ≤ 1 := by
    rw [List.length_drop]
    omega
  match r.drop i, hl with
  | [], _ => rfl
  | [_], _ => rfl
/-- the same, of ints -/
def exN (r : List Nat) : Option (Int × Int) := (leastN r).map fun p => ((p.1 : Int), (p.2 : Int))
theorem exN_none {r : List Nat} : exN r = none ↔ leastN r = none := Option.map_eq_none_iff
theorem exN_some {r : List Nat} {s l : Nat} (h : leastN r = some (s, l)) : exN r = some ((s : Int), (l : Int)) := by
  unfold exN
  rw [h]
  rfl
theorem exN_nat {r : List Nat} {i j : Int} (h : exN r = some (i, j)) : 0 ≤ i ∧ 0 ≤ j := by
  unfold exN at h
  obtain ⟨p, _, e⟩ := Option.map_eq_some_iff.mp h
  have e1 := congrArg Prod.fst e
  have e2 := congrArg Prod.snd e
  simp only at e1 e2
  omega
/-- what None, or a new pair, is -/
inductive IsT (H : Hp) : V → Option (Int × Int) → Prop
  | nil : IsT H .non none
  | two {a : Addr} {i j : Int} (h : H a = some (.tup [.int i, .int j])) : IsT H (.ref a) (some (i, j))
theorem IsT.same {H H' : Hp} {v : V} {o : Option (Int × Int)} (h : IsT H v o) (s : Same H H') : IsT H' v o := by
  cases h with
  | nil => exact .nil
  | two h => exact .two (s _ _ h)
theorem IsT.dec {H : Hp} {v : V} {o : Option (Int × Int)} (h : IsT H v o) : decide (v = V.non) = decide (o = none) := by
  cases h with
  | nil => rfl
  | two h => rfl
theorem list_yes {l : List Nat} (h : l.length ≤ 20) : listV (natsV l) = true := by
  unfold listV
  rw [natsV_length, decide_eq_true h, Bool.true_and, List.all_eq_true]
  intro v hv
  unfold natsV at hv
  obtain ⟨n, _, rfl⟩ := List.mem_map.mp hv
  exact num_yes n
section
variable {P : Program} {w : World} {K : PySem.W.Frag} {mg : Str → Option Value} {base : Heap}
/-- a row, of counts below 2^b -/
structure Rw (H : Hp) (a : Addr) (r : List Nat) (b : Nat) : Prop where
  at_ : H a = some (.lst (natsV r))
  few : r.length ≤ 20
  small : ∀ x ∈ r, x < 2 ^ b
  bits : b ≤ 6000
theorem Rw.same {H H' : Hp} {a : Addr} {r : List Nat} {b : Nat} (h : Rw H a r b) (s : Same H H') : Rw H' a r b := ⟨s _ _ h.at_, h.few, h.small, h.bits⟩
def spLeast : Sp := fun vs H Q _ => ∃ (a : Addr) (r : List Nat) (b : Nat), vs = [.ref a] ∧ H a = some (.lst (natsV r)) ∧ r.length ≤ 20 ∧ (∀ x ∈ r, x < 2 ^ b) ∧ b ≤ 6000 ∧
  ∀ v H', Same H H' → IsT H' v (exN r) → Q v H'
noncomputable def dv_first_excess {P : Program} {w : World} {K : PySem.W.Frag} {mg : Str → Option Value} {base : Heap} (T : Txt K mg)  {cdv : Value} {A : Around} {outer : List Env} {s : Shared} {H : Hp} {E : XK}
    (hr : Room 34 (A.deeper (envOfC "first_excess" (defScope s_first_excess) s.heap.objs.size T.f_first_excess cdv))) :
    Σ' t : TS, PSs (cxOf CX0 P w K mg base ["row", "size", "can_be"] "first_excess" (defScope s_first_excess) T.f_first_excess cdv A outer s H E).nox (defBody s_first_excess) t :=
  ⟨_, (pss_cons (ps_for PassesOwn.never rfl (pi_range2 (by rfl) T.z_range (pa_cons pe_int (pa_cons (pe_callB (call_lenK (K := K)) (by rfl) T.z_len PySem.boot_len (pa_cons (pv 0) pa_nil)) pa_nil))) (pg_name (i := 1) sc_first_excess.nd rfl (.inl rfl)) (pss_cons (ps_set (i := 2) sc_first_excess.nd rfl (.inl rfl) (pe_call (ok_over T) (hr.mono (by omega)) (by rfl) T.g_over T.F_over.kp T.b_over .nil pass0 (pa_cons (pv 1) (pa_cons (pe_ix (ix_listK (K := K)) (pv 0) (pe_op op_nSub (pv 1) pe_int) (fun _ _ => rfl)) pa_nil))))
      (pss_one (ps_if (pt_cmpR op_nGt (pe_ix (ix_listK (K := K)) (pv 0) (pv 1) (fun _ _ => rfl)) (pv 2) (nomark _)) (pss_one (ps_ret (pe_tup (pa_cons (pe_op op_nAdd (pv 1) pe_int) (pa_cons (pv 2) pa_nil))))) pss_nil))))
      (pss_one (ps_ret pe_non)))⟩
theorem ok_first_excess (T : Txt K mg) : FnOk P w K mg base CX0 35 T.f_first_excess T.d_first_excess ["row"] spLeast := by
  refine T.F_first_excess.ok sc_first_excess (fun vs H Q E h => ?_) (fun cdv A outer s H vs Q E hr h => ⟨_, (dv_first_excess T hr).2, ?_⟩)
  · obtain ⟨a, r, b, rfl, _⟩ := h
    rfl
  · obtain ⟨a, r, b, rfl, ha, h20, hx, hb, q⟩ := h
    refine ⟨_, rfl, a, natsV r, rfl, .inl (.of ha), ?_⟩
    rw [natsV_length]
    refine ⟨1, (r.length : Int), rfl, ⟨by omega, by omega, by omega, by omega⟩, ?_⟩
    refine for_range (fun i σ H' => Same H H' ∧ ∃ y z, σ = [some (.ref a), y, z] ∧ leastN r = leastFrom (1 + i) (r.drop i)) ⟨Same.refl _, none, none, rfl, rfl⟩ ?_ ?_
    · rintro i σ H' hi ⟨sm, y, z, rfl, hl⟩
      have e1 : (1 : Int) + ((i : Nat) : Int) = ((1 + i : Nat) : Int) := rfl
      rw [e1]
      have hi1 : i < r.length := by omega
      have hi2 : i + 1 < r.length := by omega
      have g1 : r[i]? = some r[i] := List.getElem?_eq_getElem hi1
      have g2 : r[i + 1]? = some r[i + 1] := List.getElem?_eq_getElem hi2
      rw [least_step g1 g2] at hl
      have hb1 := hx _ (List.getElem_mem hi1)
      generalize r[i] = x at hl g1 hb1
      generalize r[i + 1] = x2 at hl g2
      have haH := sm _ _ ha
      refine ⟨_, rfl, _, rfl, _, rfl, 1 + i, 1, rfl, rfl, by omega, a, natsV r, ((1 + i - 1 : Nat) : Int), _, rfl, rfl, .of haH, atI_nat (natsV_get (by rw [Nat.add_sub_cancel_left]; exact g1)), 1 + i, x, b, rfl, by omega, by omega, hb1, hb, fun H1 s1 => ?_⟩
      have ha1 := s1 _ _ haH
      refine ⟨_, rfl, _, rfl, a, natsV r, ((1 + i : Nat) : Int), _, rfl, rfl, .of ha1, atI_nat (natsV_get (by rw [Nat.add_comm]; exact g2)), _, rfl, x2, overN (1 + i) x, rfl, rfl, _, rfl, dec2 (fun c => ?_) (fun c => ?_)⟩
      · rw [if_pos c] at hl
        refine ⟨_, rfl, 1 + i, 1, rfl, rfl, _, rfl, (by show 2 ≤ sizeLine; decide), fun t nt => ?_⟩
        have s2 := sm.trans s1
        exact q _ _ (s2.trans (same_new nt)) (exN_some hl ▸ .two upd_same)
      · rw [if_neg c] at hl
        exact ⟨sm.trans s1, _, _, rfl, hl⟩
    · rintro σ H' ⟨sm, y, z, rfl, hl⟩
      rw [least_end (by omega)] at hl
      exact q _ H' sm (exN_none.mpr hl ▸ .nil)
end
end Sh

/-! The answers: Can, Barred, what they show. -/
namespace Sh
open PySem PySem.Spec PyProof.Rows L2
theorem IsT.p {K : PySem.W.Frag} {H : Hp} {v : V} {o : Option (Int × Int)} (h : IsT H v o) : IsP K H v o := by
  cases h with
  | nil => exact .none
  | two h => exact .some (.of h)
theorem ms_ : ¬ (("most" : Str) = "size") := by decide +kernel
theorem sm_ : ¬ (("size" : Str) = "most") := by decide +kernel
/-- the fields of a Barred -/
def bf (i j : Int) : List (Str × V) := putF "most" (.int j) (putF "size" (.int i) [])
theorem bf_size (i j : Int) : (bf i j).lookup ("size" : Str) = some (.int i) := by
  unfold bf
  rw [lookup_putF, if_neg sm_, lookup_putF, if_pos rfl]
theorem bf_most (i j : Int) : (bf i j).lookup ("most" : Str) = some (.int j) := by
  unfold bf
  rw [lookup_putF, if_pos rfl]
theorem bf_no (i j : Int) {m : Str} (h1 : ¬ m = "most") (h2 : ¬ m = "size") : (bf i j).lookup m = none := by
  unfold bf
  rw [lookup_putF, if_neg h1, lookup_putF, if_neg h2]
  rfl
theorem bf_len (i j : Int) : (bf i j).length ≤ 2 := Nat.le_trans (length_putF _ _ _) (Nat.succ_le_succ (length_putF _ _ _))
/-- tuples of two ints -/
def Tps (H : Hp) (qs : List (Addr × Int × Int)) : Prop := ∀ q ∈ qs, H q.1 = some (.tup [.int q.2.1, .int q.2.2])
abbrev refsT (qs : List (Addr × Int × Int)) : List V := qs.map fun q => V.ref q.1
theorem Tps.same {H H' : Hp} {qs : List (Addr × Int × Int)} (h : Tps H qs) (s : Same H H') : Tps H' qs := fun q hq => s _ _ (h q hq)
theorem Tps.add {H : Hp} {qs : List (Addr × Int × Int)} {t : Addr} {i j : Int} (h : Tps H qs) (n : H t = none) : Tps (upd H t (.tup [.int i, .int j])) (qs ++ [(t, i, j)]) := fun q hq => by
  rcases List.mem_append.mp hq with hq | hq
  · exact same_new n _ _ (h q hq)
  · rw [List.mem_singleton.mp hq]
    exact upd_same
theorem Tps.put {H H' : Hp} {qs : List (Addr × Int × Int)} {t : Addr} {i j : Int} (h : Tps H qs) (s : Same H H') (g : H' t = some (.tup [.int i, .int j])) : Tps H' (qs ++ [(t, i, j)]) := fun q hq => by
  rcases List.mem_append.mp hq with hq | hq
  · exact s _ _ (h q hq)
  · rw [List.mem_singleton.mp hq]
    exact g
theorem Tps.app {H : Hp} {qs rs : List (Addr × Int × Int)} (h : Tps H qs) (g : Tps H rs) : Tps H (qs ++ rs) := fun q hq => (List.mem_append.mp hq).elim (h q) (g q)
theorem rw_take {r : List Nat} {H : Hp} {c : Addr} {n b : Nat} (h : H c = some (.lst (natsV (r.take n)))) (h20 : r.length ≤ 20) (hs : ∀ x ∈ r, x < 2 ^ b) (hb : b ≤ 6000) : Rw H c (r.take n) b :=
  ⟨h, by rw [List.length_take]; omega, fun x hx => hs x (List.mem_of_mem_take hx), hb⟩
theorem rw_lit {H : Hp} {e : Addr} {r : List Nat} (h : H e = some (.lst (natsV r))) (h20 : r.length ≤ 20) (hs : ∀ x ∈ r, x < 1024) : Rw H e r 10 := ⟨h, h20, hs, by decide⟩
section
variable {P : Program} {w : World} {K : PySem.W.Frag} {mg : Str → Option Value} {base : Heap}
/-- an answer as it stands: a Can, or a Barred with two ints -/
def Ans (T : Txt K mg) (H : Hp) (x : Addr) : Option (Int × Int) → Prop
  | none => ∃ dx, H x = some (.ins T.k_Can dx [])
  | some (i, j) => ∃ dx, H x = some (.ins T.k_Barred dx (bf i j))
theorem Ans.same {T : Txt K mg} {H H' : Hp} {x : Addr} {o : Option (Int × Int)} (h : Ans T H x o) (s : Same H H') : Ans T H' x o := by
  cases o with
  | none =>
    obtain ⟨dx, h⟩ := h
    exact ⟨dx, s _ _ h⟩
  | some p =>
    obtain ⟨i, j⟩ := p
    obtain ⟨dx, h⟩ := h
    exact ⟨dx, s _ _ h⟩
def spBarredInit (T : Txt K mg) : Sp := fun vs H Q _ => ∃ (p dx : Addr) (i j : Int), vs = [.ref p, .int i, .int j] ∧ H p = some (.ins T.k_Barred dx []) ∧
  ∀ H' : Hp, (∀ b, b ≠ p → H' b = H b) → H' p = some (.ins T.k_Barred dx (bf i j)) → Q .non H'
noncomputable def dv_Barred___init__ {P : Program} {w : World} {K : PySem.W.Frag} {mg : Str → Option Value} {base : Heap} (T : Txt K mg)  {cdv : Value} {A : Around} {outer : List Env} {s : Shared} {H : Hp} {E : XK}
    (hr : Room 0 (A.deeper (envOfC "Barred.__init__" (defScope s_Barred___init__) s.heap.objs.size T.f_Barred___init__ cdv))) :
    Σ' t : TS, PSs (cxOf CX0 P w K mg base ["self", "size", "most"] "Barred.__init__" (defScope s_Barred___init__) T.f_Barred___init__ cdv A outer s H E).nox (defBody s_Barred___init__) t :=
  ⟨_, (pss_cons (ps_fld (pv 0) (pv 1) rfl)
      (pss_one (ps_fld (pv 0) (pv 2) rfl)))⟩
theorem ok_Barred___init__ (T : Txt K mg) : FnOk P w K mg base CX0 1 T.f_Barred___init__ T.d_Barred___init__ ["self", "size", "most"] (spBarredInit T) := by
  refine T.F_Barred___init__.ok sc_Barred___init__ (fun vs H Q E h => ?_) (fun cdv A outer s H vs Q E hr h => ⟨_, (dv_Barred___init__ T hr).2, ?_⟩)
  · obtain ⟨p, dx, i, j, rfl, _⟩ := h
    rfl
  · obtain ⟨p, dx, i, j, rfl, hp, q⟩ := h
    refine ⟨_, rfl, _, rfl, p, T.k_Barred, dx, [], rfl, hp, T.C_Barred, T.n_Barred_size, (by show 0 < 1000; decide), ?_⟩
    refine ⟨_, rfl, _, rfl, p, T.k_Barred, dx, _, rfl, upd_same, T.C_Barred, T.n_Barred_most, (by show 1 < 1000; decide), ?_⟩
    exact q _ (fun b hb => by rw [upd_ne hb, upd_ne hb]) upd_same
/-- what a new Barred leaves -/
theorem made_barred {T : Txt K mg} {H H' : Hp} {x dx : Addr} {i j : Int} (nx : H x = none) (nd : H dx = none) (ne : dx ≠ x) (h1 : ∀ b, b ≠ x → H' b = (upd (upd H dx (.own x)) x (.ins T.k_Barred dx [])) b)
    (h2 : H' x = some (.ins T.k_Barred dx (bf i j))) : Same H H' ∧ Ans T H' x (some (i, j)) :=
  ⟨fun b o e => by
    have hb : b ≠ x := ne_of_none e nx
    rw [h1 b hb, upd_ne hb, upd_ne (ne_of_none e nd)]
    exact e, dx, h2⟩
theorem made_can {T : Txt K mg} {H : Hp} {x dx : Addr} (nx : H x = none) (nd : H dx = none) : Same H (upd (upd H dx (.own x)) x (.ins T.k_Can dx [])) ∧ Ans T (upd (upd H dx (.own x)) x (.ins T.k_Can dx [])) x none :=
  ⟨fun b o e => by
    rw [upd_ne (ne_of_none e nx), upd_ne (ne_of_none e nd)]
    exact e, dx, upd_same⟩
/-- shows, of an answer o: whether the row's is the same -/
def spShows (T : Txt K mg) (yes : Option (Int × Int) → Prop) : Sp := fun vs H Q _ => ∃ (x a : Addr) (o : Option (Int × Int)) (r : List Nat) (b : Nat), vs = [.ref x, .ref a] ∧ yes o ∧ Ans T H x o ∧ Rw H a r b ∧
  ∀ H', Same H H' → Q (.bl (decide (exN r = o))) H'
abbrev isNone (o : Option (Int × Int)) : Prop := o = none
abbrev isPair (o : Option (Int × Int)) : Prop := ∃ i j, o = some (i, j)
noncomputable def dv_Can_shows {P : Program} {w : World} {K : PySem.W.Frag} {mg : Str → Option Value} {base : Heap} (T : Txt K mg)  {cdv : Value} {A : Around} {outer : List Env} {s : Shared} {H : Hp} {E : XK}
    (hr : Room 35 (A.deeper (envOfC "Can.shows" (defScope s_Can_shows) s.heap.objs.size T.f_Can_shows cdv))) :
    Σ' t : TS, PSs (cxOf CX0 P w K mg base ["self", "row"] "Can.shows" (defScope s_Can_shows) T.f_Can_shows cdv A outer s H E).nox (defBody s_Can_shows) t :=
  ⟨_, (pss_one (ps_ret (pe_and (pe_call (ok_is_row T) (hr.mono (by omega)) (by rfl) T.g_is_row T.F_is_row.kp T.b_is_row .nil pass0 (pa_cons (pv 1) pa_nil)) (pe_one (pe_cmpR op_isN (pe_call (ok_first_excess T) (hr.mono (by omega)) (by rfl) T.g_first_excess T.F_first_excess.kp T.b_first_excess .nil pass0 (pa_cons (pv 1) pa_nil)) pe_non (nomark _))))))⟩
theorem ok_Can_shows (T : Txt K mg) : FnOk P w K mg base CX0 36 T.f_Can_shows T.d_Can_shows ["self", "row"] (spShows T isNone) := by
  refine T.F_Can_shows.ok sc_Can_shows (fun vs H Q E h => ?_) (fun cdv A outer s H vs Q E hr h => ⟨_, (dv_Can_shows T hr).2, ?_⟩)
  · obtain ⟨x, a, o, r, b, rfl, _⟩ := h
    rfl
  · obtain ⟨x, a, o, r, b, rfl, rfl, hx, ha, q⟩ := h
    refine ⟨_, rfl, _, rfl, .inr ⟨a, natsV r, rfl, ha.at_, fun _ => natsV_kind, fun H1 s1 => ?_⟩⟩
    rw [list_yes ha.few]
    refine ⟨_, rfl, iteT ?_⟩
    refine ⟨_, rfl, a, r, b, rfl, s1 _ _ ha.at_, ha.few, ha.small, ha.bits, fun v H2 s2 hv => ⟨rfl, ?_⟩⟩
    rw [hv.dec]
    exact q H2 (s1.trans s2)
noncomputable def dv_Barred_shows {P : Program} {w : World} {K : PySem.W.Frag} {mg : Str → Option Value} {base : Heap} (T : Txt K mg)  {cdv : Value} {A : Around} {outer : List Env} {s : Shared} {H : Hp} {E : XK}
    (hr : Room 35 (A.deeper (envOfC "Barred.shows" (defScope s_Barred_shows) s.heap.objs.size T.f_Barred_shows cdv))) :
    Σ' t : TS, PSs (cxOf CX0 P w K mg base ["self", "row", "fields", "each"] "Barred.shows" (defScope s_Barred_shows) T.f_Barred_shows cdv A outer s H E).nox (defBody s_Barred_shows) t :=
  ⟨_, (pss_cons (ps_set (i := 2) sc_Barred_shows.nd rfl (.inl rfl) (pe_tup (pa_cons (pe_fldK (K := K) (pv 0) (by rfl)) (pa_cons (pe_fldK (K := K) (pv 0) (by rfl)) pa_nil))))
      (pss_cons (ps_if (pt_not (pt_val (pe_callB (cr_allK (K := K) rfl) (by rfl) T.z_all (by decide +kernel) (pa_cons (pe_lc (g := gName 3) (own := [("each", 3)]) rfl sc_Barred_shows.nd (pi_tup (pv 2)) (blkOk_by (own := [("each", 3)]) (N := ["self", "row", "fields", "each"]) (sc := defScope s_Barred_shows) (by decide +kernel)) (fun _ _ _ _ _ => by exact (pg_name (i := 3) sc_Barred_shows.nd rfl (.inl rfl))) (fun _ _ _ _ _ => by exact pts_nil) (fun _ _ _ _ _ => by exact (pe_call (ok_is_number T) (hr.mono (by omega)) (by rfl) T.g_is_number T.F_is_number.kp T.b_is_number .nil pass0 (pa_cons (pv 3) pa_nil)))) pa_nil)))) (pss_one (ps_ret pe_bl)) pss_nil)
      (pss_one (ps_ret (pe_and (pe_call (ok_is_row T) (hr.mono (by omega)) (by rfl) T.g_is_row T.F_is_row.kp T.b_is_row .nil pass0 (pa_cons (pv 1) pa_nil)) (pe_one (pe_cmpR (op_eqDK (K := K) hr.units) (pe_call (ok_first_excess T) (hr.mono (by omega)) (by rfl) T.g_first_excess T.F_first_excess.kp T.b_first_excess .nil pass0 (pa_cons (pv 1) pa_nil)) (pv 2) (nomark _))))))))⟩
theorem ok_Barred_shows (T : Txt K mg) : FnOk P w K mg base CX0 36 T.f_Barred_shows T.d_Barred_shows ["self", "row"] (spShows T isPair) := by
  refine T.F_Barred_shows.ok sc_Barred_shows (fun vs H Q E h => ?_) (fun cdv A outer s H vs Q E hr h => ⟨_, (dv_Barred_shows T hr).2, ?_⟩)
  · obtain ⟨x, a, o, r, b, rfl, _⟩ := h
    rfl
  · obtain ⟨x, a, o, r, b, rfl, ⟨i, j, rfl⟩, ⟨dx, hx⟩, ha, q⟩ := h
    refine ⟨_, rfl, x, T.k_Barred, dx, _, _, rfl, hx, T.C_Barred, T.n_Barred_size, bf_size _ _, _, rfl, x, T.k_Barred, dx, _, _, rfl, hx, T.C_Barred, T.n_Barred_most, bf_most _ _, (by show 2 ≤ sizeLine; decide), fun t nt => ?_⟩
    have s1 : Same H (upd H t (.tup [.int i, .int j])) := same_new nt
    have hT : ∀ {H2}, Same (upd H t (.tup [.int i, .int j])) H2 → SqT K H2 t [.int i, .int j] := fun s2 => .of (s2 _ _ upd_same)
    refine ⟨_, rfl, t, rfl, ⟨_, hT (Same.refl _)⟩, fun D nD => ?_⟩
    refine lc1_tup (xs := [.int i, .int j]) (fun k acc H' => Same (upd H t (.tup [.int i, .int j])) H' ∧ acc = (([.int i, .int j] : List V).take k).map fun v => .bl (numV v)) ⟨same_new nD, rfl⟩
      (fun k acc H' p => hT p.1) (fun _ => rfl) ?_ ?_
    · rintro k y acc H' hy hl hD ⟨sm, he⟩
      have hk := (List.getElem?_eq_some_iff.mp hy).1
      have hk2 : k < 2 := hk
      refine ⟨_, rfl, y, rfl, ?_, LcN.put hD hl (small1000 (by omega)) ⟨same_free sm nD, ?_⟩⟩
      · have hm := List.mem_of_getElem? hy
        simp only [List.mem_cons, List.not_mem_nil, or_false] at hm
        rcases hm with rfl | rfl <;> exact kind_int _ _
      · rw [List.take_add_one, hy, List.map_append, ← he]
        rfl
    · rintro acc H' hl hD ⟨sm, he⟩
      have he : acc = [.bl (numV (.int i)), .bl (numV (.int j))] := he
      subst he
      refine ⟨D, [numV (.int i), numV (.int j)], rfl, .of hD, _, rfl, ?_⟩
      by_cases c : 0 ≤ i ∧ 0 ≤ j
      · have e1 : numV (.int i) = true := decide_eq_true c.1
        have e2 : numV (.int j) = true := decide_eq_true c.2
        rw [e1, e2]
        refine iteF ?_
        have s2 := s1.trans sm
        refine ⟨_, rfl, _, rfl, .inr ⟨a, natsV r, rfl, s2 _ _ ha.at_, fun _ => natsV_kind, fun H3 s3 => ?_⟩⟩
        rw [list_yes ha.few]
        refine ⟨_, rfl, iteT ?_⟩
        have s4 := s2.trans s3
        exact ⟨_, rfl, a, r, b, rfl, s4 _ _ ha.at_, ha.few, ha.small, ha.bits, fun v H5 s5 hv => ⟨_, rfl, eqP hv.p (.some (hT (sm.trans (s3.trans s5)))) (q H5 (s4.trans s5))⟩⟩
      · have e1 : ¬ exN r = some (i, j) := fun z => c (exN_nat z)
        have q2 := q H' (s1.trans sm)
        rw [decide_eq_false e1] at q2
        have e2 : (numV (.int i) && (numV (.int j) && true)) = false := by
          rw [Bool.eq_false_iff]
          intro z
          rw [Bool.and_eq_true, Bool.and_eq_true] at z
          exact c ⟨of_decide_eq_true z.1, of_decide_eq_true z.2.1⟩
        show if (!([numV (.int i), numV (.int j)].all id)) = true then _ else _
        have e3 : [numV (.int i), numV (.int j)].all id = false := e2
        rw [e3]
        exact iteT q2
end
end Sh

/-! Rows: what is told, what a family has, how many of the next size. -/
namespace Sh
open PySem PySem.Spec PyProof.Rows L2
/-- whether the family of the row has the set -/
def hasN (r l : List Nat) : Bool := l.isEmpty || match r[l.length - 1]? with
  | some n => decide (num l < n)
  | none => false
section
variable {P : Program} {w : World} {K : PySem.W.Frag} {mg : Str → Option Value} {base : Heap}
def spCheckRow : Sp := fun vs H Q _ => ∃ (a : Addr) (r : List Nat) (b : Nat), vs = [.ref a] ∧ Rw H a r b ∧ ∀ H', Same H H' → Q .non H'
noncomputable def dv_check_row {P : Program} {w : World} {K : PySem.W.Frag} {mg : Str → Option Value} {base : Heap} (T : Txt K mg)  {cdv : Value} {A : Around} {outer : List Env} {s : Shared} {H : Hp} {E : XK}
    (hr : Room 3 (A.deeper (envOfC "check_row" (defScope s_check_row) s.heap.objs.size T.f_check_row cdv))) :
    Σ' t : TS, PSs (cxOf CX0 P w K mg base ["row"] "check_row" (defScope s_check_row) T.f_check_row cdv A outer s H E).nox (defBody s_check_row) t :=
  ⟨_, (pss_one (ps_if (pt_not (pt_val (pe_call (ok_is_row T) (hr.mono (by omega)) (by rfl) T.g_is_row T.F_is_row.kp T.b_is_row .nil pass0 (pa_cons (pv 0) pa_nil)))) (pss_one ps_never) pss_nil))⟩
theorem ok_check_row (T : Txt K mg) : FnOk P w K mg base CX0 4 T.f_check_row T.d_check_row ["row"] spCheckRow := by
  refine T.F_check_row.ok sc_check_row (fun vs H Q E h => ?_) (fun cdv A outer s H vs Q E hr h => ⟨_, (dv_check_row T hr).2, ?_⟩)
  · obtain ⟨a, r, b, rfl, _⟩ := h
    rfl
  · obtain ⟨a, r, b, rfl, ha, q⟩ := h
    refine ⟨_, rfl, _, rfl, .inr ⟨a, natsV r, rfl, ha.at_, fun _ => natsV_kind, fun H1 s1 => ?_⟩⟩
    rw [list_yes ha.few]
    exact ⟨true, rfl, iteF (q H1 s1)⟩
def spCheckFamily : Sp := fun vs H Q _ => ∃ (a : Addr) (r : List Nat) (b : Nat), vs = [.ref a] ∧ Rw H a r b ∧ leastN r = none ∧ ∀ H', Same H H' → Q .non H'
noncomputable def dv_check_family {P : Program} {w : World} {K : PySem.W.Frag} {mg : Str → Option Value} {base : Heap} (T : Txt K mg)  {cdv : Value} {A : Around} {outer : List Env} {s : Shared} {H : Hp} {E : XK}
    (hr : Room 35 (A.deeper (envOfC "check_family" (defScope s_check_family) s.heap.objs.size T.f_check_family cdv))) :
    Σ' t : TS, PSs (cxOf CX0 P w K mg base ["row"] "check_family" (defScope s_check_family) T.f_check_family cdv A outer s H E).nox (defBody s_check_family) t :=
  ⟨_, (pss_cons (ps_expr (pe_call (ok_check_row T) (hr.mono (by omega)) (by rfl) T.g_check_row T.F_check_row.kp T.b_check_row .nil pass0 (pa_cons (pv 0) pa_nil)))
      (pss_one (ps_if (pt_cmpR op_notN (pe_call (ok_first_excess T) (hr.mono (by omega)) (by rfl) T.g_first_excess T.F_first_excess.kp T.b_first_excess .nil pass0 (pa_cons (pv 0) pa_nil)) pe_non (nomark _)) (pss_one ps_never) pss_nil)))⟩
theorem ok_check_family (T : Txt K mg) : FnOk P w K mg base CX0 36 T.f_check_family T.d_check_family ["row"] spCheckFamily := by
  refine T.F_check_family.ok sc_check_family (fun vs H Q E h => ?_) (fun cdv A outer s H vs Q E hr h => ⟨_, (dv_check_family T hr).2, ?_⟩)
  · obtain ⟨a, r, b, rfl, _⟩ := h
    rfl
  · obtain ⟨a, r, b, rfl, ha, h0, q⟩ := h
    refine ⟨_, rfl, a, r, b, rfl, ha, fun H1 s1 => ?_⟩
    have ha1 := ha.same s1
    refine ⟨_, rfl, a, r, b, rfl, ha1.at_, ha.few, ha.small, ha.bits, fun v H2 s2 hv => ⟨rfl, _, rfl, ?_⟩⟩
    rw [exN_none.mpr h0] at hv
    cases hv
    exact decNT rfl (q H2 (s1.trans s2))
def spTold (T : Txt K mg) : Sp := fun vs H Q _ => ∃ (a : Addr) (r : List Nat) (b : Nat), vs = [.ref a] ∧ Rw H a r b ∧ ∀ H' x, Same H H' → Ans T H' x (exN r) → Q (.ref x) H'
noncomputable def dv_told {P : Program} {w : World} {K : PySem.W.Frag} {mg : Str → Option Value} {base : Heap} (T : Txt K mg)  {cdv : Value} {A : Around} {outer : List Env} {s : Shared} {H : Hp} {E : XK}
    (hr : Room 35 (A.deeper (envOfC "told" (defScope s_told) s.heap.objs.size T.f_told cdv))) :
    Σ' t : TS, PSs (cxOf CX0 P w K mg base ["row", "excess", "size", "can_be"] "told" (defScope s_told) T.f_told cdv A outer s H E).nox (defBody s_told) t :=
  ⟨_, (pss_cons (ps_expr (pe_call (ok_check_row T) (hr.mono (by omega)) (by rfl) T.g_check_row T.F_check_row.kp T.b_check_row .nil pass0 (pa_cons (pv 0) pa_nil)))
      (pss_cons (ps_set (i := 1) sc_told.nd rfl (.inl rfl) (pe_call (ok_first_excess T) (hr.mono (by omega)) (by rfl) T.g_first_excess T.F_first_excess.kp T.b_first_excess .nil pass0 (pa_cons (pv 0) pa_nil)))
      (pss_cons (ps_if (pt_cmpR op_isN (pv 1) pe_non (nomark _)) (pss_one (ps_ret (pe_bare T.M_Can (by rfl) T.g_Can))) pss_nil)
      (pss_cons (ps_asg (pv 1) (pg_tupK (K := K) rfl (pgs_cons (pg_name (i := 2) sc_told.nd rfl (.inl rfl)) (pgs_cons (pg_name (i := 3) sc_told.nd rfl (.inl rfl)) pgs_nil))))
      (pss_one (ps_ret (pe_make T.M_Barred (ok_Barred___init__ T) (hr.mono (by omega)) (by rfl) T.g_Barred T.b_Barred___init__ .nil pass0 (pa_cons (pv 2) (pa_cons (pv 3) pa_nil)))))))))⟩
theorem ok_told (T : Txt K mg) : FnOk P w K mg base CX0 36 T.f_told T.d_told ["row"] (spTold T) := by
  refine T.F_told.ok sc_told (fun vs H Q E h => ?_) (fun cdv A outer s H vs Q E hr h => ⟨_, (dv_told T hr).2, ?_⟩)
  · obtain ⟨a, r, b, rfl, _⟩ := h
    rfl
  · obtain ⟨a, r, b, rfl, ha, q⟩ := h
    refine ⟨_, rfl, a, r, b, rfl, ha, fun H1 s1 => ?_⟩
    have ha1 := ha.same s1
    refine ⟨_, rfl, a, r, b, rfl, ha1.at_, ha.few, ha.small, ha.bits, fun v H2 s2 hv => ?_⟩
    refine ⟨_, rfl, rfl, _, rfl, ?_⟩
    cases he : exN r with
    | none =>
      rw [he] at hv q
      cases hv
      refine decT rfl fun x dx nx nd ne => ?_
      obtain ⟨sx, ax⟩ := made_can (T := T) nx nd
      exact q _ x ((s1.trans s2).trans sx) ax
    | some p =>
      obtain ⟨i, j⟩ := p
      rw [he] at hv q
      cases hv with
      | two g =>
        refine decF (fun e => nomatch e) ⟨_, rfl, pair_at (.of g) ?_⟩
        refine ⟨_, rfl, _, rfl, fun x dx nx nd ne => ⟨x, dx, i, j, rfl, upd_same, fun H3 f1 f2 => ⟨rfl, ?_⟩⟩⟩
        obtain ⟨sx, ax⟩ := made_barred (T := T) nx nd ne f1 f2
        exact q _ x ((s1.trans s2).trans sx) ax
def spHas : Sp := fun vs H Q _ => ∃ (a c : Addr) (r l : List Nat) (b b2 : Nat), vs = [.ref a, .ref c] ∧ Rw H a r b ∧ leastN r = none ∧ H c = some (.lst (natsV l)) ∧ Good l b2 ∧ ∀ H', Same H H' → Q (.bl (hasN r l)) H'
noncomputable def dv_has {P : Program} {w : World} {K : PySem.W.Frag} {mg : Str → Option Value} {base : Heap} (T : Txt K mg)  {cdv : Value} {A : Around} {outer : List Env} {s : Shared} {H : Hp} {E : XK}
    (hr : Room 36 (A.deeper (envOfC "has" (defScope s_has) s.heap.objs.size T.f_has cdv))) :
    Σ' t : TS, PSs (cxOf CX0 P w K mg base ["row", "some", "number"] "has" (defScope s_has) T.f_has cdv A outer s H E).nox (defBody s_has) t :=
  ⟨_, (pss_cons (ps_expr (pe_call (ok_check_family T) (hr.mono (by omega)) (by rfl) T.g_check_family T.F_check_family.kp T.b_check_family .nil pass0 (pa_cons (pv 0) pa_nil)))
      (pss_cons (ps_set (i := 2) sc_has.nd rfl (.inl rfl) (pe_call (ok_number_of T) (hr.mono (by omega)) (by rfl) T.g_number_of T.F_number_of.kp T.b_number_of .nil pass0 (pa_cons (pv 1) pa_nil)))
      (pss_cons (ps_if (pt_cmpR (op_eqDK (K := K) hr.units) (pv 1) (pe_lst pa_nil) (nomark _)) (pss_one (ps_ret pe_bl)) pss_nil)
      (pss_one (ps_ret (pe_and (pe_cmpR op_nLe (pe_callB (call_lenK (K := K)) (by rfl) T.z_len PySem.boot_len (pa_cons (pv 1) pa_nil)) (pe_callB (call_lenK (K := K)) (by rfl) T.z_len PySem.boot_len (pa_cons (pv 0) pa_nil)) (nomark _)) (pe_one (pe_cmpR op_nLt (pv 2) (pe_ix (ix_listK (K := K)) (pv 0) (pe_op op_nSub (pe_callB (call_lenK (K := K)) (by rfl) T.z_len PySem.boot_len (pa_cons (pv 1) pa_nil)) pe_int) (fun _ _ => rfl)) (nomark _)))))))))⟩
theorem ok_has (T : Txt K mg) : FnOk P w K mg base CX0 37 T.f_has T.d_has ["row", "some"] spHas := by
  refine T.F_has.ok sc_has (fun vs H Q E h => ?_) (fun cdv A outer s H vs Q E hr h => ⟨_, (dv_has T hr).2, ?_⟩)
  · obtain ⟨a, c, r, l, b, b2, rfl, _⟩ := h
    rfl
  · obtain ⟨a, c, r, l, b, b2, rfl, ha, h0, hc, hg, q⟩ := h
    refine ⟨_, rfl, a, r, b, rfl, ha, h0, fun H1 s1 => ?_⟩
    refine ⟨_, rfl, c, l, b2, rfl, s1 _ _ hc, hg, fun H2 s2 => ?_⟩
    have s12 := s1.trans s2
    refine ⟨_, rfl, Nat.zero_le _, fun e ne => ?_⟩
    have s3 := s12.trans (same_new (o := .lst []) ne)
    refine eqN (l := l) (m := []) rfl rfl (.of (s3 _ _ hc)) (.of upd_same) ⟨_, rfl, dec2 (fun e0 => ?_) (fun e0 => ?_)⟩
    · subst e0
      exact q _ s3
    · have hl : 0 < l.length := List.length_pos_iff.mpr e0
      have he : l.isEmpty = false := by
        cases l with
        | nil => exact absurd rfl e0
        | cons x l => rfl
      unfold hasN at q
      rw [he, Bool.false_or] at q
      refine ⟨_, rfl, c, natsV l, rfl, .inl (.of (s3 _ _ hc)), _, rfl, a, natsV r, rfl, .inl (.of (s3 _ _ ha.at_)), ?_⟩
      rw [natsV_length, natsV_length]
      refine ⟨l.length, r.length, rfl, rfl, _, rfl, dec2 (fun c1 => ?_) (fun c1 => ?_)⟩
      · have hi : l.length - 1 < r.length := by omega
        have g : r[l.length - 1]? = some r[l.length - 1] := List.getElem?_eq_getElem hi
        rw [g] at q
        refine ⟨_, rfl, _, rfl, _, rfl, c, natsV l, rfl, .inl (.of (s3 _ _ hc)), ?_⟩
        rw [natsV_length]
        exact ⟨l.length, 1, rfl, rfl, by omega, a, natsV r, ((l.length - 1 : Nat) : Int), _, rfl, rfl, .of (s3 _ _ ha.at_), atI_nat (natsV_get g), num l, _, rfl, rfl, q _ s3⟩
      · have g : r[l.length - 1]? = none := List.getElem?_eq_none (by omega)
        rw [g] at q
        exact q _ s3
def spMost : Sp := fun vs H Q _ => ∃ (a : Addr) (r : List Nat) (x b : Nat), vs = [.ref a] ∧ Rw H a (r ++ [x]) b ∧ leastN (r ++ [x]) = none ∧ r.length + 1 < 20 ∧ ∀ H', Same H H' → Q (.int ((overN (r.length + 1) x : Nat) : Int)) H'
noncomputable def dv_most {P : Program} {w : World} {K : PySem.W.Frag} {mg : Str → Option Value} {base : Heap} (T : Txt K mg)  {cdv : Value} {A : Around} {outer : List Env} {s : Shared} {H : Hp} {E : XK}
    (hr : Room 36 (A.deeper (envOfC "most" (defScope s_most) s.heap.objs.size T.f_most cdv))) :
    Σ' t : TS, PSs (cxOf CX0 P w K mg base ["row"] "most" (defScope s_most) T.f_most cdv A outer s H E).nox (defBody s_most) t :=
  ⟨_, (pss_cons (ps_expr (pe_call (ok_check_family T) (hr.mono (by omega)) (by rfl) T.g_check_family T.F_check_family.kp T.b_check_family .nil pass0 (pa_cons (pv 0) pa_nil)))
      (pss_cons (ps_if (pt_not (pt_chain op_nLe op_nLt pe_int (pe_callB (call_lenK (K := K)) (by rfl) T.z_len PySem.boot_len (pa_cons (pv 0) pa_nil)) (pe_glob (v := .int 20) rfl T.c_GREATEST_SIZE.2 ⟨_, rfl⟩))) (pss_one ps_never) pss_nil)
      (pss_one (ps_ret (pe_call (ok_over T) (hr.mono (by omega)) (by rfl) T.g_over T.F_over.kp T.b_over .nil pass0 (pa_cons (pe_callB (call_lenK (K := K)) (by rfl) T.z_len PySem.boot_len (pa_cons (pv 0) pa_nil)) (pa_cons (pe_ix (ix_listK (K := K)) (pv 0) (pe_un un_neg pe_int) (fun _ _ => rfl)) pa_nil)))))))⟩
theorem ok_most (T : Txt K mg) : FnOk P w K mg base CX0 37 T.f_most T.d_most ["row"] spMost := by
  refine T.F_most.ok sc_most (fun vs H Q E h => ?_) (fun cdv A outer s H vs Q E hr h => ⟨_, (dv_most T hr).2, ?_⟩)
  · obtain ⟨a, r, x, b, rfl, _⟩ := h
    rfl
  · obtain ⟨a, r, x, b, rfl, ha, h0, h19, q⟩ := h
    refine ⟨_, rfl, a, _, b, rfl, ha, h0, fun H1 s1 => ?_⟩
    have ha1 := ha.same s1
    have el : (natsV (r ++ [x])).length = r.length + 1 := by rw [natsV_length, List.length_append]; rfl
    have g : atI (natsV (r ++ [x])) (-1) = some (.int (x : Int)) := by
      rw [← natsV_app]
      exact atI_last _ _
    refine ⟨_, rfl, a, _, rfl, .inl (.of ha1.at_), ?_⟩
    rw [el]
    refine ⟨1, r.length + 1, rfl, rfl, _, rfl, decT (by omega) ?_⟩
    refine ⟨r.length + 1, 20, rfl, rfl, _, rfl, decNT (by omega) ?_⟩
    refine ⟨_, rfl, a, _, rfl, .inl (.of ha1.at_), ?_⟩
    rw [el]
    refine ⟨_, rfl, 1, rfl, a, _, -1, _, rfl, rfl, .of ha1.at_, g, r.length + 1, x, b, rfl, by omega, by omega, ha.small x (List.mem_append_right _ (List.mem_singleton.mpr rfl)), ha.bits, fun H2 s2 => q _ (s1.trans s2)⟩
end
end Sh

/-! The law's rows: the least size of which there are too many; a row drawn. -/
namespace Sh
open PySem PySem.Spec PyProof.Rows L2
theorem tIf_at {p : Prop} [Decidable p] {ta tb : TE} {σ : L2.St} {H : Hp} {Q : VK} (Pd : V → Hp → Prop) (ha : p → ∀ Q', (∀ v H', Pd v H' → Q' v H') → ta σ H Q') (hb : ¬ p → ∀ Q', (∀ v H', Pd v H' → Q' v H') → tb σ H Q')
    (h : ∀ v H', Pd v H' → Q v H') : if decide p = true then ta σ H Q else tb σ H Q :=
  dec2 (fun c => ha c Q h) (fun c => hb c Q h)
theorem ifS_at {p : Prop} [Decidable p] {ta tb : TS} {D : Ends} {σ : L2.St} {H : Hp} (Pd : L2.St → Hp → Prop) (ha : p → ∀ D' : Ends, (∀ σ' H', Pd σ' H' → D'.nx σ' H') → ta D' σ H) (hb : ¬ p → ∀ D' : Ends, (∀ σ' H', Pd σ' H' → D'.nx σ' H') → tb D' σ H)
    (h : ∀ σ' H', Pd σ' H' → D.nx σ' H') : if decide p = true then ta D σ H else tb D σ H :=
  dec2 (fun c => ha c D h) (fun c => hb c D h)
theorem max_cut (n k : Nat) : (if ((n : Nat) : Int) - (k : Int) > 0 then ((n : Nat) : Int) - (k : Int) else 0) = ((n - k : Nat) : Int) := by
  split <;> omega
theorem natsV_set (l : List Nat) (i m : Nat) : (natsV l).set i (.int (m : Int)) = natsV (l.set i m) := by
  unfold natsV
  rw [List.map_set]
theorem many_lt2 : many + 1 < 2 ^ 134 := by decide +kernel
/-- a bound of the counts of a row: of the size of its place, below the sets of so many numbers -/
def Wth (A : Nat) (r : List Nat) : Prop := ∀ (j x : Nat), r[j]? = some x → x < ch (A + j) (j + 1)
theorem wth_app {A x : Nat} {r : List Nat} (h : Wth A r) (hx : x < ch (A + r.length) (r.length + 1)) : Wth A (r ++ [x]) := fun j y hy => by
  rcases Nat.lt_or_ge j r.length with q | q
  · rw [List.getElem?_append_left q] at hy
    exact h j y hy
  · rw [List.getElem?_append_right q] at hy
    have h0 : j - r.length = 0 := by
      refine Nat.lt_one_iff.mp ?_
      have := (List.getElem?_eq_some_iff.mp hy).1
      simpa using this
    rw [h0] at hy
    have e : x = y := Option.some.inj hy
    have e2 : j = r.length := by omega
    rw [← e, e2]
    exact hx
/-- so many numbers, so long a row: not too great -/
def Small (A L : Nat) : Prop := 20 ≤ A ∧ ((A ≤ 2 ^ 134 ∧ L ≤ 4) ∨ (A ≤ 24 ∧ L ≤ 20))
theorem small_ch {A L j : Nat} (h : Small A L) (hj : j < L) : ch (A + j) (j + 1) ≤ 2 ^ 598 := by
  rcases h.2 with ⟨h1, h2⟩ | ⟨h1, h2⟩
  · have h3 : A + j < 2 ^ 135 := by
      rw [Nat.pow_succ]
      have : 2 ^ 7 ≤ 2 ^ 134 := Nat.pow_le_pow_right (by decide) (by decide)
      omega
    exact Nat.le_trans (ch_bits h3) (Nat.pow_le_pow_right (by decide) (by omega))
  · have h3 : A + j < 2 ^ 6 := by omega
    exact Nat.le_trans (ch_bits h3) (Nat.pow_le_pow_right (by decide) (by omega))
section
variable {P : Program} {w : World} {K : PySem.W.Frag} {mg : Str → Option Value} {base : Heap}
noncomputable def dv__law_least {P : Program} {w : World} {K : PySem.W.Frag} {mg : Str → Option Value} {base : Heap} (T : Txt K mg)  {cdv : Value} {A : Around} {outer : List Env} {s : Shared} {H : Hp} {E : XK}
    (hr : Room 3 (A.deeper (envOfC "_law_least" (defScope s__law_least) s.heap.objs.size T.f__law_least cdv))) :
    Σ' t : TS, PSs (cxOf CX0 P w K mg base ["_law_row_here", "_law_size", "_law_limit"] "_law_least" (defScope s__law_least) T.f__law_least cdv A outer s H E).nox (defBody s__law_least) t :=
  ⟨_, (pss_cons (ps_for PassesOwn.never rfl (pi_range2 (by rfl) T.z_range (pa_cons pe_int (pa_cons (pe_callB (call_lenK (K := K)) (by rfl) T.z_len PySem.boot_len (pa_cons (pv 0) pa_nil)) pa_nil))) (pg_name (i := 1) sc__law_least.nd rfl (.inl rfl)) (pss_cons (ps_set (i := 2) sc__law_least.nd rfl (.inl rfl) (pe_call (ok__law_moved T) (hr.mono (by omega)) (by rfl) T.g__law_moved T.F__law_moved.kp T.b__law_moved .nil pass0 (pa_cons (pv 1) (pa_cons (pe_ix (ix_listK (K := K)) (pv 0) (pe_op op_nSub (pv 1) pe_int) (fun _ _ => rfl)) (pa_cons pe_int pa_nil)))))
      (pss_one (ps_if (pt_cmpR op_nGt (pe_ix (ix_listK (K := K)) (pv 0) (pv 1) (fun _ _ => rfl)) (pv 2) (nomark _)) (pss_one (ps_ret (pe_tup (pa_cons (pe_op op_nAdd (pv 1) pe_int) (pa_cons (pv 2) pa_nil))))) pss_nil))))
      (pss_one (ps_ret pe_non)))⟩
theorem ok__law_least (T : Txt K mg) : FnOk P w K mg base CX0 4 T.f__law_least T.d__law_least ["_law_row_here"] spLeast := by
  refine T.F__law_least.ok sc__law_least (fun vs H Q E h => ?_) (fun cdv A outer s H vs Q E hr h => ⟨_, (dv__law_least T hr).2, ?_⟩)
  · obtain ⟨a, r, b, rfl, _⟩ := h
    rfl
  · obtain ⟨a, r, b, rfl, ha, h20, hx, hb, q⟩ := h
    refine ⟨_, rfl, a, natsV r, rfl, .inl (.of ha), ?_⟩
    rw [natsV_length]
    refine ⟨1, (r.length : Int), rfl, ⟨by omega, by omega, by omega, by omega⟩, ?_⟩
    refine for_range (fun i σ H' => Same H H' ∧ ∃ y z, σ = [some (.ref a), y, z] ∧ leastN r = leastFrom (1 + i) (r.drop i)) ⟨Same.refl _, none, none, rfl, rfl⟩ ?_ ?_
    · rintro i σ H' hi ⟨sm, y, z, rfl, hl⟩
      have e1 : (1 : Int) + ((i : Nat) : Int) = ((1 + i : Nat) : Int) := rfl
      rw [e1]
      have hi1 : i < r.length := by omega
      have hi2 : i + 1 < r.length := by omega
      have g1 : r[i]? = some r[i] := List.getElem?_eq_getElem hi1
      have g2 : r[i + 1]? = some r[i + 1] := List.getElem?_eq_getElem hi2
      rw [least_step g1 g2] at hl
      have hb1 := hx _ (List.getElem_mem hi1)
      generalize r[i] = x at hl g1 hb1
      generalize r[i + 1] = x2 at hl g2
      have haH := sm _ _ ha
      refine ⟨_, rfl, _, rfl, _, rfl, 1 + i, 1, rfl, rfl, by omega, a, natsV r, ((1 + i - 1 : Nat) : Int), _, rfl, rfl, .of haH, atI_nat (natsV_get (by rw [Nat.add_sub_cancel_left]; exact g1)), 1 + i, x, b, 1, rfl, by omega, hb1, by omega, .inl rfl, fun H1 s1 => ?_⟩
      rw [mvd_up, show ov (cas (1 + i) x) = overN (1 + i) x from rfl]
      have ha1 := s1 _ _ haH
      refine ⟨_, rfl, _, rfl, a, natsV r, ((1 + i : Nat) : Int), _, rfl, rfl, .of ha1, atI_nat (natsV_get (by rw [Nat.add_comm]; exact g2)), _, rfl, x2, overN (1 + i) x, rfl, rfl, _, rfl, dec2 (fun c => ?_) (fun c => ?_)⟩
      · rw [if_pos c] at hl
        refine ⟨_, rfl, 1 + i, 1, rfl, rfl, _, rfl, (by show 2 ≤ sizeLine; decide), fun t nt => ?_⟩
        have s2 := sm.trans s1
        exact q _ _ (s2.trans (same_new nt)) (exN_some hl ▸ .two upd_same)
      · rw [if_neg c] at hl
        exact ⟨sm.trans s1, _, _, rfl, hl⟩
    · rintro σ H' ⟨sm, y, z, rfl, hl⟩
      rw [least_end (by omega)] at hl
      exact q _ H' sm (exN_none.mpr hl ▸ .nil)
def spSays : Sp := fun vs H Q _ => ∃ a b : Bool, vs = [.bl a, .bl b] ∧ Q (.bl (decide (a = b))) H
noncomputable def dv__law_says {P : Program} {w : World} {K : PySem.W.Frag} {mg : Str → Option Value} {base : Heap} (T : Txt K mg)  {cdv : Value} {A : Around} {outer : List Env} {s : Shared} {H : Hp} {E : XK}
    (hr : Room 0 (A.deeper (envOfC "_law_says" (defScope s__law_says) s.heap.objs.size T.f__law_says cdv))) :
    Σ' t : TS, PSs (cxOf CX0 P w K mg base ["_law_said", "_law_due_here"] "_law_says" (defScope s__law_says) T.f__law_says cdv A outer s H E).nox (defBody s__law_says) t :=
  ⟨_, (pss_one (ps_ret (pe_and (pe_callB (call_isiK (K := K)) (by rfl) T.z_isinstance (by decide +kernel) (pa_cons (pv 0) (pa_cons (pe_bltn (v := .ty "bool") (by rfl) T.z_bool (by decide +kernel) rfl) pa_nil))) (pe_one (pe_cmpR op_bEq (pv 0) (pv 1) (nomark _))))))⟩
theorem ok__law_says (T : Txt K mg) : FnOk P w K mg base CX0 1 T.f__law_says T.d__law_says ["_law_said", "_law_due_here"] spSays := by
  refine T.F__law_says.ok sc__law_says (fun vs H Q E h => ?_) (fun cdv A outer s H vs Q E hr h => ⟨_, (dv__law_says T hr).2, ?_⟩)
  · obtain ⟨a, b, rfl, _⟩ := h
    rfl
  · obtain ⟨a, b, rfl, q⟩ := h
    refine ⟨_, rfl, _, _, _, _, true, rfl, .ty _, .base (.bl a), kit_ty (by decide +kernel), true, rfl, iteT ?_⟩
    exact ⟨_, rfl, _, rfl, a, b, rfl, rfl, q⟩
def spRow (K : PySem.W.Frag) : Sp := fun vs H Q _ => ∃ (a : Addr) (ns : List Int), vs = [.ref a] ∧ SqL K H a (ns.map V.int) ∧ ns.length ≤ 63 ∧ Bounded ns ∧
  ∀ H' p r, Same H H' → H p = none → H' p = some (.lst (natsV r)) → r.length ≤ 20 → (∀ x ∈ r, x < 2 ^ 600) → Q (.ref p) H'
noncomputable def dv__law_row {P : Program} {w : World} {K : PySem.W.Frag} {mg : Str → Option Value} {base : Heap} (T : Txt K mg)  {cdv : Value} {A : Around} {outer : List Env} {s : Shared} {H : Hp} {E : XK}
    (hr : Room 3 (A.deeper (envOfC "_law_row" (defScope s__law_row) s.heap.objs.size T.f__law_row cdv))) :
    Σ' t : TS, PSs (cxOf CX0 P w K mg base ["_law_script", "_law_kind", "_law_long", "_law_row_here", "_law_k", "_law_cell", "_law_limit", "_law_number", "_law_at"] "_law_row" (defScope s__law_row) T.f__law_row cdv A outer s H E).nox (defBody s__law_row) t :=
  ⟨_, (pss_cons (ps_set (i := 1) sc__law_row.nd rfl (.inl rfl) (pe_call (ok__law_draw T) (hr.mono (by omega)) (by rfl) T.g__law_draw T.F__law_draw.kp T.b__law_draw .nil pass0 (pa_cons (pe_call (ok__law_cell_at T) (hr.mono (by omega)) (by rfl) T.g__law_cell_at T.F__law_cell_at.kp T.b__law_cell_at .nil pass0 (pa_cons (pv 0) (pa_cons pe_int pa_nil))) (pa_cons pe_int (pa_cons pe_int pa_nil)))))
      (pss_cons (ps_set (i := 2) sc__law_row.nd rfl (.inl rfl) (pe_ix (ix_tupK (K := K)) (pe_tup (pa_cons pe_int (pa_cons pe_int (pa_cons pe_int (pa_cons pe_int pa_nil))))) (pe_call (ok__law_draw T) (hr.mono (by omega)) (by rfl) T.g__law_draw T.F__law_draw.kp T.b__law_draw .nil pass0 (pa_cons (pe_call (ok__law_cell_at T) (hr.mono (by omega)) (by rfl) T.g__law_cell_at T.F__law_cell_at.kp T.b__law_cell_at .nil pass0 (pa_cons (pv 0) (pa_cons pe_int pa_nil))) (pa_cons pe_int (pa_cons pe_int pa_nil)))) (fun _ _ => rfl)))
      (pss_cons (ps_if (pt_cmpR op_nEq (pe_call (ok__law_draw T) (hr.mono (by omega)) (by rfl) T.g__law_draw T.F__law_draw.kp T.b__law_draw .nil pass0 (pa_cons (pe_call (ok__law_cell_at T) (hr.mono (by omega)) (by rfl) T.g__law_cell_at T.F__law_cell_at.kp T.b__law_cell_at .nil pass0 (pa_cons (pv 0) (pa_cons pe_int pa_nil))) (pa_cons pe_int (pa_cons pe_int pa_nil)))) pe_int (nomark _)) (pss_one (ps_set (i := 2) sc__law_row.nd rfl (.inl rfl) pe_int)) pss_nil)
      (pss_cons (ps_if (pt_cmpR op_nEq (pv 1) pe_int (nomark _)) (pss_one (ps_ret (pe_lc (g := gTup K 2 (gCons (gName 4) (gCons (gName 5) (gNil)))) (own := [("_law_k", 4), ("_law_cell", 5)]) rfl sc__law_row.nd (pi_enum (by rfl) T.z_enumerate (pa_cons (pe_slice (sl_listK (K := K)) (pv 0) po_none (po_some (pe_callB (call_minN rfl) (by rfl) T.z_min (by decide +kernel) (pa_cons (pv 2) (pa_cons pe_int pa_nil))))) pa_nil)) (blkOk_by (own := [("_law_k", 4), ("_law_cell", 5)]) (N := ["_law_script", "_law_kind", "_law_long", "_law_row_here", "_law_k", "_law_cell", "_law_limit", "_law_number", "_law_at"]) (sc := defScope s__law_row) (by decide +kernel)) (fun _ _ _ _ _ => by exact (pg_tupK (K := K) rfl (pgs_cons (pg_name (i := 4) sc__law_row.nd rfl (.inl rfl)) (pgs_cons (pg_name (i := 5) sc__law_row.nd rfl (.inl rfl)) pgs_nil)))) (fun _ _ _ _ _ => by exact pts_nil) (fun _ _ _ _ _ => by exact (pe_call (ok__law_value T) (hr.mono (by omega)) (by rfl) T.g__law_value T.F__law_value.kp T.b__law_value .nil pass0 (pa_cons (pv 5) (pa_cons (pv 4) (pa_cons pe_int pa_nil)))))))) pss_nil)
      (pss_cons (ps_set (i := 3) sc__law_row.nd rfl (.inl rfl) (pe_lst pa_nil))
      (pss_cons (ps_for PassesOwn.never rfl (pi_enum (by rfl) T.z_enumerate (pa_cons (pe_slice (sl_listK (K := K)) (pv 0) po_none (po_some (pv 2))) pa_nil)) (pg_tupK (K := K) rfl (pgs_cons (pg_name (i := 4) sc__law_row.nd rfl (.inl rfl)) (pgs_cons (pg_name (i := 5) sc__law_row.nd rfl (.inl rfl)) pgs_nil))) (pss_cons (ps_set (i := 6) sc__law_row.nd rfl (.inl rfl) (pe_ifExp (pt_cmpR op_nGt (pv 4) pe_int (nomark _)) (pe_call (ok__law_moved T) (hr.mono (by omega)) (by rfl) T.g__law_moved T.F__law_moved.kp T.b__law_moved .nil pass0 (pa_cons (pv 4) (pa_cons (pe_ix (ix_listK (K := K)) (pv 3) (pe_un un_neg pe_int) (fun _ _ => rfl)) (pa_cons pe_int pa_nil)))) (pe_op op_iPow pe_int pe_int)))
      (pss_cons (ps_set (i := 7) sc__law_row.nd rfl (.inl rfl) (pe_ifExp (pt_cmpR op_nLt (pv 2) pe_int (nomark _)) (pe_call (ok__law_value T) (hr.mono (by omega)) (by rfl) T.g__law_value T.F__law_value.kp T.b__law_value .nil pass0 (pa_cons (pv 5) (pa_cons (pv 4) (pa_cons pe_int pa_nil)))) (pe_call (ok__law_draw T) (hr.mono (by omega)) (by rfl) T.g__law_draw T.F__law_draw.kp T.b__law_draw .nil pass0 (pa_cons (pe_op op_iAdd (pe_op op_iMod (pv 5) (pe_op op_iPow pe_int pe_int)) (pe_op op_nMul pe_int (pv 4))) (pa_cons pe_int (pa_cons pe_int pa_nil))))))
      (pss_cons (ps_if (PW.pt (pw_and (pt_cmpR op_nGt (pe_call (ok__law_draw T) (hr.mono (by omega)) (by rfl) T.g__law_draw T.F__law_draw.kp T.b__law_draw .nil pass0 (pa_cons (pe_op op_iMod (pv 5) (pe_op op_iPow pe_int pe_int)) (pa_cons pe_int (pa_cons pe_int pa_nil)))) pe_int (nomark _)) (pw_and1 (pt_cmpR op_nGt (pv 4) pe_int (nomark _))))) (pss_one (ps_set (i := 7) sc__law_row.nd rfl (.inl rfl) (pe_callB (call_max2 rfl) (by rfl) T.z_max (by decide +kernel) (pa_cons pe_int (pa_cons (pe_op op_iSub (pv 6) (pe_op op_nMod (pv 7) pe_int)) pa_nil))))) pss_nil)
      (pss_one (ps_expr (pe_bm PySem.F.plainAttrs_list PySem.F.slot_list_append PySem.F.type_list_append mt_append (pv 3) (pa_cons (pe_callB (call_minN rfl) (by rfl) T.z_min (by decide +kernel) (pa_cons (pv 6) (pa_cons (pv 7) pa_nil))) pa_nil))))))))
      (pss_cons (ps_if (PW.pt (pw_and (pt_cmpR op_nGt (pv 1) pe_int (nomark _)) (pw_and1 (pt_cmpR (op_neDK (K := K) hr.units) (pv 3) (pe_lst pa_nil) (nomark _))))) (pss_cons (ps_set (i := 8) sc__law_row.nd rfl (.inl rfl) (pe_call (ok__law_draw T) (hr.mono (by omega)) (by rfl) T.g__law_draw T.F__law_draw.kp T.b__law_draw .nil pass0 (pa_cons (pe_call (ok__law_cell_at T) (hr.mono (by omega)) (by rfl) T.g__law_cell_at T.F__law_cell_at.kp T.b__law_cell_at .nil pass0 (pa_cons (pv 0) (pa_cons pe_int pa_nil))) (pa_cons pe_int (pa_cons (pe_callB (call_lenK (K := K)) (by rfl) T.z_len PySem.boot_len (pa_cons (pv 3) pa_nil)) pa_nil)))))
      (pss_one (ps_asg (pe_ifExp (pt_cmpR op_nEq (pv 1) pe_int (nomark _)) (pe_op op_nAdd (pe_ix (ix_listK (K := K)) (pv 3) (pv 8) (fun _ _ => rfl)) pe_int) (pe_callB (call_max2 rfl) (by rfl) T.z_max (by decide +kernel) (pa_cons pe_int (pa_cons (pe_op op_iSub (pe_ix (ix_listK (K := K)) (pv 3) (pv 8) (fun _ _ => rfl)) pe_int) pa_nil)))) (pg_sub (pv 3) (pv 8) set_list)))) pss_nil)
      (pss_one (ps_ret (pv 3))))))))))⟩
theorem ok__law_row (T : Txt K mg) : FnOk P w K mg base CX0 4 T.f__law_row T.d__law_row ["_law_script"] (spRow K) := by
  refine T.F__law_row.ok sc__law_row (fun vs H Q E h => ?_) (fun cdv A outer s H vs Q E hr h => ⟨_, (dv__law_row T hr).2, ?_⟩)
  · obtain ⟨a, ns, rfl, _⟩ := h
    rfl
  · obtain ⟨a, ns, rfl, hS, h63, hb, q⟩ := h
    have cp : CPow 10 18 := ⟨by decide, by decide, by decide⟩
    have cp2 : CPow 10 40 := ⟨by decide, by decide, by decide⟩
    have e18 : (10 : Int) ^ (18 : Int).toNat = 1000000000000000000 := by decide +kernel
    have e40 : (10 : Int) ^ (40 : Int).toNat = ((many : Nat) : Int) := by decide +kernel
    have m600 : many + 1 < 2 ^ 600 := Nat.lt_of_lt_of_le many_lt2 (Nat.pow_le_pow_right (by decide) (by decide))
    refine ⟨_, rfl, a, ns, 0, rfl, hS, fun c0 hc0 => ?_⟩
    refine ⟨c0, 6, 7, rfl, Nat.le_trans (cell_bits hb hc0) (by decide), by decide, by decide, fun kind H1 hkind s1 => ?_⟩
    refine ⟨(by show 4 ≤ sizeLine; decide), fun t nt => ?_⟩
    have s2 : Same H (upd H1 t (.tup (natsV [2, 4, 6, 8]))) := s1.trans (same_new nt)
    refine ⟨_, rfl, a, ns, 1, rfl, s2.seq hS, fun c1 hc1 => ?_⟩
    refine ⟨c1, 7, 4, rfl, Nat.le_trans (cell_bits hb hc1) (by decide), by decide, by decide, fun z H2 hz sm2 => ?_⟩
    refine ⟨t, natsV [2, 4, 6, 8], (z : Int), _, rfl, rfl, same_tup sm2 (.of upd_same), atI_nat (menu hz), ?_⟩
    have hlong : ∀ m ∈ [2, 4, 6, 8], m ≤ 4 ∨ (5 ≤ m ∧ m ≤ 20) := by decide
    have hlg := hlong _ (List.getElem_mem (l := [2, 4, 6, 8]) hz)
    generalize ([2, 4, 6, 8] : List Nat)[z] = long at hlg ⊢
    have s3 : Same H H2 := s2.trans sm2
    refine ⟨_, rfl, a, ns, 1, rfl, s3.seq hS, fun c2 hc2 => ?_⟩
    refine ⟨c2, 8, 16, rfl, Nat.le_trans (cell_bits hb hc2) (by decide), by decide, by decide, fun z3 H3 hz3 sm3 => ?_⟩
    have s4 : Same H H3 := s3.trans sm3
    refine ⟨z3, 3, rfl, rfl, _, rfl, ?_⟩
    refine ifS_at (fun σ H' => H' = H3 ∧ ∃ L : Nat, (L ≤ 4 ∨ (5 ≤ L ∧ L ≤ 20)) ∧ σ = [some (.ref a), some (.int (kind : Int)), some (.int (L : Int)), none, none, none, none, none, none])
      (fun _ D' h => h _ _ ⟨rfl, 20, .inr ⟨by decide, by decide⟩, rfl⟩) (fun _ D' h => h _ _ ⟨rfl, long, hlg, rfl⟩) ?_
    rintro σ H' ⟨rfl, L, hL, rfl⟩
    clear hlg s3 s2 s1 nt sm2 sm3
    refine ⟨_, rfl, kind, 0, rfl, rfl, _, rfl, dec2 (fun ck => ?_) (fun ck => ?_)⟩
    · -- any counts
      refine ⟨_, rfl, _, rfl, L, 5, rfl, ((min L 5 : Nat) : Int), rfl, a, ns.map V.int, rfl, s4.seq hS, fun c nc => ?_⟩
      rw [cut_to, ← List.map_take]
      have hml : (ns.take (min L 5)).length ≤ 5 := by
        rw [List.length_take]
        omega
      have hmm : ∀ x ∈ ns.take (min L 5), x ∈ ns := fun x hx => List.mem_of_mem_take hx
      generalize ns.take (min L 5) = ms at hml hmm ⊢
      have s5 : Same H (upd H' c (.lst (ms.map V.int))) := s4.trans (same_new nc)
      refine ⟨c, ms.map V.int, rfl, .of upd_same, fun D nD => ?_⟩
      refine lc2_enum (xs := ms.map V.int) (fun i acc H4 => Same (upd H' c (.lst (ms.map V.int))) H4 ∧ ∃ l : List Nat, acc = natsV l ∧ ∀ x ∈ l, x < many) ⟨same_new nD, [], rfl, fun x h => nomatch h⟩ (fun i acc H4 h => .of (h.1 _ _ upd_same))
        (fun i acc H4 T o nT h => ⟨same_fresh _ _ _ _ nT h.1, h.2⟩) (fun _ _ => rfl) ?_ ?_
      · rintro i x acc H4 hx hlen hD ⟨s6, l, rfl, hl⟩
        obtain ⟨cell, hcell, rfl⟩ := get_map hx
        have hi := (List.getElem?_eq_some_iff.mp hcell).1
        have hcb := hb cell (hmm _ (List.mem_of_getElem? hcell))
        refine ⟨_, rfl, _, rfl, cell, i, 40, rfl, hcb, by omega, by decide, by decide, fun v H5 hv sm5 => ?_⟩
        refine LcN.put (sm5 _ _ hD) hlen (small1000 (by omega)) ⟨same_free (s6.trans sm5) nD, l ++ [v], natsV_app _ _, fun x hx => ?_⟩
        rcases List.mem_append.mp hx with hx | hx
        · exact hl x hx
        · rw [List.mem_singleton.mp hx]
          exact hv
      · rintro acc H4 hlen hD ⟨s6, l, rfl, hl⟩
        rw [List.length_map, natsV_length] at hlen
        exact q H4 D l (s5.trans s6) (s5.free nD) hD (by omega) (fun x hx => by have := hl x hx; omega)
    -- a row by the most there can be
    refine ⟨Nat.zero_le _, fun p np => ?_⟩
    have npH : H p = none := s4.free np
    have s5 : Same H (upd H' p (.lst [])) := s4.trans (same_new np)
    refine ⟨_, rfl, _, rfl, (L : Int), rfl, a, ns.map V.int, rfl, s5.seq hS, fun c nc => ?_⟩
    rw [cut_to, ← List.map_take]
    have hml : (ns.take L).length ≤ L := by
      rw [List.length_take]
      exact Nat.min_le_left _ _
    have hmm : ∀ x ∈ ns.take L, x ∈ ns := fun x hx => List.mem_of_mem_take hx
    generalize ns.take L = ms at hml hmm ⊢
    have ncp : c ≠ p := fun e => by rw [e, upd_same] at nc; cases nc
    have s6 : Same H (upd (upd H' p (.lst [])) c (.lst (ms.map V.int))) := s5.trans (same_new nc)
    obtain ⟨A, hA, hAs, hA1⟩ : ∃ A, (if L < 5 then many + 1 else 24) = A ∧ Small A L ∧ A ≤ many + 1 := by
      refine ⟨_, rfl, ?_, ?_⟩
      · split
        · exact ⟨by decide, .inl ⟨Nat.le_of_lt many_lt2, by omega⟩⟩
        · exact ⟨by decide, .inr ⟨by decide, by omega⟩⟩
      · split
        · exact Nat.le_refl _
        · decide
    have hA20 := hAs.1
    have hL20 : L ≤ 20 := by omega
    refine ⟨c, ms.map V.int, rfl, .of upd_same, ?_⟩
    refine for2_enum (xs := ms.map V.int) (fun i σ H4 => (Same H H4 ∧ H4 c = some (.lst (ms.map V.int))) ∧ ∃ r y4 y5 y6 y7 y8, σ = [some (.ref a), some (.int (kind : Int)), some (.int (L : Int)), some (.ref p), y4, y5, y6, y7, y8] ∧ H4 p = some (.lst (natsV r)) ∧ r.length = i ∧ Wth A r)
      ⟨⟨s6, upd_same⟩, [], none, none, none, none, none, rfl, by rw [upd_ne ncp.symm, upd_same]; rfl, rfl, fun j x h => by simp at h⟩ (fun i σ H4 h => .of h.1.2) ?_ ?_ ?_
    · rintro i σ H4 X o nX ⟨⟨sm, hc⟩, r, y4, y5, y6, y7, y8, e, hp, hri, hw⟩
      exact ⟨⟨same_fresh H _ _ _ nX sm, by rw [upd_ne (ne_of_none hc nX)]; exact hc⟩, r, y4, y5, y6, y7, y8, e, by rw [upd_ne (ne_of_none hp nX)]; exact hp, hri, hw⟩
    · rintro i x σ H4 hx ⟨⟨sm, hc⟩, r, y4, y5, y6, y7, y8, rfl, hp, hri, hw⟩
      obtain ⟨cell, hcell, rfl⟩ := get_map hx
      have hi := (List.getElem?_eq_some_iff.mp hcell).1
      have hcb := hb cell (hmm _ (List.mem_of_getElem? hcell))
      have hiL : i < L := by omega
      -- the most
      refine ⟨_, rfl, i, 0, rfl, rfl, _, rfl, ?_⟩
      refine tIf_at (fun v H5 => Same H4 H5 ∧ ∃ l : Nat, v = .int ((l : Nat) : Int) ∧ (0 < i → l < ch (A + i) (i + 1)) ∧ (i = 0 → l = many)) (fun c1 Q' h => ?_) (fun c1 Q' h => ?_) ?_
      · obtain ⟨r0, x0, rfl⟩ : ∃ r0 x0, r = r0 ++ [x0] := ⟨r.dropLast, r.getLast (fun e => by rw [e] at hri; simp at hri; omega), (List.dropLast_concat_getLast _).symm⟩
        rw [List.length_append, List.length_singleton] at hri
        have hx0 : x0 < ch (A + r0.length) (r0.length + 1) := hw r0.length x0 (by rw [List.getElem?_append_right (Nat.le_refl _), Nat.sub_self]; rfl)
        have hx1 : x0 < 2 ^ 598 := Nat.lt_of_lt_of_le hx0 (small_ch hAs (by omega))
        have g : atI (natsV (r0 ++ [x0])) (-1) = some (.int (x0 : Int)) := by
          rw [← natsV_app]
          exact atI_last _ _
        refine ⟨_, rfl, _, rfl, 1, rfl, p, natsV (r0 ++ [x0]), -1, _, rfl, rfl, .of hp, g, i, x0, 598, 1, rfl, by omega, hx1, by decide, .inl rfl, fun H5 s5 => h _ _ ⟨s5, _, rfl, fun _ => ?_, fun e => by omega⟩⟩
        rw [mvd_up]
        have := over_few (k := r0.length + 1) (a := A + r0.length) (by omega) hx0
        rw [hri, Nat.add_assoc, hri] at this
        exact this
      · exact ⟨10, 40, rfl, rfl, cp2, h _ _ ⟨Same.refl _, many, congrArg V.int e40, fun z => absurd z c1, fun _ => rfl⟩⟩
      rintro v H5 ⟨sm5, l, rfl, hl1, hl0⟩
      -- a number
      refine ⟨_, rfl, L, 5, rfl, rfl, _, rfl, ?_⟩
      refine tIf_at (fun v H6 => Same H5 H6 ∧ ∃ m : Nat, v = .int ((m : Nat) : Int) ∧ m < A) (fun c1 Q' h => ?_) (fun c1 Q' h => ?_) ?_
      · rw [if_pos c1] at hA
        exact ⟨_, rfl, _, rfl, cell, i, 30, rfl, hcb, by omega, by decide, by decide, fun v H6 hv sm6 => h _ _ ⟨sm6, v, rfl, by omega⟩⟩
      · rw [if_neg c1] at hA
        refine ⟨_, rfl, 10, 18, rfl, rfl, cp, cell, _, rfl, rfl, by rw [e18]; decide, _, rfl, 31, i, rfl, rfl, ⟨5, 5, by decide, by omega, by decide⟩, _, _, rfl, rfl, _, 5, 24, rfl, ?_, by decide, by decide, fun v H6 hv sm6 => h _ _ ⟨sm6, v, rfl, by omega⟩⟩
        rw [e18]
        have b1 : Builtin.Int.intBits (cell % 1000000000000000000) ≤ 60 := mod_bits (by decide) (by decide)
        exact Nat.le_trans (add_bits b1 (Nat.lt_of_lt_of_le (show 31 * i < 2 ^ 10 by omega) (Nat.pow_le_pow_right (by decide) (by decide)))) (by decide)
      rintro v H6 ⟨sm6, m, rfl, hm⟩
      refine ⟨_, rfl, 10, 18, rfl, rfl, cp, cell, _, rfl, rfl, by rw [e18]; decide, _, 3, 3, rfl, ?_, by decide, by decide, fun z6 H7 hz6 sm7 => ?_⟩
      · rw [e18]
        have b1 : Builtin.Int.intBits (cell % 1000000000000000000) ≤ 60 := mod_bits (by decide) (by decide)
        exact Nat.le_trans b1 (by decide)
      have s47 := sm5.trans (sm6.trans sm7)
      have hp7 := s47 _ _ hp
      have hc7 := s47 _ _ hc
      have fin : ∀ m' : Nat, (i = 0 → m' < A) → (Same H (upd H7 p (.lst (natsV r ++ [.int ((min l m' : Nat) : Int)]))) ∧ (upd H7 p (.lst (natsV r ++ [.int ((min l m' : Nat) : Int)]))) c = some (.lst (ms.map V.int))) ∧
          ((upd H7 p (.lst (natsV r ++ [.int ((min l m' : Nat) : Int)]))) p = some (.lst (natsV (r ++ [min l m']))) ∧ (r ++ [min l m']).length = i + 1 ∧ Wth A (r ++ [min l m'])) := fun m' hm' => by
        refine ⟨⟨same_free (sm.trans s47) npH, by rw [upd_ne ncp]; exact hc7⟩, by rw [upd_same, natsV_app], by rw [List.length_append, hri]; rfl, wth_app hw ?_⟩
        rw [hri]
        by_cases e : i = 0
        · have := hm' e
          subst e
          rw [Nat.zero_add, ch_one]
          omega
        · have := hl1 (by omega)
          omega
      have sz : (natsV r).length < sizeLine := by
        rw [natsV_length, hri]
        exact small1000 (by omega)
      refine ⟨z6, 0, rfl, rfl, _, rfl, dec2 (fun c1 => ?_) (fun c1 => ?_)⟩
      · refine ⟨_, rfl, i, 0, rfl, rfl, _, rfl, dec2 (fun c2 => ?_) (fun c2 => ?_)⟩
        · refine ⟨_, rfl, _, rfl, m, 4, rfl, rfl, by decide, ((l : Nat) : Int), ((m % 4 : Nat) : Int), rfl, rfl, 0, ((l : Nat) : Int) - ((m % 4 : Nat) : Int), rfl, ?_⟩
          rw [max_cut]
          obtain ⟨f1, f2⟩ := fin (l - m % 4) (fun e => by omega)
          exact ⟨_, rfl, .inl ⟨rfl, _, .of hp7⟩, _, rfl, _, rfl, l, l - m % 4, rfl, p, _, _, rfl, rfl, hp7, sz, f1, _, _, _, _, _, _, rfl, f2⟩
        · obtain ⟨f1, f2⟩ := fin m (fun _ => hm)
          exact ⟨_, rfl, .inl ⟨rfl, _, .of hp7⟩, _, rfl, _, rfl, l, m, rfl, p, _, _, rfl, rfl, hp7, sz, f1, _, _, _, _, _, _, rfl, f2⟩
      · obtain ⟨f1, f2⟩ := fin m (fun _ => hm)
        exact iteF ⟨_, rfl, .inl ⟨rfl, _, .of hp7⟩, _, rfl, _, rfl, l, m, rfl, p, _, _, rfl, rfl, hp7, sz, f1, _, _, _, _, _, _, rfl, f2⟩
    rintro σ H4 ⟨⟨sm, hc⟩, r, y4, y5, y6, y7, y8, rfl, hp, hri, hw⟩
    rw [List.length_map] at hri
    have hr20 : r.length ≤ 20 := by omega
    have hrs : ∀ x ∈ r, x < 2 ^ 598 := fun x hx => by
      obtain ⟨j, hj⟩ := List.getElem?_of_mem hx
      have hjl := (List.getElem?_eq_some_iff.mp hj).1
      exact Nat.lt_of_lt_of_le (hw j x hj) (small_ch hAs (by omega))
    have p600 : (2 : Nat) ^ 600 = 2 ^ 598 * 4 := Nat.pow_add 2 598 2
    have hr6 : ∀ x ∈ r, x < 2 ^ 600 := fun x hx => by
      have := hrs x hx
      omega
    refine ⟨_, rfl, kind, 4, rfl, rfl, _, rfl, dec2 (fun c1 => ?_) (fun c1 => ?_)⟩
    · refine ⟨_, rfl, Nat.zero_le _, fun e ne => ?_⟩
      have sme : Same H4 (upd H4 e (.lst [])) := same_new ne
      refine neN (m := []) rfl rfl (.of (sme _ _ hp)) (.of upd_same) ⟨_, rfl, dec2n (fun c2 => ?_) (fun c2 => ?_)⟩
      · have hpos : 0 < r.length := List.length_pos_iff.mpr c2
        refine ⟨_, rfl, a, ns, 2, rfl, (sm.trans sme).seq hS, fun c3 hc3 => ?_⟩
        refine ⟨_, rfl, p, natsV r, rfl, .inl (.of (sme _ _ hp)), ?_⟩
        rw [natsV_length]
        refine ⟨c3, 8, r.length, rfl, Nat.le_trans (cell_bits hb hc3) (by decide), by decide, hpos, fun z8 H5 hz8 sm8 => ?_⟩
        have hp5 := sm8 _ _ (sme _ _ hp)
        have s05 : Same H H5 := (sm.trans sme).trans sm8
        have gz : (natsV r)[z8]? = some (.int ((r[z8] : Nat) : Int)) := menu hz8
        have hz6 := hrs _ (List.getElem_mem hz8)
        generalize r[z8] = x8 at gz hz6
        refine ⟨_, rfl, kind, 5, rfl, rfl, _, rfl, ?_⟩
        refine tIf_at (fun v H6 => H6 = H5 ∧ ∃ m : Nat, v = .int ((m : Nat) : Int) ∧ m ≤ x8 + 1) (fun c1 Q' h => ?_) (fun c1 Q' h => ?_) ?_
        · exact ⟨_, rfl, _, rfl, p, natsV r, (z8 : Int), _, rfl, rfl, .of hp5, atI_nat gz, x8, 1, rfl, rfl, h _ _ ⟨rfl, x8 + 1, rfl, Nat.le_refl _⟩⟩
        · refine ⟨_, rfl, _, rfl, p, natsV r, (z8 : Int), _, rfl, rfl, .of hp5, atI_nat gz, ((x8 : Nat) : Int), ((2 : Nat) : Int), rfl, rfl, 0, ((x8 : Nat) : Int) - ((2 : Nat) : Int), rfl, ?_⟩
          rw [max_cut]
          exact h _ _ ⟨rfl, x8 - 2, rfl, by omega⟩
        rintro v H6 ⟨rfl, m, rfl, hm⟩
        refine ⟨_, rfl, _, rfl, p, _, (z8 : Int), z8, rfl, rfl, hp5, (by unfold ixN; rw [if_pos (by omega), if_pos (by rw [natsV_length]; omega)]; rfl), ?_⟩
        rw [natsV_set]
        refine ⟨_, rfl, q _ p (r.set z8 m) (same_free s05 npH) npH upd_same (by rw [List.length_set]; exact hr20) fun x hx => ?_⟩
        rcases List.mem_or_eq_of_mem_set hx with hx | rfl
        · exact hr6 x hx
        · omega
      · exact ⟨_, rfl, q _ p r (sm.trans sme) npH (sme _ _ hp) hr20 hr6⟩
    · exact iteF ⟨_, rfl, q H4 p r sm npH hp hr20 hr6⟩
end
end Sh

/-! The law of rows: what is due, a family's sets. -/
namespace Sh
open PySem PySem.Spec PyProof.Rows L2
/-! ### a row of a family -/
theorem least_all {r : List Nat} (h : leastN r = none) : ∀ i : Nat, i < r.length → leastFrom (1 + i) (r.drop i) = none
  | 0, _ => h
  | i + 1, hi => by
    have ih := least_all h i (by omega)
    have g1 : r[i]? = some r[i] := List.getElem?_eq_getElem (by omega)
    have g2 : r[i + 1]? = some r[i + 1] := List.getElem?_eq_getElem hi
    rw [least_step g1 g2] at ih
    split at ih
    · cases ih
    · exact ih
theorem least_none {r : List Nat} (h : leastN r = none) {i x y : Nat} (h1 : r[i]? = some x) (h2 : r[i + 1]? = some y) : y ≤ overN (1 + i) x := by
  have hi := (List.getElem?_eq_some_iff.mp h1).1
  have ih := least_all h i hi
  rw [least_step h1 h2] at ih
  split at ih
  · cases ih
  · rename_i c
    exact Nat.le_of_not_lt c
theorem has_cas {r : List Nat} {s x n : Nat} (hs : 1 ≤ s) (g : r[s - 1]? = some x) : hasN r (cas s n) = decide (n < x) := by
  unfold hasN
  have e : (cas s n).isEmpty = false := by
    have := cas_length s n
    cases h : cas s n with
    | nil => rw [h] at this; simp at this; omega
    | cons a l => rfl
  rw [e, cas_length, g, num_cas' (fun z => by omega), Bool.false_or]
theorem has_near {r : List Nat} {s x n i : Nat} (h0 : leastN r = none) (hs : 1 ≤ s) (g : r[s - 1]? = some x) (hn : n < x) (hi : i < s) : hasN r ((cas s n).eraseIdx i) = true := by
  have hl : ((cas s n).eraseIdx i).length = s - 1 := by rw [List.length_eraseIdx_of_lt (by rw [cas_length]; exact hi), cas_length]
  unfold hasN
  by_cases c : s = 1
  · subst c
    have : (cas 1 n).eraseIdx i = [] := List.length_eq_zero_iff.mp hl
    rw [this]
    rfl
  · obtain ⟨k, rfl⟩ : ∃ k, s = k + 2 := ⟨s - 2, by omega⟩
    have e1 : k + 2 - 1 = k + 1 := rfl
    rw [e1] at g hl
    have hk : k + 1 < r.length := (List.getElem?_eq_some_iff.mp g).1
    have g0 : r[k]? = some r[k] := List.getElem?_eq_getElem (by omega)
    have h1 := least_none h0 g0 g
    rw [Nat.add_comm 1 k] at h1
    have h2 := (over_under (k := k + 1) (fun z => by omega)).mp h1
    have h3 := erase_lt (k := k + 1) hn hi
    have h4 : num ((cas (k + 2) n).eraseIdx i) < r[k] := Nat.lt_of_lt_of_le h3 h2
    rw [hl, Nat.add_sub_cancel, g0]
    show (_ || decide (num ((cas (k + 2) n).eraseIdx i) < r[k])) = true
    rw [decide_eq_true h4, Bool.or_true]
theorem good_cas {s n b : Nat} (hs : s ≤ 20) (hn : n < 2 ^ b) (hb : b ≤ 4990) : Good (cas s n) (b + 5) :=
  ⟨(cas_down s n).1, by rw [cas_length]; exact hs, fun x hx => by
    have := cas_bound hx
    rw [Nat.pow_add]
    omega, by omega⟩
theorem Good.erase {l : List Nat} {b : Nat} (h : Good l b) (i : Nat) : Good (l.eraseIdx i) b :=
  ⟨h.down.sublist (List.eraseIdx_sublist l i), Nat.le_trans (List.Sublist.length_le (List.eraseIdx_sublist l i)) h.few, fun x hx => h.small x ((List.eraseIdx_sublist l i).subset hx), h.bits⟩
/-- n, n - 1, .., 0 -/
def downTo (n : Nat) : List Nat := (List.range (n + 1)).map fun k => n - k
theorem rgS_down (n : Nat) : rgS (n : Int) (-1) (n + 1) = natsV (downTo n) := by
  unfold rgS natsV downTo
  rw [List.map_map]
  refine List.map_congr_left fun k hk => ?_
  have := List.mem_range.mp hk
  show V.int ((n : Int) + (k : Int) * -1) = V.int ((n - k : Nat) : Int)
  exact congrArg V.int (by omega)
theorem downTo_length (n : Nat) : (downTo n).length = n + 1 := by
  unfold downTo
  rw [List.length_map, List.length_range]
theorem downTo_down (n : Nat) : Down (downTo n) := by
  unfold downTo
  rw [Down, List.pairwise_map]
  refine List.Pairwise.imp_of_mem (fun {i j} h1 h2 h3 => ?_) List.pairwise_lt_range
  have h1 := List.mem_range.mp h1
  have h2 := List.mem_range.mp h2
  omega
theorem good_downTo {n : Nat} (h : n < 20) : Good (downTo n) 5 :=
  ⟨downTo_down n, by rw [downTo_length]; omega, fun x hx => by
    unfold downTo at hx
    obtain ⟨k, _, rfl⟩ := List.mem_map.mp hx
    omega, by decide⟩
theorem has_downTo (r : List Nat) : hasN r (downTo r.length) = false := by
  unfold hasN
  have e : (downTo r.length).isEmpty = false := by
    have := downTo_length r.length
    cases h : downTo r.length with
    | nil => rw [h] at this; simp at this
    | cons a l => rfl
  rw [e, downTo_length, Nat.add_sub_cancel, List.getElem?_eq_none (Nat.le_refl _)]
  rfl
theorem rg_nats (n : Nat) : rgV 0 (n : Int) = natsV (List.range n) := by
  unfold rgV natsV
  rw [Int.sub_zero, Int.toNat_natCast]
  refine List.map_congr_left fun i _ => ?_
  rw [Int.zero_add]
theorem rg_up (n : Nat) : rgV 1 ((n + 1 : Nat) : Int) = natsV ((List.range n).map fun k => k + 1) := by
  unfold rgV natsV
  rw [List.map_map, show (((n + 1 : Nat) : Int) - 1).toNat = n by omega]
  refine List.map_congr_left fun k _ => ?_
  exact congrArg V.int (by show (1 : Int) + (k : Int) = ((k + 1 : Nat) : Int); omega)
section
variable {P : Program} {w : World} {K : PySem.W.Frag} {mg : Str → Option Value} {base : Heap}
def spDue (T : Txt K mg) : Sp := fun vs H Q _ => ∃ (a x : Addr) (r : List Nat) (b : Nat) (o : Option (Int × Int)), vs = [.ref a, .ref x] ∧ Rw H a r b ∧ Ans T H x o ∧ ∀ H', Same H H' → Q (.bl (decide (exN r = o))) H'
noncomputable def dv__law_due {P : Program} {w : World} {K : PySem.W.Frag} {mg : Str → Option Value} {base : Heap} (T : Txt K mg)  {cdv : Value} {A : Around} {outer : List Env} {s : Shared} {H : Hp} {E : XK}
    (hr : Room 4 (A.deeper (envOfC "_law_due" (defScope s__law_due) s.heap.objs.size T.f__law_due cdv))) :
    Σ' t : TS, PSs (cxOf CX0 P w K mg base ["_law_row_here", "_law_found"] "_law_due" (defScope s__law_due) T.f__law_due cdv A outer s H E).nox (defBody s__law_due) t :=
  ⟨_, (pss_cons (ps_if (pt_val (pe_callB (call_isiK (K := K)) (by rfl) T.z_isinstance (by decide +kernel) (pa_cons (pv 1) (pa_cons (pe_glob (v := .ref T.k_Can) rfl T.g_Can rfl) pa_nil)))) (pss_one (ps_ret (pe_cmpR op_isN (pe_call (ok__law_least T) (hr.mono (by omega)) (by rfl) T.g__law_least T.F__law_least.kp T.b__law_least .nil pass0 (pa_cons (pv 0) pa_nil)) pe_non (nomark _)))) pss_nil)
      (pss_one (ps_ret (pe_and (pe_call (ok__law_whole T) (hr.mono (by omega)) (by rfl) T.g__law_whole T.F__law_whole.kp T.b__law_whole .nil pass0 (pa_cons (pe_fldK (K := K) (pv 1) (by rfl)) pa_nil)) (pe_and (pe_call (ok__law_whole T) (hr.mono (by omega)) (by rfl) T.g__law_whole T.F__law_whole.kp T.b__law_whole .nil pass0 (pa_cons (pe_fldK (K := K) (pv 1) (by rfl)) pa_nil)) (pe_one (pe_cmpR (op_eqDK (K := K) hr.units) (pe_call (ok__law_least T) (hr.mono (by omega)) (by rfl) T.g__law_least T.F__law_least.kp T.b__law_least .nil pass0 (pa_cons (pv 0) pa_nil)) (pe_tup (pa_cons (pe_fldK (K := K) (pv 1) (by rfl)) (pa_cons (pe_fldK (K := K) (pv 1) (by rfl)) pa_nil))) (nomark _))))))))⟩
theorem ok__law_due (T : Txt K mg) : FnOk P w K mg base CX0 5 T.f__law_due T.d__law_due ["_law_row_here", "_law_found"] (spDue T) := by
  refine T.F__law_due.ok sc__law_due (fun vs H Q E h => ?_) (fun cdv A outer s H vs Q E hr h => ⟨_, (dv__law_due T hr).2, ?_⟩)
  · obtain ⟨a, x, r, b, o, rfl, _⟩ := h
    rfl
  · obtain ⟨a, x, r, b, o, rfl, ha, hx, q⟩ := h
    cases o with
    | none =>
      obtain ⟨dx, hx⟩ := hx
      refine ⟨_, rfl, _, _, _, _, true, rfl, .own _, isi_ins hx T.C_Can T.I_Can, T.s_Can_Can, true, rfl, iteT ?_⟩
      refine ⟨_, rfl, a, r, b, rfl, ha.at_, ha.few, ha.small, ha.bits, fun v H1 s1 hv => ⟨rfl, ?_⟩⟩
      rw [hv.dec]
      exact q H1 s1
    | some p =>
      obtain ⟨i, j⟩ := p
      obtain ⟨dx, hx⟩ := hx
      refine ⟨_, rfl, _, _, _, _, false, rfl, .own _, isi_ins hx T.C_Barred T.I_Barred, T.s_Barred_Can, false, rfl, iteF ?_⟩
      refine ⟨_, rfl, x, T.k_Barred, dx, _, _, rfl, hx, T.C_Barred, T.n_Barred_size, bf_size _ _, i, rfl, true, rfl, iteT ?_⟩
      refine ⟨_, rfl, x, T.k_Barred, dx, _, _, rfl, hx, T.C_Barred, T.n_Barred_most, bf_most _ _, j, rfl, true, rfl, iteT ?_⟩
      refine ⟨_, rfl, a, r, b, rfl, ha.at_, ha.few, ha.small, ha.bits, fun v H1 s1 hv => ?_⟩
      have hx1 := s1 _ _ hx
      refine ⟨_, rfl, x, T.k_Barred, dx, _, _, rfl, hx1, T.C_Barred, T.n_Barred_size, bf_size _ _, _, rfl, x, T.k_Barred, dx, _, _, rfl, hx1, T.C_Barred, T.n_Barred_most, bf_most _ _, (by show 2 ≤ sizeLine; decide), fun t nt => ?_⟩
      exact eqP (hv.same (same_new nt)).p (.some (.of upd_same)) (q _ (s1.trans (same_new nt)))
/-- sets of one size by their numbers -/
def Sts (H : Hp) (s x : Nat) (ps : List (Addr × Nat)) : Prop := ∀ q ∈ ps, H q.1 = some (.lst (natsV (cas s q.2))) ∧ q.2 < x
def spFamily : Sp := fun vs H Q _ => ∃ (a : Addr) (r : List Nat) (b c : Nat), vs = [.ref a, .int (c : Int)] ∧ Rw H a r b ∧ b ≤ 4990 ∧ leastN r = none ∧ r ≠ [] ∧ c < many ∧ ∀ H', Same H H' → Q (.bl true) H'
noncomputable def dv__law_family_right {P : Program} {w : World} {K : PySem.W.Frag} {mg : Str → Option Value} {base : Heap} (T : Txt K mg)  {cdv : Value} {A : Around} {outer : List Env} {s : Shared} {H : Hp} {E : XK}
    (hr : Room 37 (A.deeper (envOfC "_law_family_right" (defScope s__law_family_right) s.heap.objs.size T.f__law_family_right cdv))) :
    Σ' t : TS, PSs (cxOf CX0 P w K mg base ["_law_row_here", "_law_cell", "_law_sizes", "_law_size", "_law_count", "_law_number", "_law_some", "_law_near", "_law_at"] "_law_family_right" (defScope s__law_family_right) T.f__law_family_right cdv A outer s H E).nox (defBody s__law_family_right) t :=
  ⟨_, (pss_cons (ps_set (i := 2) sc__law_family_right.nd rfl (.inl rfl) (pe_ifExp (pt_cmpR op_nGt (pe_callB (call_lenK (K := K)) (by rfl) T.z_len PySem.boot_len (pa_cons (pv 0) pa_nil)) pe_int (nomark _)) (pe_lst (pa_cons (pe_op op_nAdd pe_int (pe_op op_nMod (pv 1) (pe_callB (call_lenK (K := K)) (by rfl) T.z_len PySem.boot_len (pa_cons (pv 0) pa_nil)))) (pa_cons (pe_callB (call_lenK (K := K)) (by rfl) T.z_len PySem.boot_len (pa_cons (pv 0) pa_nil)) pa_nil))) (pe_listRg rfl (by rfl) T.z_list (prg_2 (by rfl) T.z_range pe_int (pe_op op_nAdd (pe_callB (call_lenK (K := K)) (by rfl) T.z_len PySem.boot_len (pa_cons (pv 0) pa_nil)) pe_int)))))
      (pss_cons (ps_for PassesOwn.never rfl (pi_list (pv 2)) (pg_name (i := 3) sc__law_family_right.nd rfl (.inl rfl)) (pss_cons (ps_set (i := 4) sc__law_family_right.nd rfl (.inl rfl) (pe_ix (ix_listK (K := K)) (pv 0) (pe_op op_nSub (pv 3) pe_int) (fun _ _ => rfl)))
      (pss_cons (ps_if (pt_not (pt_val (pe_call (ok__law_says T) (hr.mono (by omega)) (by rfl) T.g__law_says T.F__law_says.kp T.b__law_says .nil pass0 (pa_cons (pe_call (ok_has T) (hr.mono (by omega)) (by rfl) T.g_has T.F_has.kp T.b_has .nil pass0 (pa_cons (pv 0) (pa_cons (pe_call (ok__law_set T) (hr.mono (by omega)) (by rfl) T.g__law_set T.F__law_set.kp T.b__law_set .nil pass0 (pa_cons (pv 3) (pa_cons (pv 4) pa_nil))) pa_nil))) (pa_cons pe_bl pa_nil))))) (pss_one (ps_ret pe_bl)) pss_nil)
      (pss_one (ps_if (pt_cmpR op_nGt (pv 4) pe_int (nomark _)) (pss_cons (ps_set (i := 5) sc__law_family_right.nd rfl (.inl rfl) (pe_op op_nMod (pe_op op_nMul (pe_op op_nAdd (pv 1) (pe_op op_nMul pe_int (pv 3))) (pe_op op_nAdd (pv 1) pe_int)) (pv 4)))
      (pss_one (ps_for PassesOwn.never rfl (pi_tup (pe_tup (pa_cons (pe_call (ok__law_set T) (hr.mono (by omega)) (by rfl) T.g__law_set T.F__law_set.kp T.b__law_set .nil pass0 (pa_cons (pv 3) (pa_cons (pv 5) pa_nil))) (pa_cons (pe_call (ok__law_set T) (hr.mono (by omega)) (by rfl) T.g__law_set T.F__law_set.kp T.b__law_set .nil pass0 (pa_cons (pv 3) (pa_cons (pe_op op_nSub (pv 4) pe_int) pa_nil))) pa_nil)))) (pg_name (i := 6) sc__law_family_right.nd rfl (.inr rfl)) (pss_cons (ps_if (pt_not (pt_val (pe_call (ok__law_says T) (hr.mono (by omega)) (by rfl) T.g__law_says T.F__law_says.kp T.b__law_says .nil pass0 (pa_cons (pe_call (ok_has T) (hr.mono (by omega)) (by rfl) T.g_has T.F_has.kp T.b_has .nil pass0 (pa_cons (pv 0) (pa_cons (pv 6) pa_nil))) (pa_cons pe_bl pa_nil))))) (pss_one (ps_ret pe_bl)) pss_nil)
      (pss_cons (ps_set (i := 7) sc__law_family_right.nd rfl (.inl rfl) (pe_listRg rfl (by rfl) T.z_list (prg_1 (by rfl) T.z_range (pe_ifExp (pt_cmpR op_nLt (pe_callB (call_lenK (K := K)) (by rfl) T.z_len PySem.boot_len (pa_cons (pv 0) pa_nil)) pe_int (nomark _)) (pv 3) pe_int))))
      (pss_one (ps_if (pt_not (pt_val (pe_callB (cr_allK (K := K) rfl) (by rfl) T.z_all (by decide +kernel) (pa_cons (pe_lc (g := gName 8) (own := [("_law_at", 8)]) rfl sc__law_family_right.nd (pi_list (pv 7)) (blkOk_by (own := [("_law_at", 8)]) (N := ["_law_row_here", "_law_cell", "_law_sizes", "_law_size", "_law_count", "_law_number", "_law_some", "_law_near", "_law_at"]) (sc := defScope s__law_family_right) (by decide +kernel)) (fun _ _ _ _ _ => by exact (pg_name (i := 8) sc__law_family_right.nd rfl (.inl rfl))) (fun _ _ _ _ _ => by exact pts_nil) (fun _ _ _ _ _ => by exact (pe_call (ok__law_says T) (hr.mono (by omega)) (by rfl) T.g__law_says T.F__law_says.kp T.b__law_says .nil pass0 (pa_cons (pe_call (ok_has T) (hr.mono (by omega)) (by rfl) T.g_has T.F_has.kp T.b_has .nil pass0 (pa_cons (pv 0) (pa_cons (pe_op op_cat (pe_slice (sl_listK (K := K)) (pv 6) po_none (po_some (pv 8))) (pe_slice (sl_listK (K := K)) (pv 6) (po_some (pe_op op_nAdd (pv 8) pe_int)) po_none)) pa_nil))) (pa_cons pe_bl pa_nil))))) pa_nil)))) (pss_one (ps_ret pe_bl)) pss_nil))))))) pss_nil)))))
      (pss_cons (ps_if (PW.pt (pw_and (pt_cmpR op_nLt (pe_callB (call_lenK (K := K)) (by rfl) T.z_len PySem.boot_len (pa_cons (pv 0) pa_nil)) pe_int (nomark _)) (pw_and1 (pt_not (pt_val (pe_call (ok__law_says T) (hr.mono (by omega)) (by rfl) T.g__law_says T.F__law_says.kp T.b__law_says .nil pass0 (pa_cons (pe_call (ok_has T) (hr.mono (by omega)) (by rfl) T.g_has T.F_has.kp T.b_has .nil pass0 (pa_cons (pv 0) (pa_cons (pe_listRg3 rfl (by rfl) T.z_list (by rfl) T.z_range (pa_cons (pe_callB (call_lenK (K := K)) (by rfl) T.z_len PySem.boot_len (pa_cons (pv 0) pa_nil)) (pa_cons (pe_un un_neg pe_int) (pa_cons (pe_un un_neg pe_int) pa_nil)))) pa_nil))) (pa_cons pe_bl pa_nil)))))))) (pss_one (ps_ret pe_bl)) pss_nil)
      (pss_one (ps_ret (pe_call (ok__law_says T) (hr.mono (by omega)) (by rfl) T.g__law_says T.F__law_says.kp T.b__law_says .nil pass0 (pa_cons (pe_call (ok_has T) (hr.mono (by omega)) (by rfl) T.g_has T.F_has.kp T.b_has .nil pass0 (pa_cons (pv 0) (pa_cons (pe_lst pa_nil) pa_nil))) (pa_cons pe_bl pa_nil))))))))⟩
theorem ok__law_family_right (T : Txt K mg) : FnOk P w K mg base CX0 38 T.f__law_family_right T.d__law_family_right ["_law_row_here", "_law_cell"] spFamily := by
  refine T.F__law_family_right.ok sc__law_family_right (fun vs H Q E h => ?_) (fun cdv A outer s H vs Q E hr h => ⟨_, (dv__law_family_right T hr).2, ?_⟩)
  · obtain ⟨a, r, b, c, rfl, _⟩ := h
    rfl
  · obtain ⟨a, r, b, c, rfl, ha, hb, h0, hne, hc, q⟩ := h
    have z2 : 2 ≤ sizeLine := by show 2 ≤ sizeLine; decide
    have hlen : 0 < r.length := List.length_pos_iff.mpr hne
    have h20 := ha.few
    have hm : many < 2 ^ 134 := Nat.lt_of_succ_lt many_lt2
    -- the sizes
    refine ⟨_, rfl, a, natsV r, rfl, .inl (.of ha.at_), ?_⟩
    rw [natsV_length]
    refine ⟨r.length, 2, rfl, rfl, _, rfl, ?_⟩
    refine tIf_at (fun v H' => ∃ (e : Addr) (ss : List Nat), v = .ref e ∧ Same H H' ∧ H' e = some (.lst (natsV ss)) ∧ ∀ s ∈ ss, 1 ≤ s ∧ s ≤ r.length) (fun c1 Q' h => ?_) (fun c1 Q' h => ?_) ?_
    · refine ⟨_, rfl, _, rfl, a, natsV r, rfl, .inl (.of ha.at_), ?_⟩
      rw [natsV_length]
      refine ⟨c, r.length, rfl, rfl, hlen, 1, c % r.length, rfl, rfl, _, rfl, a, natsV r, rfl, .inl (.of ha.at_), ?_⟩
      rw [natsV_length]
      have hmod := Nat.mod_lt c hlen
      refine ⟨z2, fun e ne => h _ _ ⟨e, [1 + c % r.length, r.length], rfl, same_new ne, upd_same, fun s hs => ?_⟩⟩
      simp only [List.mem_cons, List.not_mem_nil, or_false] at hs
      rcases hs with rfl | rfl <;> omega
    · refine ⟨_, rfl, a, natsV r, rfl, .inl (.of ha.at_), ?_⟩
      rw [natsV_length]
      refine ⟨r.length, 1, rfl, rfl, 1, ((r.length + 1 : Nat) : Int), rfl, rfl, RgOk.of_le (by omega) (by omega) (by omega) (by omega), fun e ne => ?_⟩
      rw [rg_up]
      refine h _ _ ⟨e, _, rfl, same_new ne, upd_same, fun s hs => ?_⟩
      obtain ⟨k, hk, rfl⟩ := List.mem_map.mp hs
      have := List.mem_range.mp hk
      omega
    rintro v H1 ⟨e, ss, rfl, s1, he, hss⟩
    refine ⟨_, rfl, e, rfl, ⟨_, .of he⟩, ?_⟩
    refine for1_list (xs := natsV ss) (fun i σ H' => Same H1 H' ∧ ∃ y3 y4 y5 y6 y7, σ = [some (.ref a), some (.int (c : Int)), some (.ref e), y3, y4, y5, y6, y7, none]) ⟨Same.refl _, _, _, _, _, _, rfl⟩ (fun i σ H' h => .of (h.1 _ _ he)) ?_ ?_
    · rintro i y σ H2 hy ⟨s2, y3, y4, y5, y6, y7, rfl⟩
      obtain ⟨s, hs, rfl⟩ := get_natsV hy
      obtain ⟨hs1, hsl⟩ := hss s (List.mem_of_getElem? hs)
      have ha2 := (ha.same s1).same s2
      have g : r[s - 1]? = some r[s - 1] := List.getElem?_eq_getElem (by omega)
      have hx := ha.small _ (List.getElem_mem (l := r) (n := s - 1) (by omega))
      generalize r[s - 1] = x at g hx
      refine ⟨_, rfl, _, rfl, s, 1, rfl, rfl, by omega, a, natsV r, ((s - 1 : Nat) : Int), _, rfl, rfl, .of ha2.at_, atI_nat (natsV_get g), ?_⟩
      -- the first one that it hasn't
      refine ⟨_, rfl, _, rfl, _, rfl, s, x, b, rfl, by omega, hx, by omega, fun H3 p s3 np hp => ?_⟩
      have ha3 := ha2.same s3
      refine ⟨a, p, r, cas s x, b, b + 5, rfl, ha3, h0, hp, good_cas (by omega) hx hb, fun H4 s4 => ?_⟩
      rw [has_cas hs1 g, decide_eq_false (Nat.lt_irrefl x)]
      refine ⟨_, _, rfl, _, rfl, decNT rfl ?_⟩
      have ha4 := ha3.same s4
      have s24 := s2.trans (s3.trans s4)
      refine ⟨_, rfl, x, 0, rfl, rfl, _, rfl, dec2 (fun c1 => ?_) (fun c1 => ?_)⟩
      · -- sets that it has
        have nm1 : 977 * s < 2 ^ 20 := by omega
        refine ⟨_, rfl, _, rfl, 977, s, rfl, rfl, ⟨10, 5, by decide, by omega, by decide⟩, c, 977 * s, rfl, rfl, _, rfl, c, 7, rfl, rfl, _, _, rfl, rfl, ⟨135, 135, ?_, ?_, by decide⟩, _, rfl, _, x, rfl, rfl, c1, ?_⟩
        · have : (2 : Nat) ^ 135 = 2 ^ 134 * 2 := Nat.pow_add 2 134 1
          have : (2 : Nat) ^ 20 ≤ 2 ^ 134 := Nat.pow_le_pow_right (by decide) (by decide)
          omega
        · have : (2 : Nat) ^ 135 = 2 ^ 134 * 2 := Nat.pow_add 2 134 1
          have : (2 : Nat) ^ 3 ≤ 2 ^ 134 := Nat.pow_le_pow_right (by decide) (by decide)
          omega
        have hn := Nat.mod_lt ((c + 977 * s) * (c + 7)) c1
        generalize ((c + 977 * s) * (c + 7)) % x = n at hn ⊢
        refine ⟨_, rfl, _, rfl, s, n, b, rfl, by omega, Nat.lt_trans hn hx, by omega, fun H5 p1 s5 np1 hp1 => ?_⟩
        refine ⟨_, rfl, _, rfl, x, 1, rfl, rfl, c1, s, x - 1, b, rfl, by omega, by omega, by omega, fun H6 p2 s6 np2 hp2 => ?_⟩
        refine ⟨z2, fun t nt => ?_⟩
        generalize hh : upd _ t _ = H7 at ⊢
        have s7 := new_same nt hh
        have g7 := new_at hh
        clear hh
        obtain ⟨ps, hps, hst⟩ : ∃ ps : List (Addr × Nat), [.ref p1, .ref p2] = ps.map (fun q => V.ref q.1) ∧ Sts H7 s x ps := by
          refine ⟨[(p1, n), (p2, x - 1)], rfl, fun q hq => ?_⟩
          simp only [List.mem_cons, List.not_mem_nil, or_false] at hq
          rcases hq with rfl | rfl
          · exact ⟨s7 _ _ (s6 _ _ hp1), hn⟩
          · exact ⟨s7 _ _ hp2, by show x - 1 < x; omega⟩
        rw [hps] at g7
        have s47 := s5.trans (s6.trans s7)
        have ha7 := ha4.same s47
        replace s24 := s24.trans s47
        clear hps s7 s6 s5 s47 nt np1 np2 hp1 hp2 ha4 ha3 ha2 s4 s3 hp np s2
        refine ⟨t, rfl, ⟨_, .of g7⟩, ?_⟩
        refine for_tup (xs := ps.map fun q => V.ref q.1) (fun i σ H' => Same H7 H' ∧ ∃ y6 y7, σ = [some (.ref a), some (.int (c : Int)), some (.ref e), some (.int (s : Int)), some (.int (x : Int)), some (.int (n : Int)), y6, y7, none])
          ⟨Same.refl _, _, _, rfl⟩ (fun i σ H' _ h => .of (h.1 _ _ g7)) ?_ ?_
        · rintro i y σ H8 hy ⟨s8, y6, y7, rfl⟩
          obtain ⟨⟨p, m⟩, hq, rfl⟩ := get_map hy
          obtain ⟨hp, hmx⟩ := hst _ (List.mem_of_getElem? hq)
          have hp : H7 p = some (.lst (natsV (cas s m))) := hp
          have hmx : m < x := hmx
          have ha8 := ha7.same s8
          have hp8 := s8 _ _ hp
          have hg := good_cas (s := s) (n := m) (b := b) (by omega) (Nat.lt_trans hmx hx) hb
          refine ⟨_, rfl, _, rfl, a, p, r, cas s m, b, b + 5, rfl, ha8, h0, hp8, hg, fun H9 s9 => ?_⟩
          rw [has_cas hs1 g, decide_eq_true hmx]
          refine ⟨_, _, rfl, _, rfl, decNT rfl ?_⟩
          have ha9 := ha8.same s9
          have hp9 := s9 _ _ hp8
          -- what lies within
          refine ⟨_, rfl, a, natsV r, rfl, .inl (.of ha9.at_), ?_⟩
          rw [natsV_length]
          refine ⟨r.length, 7, rfl, rfl, _, rfl, ?_⟩
          refine tIf_at (fun v H' => H' = H9 ∧ ∃ k : Nat, v = .int (k : Int) ∧ k ≤ s) (fun c2 Q' h => ⟨_, rfl, h _ _ ⟨rfl, s, rfl, Nat.le_refl _⟩⟩) (fun c2 Q' h => h _ _ ⟨rfl, 1, rfl, hs1⟩) ?_
          rintro v H10 ⟨rfl, k, rfl, hk⟩
          refine ⟨(k : Int), rfl, RgOk.of_le (by omega) (by omega) (by omega) (by omega), fun d nd => ?_⟩
          rw [rg_nats]
          generalize hh : upd _ d _ = H11 at ⊢
          have s11 := new_same nd hh
          have g11 := new_at hh
          clear hh
          replace ha9 := ha9.same s11
          replace hp9 := s11 _ _ hp9
          refine ⟨_, rfl, d, rfl, ⟨_, .of g11⟩, fun D nD => ?_⟩
          refine lc1_list (xs := natsV (List.range k)) (fun i acc H' => Same H11 H' ∧ acc = List.replicate i (V.bl true)) ⟨same_new nD, rfl⟩ (fun i acc H' h => .of (h.1 _ _ g11)) (fun _ => rfl) ?_ ?_
          · rintro i y acc H12 hy hl hD ⟨sm, he2⟩
            obtain ⟨j, hj, rfl⟩ := get_natsV hy
            obtain ⟨hi, ej⟩ := List.getElem?_eq_some_iff.mp hj
            rw [List.getElem_range] at ej
            subst ej
            rw [List.length_range] at hi
            have hp12 := sm _ _ hp9
            refine ⟨_, rfl, _, rfl, _, rfl, (i : Int), rfl, p, natsV (cas s m), rfl, .of hp12, fun p1 n1 => ?_⟩
            rw [cut_to, natsV_take]
            generalize hh : upd _ p1 _ = K1 at ⊢
            have w1 := new_same n1 hh
            have f1 := new_at hh
            clear hh
            refine ⟨_, rfl, _, rfl, i, 1, rfl, rfl, ((i + 1 : Nat) : Int), rfl, p, natsV (cas s m), rfl, .of (w1 _ _ hp12), fun p2 n2 => ?_⟩
            rw [cut_from, natsV_drop]
            generalize hh : upd _ p2 _ = K2 at ⊢
            have w2 := new_same n2 hh
            have f2 := new_at hh
            clear hh
            refine ⟨p1, p2, _, _, rfl, rfl, w2 _ _ f1, f2, ?_, fun p3 n3 => ?_⟩
            · rw [natsV_length, natsV_length, List.length_take, List.length_drop, cas_length]
              exact Nat.le_of_lt (small1000 (by omega))
            rw [natsV_append, ← List.eraseIdx_eq_take_drop_succ]
            generalize hh : upd _ p3 _ = K3 at ⊢
            have w3 := new_same n3 hh
            have f3 := new_at hh
            clear hh
            have sk := (w1.trans w2).trans w3
            refine ⟨a, p3, r, (cas s m).eraseIdx i, b, b + 5, rfl, (ha9.same sm).same sk, h0, f3, hg.erase i, fun K4 w4 => ?_⟩
            rw [has_near h0 hs1 g hmx (by omega)]
            have sk4 := sk.trans w4
            refine ⟨true, true, rfl, LcN.put (sk4 _ _ hD) hl (small1000 (by omega)) ⟨same_free (sm.trans sk4) nD, ?_⟩⟩
            rw [he2, List.replicate_succ']
            rfl
          rintro acc H12 hl hD ⟨sm, he2⟩
          subst he2
          rw [natsV_length, List.length_range] at hD
          refine ⟨D, List.replicate k true, rfl, .of (by rw [List.map_replicate]; exact hD), ?_⟩
          have eall : (List.replicate k true).all id = true := by simp
          rw [eall]
          exact ⟨true, rfl, iteF ⟨(s8.trans s9).trans (s11.trans sm), _, _, rfl⟩⟩
        · rintro σ H8 ⟨s8, y6, y7, rfl⟩
          exact ⟨s24.trans s8, _, _, _, _, _, rfl⟩
      · exact ⟨s24, _, _, _, _, _, rfl⟩
    · rintro σ H2 ⟨s2, y3, y4, y5, y6, y7, rfl⟩
      have s12 := s1.trans s2
      have ha2 := ha.same s12
      have gnil : Good [] 5 := ⟨List.Pairwise.nil, Nat.zero_le _, fun x h => (nomatch h), by decide⟩
      refine ⟨_, rfl, a, natsV r, rfl, .inl (.of ha2.at_), ?_⟩
      rw [natsV_length]
      refine ⟨r.length, 20, rfl, rfl, _, rfl, dec2 (fun c2 => ?_) (fun c2 => iteF ?_)⟩
      · refine ⟨_, rfl, _, rfl, a, natsV r, rfl, .inl (.of ha2.at_), ?_⟩
        rw [natsV_length]
        refine ⟨1, rfl, 1, rfl, (r.length : Int), -1, -1, r.length + 1, rfl, ?_, by omega, fun d nd => ?_⟩
        · have h := RgC.neg (i := (r.length : Int)) (j := -1) (by omega) (by omega) (by omega) (by omega)
          rwa [show ((r.length : Int) - -1).toNat = r.length + 1 by omega] at h
        rw [rgS_down]
        generalize hh : upd _ d _ = H3 at ⊢
        have s3 := new_same nd hh
        have g3 := new_at hh
        clear hh
        have ha3 := ha2.same s3
        refine ⟨a, d, r, downTo r.length, b, 5, rfl, ha3, h0, g3, good_downTo c2, fun H4 s4 => ?_⟩
        rw [has_downTo]
        refine ⟨_, _, rfl, _, rfl, decNT rfl ?_⟩
        have ha4 := ha3.same s4
        refine ⟨_, rfl, Nat.zero_le _, fun f nf => ?_⟩
        generalize hh : upd _ f _ = H5 at ⊢
        have s5 := new_same nf hh
        have g5 := new_at hh
        clear hh
        refine ⟨a, f, r, [], b, 5, rfl, ha4.same s5, h0, g5, gnil, fun H6 s6 => ?_⟩
        refine ⟨hasN r [], true, rfl, ?_⟩
        exact q _ (s12.trans (s3.trans (s4.trans (s5.trans s6))))
      · refine ⟨_, rfl, Nat.zero_le _, fun f nf => ?_⟩
        generalize hh : upd _ f _ = H5 at ⊢
        have s5 := new_same nf hh
        have g5 := new_at hh
        clear hh
        refine ⟨a, f, r, [], b, 5, rfl, ha2.same s5, h0, g5, gnil, fun H6 s6 => ?_⟩
        refine ⟨hasN r [], true, rfl, ?_⟩
        exact q _ (s12.trans (s5.trans s6))
end
end Sh

/-! The law of rows: a row is right. -/
namespace Sh
open PySem PySem.Spec PyProof.Rows L2
theorem not_self (b : Bool) : ¬ b = !b := by cases b <;> decide
theorem bf_shows (i j : Int) : (bf i j).lookup ("shows" : Str) = none := bf_no i j (by decide +kernel) (by decide +kernel)
section
variable {P : Program} {w : World} {K : PySem.W.Frag} {mg : Str → Option Value} {base : Heap}
/-- what isinstance tells of an answer -/
structure Kinds (T : Txt K mg) (t : Value) (o : Option (Int × Int)) : Prop where
  ans : PySem.W.kitOne K t (.ref T.k_Answer) = some true
  can : PySem.W.kitOne K t (.ref T.k_Can) = some o.isNone
  bar : PySem.W.kitOne K t (.ref T.k_Barred) = some (!o.isNone)
theorem ans_kinds {T : Txt K mg} {H : Hp} {x : Addr} {o : Option (Int × Int)} (h : Ans T H x o) : ∃ t, TyX K H (.ref x) t ∧ Kinds T t o := by
  cases o with
  | none =>
    obtain ⟨dx, h⟩ := h
    exact ⟨_, isi_ins h T.C_Can T.I_Can, T.s_Can_Answer, T.s_Can_Can, T.s_Can_Barred⟩
  | some p =>
    obtain ⟨i, j⟩ := p
    obtain ⟨dx, h⟩ := h
    exact ⟨_, isi_ins h T.C_Barred T.I_Barred, T.s_Barred_Answer, T.s_Barred_Can, T.s_Barred_Barred⟩
theorem meth2_ans {T : Txt K mg} {H : Hp} {x a : Addr} {r : List Nat} {b : Nat} {o : Option (Int × Int)} {Q : VK} {E : XK} {ta : TE} {t : TA} {σ : L2.St} (h1 : ∀ R : VK, R (.ref x) H → ta σ H R) (h2 : ∀ R : List V → Hp → Prop, R [.ref a] H → t σ H R)
    (hx : Ans T H x o) (ha : Rw H a r b) (q : ∀ H', Same H H' → Q (.bl (decide (exN r = o))) H') : tMeth2 T.k_Can T.k_Barred "shows" (spShows T isNone) (spShows T isPair) E ta t σ H Q := by
  refine h1 _ ?_
  cases ho : o with
  | none =>
    subst ho
    obtain ⟨dx, h⟩ := id hx
    exact ⟨x, dx, [], rfl, rfl, .inl ⟨h, h2 _ ⟨x, a, none, r, b, rfl, rfl, hx, ha, q⟩⟩⟩
  | some p =>
    obtain ⟨i, j⟩ := p
    subst ho
    obtain ⟨dx, h⟩ := id hx
    exact ⟨x, dx, _, rfl, bf_shows i j, .inr ⟨h, h2 _ ⟨x, a, some (i, j), r, b, rfl, ⟨i, j, rfl⟩, hx, ha, q⟩⟩⟩
/-- rows -/
def Rws (H : Hp) (b : Nat) (os : List (Addr × List Nat)) : Prop := ∀ q ∈ os, Rw H q.1 q.2 b
abbrev refsR (os : List (Addr × List Nat)) : List V := os.map fun q => V.ref q.1
theorem Rws.same {H H' : Hp} {b : Nat} {os : List (Addr × List Nat)} (h : Rws H b os) (s : Same H H') : Rws H' b os := fun q hq => (h q hq).same s
def spRight : Sp := fun vs H Q _ => ∃ (a o : Addr) (r : List Nat) (b c : Nat) (os : List (Addr × List Nat)), vs = [.ref a, .ref o, .int (c : Int)] ∧ Rw H a r b ∧ b ≤ 4990 ∧ H o = some (.lst (refsR os)) ∧ os.length ≤ 100 ∧ Rws H b os ∧ c < many ∧ ∀ H', Same H H' → Q (.bl true) H'
noncomputable def dv__law_right {P : Program} {w : World} {K : PySem.W.Frag} {mg : Str → Option Value} {base : Heap} (T : Txt K mg)  {cdv : Value} {A : Around} {outer : List Env} {s : Shared} {H : Hp} {E : XK}
    (hr : Room 38 (A.deeper (envOfC "_law_right" (defScope s__law_right) s.heap.objs.size T.f__law_right cdv))) :
    Σ' t : TS, PSs (cxOf CX0 P w K mg base ["_law_row_here", "_law_others", "_law_cell", "_law_kept", "_law_found", "_law_other"] "_law_right" (defScope s__law_right) T.f__law_right cdv A outer s H E).nox (defBody s__law_right) t :=
  ⟨_, (pss_cons (ps_set (i := 3) sc__law_right.nd rfl (.inl rfl) (pe_callTy (call_listK (K := K)) (by rfl) T.z_list (by decide +kernel) (pa_cons (pv 0) pa_nil)))
      (pss_cons (ps_set (i := 4) sc__law_right.nd rfl (.inr rfl) (pe_call (ok_told T) (hr.mono (by omega)) (by rfl) T.g_told T.F_told.kp T.b_told .nil pass0 (pa_cons (pv 0) pa_nil)))
      (pss_cons (ps_if (PW.pt (pw_or (pt_not (pt_val (pe_callB (call_isiK (K := K)) (by rfl) T.z_isinstance (by decide +kernel) (pa_cons (pv 4) (pa_cons (pe_glob (v := .ref T.k_Answer) rfl T.g_Answer rfl) pa_nil))))) (pw_or1 (pt_cmpR op_bEq (pe_callB (call_isiK (K := K)) (by rfl) T.z_isinstance (by decide +kernel) (pa_cons (pv 4) (pa_cons (pe_glob (v := .ref T.k_Can) rfl T.g_Can rfl) pa_nil))) (pe_callB (call_isiK (K := K)) (by rfl) T.z_isinstance (by decide +kernel) (pa_cons (pv 4) (pa_cons (pe_glob (v := .ref T.k_Barred) rfl T.g_Barred rfl) pa_nil))) (nomark _))))) (pss_one (ps_ret pe_bl)) pss_nil)
      (pss_cons (ps_if (PW.pt (pw_or (pt_not (pt_val (pe_call (ok__law_due T) (hr.mono (by omega)) (by rfl) T.g__law_due T.F__law_due.kp T.b__law_due .nil pass0 (pa_cons (pv 0) (pa_cons (pv 4) pa_nil))))) (pw_or1 (pt_cmpR op_isnot_bl (pe_meth2 (pv 4) T.C_Can T.C_Barred T.m_Can_shows T.m_Barred_shows (ok_Can_shows T) (ok_Barred_shows T) (hr.mono (by omega)) T.b_Can_shows T.b_Barred_shows pass0 (pa_cons (pv 0) pa_nil)) pe_bl (nomark _))))) (pss_one (ps_ret pe_bl)) pss_nil)
      (pss_cons (ps_if (pt_not (pt_val (pe_callB (cr_allK (K := K) rfl) (by rfl) T.z_all (by decide +kernel) (pa_cons (pe_lc (g := gName 5) (own := [("_law_other", 5)]) rfl sc__law_right.nd (pi_list (pv 1)) (blkOk_by (own := [("_law_other", 5)]) (N := ["_law_row_here", "_law_others", "_law_cell", "_law_kept", "_law_found", "_law_other"]) (sc := defScope s__law_right) (by decide +kernel)) (fun _ _ _ _ _ => by exact (pg_name (i := 5) sc__law_right.nd rfl (.inl rfl))) (fun _ _ _ _ _ => by exact pts_nil) (fun _ _ _ _ _ => by exact (pe_call (ok__law_says T) (hr.mono (by omega)) (by rfl) T.g__law_says T.F__law_says.kp T.b__law_says .nil pass0 (pa_cons (pe_meth2 (pv 4) T.C_Can T.C_Barred T.m_Can_shows T.m_Barred_shows (ok_Can_shows T) (ok_Barred_shows T) (hr.mono (by omega)) T.b_Can_shows T.b_Barred_shows pass0 (pa_cons (pv 5) pa_nil)) (pa_cons (pe_call (ok__law_due T) (hr.mono (by omega)) (by rfl) T.g__law_due T.F__law_due.kp T.b__law_due .nil pass0 (pa_cons (pv 5) (pa_cons (pv 4) pa_nil))) pa_nil))))) pa_nil)))) (pss_one (ps_ret pe_bl)) pss_nil)
      (pss_cons (ps_if (PW.pt (pw_and (pt_val (pe_callB (call_isiK (K := K)) (by rfl) T.z_isinstance (by decide +kernel) (pa_cons (pv 4) (pa_cons (pe_glob (v := .ref T.k_Can) rfl T.g_Can rfl) pa_nil)))) (pw_and1 (pt_cmpR (op_neDK (K := K) hr.units) (pv 0) (pe_lst pa_nil) (nomark _))))) (pss_cons (ps_if (pt_not (pt_val (pe_call (ok__law_family_right T) (hr.mono (by omega)) (by rfl) T.g__law_family_right T.F__law_family_right.kp T.b__law_family_right .nil pass0 (pa_cons (pv 0) (pa_cons (pv 2) pa_nil))))) (pss_one (ps_ret pe_bl)) pss_nil)
      (pss_one (ps_if (PW.pt (pw_and (pt_cmpR op_nLt (pe_callB (call_lenK (K := K)) (by rfl) T.z_len PySem.boot_len (pa_cons (pv 0) pa_nil)) pe_int (nomark _)) (pw_and1 (pt_cmpR op_nNe (pe_call (ok_most T) (hr.mono (by omega)) (by rfl) T.g_most T.F_most.kp T.b_most .nil pass0 (pa_cons (pv 0) pa_nil)) (pe_call (ok__law_moved T) (hr.mono (by omega)) (by rfl) T.g__law_moved T.F__law_moved.kp T.b__law_moved .nil pass0 (pa_cons (pe_callB (call_lenK (K := K)) (by rfl) T.z_len PySem.boot_len (pa_cons (pv 0) pa_nil)) (pa_cons (pe_ix (ix_listK (K := K)) (pv 0) (pe_un un_neg pe_int) (fun _ _ => rfl)) (pa_cons pe_int pa_nil)))) (nomark _))))) (pss_one (ps_ret pe_bl)) pss_nil))) pss_nil)
      (pss_one (ps_ret (pe_cmpR (op_eqDK (K := K) hr.units) (pv 0) (pv 3) (nomark _))))))))))⟩
theorem ok__law_right (T : Txt K mg) : FnOk P w K mg base CX0 39 T.f__law_right T.d__law_right ["_law_row_here", "_law_others", "_law_cell"] spRight := by
  refine T.F__law_right.ok sc__law_right (fun vs H Q E h => ?_) (fun cdv A outer s H vs Q E hr h => ⟨_, (dv__law_right T hr).2, ?_⟩)
  · obtain ⟨a, o, r, b, c, os, rfl, _⟩ := h
    rfl
  · obtain ⟨a, o, r, b, c, os, rfl, ha, hb, ho, hos, hR, hc, q⟩ := h
    -- a copy
    refine ⟨_, rfl, a, natsV r, rfl, .inl (.of ha.at_), fun l nl => ?_⟩
    generalize hh : upd _ l _ = H1 at ⊢
    have s1 := new_same nl hh
    have gl := new_at hh
    clear hh
    have ha1 := ha.same s1
    -- what is told
    refine ⟨_, rfl, a, r, b, rfl, ha1, fun H2 x s2 hx => ?_⟩
    have ha2 := ha1.same s2
    replace gl := s2 _ _ gl
    replace s1 := s1.trans s2
    obtain ⟨t, ty, kn⟩ := ans_kinds hx
    refine ⟨_, rfl, _, _, t, _, true, rfl, .own _, ty, kn.ans, true, rfl, iteF ?_⟩
    refine ⟨_, rfl, _, _, t, _, _, rfl, .own _, ty, kn.can, _, rfl, _, _, t, _, _, rfl, .own _, ty, kn.bar, _, _, rfl, rfl, _, rfl, decF (not_self _) ?_⟩
    -- as is due
    refine ⟨_, rfl, _, rfl, a, x, r, b, exN r, rfl, ha2, hx, fun H3 s3 => ⟨_, rfl, decNT rfl ?_⟩⟩
    have ha3 := ha2.same s3
    replace hx := hx.same s3
    replace gl := s3 _ _ gl
    replace s1 := s1.trans s3
    refine meth2_ans (T := T) (fun R h => ⟨_, rfl, h⟩) (fun R h => ⟨_, rfl, h⟩) hx ha3 fun H4 s4 => ?_
    refine ⟨_, _, rfl, rfl, _, rfl, decNT (decide_eq_true rfl) ?_⟩
    have ha4 := ha3.same s4
    replace hx := hx.same s4
    replace gl := s4 _ _ gl
    replace s1 := s1.trans s4
    have ho4 := s1 _ _ ho
    have hR4 := hR.same s1
    clear ha1 ha2 ha3 s2 s3 s4 ty
    -- of the others too
    refine ⟨_, rfl, o, rfl, ⟨_, .of ho4⟩, fun D nD => ?_⟩
    refine lc1_list (xs := refsR os) (fun i acc H' => Same H4 H' ∧ acc = List.replicate i (V.bl true)) ⟨same_new nD, rfl⟩ (fun i acc H' h => .of (h.1 _ _ ho4)) (fun _ => rfl) ?_ ?_
    · rintro i y acc H' hy hl hD ⟨sm, he⟩
      have hi := (List.getElem?_eq_some_iff.mp hy).1
      rw [List.length_map] at hi
      obtain ⟨⟨p, m⟩, hq, rfl⟩ := get_map hy
      have hp : Rw H' p m b := (hR4 _ (List.mem_of_getElem? hq)).same sm
      refine meth2_ans (T := T) (fun R h => ⟨_, rfl, h⟩) (fun R h => ⟨_, rfl, h⟩) (hx.same sm) hp fun H5 s5 => ?_
      refine ⟨_, rfl, _, rfl, p, x, m, b, exN r, rfl, hp.same s5, (hx.same sm).same s5, fun H6 s6 => ?_⟩
      refine ⟨_, _, rfl, ?_⟩
      rw [decide_eq_true rfl]
      have s56 := s5.trans s6
      refine LcN.put (s56 _ _ hD) hl (small1000 (by omega)) ⟨same_free (sm.trans s56) nD, ?_⟩
      rw [he, List.replicate_succ']
    rintro acc H5 hl hD ⟨sm, he⟩
    subst he
    rw [List.length_map] at hD
    refine ⟨D, List.replicate os.length true, rfl, .of (by rw [List.map_replicate]; exact hD), ?_⟩
    have eall : (List.replicate os.length true).all id = true := by simp
    rw [eall]
    refine ⟨true, rfl, iteF ?_⟩
    have ha5 := ha4.same sm
    replace hx := hx.same sm
    have fin : ∀ H', Same H5 H' → rEqD K (.ref a) (.ref l) H' Q := fun H' s' => eqN (l := r) (m := r) rfl rfl (.of (s' _ _ ha5.at_)) (.of (s' _ _ (sm _ _ gl))) (by
      rw [decide_eq_true rfl]
      exact q H' (s1.trans (sm.trans s')))
    -- a family
    obtain ⟨t, ty, kn⟩ := ans_kinds hx
    refine ⟨_, rfl, _, _, t, _, _, rfl, .own _, ty, kn.can, _, rfl, ?_⟩
    cases hN : exN r with
    | some p => exact iteF ⟨_, rfl, _, rfl, fin _ (Same.refl _)⟩
    | none =>
      have h0 := exN_none.mp hN
      refine iteT ⟨_, rfl, Nat.zero_le _, fun e ne => ?_⟩
      have se := same_new (o := .lst []) ne
      refine neN (l := r) (m := []) rfl rfl (.of (se _ _ ha5.at_)) (.of upd_same) ⟨_, rfl, dec2n (fun c2 => ?_) (fun c2 => ?_)⟩
      · refine ⟨_, rfl, _, rfl, a, r, b, c, rfl, ha5.same se, hb, h0, c2, hc, fun H6 s6 => ⟨true, rfl, iteF ?_⟩⟩
        have s56 := se.trans s6
        have ha6 := ha5.same s56
        refine ⟨_, rfl, a, natsV r, rfl, .inl (.of ha6.at_), ?_⟩
        rw [natsV_length]
        refine ⟨r.length, 20, rfl, rfl, _, rfl, dec2 (fun c3 => ?_) (fun c3 => iteF ⟨_, rfl, _, rfl, fin _ s56⟩)⟩
        obtain ⟨r0, x0, rfl⟩ : ∃ r0 x0, r = r0 ++ [x0] := ⟨r.dropLast, r.getLast c2, (List.dropLast_concat_getLast c2).symm⟩
        have el : (natsV (r0 ++ [x0])).length = r0.length + 1 := by rw [natsV_length, List.length_append]; rfl
        have g : atI (natsV (r0 ++ [x0])) (-1) = some (.int (x0 : Int)) := by
          rw [← natsV_app]
          exact atI_last _ _
        have hx0 : x0 < 2 ^ b := ha.small x0 (List.mem_append_right _ (List.mem_singleton.mpr rfl))
        rw [List.length_append, List.length_singleton] at c3
        refine ⟨_, rfl, a, r0, x0, b, rfl, ha6, h0, c3, fun H7 s7 => ?_⟩
        have ha7 := ha6.same s7
        refine ⟨_, rfl, a, _, rfl, .inl (.of ha7.at_), ?_⟩
        rw [el]
        refine ⟨_, rfl, 1, rfl, a, _, -1, _, rfl, rfl, .of ha7.at_, g, r0.length + 1, x0, b, 1, rfl, by omega, hx0, by omega, .inl rfl, fun H8 s8 => ?_⟩
        rw [mvd_up, show ov (cas (r0.length + 1) x0) = overN (r0.length + 1) x0 from rfl]
        exact ⟨_, _, rfl, rfl, _, rfl, decNT rfl ⟨_, rfl, _, rfl, fin _ (s56.trans (s7.trans s8))⟩⟩
      · exact ⟨_, rfl, _, rfl, fin _ se⟩
end
end Sh

/-! The law of rows. -/
namespace Sh
open PySem PySem.Spec PyProof.Rows L2
theorem natsV_cut (l : List Nat) (lo hi : Option Int) : cutV (natsV l) lo hi = natsV (cutL l lo hi) := cutV_map _ l lo hi
theorem over_big {k n : Nat} (h : n < 2 ^ 600) (hk : k ≤ 4) : overN (k + 1) n < 2 ^ 3609 := by
  have h1 : n < ch (n + k + 1) (k + 1) := ch_more k n
  have h2 := over_le h1
  have h3 : n + k + 1 < 2 ^ 601 := by
    have : (2 : Nat) ^ 601 = 2 ^ 600 * 2 := Nat.pow_add 2 600 1
    have : (2 : Nat) ^ 3 ≤ 2 ^ 600 := Nat.pow_le_pow_right (by decide) (by decide)
    omega
  have h4 := ch_bits (k := k + 1 + 1) h3
  refine Nat.lt_of_le_of_lt (Nat.le_trans h2 h4) (Nat.pow_lt_pow_right (by decide) ?_)
  have := Nat.mul_le_mul_left 601 (show k + 1 + 1 ≤ 6 by omega)
  omega
theorem rw_lit2 {H : Hp} {e : Addr} {r : List Nat} (h : H e = some (.lst (natsV r))) (h20 : r.length ≤ 20) (hs : ∀ x ∈ r, x < 2 ^ 200) : Rw H e r 3610 :=
  ⟨h, h20, fun x hx => Nat.lt_of_lt_of_le (hs x hx) (Nat.pow_le_pow_right (by decide) (by decide)), by decide⟩
theorem exN_zeros (x : Nat) : exN [x, 0, 0] = none := by
  refine exN_none.mpr ?_
  show (if overN 1 x < 0 then some (1 + 1, overN 1 x) else if overN (1 + 1) 0 < 0 then some (1 + 1 + 1, overN (1 + 1) 0) else none) = none
  rw [if_neg (Nat.not_lt_zero _), if_neg (Nat.not_lt_zero _)]
/-- pairs as data -/
def dataT (l : List (Int × Int)) : PyData := .list (l.map fun p => .tuple [.int p.1, .int p.2])
theorem dp_tps {K : PySem.W.Frag} {H : Hp} : ∀ {ts : List (Addr × Int × Int)}, Tps H ts → DpAll K H (refsT ts) ((ts.map (·.2)).map fun p => PyData.tuple [.int p.1, .int p.2])
  | [], _ => .nil
  | t :: ts, h => .cons (.tup (.of (h t List.mem_cons_self)) (.cons (.int _) (.cons (.int _) .nil))) (dp_tps fun q hq => h q (List.mem_cons_of_mem _ hq))
theorem eqTT {K : PySem.W.Frag} {H : Hp} {x y : V} {Q : VK} {a b : Addr} {ts us : List (Addr × Int × Int)} (l : List (Int × Int)) (hx : x = .ref a) (hy : y = .ref b) (ha : SqL K H a (refsT ts)) (hb : SqL K H b (refsT us)) (gt : Tps H ts) (gu : Tps H us)
    (et : ts.map (·.2) = l) (eu : us.map (·.2) = l) (sh : SeqAt.shaped (dataT l) = true) (ev : PyData.eqv (dataT l) (dataT l) = true) (q : Q (.bl true) H) : rEqD K x y H Q := by
  subst hx hy
  refine ⟨dataT l, dataT l, ?_, ?_, sh, sh, by rw [ev]; exact q⟩
  · rw [← et]
    exact .lst ha (dp_tps gt)
  · rw [← eu]
    exact .lst hb (dp_tps gu)
section
variable {P : Program} {w : World} {K : PySem.W.Frag} {mg : Str → Option Value} {base : Heap}
def spLaw (K : PySem.W.Frag) : Sp := fun vs H Q _ => ∃ (a : Addr) (ns : List Int), vs = [.ref a] ∧ SqL K H a (ns.map V.int) ∧ ns.length ≤ 63 ∧ Bounded ns ∧ ∀ H', Same H H' → Q (.bl true) H'
noncomputable def dv_law {P : Program} {w : World} {K : PySem.W.Frag} {mg : Str → Option Value} {base : Heap} (T : Txt K mg)  {cdv : Value} {A : Around} {outer : List Env} {s : Shared} {H : Hp} {E : XK}
    (hr : Room 39 (A.deeper (envOfC "law" (defScope s_law) s.heap.objs.size T.f_law cdv))) :
    Σ' t : TS, PSs (cxOf CX0 P w K mg base ["_law_script", "_law_row_here", "_law_cell", "_law_more", "_law_limit", "_law_some", "_law_good", "_law_bad", "_law_one"] "law" (defScope s_law) T.f_law cdv A outer s H E).nox (defBody s_law) t :=
  ⟨_, (pss_cons (ps_set (i := 1) sc_law.nd rfl (.inl rfl) (pe_call (ok__law_row T) (hr.mono (by omega)) (by rfl) T.g__law_row T.F__law_row.kp T.b__law_row .nil pass0 (pa_cons (pv 0) pa_nil)))
      (pss_cons (ps_set (i := 2) sc_law.nd rfl (.inl rfl) (pe_op op_iMod (pe_call (ok__law_cell_at T) (hr.mono (by omega)) (by rfl) T.g__law_cell_at T.F__law_cell_at.kp T.b__law_cell_at .nil pass0 (pa_cons (pv 0) (pa_cons pe_int pa_nil))) (pe_op op_iPow pe_int pe_int)))
      (pss_cons (ps_set (i := 3) sc_law.nd rfl (.inl rfl) (pe_lst (pa_cons (pv 2) pa_nil)))
      (pss_cons (ps_if (pt_cmpR (op_neDK (K := K) hr.units) (pv 1) (pe_lst pa_nil) (nomark _)) (pss_cons (ps_set (i := 3) sc_law.nd rfl (.inl rfl) (pe_slice (sl_listK (K := K)) (pv 1) po_none (po_some pe_int)))
      (pss_cons (ps_set (i := 4) sc_law.nd rfl (.inl rfl) (pe_call (ok__law_moved T) (hr.mono (by omega)) (by rfl) T.g__law_moved T.F__law_moved.kp T.b__law_moved .nil pass0 (pa_cons (pe_callB (call_lenK (K := K)) (by rfl) T.z_len PySem.boot_len (pa_cons (pv 3) pa_nil)) (pa_cons (pe_ix (ix_listK (K := K)) (pv 3) (pe_un un_neg pe_int) (fun _ _ => rfl)) (pa_cons pe_int pa_nil)))))
      (pss_one (ps_expr (pe_bm PySem.F.plainAttrs_list PySem.F.slot_list_append PySem.F.type_list_append mt_append (pv 3) (pa_cons (pe_op op_nAdd (pv 4) (pe_call (ok__law_draw T) (hr.mono (by omega)) (by rfl) T.g__law_draw T.F__law_draw.kp T.b__law_draw .nil pass0 (pa_cons (pv 2) (pa_cons pe_int (pa_cons pe_int pa_nil))))) pa_nil)))))) pss_nil)
      (pss_cons (ps_for PassesOwn.never rfl (pi_tup (pe_ifExp (pt_cmpR op_nLt (pe_callB (call_lenK (K := K)) (by rfl) T.z_len PySem.boot_len (pa_cons (pv 1) pa_nil)) pe_int (nomark _)) (pe_tup (pa_cons (pv 1) (pa_cons (pe_slice (sl_listK (K := K)) (pv 1) po_none (po_some (pe_un un_neg pe_int))) (pa_cons (pv 3) pa_nil)))) (pe_tup (pa_cons (pv 1) pa_nil)))) (pg_name (i := 5) sc_law.nd rfl (.inl rfl)) (pss_one (ps_if (pt_not (pt_val (pe_call (ok__law_right T) (hr.mono (by omega)) (by rfl) T.g__law_right T.F__law_right.kp T.b__law_right .nil pass0 (pa_cons (pv 5) (pa_cons (pe_slice (sl_listK (K := K)) (pe_lst (pa_cons (pv 1) (pa_cons (pv 3) (pa_cons (pe_slice (sl_listK (K := K)) (pv 1) po_none (po_some pe_int)) pa_nil)))) po_none (po_some (pe_op op_nDiv pe_int (pe_callB (call_maxN rfl) (by rfl) T.z_max (by decide +kernel) (pa_cons pe_int (pa_cons (pe_callB (call_lenK (K := K)) (by rfl) T.z_len PySem.boot_len (pa_cons (pv 1) pa_nil)) pa_nil)))))) (pa_cons (pv 2) pa_nil)))))) (pss_one (ps_ret pe_bl)) pss_nil)))
      (pss_cons (ps_set (i := 6) sc_law.nd rfl (.inl rfl) (pe_lst (pa_cons (pe_call (ok_told T) (hr.mono (by omega)) (by rfl) T.g_told T.F_told.kp T.b_told .nil pass0 (pa_cons (pe_lst pa_nil) pa_nil)) (pa_cons (pe_call (ok_told T) (hr.mono (by omega)) (by rfl) T.g_told T.F_told.kp T.b_told .nil pass0 (pa_cons (pe_lst (pa_cons pe_int (pa_cons pe_int (pa_cons pe_int pa_nil)))) pa_nil)) (pa_cons (pe_call (ok_told T) (hr.mono (by omega)) (by rfl) T.g_told T.F_told.kp T.b_told .nil pass0 (pa_cons (pe_lst (pa_cons pe_int (pa_cons pe_int (pa_cons pe_int (pa_cons pe_int pa_nil))))) pa_nil)) (pa_cons (pe_call (ok_told T) (hr.mono (by omega)) (by rfl) T.g_told T.F_told.kp T.b_told .nil pass0 (pa_cons (pe_lst (pa_cons pe_int (pa_cons pe_int pa_nil))) pa_nil)) (pa_cons (pe_call (ok_told T) (hr.mono (by omega)) (by rfl) T.g_told T.F_told.kp T.b_told .nil pass0 (pa_cons (pe_lst (pa_cons (pe_op op_iPow pe_int pe_int) (pa_cons pe_int (pa_cons pe_int pa_nil)))) pa_nil)) pa_nil)))))))
      (pss_cons (ps_set (i := 7) sc_law.nd rfl (.inl rfl) (pe_lst (pa_cons (pe_call (ok_told T) (hr.mono (by omega)) (by rfl) T.g_told T.F_told.kp T.b_told .nil pass0 (pa_cons (pe_lst (pa_cons pe_int (pa_cons pe_int pa_nil))) pa_nil)) (pa_cons (pe_call (ok_told T) (hr.mono (by omega)) (by rfl) T.g_told T.F_told.kp T.b_told .nil pass0 (pa_cons (pe_lst (pa_cons pe_int (pa_cons pe_int (pa_cons pe_int pa_nil)))) pa_nil)) (pa_cons (pe_call (ok_told T) (hr.mono (by omega)) (by rfl) T.g_told T.F_told.kp T.b_told .nil pass0 (pa_cons (pe_lst (pa_cons pe_int (pa_cons pe_int pa_nil))) pa_nil)) pa_nil)))))
      (pss_cons (ps_if (PW.pt (pw_or (pt_not (pt_val (pe_callB (cr_allK (K := K) rfl) (by rfl) T.z_all (by decide +kernel) (pa_cons (pe_lc (g := gName 8) (own := [("_law_one", 8)]) rfl sc_law.nd (pi_list (pv 6)) (blkOk_by (own := [("_law_one", 8)]) (N := ["_law_script", "_law_row_here", "_law_cell", "_law_more", "_law_limit", "_law_some", "_law_good", "_law_bad", "_law_one"]) (sc := defScope s_law) (by decide +kernel)) (fun _ _ _ _ _ => by exact (pg_name (i := 8) sc_law.nd rfl (.inl rfl))) (fun _ _ _ _ _ => by exact pts_nil) (fun _ _ _ _ _ => by exact (pe_callB (call_isiK (K := K)) (by rfl) T.z_isinstance (by decide +kernel) (pa_cons (pv 8) (pa_cons (pe_glob (v := .ref T.k_Can) rfl T.g_Can rfl) pa_nil))))) pa_nil)))) (pw_or1 (pt_not (pt_val (pe_callB (cr_allK (K := K) rfl) (by rfl) T.z_all (by decide +kernel) (pa_cons (pe_lc (g := gName 8) (own := [("_law_one", 8)]) rfl sc_law.nd (pi_list (pv 7)) (blkOk_by (own := [("_law_one", 8)]) (N := ["_law_script", "_law_row_here", "_law_cell", "_law_more", "_law_limit", "_law_some", "_law_good", "_law_bad", "_law_one"]) (sc := defScope s_law) (by decide +kernel)) (fun _ _ _ _ _ => by exact (pg_name (i := 8) sc_law.nd rfl (.inl rfl))) (fun _ _ _ _ _ => by exact pts_nil) (fun _ _ _ _ _ => by exact (pe_callB (call_isiK (K := K)) (by rfl) T.z_isinstance (by decide +kernel) (pa_cons (pv 8) (pa_cons (pe_glob (v := .ref T.k_Barred) rfl T.g_Barred rfl) pa_nil))))) pa_nil))))))) (pss_one (ps_ret pe_bl)) pss_nil)
      (pss_one (ps_ret (pe_cmpR (op_eqDK (K := K) hr.units) (pe_lc (g := gName 8) (own := [("_law_one", 8)]) rfl sc_law.nd (pi_list (pv 7)) (blkOk_by (own := [("_law_one", 8)]) (N := ["_law_script", "_law_row_here", "_law_cell", "_law_more", "_law_limit", "_law_some", "_law_good", "_law_bad", "_law_one"]) (sc := defScope s_law) (by decide +kernel)) (fun _ _ _ _ _ => by exact (pg_name (i := 8) sc_law.nd rfl (.inl rfl))) (fun _ _ _ _ _ => by exact pts_nil) (fun _ _ _ _ _ => by exact (pe_tup (pa_cons (pe_fldK (K := K) (pv 8) (by rfl)) (pa_cons (pe_fldK (K := K) (pv 8) (by rfl)) pa_nil))))) (pe_lst (pa_cons (pe_tup (pa_cons pe_int (pa_cons pe_int pa_nil))) (pa_cons (pe_tup (pa_cons pe_int (pa_cons pe_int pa_nil))) (pa_cons (pe_tup (pa_cons pe_int (pa_cons pe_int pa_nil))) pa_nil)))) (nomark _))))))))))))⟩
theorem ok_law (T : Txt K mg) : FnOk P w K mg base CX0 40 T.f_law T.d_law ["_law_script"] (spLaw K) := by
  refine T.F_law.ok sc_law (fun vs H Q E h => ?_) (fun cdv A outer s H vs Q E hr h => ⟨_, (dv_law T hr).2, ?_⟩)
  · obtain ⟨a, ns, rfl, _⟩ := h
    rfl
  · obtain ⟨a, ns, rfl, hS, h63, hb, q⟩ := h
    have z2 : 2 ≤ sizeLine := by show 2 ≤ sizeLine; decide
    have z3 : 3 ≤ sizeLine := by show 3 ≤ sizeLine; decide
    have cp2 : CPow 10 40 := ⟨by decide, by decide, by decide⟩
    have e40 : (10 : Int) ^ (40 : Int).toNat = ((many : Nat) : Int) := by decide +kernel
    have hmp : 0 < many := Nat.pow_pos (by decide)
    have hm36 : many < 2 ^ 3609 := Nat.lt_of_lt_of_le (Nat.lt_of_succ_lt many_lt2) (Nat.pow_le_pow_right (by decide) (by decide))
    have h6036 : (2 : Nat) ^ 600 ≤ 2 ^ 3609 := Nat.pow_le_pow_right (by decide) (by decide)
    have h3610 : (2 : Nat) ^ 3610 = 2 ^ 3609 * 2 := Nat.pow_add 2 3609 1
    generalize hB : (2 : Nat) ^ 3609 = B at hm36 h6036 h3610
    refine ⟨_, rfl, a, ns, rfl, hS, h63, hb, fun H1 p r s1 np hp hr20 hrs => ?_⟩
    refine ⟨_, rfl, a, ns, 3, rfl, s1.seq hS, fun z hz => ?_⟩
    refine ⟨10, 40, rfl, rfl, cp2, z, _, rfl, rfl, by rw [e40]; omega, ?_⟩
    rw [e40]
    obtain ⟨c, hc, ec⟩ : ∃ c : Nat, c < many ∧ z % (many : Int) = (c : Int) := by
      have h1 := Int.emod_nonneg z (show (many : Int) ≠ 0 by omega)
      have h2 := Int.emod_lt_of_pos z (show (0 : Int) < many by omega)
      exact ⟨(z % (many : Int)).toNat, by omega, by omega⟩
    rw [ec]
    have hrB : ∀ x ∈ r, x < 2 ^ 3610 := fun x hx => by
      have := hrs x hx
      omega
    -- a row begun, gone on
    refine ⟨_, rfl, (by show 1 ≤ sizeLine; decide), fun m0 nm0 => ?_⟩
    generalize hh : upd _ m0 _ = H2 at ⊢
    have s2 := new_same nm0 hh
    have g2 := new_at hh
    clear hh
    refine ⟨_, rfl, Nat.zero_le _, fun e ne => ?_⟩
    generalize hh : upd _ e _ = H3 at ⊢
    have s3 := new_same ne hh
    have g3 := new_at hh
    clear hh
    have hp3 := s3 _ _ (s2 _ _ hp)
    refine neN (l := r) (m := []) rfl rfl (.of hp3) (.of g3) ⟨_, rfl, ?_⟩
    have s03 := s1.trans (s2.trans s3)
    refine ifS_any (fun σ' H' => ∃ (m : Addr) (ms : List Nat) (y4 : Option V), σ' = [some (.ref a), some (.ref p), some (.int (c : Int)), some (.ref m), y4, none, none, none, none] ∧ Same H3 H' ∧ H' m = some (.lst (natsV ms)) ∧ ms.length ≤ 6 ∧ ∀ x ∈ ms, x < 2 ^ 3610)
      (fun e1 D' h => ?_) (fun e1 D' h => h _ _ ⟨m0, [c], _, rfl, Same.refl _, s3 _ _ g2, by show 1 ≤ 6; decide, fun x hx => by rw [List.mem_singleton.mp hx]; omega⟩) ?_
    · have hne : r ≠ [] := fun z => by rw [decide_eq_true z] at e1; cases e1
      refine ⟨_, rfl, ((5 : Nat) : Int), rfl, p, natsV r, rfl, .of hp3, fun m nm => ?_⟩
      rw [cut_to, natsV_take]
      generalize hh : upd _ m _ = H4 at ⊢
      have s4 := new_same nm hh
      have g4 := new_at hh
      clear hh
      have hl5 : (r.take 5).length ≤ 5 := by
        rw [List.length_take]
        omega
      have hm5 : ∀ x ∈ r.take 5, x ∈ r := fun x hx => List.mem_of_mem_take hx
      have hn5 : r.take 5 ≠ [] := by
        cases r with
        | nil => exact absurd rfl hne
        | cons x r => exact fun z => by cases z
      generalize r.take 5 = r5 at g4 hl5 hm5 hn5
      obtain ⟨r0, x0, rfl⟩ : ∃ r0 x0, r5 = r0 ++ [x0] := ⟨r5.dropLast, r5.getLast hn5, (List.dropLast_concat_getLast hn5).symm⟩
      have el : (natsV (r0 ++ [x0])).length = r0.length + 1 := by rw [natsV_length, List.length_append]; rfl
      have g : atI (natsV (r0 ++ [x0])) (-1) = some (.int (x0 : Int)) := by
        rw [← natsV_app]
        exact atI_last _ _
      have hx0 : x0 < 2 ^ 600 := hrs x0 (hm5 x0 (List.mem_append_right _ (List.mem_singleton.mpr rfl)))
      rw [List.length_append, List.length_singleton] at hl5
      refine ⟨_, rfl, m, _, rfl, .inl (.of g4), ?_⟩
      rw [el]
      refine ⟨_, rfl, 1, rfl, m, _, -1, _, rfl, rfl, .of g4, g, r0.length + 1, x0, 600, 1, rfl, by omega, hx0, by decide, .inl rfl, fun H5 s5 => ?_⟩
      rw [mvd_up, show ov (cas (r0.length + 1) x0) = overN (r0.length + 1) x0 from rfl]
      have hov : overN (r0.length + 1) x0 < B := hB ▸ over_big hx0 (by omega)
      refine ⟨_, rfl, .inl ⟨rfl, _, .of (s5 _ _ g4)⟩, _, rfl, _, rfl, (c : Int), 4, 2, rfl, ?_, by decide, by decide, fun y H6 hy s6 => ?_⟩
      · refine Nat.le_trans (intBits_le (k := 134) ?_) (by decide)
        rw [Int.natAbs_natCast]
        exact Nat.lt_trans hc (Nat.lt_of_succ_lt many_lt2)
      have g6 := s6 _ _ (s5 _ _ g4)
      refine ⟨_, y, rfl, rfl, m, _, _, rfl, rfl, g6, ?_, ?_⟩
      · rw [el]
        exact small1000 (by omega)
      · rw [natsV_app]
        refine h _ _ ⟨m, r0 ++ [x0] ++ [overN (r0.length + 1) x0 + y], _, rfl, same_free (s4.trans (s5.trans s6)) nm, upd_same, ?_, fun x hx => ?_⟩
        · rw [List.length_append, List.length_append, List.length_singleton, List.length_singleton]
          omega
        · rcases List.mem_append.mp hx with hx | hx
          · exact hrB x (hm5 x hx)
          · rw [List.mem_singleton.mp hx]
            omega
    · rintro σ H4 ⟨m, ms, y4, rfl, s4, gm, hm6, hmB⟩
      have s04 := s03.trans s4
      have hp4 := s4 _ _ hp3
      have RwR : ∀ {H'}, Same H4 H' → Rw H' p r 3610 := fun s => ⟨s _ _ hp4, hr20, hrB, by decide⟩
      have RwM : ∀ {H'}, Same H4 H' → Rw H' m ms 3610 := fun s => ⟨s _ _ gm, by omega, hmB, by decide⟩
      clear hrs hm36 h6036 h3610 hp3 g3 ne s3 g2 nm0 s2 s03 s4 hS np hp s1 hz ec
      -- the rows
      refine ⟨_, rfl, p, natsV r, rfl, .inl (.of hp4), ?_⟩
      rw [natsV_length]
      refine ⟨r.length, 9, rfl, rfl, _, rfl, ?_⟩
      refine tIf_at (fun v H' => ∃ (t : Addr) (ps : List (Addr × List Nat)), v = .ref t ∧ Same H4 H' ∧ H' t = some (.tup (refsR ps)) ∧ Rws H' 3610 ps) (fun c1 Q' h => ?_) (fun c1 Q' h => ?_) ?_
      · refine ⟨_, rfl, _, rfl, 1, rfl, -1, rfl, p, natsV r, rfl, .of hp4, fun c1 n1 => ?_⟩
        rw [natsV_cut]
        generalize hh : upd _ c1 _ = H5 at ⊢
        have s5 := new_same n1 hh
        have g5 := new_at hh
        clear hh
        refine ⟨_, rfl, z3, fun t nt => ?_⟩
        generalize hh : upd _ t _ = H6 at ⊢
        have s6 := new_same nt hh
        have g6 := new_at hh
        clear hh
        refine h _ _ ⟨t, [(p, r), (c1, cutL r none (some (-1))), (m, ms)], rfl, s5.trans s6, g6, fun q hq => ?_⟩
        simp only [List.mem_cons, List.not_mem_nil, or_false] at hq
        rcases hq with rfl | rfl | rfl
        · exact RwR (s5.trans s6)
        · exact ⟨s6 _ _ g5, Nat.le_trans (cutL_length _ _ _) hr20, fun x hx => hrB x (mem_cutL hx), by decide⟩
        · exact RwM (s5.trans s6)
      · refine ⟨_, rfl, (by show 1 ≤ sizeLine; decide), fun t nt => ?_⟩
        generalize hh : upd _ t _ = H6 at ⊢
        have s6 := new_same nt hh
        have g6 := new_at hh
        clear hh
        refine h _ _ ⟨t, [(p, r)], rfl, s6, g6, fun q hq => ?_⟩
        rw [List.mem_singleton.mp hq]
        exact RwR s6
      rintro v H5 ⟨t, ps, rfl, s5, gt, hps⟩
      refine ⟨t, rfl, ⟨_, .of gt⟩, ?_⟩
      refine for_tup (xs := refsR ps) (fun i σ H' => Same H5 H' ∧ ∃ y5, σ = [some (.ref a), some (.ref p), some (.int (c : Int)), some (.ref m), y4, y5, none, none, none]) ⟨Same.refl _, _, rfl⟩ (fun i σ H' _ h => .of (h.1 _ _ gt)) ?_ ?_
      · rintro i y σ H6 hy ⟨s6, y5, rfl⟩
        obtain ⟨⟨d, l⟩, hq, rfl⟩ := get_map hy
        have hd : Rw H6 d l 3610 := (hps _ (List.mem_of_getElem? hq)).same s6
        have s46 := s5.trans s6
        -- the others
        refine ⟨_, rfl, _, rfl, _, rfl, _, rfl, ((1 : Nat) : Int), rfl, p, natsV r, rfl, .of (s46 _ _ hp4), fun c1 n1 => ?_⟩
        rw [cut_to, natsV_take]
        generalize hh : upd _ c1 _ = H7 at ⊢
        have s7 := new_same n1 hh
        have g7 := new_at hh
        clear hh
        refine ⟨z3, fun o no => ?_⟩
        generalize hh : upd _ o _ = H8 at ⊢
        have s8 := new_same no hh
        have g8 := new_at hh
        clear hh
        have s78 := s7.trans s8
        have s48 := s46.trans s78
        refine ⟨_, rfl, p, natsV r, rfl, .inl (.of (s48 _ _ hp4)), ?_⟩
        rw [natsV_length]
        refine ⟨3, r.length, rfl, 9, max 3 r.length, rfl, rfl, .small (by omega) (by omega), ((9 / max 3 r.length : Nat) : Int), rfl, o, refsR [(p, r), (m, ms), (c1, r.take 1)], rfl, .of g8, fun o2 no2 => ?_⟩
        have hoth : Rws H8 3610 [(p, r), (m, ms), (c1, r.take 1)] := fun q hq => by
          simp only [List.mem_cons, List.not_mem_nil, or_false] at hq
          rcases hq with rfl | rfl | rfl
          · exact RwR s48
          · exact RwM s48
          · exact rw_take (s8 _ _ g7) hr20 hrB (by decide)
        rw [cut_to, ← List.map_take]
        generalize hh : upd _ o2 _ = H9 at ⊢
        have s9 := new_same no2 hh
        have g9 := new_at hh
        clear hh
        refine ⟨_, rfl, d, o2, l, 3610, c, _, rfl, (hd.same s78).same s9, by decide, g9, ?_, fun q hq => (hoth.same s9) q (List.mem_of_mem_take hq), hc, fun H10 s10 => ⟨true, rfl, iteF ?_⟩⟩
        · rw [List.length_take]
          show min _ 3 ≤ 100
          omega
        · exact ⟨s6.trans (s78.trans (s9.trans s10)), _, rfl⟩
      rintro σ H6 ⟨s6, y5, rfl⟩
      have sc := s04.trans (s5.trans s6)
      clear RwR RwM s6 hps gt s5 gm hp4 s04
      refine ⟨(Nat.zero_le _), fun e ne => ?_⟩
      generalize hh : upd _ e _ = J1 at ⊢
      have sj := new_same ne hh
      have gj := new_at hh
      clear hh
      replace gj : J1 e = some (.lst (natsV [])) := gj
      refine ⟨e, [], 3610, rfl, rw_lit2 gj (by decide) (by decide +kernel), fun B1 x1 sk ax => ?_⟩
      rw [show exN [] = none by decide +kernel] at ax
      replace sc := (sc.trans sj).trans sk
      have a1 := ax
      have t1 := sj.trans sk
      clear ax sj gj sk ne
      refine ⟨(by show 3 ≤ sizeLine; decide), fun e ne => ?_⟩
      generalize hh : upd _ e _ = J2 at ⊢
      have sj := new_same ne hh
      have gj := new_at hh
      clear hh
      replace gj : J2 e = some (.lst (natsV [3, 3, 1])) := gj
      refine ⟨e, [3, 3, 1], 3610, rfl, rw_lit2 gj (by decide) (by decide +kernel), fun B2 x2 sk ax => ?_⟩
      rw [show exN [3, 3, 1] = none by decide +kernel] at ax
      replace sc := (sc.trans sj).trans sk
      have a2 := ax
      have t2 := sj.trans sk
      clear ax sj gj sk ne
      refine ⟨(by show 4 ≤ sizeLine; decide), fun e ne => ?_⟩
      generalize hh : upd _ e _ = J3 at ⊢
      have sj := new_same ne hh
      have gj := new_at hh
      clear hh
      replace gj : J3 e = some (.lst (natsV [4, 6, 4, 1])) := gj
      refine ⟨e, [4, 6, 4, 1], 3610, rfl, rw_lit2 gj (by decide) (by decide +kernel), fun B3 x3 sk ax => ?_⟩
      rw [show exN [4, 6, 4, 1] = none by decide +kernel] at ax
      replace sc := (sc.trans sj).trans sk
      have a3 := ax
      have t3 := sj.trans sk
      clear ax sj gj sk ne
      refine ⟨(by show 2 ≤ sizeLine; decide), fun e ne => ?_⟩
      generalize hh : upd _ e _ = J4 at ⊢
      have sj := new_same ne hh
      have gj := new_at hh
      clear hh
      replace gj : J4 e = some (.lst (natsV [0, 0])) := gj
      refine ⟨e, [0, 0], 3610, rfl, rw_lit2 gj (by decide) (by decide +kernel), fun B4 x4 sk ax => ?_⟩
      rw [show exN [0, 0] = none by decide +kernel] at ax
      replace sc := (sc.trans sj).trans sk
      have a4 := ax
      have t4 := sj.trans sk
      clear ax sj gj sk ne
      refine ⟨10, 30, rfl, rfl, ⟨by decide, by decide, by decide⟩, (by show 3 ≤ sizeLine; decide), fun e ne => ?_⟩
      generalize hh : upd _ e _ = J5 at ⊢
      have sj := new_same ne hh
      have gj := new_at hh
      clear hh
      replace gj : J5 e = some (.lst (natsV [10 ^ 30, 0, 0])) := gj
      refine ⟨e, [10 ^ 30, 0, 0], 3610, rfl, rw_lit2 gj (by decide) (by decide +kernel), fun B5 x5 sk ax => ?_⟩
      rw [exN_zeros] at ax
      replace sc := (sc.trans sj).trans sk
      have a5 := ax
      have t5 := sj.trans sk
      clear ax sj gj sk ne
      refine ⟨(by show 5 ≤ sizeLine; decide), fun e1 ne1 => ?_⟩
      generalize hh : upd _ e1 _ = L1 at ⊢
      have w1 := new_same ne1 hh
      have g1 := new_at hh
      clear hh
      have hgood : ∀ x ∈ [x1, x2, x3, x4, x5], Ans T L1 x none := fun x hx => by
        simp only [List.mem_cons, List.not_mem_nil, or_false] at hx
        have u4 := t5.trans w1
        have u3 := t4.trans u4
        have u2 := t3.trans u3
        have u1 := t2.trans u2
        rcases hx with rfl | rfl | rfl | rfl | rfl
        · exact a1.same u1
        · exact a2.same u2
        · exact a3.same u3
        · exact a4.same u4
        · exact a5.same w1
      replace g1 : L1 e1 = some (.lst ([x1, x2, x3, x4, x5].map V.ref)) := g1
      have gl : [x1, x2, x3, x4, x5].length = 5 := rfl
      generalize [x1, x2, x3, x4, x5] = gs at hgood g1 gl
      replace sc := sc.trans w1
      have sl := Same.refl L1
      clear a1 a2 a3 a4 a5 t1 t2 t3 t4 t5 w1 ne1
      refine ⟨(by show 2 ≤ sizeLine; decide), fun e ne => ?_⟩
      generalize hh : upd _ e _ = J6 at ⊢
      have sj := new_same ne hh
      have gj := new_at hh
      clear hh
      replace gj : J6 e = some (.lst (natsV [3, 4])) := gj
      refine ⟨e, [3, 4], 3610, rfl, rw_lit2 gj (by decide) (by decide +kernel), fun B6 x6 sk ax => ?_⟩
      rw [show exN [3, 4] = some (2, 3) by decide +kernel] at ax
      replace sl := (sl.trans sj).trans sk
      have a6 := ax
      have t6 := sj.trans sk
      clear ax sj gj sk ne
      refine ⟨(by show 3 ≤ sizeLine; decide), fun e ne => ?_⟩
      generalize hh : upd _ e _ = J7 at ⊢
      have sj := new_same ne hh
      have gj := new_at hh
      clear hh
      replace gj : J7 e = some (.lst (natsV [4, 5, 3])) := gj
      refine ⟨e, [4, 5, 3], 3610, rfl, rw_lit2 gj (by decide) (by decide +kernel), fun B7 x7 sk ax => ?_⟩
      rw [show exN [4, 5, 3] = some (3, 2) by decide +kernel] at ax
      replace sl := (sl.trans sj).trans sk
      have a7 := ax
      have t7 := sj.trans sk
      clear ax sj gj sk ne
      refine ⟨(by show 2 ≤ sizeLine; decide), fun e ne => ?_⟩
      generalize hh : upd _ e _ = J8 at ⊢
      have sj := new_same ne hh
      have gj := new_at hh
      clear hh
      replace gj : J8 e = some (.lst (natsV [0, 1])) := gj
      refine ⟨e, [0, 1], 3610, rfl, rw_lit2 gj (by decide) (by decide +kernel), fun B8 x8 sk ax => ?_⟩
      rw [show exN [0, 1] = some (2, 0) by decide +kernel] at ax
      replace sl := (sl.trans sj).trans sk
      have a8 := ax
      have t8 := sj.trans sk
      clear ax sj gj sk ne
      refine ⟨z3, fun e2 ne2 => ?_⟩
      generalize hh : upd _ e2 _ = L2 at ⊢
      have w2 := new_same ne2 hh
      have g2 := new_at hh
      clear hh
      replace sl := sl.trans w2
      obtain ⟨bs, ebs, hbad, ebl⟩ : ∃ bs : List (Addr × Int × Int), [V.ref x6, .ref x7, .ref x8] = refsT bs ∧ (∀ q ∈ bs, Ans T L2 q.1 (some q.2)) ∧ bs.map (·.2) = [(2, 3), (3, 2), (2, 0)] := by
        refine ⟨[(x6, 2, 3), (x7, 3, 2), (x8, 2, 0)], rfl, fun q hq => ?_, rfl⟩
        simp only [List.mem_cons, List.not_mem_nil, or_false] at hq
        have u7 := t8.trans w2
        have u6 := t7.trans u7
        rcases hq with rfl | rfl | rfl
        · exact a6.same u6
        · exact a7.same u7
        · exact a8.same w2
      rw [ebs] at g2
      have lbs : bs.length = 3 := by
        have := congrArg List.length ebl
        rw [List.length_map] at this
        exact this
      clear a6 a7 a8 t6 t7 t8 w2 ne2 ebs
      replace hgood := fun x hx => (hgood x hx).same sl
      replace g1 := sl _ _ g1
      replace sc := sc.trans sl
      clear sl
      -- the kinds
      refine ⟨_, rfl, e1, rfl, ⟨_, .of g1⟩, fun D nD => ?_⟩
      refine lc1_list (xs := gs.map V.ref) (fun i acc H' => Same L2 H' ∧ acc = List.replicate i (V.bl true)) ⟨same_new nD, rfl⟩ (fun i acc H' h => .of (h.1 _ _ g1)) (fun _ => rfl) ?_ ?_
      · rintro i y acc H' hy hl hD ⟨sm, he⟩
        obtain ⟨x, hx, rfl⟩ := get_map hy
        have hi := (List.getElem?_eq_some_iff.mp hx).1
        obtain ⟨k, ty, kn⟩ := ans_kinds ((hgood x (List.mem_of_getElem? hx)).same sm)
        refine ⟨_, rfl, _, _, k, _, true, rfl, .own _, ty, kn.can, LcN.put hD hl (small1000 (by omega)) ⟨same_free sm nD, ?_⟩⟩
        rw [he, List.replicate_succ']
      rintro acc L3 hl hD ⟨sm, he⟩
      subst he
      refine ⟨D, List.replicate 5 true, rfl, .of (by rw [hD, List.length_map, gl]; rfl), true, rfl, iteF ?_⟩
      replace g2 := sm _ _ g2
      replace hbad : ∀ q ∈ bs, Ans T L3 q.1 (some q.2) := fun q hq => (hbad q hq).same sm
      replace sc := sc.trans sm
      clear sm nD hD hl g1 hgood
      refine ⟨_, rfl, e2, rfl, ⟨_, .of g2⟩, fun D nD => ?_⟩
      refine lc1_list (xs := refsT bs) (fun i acc H' => Same L3 H' ∧ acc = List.replicate i (V.bl true)) ⟨same_new nD, rfl⟩ (fun i acc H' h => .of (h.1 _ _ g2)) (fun _ => rfl) ?_ ?_
      · rintro i y acc H' hy hl hD ⟨sm, he⟩
        obtain ⟨q, hq, rfl⟩ := get_map hy
        have hi := (List.getElem?_eq_some_iff.mp hq).1
        obtain ⟨k, ty, kn⟩ := ans_kinds ((hbad q (List.mem_of_getElem? hq)).same sm)
        refine ⟨_, rfl, _, _, k, _, true, rfl, .own _, ty, kn.bar, LcN.put hD hl (small1000 (by omega)) ⟨same_free sm nD, ?_⟩⟩
        rw [he, List.replicate_succ']
      rintro acc L4 hl hD ⟨sm, he⟩
      subst he
      refine ⟨D, List.replicate 3 true, rfl, .of (by rw [hD, List.length_map, lbs]; rfl), true, rfl, iteF ?_⟩
      replace g2 := sm _ _ g2
      replace hbad : ∀ q ∈ bs, Ans T L4 q.1 (some q.2) := fun q hq => (hbad q hq).same sm
      replace sc := sc.trans sm
      clear sm nD hD hl
      -- the sizes, the most
      refine ⟨_, rfl, e2, rfl, ⟨_, .of g2⟩, fun D nD => ?_⟩
      refine lc1_list (xs := refsT bs) (fun i acc H' => Same L4 H' ∧ ∃ ts : List (Addr × Int × Int), acc = refsT ts ∧ (∀ q ∈ ts, H' q.1 = some (.tup [.int q.2.1, .int q.2.2]) ∧ q.1 ≠ D) ∧ ts.map (·.2) = (bs.map (·.2)).take i) ⟨same_new nD, [], rfl, fun q h => (nomatch h), rfl⟩ (fun i acc H' h => .of (h.1 _ _ g2)) (fun _ => rfl) ?_ ?_
      · rintro i y acc H' hy hl hD ⟨sm, ts, rfl, ht, et⟩
        obtain ⟨⟨x, j, k⟩, hq, rfl⟩ := get_map hy
        have hi := (List.getElem?_eq_some_iff.mp hq).1
        obtain ⟨dx, hx⟩ := (hbad _ (List.mem_of_getElem? hq)).same sm
        refine ⟨_, rfl, x, T.k_Barred, dx, _, _, rfl, hx, T.C_Barred, T.n_Barred_size, bf_size _ _, _, rfl, x, T.k_Barred, dx, _, _, rfl, hx, T.C_Barred, T.n_Barred_most, bf_most _ _, z2, fun u nu => ?_⟩
        generalize hh : upd _ u _ = M1 at ⊢
        have w1 := new_same nu hh
        have f1 := new_at hh
        clear hh
        have hDu : u ≠ D := fun e => by rw [e] at nu; rw [nu] at hD; cases hD
        refine LcN.put (w1 _ _ hD) hl (small1000 (by omega)) ⟨same_free (sm.trans w1) nD, ts ++ [(u, j, k)], by show refsT ts ++ [V.ref u] = (ts ++ [(u, j, k)]).map (fun q => V.ref q.1); rw [List.map_append]; rfl, fun q hq => ?_, ?_⟩
        · rcases List.mem_append.mp hq with hq | hq
          · obtain ⟨h1, h2⟩ := ht q hq
            exact ⟨by rw [upd_ne h2]; exact w1 _ _ h1, h2⟩
          · rw [List.mem_singleton.mp hq]
            exact ⟨by rw [upd_ne hDu]; exact f1, hDu⟩
        · rw [List.map_append, et, List.take_add_one, List.getElem?_map, hq]
          rfl
      rintro acc L5 hl hD ⟨sm, ts, rfl, ht, et⟩
      rw [List.length_map, List.take_of_length_le (by rw [List.length_map]; exact Nat.le_refl _), ebl] at et
      have gt : Tps L5 ts := fun q hq => (ht q hq).1
      have gu : Tps L5 [] := fun q hq => nomatch hq
      refine ⟨z2, fun t1 n1 => ?_⟩
      generalize hh : upd _ t1 _ = M1 at ⊢
      have w1 := new_same n1 hh
      have f1 := new_at hh
      clear hh
      replace gu := gu.put w1 f1
      refine ⟨z2, fun t2 n2 => ?_⟩
      generalize hh : upd _ t2 _ = M2 at ⊢
      have w2 := new_same n2 hh
      have f2 := new_at hh
      clear hh
      replace gu := gu.put w2 f2
      refine ⟨z2, fun t3 n3 => ?_⟩
      generalize hh : upd _ t3 _ = M3 at ⊢
      have w3 := new_same n3 hh
      have f3 := new_at hh
      clear hh
      replace gu := gu.put w3 f3
      refine ⟨z3, fun e3 n4 => ?_⟩
      generalize hh : upd _ e3 _ = M4 at ⊢
      have w4 := new_same n4 hh
      have f4 := new_at hh
      clear hh
      have w14 := w1.trans (w2.trans (w3.trans w4))
      refine eqTT (ts := ts) (us := [(t1, 2, 3), (t2, 3, 2), (t3, 2, 0)]) [(2, 3), (3, 2), (2, 0)] rfl rfl (.of (w14 _ _ hD)) (.of f4) (gt.same w14) (gu.same w4) et rfl (by decide +kernel) (by decide +kernel) ?_
      exact q _ (sc.trans (sm.trans w14))
end
end Sh

/-! What the top has written; the law. -/
namespace Sh
open PySem PySem.Spec PyProof.Rows L2
theorem kit_sub {K : PySem.W.Frag} {t : Value} {D : Addr} {b : Bool} (i : PySem.W.isClsIn K D = true) (ty : PySem.W.typeIn K (.ref D) = some (.type "type")) (self : PySem.W.subIn K t t = some true) (s : PySem.W.subIn K t (.ref D) = some b) : PySem.W.kitOne K t (.ref D) = some b := by
  unfold PySem.W.kitOne
  by_cases h : (t == .ref D) = true
  · rw [if_pos h]
    have e : t = .ref D := beq_iff_eq.mp h
    rw [e] at s self
    exact self.symm.trans s
  · rw [if_neg h]
    have e2 : ((PySem.W.clsIn K D).isSome && PySem.W.typeIn K (.ref D) == some (.type "type")) = true := by
      have i' : (PySem.W.clsIn K D).isSome = true := i
      rw [i', ty] <;> rfl
    show (if ((PySem.W.clsIn K D).isSome && PySem.W.typeIn K (.ref D) == some (.type "type")) = true then PySem.W.subIn K t (.ref D) else none) = some b
    rw [if_pos e2]
    exact s
theorem kit_subT {K : PySem.W.Frag} {C : Addr} {n : String} {b : Bool} (m : PySem.W.kitMeta n = true) (s : PySem.W.subIn K (.ref C) (.type n) = some b) : PySem.W.kitOne K (.ref C) (.type n) = some b := by
  unfold PySem.W.kitOne
  rw [if_neg (by intro h; exact nomatch (beq_iff_eq.mp h))]
  show (if PySem.W.kitMeta n = true then PySem.W.subIn K (.ref C) (.type n) else none) = some b
  rw [if_pos m]
  exact s
theorem all_mk {l : PySem.W.OpenLaw} {w : World} {K : PySem.W.Frag} {h : Heap} {mg : Str → Option Value} {fa : Addr} (X : K.In h) (G : h.Ns mainGlobals mg) (hfa : mg "law" = some (.ref fa))
    {C_Answer : Addr} (g_Answer : PySem.W.nsIn K mainGlobals "Answer" = some (some (.ref C_Answer)))
    {C_Can : Addr} (g_Can : PySem.W.nsIn K mainGlobals "Can" = some (some (.ref C_Can)))
    {C_Barred : Addr} (g_Barred : PySem.W.nsIn K mainGlobals "Barred" = some (some (.ref C_Barred)))
    {f0 : Addr} {od0 an0 : Option Addr} {sl0 : Array (Option Value)} {oc0 kV0 dc0 pm0 cd0 ct0 : Value}
    (a0 : PySem.W.nsIn K mainGlobals "is_number" = some (some (.ref f0)))
    (l0 : K.lookup f0 = some ⟨oc0, od0, .func (PySem.W.fnOf "is_number" "is_number" (defArgs s_is_number) (defBody s_is_number) (defScope s_is_number) .none kV0 dc0 pm0 an0 cd0 ct0), sl0⟩)
    (c0 : PySem.W.codeIn K cd0 "is_number" = true) (k0 : PySem.W.keepIn K (.ref f0) = true)
    {f1 : Addr} {od1 an1 : Option Addr} {sl1 : Array (Option Value)} {oc1 kV1 dc1 pm1 cd1 ct1 : Value}
    (a1 : PySem.W.nsIn K mainGlobals "is_size" = some (some (.ref f1)))
    (l1 : K.lookup f1 = some ⟨oc1, od1, .func (PySem.W.fnOf "is_size" "is_size" (defArgs s_is_size) (defBody s_is_size) (defScope s_is_size) .none kV1 dc1 pm1 an1 cd1 ct1), sl1⟩)
    (c1 : PySem.W.codeIn K cd1 "is_size" = true) (k1 : PySem.W.keepIn K (.ref f1) = true)
    {f2 : Addr} {od2 an2 : Option Addr} {sl2 : Array (Option Value)} {oc2 kV2 dc2 pm2 cd2 ct2 : Value}
    (a2 : PySem.W.nsIn K mainGlobals "is_list_of_numbers" = some (some (.ref f2)))
    (l2 : K.lookup f2 = some ⟨oc2, od2, .func (PySem.W.fnOf "is_list_of_numbers" "is_list_of_numbers" (defArgs s_is_list_of_numbers) (defBody s_is_list_of_numbers) (defScope s_is_list_of_numbers) .none kV2 dc2 pm2 an2 cd2 ct2), sl2⟩)
    (c2 : PySem.W.codeIn K cd2 "is_list_of_numbers" = true) (k2 : PySem.W.keepIn K (.ref f2) = true)
    {f3 : Addr} {od3 an3 : Option Addr} {sl3 : Array (Option Value)} {oc3 kV3 dc3 pm3 cd3 ct3 : Value}
    (a3 : PySem.W.nsIn K mainGlobals "is_falling" = some (some (.ref f3)))
    (l3 : K.lookup f3 = some ⟨oc3, od3, .func (PySem.W.fnOf "is_falling" "is_falling" (defArgs s_is_falling) (defBody s_is_falling) (defScope s_is_falling) .none kV3 dc3 pm3 an3 cd3 ct3), sl3⟩)
    (c3 : PySem.W.codeIn K cd3 "is_falling" = true) (k3 : PySem.W.keepIn K (.ref f3) = true)
    {f4 : Addr} {od4 an4 : Option Addr} {sl4 : Array (Option Value)} {oc4 kV4 dc4 pm4 cd4 ct4 : Value}
    (a4 : PySem.W.nsIn K mainGlobals "is_set" = some (some (.ref f4)))
    (l4 : K.lookup f4 = some ⟨oc4, od4, .func (PySem.W.fnOf "is_set" "is_set" (defArgs s_is_set) (defBody s_is_set) (defScope s_is_set) .none kV4 dc4 pm4 an4 cd4 ct4), sl4⟩)
    (c4 : PySem.W.codeIn K cd4 "is_set" = true) (k4 : PySem.W.keepIn K (.ref f4) = true)
    {f5 : Addr} {od5 an5 : Option Addr} {sl5 : Array (Option Value)} {oc5 kV5 dc5 pm5 cd5 ct5 : Value}
    (a5 : PySem.W.nsIn K mainGlobals "is_row" = some (some (.ref f5)))
    (l5 : K.lookup f5 = some ⟨oc5, od5, .func (PySem.W.fnOf "is_row" "is_row" (defArgs s_is_row) (defBody s_is_row) (defScope s_is_row) .none kV5 dc5 pm5 an5 cd5 ct5), sl5⟩)
    (c5 : PySem.W.codeIn K cd5 "is_row" = true) (k5 : PySem.W.keepIn K (.ref f5) = true)
    {f6 : Addr} {od6 an6 : Option Addr} {sl6 : Array (Option Value)} {oc6 kV6 dc6 pm6 cd6 ct6 : Value}
    (a6 : PySem.W.nsIn K mainGlobals "power" = some (some (.ref f6)))
    (l6 : K.lookup f6 = some ⟨oc6, od6, .func (PySem.W.fnOf "power" "power" (defArgs s_power) (defBody s_power) (defScope s_power) .none kV6 dc6 pm6 an6 cd6 ct6), sl6⟩)
    (c6 : PySem.W.codeIn K cd6 "power" = true) (k6 : PySem.W.keepIn K (.ref f6) = true)
    {f7 : Addr} {od7 an7 : Option Addr} {sl7 : Array (Option Value)} {oc7 kV7 dc7 pm7 cd7 ct7 : Value}
    (a7 : PySem.W.nsIn K mainGlobals "guess_above" = some (some (.ref f7)))
    (l7 : K.lookup f7 = some ⟨oc7, od7, .func (PySem.W.fnOf "guess_above" "guess_above" (defArgs s_guess_above) (defBody s_guess_above) (defScope s_guess_above) .none kV7 dc7 pm7 an7 cd7 ct7), sl7⟩)
    (c7 : PySem.W.codeIn K cd7 "guess_above" = true) (k7 : PySem.W.keepIn K (.ref f7) = true)
    {f8 : Addr} {od8 an8 : Option Addr} {sl8 : Array (Option Value)} {oc8 kV8 dc8 pm8 cd8 ct8 : Value}
    (a8 : PySem.W.nsIn K mainGlobals "whole_root" = some (some (.ref f8)))
    (l8 : K.lookup f8 = some ⟨oc8, od8, .func (PySem.W.fnOf "whole_root" "whole_root" (defArgs s_whole_root) (defBody s_whole_root) (defScope s_whole_root) .none kV8 dc8 pm8 an8 cd8 ct8), sl8⟩)
    (c8 : PySem.W.codeIn K cd8 "whole_root" = true) (k8 : PySem.W.keepIn K (.ref f8) = true)
    {f9 : Addr} {od9 an9 : Option Addr} {sl9 : Array (Option Value)} {oc9 kV9 dc9 pm9 cd9 ct9 : Value}
    (a9 : PySem.W.nsIn K mainGlobals "greatest_first" = some (some (.ref f9)))
    (l9 : K.lookup f9 = some ⟨oc9, od9, .func (PySem.W.fnOf "greatest_first" "greatest_first" (defArgs s_greatest_first) (defBody s_greatest_first) (defScope s_greatest_first) .none kV9 dc9 pm9 an9 cd9 ct9), sl9⟩)
    (c9 : PySem.W.codeIn K cd9 "greatest_first" = true) (k9 : PySem.W.keepIn K (.ref f9) = true)
    {f10 : Addr} {od10 an10 : Option Addr} {sl10 : Array (Option Value)} {oc10 kV10 dc10 pm10 cd10 ct10 : Value}
    (a10 : PySem.W.nsIn K mainGlobals "numbers_of_set" = some (some (.ref f10)))
    (l10 : K.lookup f10 = some ⟨oc10, od10, .func (PySem.W.fnOf "numbers_of_set" "numbers_of_set" (defArgs s_numbers_of_set) (defBody s_numbers_of_set) (defScope s_numbers_of_set) .none kV10 dc10 pm10 an10 cd10 ct10), sl10⟩)
    (c10 : PySem.W.codeIn K cd10 "numbers_of_set" = true) (k10 : PySem.W.keepIn K (.ref f10) = true)
    {f11 : Addr} {od11 an11 : Option Addr} {sl11 : Array (Option Value)} {oc11 kV11 dc11 pm11 cd11 ct11 : Value}
    (a11 : PySem.W.nsIn K mainGlobals "check_number" = some (some (.ref f11)))
    (l11 : K.lookup f11 = some ⟨oc11, od11, .func (PySem.W.fnOf "check_number" "check_number" (defArgs s_check_number) (defBody s_check_number) (defScope s_check_number) .none kV11 dc11 pm11 an11 cd11 ct11), sl11⟩)
    (c11 : PySem.W.codeIn K cd11 "check_number" = true) (k11 : PySem.W.keepIn K (.ref f11) = true)
    {f12 : Addr} {od12 an12 : Option Addr} {sl12 : Array (Option Value)} {oc12 kV12 dc12 pm12 cd12 ct12 : Value}
    (a12 : PySem.W.nsIn K mainGlobals "first_sets_at" = some (some (.ref f12)))
    (l12 : K.lookup f12 = some ⟨oc12, od12, .func (PySem.W.fnOf "first_sets_at" "first_sets_at" (defArgs s_first_sets_at) (defBody s_first_sets_at) (defScope s_first_sets_at) .none kV12 dc12 pm12 an12 cd12 ct12), sl12⟩)
    (c12 : PySem.W.codeIn K cd12 "first_sets_at" = true) (k12 : PySem.W.keepIn K (.ref f12) = true)
    {f13 : Addr} {od13 an13 : Option Addr} {sl13 : Array (Option Value)} {oc13 kV13 dc13 pm13 cd13 ct13 : Value}
    (a13 : PySem.W.nsIn K mainGlobals "over" = some (some (.ref f13)))
    (l13 : K.lookup f13 = some ⟨oc13, od13, .func (PySem.W.fnOf "over" "over" (defArgs s_over) (defBody s_over) (defScope s_over) .none kV13 dc13 pm13 an13 cd13 ct13), sl13⟩)
    (c13 : PySem.W.codeIn K cd13 "over" = true) (k13 : PySem.W.keepIn K (.ref f13) = true)
    {f14 : Addr} {od14 an14 : Option Addr} {sl14 : Array (Option Value)} {oc14 kV14 dc14 pm14 cd14 ct14 : Value}
    (a14 : PySem.W.nsIn K mainGlobals "first_excess" = some (some (.ref f14)))
    (l14 : K.lookup f14 = some ⟨oc14, od14, .func (PySem.W.fnOf "first_excess" "first_excess" (defArgs s_first_excess) (defBody s_first_excess) (defScope s_first_excess) .none kV14 dc14 pm14 an14 cd14 ct14), sl14⟩)
    (c14 : PySem.W.codeIn K cd14 "first_excess" = true) (k14 : PySem.W.keepIn K (.ref f14) = true)
    {f15 : Addr} {od15 an15 : Option Addr} {sl15 : Array (Option Value)} {oc15 kV15 dc15 pm15 cd15 ct15 : Value}
    (a15 : PySem.W.findIn K (.ref C_Can) "shows" = some (some (.ref f15))) (i15 : PySem.W.isFn K (.ref f15) = true)
    (l15 : K.lookup f15 = some ⟨oc15, od15, .func (PySem.W.fnOf "shows" "Can.shows" (defArgs s_Can_shows) (defBody s_Can_shows) (defScope s_Can_shows) .none kV15 dc15 pm15 an15 cd15 ct15), sl15⟩)
    (c15 : PySem.W.codeIn K cd15 "Can.shows" = true) (k15 : PySem.W.keepIn K (.ref f15) = true)
    {f16 : Addr} {od16 an16 : Option Addr} {sl16 : Array (Option Value)} {oc16 kV16 dc16 pm16 cd16 ct16 : Value}
    (a16 : PySem.W.findIn K (.ref C_Barred) "__init__" = some (some (.ref f16))) (i16 : PySem.W.isFn K (.ref f16) = true)
    (l16 : K.lookup f16 = some ⟨oc16, od16, .func (PySem.W.fnOf "__init__" "Barred.__init__" (defArgs s_Barred___init__) (defBody s_Barred___init__) (defScope s_Barred___init__) .none kV16 dc16 pm16 an16 cd16 ct16), sl16⟩)
    (c16 : PySem.W.codeIn K cd16 "Barred.__init__" = true) (k16 : PySem.W.keepIn K (.ref f16) = true)
    {f17 : Addr} {od17 an17 : Option Addr} {sl17 : Array (Option Value)} {oc17 kV17 dc17 pm17 cd17 ct17 : Value}
    (a17 : PySem.W.findIn K (.ref C_Barred) "shows" = some (some (.ref f17))) (i17 : PySem.W.isFn K (.ref f17) = true)
    (l17 : K.lookup f17 = some ⟨oc17, od17, .func (PySem.W.fnOf "shows" "Barred.shows" (defArgs s_Barred_shows) (defBody s_Barred_shows) (defScope s_Barred_shows) .none kV17 dc17 pm17 an17 cd17 ct17), sl17⟩)
    (c17 : PySem.W.codeIn K cd17 "Barred.shows" = true) (k17 : PySem.W.keepIn K (.ref f17) = true)
    {f18 : Addr} {od18 an18 : Option Addr} {sl18 : Array (Option Value)} {oc18 kV18 dc18 pm18 cd18 ct18 : Value}
    (a18 : PySem.W.nsIn K mainGlobals "check_set" = some (some (.ref f18)))
    (l18 : K.lookup f18 = some ⟨oc18, od18, .func (PySem.W.fnOf "check_set" "check_set" (defArgs s_check_set) (defBody s_check_set) (defScope s_check_set) .none kV18 dc18 pm18 an18 cd18 ct18), sl18⟩)
    (c18 : PySem.W.codeIn K cd18 "check_set" = true) (k18 : PySem.W.keepIn K (.ref f18) = true)
    {f19 : Addr} {od19 an19 : Option Addr} {sl19 : Array (Option Value)} {oc19 kV19 dc19 pm19 cd19 ct19 : Value}
    (a19 : PySem.W.nsIn K mainGlobals "number_of" = some (some (.ref f19)))
    (l19 : K.lookup f19 = some ⟨oc19, od19, .func (PySem.W.fnOf "number_of" "number_of" (defArgs s_number_of) (defBody s_number_of) (defScope s_number_of) .none kV19 dc19 pm19 an19 cd19 ct19), sl19⟩)
    (c19 : PySem.W.codeIn K cd19 "number_of" = true) (k19 : PySem.W.keepIn K (.ref f19) = true)
    {f20 : Addr} {od20 an20 : Option Addr} {sl20 : Array (Option Value)} {oc20 kV20 dc20 pm20 cd20 ct20 : Value}
    (a20 : PySem.W.nsIn K mainGlobals "check_row" = some (some (.ref f20)))
    (l20 : K.lookup f20 = some ⟨oc20, od20, .func (PySem.W.fnOf "check_row" "check_row" (defArgs s_check_row) (defBody s_check_row) (defScope s_check_row) .none kV20 dc20 pm20 an20 cd20 ct20), sl20⟩)
    (c20 : PySem.W.codeIn K cd20 "check_row" = true) (k20 : PySem.W.keepIn K (.ref f20) = true)
    {f21 : Addr} {od21 an21 : Option Addr} {sl21 : Array (Option Value)} {oc21 kV21 dc21 pm21 cd21 ct21 : Value}
    (a21 : PySem.W.nsIn K mainGlobals "check_family" = some (some (.ref f21)))
    (l21 : K.lookup f21 = some ⟨oc21, od21, .func (PySem.W.fnOf "check_family" "check_family" (defArgs s_check_family) (defBody s_check_family) (defScope s_check_family) .none kV21 dc21 pm21 an21 cd21 ct21), sl21⟩)
    (c21 : PySem.W.codeIn K cd21 "check_family" = true) (k21 : PySem.W.keepIn K (.ref f21) = true)
    {f22 : Addr} {od22 an22 : Option Addr} {sl22 : Array (Option Value)} {oc22 kV22 dc22 pm22 cd22 ct22 : Value}
    (a22 : PySem.W.nsIn K mainGlobals "told" = some (some (.ref f22)))
    (l22 : K.lookup f22 = some ⟨oc22, od22, .func (PySem.W.fnOf "told" "told" (defArgs s_told) (defBody s_told) (defScope s_told) .none kV22 dc22 pm22 an22 cd22 ct22), sl22⟩)
    (c22 : PySem.W.codeIn K cd22 "told" = true) (k22 : PySem.W.keepIn K (.ref f22) = true)
    {f23 : Addr} {od23 an23 : Option Addr} {sl23 : Array (Option Value)} {oc23 kV23 dc23 pm23 cd23 ct23 : Value}
    (a23 : PySem.W.nsIn K mainGlobals "has" = some (some (.ref f23)))
    (l23 : K.lookup f23 = some ⟨oc23, od23, .func (PySem.W.fnOf "has" "has" (defArgs s_has) (defBody s_has) (defScope s_has) .none kV23 dc23 pm23 an23 cd23 ct23), sl23⟩)
    (c23 : PySem.W.codeIn K cd23 "has" = true) (k23 : PySem.W.keepIn K (.ref f23) = true)
    {f24 : Addr} {od24 an24 : Option Addr} {sl24 : Array (Option Value)} {oc24 kV24 dc24 pm24 cd24 ct24 : Value}
    (a24 : PySem.W.nsIn K mainGlobals "most" = some (some (.ref f24)))
    (l24 : K.lookup f24 = some ⟨oc24, od24, .func (PySem.W.fnOf "most" "most" (defArgs s_most) (defBody s_most) (defScope s_most) .none kV24 dc24 pm24 an24 cd24 ct24), sl24⟩)
    (c24 : PySem.W.codeIn K cd24 "most" = true) (k24 : PySem.W.keepIn K (.ref f24) = true)
    {f25 : Addr} {od25 an25 : Option Addr} {sl25 : Array (Option Value)} {oc25 kV25 dc25 pm25 cd25 ct25 : Value}
    (a25 : PySem.W.nsIn K mainGlobals "_law_cell_at" = some (some (.ref f25)))
    (l25 : K.lookup f25 = some ⟨oc25, od25, .func (PySem.W.fnOf "_law_cell_at" "_law_cell_at" (defArgs s__law_cell_at) (defBody s__law_cell_at) (defScope s__law_cell_at) .none kV25 dc25 pm25 an25 cd25 ct25), sl25⟩)
    (c25 : PySem.W.codeIn K cd25 "_law_cell_at" = true) (k25 : PySem.W.keepIn K (.ref f25) = true)
    {f26 : Addr} {od26 an26 : Option Addr} {sl26 : Array (Option Value)} {oc26 kV26 dc26 pm26 cd26 ct26 : Value}
    (a26 : PySem.W.nsIn K mainGlobals "_law_draw" = some (some (.ref f26)))
    (l26 : K.lookup f26 = some ⟨oc26, od26, .func (PySem.W.fnOf "_law_draw" "_law_draw" (defArgs s__law_draw) (defBody s__law_draw) (defScope s__law_draw) .none kV26 dc26 pm26 an26 cd26 ct26), sl26⟩)
    (c26 : PySem.W.codeIn K cd26 "_law_draw" = true) (k26 : PySem.W.keepIn K (.ref f26) = true)
    {f27 : Addr} {od27 an27 : Option Addr} {sl27 : Array (Option Value)} {oc27 kV27 dc27 pm27 cd27 ct27 : Value}
    (a27 : PySem.W.nsIn K mainGlobals "_law_value" = some (some (.ref f27)))
    (l27 : K.lookup f27 = some ⟨oc27, od27, .func (PySem.W.fnOf "_law_value" "_law_value" (defArgs s__law_value) (defBody s__law_value) (defScope s__law_value) .none kV27 dc27 pm27 an27 cd27 ct27), sl27⟩)
    (c27 : PySem.W.codeIn K cd27 "_law_value" = true) (k27 : PySem.W.keepIn K (.ref f27) = true)
    {f28 : Addr} {od28 an28 : Option Addr} {sl28 : Array (Option Value)} {oc28 kV28 dc28 pm28 cd28 ct28 : Value}
    (a28 : PySem.W.nsIn K mainGlobals "_law_whole" = some (some (.ref f28)))
    (l28 : K.lookup f28 = some ⟨oc28, od28, .func (PySem.W.fnOf "_law_whole" "_law_whole" (defArgs s__law_whole) (defBody s__law_whole) (defScope s__law_whole) .none kV28 dc28 pm28 an28 cd28 ct28), sl28⟩)
    (c28 : PySem.W.codeIn K cd28 "_law_whole" = true) (k28 : PySem.W.keepIn K (.ref f28) = true)
    {f29 : Addr} {od29 an29 : Option Addr} {sl29 : Array (Option Value)} {oc29 kV29 dc29 pm29 cd29 ct29 : Value}
    (a29 : PySem.W.nsIn K mainGlobals "_law_picks" = some (some (.ref f29)))
    (l29 : K.lookup f29 = some ⟨oc29, od29, .func (PySem.W.fnOf "_law_picks" "_law_picks" (defArgs s__law_picks) (defBody s__law_picks) (defScope s__law_picks) .none kV29 dc29 pm29 an29 cd29 ct29), sl29⟩)
    (c29 : PySem.W.codeIn K cd29 "_law_picks" = true) (k29 : PySem.W.keepIn K (.ref f29) = true)
    {f30 : Addr} {od30 an30 : Option Addr} {sl30 : Array (Option Value)} {oc30 kV30 dc30 pm30 cd30 ct30 : Value}
    (a30 : PySem.W.nsIn K mainGlobals "_law_set" = some (some (.ref f30)))
    (l30 : K.lookup f30 = some ⟨oc30, od30, .func (PySem.W.fnOf "_law_set" "_law_set" (defArgs s__law_set) (defBody s__law_set) (defScope s__law_set) .none kV30 dc30 pm30 an30 cd30 ct30), sl30⟩)
    (c30 : PySem.W.codeIn K cd30 "_law_set" = true) (k30 : PySem.W.keepIn K (.ref f30) = true)
    {f31 : Addr} {od31 an31 : Option Addr} {sl31 : Array (Option Value)} {oc31 kV31 dc31 pm31 cd31 ct31 : Value}
    (a31 : PySem.W.nsIn K mainGlobals "_law_moved" = some (some (.ref f31)))
    (l31 : K.lookup f31 = some ⟨oc31, od31, .func (PySem.W.fnOf "_law_moved" "_law_moved" (defArgs s__law_moved) (defBody s__law_moved) (defScope s__law_moved) .none kV31 dc31 pm31 an31 cd31 ct31), sl31⟩)
    (c31 : PySem.W.codeIn K cd31 "_law_moved" = true) (k31 : PySem.W.keepIn K (.ref f31) = true)
    {f32 : Addr} {od32 an32 : Option Addr} {sl32 : Array (Option Value)} {oc32 kV32 dc32 pm32 cd32 ct32 : Value}
    (a32 : PySem.W.nsIn K mainGlobals "_law_least" = some (some (.ref f32)))
    (l32 : K.lookup f32 = some ⟨oc32, od32, .func (PySem.W.fnOf "_law_least" "_law_least" (defArgs s__law_least) (defBody s__law_least) (defScope s__law_least) .none kV32 dc32 pm32 an32 cd32 ct32), sl32⟩)
    (c32 : PySem.W.codeIn K cd32 "_law_least" = true) (k32 : PySem.W.keepIn K (.ref f32) = true)
    {f33 : Addr} {od33 an33 : Option Addr} {sl33 : Array (Option Value)} {oc33 kV33 dc33 pm33 cd33 ct33 : Value}
    (a33 : PySem.W.nsIn K mainGlobals "_law_row" = some (some (.ref f33)))
    (l33 : K.lookup f33 = some ⟨oc33, od33, .func (PySem.W.fnOf "_law_row" "_law_row" (defArgs s__law_row) (defBody s__law_row) (defScope s__law_row) .none kV33 dc33 pm33 an33 cd33 ct33), sl33⟩)
    (c33 : PySem.W.codeIn K cd33 "_law_row" = true) (k33 : PySem.W.keepIn K (.ref f33) = true)
    {f34 : Addr} {od34 an34 : Option Addr} {sl34 : Array (Option Value)} {oc34 kV34 dc34 pm34 cd34 ct34 : Value}
    (a34 : PySem.W.nsIn K mainGlobals "_law_due" = some (some (.ref f34)))
    (l34 : K.lookup f34 = some ⟨oc34, od34, .func (PySem.W.fnOf "_law_due" "_law_due" (defArgs s__law_due) (defBody s__law_due) (defScope s__law_due) .none kV34 dc34 pm34 an34 cd34 ct34), sl34⟩)
    (c34 : PySem.W.codeIn K cd34 "_law_due" = true) (k34 : PySem.W.keepIn K (.ref f34) = true)
    {f35 : Addr} {od35 an35 : Option Addr} {sl35 : Array (Option Value)} {oc35 kV35 dc35 pm35 cd35 ct35 : Value}
    (a35 : PySem.W.nsIn K mainGlobals "_law_says" = some (some (.ref f35)))
    (l35 : K.lookup f35 = some ⟨oc35, od35, .func (PySem.W.fnOf "_law_says" "_law_says" (defArgs s__law_says) (defBody s__law_says) (defScope s__law_says) .none kV35 dc35 pm35 an35 cd35 ct35), sl35⟩)
    (c35 : PySem.W.codeIn K cd35 "_law_says" = true) (k35 : PySem.W.keepIn K (.ref f35) = true)
    {f36 : Addr} {od36 an36 : Option Addr} {sl36 : Array (Option Value)} {oc36 kV36 dc36 pm36 cd36 ct36 : Value}
    (a36 : PySem.W.nsIn K mainGlobals "_law_family_right" = some (some (.ref f36)))
    (l36 : K.lookup f36 = some ⟨oc36, od36, .func (PySem.W.fnOf "_law_family_right" "_law_family_right" (defArgs s__law_family_right) (defBody s__law_family_right) (defScope s__law_family_right) .none kV36 dc36 pm36 an36 cd36 ct36), sl36⟩)
    (c36 : PySem.W.codeIn K cd36 "_law_family_right" = true) (k36 : PySem.W.keepIn K (.ref f36) = true)
    {f37 : Addr} {od37 an37 : Option Addr} {sl37 : Array (Option Value)} {oc37 kV37 dc37 pm37 cd37 ct37 : Value}
    (a37 : PySem.W.nsIn K mainGlobals "_law_right" = some (some (.ref f37)))
    (l37 : K.lookup f37 = some ⟨oc37, od37, .func (PySem.W.fnOf "_law_right" "_law_right" (defArgs s__law_right) (defBody s__law_right) (defScope s__law_right) .none kV37 dc37 pm37 an37 cd37 ct37), sl37⟩)
    (c37 : PySem.W.codeIn K cd37 "_law_right" = true) (k37 : PySem.W.keepIn K (.ref f37) = true)
    {f38 : Addr} {od38 an38 : Option Addr} {sl38 : Array (Option Value)} {oc38 kV38 dc38 pm38 cd38 ct38 : Value}
    (a38 : PySem.W.nsIn K mainGlobals "law" = some (some (.ref f38)))
    (l38 : K.lookup f38 = some ⟨oc38, od38, .func (PySem.W.fnOf "law" "law" (defArgs s_law) (defBody s_law) (defScope s_law) .none kV38 dc38 pm38 an38 cd38 ct38), sl38⟩)
    (c38 : PySem.W.codeIn K cd38 "law" = true) (k38 : PySem.W.keepIn K (.ref f38) = true)
    (z_all : PySem.W.nsIn K mainGlobals "all" = some none)
    (z_bool : PySem.W.nsIn K mainGlobals "bool" = some none)
    (z_enumerate : PySem.W.nsIn K mainGlobals "enumerate" = some none)
    (z_int : PySem.W.nsIn K mainGlobals "int" = some none)
    (z_isinstance : PySem.W.nsIn K mainGlobals "isinstance" = some none)
    (z_len : PySem.W.nsIn K mainGlobals "len" = some none)
    (z_list : PySem.W.nsIn K mainGlobals "list" = some none)
    (z_max : PySem.W.nsIn K mainGlobals "max" = some none)
    (z_min : PySem.W.nsIn K mainGlobals "min" = some none)
    (z_range : PySem.W.nsIn K mainGlobals "range" = some none)
    (z_type : PySem.W.nsIn K mainGlobals "type" = some none)
    (z_zip : PySem.W.nsIn K mainGlobals "zip" = some none)
    (m_comb : PySem.W.nsIn K mainGlobals "comb" = some (some (.builtin "math.comb")))
    (m_factorial : PySem.W.nsIn K mainGlobals "factorial" = some (some (.builtin "math.factorial")))
    {t_GREATEST_SIZE : Tok} (i_GREATEST_SIZE : PySem.W.nsIn K mainGlobals "GREATEST_SIZE" = some (some (.int 20 t_GREATEST_SIZE)))
    (pg_Can : PySem.W.plainGet K C_Can Str.empty = true)
    (hd_Can : PySem.W.hasDictIn K C_Can = true)
    (po_Can : PySem.W.plainOver K C_Can = true)
    (sa_Can : PySem.W.findIn K (.ref C_Can) "__setattr__" = some (some (.builtin "object.__setattr__")))
    (ca_Can : PySem.W.findIn K (.ref C_Can) "__class__" = some (some (.builtin "object.__class__")))
    (gt_object : PySem.W.specialIn K (.builtin "object.__class__") "__get__" = some (some (.builtin "getset_descriptor.__get__")))
    (tk_object : PySem.W.takesIn K (.builtin "object.__class__") = some true)
    (ob_Can : PySem.W.mroIn K C_Can (.type "object") = some true)
    (mk_Can : PySem.W.makesIn K C_Can = true)
    (kc_Can : PySem.W.keepIn K (.ref C_Can) = true)
    (in_Can : PySem.W.findIn K (.ref C_Can) "__init__" = some (some (.builtin "object.__init__")))
    (u_Can_Answer : PySem.W.subIn K (.ref C_Can) (.ref C_Answer) = some true)
    (ic_Answer : PySem.W.isClsIn K C_Answer = true)
    (ty_Answer : PySem.W.typeIn K (.ref C_Answer) = some (.type "type"))
    (u_Can_Can : PySem.W.subIn K (.ref C_Can) (.ref C_Can) = some true)
    (ic_Can : PySem.W.isClsIn K C_Can = true)
    (ty_Can : PySem.W.typeIn K (.ref C_Can) = some (.type "type"))
    (u_Can_Barred : PySem.W.subIn K (.ref C_Can) (.ref C_Barred) = some false)
    (ic_Barred : PySem.W.isClsIn K C_Barred = true)
    (ty_Barred : PySem.W.typeIn K (.ref C_Barred) = some (.type "type"))
    (pg_Barred : PySem.W.plainGet K C_Barred Str.empty = true)
    (hd_Barred : PySem.W.hasDictIn K C_Barred = true)
    (po_Barred : PySem.W.plainOver K C_Barred = true)
    (sa_Barred : PySem.W.findIn K (.ref C_Barred) "__setattr__" = some (some (.builtin "object.__setattr__")))
    (ca_Barred : PySem.W.findIn K (.ref C_Barred) "__class__" = some (some (.builtin "object.__class__")))
    (ob_Barred : PySem.W.mroIn K C_Barred (.type "object") = some true)
    (mk_Barred : PySem.W.makesIn K C_Barred = true)
    (kc_Barred : PySem.W.keepIn K (.ref C_Barred) = true)
    (n_Barred_size : PySem.W.findIn K (.ref C_Barred) "size" = some none)
    (n_Barred_most : PySem.W.findIn K (.ref C_Barred) "most" = some none)
    (u_Barred_Answer : PySem.W.subIn K (.ref C_Barred) (.ref C_Answer) = some true)
    (u_Barred_Barred : PySem.W.subIn K (.ref C_Barred) (.ref C_Barred) = some true)
    (u_Barred_Can : PySem.W.subIn K (.ref C_Barred) (.ref C_Can) = some false)
    : ∃ fd : FuncData, (∀ (s : Shared) (v : Value), BindsTo s fd ⟨[v], []⟩ [("_law_script", v)]) ∧ ∀ base : Heap, K.In base → base.Ns mainGlobals mg → FnOk l.prog w K mg base CX0 40 fa fd ["_law_script"] (spLaw K) := by
  have e := hfa.symm.trans (PySem.W.mg_of X G a38)
  cases e
  have F0 := fun_mk (st := s_is_number) l0 c0 k0
  have b0 := F0.binds (ps := ["thing"]) fun _ _ _ _ _ _ us hl => match us, hl with | [_], _ => rfl
  have F1 := fun_mk (st := s_is_size) l1 c1 k1
  have b1 := F1.binds (ps := ["thing", "least", "greatest"]) fun _ _ _ _ _ _ us hl => match us, hl with | [_, _, _], _ => rfl
  have F2 := fun_mk (st := s_is_list_of_numbers) l2 c2 k2
  have b2 := F2.binds (ps := ["thing"]) fun _ _ _ _ _ _ us hl => match us, hl with | [_], _ => rfl
  have F3 := fun_mk (st := s_is_falling) l3 c3 k3
  have b3 := F3.binds (ps := ["numbers"]) fun _ _ _ _ _ _ us hl => match us, hl with | [_], _ => rfl
  have F4 := fun_mk (st := s_is_set) l4 c4 k4
  have b4 := F4.binds (ps := ["thing"]) fun _ _ _ _ _ _ us hl => match us, hl with | [_], _ => rfl
  have F5 := fun_mk (st := s_is_row) l5 c5 k5
  have b5 := F5.binds (ps := ["thing"]) fun _ _ _ _ _ _ us hl => match us, hl with | [_], _ => rfl
  have F6 := fun_mk (st := s_power) l6 c6 k6
  have b6 := F6.binds (ps := ["base", "degree"]) fun _ _ _ _ _ _ us hl => match us, hl with | [_, _], _ => rfl
  have F7 := fun_mk (st := s_guess_above) l7 c7 k7
  have b7 := F7.binds (ps := ["number", "degree"]) fun _ _ _ _ _ _ us hl => match us, hl with | [_, _], _ => rfl
  have F8 := fun_mk (st := s_whole_root) l8 c8 k8
  have b8 := F8.binds (ps := ["number", "degree"]) fun _ _ _ _ _ _ us hl => match us, hl with | [_, _], _ => rfl
  have F9 := fun_mk (st := s_greatest_first) l9 c9 k9
  have b9 := F9.binds (ps := ["size", "number"]) fun _ _ _ _ _ _ us hl => match us, hl with | [_, _], _ => rfl
  have F10 := fun_mk (st := s_numbers_of_set) l10 c10 k10
  have b10 := F10.binds (ps := ["size", "number"]) fun _ _ _ _ _ _ us hl => match us, hl with | [_, _], _ => rfl
  have F11 := fun_mk (st := s_check_number) l11 c11 k11
  have b11 := F11.binds (ps := ["many"]) fun _ _ _ _ _ _ us hl => match us, hl with | [_], _ => rfl
  have F12 := fun_mk (st := s_first_sets_at) l12 c12 k12
  have b12 := F12.binds (ps := ["size", "many", "by"]) fun _ _ _ _ _ _ us hl => match us, hl with | [_, _, _], _ => rfl
  have F13 := fun_mk (st := s_over) l13 c13 k13
  have b13 := F13.binds (ps := ["size", "many"]) fun _ _ _ _ _ _ us hl => match us, hl with | [_, _], _ => rfl
  have F14 := fun_mk (st := s_first_excess) l14 c14 k14
  have b14 := F14.binds (ps := ["row"]) fun _ _ _ _ _ _ us hl => match us, hl with | [_], _ => rfl
  have F15 := fun_mk (st := s_Can_shows) l15 c15 k15
  have b15 := F15.binds (ps := ["self", "row"]) fun _ _ _ _ _ _ us hl => match us, hl with | [_, _], _ => rfl
  have F16 := fun_mk (st := s_Barred___init__) l16 c16 k16
  have b16 := F16.binds (ps := ["self", "size", "most"]) fun _ _ _ _ _ _ us hl => match us, hl with | [_, _, _], _ => rfl
  have F17 := fun_mk (st := s_Barred_shows) l17 c17 k17
  have b17 := F17.binds (ps := ["self", "row"]) fun _ _ _ _ _ _ us hl => match us, hl with | [_, _], _ => rfl
  have F18 := fun_mk (st := s_check_set) l18 c18 k18
  have b18 := F18.binds (ps := ["some"]) fun _ _ _ _ _ _ us hl => match us, hl with | [_], _ => rfl
  have F19 := fun_mk (st := s_number_of) l19 c19 k19
  have b19 := F19.binds (ps := ["some"]) fun _ _ _ _ _ _ us hl => match us, hl with | [_], _ => rfl
  have F20 := fun_mk (st := s_check_row) l20 c20 k20
  have b20 := F20.binds (ps := ["row"]) fun _ _ _ _ _ _ us hl => match us, hl with | [_], _ => rfl
  have F21 := fun_mk (st := s_check_family) l21 c21 k21
  have b21 := F21.binds (ps := ["row"]) fun _ _ _ _ _ _ us hl => match us, hl with | [_], _ => rfl
  have F22 := fun_mk (st := s_told) l22 c22 k22
  have b22 := F22.binds (ps := ["row"]) fun _ _ _ _ _ _ us hl => match us, hl with | [_], _ => rfl
  have F23 := fun_mk (st := s_has) l23 c23 k23
  have b23 := F23.binds (ps := ["row", "some"]) fun _ _ _ _ _ _ us hl => match us, hl with | [_, _], _ => rfl
  have F24 := fun_mk (st := s_most) l24 c24 k24
  have b24 := F24.binds (ps := ["row"]) fun _ _ _ _ _ _ us hl => match us, hl with | [_], _ => rfl
  have F25 := fun_mk (st := s__law_cell_at) l25 c25 k25
  have b25 := F25.binds (ps := ["_law_script", "_law_k"]) fun _ _ _ _ _ _ us hl => match us, hl with | [_, _], _ => rfl
  have F26 := fun_mk (st := s__law_draw) l26 c26 k26
  have b26 := F26.binds (ps := ["_law_cell", "_law_k", "_law_many"]) fun _ _ _ _ _ _ us hl => match us, hl with | [_, _, _], _ => rfl
  have F27 := fun_mk (st := s__law_value) l27 c27 k27
  have b27 := F27.binds (ps := ["_law_cell", "_law_k", "_law_limit"]) fun _ _ _ _ _ _ us hl => match us, hl with | [_, _, _], _ => rfl
  have F28 := fun_mk (st := s__law_whole) l28 c28 k28
  have b28 := F28.binds (ps := ["_law_number"]) fun _ _ _ _ _ _ us hl => match us, hl with | [_], _ => rfl
  have F29 := fun_mk (st := s__law_picks) l29 c29 k29
  have b29 := F29.binds (ps := ["_law_things", "_law_size"]) fun _ _ _ _ _ _ us hl => match us, hl with | [_, _], _ => rfl
  have F30 := fun_mk (st := s__law_set) l30 c30 k30
  have b30 := F30.binds (ps := ["_law_size", "_law_number"]) fun _ _ _ _ _ _ us hl => match us, hl with | [_, _], _ => rfl
  have F31 := fun_mk (st := s__law_moved) l31 c31 k31
  have b31 := F31.binds (ps := ["_law_size", "_law_number", "_law_by"]) fun _ _ _ _ _ _ us hl => match us, hl with | [_, _, _], _ => rfl
  have F32 := fun_mk (st := s__law_least) l32 c32 k32
  have b32 := F32.binds (ps := ["_law_row_here"]) fun _ _ _ _ _ _ us hl => match us, hl with | [_], _ => rfl
  have F33 := fun_mk (st := s__law_row) l33 c33 k33
  have b33 := F33.binds (ps := ["_law_script"]) fun _ _ _ _ _ _ us hl => match us, hl with | [_], _ => rfl
  have F34 := fun_mk (st := s__law_due) l34 c34 k34
  have b34 := F34.binds (ps := ["_law_row_here", "_law_found"]) fun _ _ _ _ _ _ us hl => match us, hl with | [_, _], _ => rfl
  have F35 := fun_mk (st := s__law_says) l35 c35 k35
  have b35 := F35.binds (ps := ["_law_said", "_law_due_here"]) fun _ _ _ _ _ _ us hl => match us, hl with | [_, _], _ => rfl
  have F36 := fun_mk (st := s__law_family_right) l36 c36 k36
  have b36 := F36.binds (ps := ["_law_row_here", "_law_cell"]) fun _ _ _ _ _ _ us hl => match us, hl with | [_, _], _ => rfl
  have F37 := fun_mk (st := s__law_right) l37 c37 k37
  have b37 := F37.binds (ps := ["_law_row_here", "_law_others", "_law_cell"]) fun _ _ _ _ _ _ us hl => match us, hl with | [_, _, _], _ => rfl
  have F38 := fun_mk (st := s_law) l38 c38 k38
  have b38 := F38.binds (ps := ["_law_script"]) fun _ _ _ _ _ _ us hl => match us, hl with | [_], _ => rfl
  let T : Txt K mg := {
    f_is_number := _, d_is_number := _, F_is_number := F0, g_is_number := PySem.W.mg_of X G a0, b_is_number := b0,
    f_is_size := _, d_is_size := _, F_is_size := F1, g_is_size := PySem.W.mg_of X G a1, b_is_size := b1,
    f_is_list_of_numbers := _, d_is_list_of_numbers := _, F_is_list_of_numbers := F2, g_is_list_of_numbers := PySem.W.mg_of X G a2, b_is_list_of_numbers := b2,
    f_is_falling := _, d_is_falling := _, F_is_falling := F3, g_is_falling := PySem.W.mg_of X G a3, b_is_falling := b3,
    f_is_set := _, d_is_set := _, F_is_set := F4, g_is_set := PySem.W.mg_of X G a4, b_is_set := b4,
    f_is_row := _, d_is_row := _, F_is_row := F5, g_is_row := PySem.W.mg_of X G a5, b_is_row := b5,
    f_power := _, d_power := _, F_power := F6, g_power := PySem.W.mg_of X G a6, b_power := b6,
    f_guess_above := _, d_guess_above := _, F_guess_above := F7, g_guess_above := PySem.W.mg_of X G a7, b_guess_above := b7,
    f_whole_root := _, d_whole_root := _, F_whole_root := F8, g_whole_root := PySem.W.mg_of X G a8, b_whole_root := b8,
    f_greatest_first := _, d_greatest_first := _, F_greatest_first := F9, g_greatest_first := PySem.W.mg_of X G a9, b_greatest_first := b9,
    f_numbers_of_set := _, d_numbers_of_set := _, F_numbers_of_set := F10, g_numbers_of_set := PySem.W.mg_of X G a10, b_numbers_of_set := b10,
    f_check_number := _, d_check_number := _, F_check_number := F11, g_check_number := PySem.W.mg_of X G a11, b_check_number := b11,
    f_first_sets_at := _, d_first_sets_at := _, F_first_sets_at := F12, g_first_sets_at := PySem.W.mg_of X G a12, b_first_sets_at := b12,
    f_over := _, d_over := _, F_over := F13, g_over := PySem.W.mg_of X G a13, b_over := b13,
    f_first_excess := _, d_first_excess := _, F_first_excess := F14, g_first_excess := PySem.W.mg_of X G a14, b_first_excess := b14,
    f_Can_shows := _, d_Can_shows := _, F_Can_shows := F15, b_Can_shows := b15,
    f_Barred___init__ := _, d_Barred___init__ := _, F_Barred___init__ := F16, b_Barred___init__ := b16,
    f_Barred_shows := _, d_Barred_shows := _, F_Barred_shows := F17, b_Barred_shows := b17,
    f_check_set := _, d_check_set := _, F_check_set := F18, g_check_set := PySem.W.mg_of X G a18, b_check_set := b18,
    f_number_of := _, d_number_of := _, F_number_of := F19, g_number_of := PySem.W.mg_of X G a19, b_number_of := b19,
    f_check_row := _, d_check_row := _, F_check_row := F20, g_check_row := PySem.W.mg_of X G a20, b_check_row := b20,
    f_check_family := _, d_check_family := _, F_check_family := F21, g_check_family := PySem.W.mg_of X G a21, b_check_family := b21,
    f_told := _, d_told := _, F_told := F22, g_told := PySem.W.mg_of X G a22, b_told := b22,
    f_has := _, d_has := _, F_has := F23, g_has := PySem.W.mg_of X G a23, b_has := b23,
    f_most := _, d_most := _, F_most := F24, g_most := PySem.W.mg_of X G a24, b_most := b24,
    f__law_cell_at := _, d__law_cell_at := _, F__law_cell_at := F25, g__law_cell_at := PySem.W.mg_of X G a25, b__law_cell_at := b25,
    f__law_draw := _, d__law_draw := _, F__law_draw := F26, g__law_draw := PySem.W.mg_of X G a26, b__law_draw := b26,
    f__law_value := _, d__law_value := _, F__law_value := F27, g__law_value := PySem.W.mg_of X G a27, b__law_value := b27,
    f__law_whole := _, d__law_whole := _, F__law_whole := F28, g__law_whole := PySem.W.mg_of X G a28, b__law_whole := b28,
    f__law_picks := _, d__law_picks := _, F__law_picks := F29, g__law_picks := PySem.W.mg_of X G a29, b__law_picks := b29,
    f__law_set := _, d__law_set := _, F__law_set := F30, g__law_set := PySem.W.mg_of X G a30, b__law_set := b30,
    f__law_moved := _, d__law_moved := _, F__law_moved := F31, g__law_moved := PySem.W.mg_of X G a31, b__law_moved := b31,
    f__law_least := _, d__law_least := _, F__law_least := F32, g__law_least := PySem.W.mg_of X G a32, b__law_least := b32,
    f__law_row := _, d__law_row := _, F__law_row := F33, g__law_row := PySem.W.mg_of X G a33, b__law_row := b33,
    f__law_due := _, d__law_due := _, F__law_due := F34, g__law_due := PySem.W.mg_of X G a34, b__law_due := b34,
    f__law_says := _, d__law_says := _, F__law_says := F35, g__law_says := PySem.W.mg_of X G a35, b__law_says := b35,
    f__law_family_right := _, d__law_family_right := _, F__law_family_right := F36, g__law_family_right := PySem.W.mg_of X G a36, b__law_family_right := b36,
    f__law_right := _, d__law_right := _, F__law_right := F37, g__law_right := PySem.W.mg_of X G a37, b__law_right := b37,
    f_law := _, d_law := _, F_law := F38, g_law := PySem.W.mg_of X G a38, b_law := b38,
    k_Answer := _, g_Answer := PySem.W.mg_of X G g_Answer,
    k_Can := _, g_Can := PySem.W.mg_of X G g_Can,
    C_Can := ⟨pg_Can, hd_Can, po_Can, sa_Can⟩,
    I_Can := ⟨ca_Can, gt_object, tk_object, ob_Can⟩,
    M_Can := ⟨mk_Can, in_Can, kc_Can⟩,
    m_Can_shows := ⟨a15, i15, k15⟩,
    s_Can_Answer := kit_sub ic_Answer ty_Answer u_Can_Can u_Can_Answer,
    s_Can_Can := kit_sub ic_Can ty_Can u_Can_Can u_Can_Can,
    s_Can_Barred := kit_sub ic_Barred ty_Barred u_Can_Can u_Can_Barred,
    k_Barred := _, g_Barred := PySem.W.mg_of X G g_Barred,
    C_Barred := ⟨pg_Barred, hd_Barred, po_Barred, sa_Barred⟩,
    I_Barred := ⟨ca_Barred, gt_object, tk_object, ob_Barred⟩,
    M_Barred := ⟨mk_Barred, a16, i16, kc_Barred⟩,
    m_Barred_shows := ⟨a17, i17, k17⟩,
    n_Barred_size := n_Barred_size,
    n_Barred_most := n_Barred_most,
    s_Barred_Answer := kit_sub ic_Answer ty_Answer u_Barred_Barred u_Barred_Answer,
    s_Barred_Can := kit_sub ic_Can ty_Can u_Barred_Barred u_Barred_Can,
    s_Barred_Barred := kit_sub ic_Barred ty_Barred u_Barred_Barred u_Barred_Barred,
    z_all := PySem.W.mg_none_of X G z_all,
    z_bool := PySem.W.mg_none_of X G z_bool,
    z_enumerate := PySem.W.mg_none_of X G z_enumerate,
    z_int := PySem.W.mg_none_of X G z_int,
    z_isinstance := PySem.W.mg_none_of X G z_isinstance,
    z_len := PySem.W.mg_none_of X G z_len,
    z_list := PySem.W.mg_none_of X G z_list,
    z_max := PySem.W.mg_none_of X G z_max,
    z_min := PySem.W.mg_none_of X G z_min,
    z_range := PySem.W.mg_none_of X G z_range,
    z_type := PySem.W.mg_none_of X G z_type,
    z_zip := PySem.W.mg_none_of X G z_zip,
    m_comb := PySem.W.mg_of X G m_comb,
    m_factorial := PySem.W.mg_of X G m_factorial,
    c_GREATEST_SIZE := ⟨_, PySem.W.mg_of X G i_GREATEST_SIZE⟩ }
  exact ⟨_, fun s v => .of_eq rfl, fun base _ _ => ok_law T⟩
end Sh
open PySem PySem.W PyProof.Rows
set_option maxHeartbeats 0 in
theorem PySem.Challenge.cw_shadowrow_k03_whole_rows_holds : PySem.Challenge.rw_shadowrow_k03_whole_rows.Holds := by
  w_on; o_law; k_head; (case hw => w_witness2)
  k_fill
  refine L2.walk_ofB (l := PySem.Challenge.rw_shadowrow_k03_whole_rows) (n := 63) (k := 40) (x := "_law_script") (CX := fun _ => L2.CX0) (sp := fun w => Sh.spLaw _) rfl (by decide) rfl ⟨rfl, by decide, by decide⟩ (fun w h Y => PySem.W.kIn_of Y) ?F (fun _ _ a ns hl hb _ hS => ⟨a, ns, rfl, hS, hl, hb, fun _ _ => rfl⟩) (fun _ _ _ _ _ h => h)
  case F =>
    intro w mg fa h KX G hmg
    refine' Sh.all_mk KX G hmg ?g_Answer ?g_Can ?g_Barred ?a0 ?l0 ?c0 ?k0 ?a1 ?l1 ?c1 ?k1 ?a2 ?l2 ?c2 ?k2 ?a3 ?l3 ?c3 ?k3 ?a4 ?l4 ?c4 ?k4 ?a5 ?l5 ?c5 ?k5 ?a6 ?l6 ?c6 ?k6 ?a7 ?l7 ?c7 ?k7 ?a8 ?l8 ?c8 ?k8 ?a9 ?l9 ?c9 ?k9 ?a10 ?l10 ?c10 ?k10 ?a11 ?l11 ?c11 ?k11 ?a12 ?l12 ?c12 ?k12 ?a13 ?l13 ?c13 ?k13 ?a14 ?l14 ?c14 ?k14 ?i15 ?a15 ?l15 ?c15 ?k15 ?i16 ?a16 ?l16 ?c16 ?k16 ?i17 ?a17 ?l17 ?c17 ?k17 ?a18 ?l18 ?c18 ?k18 ?a19 ?l19 ?c19 ?k19 ?a20 ?l20 ?c20 ?k20 ?a21 ?l21 ?c21 ?k21 ?a22 ?l22 ?c22 ?k22 ?a23 ?l23 ?c23 ?k23 ?a24 ?l24 ?c24 ?k24 ?a25 ?l25 ?c25 ?k25 ?a26 ?l26 ?c26 ?k26 ?a27 ?l27 ?c27 ?k27 ?a28 ?l28 ?c28 ?k28 ?a29 ?l29 ?c29 ?k29 ?a30 ?l30 ?c30 ?k30 ?a31 ?l31 ?c31 ?k31 ?a32 ?l32 ?c32 ?k32 ?a33 ?l33 ?c33 ?k33 ?a34 ?l34 ?c34 ?k34 ?a35 ?l35 ?c35 ?k35 ?a36 ?l36 ?c36 ?k36 ?a37 ?l37 ?c37 ?k37 ?a38 ?l38 ?c38 ?k38 ?z_all ?z_bool ?z_enumerate ?z_int ?z_isinstance ?z_len ?z_list ?z_max ?z_min ?z_range ?z_type ?z_zip ?m_comb ?m_factorial ?i_GREATEST_SIZE ?pg_Can ?hd_Can ?po_Can ?sa_Can ?ca_Can ?gt_object ?tk_object ?ob_Can ?mk_Can ?kc_Can ?in_Can ?u_Can_Answer ?ic_Answer ?ty_Answer ?u_Can_Can ?ic_Can ?ty_Can ?u_Can_Barred ?ic_Barred ?ty_Barred ?pg_Barred ?hd_Barred ?po_Barred ?sa_Barred ?ca_Barred ?ob_Barred ?mk_Barred ?kc_Barred ?n_Barred_size ?n_Barred_most ?u_Barred_Answer ?u_Barred_Barred ?u_Barred_Can
    (case g_Answer => k_is)
    (case g_Can => k_is)
    (case g_Barred => k_is)
    (case a0 => k_is)
    (case l0 => k_is)
    (case c0 => k_is)
    (case k0 => k_is)
    (case a1 => k_is)
    (case l1 => k_is)
    (case c1 => k_is)
    (case k1 => k_is)
    (case a2 => k_is)
    (case l2 => k_is)
    (case c2 => k_is)
    (case k2 => k_is)
    (case a3 => k_is)
    (case l3 => k_is)
    (case c3 => k_is)
    (case k3 => k_is)
    (case a4 => k_is)
    (case l4 => k_is)
    (case c4 => k_is)
    (case k4 => k_is)
    (case a5 => k_is)
    (case l5 => k_is)
    (case c5 => k_is)
    (case k5 => k_is)
    (case a6 => k_is)
    (case l6 => k_is)
    (case c6 => k_is)
    (case k6 => k_is)
    (case a7 => k_is)
    (case l7 => k_is)
    (case c7 => k_is)
    (case k7 => k_is)
    (case a8 => k_is)
    (case l8 => k_is)
    (case c8 => k_is)
    (case k8 => k_is)
    (case a9 => k_is)
    (case l9 => k_is)
    (case c9 => k_is)
    (case k9 => k_is)
    (case a10 => k_is)
    (case l10 => k_is)
    (case c10 => k_is)
    (case k10 => k_is)
    (case a11 => k_is)
    (case l11 => k_is)
    (case c11 => k_is)
    (case k11 => k_is)
    (case a12 => k_is)
    (case l12 => k_is)
    (case c12 => k_is)
    (case k12 => k_is)
    (case a13 => k_is)
    (case l13 => k_is)
    (case c13 => k_is)
    (case k13 => k_is)
    (case a14 => k_is)
    (case l14 => k_is)
    (case c14 => k_is)
    (case k14 => k_is)
    (case i15 => k_is)
    (case a15 => k_is)
    (case l15 => k_is)
    (case c15 => k_is)
    (case k15 => k_is)
    (case i16 => k_is)
    (case a16 => k_is)
    (case l16 => k_is)
    (case c16 => k_is)
    (case k16 => k_is)
    (case i17 => k_is)
    (case a17 => k_is)
    (case l17 => k_is)
    (case c17 => k_is)
    (case k17 => k_is)
    (case a18 => k_is)
    (case l18 => k_is)
    (case c18 => k_is)
    (case k18 => k_is)
    (case a19 => k_is)
    (case l19 => k_is)
    (case c19 => k_is)
    (case k19 => k_is)
    (case a20 => k_is)
    (case l20 => k_is)
    (case c20 => k_is)
    (case k20 => k_is)
    (case a21 => k_is)
    (case l21 => k_is)
    (case c21 => k_is)
    (case k21 => k_is)
    (case a22 => k_is)
    (case l22 => k_is)
    (case c22 => k_is)
    (case k22 => k_is)
    (case a23 => k_is)
    (case l23 => k_is)
    (case c23 => k_is)
    (case k23 => k_is)
    (case a24 => k_is)
    (case l24 => k_is)
    (case c24 => k_is)
    (case k24 => k_is)
    (case a25 => k_is)
    (case l25 => k_is)
    (case c25 => k_is)
    (case k25 => k_is)
    (case a26 => k_is)
    (case l26 => k_is)
    (case c26 => k_is)
    (case k26 => k_is)
    (case a27 => k_is)
    (case l27 => k_is)
    (case c27 => k_is)
    (case k27 => k_is)
    (case a28 => k_is)
    (case l28 => k_is)
    (case c28 => k_is)
    (case k28 => k_is)
    (case a29 => k_is)
    (case l29 => k_is)
    (case c29 => k_is)
    (case k29 => k_is)
    (case a30 => k_is)
    (case l30 => k_is)
    (case c30 => k_is)
    (case k30 => k_is)
    (case a31 => k_is)
    (case l31 => k_is)
    (case c31 => k_is)
    (case k31 => k_is)
    (case a32 => k_is)
    (case l32 => k_is)
    (case c32 => k_is)
    (case k32 => k_is)
    (case a33 => k_is)
    (case l33 => k_is)
    (case c33 => k_is)
    (case k33 => k_is)
    (case a34 => k_is)
    (case l34 => k_is)
    (case c34 => k_is)
    (case k34 => k_is)
    (case a35 => k_is)
    (case l35 => k_is)
    (case c35 => k_is)
    (case k35 => k_is)
    (case a36 => k_is)
    (case l36 => k_is)
    (case c36 => k_is)
    (case k36 => k_is)
    (case a37 => k_is)
    (case l37 => k_is)
    (case c37 => k_is)
    (case k37 => k_is)
    (case a38 => k_is)
    (case l38 => k_is)
    (case c38 => k_is)
    (case k38 => k_is)
    (case z_all => k_is)
    (case z_bool => k_is)
    (case z_enumerate => k_is)
    (case z_int => k_is)
    (case z_isinstance => k_is)
    (case z_len => k_is)
    (case z_list => k_is)
    (case z_max => k_is)
    (case z_min => k_is)
    (case z_range => k_is)
    (case z_type => k_is)
    (case z_zip => k_is)
    (case m_comb => k_is)
    (case m_factorial => k_is)
    (case i_GREATEST_SIZE => k_is)
    (case pg_Can => k_is)
    (case hd_Can => k_is)
    (case po_Can => k_is)
    (case sa_Can => k_is)
    (case ca_Can => k_is)
    (case gt_object => k_is)
    (case tk_object => k_is)
    (case ob_Can => k_is)
    (case mk_Can => k_is)
    (case kc_Can => k_is)
    (case in_Can => k_is)
    (case u_Can_Answer => k_is)
    (case ic_Answer => k_is)
    (case ty_Answer => k_is)
    (case u_Can_Can => k_is)
    (case ic_Can => k_is)
    (case ty_Can => k_is)
    (case u_Can_Barred => k_is)
    (case ic_Barred => k_is)
    (case ty_Barred => k_is)
    (case pg_Barred => k_is)
    (case hd_Barred => k_is)
    (case po_Barred => k_is)
    (case sa_Barred => k_is)
    (case ca_Barred => k_is)
    (case ob_Barred => k_is)
    (case mk_Barred => k_is)
    (case kc_Barred => k_is)
    (case n_Barred_size => k_is)
    (case n_Barred_most => k_is)
    (case u_Barred_Answer => k_is)
    (case u_Barred_Barred => k_is)
    (case u_Barred_Can => k_is)
