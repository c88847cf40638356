import PyProof.Rows.All
import Wide.All
import OpenK.AllK
import Wide.FinOn
import HandS.ForMost
import HandS.More
import HandS.Wide
import HandS.WideBits
import HandS.Gcd
import HandS.IsInst
import HandS.Strs
import HandS.Style
import HandS.SetFor
import KE.KMathGC
import KE.SortData
import HandS.EndBits
import HandS.Dict
import HandS.Small
import HandS.Conv
import HandS.List
import HandS.Call
import HandS.CallRecv
import HandS.Iter
import HandS.ForExc
import HandS.ExcIs
import HandS.HotCalls
import HandS.CallLocal
import HandS.TupLe
import PySem.Challenge.RW_shadowrow_k05_refused
set_option Elab.async false
set_option linter.all false
set_option maxRecDepth 100000
set_option maxHeartbeats 4000000
/-! The mathematics of Shadowrow: counts of sets, greatest picks, whole roots. Core Lean alone. -/
namespace Sh
/-! ### how many sets of k there are of n things -/
def ch : Nat → Nat → Nat
  | _, 0 => 1
  | 0, _ + 1 => 0
  | n + 1, k + 1 => ch n k + ch n (k + 1)
theorem ch_zero (n : Nat) : ch n 0 = 1 := by cases n <;> rfl
theorem ch_none (k : Nat) : ch 0 (k + 1) = 0 := rfl
theorem ch_step (n k : Nat) : ch (n + 1) (k + 1) = ch n k + ch n (k + 1) := rfl
theorem ch_few : ∀ {n k : Nat}, n < k → ch n k = 0
  | 0, k + 1, _ => rfl
  | n + 1, k + 1, h => by
    rw [ch_step, ch_few (show n < k by omega), ch_few (show n < k + 1 by omega)]
theorem ch_pos : ∀ {n k : Nat}, k ≤ n → 0 < ch n k
  | n, 0, _ => by rw [ch_zero]; exact Nat.one_pos
  | n + 1, k + 1, h => by
    rw [ch_step]
    have := ch_pos (show k ≤ n by omega)
    omega
theorem ch_self : ∀ n : Nat, ch n n = 1
  | 0 => rfl
  | n + 1 => by rw [ch_step, ch_self n, ch_few (Nat.lt_succ_self n)]
theorem ch_one : ∀ n : Nat, ch n 1 = n
  | 0 => rfl
  | n + 1 => by rw [ch_step, ch_zero, ch_one n]; omega
theorem ch_le_succ (n k : Nat) : ch n k ≤ ch (n + 1) k := by
  cases k with
  | zero => rw [ch_zero, ch_zero]; exact Nat.le_refl _
  | succ k => rw [ch_step]; omega
theorem ch_mono {m n : Nat} (h : m ≤ n) (k : Nat) : ch m k ≤ ch n k := by
  induction h with
  | refl => exact Nat.le_refl _
  | step _ ih => exact Nat.le_trans ih (ch_le_succ _ k)
theorem ch_lt_succ {n k : Nat} (h : k ≤ n) : ch n (k + 1) < ch (n + 1) (k + 1) := by
  rw [ch_step]
  have := ch_pos h
  omega
theorem ch_lt {m n k : Nat} (h : m < n) (hk : k < n) : ch m (k + 1) < ch n (k + 1) := by
  obtain ⟨j, rfl⟩ : ∃ j, n = j + 1 := ⟨n - 1, by omega⟩
  exact Nat.lt_of_le_of_lt (ch_mono (show m ≤ j by omega) _) (ch_lt_succ (by omega))
/-- there is a number with more sets than m -/
theorem ch_more (k : Nat) : ∀ m : Nat, m < ch (m + k + 1) (k + 1)
  | 0 => ch_pos (by omega)
  | m + 1 => by
    have h1 := ch_more k m
    have h2 := ch_pos (show k ≤ m + k + 1 by omega)
    have e : m + 1 + k + 1 = (m + k + 1) + 1 := by omega
    rw [e, ch_step]
    omega
/-- (k + 1) * C(n, k + 1) = (n - k) * C(n, k) -/
theorem ch_next : ∀ n k : Nat, (k + 1) * ch n (k + 1) = ch n k * (n - k)
  | 0, k => by
    rw [ch_none, Nat.mul_zero, Nat.zero_sub, Nat.mul_zero]
  | n + 1, 0 => by
    rw [ch_zero, ch_one]
    omega
  | n + 1, k + 1 => by
    have h1 := ch_next n k
    have h2 := ch_next n (k + 1)
    by_cases h : k + 1 ≤ n
    · obtain ⟨d, rfl⟩ : ∃ d, n = k + 1 + d := ⟨n - (k + 1), by omega⟩
      have e1 : k + 1 + d - k = d + 1 := by omega
      have e2 : k + 1 + d - (k + 1) = d := by omega
      have e3 : k + 1 + d + 1 - (k + 1) = d + 1 := by omega
      rw [e1] at h1
      rw [e2] at h2
      rw [ch_step, ch_step, e3]
      generalize ch (k + 1 + d) (k + 1 + 1) = c at *
      generalize ch (k + 1 + d) (k + 1) = b at *
      generalize ch (k + 1 + d) k = a at *
      grind
    · rw [ch_few (show n + 1 < k + 1 + 1 by omega)]
      have e3 : n + 1 - (k + 1) = 0 := by omega
      rw [e3]
      simp
theorem ch_div (n k : Nat) : ch n k * (n - k) / (k + 1) = ch n (k + 1) := by
  rw [← ch_next, Nat.mul_div_cancel_left _ (by omega)]
def fac : Nat → Nat
  | 0 => 1
  | n + 1 => (n + 1) * fac n
theorem fac_pos : ∀ n, 0 < fac n
  | 0 => Nat.one_pos
  | n + 1 => Nat.mul_pos (Nat.succ_pos n) (fac_pos n)
/-- n * (n - 1) * .., k factors -/
def fal (n : Nat) : Nat → Nat
  | 0 => 1
  | k + 1 => fal n k * (n - k)
theorem fal_ch (n : Nat) : ∀ k : Nat, fal n k = ch n k * fac k
  | 0 => by rw [ch_zero]; rfl
  | k + 1 => by
    show fal n k * (n - k) = ch n (k + 1) * ((k + 1) * fac k)
    rw [fal_ch n k]
    have h := ch_next n k
    generalize ch n (k + 1) = a at *
    generalize ch n k = b at *
    generalize n - k = d at *
    grind
theorem fal_succ (n : Nat) : ∀ k : Nat, fal (n + 1) (k + 1) = (n + 1) * fal n k
  | 0 => by show 1 * (n + 1 - 0) = (n + 1) * 1; omega
  | k + 1 => by
    show fal (n + 1) (k + 1) * (n + 1 - (k + 1)) = (n + 1) * (fal n k * (n - k))
    rw [fal_succ n k, Nat.add_sub_add_right, Nat.mul_assoc]
/-- C(n, k) = C(n, n - k) -/
theorem ch_sym : ∀ {n k : Nat}, k ≤ n → ch n k = ch n (n - k)
  | n, 0, _ => by rw [ch_zero, Nat.sub_zero, ch_self]
  | n + 1, k + 1, h => by
    by_cases e : k = n
    · subst e; rw [ch_self, Nat.sub_self, ch_zero]
    · obtain ⟨d, hd⟩ : ∃ d, n - k = d + 1 := ⟨n - k - 1, by omega⟩
      rw [Nat.add_sub_add_right, hd, ch_step, ch_step]
      have h1 := ch_sym (show k ≤ n by omega)
      have h2 := ch_sym (show k + 1 ≤ n by omega)
      rw [hd] at h1
      have e2 : n - (k + 1) = d := by omega
      rw [e2] at h2
      omega
theorem ch_le_pow (n : Nat) : ∀ k : Nat, ch n k ≤ n ^ k
  | 0 => by rw [ch_zero, Nat.pow_zero]; exact Nat.le_refl _
  | k + 1 => by
    have h1 := ch_next n k
    have h2 := ch_le_pow n k
    have h3 : ch n (k + 1) ≤ (k + 1) * ch n (k + 1) := Nat.le_mul_of_pos_left _ (by omega)
    rw [h1] at h3
    rw [Nat.pow_succ]
    exact Nat.le_trans h3 (Nat.mul_le_mul h2 (Nat.sub_le _ _))
theorem fal_le (n : Nat) : ∀ k : Nat, fal n k ≤ n ^ k
  | 0 => Nat.le_refl _
  | k + 1 => by
    rw [Nat.pow_succ]
    exact Nat.mul_le_mul (fal_le n k) (Nat.sub_le _ _)
/-! ### where the search may start: the factors' mean -/
theorem mean_two (r c : Nat) : (r + (c + 1)) * (r - (c + 1)) ≤ r * r := by
  by_cases h : c + 1 ≤ r
  · obtain ⟨d, rfl⟩ : ∃ d, r = c + 1 + d := ⟨r - (c + 1), by omega⟩
    rw [Nat.add_sub_cancel_left]
    grind
  · have e : r - (c + 1) = 0 := by omega
    rw [e, Nat.mul_zero]
    exact Nat.zero_le _
theorem fal_mean (r : Nat) : ∀ k : Nat, fal (r + k / 2) (k + 1) ≤ r ^ (k + 1)
  | 0 => by show 1 * (r + 0 / 2 - 0) ≤ r ^ 1; simp
  | 1 => by
    show 1 * (r + 1 / 2 - 0) * (r + 1 / 2 - 1) ≤ r ^ 2
    simp [Nat.pow_succ]
    exact Nat.mul_le_mul_left _ (Nat.sub_le _ _)
  | k + 2 => by
    have ih := fal_mean r k
    have e : r + (k + 2) / 2 = (r + k / 2) + 1 := by omega
    rw [e, show k + 2 + 1 = (k + 1 + 1) + 1 from rfl, fal_succ]
    show (r + k / 2 + 1) * (fal (r + k / 2) (k + 1) * (r + k / 2 - (k + 1))) ≤ _
    have h2 := mean_two r (k / 2)
    have h3 : r + k / 2 - (k + 1) ≤ r - (k / 2 + 1) := by omega
    have h4 : (r + k / 2 + 1) * (r + k / 2 - (k + 1)) ≤ r * r := Nat.le_trans (Nat.mul_le_mul_left _ h3) (by rw [Nat.add_assoc]; exact h2)
    have h5 := Nat.mul_le_mul ih h4
    have e2 : r ^ (k + 1 + 1 + 1) = r ^ (k + 1) * (r * r) := by rw [Nat.pow_succ, Nat.pow_succ, Nat.mul_assoc]
    rw [e2]
    refine Nat.le_trans (Nat.le_of_eq ?_) h5
    generalize fal (r + k / 2) (k + 1) = f
    generalize r + k / 2 - (k + 1) = g
    generalize r + k / 2 + 1 = h
    grind
theorem start_ok {n k r : Nat} (h : r ^ (k + 1) ≤ n * fac (k + 1)) : ch (r + k / 2) (k + 1) ≤ n := by
  have h1 := fal_mean r k
  rw [fal_ch] at h1
  exact Nat.le_of_mul_le_mul_right (Nat.le_trans h1 h) (fac_pos _)
/-! ### whole roots, by Newton's steps -/
/-- r is the whole root of n -/
def IsRoot (n d r : Nat) : Prop := r ^ d ≤ n ∧ n < (r + 1) ^ d
theorem bern (r x : Int) (hr : 0 ≤ r) (hx : 0 ≤ x) : ∀ d : Nat, x ^ d * (x + ((d : Int) + 1) * (r - x)) ≤ r ^ (d + 1)
  | 0 => by
    rw [Int.pow_zero, Int.pow_succ, Int.pow_zero]
    omega
  | d + 1 => by
    have ih := bern r x hr hx d
    have h1 := Int.mul_le_mul_of_nonneg_left ih hr
    have hp : 0 ≤ x ^ d := Int.pow_nonneg hx
    have hs : 0 ≤ (r - x) * (r - x) := by
      by_cases h : 0 ≤ r - x
      · exact Int.mul_nonneg h h
      · have := Int.mul_nonneg (show 0 ≤ -(r - x) by omega) (show 0 ≤ -(r - x) by omega)
        rw [Int.neg_mul_neg] at this
        exact this
    have hd : 0 ≤ ((d : Int) + 1) := by omega
    have h2 : 0 ≤ x ^ d * (((d : Int) + 1) * ((r - x) * (r - x))) := Int.mul_nonneg hp (Int.mul_nonneg hd hs)
    rw [Int.pow_succ x d, Int.pow_succ r (d + 1)]
    have e : ((d + 1 : Nat) : Int) = (d : Int) + 1 := by omega
    rw [e]
    generalize x ^ d = p at *
    generalize r ^ (d + 1) = q at *
    generalize (d : Int) = z at *
    grind
/-- a step of Newton's from any x above 0 leads not below the root -/
theorem newton_above {n r x d : Nat} (h : r ^ (d + 1) ≤ n) (hx : 0 < x) : r ≤ (d * x + n / x ^ d) / (d + 1) := by
  rw [Nat.le_div_iff_mul_le (by omega)]
  have hp : 0 < x ^ d := Nat.pow_pos hx
  by_cases hc : r * (d + 1) ≤ d * x
  · exact Nat.le_trans hc (Nat.le_add_right _ _)
  · have hb := bern r x (by omega) (by omega) d
    have key : (r * (d + 1) - d * x) * x ^ d ≤ n := by
      refine Nat.le_trans ?_ h
      have e : ((r * (d + 1) - d * x : Nat) : Int) = (x : Int) + ((d : Int) + 1) * ((r : Int) - x) := by
        rw [Int.ofNat_sub (by omega)]
        simp only [Int.natCast_mul, Int.natCast_add, Int.natCast_one]
        grind
      have hb2 : (((r * (d + 1) - d * x) * x ^ d : Nat) : Int) ≤ ((r ^ (d + 1) : Nat) : Int) := by
        rw [Int.natCast_mul, e, Int.natCast_pow, Int.natCast_pow, Int.mul_comm]
        exact hb
      exact Int.ofNat_le.mp hb2
    have := Nat.sub_le_iff_le_add.mp ((Nat.le_div_iff_mul_le hp).mpr key)
    exact Nat.le_trans this (Nat.le_of_eq (Nat.add_comm _ _))
/-- above the root the step falls -/
theorem newton_falls {n x d : Nat} (h : n < x ^ (d + 1)) (hx : 0 < x) : (d * x + n / x ^ d) / (d + 1) < x := by
  rw [Nat.div_lt_iff_lt_mul (by omega)]
  have : n / x ^ d < x := by
    rw [Nat.div_lt_iff_lt_mul (Nat.pow_pos hx), Nat.mul_comm, ← Nat.pow_succ]
    exact h
  have e : x * (d + 1) = d * x + x := by rw [Nat.mul_add, Nat.mul_one, Nat.mul_comm]
  omega
theorem root_of {n x d : Nat} (hd : n < (x + 1) ^ (d + 1)) (hs : x ≤ (d * x + n / x ^ d) / (d + 1)) (hx : 0 < x) : IsRoot n (d + 1) x := by
  refine ⟨?_, hd⟩
  refine Nat.le_of_not_lt fun q => ?_
  have := newton_falls q hx
  omega
theorem step_keeps {n x d : Nat} (hx : 0 < x) : n < ((d * x + n / x ^ d) / (d + 1) + 1) ^ (d + 1) := by
  refine Nat.lt_of_not_le fun q => ?_
  have := newton_above q hx
  omega
theorem root_one {n d r : Nat} (a : IsRoot n (d + 1) r) {q : Nat} (b : IsRoot n (d + 1) q) : r = q := by
  have h1 : r < q + 1 := (Nat.pow_lt_pow_iff_left (by omega)).mp (Nat.lt_of_le_of_lt a.1 b.2)
  have h2 : q < r + 1 := (Nat.pow_lt_pow_iff_left (by omega)).mp (Nat.lt_of_le_of_lt b.1 a.2)
  omega
end Sh

/-! Sets by their numbers: greatest picks. -/
namespace Sh
def topGo (k n : Nat) : Nat → Nat
  | 0 => 0
  | f + 1 => if ch (f + 1) (k + 1) ≤ n then f + 1 else topGo k n f
/-- the greatest a with no more than n sets of size k + 1 below it -/
def top (k n : Nat) : Nat := topGo k n (n + k + 1)
theorem topGo_le (k n : Nat) : ∀ f, ch (topGo k n f) (k + 1) ≤ n
  | 0 => Nat.zero_le _
  | f + 1 => by
    unfold topGo
    split
    · assumption
    · exact topGo_le k n f
theorem topGo_max (k n : Nat) : ∀ f a, a ≤ f → ch a (k + 1) ≤ n → a ≤ topGo k n f
  | 0, a, h, _ => by rw [Nat.le_zero.mp h]; exact Nat.zero_le _
  | f + 1, a, h, hc => by
    unfold topGo
    split
    · exact h
    · rename_i hn
      refine topGo_max k n f a ?_ hc
      refine Nat.le_of_lt_succ (Nat.lt_of_le_of_ne h fun e => hn ?_)
      have e' : a = f + 1 := e
      rw [← e']
      exact hc
theorem top_le (k n : Nat) : ch (top k n) (k + 1) ≤ n := topGo_le k n _
theorem below_top {k n a : Nat} (h : ch a (k + 1) ≤ n) : a ≤ top k n := by
  refine topGo_max k n _ a ?_ h
  refine Nat.le_of_not_lt fun q => ?_
  have h1 := ch_more k n
  have h2 := ch_mono (show n + k + 1 ≤ a by omega) (k + 1)
  omega
theorem top_lt (k n : Nat) : n < ch (top k n + 1) (k + 1) := by
  refine Nat.lt_of_not_le fun q => ?_
  have := below_top q
  omega
theorem top_one {k n a : Nat} (h1 : ch a (k + 1) ≤ n) (h2 : n < ch (a + 1) (k + 1)) : a = top k n := by
  have h3 := below_top h1
  refine Nat.le_antisymm h3 (Nat.le_of_not_lt fun q => ?_)
  have h4 := ch_mono (show a + 1 ≤ top k n by omega) (k + 1)
  have h5 := top_le k n
  omega
theorem top_ge (k n : Nat) : k ≤ top k n := by
  refine Nat.le_of_not_lt fun q => ?_
  have h := top_lt k n
  rw [ch_few (by omega)] at h
  omega
theorem top_most (k n : Nat) : top k n ≤ n + k := by
  refine Nat.le_of_not_lt fun q => ?_
  have h1 := ch_more k n
  have h2 := ch_mono (show n + k + 1 ≤ top k n by omega) (k + 1)
  have h3 := top_le k n
  omega
theorem top_mono {k m n : Nat} (h : m ≤ n) : top k m ≤ top k n := below_top (Nat.le_trans (top_le k m) h)
/-- the set of size k with number n -/
def cas : Nat → Nat → List Nat
  | 0, _ => []
  | k + 1, n => top k n :: cas k (n - ch (top k n) (k + 1))
/-- a set's number -/
def num : List Nat → Nat
  | [] => 0
  | a :: l => ch a (l.length + 1) + num l
/-- falling, none twice -/
abbrev Down (l : List Nat) : Prop := l.Pairwise (· > ·)
theorem cas_length : ∀ k n, (cas k n).length = k
  | 0, _ => rfl
  | k + 1, n => by
    show (cas k _).length + 1 = k + 1
    rw [cas_length k]
theorem cas_succ (k n : Nat) : cas (k + 1) n = top k n :: cas k (n - ch (top k n) (k + 1)) := rfl
/-- what is left behind a pick is less than the pick's own sets -/
theorem left_lt (k n : Nat) : n - ch (top k n) (k + 1) < ch (top k n) k := by
  have h1 := top_lt k n
  have h2 := top_le k n
  rw [ch_step] at h1
  omega
theorem num_cas : ∀ k n : Nat, num (cas (k + 1) n) = n
  | 0, n => by
    show ch (top 0 n) (0 + 1) + 0 = n
    have h1 := top_lt 0 n
    have h2 := top_le 0 n
    rw [ch_one] at h1 h2 ⊢
    omega
  | k + 1, n => by
    rw [cas_succ]
    show ch (top (k + 1) n) ((cas (k + 1) _).length + 1) + num (cas (k + 1) _) = n
    rw [cas_length, num_cas k]
    have h2 := top_le (k + 1) n
    omega
theorem num_cas' {k n : Nat} (h : k = 0 → n = 0) : num (cas k n) = n := by
  cases k with
  | zero => rw [h rfl]; rfl
  | succ k => exact num_cas k n
theorem cas_down : ∀ k n : Nat, Down (cas k n) ∧ ∀ x ∈ cas k n, ∀ a, n < ch a k → x < a
  | 0, _ => ⟨List.Pairwise.nil, fun x hx => nomatch hx⟩
  | k + 1, n => by
    obtain ⟨h1, h2⟩ := cas_down k (n - ch (top k n) (k + 1))
    have h3 : ∀ a, n < ch a (k + 1) → top k n < a := fun a ha => by
      refine Nat.lt_of_not_le fun q => ?_
      have h4 := ch_mono q (k + 1)
      have h5 := top_le k n
      omega
    refine ⟨List.pairwise_cons.mpr ⟨fun x hx => h2 x hx _ (left_lt k n), h1⟩, fun x hx a ha => ?_⟩
    rcases List.mem_cons.mp hx with e | e
    · rw [e]
      exact h3 a ha
    · exact Nat.lt_trans (h2 x e _ (left_lt k n)) (h3 a ha)
/-- a falling list below a has fewer sets ahead of it -/
theorem num_lt : ∀ {l : List Nat} {a : Nat}, Down l → (∀ x ∈ l, x < a) → num l < ch a l.length
  | [], a, _, _ => by
    show 0 < ch a 0
    rw [ch_zero]
    exact Nat.one_pos
  | b :: l, a, h, hb => by
    have h1 := List.pairwise_cons.mp h
    have h2 := num_lt (a := b) h1.2 (fun x hx => h1.1 x hx)
    have h3 : b + 1 ≤ a := hb b List.mem_cons_self
    have h4 := ch_mono h3 (l.length + 1)
    rw [ch_step] at h4
    show ch b (l.length + 1) + num l < ch a (l.length + 1)
    omega
theorem top_num {a : Nat} {l : List Nat} (h : Down (a :: l)) : top l.length (num (a :: l)) = a := by
  have h1 := List.pairwise_cons.mp h
  have h2 := num_lt (a := a) h1.2 (fun x hx => h1.1 x hx)
  refine (top_one ?_ ?_).symm
  · show ch a (l.length + 1) ≤ ch a (l.length + 1) + num l
    omega
  · show ch a (l.length + 1) + num l < ch (a + 1) (l.length + 1)
    rw [ch_step]
    omega
/-- greatest picks give a set back -/
theorem cas_num : ∀ {l : List Nat}, Down l → cas l.length (num l) = l
  | [], _ => rfl
  | a :: l, h => by
    show cas (l.length + 1) (num (a :: l)) = a :: l
    rw [cas_succ, top_num h]
    have e : num (a :: l) - ch a (l.length + 1) = num l := by
      show ch a (l.length + 1) + num l - _ = _
      omega
    rw [e, cas_num (List.pairwise_cons.mp h).2]
/-- a greater number's set is greater -/
theorem cas_lt : ∀ {k m n : Nat}, m < n → cas (k + 1) m < cas (k + 1) n := by
  intro k
  induction k with
  | zero =>
    intro m n h
    rw [cas_succ, cas_succ]
    have e : ∀ z, top 0 z = z := fun z => by
      have h1 := top_lt 0 z
      have h2 := top_le 0 z
      rw [ch_one] at h1
      rw [ch_one] at h2
      omega
    rw [e, e]
    exact List.Lex.rel h
  | succ k ih =>
    intro m n h
    rw [cas_succ, cas_succ]
    have h1 := top_mono (k := k + 1) (Nat.le_of_lt h)
    rcases Nat.lt_or_ge (top (k + 1) m) (top (k + 1) n) with q | q
    · exact List.Lex.rel q
    · have e : top (k + 1) m = top (k + 1) n := by omega
      rw [e]
      have h2 := top_le (k + 1) m
      rw [e] at h2
      exact List.Lex.cons (ih (by omega))
theorem cas_bound {k n x : Nat} (h : x ∈ cas k n) : x ≤ n + k := by
  refine Nat.le_of_lt_succ ((cas_down k n).2 x h (n + k + 1) ?_)
  cases k with
  | zero => exact absurd h (by simp [cas])
  | succ k =>
    have h1 := ch_more k n
    have h2 := ch_mono (show n + k + 1 ≤ n + (k + 1) + 1 by omega) (k + 1)
    omega
theorem fac_lt : ∀ k, k < 21 → fac k < 2 ^ 62 := by decide
end Sh

/-! Rules of our own over the layer: great divisions, comb, factorial, lists compared and sorted, sets of lists. -/
namespace Sh
open PySem PySem.Spec PyProof.Rows L2
section
variable {X : Cx}
theorem op_fdivP : OpR X (binaryOp .FloorDiv) (rI CDivP fun i j => .int (i / j)) :=
  opI fun i j _ _ _ _ _ hc q => by
    have h1 : (0 : Int) < j := hc.1
    refine floordiv_int (by omega) ?_ (.inl hc.2)
    rw [Int.fdiv_eq_ediv_of_nonneg i (by omega)]
    exact q
/-- a dividend of at most 13500 bits is divided by C, whatever the divisor -/
theorem divp_few {i j : Int} (hj : 0 < j) (hi : i.natAbs.log2 < 13500) : CDivP i j := by
  refine ⟨hj, ?_⟩
  show (decide ((if j == 0 then 0 else j.natAbs.log2 / 30 + 1) > 300) && decide ((if i == 0 then 0 else i.natAbs.log2 / 30 + 1) > (if j == 0 then 0 else j.natAbs.log2 / 30 + 1) + 150)) = false
  by_cases h : (if j == 0 then 0 else j.natAbs.log2 / 30 + 1) > 300
  · have k : ¬ (if i == 0 then 0 else i.natAbs.log2 / 30 + 1) > (if j == 0 then 0 else j.natAbs.log2 / 30 + 1) + 150 := by
      generalize (if j == 0 then 0 else j.natAbs.log2 / 30 + 1) = d at *
      split <;> omega
    rw [decide_eq_false k, Bool.and_false]
  · rw [decide_eq_false h, Bool.false_and]
theorem log2_small {n b : Nat} (h : n < 2 ^ b) (h0 : 0 < b) : n.log2 < b := PySem.Flt.log2_lt_of h0 h
/-! ### comb, factorial -/
theorem fp_fal (n : Nat) : ∀ j : Nat, j ≤ n → Builtin.Math.fallingProduct (n : Int) j = ((fal n j : Nat) : Int)
  | 0, _ => rfl
  | j + 1, h => by
    rw [PySem.W.mc_fp_succ, fp_fal n j (by omega)]
    show _ = ((fal n j * (n - j) : Nat) : Int)
    rw [Int.natCast_mul, Int.ofNat_sub (show j ≤ n by omega)]
theorem fp_ch {n m : Nat} (h : m ≤ n) : Builtin.Math.fallingProduct (n : Int) m / Builtin.Math.fallingProduct (m : Int) m = ((ch n m : Nat) : Int) := by
  rw [fp_fal n m h, fp_fal m m (Nat.le_refl _), fal_ch, fal_ch, ch_self, Nat.one_mul, ← Int.natCast_ediv, Nat.mul_div_cancel _ (fac_pos m)]
/-- the bits of a count of sets -/
theorem ch_bits {n k b : Nat} (h : n < 2 ^ b) : ch n k ≤ 2 ^ (b * k) := by
  rw [Nat.pow_mul]
  exact Nat.le_trans (ch_le_pow n k) (Nat.pow_le_pow_left (Nat.le_of_lt h) k)
def rComb : List V → Hp → VK → Prop := fun vs H Q => ∃ n k b : Nat, vs = [.int (n : Int), .int (k : Int)] ∧ n < 2 ^ b ∧ b * k ≤ 100000000 ∧ k ≤ 9000 ∧ Q (.int ((ch n k : Nat) : Int)) H
theorem cr_comb : CallR X (.builtin "math.comb") rComb := by
  intro pins s σ H vs us Q I r h
  obtain ⟨n, k, b, rfl, hb, hbk, hk, q⟩ := h
  obtain ⟨t, u, rfl⟩ := Vals.int2 r
  suffices g : Gives (Builtin.«math.comb» ⟨[.int (n : Int) t, .int (k : Int) u], []⟩) (.int ((ch n k : Nat) : Int)) from
    call_function_meets PySem.W.MGF.kind_comb PySem.W.MGF.plain_comb PySem.W.MGF.entry_comb (PySem.W.MGF.args_comb _ _) g.meets ⟨.int _, H, I.tok _, ⟨_, rfl⟩, q⟩
  by_cases hkn : n < k
  · rw [ch_few hkn]
    exact PySem.W.mc_run_comb0 (n : Int) t (k : Int) u (by omega) (by omega) (by omega)
  · have e : min (k : Int) ((n : Int) - k) = ((min k (n - k) : Nat) : Int) := by omega
    have hm : min k (n - k) ≤ n := by omega
    have hc : ch n (min k (n - k)) = ch n k := by
      by_cases h2 : k ≤ n - k
      · rw [Nat.min_eq_left h2]
      · rw [Nat.min_eq_right (by omega), ← ch_sym (by omega)]
    have q := PySem.W.mc_run_comb (n : Int) t (k : Int) u (by omega) (by omega) (by omega)
    rw [e, Int.toNat_natCast, fp_ch hm, hc] at q
    refine q ?_ ?_ ?_ ?_
    · show ¬ _ > (2 : Int) ^ 63 - 1
      omega
    · show ¬ _ > (20000 : Int)
      omega
    · omega
    · have hp := ch_bits (n := n) (k := k) hb
      have hl : (ch n k).log2 ≤ b * k := PySem.W.mg_log (by
        have := Nat.two_pow_pos (b * k)
        rw [Nat.pow_succ]
        omega)
      rw [bitsLine_eq]
      show (ch n k).log2 < _
      omega
def rFact : List V → Hp → VK → Prop := fun vs H Q => ∃ n : Nat, vs = [.int (n : Int)] ∧ n ≤ 20000 ∧ Q (.int ((fac n : Nat) : Int)) H
theorem fac_nat : ∀ n : Nat, Builtin.Math.factorialNat n = fac n
  | 0 => rfl
  | n + 1 => by
    rw [PySem.W.mc_fac_succ, fac_nat n, Nat.mul_comm]
    rfl
theorem cr_factorial : CallR X (.builtin "math.factorial") rFact := by
  intro pins s σ H vs us Q I r h
  obtain ⟨n, rfl, hn, q⟩ := h
  obtain ⟨u, rfl, t, rfl⟩ : ∃ u, us = [u] ∧ RelV (.int (n : Int)) u := by
    cases r with
    | cons p r' =>
      cases r'
      exact ⟨_, rfl, p⟩
  refine PySem.W.mc_factorial (by omega) (by omega) fun _ => ?_
  rw [Int.toNat_natCast, fac_nat]
  exact ⟨.int _, H, I.tok _, ⟨_, rfl⟩, q⟩
/-! ### lists of ints compared by their order -/
def rLtL (K : PySem.W.Frag) : R2 := fun x y H Q => ∃ (a b : Addr) (ns ms : List Int), x = .ref a ∧ y = .ref b ∧ SqL K H a (ns.map V.int) ∧ SqL K H b (ms.map V.int) ∧ Q (.bl (decide (ns < ms))) H
theorem dp_ints {K : PySem.W.Frag} {H : Hp} : ∀ ns : List Int, DpAll K H (ns.map V.int) (ns.map PyData.int)
  | [] => .nil
  | n :: ns => .cons (.int n) (dp_ints ns)
theorem dp_list {K : PySem.W.Frag} {H : Hp} {a : Addr} {ns : List Int} (h : SqL K H a (ns.map V.int)) : Dp K H (.ref a) (.list (ns.map PyData.int)) := .lst h (dp_ints ns)
theorem op_ltL (hu : X.A.units + 64 < cLine) : OpR X (compareOp .Lt) (rLtL X.K) := by
  intro pins s σ H x y v u Q I rx ry h
  obtain ⟨a, b, ns, ms, rfl, rfl, ha, hb, q⟩ := h
  obtain ⟨as, r1⟩ := Dp.reads I _ _ v (dp_list ha) rx
  obtain ⟨bs, r2⟩ := Dp.reads I _ _ u (dp_list hb) ry
  have hd : min (PyData.list (ns.map PyData.int)).depth (PyData.list (ms.map PyData.int)).depth ≤ 1 := by
    have e : (PyData.list (ns.map PyData.int)).depth = 1 := by rw [PyData.depth, PySem.W.depth_ints]
    omega
  have hr := PySem.W.rcLt_alike (.list (ns.map PyData.int)) (.list (ms.map PyData.int)) X.A s v u as bs r1 r2 (by simpa [PySem.W.alike] using PySem.W.alike_ints ns ms) (by intro z; cases z) (by omega)
  have e : PySem.W.dataLt (.list (ns.map PyData.int)) (.list (ms.map PyData.int)) = decide (ns < ms) := by
    rw [PySem.W.dataLt_list]
    exact PySem.W.dataLt_ints ns ms
  rw [e] at hr
  exact hr X.prog X.w X.xe _ ⟨.bl _, H, I, rfl, q⟩
/-! ### arithmetic of numbers from 0 on -/
def NMul (n m : Nat) : Prop := ∃ a b, n < 2 ^ a ∧ m < 2 ^ b ∧ a + b ≤ 134217728
def NDiv (n m : Nat) : Prop := 0 < m ∧ ((∃ b, n < 2 ^ b ∧ b ≤ 13500) ∨ m < 1073741824)
theorem NDiv.few {n m b : Nat} (hm : 0 < m) (hn : n < 2 ^ b) (hb : b ≤ 13500) : NDiv n m := ⟨hm, .inl ⟨b, hn, hb⟩⟩
theorem NDiv.small {n m : Nat} (hm : 0 < m) (h : m < 1073741824) : NDiv n m := ⟨hm, .inr h⟩
def NShl (n m : Nat) : Prop := ∃ b, n < 2 ^ b ∧ b + m ≤ 134217728
def rNAdd : R2 := fun x y H Q => ∃ n m : Nat, x = .int (n : Int) ∧ y = .int (m : Int) ∧ Q (.int ((n + m : Nat) : Int)) H
def rNSub : R2 := fun x y H Q => ∃ n m : Nat, x = .int (n : Int) ∧ y = .int (m : Int) ∧ m ≤ n ∧ Q (.int ((n - m : Nat) : Int)) H
def rNMul : R2 := fun x y H Q => ∃ n m : Nat, x = .int (n : Int) ∧ y = .int (m : Int) ∧ NMul n m ∧ Q (.int ((n * m : Nat) : Int)) H
def rNDiv : R2 := fun x y H Q => ∃ n m : Nat, x = .int (n : Int) ∧ y = .int (m : Int) ∧ NDiv n m ∧ Q (.int ((n / m : Nat) : Int)) H
def rNMod : R2 := fun x y H Q => ∃ n m : Nat, x = .int (n : Int) ∧ y = .int (m : Int) ∧ 0 < m ∧ Q (.int ((n % m : Nat) : Int)) H
def rNShl : R2 := fun x y H Q => ∃ n m : Nat, x = .int (n : Int) ∧ y = .int (m : Int) ∧ NShl n m ∧ Q (.int ((n * 2 ^ m : Nat) : Int)) H
def rNShr : R2 := fun x y H Q => ∃ n m : Nat, x = .int (n : Int) ∧ y = .int (m : Int) ∧ Q (.int ((n / 2 ^ m : Nat) : Int)) H
def rNLt : R2 := fun x y H Q => ∃ n m : Nat, x = .int (n : Int) ∧ y = .int (m : Int) ∧ Q (.bl (decide (n < m))) H
def rNLe : R2 := fun x y H Q => ∃ n m : Nat, x = .int (n : Int) ∧ y = .int (m : Int) ∧ Q (.bl (decide (n ≤ m))) H
def rNGt : R2 := fun x y H Q => ∃ n m : Nat, x = .int (n : Int) ∧ y = .int (m : Int) ∧ Q (.bl (decide (m < n))) H
def rNGe : R2 := fun x y H Q => ∃ n m : Nat, x = .int (n : Int) ∧ y = .int (m : Int) ∧ Q (.bl (decide (m ≤ n))) H
def rNEq : R2 := fun x y H Q => ∃ n m : Nat, x = .int (n : Int) ∧ y = .int (m : Int) ∧ Q (.bl (decide (n = m))) H
def rNNe : R2 := fun x y H Q => ∃ n m : Nat, x = .int (n : Int) ∧ y = .int (m : Int) ∧ Q (.bl (!decide (n = m))) H
theorem op_nAdd : OpR X (binaryOp .Add) rNAdd := by
  intro pins s σ H x y v u Q I rx ry h
  obtain ⟨n, m, rfl, rfl, q⟩ := h
  exact op_add pins s σ H _ _ v u Q I rx ry ⟨_, _, rfl, rfl, q⟩
theorem op_nSub : OpR X (binaryOp .Sub) rNSub := by
  intro pins s σ H x y v u Q I rx ry h
  obtain ⟨n, m, rfl, rfl, c, q⟩ := h
  rw [Int.ofNat_sub c] at q
  exact op_sub pins s σ H _ _ v u Q I rx ry ⟨_, _, rfl, rfl, q⟩
theorem op_nMul : OpR X (binaryOp .Mult) rNMul := by
  intro pins s σ H x y v u Q I rx ry h
  obtain ⟨n, m, rfl, rfl, ⟨a, b, ha, hb, hab⟩, q⟩ := h
  rw [Int.natCast_mul] at q
  refine op_mulX pins s σ H _ _ v u Q I rx ry ⟨_, _, rfl, rfl, mulx_ok (a := a) (b := b) ?_ ?_ hab, q⟩
  · rw [Int.natAbs_natCast]; exact ha
  · rw [Int.natAbs_natCast]; exact hb
theorem op_nDiv : OpR X (binaryOp .FloorDiv) rNDiv := by
  intro pins s σ H x y v u Q I rx ry h
  obtain ⟨n, m, rfl, rfl, ⟨hm, hd⟩, q⟩ := h
  rw [Int.natCast_ediv] at q
  refine op_fdivP pins s σ H _ _ v u Q I rx ry ⟨_, _, rfl, rfl, ?_, q⟩
  rcases hd with ⟨b, hb, h9⟩ | hs
  · refine divp_few (by omega) ?_
    rw [Int.natAbs_natCast]
    by_cases h0 : n = 0
    · subst h0
      rw [Nat.log2_zero]
      decide
    · exact Nat.lt_of_lt_of_le ((Nat.log2_lt h0).mpr hb) h9
  · exact ⟨by omega, PyProof.noPylong_small (by rw [Int.natAbs_natCast]; exact hs)⟩
theorem op_nMod : OpR X (binaryOp .Mod) rNMod := by
  intro pins s σ H x y v u Q I rx ry h
  obtain ⟨n, m, rfl, rfl, hm, q⟩ := h
  rw [Int.natCast_emod] at q
  exact op_mod pins s σ H _ _ v u Q I rx ry ⟨_, _, rfl, rfl, (by omega), q⟩
theorem op_nShl : OpR X (binaryOp .LShift) rNShl := by
  intro pins s σ H x y v u Q I rx ry h
  obtain ⟨n, m, rfl, rfl, ⟨b, hb, hbm⟩, q⟩ := h
  rw [Int.natCast_mul, ← PyProof.Rows.two_pow_cast] at q
  refine op_shlN pins s σ H _ _ v u Q I rx ry ⟨_, _, rfl, rfl, shl_ok (n := b) ?_ hbm, q⟩
  rw [Int.natAbs_natCast]
  exact hb
theorem op_nShr : OpR X (binaryOp .RShift) rNShr := by
  intro pins s σ H x y v u Q I rx ry h
  obtain ⟨n, m, rfl, rfl, q⟩ := h
  rw [Int.natCast_ediv, ← PyProof.Rows.two_pow_cast] at q
  exact op_shrN pins s σ H _ _ v u Q I rx ry ⟨_, _, rfl, rfl, q⟩
theorem op_nLt : OpR X (compareOp .Lt) rNLt := by
  intro pins s σ H x y v u Q I rx ry h
  obtain ⟨n, m, rfl, rfl, q⟩ := h
  have q : Q (V.bl (decide (n < m))) H := q
  rw [← decide_eq_decide.mpr (Int.ofNat_lt (n := n) (m := m))] at q
  exact op_lt pins s σ H _ _ v u Q I rx ry ⟨_, _, rfl, rfl, q⟩
theorem op_nLe : OpR X (compareOp .LtE) rNLe := by
  intro pins s σ H x y v u Q I rx ry h
  obtain ⟨n, m, rfl, rfl, q⟩ := h
  have q : Q (V.bl (decide (n ≤ m))) H := q
  rw [← decide_eq_decide.mpr (Int.ofNat_le (m := n) (n := m))] at q
  exact op_le pins s σ H _ _ v u Q I rx ry ⟨_, _, rfl, rfl, q⟩
theorem op_nGt : OpR X (compareOp .Gt) rNGt := by
  intro pins s σ H x y v u Q I rx ry h
  obtain ⟨n, m, rfl, rfl, q⟩ := h
  have q : Q (V.bl (decide (m < n))) H := q
  rw [← decide_eq_decide.mpr (Int.ofNat_lt (n := m) (m := n))] at q
  exact op_gt pins s σ H _ _ v u Q I rx ry ⟨_, _, rfl, rfl, q⟩
theorem op_nGe : OpR X (compareOp .GtE) rNGe := by
  intro pins s σ H x y v u Q I rx ry h
  obtain ⟨n, m, rfl, rfl, q⟩ := h
  have q : Q (V.bl (decide (m ≤ n))) H := q
  rw [← decide_eq_decide.mpr (Int.ofNat_le (m := m) (n := n))] at q
  exact op_ge pins s σ H _ _ v u Q I rx ry ⟨_, _, rfl, rfl, q⟩
theorem nat_eq_dec (n m : Nat) : decide (V.int (n : Int) = V.int (m : Int)) = decide (n = m) :=
  decide_eq_decide.mpr ⟨fun h => Int.ofNat.inj (V.int.inj h), fun h => by rw [h]⟩
theorem op_nEq : OpR X (compareOp .Eq) rNEq := by
  intro pins s σ H x y v u Q I rx ry h
  obtain ⟨n, m, rfl, rfl, q⟩ := h
  have q : Q (V.bl (decide (n = m))) H := q
  rw [← nat_eq_dec] at q
  exact op_eq pins s σ H _ _ v u Q I rx ry ⟨rfl, q⟩
theorem op_nNe : OpR X (compareOp .NotEq) rNNe := by
  intro pins s σ H x y v u Q I rx ry h
  obtain ⟨n, m, rfl, rfl, q⟩ := h
  have q : Q (V.bl (!decide (n = m))) H := q
  rw [← nat_eq_dec] at q
  exact op_ne pins s σ H _ _ v u Q I rx ry ⟨rfl, q⟩
/-! ### the same of ints -/
def rIAdd : R2 := fun x y H Q => ∃ i j : Int, x = .int i ∧ y = .int j ∧ Q (.int (i + j)) H
def rISub : R2 := fun x y H Q => ∃ i j : Int, x = .int i ∧ y = .int j ∧ Q (.int (i - j)) H
def rIMul : R2 := fun x y H Q => ∃ i j : Int, x = .int i ∧ y = .int j ∧ CMulX i j ∧ Q (.int (i * j)) H
def rIDiv : R2 := fun x y H Q => ∃ i j : Int, x = .int i ∧ y = .int j ∧ CDivP i j ∧ Q (.int (i / j)) H
def rIMod : R2 := fun x y H Q => ∃ i j : Int, x = .int i ∧ y = .int j ∧ 0 < j ∧ Q (.int (i % j)) H
def rIPow : R2 := fun x y H Q => ∃ i j : Int, x = .int i ∧ y = .int j ∧ CPow i j ∧ Q (.int (i ^ j.toNat)) H
def rILt : R2 := fun x y H Q => ∃ i j : Int, x = .int i ∧ y = .int j ∧ Q (.bl (decide (i < j))) H
def rILe : R2 := fun x y H Q => ∃ i j : Int, x = .int i ∧ y = .int j ∧ Q (.bl (decide (i ≤ j))) H
def rIGt : R2 := fun x y H Q => ∃ i j : Int, x = .int i ∧ y = .int j ∧ Q (.bl (decide (j < i))) H
def rIGe : R2 := fun x y H Q => ∃ i j : Int, x = .int i ∧ y = .int j ∧ Q (.bl (decide (j ≤ i))) H
def rIEq : R2 := fun x y H Q => ∃ i j : Int, x = .int i ∧ y = .int j ∧ Q (.bl (decide (i = j))) H
def rINe : R2 := fun x y H Q => ∃ i j : Int, x = .int i ∧ y = .int j ∧ Q (.bl (!decide (i = j))) H
theorem op_iAdd : OpR X (binaryOp .Add) rIAdd := op_add
theorem op_iSub : OpR X (binaryOp .Sub) rISub := op_sub
theorem op_iMul : OpR X (binaryOp .Mult) rIMul := op_mulX
theorem op_iDiv : OpR X (binaryOp .FloorDiv) rIDiv := op_fdivP
theorem op_iMod : OpR X (binaryOp .Mod) rIMod := op_mod
theorem op_iPow : OpR X (binaryOp .Pow) rIPow := op_pow
theorem op_iLt : OpR X (compareOp .Lt) rILt := op_lt
theorem op_iLe : OpR X (compareOp .LtE) rILe := op_le
theorem op_iGt : OpR X (compareOp .Gt) rIGt := op_gt
theorem op_iGe : OpR X (compareOp .GtE) rIGe := op_ge
theorem int_eq_dec (i j : Int) : decide (V.int i = V.int j) = decide (i = j) := decide_eq_decide.mpr ⟨V.int.inj, fun h => by rw [h]⟩
theorem op_iEq : OpR X (compareOp .Eq) rIEq := by
  intro pins s σ H x y v u Q I rx ry h
  obtain ⟨n, m, rfl, rfl, q⟩ := h
  rw [← int_eq_dec] at q
  exact op_eq pins s σ H _ _ v u Q I rx ry ⟨rfl, q⟩
theorem op_iNe : OpR X (compareOp .NotEq) rINe := by
  intro pins s σ H x y v u Q I rx ry h
  obtain ⟨n, m, rfl, rfl, q⟩ := h
  rw [← int_eq_dec] at q
  exact op_ne pins s σ H _ _ v u Q I rx ry ⟨rfl, q⟩
/-- how many bits a number has -/
def bits (n : Nat) : Nat := Builtin.Int.intBits (n : Int)
theorem lt_bits (n : Nat) : n < 2 ^ bits n := by
  have := natAbs_lt_pow_bits (n : Int)
  rwa [Int.natAbs_natCast] at this
theorem bits_le {n b : Nat} (h : n < 2 ^ b) : bits n ≤ b := intBits_le (by rw [Int.natAbs_natCast]; exact h)
end
/-- a test that is decided -/
theorem dec2 {p A B : Prop} [Decidable p] (h1 : p → A) (h2 : ¬ p → B) : if decide p = true then A else B :=
  ite2 (fun c => h1 (of_decide_eq_true c)) (fun c => h2 (of_decide_eq_false (Bool.eq_false_iff.mpr c)))
theorem dec2n {p A B : Prop} [Decidable p] (h1 : ¬ p → A) (h2 : p → B) : if (!decide p) = true then A else B := by
  by_cases h : p
  · rw [decide_eq_true h]; exact iteF (h2 h)
  · rw [decide_eq_false h]; exact iteT (h1 h)
theorem decT {p A B : Prop} [Decidable p] (hp : p) (h : A) : if decide p = true then A else B := by rw [decide_eq_true hp]; exact iteT h
theorem decF {p A B : Prop} [Decidable p] (hp : ¬ p) (h : B) : if decide p = true then A else B := by rw [decide_eq_false hp]; exact iteF h
theorem decNT {p A B : Prop} [Decidable p] (hp : p) (h : B) : if (!decide p) = true then A else B := by rw [decide_eq_true hp]; exact iteF h

theorem decNF {p A B : Prop} [Decidable p] (hp : ¬ p) (h : A) : if (!decide p) = true then A else B := by rw [decide_eq_false hp]; exact iteT h
end Sh

/-! set(xs) of a list of ints, as a set that the layer tracks. -/
namespace Sh
open PySem PySem.Spec PyProof.Rows L2
section
variable {P : Program} {w : World} {A : Around} {E : Value → Shared → Prop} {s : Shared}
/-- a new set's record -/
abbrev emptySet (w : World) : Obj :=
  { cls := .type "set", dict := none, data := .set #[] 0 (.fresh 0 0 (!w.params.followText "set-order")) }
/-- set(xs), xs a list of ints -/
theorem run_set_list {l : Addr} {items : Array Value} (ns : List Int) {Q : Value → Shared → Prop} (calm : A.handled = none) (isl : s.heap.IsList l items)
    (hin : IntsAre items.toList ns) (few : ns.length + 1 < scanBound)
    (fin : ∀ (h' : Heap) (tk c : Nat), SetR w h' s.heap.objs.size (fun j => decide (j ∈ ns)) c → c ≤ ns.length →
      (∀ b o, s.heap.get? b = some o → h'.get? b = some o) → Q (.ref s.heap.objs.size) { s with heap := h', toks := tk }) :
    wpAny (model P w) A (call (.type "set") [.ref l]) Q E s := by
  have size_ns : items.size = ns.length := by
    have q := hin.length
    rwa [Array.length_toList] at q
  obtain ⟨c0, tl0, mro0⟩ := F.called_set.mro
  have made0 := F.called_set.made
  have sub0 := F.called_set.sub
  refine wpAny_call (codeAny_of_tree (show wpAny _ _ (callAny (.type "set") _) _ _ _ from ?_))
  refine wpAny_pure ⟨Code.quiet_builtin _ (by decide +kernel),
    codeAny_builtin F.entry_type_call ?_⟩
  rw [Around.under_plain (weight_type_call_type "set" [.ref l] [])
    rfl]
  have nt := F.called_set.notType
  have cc := F.called_set.canCreate
  have tc := F.typeCall_set_1 (.ref l)
  repeat any_goals first | assumption | wp_step
  -- the new set
  refine codeAny_mono (code_set_led1 (.ref l) (E := E)
    (Q₁ := fun z s1 => z = .ref s.heap.objs.size ∧ s1 = { s with heap := s.heap.push (emptySet w) }) ⟨rfl, rfl⟩) fun r s1 hr => ?_
  cases r with
  | error e => exact hr
  | ok fl =>
  cases fl with
  | next => exact hr.elim
  | brk => exact hr.elim
  | cont => exact hr.elim
  | ret z =>
  obtain ⟨rfl, rfl⟩ := hr
  have atS : (s.heap.push (emptySet w)).get? s.heap.objs.size = some (emptySet w) := Heap.get?_push_size _ rfl
  have tyS : Shared.TypeIs { s with heap := s.heap.push (emptySet w) } (.ref s.heap.objs.size) "set" := ⟨_, atS, rfl⟩
  have il := F.called_set.init.lookup
  have ib := F.called_set.init.bind (.ref s.heap.objs.size)
  repeat any_goals first | assumption | wp_step
  -- its __init__
  let Rw : Value → Shared → Prop := fun r s2 => r = .none ∧ ∃ h' tk c, s2 = { s with heap := h', toks := tk } ∧
    SetR w h' s.heap.objs.size (fun j => decide (j ∈ ns)) c ∧ c ≤ ns.length ∧ ∀ b o, s.heap.get? b = some o → h'.get? b = some o
  refine codeAny_mono (codeAny_call_builtin (R := wants Rw E) F.called_set.init.plain
    F.entry_set_init (check_set_init_1 tyS ?_)) fun r2 s2 hr2 => ?_
  · obtain ⟨ol, hol, hcl, nl, hdl⟩ := isl
    obtain ⟨oc, od, oda, osl⟩ := ol
    simp only at hcl hdl
    subst hcl hdl
    have hol1 : (s.heap.push (emptySet w)).get? l = some { cls := .type "list", dict := od, data := .seq items nl, slots := osl } :=
      Heap.get?_push_of_some _ hol
    have n1 := F.sub_list_set
    have n2 := F.sub_list_frozenset
    have n3 : (Value.type "list" == Value.type "dict") = false := by decide
    have isl1 : (s.heap.push (emptySet w)).IsList l items := ⟨_, hol1, rfl, nl, rfl⟩
    unfold Builtin.«set.__init__» noKeywords
    unfold Builtin.Frozenset.updateFrom
    generalize gI : pyIter = PI
    wp_walk
    subst gI
    refine wpAny_pyIter_list isl1 (wpAny_bind (wpAny_runValue ?_))
    have lS : l < s.heap.objs.size := Heap.lt_size hol
    have calm3 : A.in1.in1.in1.handled = none := by simp [calm]
    have lI : l ≠ (s.heap.push (emptySet w)).objs.size := by
      rw [Heap.size_push]
      exact Nat.ne_of_lt (Nat.lt_succ_of_lt lS)
    have nS : s.heap.objs.size ∉ [(s.heap.push (emptySet w)).objs.size, l] := by
      rw [Heap.size_push]
      intro q
      rcases List.mem_cons.mp q with q | q
      · exact absurd q (Nat.ne_of_lt (Nat.lt_succ_self _))
      · exact absurd (List.mem_singleton.mp q) (Nat.ne_of_gt lS)
    have at_i : ∀ (i : Nat) (v : Value), items[i]? = some v → ∃ k t, ns[i]? = some k ∧ v = .int k t := fun i v hv => by
      have hi : i < ns.length := size_ns ▸ (Array.getElem?_eq_some_iff.mp hv).1
      obtain ⟨t, e⟩ := hin.int_at i v (by rw [Array.getElem?_toList]; exact hv)
      have g := List.getElem?_eq_getElem hi
      exact ⟨ns[i], t, g, by rw [e, List.getD_eq_getElem?_getD, g] <;> rfl⟩
    refine set_update_ints ((Walks.list calm3 _ l lI items).toS) s.heap.objs.size nS ns size_ns few at_i (items.size - 0) 0 _ (by omega)
      (Nat.zero_le _) ⟨⟨_, Heap.get?_push_size _ rfl, rfl, rfl⟩, (isl1.push _)⟩ ?s0 ?sR
    case s0 =>
      exact ⟨0, Nat.le_refl 0, setR_new_at (Heap.get?_push_of_some _ atS)⟩
    case sR =>
      intro s3 c3 mv hc3 R3
      obtain ⟨h3, g3, d3, t3, o3⟩ := s3
      obtain rfl : g3 = s.gens := mv.gens
      obtain rfl : d3 = s.drawn := mv.drawn
      obtain rfl : o3 = s.os := mv.os
      rw [size_ns] at hc3
      refine wpAny_pure ?_
      show wpAny _ _ (ret Value.none) _ _ _
      refine wpAny_pure ⟨rfl, h3, t3, c3, rfl, R3, hc3, fun b o e => ?_⟩
      have b0 : b < s.heap.objs.size := Heap.lt_size e
      refine mv.heap b o (fun q => ?_) (Heap.get?_push_of_some _ (Heap.get?_push_of_some _ e))
      rcases List.mem_cons.mp q with q | q
      · exact absurd q (Nat.ne_of_lt b0)
      · have q := List.mem_singleton.mp q
        rw [Heap.size_push] at q
        exact absurd q (Nat.ne_of_lt (Nat.lt_succ_of_lt b0))
  · cases r2 with
    | error e => exact hr2
    | ok f2 =>
    cases f2 with
    | next => exact hr2.elim
    | brk => exact hr2.elim
    | cont => exact hr2.elim
    | ret r =>
    obtain ⟨rfl, h', tk, c, rfl, hS, hc, hk⟩ := hr2
    repeat any_goals first | assumption | wp_step
    exact fin _ _ _ hS hc hk
end
section
variable {X : Cx}
def rSetL (K : PySem.W.Frag) (w : World) : List V → Hp → VK → Prop := fun vs H Q => ∃ (a : Addr) (ns : List Int), vs = [.ref a] ∧ SqL K H a (ns.map V.int) ∧ ns.length < 60 ∧
  ∀ (p : Addr) (c : Nat), H p = none → c ≤ ns.length → Q (.ref p) (upd H p (SetO w p (fun j => decide (j ∈ ns)) c))
theorem cr_setL (hc : X.calm = true) : CallR X (.type "set") (rSetL X.K X.w) := by
  intro pins s σ H vs us Q I r h
  obtain ⟨a, ns, rfl, hs, h60, q⟩ := h
  rw [Vals.ref1 r]
  obtain ⟨its, rv, pl, hz⟩ := I.list hs
  have hi : IntsAre its.toArray.toList ns := intsAre_of rv
  refine run_set_list ns (I.ok.hd hc) pl.isList hi ?_ fun h' tk c R hc' keep => ?_
  · have e : 61 < scanBound := by decide
    omega
  · have hn : H s.heap.objs.size = none := I.hok.fresh (Nat.le_refl _)
    exact ⟨.ref _, upd H s.heap.objs.size (SetO X.w s.heap.objs.size (fun j => decide (j ∈ ns)) c), I.laid (t' := tk) keep (Nat.le_refl _) (setO_new R), rfl, q _ _ hn hc'⟩
/-! ### sorted(xs) of lists of ints that are in order already -/
def rSortedL (K : PySem.W.Frag) : List V → Hp → VK → Prop := fun vs H Q => ∃ (a : Addr) (ps : List (Addr × List Int)), vs = [.ref a] ∧ SqL K H a (ps.map fun p => V.ref p.1) ∧
  (∀ p ∈ ps, SqL K H p.1 (p.2.map V.int)) ∧ ps.Pairwise (fun p q => p.2 ≤ q.2) ∧ ∀ r, H r = none → Q (.ref r) (upd H r (.lst (ps.map fun p => V.ref p.1)))
theorem refs_each : ∀ {ps : List (Addr × List Int)} {us : List Value}, Vals (ps.map fun p => V.ref p.1) us → PySem.W.EachIs (fun (v : Value) (p : Addr × List Int) => v = .ref p.1) us ps
  | [], _, r => by cases r; exact .nil
  | p :: ps, _, r => by
    cases r with
    | cons r1 r2 => exact .cons r1 (refs_each r2)
theorem each_refs : ∀ {ps : List (Addr × List Int)} {us : List Value}, PySem.W.EachIs (fun (v : Value) (p : Addr × List Int) => v = .ref p.1) us ps → Vals (ps.map fun p => V.ref p.1) us
  | [], _, r => by cases r; exact .nil
  | p :: ps, _, r => by
    cases r with
    | cons r1 r2 => exact .cons r1 (each_refs r2)
theorem each_reads {pins : List (Addr × Obj)} {σ : L2.St} {H : Hp} {s : Shared} (I : Inv X pins σ H s) : ∀ {ps : List (Addr × List Int)} {us : List Value}, PySem.W.EachIs (fun (v : Value) (p : Addr × List Int) => v = .ref p.1) us ps →
    (∀ p ∈ ps, SqL X.K H p.1 (p.2.map V.int)) → PySem.W.EachIs (fun (v : Value) (p : Addr × List Int) => ∃ as, Reads s.heap v (.list (p.2.map PyData.int)) as) us ps
  | [], _, r, _ => by cases r; exact .nil
  | p :: ps, _, r, h => by
    cases r with
    | cons r1 r2 => exact .cons (Dp.reads I _ _ _ (dp_list (h p List.mem_cons_self)) r1) (each_reads I r2 fun q hq => h q (List.mem_cons_of_mem _ hq))
theorem cr_sortedL (hu : X.A.units + 64 < cLine) : CallR X (.builtin "sorted") (rSortedL X.K) := by
  intro pins s σ H vs us Q I r h
  obtain ⟨a, ps, rfl, hs, hall, hord, q⟩ := h
  rw [Vals.ref1 r]
  obtain ⟨its, rv, pl, hz⟩ := I.list hs
  have e1 := refs_each rv
  have e2 := each_reads I e1 hall
  rw [List.length_map] at hz
  refine PySem.W.sorted_data (enc := fun p : Addr × List Int => PyData.list (p.2.map PyData.int)) pl.isList e1 e2 ?_ ?_ hz ?_ fun out hlen he => ?_
  · exact .of fun b b' => by simpa [PySem.W.alike] using PySem.W.alike_ints b.2 b'.2
  · exact .others fun b => ⟨(fun z => nomatch z), fun xs z => nomatch z⟩
  · intro b _
    have e : (PyData.list (b.2.map PyData.int)).depth = 1 := by rw [PyData.depth, PySem.W.depth_ints]
    omega
  · rw [PySem.W.dataLe_rows, List.mergeSort_of_pairwise (by simpa using hord)] at he
    obtain ⟨c, hc⟩ := sortedAll_at s.heap its (List.toArray out)
    have hn : H (s.heap.objs.size + 1) = none := I.hok.fresh (Nat.le_succ _)
    refine ⟨.ref _, upd H (s.heap.objs.size + 1) (.lst (ps.map fun p => V.ref p.1)), I.laid (t' := s.toks) (fun _ _ => sortedAll_old) (Nat.le_succ _) ?_, rfl, q _ hn⟩
    exact ⟨by rw [List.length_map]; exact hz, out, c, each_refs he, hc⟩
end
end Sh

/-! Comprehensions with their list as it grows; loops over pairs. -/
namespace Sh
open PySem PySem.Spec PyProof.Rows L2
/-! ### rules that name the written part: for a comprehension's block -/
section
variable {X : Cx} {K : PySem.W.Frag}
theorem sl_listK (hK : X.K = K := by rfl) : SlR X (rSlL K) := hK ▸ sl_list
theorem sl_tupK (hK : X.K = K := by rfl) : SlR X (rSlT K) := hK ▸ sl_tup
theorem ix_listK (hK : X.K = K := by rfl) : IxR X (rIxL K) := hK ▸ ix_list
theorem ix_tupK (hK : X.K = K := by rfl) : IxR X (rIxT K) := hK ▸ ix_tup
theorem op_eqDK (hu : X.A.units + 64 < cLine) (hK : X.K = K := by rfl) : OpR X (compareOp .Eq) (rEqD K) := hK ▸ op_eqD hu
theorem op_neDK (hu : X.A.units + 64 < cLine) (hK : X.K = K := by rfl) : OpR X (compareOp .NotEq) (rNeD K) := hK ▸ op_neD hu
theorem op_ltLK (hu : X.A.units + 64 < cLine) (hK : X.K = K := by rfl) : OpR X (compareOp .Lt) (rLtL K) := hK ▸ op_ltL hu
def rLenS (K : PySem.W.Frag) : List V → Hp → VK → Prop := fun vs H Q => ∃ p ys, vs = [.ref p] ∧ (SqL K H p ys ∨ SqT K H p ys) ∧ Q (.int ((ys.length : Nat) : Int)) H
theorem call_lenK (hK : X.K = K := by rfl) : CallR X (.builtin "len") (rLenS K) := hK ▸ call_len_seq
theorem cr_sumK (hc : X.calm = true) (hK : X.K = K := by rfl) : CallR X (.builtin "sum") (rSum K) := hK ▸ cr_sum hc
theorem cr_allK (hc : X.calm = true) (hK : X.K = K := by rfl) : CallR X (.builtin "all") (rAll K) := hK ▸ cr_all hc
def rListOf (K : PySem.W.Frag) : List V → Hp → VK → Prop := fun vs H Q => ∃ p ys, vs = [.ref p] ∧ (SqL K H p ys ∨ SqT K H p ys) ∧ ∀ l, H l = none → Q (.ref l) (upd H l (.lst ys))
theorem call_listK (hK : X.K = K := by rfl) : CallR X (.type "list") (rListOf K) := hK ▸ call_list_of
theorem call_isiK (hK : X.K = K := by rfl) : CallR X (.builtin "isinstance") (rIsi K) := hK ▸ call_isi
theorem pe_revLK {e : Expr} {te : TE} {k : Nat} {p1 p2 p3 pos : Pos} (he : PE X e te) (hK : X.K = K := by rfl) :
    PE X (.Subscript e (.Slice none none (some (.UnaryOp .USub (.Constant (.int 1) k p1) p2)) p3) pos) (tRevL K te) := hK ▸ pe_revL he
theorem pg_tupK {es : List Expr} {k : Nat} {pos : Pos} {t : TGs} {n : Nat} (hc : X.calm = true) (h : PGs X es t) (hK : X.K = K := by rfl)
    (hn : (assignEach es X.env).length = n := by rfl) (hst : (assignEach es X.env).findIdx? (·.1) = none := by rfl) : PG X (.Tuple es k pos) (gTup K n t) := hK ▸ pg_tup hc h hn hst
end
/-- the list at D holds acc, of i items, of which Pv is true -/
def Acc (D : Addr) (Pv : List V → Hp → Prop) (i : Nat) : Hp → Prop := fun H => ∃ acc : List V, acc.length = i ∧ H D = some (.lst acc) ∧ Pv acc H
/-- a comprehension's item y is put -/
abbrev LcN (D : Addr) (P : Hp → Prop) : VK := fun y H => ∃ acc : List V, H D = some (.lst acc) ∧ acc.length < sizeLine ∧ P (upd H D (.lst (acc ++ [y])))
theorem LcN.put {D : Addr} {Pv : List V → Hp → Prop} {i : Nat} {acc : List V} {y : V} {H : Hp} (h : H D = some (.lst acc)) (hl : acc.length = i) (hz : i < sizeLine) (hp : Pv (acc ++ [y]) (upd H D (.lst (acc ++ [y])))) :
    LcN D (Acc D Pv (i + 1)) y H :=
  ⟨acc, h, by omega, acc ++ [y], by rw [List.length_append, List.length_singleton, hl], upd_same, hp⟩
/-- what a comprehension without tests asks behind its source -/
abbrev LcW (J : It) (g : TG) (te : TE) (vs : List Nat) (σ : L2.St) (H1 : Hp) (D : Addr) (Qd : Hp → Prop) : Prop :=
  ∃ W : Nat → Nat → Hp → Prop, (∃ m, W 0 m (upd H1 D (.lst []))) ∧ ∀ i m H, W i m H →
    (J.stop i H ∧ Qd H) ∨ (J.go i H ∧ ∃ Nx : Hp → Prop, (∀ H', Nx H' → ∃ m', m' < m ∧ W (i + 1) m' H') ∧
      ∀ x H', J.yld i H x H' → g x (wipe σ vs) H' fun σ2 H2 => wipe σ2 vs = wipe σ vs ∧ tYes σ2 H2 fun b H3 => if b = true then te σ2 H3 (LcN D Nx) else Nx H3)
theorem lc_gen {J : It} {g : TG} {te : TE} {vs : List Nat} {σ : L2.St} {H1 : Hp} {D : Addr} {Qd : Hp → Prop} (n : Nat) (Pv : Nat → List V → Hp → Prop)
    (h0 : Pv 0 [] (upd H1 D (.lst [])))
    (hgo : ∀ i acc H, i < n → Pv i acc H → J.go i H) (hst : ∀ acc H, Pv n acc H → J.stop n H)
    (hs : ∀ i acc H x H', i < n → acc.length = i → H D = some (.lst acc) → Pv i acc H → J.yld i H x H' →
      g x (wipe σ vs) H' fun σ2 H2 => wipe σ2 vs = wipe σ vs ∧ tYes σ2 H2 fun b H3 => if b = true then te σ2 H3 (LcN D (Acc D (Pv (i + 1)) (i + 1))) else Acc D (Pv (i + 1)) (i + 1) H3)
    (hd : ∀ acc H, acc.length = n → H D = some (.lst acc) → Pv n acc H → Qd H) : LcW J g te vs σ H1 D Qd := by
  refine ⟨fun i m H => m = n - i ∧ i ≤ n ∧ Acc D (Pv i) i H, ⟨n, by simp, Nat.zero_le _, [], rfl, upd_same, h0⟩, ?_⟩
  rintro i m H ⟨rfl, hi, acc, hl, hD, p⟩
  by_cases hlt : i < n
  · refine .inr ⟨hgo i acc H hlt p, Acc D (Pv (i + 1)) (i + 1), fun H' p' => ⟨n - (i + 1), by omega, rfl, hlt, p'⟩, fun x H' y => ?_⟩
    exact hs i acc H x H' hlt hl hD p y
  · have e : i = n := by omega
    subst e
    exact .inl ⟨hst acc H p, hd acc H hl hD p⟩
theorem yes_of {σ : L2.St} {H : Hp} {A B : Hp → Prop} (h : A H) : tYes σ H (fun b H3 => if b = true then A H3 else B H3) := by
  show (if true = true then A H else B H)
  rw [if_pos rfl]
  exact h
section
variable {K : PySem.W.Frag} {te : TE} {vs : List Nat} {σ : L2.St} {H1 : Hp} {D : Addr} {Qd : Hp → Prop}
theorem lc1_list {a : Addr} {xs : List V} {k : Nat} (Pv : Nat → List V → Hp → Prop) (h0 : Pv 0 [] (upd H1 D (.lst [])))
    (hl : ∀ i acc H, Pv i acc H → SqL K H a xs) (hw : ∀ x, wipe ((wipe σ vs).set k (some x)) vs = wipe σ vs)
    (hs : ∀ i x acc H, xs[i]? = some x → acc.length = i → H D = some (.lst acc) → Pv i acc H → te ((wipe σ vs).set k (some x)) H (LcN D (Acc D (Pv (i + 1)) (i + 1))))
    (hd : ∀ acc H, acc.length = xs.length → H D = some (.lst acc) → Pv xs.length acc H → Qd H) : LcW (Itl K a) (gName k) te vs σ H1 D Qd := by
  refine lc_gen xs.length Pv h0 (fun i acc H hi p => ⟨xs, xs[i], hl i acc H p, by simp [hi]⟩) (fun acc H p => ⟨xs, hl _ acc H p, Nat.le_refl _⟩) ?_ hd
  intro i acc H x H' hi hlen hD p y
  obtain ⟨e, y⟩ := y
  subst e
  exact ⟨hw x, yes_of (hs i x acc _ (y xs (hl i acc _ p)) hlen hD p)⟩
theorem lc1_range {lo : Int} {n k : Nat} (Pv : Nat → List V → Hp → Prop) (h0 : Pv 0 [] (upd H1 D (.lst [])))
    (hw : ∀ x, wipe ((wipe σ vs).set k (some x)) vs = wipe σ vs)
    (hs : ∀ i acc H, i < n → acc.length = i → H D = some (.lst acc) → Pv i acc H → te ((wipe σ vs).set k (some (.int (lo + i)))) H (LcN D (Acc D (Pv (i + 1)) (i + 1))))
    (hd : ∀ acc H, acc.length = n → H D = some (.lst acc) → Pv n acc H → Qd H) : LcW (Itr lo n) (gName k) te vs σ H1 D Qd := by
  refine lc_gen n Pv h0 (fun i acc H hi p => hi) (fun acc H p => Nat.le_refl _) ?_ hd
  intro i acc H x H' hi hlen hD p y
  obtain ⟨e, y⟩ := y
  subst e y
  exact ⟨hw _, yes_of (hs i acc _ hi hlen hD p)⟩
theorem lc1_rangeN {m n k : Nat} (hm : m = n) (Pv : Nat → List V → Hp → Prop) (h0 : Pv 0 [] (upd H1 D (.lst [])))
    (hw : ∀ x, wipe ((wipe σ vs).set k (some x)) vs = wipe σ vs)
    (hs : ∀ i acc H, i < n → acc.length = i → H D = some (.lst acc) → Pv i acc H → te ((wipe σ vs).set k (some (.int (i : Nat)))) H (LcN D (Acc D (Pv (i + 1)) (i + 1))))
    (hd : ∀ acc H, acc.length = n → H D = some (.lst acc) → Pv n acc H → Qd H) : LcW (Itr 0 m) (gName k) te vs σ H1 D Qd := by
  subst hm
  refine lc1_range Pv h0 hw (fun i acc H hi hl hD p => ?_) hd
  have h := hs i acc H hi hl hD p
  rw [← Int.zero_add (i : Int)] at h
  exact h
/-- a pair just made is stored in two names -/
theorem pair_in {K : PySem.W.Frag} {k j : Nat} {T : Addr} {x y : V} {σ : L2.St} {H : Hp} {Q : L2.St → Hp → Prop} (h : Q ((σ.set k (some x)).set j (some y)) (upd H T (.tup [x, y]))) :
    gTup K 2 (gCons (gName k) (gCons (gName j) gNil)) (.ref T) σ (upd H T (.tup [x, y])) Q :=
  ⟨T, [x, y], rfl, .inl (.inl upd_same), rfl, x, [y], rfl, y, [], rfl, rfl, h⟩
theorem pair_at {K : PySem.W.Frag} {k j : Nat} {T : Addr} {x y : V} {σ : L2.St} {H : Hp} {Q : L2.St → Hp → Prop} (hT : SqT K H T [x, y]) (h : Q ((σ.set k (some x)).set j (some y)) H) :
    gTup K 2 (gCons (gName k) (gCons (gName j) gNil)) (.ref T) σ H Q :=
  ⟨T, [x, y], rfl, hT, rfl, x, [y], rfl, y, [], rfl, rfl, h⟩
/-- what a new object leaves true -/
def Fresh (Pv : Hp → Prop) : Prop := ∀ H T o, H T = none → Pv H → Pv (upd H T o)
theorem lc2_enum {a : Addr} {xs : List V} {k j : Nat} (Pv : Nat → List V → Hp → Prop) (h0 : Pv 0 [] (upd H1 D (.lst [])))
    (hl : ∀ i acc H, Pv i acc H → SqL K H a xs) (hf : ∀ i acc, Fresh (Pv i acc)) (hw : ∀ x y, wipe (((wipe σ vs).set k (some x)).set j (some y)) vs = wipe σ vs)
    (hs : ∀ i x acc H, xs[i]? = some x → acc.length = i → H D = some (.lst acc) → Pv i acc H →
      te (((wipe σ vs).set k (some (.int (i : Nat)))).set j (some x)) H (LcN D (Acc D (Pv (i + 1)) (i + 1))))
    (hd : ∀ acc H, acc.length = xs.length → H D = some (.lst acc) → Pv xs.length acc H → Qd H) :
    LcW (Ite K a) (gTup K 2 (gCons (gName k) (gCons (gName j) gNil))) te vs σ H1 D Qd := by
  refine lc_gen xs.length Pv h0 (fun i acc H hi p => ⟨xs, xs[i], hl i acc H p, by simp [hi]⟩) (fun acc H p => ⟨xs, hl _ acc H p, Nat.le_refl _⟩) ?_ hd
  intro i acc H x H' hi hlen hD p y
  obtain ⟨T, z, rfl, nT, rfl, f⟩ := y
  refine pair_in ⟨hw _ _, yes_of (hs i z acc _ (f xs (hl i acc _ p)) hlen ?_ (hf i acc _ _ _ nT p))⟩
  rw [upd_ne (ne_of_none hD nT)]
  exact hD
theorem lc2_zip {a b : Addr} {xs ys : List V} {k j : Nat} (n : Nat) (hn : n = min xs.length ys.length) (Pv : Nat → List V → Hp → Prop) (h0 : Pv 0 [] (upd H1 D (.lst [])))
    (hl : ∀ i acc H, Pv i acc H → SqL K H a xs ∧ SqL K H b ys) (hf : ∀ i acc, Fresh (Pv i acc)) (hw : ∀ x y, wipe (((wipe σ vs).set k (some x)).set j (some y)) vs = wipe σ vs)
    (hs : ∀ i x y acc H, xs[i]? = some x → ys[i]? = some y → acc.length = i → H D = some (.lst acc) → Pv i acc H →
      te (((wipe σ vs).set k (some x)).set j (some y)) H (LcN D (Acc D (Pv (i + 1)) (i + 1))))
    (hd : ∀ acc H, acc.length = n → H D = some (.lst acc) → Pv n acc H → Qd H) :
    LcW (Itz K a b) (gTup K 2 (gCons (gName k) (gCons (gName j) gNil))) te vs σ H1 D Qd := by
  refine lc_gen n Pv h0 (fun i acc H hi p => ?_) (fun acc H p => ?_) ?_ hd
  · have h1 : i < xs.length := by omega
    have h2 : i < ys.length := by omega
    exact ⟨xs, ys, xs[i], ys[i], (hl i acc H p).1, (hl i acc H p).2, by simp [h1], by simp [h2]⟩
  · exact ⟨xs, ys, (hl n acc H p).1, (hl n acc H p).2, by omega⟩
  · intro i acc H x H' hi hlen hD p y
    obtain ⟨T, z1, z2, rfl, nT, rfl, f1, f2⟩ := y
    refine pair_in ⟨hw _ _, yes_of (hs i z1 z2 acc _ (f1 xs (hl i acc _ p).1) (f2 ys (hl i acc _ p).2) hlen ?_ (hf i acc _ _ _ nT p))⟩
    rw [upd_ne (ne_of_none hD nT)]
    exact hD
end
/-! ### loops -/
section
variable {K : PySem.W.Frag} {tb : TS} {D : Ends} {σ : L2.St} {H : Hp}
/-- what a loop asks behind its source -/
abbrev ForW (J : It) (g : TG) (tb : TS) (D : Ends) (σ : L2.St) (H : Hp) : Prop :=
  ∃ W : Nat → Nat → L2.St → Hp → Prop, (∃ m, W 0 m σ H) ∧ ∀ i m σ H, W i m σ H →
    (J.stop i H ∧ D.nx σ H) ∨ (J.go i H ∧ ∃ N : L2.St → Hp → Prop, (∀ σ' H', N σ' H' → ∃ m', m' < m ∧ W (i + 1) m' σ' H') ∧
      ∀ x H', J.yld i H x H' → g x σ H' fun σ2 H2 => tb { D with nx := N, ct := N, bk := D.nx } σ2 H2)
theorem for2_enum {a : Addr} {xs : List V} {k j : Nat} (Pv : Nat → L2.St → Hp → Prop) (h0 : Pv 0 σ H) (hl : ∀ i σ H, Pv i σ H → SqL K H a xs) (hf : ∀ i σ, Fresh (Pv i σ))
    (hs : ∀ i x σ H, xs[i]? = some x → Pv i σ H → tb { D with nx := Pv (i + 1), ct := Pv (i + 1), bk := D.nx } ((σ.set k (some (.int (i : Nat)))).set j (some x)) H)
    (hd : ∀ σ H, Pv xs.length σ H → D.nx σ H) : ForW (Ite K a) (gTup K 2 (gCons (gName k) (gCons (gName j) gNil))) tb D σ H := by
  refine ⟨fun i m σ H => m = xs.length - i ∧ i ≤ xs.length ∧ Pv i σ H, ⟨xs.length, by simp, Nat.zero_le _, h0⟩, ?_⟩
  rintro i m σ H ⟨rfl, hi, p⟩
  have q := hl i σ H p
  by_cases hlt : i < xs.length
  · refine .inr ⟨⟨xs, xs[i], q, by simp [hlt]⟩, Pv (i + 1), fun σ' H' p' => ⟨xs.length - (i + 1), by omega, rfl, hlt, p'⟩, fun x H' y => ?_⟩
    obtain ⟨T, z, rfl, nT, rfl, f⟩ := y
    exact pair_in (hs i z σ _ (f xs q) (hf i σ _ _ _ nT p))
  · have e : i = xs.length := by omega
    subst e
    exact .inl ⟨⟨xs, q, Nat.le_refl _⟩, hd σ H p⟩
/-- over range(n) -/
theorem for_rangeN {m n k : Nat} (hm : m = n) (Pv : Nat → L2.St → Hp → Prop) (h0 : Pv 0 σ H)
    (hs : ∀ i σ H, i < n → Pv i σ H → tb { D with nx := Pv (i + 1), ct := Pv (i + 1), bk := D.nx } (σ.set k (some (.int (i : Nat)))) H)
    (hd : ∀ σ H, Pv n σ H → D.nx σ H) : ForW (Itr 0 m) (gName k) tb D σ H := by
  subst hm
  refine for_range Pv h0 (fun i σ H hi p => ?_) hd
  have h := hs i σ H hi p
  rw [← Int.zero_add (i : Int)] at h
  exact h
/-- over range(n, 0, -1) -/
theorem for_down {n m k : Nat} (hm : m = n) (Pv : Nat → L2.St → Hp → Prop) (h0 : Pv 0 σ H)
    (hs : ∀ i σ H, i < n → Pv i σ H → tb { D with nx := Pv (i + 1), ct := Pv (i + 1), bk := D.nx } (σ.set k (some (.int ((n - i : Nat) : Int)))) H)
    (hd : ∀ σ H, Pv n σ H → D.nx σ H) : ForW (Itc (n : Int) (-1) m) (gName k) tb D σ H := by
  subst hm
  refine for_rangeC Pv h0 (fun i σ H hi p => ?_) hd
  have h := hs i σ H hi p
  have e : (m : Int) + (i : Nat) * (-1) = ((m - i : Nat) : Int) := by omega
  rw [← e] at h
  exact h
theorem for1_list {a : Addr} {xs : List V} {k : Nat} (Pv : Nat → L2.St → Hp → Prop) (h0 : Pv 0 σ H) (hl : ∀ i σ H, Pv i σ H → SqL K H a xs)
    (hs : ∀ i x σ H, xs[i]? = some x → Pv i σ H → tb { D with nx := Pv (i + 1), ct := Pv (i + 1), bk := D.nx } (σ.set k (some x)) H)
    (hd : ∀ σ H, Pv xs.length σ H → D.nx σ H) : ForW (Itl K a) (gName k) tb D σ H :=
  for_list Pv h0 (fun i σ H _ p => hl i σ H p) hs hd
end
/-! ### heaps -/
theorem same_new {H : Hp} {p : Addr} {o : HO} (h : H p = none) : Same H (upd H p o) := fun b x e => by
  rw [upd_ne (ne_of_none e h)]
  exact e
theorem same_free {H1 H : Hp} {D : Addr} {o : HO} (s : Same H1 H) (hD : H1 D = none) : Same H1 (upd H D o) := fun b x e => by
  rw [upd_ne (ne_of_none e hD)]
  exact s b x e
theorem same_fresh (H1 : Hp) : Fresh (Same H1) := fun H T o nT s b x e => by
  rw [upd_ne (ne_of_none (s b x e) nT)]
  exact s b x e
theorem sqL_new {K : PySem.W.Frag} {H : Hp} {a p : Addr} {o : HO} {xs : List V} (h : SqL K H a xs) (hp : H p = none) : SqL K (upd H p o) a xs := (same_new hp).seq h
theorem same_tup {K : PySem.W.Frag} {H H' : Hp} {a : Addr} {xs : List V} (e : Same H H') (h : SqT K H a xs) : SqT K H' a xs := by
  rcases h with (h | ⟨o, h⟩) | h
  · exact .inl (.inl (e _ _ h))
  · exact .inl (.inr ⟨o, e _ _ h⟩)
  · exact .inr h
end Sh

/-! The fewest sets within, the most sets that hold: of falling lists, then of numbers. Core Lean alone. -/
namespace Sh
/-- the most sets of one number more that the sets ahead of l hold -/
def ov : List Nat → Nat
  | [] => 0
  | a :: l => ch a (l.length + 2) + ov l
/-- the fewest sets of one number fewer within the sets ahead of l -/
def un : List Nat → Nat
  | [] => 0
  | a :: l => (if l.length + 1 ≤ a then ch a l.length else 0) + un l
theorem len_pos {l : List Nat} (h : l ≠ []) : 0 < l.length := List.length_pos_iff.mpr h
theorem ch_step2 (n k : Nat) : ch (n + 1) (k + 2) = ch n (k + 1) + ch n (k + 2) := rfl
theorem down_ge : ∀ {l : List Nat} {a : Nat}, Down l → (∀ x ∈ l, x < a) → l.length ≤ a
  | [], a, _, _ => Nat.zero_le _
  | b :: l, a, h, hb => by
    have h1 := List.pairwise_cons.mp h
    have h2 := down_ge (a := b) h1.2 (fun x hx => h1.1 x hx)
    have h3 := hb b List.mem_cons_self
    show l.length + 1 ≤ a
    omega
theorem down_head {a : Nat} {l : List Nat} (h : Down (a :: l)) : Down l ∧ l.length ≤ a ∧ num l < ch a l.length := by
  have h1 := List.pairwise_cons.mp h
  exact ⟨h1.2, down_ge h1.2 (fun x hx => h1.1 x hx), num_lt h1.2 (fun x hx => h1.1 x hx)⟩
theorem num_cons (a : Nat) (l : List Nat) : num (a :: l) = ch a (l.length + 1) + num l := rfl
theorem ov_le : ∀ {l : List Nat} {a : Nat}, Down l → (∀ x ∈ l, x < a) → ov l ≤ ch a (l.length + 1)
  | [], a, _, _ => Nat.zero_le _
  | b :: l, a, h, hb => by
    have h1 := List.pairwise_cons.mp h
    have h2 := ov_le (a := b) h1.2 (fun x hx => h1.1 x hx)
    have h3 : b + 1 ≤ a := hb b List.mem_cons_self
    have h4 := ch_mono h3 (l.length + 2)
    rw [ch_step2] at h4
    show ch b (l.length + 2) + ov l ≤ ch a (l.length + 2)
    omega
theorem drop_cons {s : Nat} {l : List Nat} (h : l ≠ []) : (s :: l).dropLast = s :: l.dropLast := List.dropLast_cons_of_ne_nil h
theorem num_drop {s : Nat} {l : List Nat} (h : l ≠ []) : num (s :: l).dropLast = ch s l.length + num l.dropLast := by
  have h0 : 0 < l.length := len_pos h
  rw [drop_cons h, num_cons, List.length_dropLast, Nat.sub_add_cancel h0]
/-- a set of one number more is among those that hold just when its greatest one within it is ahead -/
theorem ov_iff : ∀ {S T : List Nat}, Down S → Down T → S.length = T.length + 1 → (num S < ov T ↔ num S.dropLast < num T)
  | [], _, _, _, h => by simp at h
  | s :: S, [], hS, hT, h => by
    show num (s :: S) < 0 ↔ num (s :: S).dropLast < 0
    omega
  | s :: S, t :: T, hS, hT, h => by
    have hl : S.length = T.length + 1 := by simpa using h
    have hn : S ≠ [] := fun e => by rw [e] at hl; simp at hl
    obtain ⟨dS, gS, bS⟩ := down_head hS
    obtain ⟨dT, gT, bT⟩ := down_head hT
    have ih := ov_iff dS dT hl
    have hb := ov_le dT (fun x hx => (List.pairwise_cons.mp hT).1 x hx)
    have dD : Down (s :: S.dropLast) := by
      rw [← drop_cons hn]
      exact hS.sublist (List.dropLast_sublist _)
    have bD := (down_head dD).2.2
    rw [List.length_dropLast, hl, Nat.add_sub_cancel] at bD
    rw [num_drop hn, num_cons, num_cons, hl]
    show ch s (T.length + 2) + num S < ch t (T.length + 2) + ov T ↔ ch s (T.length + 1) + num S.dropLast < ch t (T.length + 1) + num T
    rw [hl] at bS
    rcases Nat.lt_trichotomy s t with q | q | q
    · have m1 := ch_mono (show s + 1 ≤ t from q) (T.length + 2)
      have m2 := ch_mono (show s + 1 ≤ t from q) (T.length + 1)
      rw [ch_step2] at m1
      rw [ch_step] at m2
      omega
    · subst q
      omega
    · have m1 := ch_mono (show t + 1 ≤ s from q) (T.length + 2)
      have m2 := ch_mono (show t + 1 ≤ s from q) (T.length + 1)
      rw [ch_step2] at m1
      rw [ch_step] at m2
      omega
theorem un_zero : ∀ {l : List Nat}, num l = 0 → un l = 0
  | [], _ => rfl
  | a :: l, h => by
    rw [num_cons] at h
    have h1 : ¬ l.length + 1 ≤ a := fun q => by
      have := ch_pos q
      omega
    show (if l.length + 1 ≤ a then ch a l.length else 0) + un l = 0
    rw [if_neg h1, un_zero (by omega)]
theorem full : ∀ {l : List Nat} {s : Nat}, Down l → (∀ x ∈ l, x < s) → l ≠ [] → num l + 1 = ch s l.length → num l.dropLast + 1 = ch s (l.length - 1)
  | [], _, _, _, h, _ => absurd rfl h
  | u :: l, s, h, hb, _, e => by
    obtain ⟨d, g, b⟩ := down_head h
    have h3 : u + 1 ≤ s := hb u List.mem_cons_self
    have h4 := ch_mono h3 (l.length + 1)
    rw [ch_step] at h4
    have e : ch u (l.length + 1) + num l + 1 = ch s (l.length + 1) := e
    have hus : u + 1 = s := by
      rcases Nat.lt_or_ge (u + 1) s with q | q
      · have := ch_lt (k := l.length) q (by omega)
        rw [ch_step] at this
        omega
      · omega
    subst hus
    rw [ch_step] at e
    show num (u :: l).dropLast + 1 = ch (u + 1) l.length
    by_cases hn : l = []
    · subst hn
      show 0 + 1 = ch (u + 1) 0
      rw [ch_zero]
    · have ih := full (s := u) d (fun x hx => (List.pairwise_cons.mp h).1 x hx) hn (by omega)
      obtain ⟨j, hj⟩ : ∃ j, l.length = j + 1 := ⟨l.length - 1, by have := len_pos hn; omega⟩
      rw [num_drop hn, hj, ch_step]
      rw [hj, Nat.add_sub_cancel] at ih
      omega
/-- of the next set: what lies within the sets ahead of it ends with the greatest one within the last of them -/
theorem un_next : ∀ {S T : List Nat}, Down S → Down T → S.length = T.length → num T = num S + 1 → un T = num S.dropLast + 1
  | [], [], _, _, _, e => by
    have e : 0 = 0 + 1 := e
    omega
  | [], _ :: _, _, _, h, _ => by simp at h
  | _ :: _, [], _, _, h, _ => by simp at h
  | s :: S, t :: T, hS, hT, h, e => by
    have hl : S.length = T.length := by simpa using h
    obtain ⟨dS, gS, bS⟩ := down_head hS
    obtain ⟨dT, gT, bT⟩ := down_head hT
    rw [num_cons, num_cons, hl] at e
    rw [hl] at bS gS
    have hu : un (t :: T) = (if T.length + 1 ≤ t then ch t T.length else 0) + un T := rfl
    rw [hu]
    rcases Nat.lt_trichotomy t s with q | q | q
    · have m1 := ch_mono (show t + 1 ≤ s from q) (T.length + 1)
      rw [ch_step] at m1
      omega
    · subst q
      have e1 : num T = num S + 1 := by omega
      have hn : S ≠ [] := fun z => by
        rw [z] at hl
        have : T = [] := List.length_eq_zero_iff.mp hl.symm
        rw [this, z] at e1
        have e1 : 0 = 0 + 1 := e1
        omega
      have hg : T.length + 1 ≤ t := by
        refine Nat.lt_of_not_le fun z => ?_
        have := ch_mono z T.length
        rw [ch_self] at this
        omega
      rw [if_pos hg, un_next dS dT hl e1, num_drop hn, hl]
      omega
    · have m1 := ch_mono (show s + 1 ≤ t from q) (T.length + 1)
      have st : t = s + 1 := by
        rcases Nat.lt_or_ge (s + 1) t with z | z
        · have := ch_lt (k := T.length) z (by omega)
          rw [ch_step] at this
          omega
        · omega
      subst st
      rw [ch_step] at e m1
      have e0 : num T = 0 := by omega
      rw [un_zero e0, if_pos (by omega)]
      by_cases hn : S = []
      · subst hn
        have h0 : T.length = 0 := hl.symm
        rw [h0, ch_zero]
        rfl
      · have f := full (s := s) dS (fun x hx => (List.pairwise_cons.mp hS).1 x hx) hn (by rw [hl]; omega)
        obtain ⟨j, hj⟩ : ∃ j, S.length = j + 1 := ⟨S.length - 1, by have := len_pos hn; omega⟩
        rw [num_drop hn, ← hl, hj, ch_step]
        rw [hj, Nat.add_sub_cancel] at f
        omega
theorem erase_le : ∀ {S : List Nat} {i : Nat}, Down S → i < S.length → num (S.eraseIdx i) ≤ num S.dropLast
  | [], _, _, h => absurd h (Nat.not_lt_zero _)
  | s :: S, 0, h, _ => by
    obtain ⟨d, g, b⟩ := down_head h
    show num S ≤ num (s :: S).dropLast
    by_cases hn : S = []
    · subst hn
      exact Nat.le_refl _
    · rw [num_drop hn]
      omega
  | s :: S, i + 1, h, hi => by
    obtain ⟨d, g, b⟩ := down_head h
    have hi : i < S.length := by simpa using hi
    have hn : S ≠ [] := fun z => by rw [z] at hi; exact absurd hi (Nat.not_lt_zero _)
    have ih := erase_le d hi
    show num (s :: S.eraseIdx i) ≤ num (s :: S).dropLast
    rw [num_drop hn, num_cons, List.length_eraseIdx, if_pos hi, Nat.sub_add_cancel (by omega)]
    omega
/-- what is new below a set lies within it -/
theorem new_in : ∀ {T : List Nat} {p : Nat}, Down T → T ≠ [] → un T ≤ p → p ≤ num T.dropLast → ∃ i, i < T.length ∧ num (T.eraseIdx i) = p
  | [], _, _, h, _, _ => absurd rfl h
  | t :: T, p, h, _, h1, h2 => by
    obtain ⟨d, g, b⟩ := down_head h
    have hu : un (t :: T) = (if T.length + 1 ≤ t then ch t T.length else 0) + un T := rfl
    rw [hu] at h1
    by_cases hn : T = []
    · subst hn
      have h2 : p ≤ 0 := h2
      exact ⟨0, by simp, by have : p = 0 := by omega
                            rw [this]; rfl⟩
    · have hp := len_pos hn
      rw [num_drop hn] at h2
      have key : ∀ q, un T ≤ q → q ≤ num T.dropLast → p = ch t T.length + q → ∃ i, i < (t :: T).length ∧ num ((t :: T).eraseIdx i) = p := fun q a1 a2 a3 => by
        obtain ⟨i, hi, e⟩ := new_in d hn a1 a2
        refine ⟨i + 1, by simpa using hi, ?_⟩
        show num (t :: T.eraseIdx i) = p
        rw [num_cons, List.length_eraseIdx, if_pos hi, Nat.sub_add_cancel hp, e, a3]
      by_cases c : T.length + 1 ≤ t
      · rw [if_pos c] at h1
        exact key (p - ch t T.length) (by omega) (by omega) (by omega)
      · have ht : t = T.length := by omega
        rw [if_neg c] at h1
        rw [ht, ch_self] at b h2
        have e0 : num T = 0 := by omega
        by_cases hp0 : p = 0
        · exact ⟨0, by simp, by rw [hp0]; exact e0⟩
        · refine key (p - 1) (by rw [un_zero e0]; exact Nat.zero_le _) (by omega) ?_
          rw [ht, ch_self]
          omega
/-! ### of numbers -/
def overN (k n : Nat) : Nat := ov (cas k n)
def underN (k n : Nat) : Nat := un (cas k n)
/-- the number of the greatest set within the set of a number -/
def dropN (k m : Nat) : Nat := num (cas (k + 1) m).dropLast
theorem under_zero (k : Nat) : underN k 0 = 0 := un_zero (num_cas' fun _ => rfl)
theorem under_succ (k m : Nat) : underN (k + 1) (m + 1) = dropN k m + 1 :=
  un_next (cas_down _ _).1 (cas_down _ _).1 (by rw [cas_length, cas_length]) (by rw [num_cas, num_cas])
theorem over_iff {k n m : Nat} (h : k = 0 → n = 0) : m < overN k n ↔ dropN k m < n := by
  have := ov_iff (cas_down (k + 1) m).1 (cas_down k n).1 (by rw [cas_length, cas_length])
  rw [num_cas, num_cas' h] at this
  exact this
/-- so many hold just as have so few within -/
theorem over_under {k n m : Nat} (h : k = 0 → n = 0) : m ≤ overN k n ↔ underN (k + 1) m ≤ n := by
  cases m with
  | zero =>
    rw [under_zero]
    omega
  | succ m =>
    rw [under_succ]
    exact over_iff h
theorem under_over {k n : Nat} (h : k = 0 → n = 0) : underN (k + 1) (overN k n) ≤ n := (over_under h).mp (Nat.le_refl _)
theorem lt_under_over {k n : Nat} (h : k = 0 → n = 0) : n < underN (k + 1) (overN k n + 1) :=
  Nat.lt_of_not_le fun q => absurd ((over_under h).mpr q) (Nat.not_succ_le_self _)
theorem drop_mono {k m n : Nat} (h : m ≤ n) : dropN k m ≤ dropN k n := by
  cases k with
  | zero =>
    have e : ∀ z, dropN 0 z = 0 := fun z => rfl
    rw [e]
    exact Nat.zero_le _
  | succ k =>
    have h1 : n < overN (k + 1) (dropN (k + 1) n + 1) := (over_iff (fun z => by omega)).mpr (Nat.lt_succ_self _)
    have h2 := (over_iff (k := k + 1) (fun z => by omega)).mp (Nat.lt_of_le_of_lt h h1)
    omega
theorem under_mono {k m n : Nat} (h : m ≤ n) : underN (k + 1) m ≤ underN (k + 1) n := by
  cases m with
  | zero =>
    rw [under_zero]
    exact Nat.zero_le _
  | succ m =>
    obtain ⟨j, rfl⟩ : ∃ j, n = j + 1 := ⟨n - 1, by omega⟩
    rw [under_succ, under_succ]
    have := drop_mono (k := k) (show m ≤ j by omega)
    omega
theorem over_mono {k m n : Nat} (h : m ≤ n) : overN (k + 1) m ≤ overN (k + 1) n :=
  (over_under (fun z => by omega)).mpr (Nat.le_trans (under_over (fun z => by omega)) h)
theorem erase_lt {k n m i : Nat} (h : n < m) (hi : i < k + 1) : num ((cas (k + 1) n).eraseIdx i) < underN (k + 1) m := by
  obtain ⟨j, rfl⟩ : ∃ j, m = j + 1 := ⟨m - 1, by omega⟩
  rw [under_succ]
  have h1 := erase_le (i := i) (cas_down (k + 1) n).1 (by rw [cas_length]; exact hi)
  have h2 := drop_mono (k := k) (show n ≤ j by omega)
  have h3 : dropN k n = num (cas (k + 1) n).dropLast := rfl
  omega
theorem erase_step {k p m : Nat} (h : p < underN (k + 1) (m + 1)) : p < underN (k + 1) m ∨ ∃ i, i < k + 1 ∧ num ((cas (k + 1) m).eraseIdx i) = p := by
  by_cases c : p < underN (k + 1) m
  · exact .inl c
  · rw [under_succ] at h
    obtain ⟨i, h1, h2⟩ := new_in (T := cas (k + 1) m) (p := p) (cas_down _ _).1 (by rw [cas_succ]; exact List.cons_ne_nil _ _) (Nat.le_of_not_lt c) (Nat.le_of_lt_succ h)
    rw [cas_length] at h1
    exact .inr ⟨i, h1, h2⟩
theorem under_le {k m a : Nat} (h : m ≤ ch a (k + 1)) : underN (k + 1) m ≤ ch a k := by
  cases m with
  | zero =>
    rw [under_zero]
    exact Nat.zero_le _
  | succ m =>
    rw [under_succ]
    have hd : Down (cas (k + 1) m).dropLast := (cas_down (k + 1) m).1.sublist (List.dropLast_sublist _)
    have := num_lt (a := a) hd fun x hx => (cas_down (k + 1) m).2 x ((List.dropLast_sublist _).subset hx) a h
    rw [List.length_dropLast, cas_length] at this
    exact this
theorem erase_some {k p : Nat} : ∀ {m : Nat}, p < underN (k + 1) m → ∃ n i, n < m ∧ i < k + 1 ∧ num ((cas (k + 1) n).eraseIdx i) = p
  | 0, h => by
    rw [under_zero] at h
    omega
  | m + 1, h => by
    rcases erase_step h with c | ⟨i, h1, h2⟩
    · obtain ⟨n, i, h1, h2, h3⟩ := erase_some c
      exact ⟨n, i, by omega, h2, h3⟩
    · exact ⟨m, i, Nat.lt_succ_self _, h1, h2⟩
/-- bounds -/
theorem over_le {k n a : Nat} (h : n < ch a k) : overN k n ≤ ch a (k + 1) := by
  have := ov_le (cas_down k n).1 (fun x hx => (cas_down k n).2 x hx a h)
  rw [cas_length] at this
  exact this
theorem over_few {k n a : Nat} (hk : k ≤ a) (h : n < ch a k) : overN k n < ch (a + 1) (k + 1) := by
  have h1 := over_le h
  have h2 := ch_lt_succ hk
  omega
end Sh

/-! Rules of numbers for min and max; truths compared; places of a dict. -/
namespace Sh
open PySem PySem.Spec PyProof.Rows L2
section
variable {X : Cx} {K : PySem.W.Frag}
theorem hu1 {u : Nat} (h : u + 64 < cLine) : u + 1 < cLine := Nat.lt_of_le_of_lt (Nat.add_le_add_left (by decide) u) h
def rMinN : List V → Hp → VK → Prop := fun vs H Q => ∃ n m : Nat, vs = [.int (n : Int), .int (m : Int)] ∧ Q (.int ((min n m : Nat) : Int)) H
def rMaxN : List V → Hp → VK → Prop := fun vs H Q => ∃ n m : Nat, vs = [.int (n : Int), .int (m : Int)] ∧ Q (.int ((max n m : Nat) : Int)) H
theorem call_minN (hc : X.calm = true) : CallR X (.builtin "min") rMinN := by
  intro pins s σ H vs us Q I r h
  obtain ⟨n, m, rfl, q⟩ := h
  refine call_min2 hc pins s σ H _ us Q I r ⟨n, m, rfl, ?_⟩
  have e : (if (m : Int) < (n : Int) then (m : Int) else (n : Int)) = ((min n m : Nat) : Int) := by
    split <;> omega
  rw [e]
  exact q
theorem call_maxN (hc : X.calm = true) : CallR X (.builtin "max") rMaxN := by
  intro pins s σ H vs us Q I r h
  obtain ⟨n, m, rfl, q⟩ := h
  refine call_max2 hc pins s σ H _ us Q I r ⟨n, m, rfl, ?_⟩
  have e : (if (m : Int) > (n : Int) then (m : Int) else (n : Int)) = ((max n m : Nat) : Int) := by
    split <;> omega
  rw [e]
  exact q
theorem cr_maxK (hc : X.calm = true) (hK : X.K = K := by rfl) : CallR X (.builtin "max") (rMax K) := hK ▸ cr_max hc
theorem cr_minK (hc : X.calm = true) (hK : X.K = K := by rfl) : CallR X (.builtin "min") (rMin K) := hK ▸ cr_min hc
def rBNe : R2 := fun x y H Q => ∃ a b : Bool, x = .bl a ∧ y = .bl b ∧ Q (.bl (!decide (a = b))) H
def rBEq : R2 := fun x y H Q => ∃ a b : Bool, x = .bl a ∧ y = .bl b ∧ Q (.bl (decide (a = b))) H
theorem op_bNe : OpR X (compareOp .NotEq) rBNe := by
  intro pins s σ H x y u v Q I r1 r2 h
  obtain ⟨a, b, rfl, rfl, q⟩ := h
  refine op_ne pins s σ H _ _ u v Q I r1 r2 ⟨rfl, ?_⟩
  have e : decide (V.bl a = V.bl b) = decide (a = b) := decide_eq_decide.mpr ⟨V.bl.inj, fun h => by rw [h]⟩
  rw [e]
  exact q
theorem op_bEq : OpR X (compareOp .Eq) rBEq := by
  intro pins s σ H x y u v Q I r1 r2 h
  obtain ⟨a, b, rfl, rfl, q⟩ := h
  refine op_eq pins s σ H _ _ u v Q I r1 r2 ⟨rfl, ?_⟩
  have e : decide (V.bl a = V.bl b) = decide (a = b) := decide_eq_decide.mpr ⟨V.bl.inj, fun h => by rw [h]⟩
  rw [e]
  exact q
end
end Sh

/-! Classes: an object of a class without an own __init__, isinstance of an object, a method of an object of one of two classes; comprehensions over tuples; equality of what may be None or a pair. -/
namespace Sh
open PySem PySem.Spec PyProof.Rows L2
/-- C() where no __init__ is written -/
structure Mk0 (K : PySem.W.Frag) (C : Addr) : Prop where
  makes : PySem.W.makesIn K C = true
  init : PySem.W.findIn K (.ref C) "__init__" = some (some (.builtin "object.__init__"))
  kp : PySem.W.keepIn K (.ref C) = true
def tBare (C : Addr) : TE := fun _ H Q => ∀ x dx, H x = none → H dx = none → dx ≠ x → Q (.ref x) (upd (upd H dx (.own x)) x (.ins C dx []))
section
variable {X : Cx} {C : Addr} {x : Str} {p pos : Pos}
theorem pe_bare (M : Mk0 X.K C) (hg : Gl X x) (hm : X.mg x = some (.ref C)) (hdb : (x == ("__debug__" : Str)) = false := by decide) : PE X (.Call (.Name x p) [] [] pos) (tBare C) := by
  refine ⟨fun pins s σ H Q I h => ?_⟩
  refine wpAny_Call_Name_kw (ld_glob I hg hm ?_ hdb)
  refine PySem.W.callWith_K0 I.kIn M.kp ?_
  have hq := h (s.heap.objs.size + 1) s.heap.objs.size (I.hok.fresh (Nat.le_succ _)) (I.hok.fresh (Nat.le_refl _)) (Nat.ne_of_lt (Nat.lt_succ_self _))
  have I2 := Inv.made (C := C) I
  have Y := PySem.W.makes_of (M := model X.prog X.w) I.kIn M.makes
  have k : ∀ b o, s.heap.get? b = some o → ((s.heap.push PySem.W.emptyDict).push (PySem.W.instObj C s.heap.objs.size)).get? b = some o := fun b o e => Heap.get?_push_of_some _ (Heap.get?_push_of_some _ e)
  have hx : ((s.heap.push PySem.W.emptyDict).push (PySem.W.instObj C s.heap.objs.size)).get? (s.heap.objs.size + 1) = some (PySem.W.instObj C s.heap.objs.size) := by
    have := Heap.get?_push_size (s.heap.push PySem.W.emptyDict) (o := PySem.W.instObj C s.heap.objs.size) rfl
    rwa [Heap.size_push] at this
  have t1 : PySem.W.Looks (model X.prog X.w) ((s.heap.push PySem.W.emptyDict).push (PySem.W.instObj C s.heap.objs.size)) (typeOf (.ref (s.heap.objs.size + 1))) (.ref C) := (PySem.W.Looks.ld hx).andThen .now
  have t2 : PySem.W.Looks (model X.prog X.w) ((s.heap.push PySem.W.emptyDict).push (PySem.W.instObj C s.heap.objs.size)) (isInstance (.ref (s.heap.objs.size + 1)) (.type "object")) true := t1.andThen (Y.top.keeps k)
  refine wpAny_call (make_map0 I.kIn M.makes M.init (fun self => .of_pure (PySem.W.oi_bind self)) ?_)
  refine codeAny_call_builtin PySem.W.oi_plain PySem.W.entry_oi (PySem.W.check_slot PySem.W.oi_kind PySem.W.oi_split t2 (PySem.W.oi_args _) ?_)
  rw [PySem.W.oi_run]
  exact wpAny_pure (And.intro rfl ⟨V.ref (s.heap.objs.size + 1), _, I2, (show Value.ref (s.heap.objs.size + 1) = Value.ref (s.heap.objs.size + 1) from rfl), hq⟩)
end
/-- what isinstance asks of a class -/
structure Isi (K : PySem.W.Frag) (C : Addr) : Prop where
  ca : PySem.W.findIn K (.ref C) "__class__" = some (some (.builtin "object.__class__"))
  gt : PySem.W.specialIn K (.builtin "object.__class__") "__get__" = some (some (.builtin "getset_descriptor.__get__"))
  tk : PySem.W.takesIn K (.builtin "object.__class__") = some true
  ob : PySem.W.mroIn K C (.type "object") = some true
theorem isi_ins {K : PySem.W.Frag} {H : Hp} {a C dx : Addr} {fs : List (Str × V)} (e : H a = some (.ins C dx fs)) (c : Cls K C) (i : Isi K C) : TyX K H (.ref a) (.ref C) := .base (.ins e c i.ca i.gt i.tk i.ob)
/-- o.m(..), o of one of two classes -/
def tMeth2 (C1 C2 : Addr) (m : Str) (sp1 sp2 : Sp) (E : XK) (ta : TE) (t : TA) : TE := fun σ H Q => ta σ H fun x H1 => ∃ a dx fs, x = .ref a ∧ fs.lookup m = none ∧
  ((H1 a = some (.ins C1 dx fs) ∧ t σ H1 fun vs H2 => sp1 (x :: (vs ++ [])) H2 Q E) ∨ (H1 a = some (.ins C2 dx fs) ∧ t σ H1 fun vs H2 => sp2 (x :: (vs ++ [])) H2 Q E))
section
variable {X : Cx} {CX : CXT} {k f1 f2 C1 C2 : Nat} {fd1 fd2 : FuncData} {ps1 ps2 : List Str} {sp1 sp2 : Sp} {E : XK} {m : Str} {pos apos : Pos} {e o : Expr} {es : List Expr} {ta : TE} {t : TA}
theorem pe_meth2 {pl : Sem Bool} (he : PE X o ta) (c1 : Cls X.K C1) (c2 : Cls X.K C2) (hm1 : Meth X.K C1 m f1) (hm2 : Meth X.K C2 m f2) (G1 : FnOk X.prog X.w X.K X.mg X.base CX k f1 fd1 ps1 sp1) (G2 : FnOk X.prog X.w X.K X.mg X.base CX k f2 fd2 ps2 sp2) (hr : Room k X.A)
    (hb1 : Binds X.K fd1 ps1 []) (hb2 : Binds X.K fd2 ps2 []) (hx : Passes CX X E) (ha : PA X (e :: es) t)
    (hst : starEach (e :: es) X.env = (false, eval e X.env) :: starEach es X.env := by rfl) (hpl : (backTo pos (starEach es X.env)).any (·.1) = false := by rfl)
    (ht : eval (.Call (.Attribute o m apos) (e :: es) [] pos) X.env = (do
      let ov ← eval o X.env
      standAt apos.atName
      let (f, first) ← holding [ov] (getMethod ov m pl)
      callWith pos f first (backTo pos (starEach (e :: es) X.env)) (backToKw pos (keywordEach [] X.env))) := by rfl) :
    PE X (.Call (.Attribute o m apos) (e :: es) [] pos) (tMeth2 C1 C2 m sp1 sp2 E ta t) := by
  refine ⟨fun pins s σ H Q I h => ?_⟩
  refine PySem.W.methodCall_KW (pl := pl) (thn (he.run pins s σ H _ I h) fun u s1 ⟨x, H1, I1, rx, a, dx, fs, ex, l, q⟩ => ?_) ht
  subst ex
  obtain rfl : u = Value.ref a := rx
  rcases q with ⟨ea, q⟩ | ⟨ea, q⟩
  · refine getmeth_ok I1 ea c1 hm1 l ?_
    refine PySem.W.callWith_K (first := [.ref a]) (h₀ := X.base) I.ok.mod.kin hm1.kp (thn (ha.run pos pins s1 σ H1 _ I1 q) fun us s2 ⟨vs, H2, I2, r, q2⟩ => ⟨I2.kIn, ?_⟩) hst hpl
    exact run_fn (us := .ref a :: us) (vs := .ref a :: vs) G1 hr hb1 .nil hx I2 (.cons rfl r) q2
  · refine getmeth_ok I1 ea c2 hm2 l ?_
    refine PySem.W.callWith_K (first := [.ref a]) (h₀ := X.base) I.ok.mod.kin hm2.kp (thn (ha.run pos pins s1 σ H1 _ I1 q) fun us s2 ⟨vs, H2, I2, r, q2⟩ => ⟨I2.kIn, ?_⟩) hst hpl
    exact run_fn (us := .ref a :: us) (vs := .ref a :: vs) G2 hr hb2 .nil hx I2 (.cons rfl r) q2
end
section
variable {K : PySem.W.Frag} {te : TE} {vs : List Nat} {σ : L2.St} {H1 : Hp} {D : Addr} {Qd : Hp → Prop}
theorem lc1_tup {a : Addr} {xs : List V} {k : Nat} (Pv : Nat → List V → Hp → Prop) (h0 : Pv 0 [] (upd H1 D (.lst [])))
    (hl : ∀ i acc H, Pv i acc H → SqT K H a xs) (hw : ∀ x, wipe ((wipe σ vs).set k (some x)) vs = wipe σ vs)
    (hs : ∀ i x acc H, xs[i]? = some x → acc.length = i → H D = some (.lst acc) → Pv i acc H → te ((wipe σ vs).set k (some x)) H (LcN D (Acc D (Pv (i + 1)) (i + 1))))
    (hd : ∀ acc H, acc.length = xs.length → H D = some (.lst acc) → Pv xs.length acc H → Qd H) : LcW (Itt K a) (gName k) te vs σ H1 D Qd := by
  refine lc_gen xs.length Pv h0 (fun i acc H hi p => ⟨xs, xs[i], hl i acc H p, by simp [hi]⟩) (fun acc H p => ⟨xs, hl _ acc H p, Nat.le_refl _⟩) ?_ hd
  intro i acc H x H' hi hlen hD p y
  obtain ⟨e, y⟩ := y
  subst e
  exact ⟨hw x, yes_of (hs i x acc _ (y xs (hl i acc _ p)) hlen hD p)⟩
end
/-- None, or a pair -/
def dataP : Option (Int × Int) → PyData
  | none => .none
  | some (i, j) => .tuple [.int i, .int j]
theorem eqv_P (a b : Option (Int × Int)) : PyData.eqv (dataP a) (dataP b) = decide (a = b) := by
  cases a with
  | none => cases b with
    | none => rfl
    | some q => rfl
  | some p => cases b with
    | none => rfl
    | some q =>
      obtain ⟨i, j⟩ := p
      obtain ⟨k, l⟩ := q
      simp only [dataP, PyData.eqv, PyData.eqvAll, Bool.and_true]
      by_cases h1 : i = k
      · by_cases h2 : j = l
        · simp [h1, h2]
        · simp [h2]
      · simp [h1]
theorem shaped_P (a : Option (Int × Int)) : SeqAt.shaped (dataP a) = true := by
  cases a with
  | none => rfl
  | some p => rfl
/-- what None, or a pair, is -/
inductive IsP (K : PySem.W.Frag) (H : Hp) : V → Option (Int × Int) → Prop
  | none : IsP K H .non none
  | some {a : Addr} {i j : Int} (h : SqT K H a [.int i, .int j]) : IsP K H (.ref a) (some (i, j))
theorem dp_P {K : PySem.W.Frag} {H : Hp} {x : V} {a : Option (Int × Int)} (h : IsP K H x a) : Dp K H x (dataP a) := by
  cases h with
  | none => exact .non
  | some h => exact .tup h (.cons (.int _) (.cons (.int _) .nil))
theorem eqP {K : PySem.W.Frag} {H : Hp} {x y : V} {Q : VK} {a b : Option (Int × Int)} (hx : IsP K H x a) (hy : IsP K H y b) (q : Q (.bl (decide (a = b))) H) : rEqD K x y H Q :=
  ⟨dataP a, dataP b, dp_P hx, dp_P hy, shaped_P a, shaped_P b, by rw [eqv_P]; exact q⟩
end Sh

/-! New objects: the heap with one more is given a name. -/
namespace Sh
open PySem PySem.Spec PyProof.Rows L2
theorem new_same {H H' : Hp} {c : Addr} {o : HO} (n : H c = none) (e : upd H c o = H') : Same H H' := e ▸ same_new n
theorem new_at {H H' : Hp} {c : Addr} {o : HO} (e : upd H c o = H') : H' c = some o := e ▸ upd_same
theorem tIf_any {b : Bool} {ta tb : TE} {σ : L2.St} {H : Hp} {Q : VK} (Pd : V → Hp → Prop) (ha : b = true → ∀ Q', (∀ v H', Pd v H' → Q' v H') → ta σ H Q') (hb : b = false → ∀ Q', (∀ v H', Pd v H' → Q' v H') → tb σ H Q')
    (h : ∀ v H', Pd v H' → Q v H') : if b = true then ta σ H Q else tb σ H Q := by
  cases b with
  | true => exact iteT (ha rfl Q h)
  | false => exact iteF (hb rfl Q h)
theorem pe_fldK {X : Cx} {K : PySem.W.Frag} {e : Expr} {f : Str} {pos : Pos} {ta : TE} (he : PE X e ta) (hb : attributeBase e f X.env (eval e X.env) = eval e X.env) (hK : X.K = K := by rfl) : PE X (.Attribute e f pos) (tFld K ta f) := hK ▸ pe_fld he hb
theorem ifS_any {b : Bool} {ta tb : TS} {D : Ends} {σ : L2.St} {H : Hp} (Pd : L2.St → Hp → Prop) (ha : b = true → ∀ D' : Ends, (∀ σ' H', Pd σ' H' → D'.nx σ' H') → ta D' σ H) (hb : b = false → ∀ D' : Ends, (∀ σ' H', Pd σ' H' → D'.nx σ' H') → tb D' σ H)
    (h : ∀ σ' H', Pd σ' H' → D.nx σ' H') : if b = true then ta D σ H else tb D σ H := by
  cases b with
  | true => exact iteT (ha rfl D h)
  | false => exact iteF (hb rfl D h)
end Sh

/-! list(range(i, j, c)). -/
namespace Sh
open PySem PySem.Spec PyProof.Rows L2
def rgS (i c : Int) (n : Nat) : List V := (List.range n).map fun k : Nat => V.int (i + (k : Int) * c)
theorem vals_rgS {i c : Int} {n : Nat} {acc : Array Value} (h : ItemsOf (fun k v => ∃ t, v = .int (i + k * c) t) acc n) : Vals (rgS i c n) acc.toList := by
  have e : acc.toList.length = n := by rw [Array.length_toList]; exact h.1
  unfold rgS
  rw [← e]
  refine vals_of_get acc.toList _ fun j u hj => ?_
  obtain ⟨t, rfl⟩ := h.2 j u (by rw [← hj, Array.getElem?_toList])
  exact ⟨t, rfl⟩
def tLstRg3 (ta : TA) : TE := fun σ H Q => ta σ H fun vs H1 => ∃ (i j c : Int) (n : Nat), vs = [.int i, .int j, .int c] ∧ RgC i j c n ∧ n ≤ 2 ^ 24 ∧ ∀ q, H1 q = none → Q (.ref q) (upd H1 q (.lst (rgS i c n)))
section
variable {X : Cx}
theorem pe_listRg3 {a b c : Expr} {ta : TA} {p pos p2 pos2 : Pos} (hc : X.calm = true) (hg : Gl X "list") (hm : X.mg "list" = none) (hg2 : Gl X "range") (hm2 : X.mg "range" = none) (ha : PA X [a, b, c] ta)
    (hs : starEach [a, b, c] X.env = (false, eval a X.env) :: starEach [b, c] X.env := by rfl) (hpl : (backTo pos2 (starEach [b, c] X.env)).any (·.1) = false := by rfl)
    (na : starEach [.Call (.Name "range" p2) [a, b, c] [] pos2] X.env = (false, eval (.Call (.Name "range" p2) [a, b, c] [] pos2) X.env) :: starEach [] X.env := by rfl) :
    PE X (.Call (.Name "list" p) [.Call (.Name "range" p2) [a, b, c] [] pos2] [] pos) (tLstRg3 ta) := by
  refine ⟨fun pins s σ H Q I h => ?_⟩
  have rng : wpAny (model X.prog X.w) X.A (eval (.Call (.Name "range" p2) [a, b, c] [] pos2) X.env) (fun x s' => ∃ (r : Addr) (i j k : Int) (n : Nat) (t u v : Tok) (H' : Hp), x = .ref r ∧ IsRange s'.heap r i j k t u v ∧ Inv X pins σ H' s' ∧ RgC i j k n ∧ n ≤ 2 ^ 24 ∧
      ∀ q, H' q = none → Q (.ref q) (upd H' q (.lst (rgS i k n)))) X.xe s := by
    refine Call_ (ld_blt I hg2 hm2 boot_range (PyProof.Rows.callWith_type1 (thn (ha.run pos2 pins s σ H _ I h) fun us s1 ⟨vs, H1, I1, r1, q1⟩ => ?_) hs hpl))
    obtain ⟨i, j, k, n, e, ⟨c0, c1, c2, c3⟩, hn, q⟩ := q1
    subst e
    cases r1 with
    | cons r rr =>
      cases rr with
      | cons r' rr =>
        cases rr with
        | cons r'' rr =>
          cases rr
          obtain ⟨t, rfl⟩ := r
          obtain ⟨t', rfl⟩ := r'
          obtain ⟨t'', rfl⟩ := r''
          refine call_range_3 c0 ?_ (.inl (PyProof.noPylong_small c1))
          exact ⟨_, i, j, k, n, t, t', t'', H1, rfl, IsRange.new .., I1.kept (t' := s1.toks) fun b o e => Heap.get?_push_of_some _ e, ⟨c0, c1, c2, c3⟩, hn, q⟩
  refine Call_ (ld_blt I hg hm boot_list (PyProof.Rows.callWith_type1 (args_cons (thn rng fun x s1 ⟨r, i, j, k, n, t, u, v, H1, ex, hr, I1, ok, hn, q⟩ => args_nil ?_) na) na))
  subst ex
  obtain ⟨c0, c1, c2, c3⟩ := ok
  refine call_list_range (n := n) (I1.ok.hd hc) hr c2 c3 hn fun h' tk acc c' hk e' hi => ?_
  refine ⟨.ref s1.heap.objs.size, upd H1 s1.heap.objs.size (.lst (rgS i k n)), I1.laid hk (Nat.le_refl _) (show ObjOk X.prog X.w _ _ _ (.lst (rgS i k n)) from ⟨?_, acc.toList, c', vals_rgS hi, ?_⟩), rfl, q _ (I1.hok.fresh (Nat.le_refl _))⟩
  · unfold rgS
    rw [List.length_map, List.length_range, sizeLine_eq]
    omega
  · rw [Array.toArray_toList]; exact e'
end
end Sh

/-! Errors: own classes, a def called with the error that is caught, isinstance of it there, a local name called that raises, both ways of a def. -/
namespace Sh
open PySem PySem.Spec PyProof.Rows L2
/-- an own class over ValueError -/
structure Own (K : PySem.W.Frag) (C : Addr) : Prop where
  exc : PySem.W.excIn K C [.type "ValueError", .type "Exception", .type "BaseException", .type "object"] "ValueError.__new__" = true
  kp : PySem.W.keepIn K (.ref C) = true
  be : PySem.W.subIn K (.ref C) (.type "BaseException") = some true
  ty : PySem.W.typeIn K (.ref C) = some (.type "type")
/-- a statement that lets nothing out -/
theorem ps_nox {X : Cx} {st : Stmt} {t : TS} (h : PS X.nox st t) : PS X st t := ⟨fun pins s σ H D I hw =>
  wpAny_mono (h.run pins s σ H D (I.wish _) hw) (fun _ _ q => q.unwish) fun _ _ z => False.elim z⟩
/-! ### both ways -/
theorem okX_of {P : Program} {w : World} {K : PySem.W.Frag} {mg : Str → Option Value} {base : Heap} {k : Nat} {f : Addr} {fd : FuncData} {ps : List Str} {sp : Sp} (F : FnOk P w K mg base CX0 k f fd ps sp) : FnOk P w K mg base (L2.CX P w) k f fd ps sp :=
  ⟨F.len, fun A outer s H args us vs Q E hr he hb hv hs => codeAny_mono (F.run A outer s H args us vs Q E hr he hb hv hs) fun r s' h => by
    cases r with
    | error e => exact (show False from h).elim
    | ok fl => cases fl <;> exact h⟩
theorem both {P : Program} {w : World} {K : PySem.W.Frag} {mg : Str → Option Value} {base : Heap} {k : Nat} {f : Addr} {fd : FuncData} {ps : List Str} {sp sp' : Sp} (F : FnOk P w K mg base CX0 k f fd ps sp) (G : FnOk P w K mg base (L2.CX P w) k f fd ps sp') :
    FnOk P w K mg base (L2.CX P w) k f fd ps (fun vs H Q E => sp vs H Q E ∨ sp' vs H Q E) :=
  ⟨fun vs H Q E h => h.elim (F.len vs H Q E) (G.len vs H Q E), fun A outer s H args us vs Q E hr he hb hv hs => hs.elim ((okX_of F).run A outer s H args us vs Q E hr he hb hv) (G.run A outer s H args us vs Q E hr he hb hv)⟩
/-! ### a local name that is called, and may raise -/
def tCallLS (i : Nat) (f : Addr) (sp : Sp) (E : L2.St → XK) (t : TA) : TE := fun σ H Q => σ[i]? = some (some (.ref f)) ∧ t σ H fun vs H1 => sp vs H1 Q (E σ)
section
variable {X : Cx} {CX : CXT} {k i : Nat} {f : Addr} {fd : FuncData} {ps : List Str} {sp : Sp} {E : L2.St → XK} {x : Str} {p pos : Pos} {e : Expr} {es : List Expr} {t : TA}
theorem pe_callLS (F : FnOk X.prog X.w X.K X.mg X.base CX k f fd ps sp) (hr : Room k X.A) (hN : X.N[i]? = some x) (hv : Vis X.env.scope x) (hk : PySem.W.keepIn X.K (.ref f) = true) (hb : Binds X.K fd ps []) (hx : ∀ σ, PassesAt CX X σ (E σ)) (ha : PA X (e :: es) t)
    (hdb : (x == ("__debug__" : Str)) = false := by decide) (hcd : (x == ("__classdict__" : Str)) = false := by decide)
    (he : starEach (e :: es) X.env = (false, eval e X.env) :: starEach es X.env := by rfl) (hpl : (backTo pos (starEach es X.env)).any (·.1) = false := by rfl) : PE X (.Call (.Name x p) (e :: es) [] pos) (tCallLS i f sp E t) := by
  refine ⟨fun pins s σ H Q I h => ?_⟩
  obtain ⟨hs, ht⟩ := h
  refine wpAny_Call_Name_kw (thn ((pe_var (pos := p) hN hv hdb hcd).run pins s σ H (fun v H1 => v = .ref f ∧ H1 = H) I ⟨.ref f, hs, rfl, rfl⟩) fun u s1 ⟨v, H1, I1, r1, q1⟩ => ?_)
  obtain ⟨rfl, rfl⟩ := q1
  cases r1
  refine PySem.W.callWith_K (h₀ := X.base) I.ok.mod.kin hk (thn (ha.run pos pins s1 σ _ _ I1 ht) fun us s2 ⟨vs, H2, I2, r, q⟩ => ⟨I2.kIn, ?_⟩) he hpl
  exact run_fnS F hr hb (hx σ) I2 r q
end
/-! ### a def called with the error that is caught -/
/-- of a class without fields of its own -/
def IsE (cls : Value) (p : Addr × Obj) : Prop := Zc cls none p.2 ∧ ∃ vs, p.2.data = .fields vs
structure FnE (P : Program) (w : World) (K : PySem.W.Frag) (mg : Str → Option Value) (base : Heap) (k : Nat) (f : Addr) (fd : FuncData) (ps : List Str) (sp : Addr → Value → Sp) : Prop where
  len : ∀ a cls vs H Q E, sp a cls vs H Q E → vs.length = ps.length
  run : ∀ (A : Around) (outer : List Env) (s : Shared) (H : Hp) (args : Args) (us : List Value) (vs : List V) (Q : VK) (E : XK) (p : Addr × Obj) (cls : Value), L2H.RoomH k A → IsE cls p → L2H.PinOk outer H s p → Env0 P w K mg base A outer s H → BindsTo s fd args (ps.zip us) → Vals vs us → sp p.1 cls vs H Q E →
    codeAny (model P w) A (.call (.ref f) args) (CR CX0 outer P w H s Q E) s
theorem fn_ofE {P : Program} {w : World} {K : PySem.W.Frag} {mg : Str → Option Value} {base : Heap} {k : Nat} {f : Addr} {name qual : Str} {params : Arguments} {body : List Stmt} {scope : Scope} {dV kV doc pm cdv ct oc : Value} {an od : Option Addr}
    {osl : Array (Option Value)} {N ps : List Str} {sp : Addr → Value → Sp} (lk : K.lookup f = some ⟨oc, od, .func (PySem.W.fnOf name qual params body scope dV kV doc pm an cdv ct), osl⟩) (hcd : PySem.W.codeIn K cdv qual = true) (S : FnScope N ps scope)
    (len : ∀ a cls vs H Q E, sp a cls vs H Q E → vs.length = ps.length)
    (hbody : ∀ (A : Around) (outer : List Env) (s : Shared) (H : Hp) (vs : List V) (Q : VK) (E : XK) (p : Addr × Obj) (cls : Value), IsE cls p → L2H.RoomH k (A.deeper (envOfC qual scope s.heap.objs.size f cdv)) → sp p.1 cls vs H Q E →
      ∃ t, PSs (L2H.cxH CX0 P w K mg base N qual scope f cdv A outer s H E p) body t ∧ t { nx := fun _ H' => Q .non H', rt := Q } (L2.start N vs) H) :
    FnE P w K mg base (k + 1) f (PySem.W.fnOf name qual params body scope dV kV doc pm an cdv ct) ps sp := by
  refine ⟨len, fun A outer s H args us vs Q E p cls hr hp hpin e0 hb r hsp => ?_⟩
  have hl := len _ _ _ _ _ _ hsp
  have KX : K.In s.heap := e0.mod.kin.keeps fun b o e => (e0.bs b o e).1
  have lim : s.heap.NoLimit := e0.mod.nolimit.keeps fun b o e => (e0.bs b o e).1
  have hkind : ∀ y ∈ ps.zip us, scope.names.lookup y.1 = some .local ∨ (scope.names.lookup y.1 = some .cell ∧ ((cellsFrom (s.heap.objs.size + 1) scope.names []).lookup y.1).isSome = true) := fun ⟨n, v⟩ hy => by
    rcases S.par n (List.of_mem_zip hy).1 with q | q
    · exact .inl q
    · exact .inr ⟨q, PySem.W.cellsFrom_some _ _ _ (.inl q)⟩
  refine codeAny_call_function hr.depth (KX _ _ lk) rfl S.co S.gen rfl (PySem.W.codeRec_of KX hcd) (hb _ _ _ _ ?_)
  refine wpAny_newFunctionEnv_cells S.kind hkind fun env he s1 x => ?_
  subst he
  refine ⟨lim.keeps x.toInCall.keep, codeAny_func ?_⟩
  obtain ⟨t, ht, hq⟩ := hbody A outer s H vs Q E p cls hp (hr.deeper _) hsp
  have I : Inv (L2H.cxH CX0 P w K mg base N qual scope f cdv A outer s H E p) [] (L2.start N vs) H s1 := L2H.inv_startH S hpin e0 hl r x
  refine wpAny_mono (ht.run [] s1 (L2.start N vs) H _ I hq) (fun fl s' hs => ?_) fun e s' hs => hs
  have fin : ∀ {σ' : L2.St} {H' : Hp} {v : V} {u : Value}, Inv (L2H.cxH CX0 P w K mg base N qual scope f cdv A outer s H E p) [] σ' H' s' → RelV v u → Q v H' → CE outer P w H s Q u s' :=
    fun {σ' H' v u} J rv q => ⟨v, H', J.os, J.bare, J.base, J.hok, rv, q⟩
  cases fl with
  | ret u =>
    obtain ⟨v, σ', H', J, rv, q⟩ := hs
    exact fin J rv q
  | next =>
    obtain ⟨σ', H', J, q⟩ := hs
    exact fin (v := V.non) (u := Value.none) J rfl q
  | brk =>
    obtain ⟨_, _, _, q⟩ := hs
    exact False.elim q
  | cont =>
    obtain ⟨_, _, _, q⟩ := hs
    exact False.elim q
/-- f(e, ..), a the error that is caught, of the class cls, its dict d -/
def tCallE (sp : Addr → Value → Sp) (a : Addr) (cls : Value) (d : Option Addr) (t : TA) : TE := fun σ H Q => t σ H fun vs H1 => d = none ∧ sp a cls vs H1 Q E0
section
variable {X : Cx} {k : Nat} {f a : Addr} {fd : FuncData} {ps : List Str} {sp : Addr → Value → Sp} {x : Str} {q pos : Pos} {e : Expr} {es : List Expr} {t : TA} {oe : Obj} {cls : Value} {d : Option Addr} {pn : List (Addr × Obj)}
theorem pe_callE (F : FnE X.prog X.w X.K X.mg X.base k f fd ps sp) (hr : L2H.RoomH k X.A) (hz : Zc cls d oe) (hf : ∃ vs, oe.data = .fields vs) (hp : (a, oe) ∈ X.pn) (hg : Gl X x) (hm : X.mg x = some (.ref f)) (hk : PySem.W.keepIn X.K (.ref f) = true) (hb : Binds X.K fd ps [])
    (ha : PA X (e :: es) t) (hdb : (x == ("__debug__" : Str)) = false := by decide) (he : starEach (e :: es) X.env = (false, eval e X.env) :: starEach es X.env := by rfl) (hpl : (backTo pos (starEach es X.env)).any (·.1) = false := by rfl) :
    PE X (.Call (.Name x q) (e :: es) [] pos) (tCallE sp a cls d t) := by
  refine ⟨fun pins s σ H Q I h => ?_⟩
  refine wpAny_Call_Name_kw (ld_glob I hg hm ?_ hdb)
  refine PySem.W.callWith_K (h₀ := X.base) I.ok.mod.kin hk (thn (ha.run pos pins s σ H _ I h) fun us s1 ⟨vs, H1, I1, r, hd, q⟩ => ⟨I1.kIn, ?_⟩) he hpl
  subst hd
  have hl : us.length = ps.length := by rw [← r.length]; exact F.len _ _ _ _ _ _ q
  have b := hb s1 us I1.kIn (by rw [List.append_nil]; exact hl)
  rw [List.append_nil] at b
  have P1 := I1.pin (a, oe) (List.mem_append_left _ hp)
  have hpin : L2H.PinOk X.stack H1 s1 (a, oe) := ⟨P1.1, P1.2.1, fun hm => (List.mem_cons.mp (I1.stkSub a hm)).elim P1.2.2.1 P1.2.2.2.1, P1.2.2.2.2⟩
  refine wpAny_call (codeAny_mono (F.run X.A X.stack s1 H1 ⟨us, []⟩ us vs Q E0 (a, oe) cls hr ⟨hz, hf⟩ hpin I1.env0 b r q) fun r s' hq => ?_)
  cases r with
  | error e => exact (show False from hq).elim
  | ok fl =>
    cases fl with
    | ret u => exact I1.after hq
    | next => exact False.elim hq
    | brk => exact False.elim hq
    | cont => exact False.elim hq
end
/-- isinstance(e, c), e the error of the context's pins -/
theorem call_isP {X : Cx} {D : Addr} {p : Addr × Obj} (C : ExcC X.K D) (hz : IsE (.ref D) p) (hp : p ∈ X.pn) : CallR X (.builtin "isinstance") (rIsE X.K D p.1) := by
  intro pins s σ H xs us Q I r h
  obtain ⟨c, cv, b, rfl, hcv, e, q⟩ := h
  cases r with
  | cons rx rr =>
    cases rr with
    | cons rt rr =>
      cases rr
      cases rx
      have ec := hcv _ rt
      subst ec
      obtain ⟨hget, _⟩ := I.pin p (List.mem_append.mpr (.inl hp))
      obtain ⟨hz, vs, hv⟩ := hz
      have J : PySem.W.InstAt s.heap p.1 p.2 D none := by
        obtain ⟨a, oe⟩ := p
        obtain ⟨oc, od, oda, osl⟩ := oe
        obtain ⟨h1, h2⟩ := hz
        dsimp only at h1 h2 hv
        subst h1 h2 hv
        exact ⟨hget, rfl, rfl, trivial⟩
      exact PySem.W.kia_one (PySem.W.handS_kitx_exc C.hg C.hk C.hs C.hd C.ha C.hn C.ht C.hm) I.kIn J e (fun z => nomatch z) fun tk => ⟨.bl b, H, I.kept (t' := tk) fun _ _ z => z, rfl, q⟩
/-! ### the kind of a thing, a dict too -/
def zTy2 (x : V) (H : Hp) : Option String := match x with
  | .ref p => (match H p with
    | some (.dK _) => some "dict"
    | _ => zTyV x H)
  | _ => zTyV x H
def kTyp2 (x : V) (H : Hp) (Q : VK) : Prop := ∃ n, zTy2 x H = some n ∧ Q (.ty n) H
section
variable {X : Cx} {a : Expr} {ta : TE}
theorem rl_type2 (pins : List (Addr × Obj)) (s : Shared) (σ : L2.St) (H : Hp) (x : V) (v : Value) (Q : VK) (I : Inv X pins σ H s) (r : RelV x v) (h : kTyp2 x H Q) :
    wpAny (model X.prog X.w) X.A (call (.type "type") [v]) (EP X pins σ Q) X.xe s := by
  obtain ⟨n, e, q⟩ := h
  have fin : EP X pins σ Q (.type n) s := ⟨.ty n, H, I, rfl, q⟩
  cases x with
  | ref p =>
    simp only [zTy2] at e
    split at e
    · rename_i kvs ho
      cases e
      cases (show v = Value.ref p from r)
      obtain ⟨_, _, vs, _, o, es, ep, h1, h2, _⟩ := (show ObjOk X.prog X.w H s.heap p (.dK kvs) from I.hok p _ ho)
      exact call_type_of (Tx := "dict") ⟨o, h1, h2.1⟩ (by decide +kernel) fin
    · exact rl_type pins s σ H (.ref p) v Q I r ⟨n, e, q⟩
  | _ => exact rl_type pins s σ H _ v Q I r ⟨n, e, q⟩
theorem pe_typeOf2 {p pos : Pos} (hg : Gl X "type") (hm : X.mg "type" = none) (ha : PE X a ta) (na : starEach [a] X.env = (false, eval a X.env) :: starEach [] X.env := by rfl) : PE X (.Call (.Name "type" p) [a] [] pos) (tThenZ ta kTyp2) :=
  ⟨fun pins s σ H Q I h => Call_ (ld_blt I hg hm boot_type (PyProof.Rows.callWith_type1 (one_arg ha I h (fun v s2 x H2 I2 r q => rl_type2 pins s2 σ H2 x v Q I2 r q) na) na))⟩
end
end Sh

namespace Sh
open PySem PySem.Spec PyProof.Rows L2
def stS (i : Nat) : Stmt := PySem.Challenge.pw_shadowrow_k05_refused.main.body.getD i (.Pass ⟨0, 0, 0, 0⟩)
abbrev s_is_number : Stmt := stS 3
theorem sc_is_number : FnScope ["thing"] ["thing"] (defScope s_is_number) := ⟨rfl, rfl, rfl, by decide +kernel, rfl, by decide +kernel, by decide +kernel⟩
abbrev s_is_size : Stmt := stS 4
theorem sc_is_size : FnScope ["thing", "least", "greatest"] ["thing", "least", "greatest"] (defScope s_is_size) := ⟨rfl, rfl, rfl, by decide +kernel, rfl, by decide +kernel, by decide +kernel⟩
abbrev s_is_list_of_numbers : Stmt := stS 5
theorem sc_is_list_of_numbers : FnScope ["thing", "each"] ["thing"] (defScope s_is_list_of_numbers) := ⟨rfl, rfl, rfl, by decide +kernel, rfl, by decide +kernel, by decide +kernel⟩
abbrev s_is_falling : Stmt := stS 6
theorem sc_is_falling : FnScope ["numbers", "ahead", "behind"] ["numbers"] (defScope s_is_falling) := ⟨rfl, rfl, rfl, by decide +kernel, rfl, by decide +kernel, by decide +kernel⟩
abbrev s_is_set : Stmt := stS 7
theorem sc_is_set : FnScope ["thing"] ["thing"] (defScope s_is_set) := ⟨rfl, rfl, rfl, by decide +kernel, rfl, by decide +kernel, by decide +kernel⟩
abbrev s_is_row : Stmt := stS 8
theorem sc_is_row : FnScope ["thing"] ["thing"] (defScope s_is_row) := ⟨rfl, rfl, rfl, by decide +kernel, rfl, by decide +kernel, by decide +kernel⟩
abbrev s_power : Stmt := stS 10
theorem sc_power : FnScope ["base", "degree", "worth", "_"] ["base", "degree"] (defScope s_power) := ⟨rfl, rfl, rfl, by decide +kernel, rfl, by decide +kernel, by decide +kernel⟩
abbrev s_guess_above : Stmt := stS 11
theorem sc_guess_above : FnScope ["number", "degree", "half"] ["number", "degree"] (defScope s_guess_above) := ⟨rfl, rfl, rfl, by decide +kernel, rfl, by decide +kernel, by decide +kernel⟩
abbrev s_whole_root : Stmt := stS 12
theorem sc_whole_root : FnScope ["number", "degree", "root", "step"] ["number", "degree"] (defScope s_whole_root) := ⟨rfl, rfl, rfl, by decide +kernel, rfl, by decide +kernel, by decide +kernel⟩
abbrev s_greatest_first : Stmt := stS 13
theorem sc_greatest_first : FnScope ["size", "number", "first"] ["size", "number"] (defScope s_greatest_first) := ⟨rfl, rfl, rfl, by decide +kernel, rfl, by decide +kernel, by decide +kernel⟩
abbrev s_numbers_of_set : Stmt := stS 14
theorem sc_numbers_of_set : FnScope ["size", "number", "numbers", "left", "first"] ["size", "number"] (defScope s_numbers_of_set) := ⟨rfl, rfl, rfl, by decide +kernel, rfl, by decide +kernel, by decide +kernel⟩
abbrev s_check_set : Stmt := stS 22
theorem sc_check_set : FnScope ["some"] ["some"] (defScope s_check_set) := ⟨rfl, rfl, rfl, by decide +kernel, rfl, by decide +kernel, by decide +kernel⟩
abbrev s_number_of : Stmt := stS 23
theorem sc_number_of : FnScope ["some", "number", "place", "each"] ["some"] (defScope s_number_of) := ⟨rfl, rfl, rfl, by decide +kernel, rfl, by decide +kernel, by decide +kernel⟩
abbrev s_set_of : Stmt := stS 24
theorem sc_set_of : FnScope ["size", "number"] ["size", "number"] (defScope s_set_of) := ⟨rfl, rfl, rfl, by decide +kernel, rfl, by decide +kernel, by decide +kernel⟩
abbrev s_beneath : Stmt := stS 25
theorem sc_beneath : FnScope ["some", "place"] ["some"] (defScope s_beneath) := ⟨rfl, rfl, rfl, by decide +kernel, rfl, by decide +kernel, by decide +kernel⟩
abbrev s_check_number : Stmt := stS 27
theorem sc_check_number : FnScope ["many"] ["many"] (defScope s_check_number) := ⟨rfl, rfl, rfl, by decide +kernel, rfl, by decide +kernel, by decide +kernel⟩
abbrev s_first_sets_at : Stmt := stS 28
theorem sc_first_sets_at : FnScope ["size", "many", "by", "total", "place", "each", "left"] ["size", "many", "by"] (defScope s_first_sets_at) := ⟨rfl, rfl, rfl, by decide +kernel, rfl, by decide +kernel, by decide +kernel⟩
abbrev s_under : Stmt := stS 29
theorem sc_under : FnScope ["size", "many"] ["size", "many"] (defScope s_under) := ⟨rfl, rfl, rfl, by decide +kernel, rfl, by decide +kernel, by decide +kernel⟩
abbrev s_over : Stmt := stS 30
theorem sc_over : FnScope ["size", "many"] ["size", "many"] (defScope s_over) := ⟨rfl, rfl, rfl, by decide +kernel, rfl, by decide +kernel, by decide +kernel⟩
abbrev s_first_excess : Stmt := stS 32
theorem sc_first_excess : FnScope ["row", "size", "can_be"] ["row"] (defScope s_first_excess) := ⟨rfl, rfl, rfl, by decide +kernel, rfl, by decide +kernel, by decide +kernel⟩
abbrev s_Can_shows : Stmt := inClass (stS 35) 0
theorem sc_Can_shows : FnScope ["self", "row"] ["self", "row"] (defScope s_Can_shows) := ⟨rfl, rfl, rfl, by decide +kernel, rfl, by decide +kernel, by decide +kernel⟩
abbrev s_Barred___init__ : Stmt := inClass (stS 36) 0
theorem sc_Barred___init__ : FnScope ["self", "size", "most"] ["self", "size", "most"] (defScope s_Barred___init__) := ⟨rfl, rfl, rfl, by decide +kernel, rfl, by decide +kernel, by decide +kernel⟩
abbrev s_Barred_shows : Stmt := inClass (stS 36) 1
theorem sc_Barred_shows : FnScope ["self", "row", "fields", "each"] ["self", "row"] (defScope s_Barred_shows) := ⟨rfl, rfl, rfl, by decide +kernel, rfl, by decide +kernel, by decide +kernel⟩
abbrev s_check_row : Stmt := stS 38
theorem sc_check_row : FnScope ["row"] ["row"] (defScope s_check_row) := ⟨rfl, rfl, rfl, by decide +kernel, rfl, by decide +kernel, by decide +kernel⟩
abbrev s_check_family : Stmt := stS 39
theorem sc_check_family : FnScope ["row"] ["row"] (defScope s_check_family) := ⟨rfl, rfl, rfl, by decide +kernel, rfl, by decide +kernel, by decide +kernel⟩
abbrev s_told : Stmt := stS 40
theorem sc_told : FnScope ["row", "excess", "size", "can_be"] ["row"] (defScope s_told) := ⟨rfl, rfl, rfl, by decide +kernel, rfl, by decide +kernel, by decide +kernel⟩
abbrev s_has : Stmt := stS 41
theorem sc_has : FnScope ["row", "some", "number"] ["row", "some"] (defScope s_has) := ⟨rfl, rfl, rfl, by decide +kernel, rfl, by decide +kernel, by decide +kernel⟩
abbrev s_most : Stmt := stS 42
theorem sc_most : FnScope ["row"] ["row"] (defScope s_most) := ⟨rfl, rfl, rfl, by decide +kernel, rfl, by decide +kernel, by decide +kernel⟩
abbrev s__law_cell_at : Stmt := stS 44
theorem sc__law_cell_at : FnScope ["_law_script", "_law_k"] ["_law_script", "_law_k"] (defScope s__law_cell_at) := ⟨rfl, rfl, rfl, by decide +kernel, rfl, by decide +kernel, by decide +kernel⟩
abbrev s__law_kinds : Stmt := stS 45
theorem sc__law_kinds : FnScope ["_law_error", "_law_found"] ["_law_error"] (defScope s__law_kinds) := ⟨rfl, rfl, rfl, by decide +kernel, rfl, by decide +kernel, by decide +kernel⟩
abbrev s__law_with_set : Stmt := stS 46
theorem sc__law_with_set : FnScope ["_law_door", "_law_some"] ["_law_door", "_law_some"] (defScope s__law_with_set) := ⟨rfl, rfl, rfl, by decide +kernel, rfl, by decide +kernel, by decide +kernel⟩
abbrev s__law_with_size : Stmt := stS 47
theorem sc__law_with_size : FnScope ["_law_door", "_law_size"] ["_law_door", "_law_size"] (defScope s__law_with_size) := ⟨rfl, rfl, rfl, by decide +kernel, rfl, by decide +kernel, by decide +kernel⟩
abbrev s__law_with_number : Stmt := stS 48
theorem sc__law_with_number : FnScope ["_law_door", "_law_number"] ["_law_door", "_law_number"] (defScope s__law_with_number) := ⟨rfl, rfl, rfl, by decide +kernel, rfl, by decide +kernel, by decide +kernel⟩
abbrev s__law_with_row : Stmt := stS 49
theorem sc__law_with_row : FnScope ["_law_door", "_law_row"] ["_law_door", "_law_row"] (defScope s__law_with_row) := ⟨rfl, rfl, rfl, by decide +kernel, rfl, by decide +kernel, by decide +kernel⟩
abbrev s__law_next : Stmt := stS 50
theorem sc__law_next : FnScope ["_law_door", "_law_row"] ["_law_door", "_law_row"] (defScope s__law_next) := ⟨rfl, rfl, rfl, by decide +kernel, rfl, by decide +kernel, by decide +kernel⟩
abbrev s__law_of_none : Stmt := stS 51
theorem sc__law_of_none : FnScope ["_law_door", "_law_number"] ["_law_door", "_law_number"] (defScope s__law_of_none) := ⟨rfl, rfl, rfl, by decide +kernel, rfl, by decide +kernel, by decide +kernel⟩
abbrev s__law_told : Stmt := stS 52
theorem sc__law_told : FnScope ["_law_ask", "_law_door", "_law_thing", "_law_error"] ["_law_ask", "_law_door", "_law_thing"] (defScope s__law_told) := ⟨rfl, rfl, rfl, by decide +kernel, rfl, by decide +kernel, by decide +kernel⟩
abbrev s__law_all : Stmt := stS 53
theorem sc__law_all : FnScope ["_law_ask", "_law_doors", "_law_things", "_law_due", "_law_door", "_law_thing"] ["_law_ask", "_law_doors", "_law_things", "_law_due"] (defScope s__law_all) := ⟨rfl, rfl, rfl, by decide +kernel, rfl, by decide +kernel, by decide +kernel⟩
abbrev s_law : Stmt := stS 54
theorem sc_law : FnScope ["_law_script", "_law_far", "_law_due", "_law_k", "_law_bad", "_law_strange", "_law_rows", "_law_barred"] ["_law_script"] (defScope s_law) := ⟨rfl, rfl, rfl, by decide +kernel, rfl, by decide +kernel, by decide +kernel⟩
/-- what the top has written -/
structure Txt (K : PySem.W.Frag) (mg : Str → Option Value) where
  f_is_number : Addr
  d_is_number : FuncData
  F_is_number : Fun K "is_number" "is_number" s_is_number f_is_number d_is_number
  g_is_number : mg "is_number" = some (.ref f_is_number)
  b_is_number : Binds K d_is_number ["thing"] []
  f_is_size : Addr
  d_is_size : FuncData
  F_is_size : Fun K "is_size" "is_size" s_is_size f_is_size d_is_size
  g_is_size : mg "is_size" = some (.ref f_is_size)
  b_is_size : Binds K d_is_size ["thing", "least", "greatest"] []
  f_is_list_of_numbers : Addr
  d_is_list_of_numbers : FuncData
  F_is_list_of_numbers : Fun K "is_list_of_numbers" "is_list_of_numbers" s_is_list_of_numbers f_is_list_of_numbers d_is_list_of_numbers
  g_is_list_of_numbers : mg "is_list_of_numbers" = some (.ref f_is_list_of_numbers)
  b_is_list_of_numbers : Binds K d_is_list_of_numbers ["thing"] []
  f_is_falling : Addr
  d_is_falling : FuncData
  F_is_falling : Fun K "is_falling" "is_falling" s_is_falling f_is_falling d_is_falling
  g_is_falling : mg "is_falling" = some (.ref f_is_falling)
  b_is_falling : Binds K d_is_falling ["numbers"] []
  f_is_set : Addr
  d_is_set : FuncData
  F_is_set : Fun K "is_set" "is_set" s_is_set f_is_set d_is_set
  g_is_set : mg "is_set" = some (.ref f_is_set)
  b_is_set : Binds K d_is_set ["thing"] []
  f_is_row : Addr
  d_is_row : FuncData
  F_is_row : Fun K "is_row" "is_row" s_is_row f_is_row d_is_row
  g_is_row : mg "is_row" = some (.ref f_is_row)
  b_is_row : Binds K d_is_row ["thing"] []
  f_power : Addr
  d_power : FuncData
  F_power : Fun K "power" "power" s_power f_power d_power
  g_power : mg "power" = some (.ref f_power)
  b_power : Binds K d_power ["base", "degree"] []
  f_guess_above : Addr
  d_guess_above : FuncData
  F_guess_above : Fun K "guess_above" "guess_above" s_guess_above f_guess_above d_guess_above
  g_guess_above : mg "guess_above" = some (.ref f_guess_above)
  b_guess_above : Binds K d_guess_above ["number", "degree"] []
  f_whole_root : Addr
  d_whole_root : FuncData
  F_whole_root : Fun K "whole_root" "whole_root" s_whole_root f_whole_root d_whole_root
  g_whole_root : mg "whole_root" = some (.ref f_whole_root)
  b_whole_root : Binds K d_whole_root ["number", "degree"] []
  f_greatest_first : Addr
  d_greatest_first : FuncData
  F_greatest_first : Fun K "greatest_first" "greatest_first" s_greatest_first f_greatest_first d_greatest_first
  g_greatest_first : mg "greatest_first" = some (.ref f_greatest_first)
  b_greatest_first : Binds K d_greatest_first ["size", "number"] []
  f_numbers_of_set : Addr
  d_numbers_of_set : FuncData
  F_numbers_of_set : Fun K "numbers_of_set" "numbers_of_set" s_numbers_of_set f_numbers_of_set d_numbers_of_set
  g_numbers_of_set : mg "numbers_of_set" = some (.ref f_numbers_of_set)
  b_numbers_of_set : Binds K d_numbers_of_set ["size", "number"] []
  f_check_set : Addr
  d_check_set : FuncData
  F_check_set : Fun K "check_set" "check_set" s_check_set f_check_set d_check_set
  g_check_set : mg "check_set" = some (.ref f_check_set)
  b_check_set : Binds K d_check_set ["some"] []
  f_number_of : Addr
  d_number_of : FuncData
  F_number_of : Fun K "number_of" "number_of" s_number_of f_number_of d_number_of
  g_number_of : mg "number_of" = some (.ref f_number_of)
  b_number_of : Binds K d_number_of ["some"] []
  f_set_of : Addr
  d_set_of : FuncData
  F_set_of : Fun K "set_of" "set_of" s_set_of f_set_of d_set_of
  g_set_of : mg "set_of" = some (.ref f_set_of)
  b_set_of : Binds K d_set_of ["size", "number"] []
  f_beneath : Addr
  d_beneath : FuncData
  F_beneath : Fun K "beneath" "beneath" s_beneath f_beneath d_beneath
  g_beneath : mg "beneath" = some (.ref f_beneath)
  b_beneath : Binds K d_beneath ["some"] []
  f_check_number : Addr
  d_check_number : FuncData
  F_check_number : Fun K "check_number" "check_number" s_check_number f_check_number d_check_number
  g_check_number : mg "check_number" = some (.ref f_check_number)
  b_check_number : Binds K d_check_number ["many"] []
  f_first_sets_at : Addr
  d_first_sets_at : FuncData
  F_first_sets_at : Fun K "first_sets_at" "first_sets_at" s_first_sets_at f_first_sets_at d_first_sets_at
  g_first_sets_at : mg "first_sets_at" = some (.ref f_first_sets_at)
  b_first_sets_at : Binds K d_first_sets_at ["size", "many", "by"] []
  f_under : Addr
  d_under : FuncData
  F_under : Fun K "under" "under" s_under f_under d_under
  g_under : mg "under" = some (.ref f_under)
  b_under : Binds K d_under ["size", "many"] []
  f_over : Addr
  d_over : FuncData
  F_over : Fun K "over" "over" s_over f_over d_over
  g_over : mg "over" = some (.ref f_over)
  b_over : Binds K d_over ["size", "many"] []
  f_first_excess : Addr
  d_first_excess : FuncData
  F_first_excess : Fun K "first_excess" "first_excess" s_first_excess f_first_excess d_first_excess
  g_first_excess : mg "first_excess" = some (.ref f_first_excess)
  b_first_excess : Binds K d_first_excess ["row"] []
  f_Can_shows : Addr
  d_Can_shows : FuncData
  F_Can_shows : Fun K "shows" "Can.shows" s_Can_shows f_Can_shows d_Can_shows
  b_Can_shows : Binds K d_Can_shows ["self", "row"] []
  f_Barred___init__ : Addr
  d_Barred___init__ : FuncData
  F_Barred___init__ : Fun K "__init__" "Barred.__init__" s_Barred___init__ f_Barred___init__ d_Barred___init__
  b_Barred___init__ : Binds K d_Barred___init__ ["self", "size", "most"] []
  f_Barred_shows : Addr
  d_Barred_shows : FuncData
  F_Barred_shows : Fun K "shows" "Barred.shows" s_Barred_shows f_Barred_shows d_Barred_shows
  b_Barred_shows : Binds K d_Barred_shows ["self", "row"] []
  f_check_row : Addr
  d_check_row : FuncData
  F_check_row : Fun K "check_row" "check_row" s_check_row f_check_row d_check_row
  g_check_row : mg "check_row" = some (.ref f_check_row)
  b_check_row : Binds K d_check_row ["row"] []
  f_check_family : Addr
  d_check_family : FuncData
  F_check_family : Fun K "check_family" "check_family" s_check_family f_check_family d_check_family
  g_check_family : mg "check_family" = some (.ref f_check_family)
  b_check_family : Binds K d_check_family ["row"] []
  f_told : Addr
  d_told : FuncData
  F_told : Fun K "told" "told" s_told f_told d_told
  g_told : mg "told" = some (.ref f_told)
  b_told : Binds K d_told ["row"] []
  f_has : Addr
  d_has : FuncData
  F_has : Fun K "has" "has" s_has f_has d_has
  g_has : mg "has" = some (.ref f_has)
  b_has : Binds K d_has ["row", "some"] []
  f_most : Addr
  d_most : FuncData
  F_most : Fun K "most" "most" s_most f_most d_most
  g_most : mg "most" = some (.ref f_most)
  b_most : Binds K d_most ["row"] []
  f__law_cell_at : Addr
  d__law_cell_at : FuncData
  F__law_cell_at : Fun K "_law_cell_at" "_law_cell_at" s__law_cell_at f__law_cell_at d__law_cell_at
  g__law_cell_at : mg "_law_cell_at" = some (.ref f__law_cell_at)
  b__law_cell_at : Binds K d__law_cell_at ["_law_script", "_law_k"] []
  f__law_kinds : Addr
  d__law_kinds : FuncData
  F__law_kinds : Fun K "_law_kinds" "_law_kinds" s__law_kinds f__law_kinds d__law_kinds
  g__law_kinds : mg "_law_kinds" = some (.ref f__law_kinds)
  b__law_kinds : Binds K d__law_kinds ["_law_error"] []
  f__law_with_set : Addr
  d__law_with_set : FuncData
  F__law_with_set : Fun K "_law_with_set" "_law_with_set" s__law_with_set f__law_with_set d__law_with_set
  g__law_with_set : mg "_law_with_set" = some (.ref f__law_with_set)
  b__law_with_set : Binds K d__law_with_set ["_law_door", "_law_some"] []
  f__law_with_size : Addr
  d__law_with_size : FuncData
  F__law_with_size : Fun K "_law_with_size" "_law_with_size" s__law_with_size f__law_with_size d__law_with_size
  g__law_with_size : mg "_law_with_size" = some (.ref f__law_with_size)
  b__law_with_size : Binds K d__law_with_size ["_law_door", "_law_size"] []
  f__law_with_number : Addr
  d__law_with_number : FuncData
  F__law_with_number : Fun K "_law_with_number" "_law_with_number" s__law_with_number f__law_with_number d__law_with_number
  g__law_with_number : mg "_law_with_number" = some (.ref f__law_with_number)
  b__law_with_number : Binds K d__law_with_number ["_law_door", "_law_number"] []
  f__law_with_row : Addr
  d__law_with_row : FuncData
  F__law_with_row : Fun K "_law_with_row" "_law_with_row" s__law_with_row f__law_with_row d__law_with_row
  g__law_with_row : mg "_law_with_row" = some (.ref f__law_with_row)
  b__law_with_row : Binds K d__law_with_row ["_law_door", "_law_row"] []
  f__law_next : Addr
  d__law_next : FuncData
  F__law_next : Fun K "_law_next" "_law_next" s__law_next f__law_next d__law_next
  g__law_next : mg "_law_next" = some (.ref f__law_next)
  b__law_next : Binds K d__law_next ["_law_door", "_law_row"] []
  f__law_of_none : Addr
  d__law_of_none : FuncData
  F__law_of_none : Fun K "_law_of_none" "_law_of_none" s__law_of_none f__law_of_none d__law_of_none
  g__law_of_none : mg "_law_of_none" = some (.ref f__law_of_none)
  b__law_of_none : Binds K d__law_of_none ["_law_door", "_law_number"] []
  f__law_told : Addr
  d__law_told : FuncData
  F__law_told : Fun K "_law_told" "_law_told" s__law_told f__law_told d__law_told
  g__law_told : mg "_law_told" = some (.ref f__law_told)
  b__law_told : Binds K d__law_told ["_law_ask", "_law_door", "_law_thing"] []
  f__law_all : Addr
  d__law_all : FuncData
  F__law_all : Fun K "_law_all" "_law_all" s__law_all f__law_all d__law_all
  g__law_all : mg "_law_all" = some (.ref f__law_all)
  b__law_all : Binds K d__law_all ["_law_ask", "_law_doors", "_law_things", "_law_due"] []
  f_law : Addr
  d_law : FuncData
  F_law : Fun K "law" "law" s_law f_law d_law
  g_law : mg "law" = some (.ref f_law)
  b_law : Binds K d_law ["_law_script"] []
  z_ValueError : mg "ValueError" = none
  z_abs : mg "abs" = none
  z_all : mg "all" = none
  c_GREATEST_SIZE : Σ' t : Tok, mg "GREATEST_SIZE" = some (.int 20 t)
  z_enumerate : mg "enumerate" = none
  z_int : mg "int" = none
  z_isinstance : mg "isinstance" = none
  z_len : mg "len" = none
  z_list : mg "list" = none
  m_comb : mg "comb" = some (.builtin "math.comb")
  m_factorial : mg "factorial" = some (.builtin "math.factorial")
  z_range : mg "range" = none
  z_type : mg "type" = none
  z_zip : mg "zip" = none
  k_SetsError : Addr
  k_BadSet : Addr
  k_BadSize : Addr
  k_BadNumber : Addr
  k_BadRow : Addr
  k_Can : Addr
  k_Barred : Addr
  g_SetsError : mg "SetsError" = some (.ref k_SetsError)
  g_BadSet : mg "BadSet" = some (.ref k_BadSet)
  X_BadSet : Own K k_BadSet
  Y_BadSet : ExcC K k_BadSet
  s_BadSet_BadSet : PySem.W.kitOne K (.ref k_BadSet) (.ref k_BadSet) = some true
  s_BadSet_BadSize : PySem.W.kitOne K (.ref k_BadSet) (.ref k_BadSize) = some false
  s_BadSet_BadNumber : PySem.W.kitOne K (.ref k_BadSet) (.ref k_BadNumber) = some false
  s_BadSet_BadRow : PySem.W.kitOne K (.ref k_BadSet) (.ref k_BadRow) = some false
  t_BadSet_ValueError : PySem.W.kitOne K (.ref k_BadSet) (.type "ValueError") = some true
  e_BadSet_SetsError : PySem.W.exmOne K (.ref k_BadSet) (.ref k_SetsError) = some true
  g_BadSize : mg "BadSize" = some (.ref k_BadSize)
  X_BadSize : Own K k_BadSize
  Y_BadSize : ExcC K k_BadSize
  s_BadSize_BadSet : PySem.W.kitOne K (.ref k_BadSize) (.ref k_BadSet) = some false
  s_BadSize_BadSize : PySem.W.kitOne K (.ref k_BadSize) (.ref k_BadSize) = some true
  s_BadSize_BadNumber : PySem.W.kitOne K (.ref k_BadSize) (.ref k_BadNumber) = some false
  s_BadSize_BadRow : PySem.W.kitOne K (.ref k_BadSize) (.ref k_BadRow) = some false
  t_BadSize_ValueError : PySem.W.kitOne K (.ref k_BadSize) (.type "ValueError") = some true
  e_BadSize_SetsError : PySem.W.exmOne K (.ref k_BadSize) (.ref k_SetsError) = some true
  g_BadNumber : mg "BadNumber" = some (.ref k_BadNumber)
  X_BadNumber : Own K k_BadNumber
  Y_BadNumber : ExcC K k_BadNumber
  s_BadNumber_BadSet : PySem.W.kitOne K (.ref k_BadNumber) (.ref k_BadSet) = some false
  s_BadNumber_BadSize : PySem.W.kitOne K (.ref k_BadNumber) (.ref k_BadSize) = some false
  s_BadNumber_BadNumber : PySem.W.kitOne K (.ref k_BadNumber) (.ref k_BadNumber) = some true
  s_BadNumber_BadRow : PySem.W.kitOne K (.ref k_BadNumber) (.ref k_BadRow) = some false
  t_BadNumber_ValueError : PySem.W.kitOne K (.ref k_BadNumber) (.type "ValueError") = some true
  e_BadNumber_SetsError : PySem.W.exmOne K (.ref k_BadNumber) (.ref k_SetsError) = some true
  g_BadRow : mg "BadRow" = some (.ref k_BadRow)
  X_BadRow : Own K k_BadRow
  Y_BadRow : ExcC K k_BadRow
  s_BadRow_BadSet : PySem.W.kitOne K (.ref k_BadRow) (.ref k_BadSet) = some false
  s_BadRow_BadSize : PySem.W.kitOne K (.ref k_BadRow) (.ref k_BadSize) = some false
  s_BadRow_BadNumber : PySem.W.kitOne K (.ref k_BadRow) (.ref k_BadNumber) = some false
  s_BadRow_BadRow : PySem.W.kitOne K (.ref k_BadRow) (.ref k_BadRow) = some true
  t_BadRow_ValueError : PySem.W.kitOne K (.ref k_BadRow) (.type "ValueError") = some true
  e_BadRow_SetsError : PySem.W.exmOne K (.ref k_BadRow) (.ref k_SetsError) = some true
  g_Can : mg "Can" = some (.ref k_Can)
  C_Can : Cls K k_Can
  M_Can : Mk0 K k_Can
  m_Can_shows : Meth K k_Can "shows" f_Can_shows
  g_Barred : mg "Barred" = some (.ref k_Barred)
  C_Barred : Cls K k_Barred
  M_Barred : Mk K k_Barred f_Barred___init__
  m_Barred_shows : Meth K k_Barred "shows" f_Barred_shows
  n_Barred_size : NoAttr K k_Barred "size"
  n_Barred_most : NoAttr K k_Barred "most"
end Sh

/-! Powers, roots, the first number of a set. -/
namespace Sh
open PySem PySem.Spec PyProof.Rows L2
section
variable {P : Program} {w : World} {K : PySem.W.Frag} {mg : Str → Option Value} {base : Heap}
/-- a power, of a base and a degree that are not too great -/
def spPower : Sp := fun vs H Q _ => ∃ x d b : Nat, vs = [.int (x : Int), .int (d : Int)] ∧ x < 2 ^ b ∧ d ≤ 20 ∧ b ≤ 100000 ∧ Q (.int ((x ^ d : Nat) : Int)) H
noncomputable def dv_power {P : Program} {w : World} {K : PySem.W.Frag} {mg : Str → Option Value} {base : Heap} (T : Txt K mg)  {cdv : Value} {A : Around} {outer : List Env} {s : Shared} {H : Hp} {E : XK}
    (hr : Room 0 (A.deeper (envOfC "power" (defScope s_power) s.heap.objs.size T.f_power cdv))) :
    Σ' t : TS, PSs (cxOf CX0 P w K mg base ["base", "degree", "worth", "_"] "power" (defScope s_power) T.f_power cdv A outer s H E).nox (defBody s_power) t :=
  ⟨_, (pss_cons (ps_set (i := 2) sc_power.nd rfl (.inl rfl) pe_int)
      (pss_cons (ps_for PassesOwn.never rfl (pi_range1 (by rfl) T.z_range (pa_cons (pv 1) pa_nil)) (pg_name (i := 3) sc_power.nd rfl (.inl rfl)) (pss_one (ps_set (i := 2) sc_power.nd rfl (.inl rfl) (pe_op op_nMul (pv 2) (pv 0)))))
      (pss_one (ps_ret (pv 2)))))⟩
theorem pow_lt {x b : Nat} (h : x < 2 ^ b) (i : Nat) : x ^ i < 2 ^ (b * i + 1) := by
  rw [Nat.pow_succ, Nat.pow_mul]
  have := Nat.pow_le_pow_left (Nat.le_of_lt h) i
  have := Nat.pow_pos (n := i) (Nat.two_pow_pos b)
  omega
theorem ok_power (T : Txt K mg) : FnOk P w K mg base CX0 1 T.f_power T.d_power ["base", "degree"] spPower := by
  refine T.F_power.ok sc_power (fun vs H Q E h => ?_) (fun cdv A outer s H vs Q E hr h => ⟨_, (dv_power T hr).2, ?_⟩)
  · obtain ⟨x, d, b, rfl, _⟩ := h
    rfl
  · obtain ⟨x, d, b, rfl, hx, hd, hb, q⟩ := h
    refine ⟨_, rfl, d, rfl, by omega, by omega, ?_⟩
    refine for_rangeN (n := d) rfl (fun i σ H' => H' = H ∧ ∃ y, σ = [some (.int (x : Int)), some (.int (d : Int)), some (.int ((x ^ i : Nat) : Int)), y]) ⟨rfl, none, rfl⟩ ?_ ?_
    · rintro i σ H' hi ⟨rfl, y, rfl⟩
      have h20 : b * i ≤ b * 20 := Nat.mul_le_mul_left b (by omega)
      exact ⟨_, rfl, _, rfl, _, _, rfl, rfl, ⟨b * i + 1, b, pow_lt hx i, hx, by omega⟩, rfl, some (.int (i : Nat)), rfl⟩
    · rintro σ H' ⟨rfl, y, rfl⟩
      exact ⟨_, rfl, q⟩
end
end Sh

/-! Roots. -/
namespace Sh
open PySem PySem.Spec PyProof.Rows L2
/-- so many bits are served by n calls -/
def fuel (d : Nat) : Nat → Nat
  | 0 => 0
  | 1 => 2 * d - 1
  | n + 2 => d * (2 ^ n + 2) - 1
theorem fuel_next {d n b : Nat} (hd : 1 ≤ d) (h : b ≤ fuel d (n + 1)) (hh : b / (2 * d) ≠ 0) : 1 ≤ n ∧ b - d * (b / (2 * d)) ≤ fuel d n := by
  have h2 : 0 < 2 * d := by omega
  have hb : 2 * d ≤ b := by
    refine Nat.le_of_not_lt fun q => hh (Nat.div_eq_of_lt q)
  have hm := Nat.div_add_mod b (2 * d)
  have hl := Nat.mod_lt b h2
  generalize b / (2 * d) = k at *
  generalize b % (2 * d) = r at *
  have e : 2 * d * k = d * k + d * k := by rw [Nat.mul_assoc, Nat.two_mul]
  cases n with
  | zero =>
    have h : b ≤ 2 * d - 1 := h
    omega
  | succ n =>
    refine ⟨by omega, ?_⟩
    cases n with
    | zero =>
      have h : b ≤ d * (2 ^ 0 + 2) - 1 := h
      show b - d * k ≤ 2 * d - 1
      have hk : 1 ≤ k := by omega
      have := Nat.mul_le_mul_left d hk
      rw [Nat.pow_zero] at h
      omega
    | succ n =>
      have h : b ≤ d * (2 ^ (n + 1) + 2) - 1 := h
      show b - d * k ≤ d * (2 ^ n + 2) - 1
      rw [Nat.pow_succ] at h
      rw [Nat.mul_add] at h ⊢
      rw [← Nat.mul_assoc] at h
      omega
/-- the guess is not below the root -/
theorem guess_one {n d b : Nat} (hd : 1 ≤ d) (hb : n < 2 ^ b) : n < (2 ^ (b / d + 1) + 1) ^ d := by
  have h1 : b ≤ (b / d + 1) * d := by
    have := Nat.div_add_mod b d
    have := Nat.mod_lt b (show 0 < d by omega)
    rw [Nat.add_mul, Nat.mul_comm]
    omega
  have h2 : 2 ^ b ≤ (2 ^ (b / d + 1)) ^ d := by
    rw [← Nat.pow_mul]
    exact Nat.pow_le_pow_right (by omega) h1
  exact Nat.lt_of_lt_of_le hb (Nat.le_trans h2 (Nat.pow_le_pow_left (Nat.le_succ _) d))
theorem guess_more {n d k r : Nat} (h : IsRoot (n / 2 ^ (k * d)) d r) : n < ((r + 1) * 2 ^ k + 1) ^ d := by
  have h1 := h.2
  rw [Nat.div_lt_iff_lt_mul (Nat.two_pow_pos _)] at h1
  refine Nat.lt_of_lt_of_le h1 ?_
  rw [Nat.pow_mul, ← Nat.mul_pow]
  exact Nat.pow_le_pow_left (Nat.le_succ _) d
section
variable {P : Program} {w : World} {K : PySem.W.Frag} {mg : Str → Option Value} {base : Heap}
/-- the whole root of a number of at most b bits, which n calls serve -/
def spRoot (n : Nat) : Sp := fun vs H Q _ => ∃ N d b : Nat, vs = [.int (N : Int), .int (d : Int)] ∧ 1 ≤ n ∧ 1 ≤ d ∧ d ≤ 20 ∧ N < 2 ^ b ∧ b ≤ 13000 ∧ b ≤ fuel d n ∧
  ∀ r : Nat, IsRoot N d r → Q (.int (r : Int)) H
def spGuess (n : Nat) : Sp := fun vs H Q _ => ∃ N d b : Nat, vs = [.int (N : Int), .int (d : Int)] ∧ 1 ≤ n ∧ 1 ≤ d ∧ d ≤ 20 ∧ 0 < N ∧ N < 2 ^ b ∧ b ≤ 13000 ∧ b ≤ fuel d n ∧
  ∀ g c : Nat, 0 < g → N < (g + 1) ^ d → g < 2 ^ c → c ≤ 30000 → Q (.int (g : Int)) H
noncomputable def dv_guess_above {P : Program} {w : World} {K : PySem.W.Frag} {mg : Str → Option Value} {base : Heap} (T : Txt K mg) {n : Nat} (GW : FnOk P w K mg base CX0 (2 * n) T.f_whole_root T.d_whole_root ["number", "degree"] (spRoot n)) {cdv : Value} {A : Around} {outer : List Env} {s : Shared} {H : Hp} {E : XK}
    (hr : Room (2 * n) (A.deeper (envOfC "guess_above" (defScope s_guess_above) s.heap.objs.size T.f_guess_above cdv))) :
    Σ' t : TS, PSs (cxOf CX0 P w K mg base ["number", "degree", "half"] "guess_above" (defScope s_guess_above) T.f_guess_above cdv A outer s H E).nox (defBody s_guess_above) t :=
  ⟨_, (pss_cons (ps_set (i := 2) sc_guess_above.nd rfl (.inl rfl) (pe_op op_nDiv (pe_bits (pv 0)) (pe_op op_nMul pe_int (pv 1))))
      (pss_cons (ps_if (pt_cmpR op_nEq (pv 2) pe_int (nomark _)) (pss_one (ps_ret (pe_op op_nShl pe_int (pe_op op_nAdd (pe_op op_nDiv (pe_bits (pv 0)) (pv 1)) pe_int)))) pss_nil)
      (pss_one (ps_ret (pe_op op_nShl (pe_op op_nAdd (pe_call GW (hr.mono (by omega)) (by rfl) T.g_whole_root T.F_whole_root.kp T.b_whole_root .nil pass0 (pa_cons (pe_op op_nShr (pv 0) (pe_op op_nMul (pv 2) (pv 1))) (pa_cons (pv 1) pa_nil))) pe_int) (pv 2))))))⟩
theorem ok_guess_above {n : Nat} (T : Txt K mg) (GW : FnOk P w K mg base CX0 (2 * n) T.f_whole_root T.d_whole_root ["number", "degree"] (spRoot n)) :
    FnOk P w K mg base CX0 (2 * n + 1) T.f_guess_above T.d_guess_above ["number", "degree"] (spGuess (n + 1)) := by
  refine T.F_guess_above.ok sc_guess_above (fun vs H Q E h => ?_) (fun cdv A outer s H vs Q E hr h => ⟨_, (dv_guess_above T GW hr).2, ?_⟩)
  · obtain ⟨N, d, b, rfl, _⟩ := h
    rfl
  · obtain ⟨N, d, b, rfl, hn, hd, hd2, h0, hN, hb, hf, q⟩ := h
    have hNB : N < 2 ^ bits N := lt_bits N
    have hBb : bits N ≤ b := bits_le hN
    have d5 : d < 2 ^ 5 := Nat.lt_of_le_of_lt hd2 (by decide)
    have b14 : bits N < 2 ^ 14 := Nat.lt_of_le_of_lt (Nat.le_trans hBb hb) (by decide)
    refine ⟨_, rfl, _, rfl, _, rfl, 2, d, rfl, rfl, ⟨2, 5, by decide, d5, by decide⟩, bits N, 2 * d, rfl, rfl, .few (by omega) b14 (by decide), _, rfl, _, 0, rfl, rfl, _, rfl, dec2 (fun c => ?_) (fun c => ?_)⟩
    · -- the bits are few
      have h1 : bits N / d ≤ bits N := Nat.div_le_self _ _
      refine ⟨_, rfl, _, rfl, _, rfl, bits N, d, rfl, rfl, .few (by omega) b14 (by decide), _, 1, rfl, rfl, 1, _, rfl, rfl, ⟨1, by decide, by omega⟩, ?_⟩
      rw [Nat.one_mul]
      exact q _ (bits N / d + 2) (Nat.two_pow_pos _) (guess_one hd hNB) (Nat.pow_lt_pow_right (by decide) (by omega)) (by omega)
    · -- the root of the front half
      obtain ⟨n1, f1⟩ := fuel_next hd (Nat.le_trans hBb hf) c
      generalize hk : bits N / (2 * d) = k at *
      have hkB : k * (2 * d) ≤ bits N := by
        rw [← hk]
        exact Nat.div_mul_le_self _ _
      have hkd : k * d ≤ bits N := by
        rw [Nat.mul_comm 2 d, ← Nat.mul_assoc] at hkB
        omega
      have hk1 : k ≤ bits N := Nat.le_trans (Nat.le_mul_of_pos_right _ (by omega)) hkd
      refine ⟨_, rfl, _, rfl, _, rfl, k, d, rfl, rfl, ⟨14, 5, Nat.lt_of_le_of_lt hk1 b14, d5, by decide⟩, N, k * d, rfl, rfl, _, rfl, N / 2 ^ (k * d), d, bits N - d * k, rfl, n1, hd, hd2, ?_, by omega, f1, fun r hr => ?_⟩
      · rw [Nat.div_lt_iff_lt_mul (Nat.two_pow_pos _), ← Nat.pow_add, Nat.mul_comm d k, Nat.sub_add_cancel hkd]
        exact hNB
      · have hrN : r ≤ N := by
          have h1 : r ^ d ≤ N / 2 ^ (k * d) := hr.1
          have h2 : r ≤ r ^ d := by
            cases r with
            | zero => exact Nat.zero_le _
            | succ r => exact Nat.le_pow (by omega)
          exact Nat.le_trans h2 (Nat.le_trans h1 (Nat.div_le_self _ _))
        have hr1 : r + 1 < 2 ^ (bits N + 1) := by
          rw [Nat.pow_succ]
          omega
        refine ⟨_, 1, rfl, rfl, _, rfl, _, k, rfl, rfl, ⟨bits N + 1, hr1, by omega⟩, ?_⟩
        refine q _ (bits N + 1 + k) (Nat.mul_pos (Nat.succ_pos _) (Nat.two_pow_pos _)) (guess_more hr) ?_ (by omega)
        rw [Nat.pow_add]
        exact Nat.mul_lt_mul_of_pos_right hr1 (Nat.two_pow_pos _)
end
end Sh

/-! Roots by Newton's steps. -/
namespace Sh
open PySem PySem.Spec PyProof.Rows L2
section
variable {P : Program} {w : World} {K : PySem.W.Frag} {mg : Str → Option Value} {base : Heap}
noncomputable def dv_whole_root {P : Program} {w : World} {K : PySem.W.Frag} {mg : Str → Option Value} {base : Heap} (T : Txt K mg) {n : Nat} (GG : FnOk P w K mg base CX0 (2 * n + 1) T.f_guess_above T.d_guess_above ["number", "degree"] (spGuess (n + 1))) {cdv : Value} {A : Around} {outer : List Env} {s : Shared} {H : Hp} {E : XK}
    (hr : Room (2 * n + 1) (A.deeper (envOfC "whole_root" (defScope s_whole_root) s.heap.objs.size T.f_whole_root cdv))) :
    Σ' t : TS, PSs (cxOf CX0 P w K mg base ["number", "degree", "root", "step"] "whole_root" (defScope s_whole_root) T.f_whole_root cdv A outer s H E).nox (defBody s_whole_root) t :=
  ⟨_, (pss_cons (ps_if (pt_cmpR op_nEq (pv 0) pe_int (nomark _)) (pss_one (ps_ret pe_int)) pss_nil)
      (pss_cons (ps_set (i := 2) sc_whole_root.nd rfl (.inl rfl) (pe_call GG (hr.mono (by omega)) (by rfl) T.g_guess_above T.F_guess_above.kp T.b_guess_above .nil pass0 (pa_cons (pv 0) (pa_cons (pv 1) pa_nil))))
      (pss_one (ps_while PassesOwn.never (pt_val pe_bl) (pss_cons (ps_set (i := 3) sc_whole_root.nd rfl (.inl rfl) (pe_op op_nDiv (pe_op op_nAdd (pe_op op_nMul (pe_op op_nSub (pv 1) pe_int) (pv 2)) (pe_op op_nDiv (pv 0) (pe_call (ok_power T) (hr.mono (by omega)) (by rfl) T.g_power T.F_power.kp T.b_power .nil pass0 (pa_cons (pv 2) (pa_cons (pe_op op_nSub (pv 1) pe_int) pa_nil))))) (pv 1)))
      (pss_cons (ps_if (pt_cmpR op_nGe (pv 3) (pv 2) (nomark _)) (pss_one (ps_ret (pv 2))) pss_nil)
      (pss_one (ps_set (i := 2) sc_whole_root.nd rfl (.inl rfl) (pv 3)))))))))⟩
theorem ok_whole_root {n : Nat} (T : Txt K mg) (GG : FnOk P w K mg base CX0 (2 * n + 1) T.f_guess_above T.d_guess_above ["number", "degree"] (spGuess (n + 1))) :
    FnOk P w K mg base CX0 (2 * n + 2) T.f_whole_root T.d_whole_root ["number", "degree"] (spRoot (n + 1)) := by
  refine T.F_whole_root.ok sc_whole_root (fun vs H Q E h => ?_) (fun cdv A outer s H vs Q E hr h => ⟨_, (dv_whole_root T GG hr).2, ?_⟩)
  · obtain ⟨N, d, b, rfl, _⟩ := h
    rfl
  · obtain ⟨N, d, b, rfl, hn, hd, hd2, hN, hb, hf, q⟩ := h
    refine ⟨_, rfl, N, 0, rfl, rfl, _, rfl, dec2 (fun c => ?_) (fun c => ?_)⟩
    · subst c
      exact q 0 ⟨by rw [Nat.zero_pow (by omega)]; exact Nat.le_refl _, by rw [Nat.one_pow]; exact Nat.one_pos⟩
    · refine ⟨_, rfl, _, rfl, N, d, b, rfl, hn, hd, hd2, by omega, hN, hb, hf, fun g c hg hgN hgc hc => ?_⟩
      -- while True
      obtain ⟨e, rfl⟩ : ∃ e, d = e + 1 := ⟨d - 1, by omega⟩
      refine ⟨fun m σ H' => H' = H ∧ ∃ x y, m = x ∧ σ = [some (.int (N : Int)), some (.int ((e + 1 : Nat) : Int)), some (.int (x : Int)), y] ∧ 0 < x ∧ x < 2 ^ c ∧ N < (x + 1) ^ (e + 1), ⟨g, rfl, g, none, rfl, rfl, hg, hgc, hgN⟩, ?_⟩
      rintro m σ H' ⟨rfl, x, y, rfl, rfl, hx, hxc, hxN⟩
      refine ⟨true, rfl, iteT ?_⟩
      refine ⟨fun σ' H'' => H'' = H' ∧ ∃ x' y', x' < m ∧ σ' = [some (.int (N : Int)), some (.int ((e + 1 : Nat) : Int)), some (.int (x' : Int)), y'] ∧ 0 < x' ∧ x' < 2 ^ c ∧ N < (x' + 1) ^ (e + 1), ?_, ?_⟩
      · rintro σ' H'' ⟨rfl, x', y', hlt, rfl, h1, h2, h3⟩
        exact ⟨x', hlt, rfl, x', y', rfl, rfl, h1, h2, h3⟩
      · have hNd : N / m ^ e ≤ N := Nat.div_le_self _ _
        have hes : e < 2 ^ 5 := Nat.lt_of_lt_of_le (by omega) (show 20 ≤ 2 ^ 5 by decide)
        have hem : e * m < 2 ^ (5 + c) := by
          rw [Nat.pow_add]
          exact Nat.lt_of_le_of_lt (Nat.mul_le_mul_left e (Nat.le_of_lt hxc)) (Nat.mul_lt_mul_of_pos_right hes (Nat.two_pow_pos c))
        refine ⟨_, rfl, e + 1, 1, rfl, rfl, (by omega), _, rfl, e, m, rfl, rfl, ⟨5, c, hes, hxc, by omega⟩, _, rfl, _, rfl, _, rfl, e + 1, 1, rfl, rfl, (by omega), m, e, c, rfl, hxc, (by omega), (by omega),
          N, m ^ e, rfl, rfl, .few (Nat.pow_pos hx) hN (by omega), e * m, N / m ^ e, rfl, rfl, _, rfl, e * m + N / m ^ e, e + 1, rfl, rfl, .small (by omega) (by omega), ?_⟩
        -- if step >= root
        refine ⟨_, rfl, _, rfl, (e * m + N / m ^ e) / (e + 1), m, rfl, rfl, _, rfl, dec2 (fun c1 => ?_) (fun c1 => ?_)⟩
        · exact ⟨_, rfl, q m (root_of hxN c1 hx)⟩
        · have hlt : (e * m + N / m ^ e) / (e + 1) < m := Nat.lt_of_not_le c1
          have hk : N < ((e * m + N / m ^ e) / (e + 1) + 1) ^ (e + 1) := step_keeps hx
          refine ⟨_, rfl, rfl, _, some (.int (((e * m + N / m ^ e) / (e + 1) : Nat) : Int)), hlt, rfl, ?_, Nat.lt_trans hlt hxc, hk⟩
          refine Nat.pos_of_ne_zero fun z => ?_
          rw [z, Nat.zero_add, Nat.one_pow] at hk
          omega
/-! ### both, for every number of calls -/
theorem none_left {f : Addr} {fd : FuncData} : FnOk P w K mg base CX0 0 f fd ["number", "degree"] (spRoot 0) := by
  have no : ∀ vs H Q E, ¬ spRoot 0 vs H Q E := fun vs H Q E h => by
    obtain ⟨N, d, b, _, h1, _⟩ := h
    omega
  exact ⟨fun vs H Q E h => absurd h (no vs H Q E), fun A outer s H args us vs Q E _ _ _ _ h => absurd h (no vs H Q E)⟩
theorem roots (T : Txt K mg) : ∀ n : Nat, FnOk P w K mg base CX0 (2 * n) T.f_whole_root T.d_whole_root ["number", "degree"] (spRoot n)
  | 0 => none_left
  | n + 1 => ok_whole_root T (ok_guess_above T (roots T n))
/-- the whole root of a number of at most 13000 bits -/
def spRoot15 : Sp := fun vs H Q _ => ∃ N d b : Nat, vs = [.int (N : Int), .int (d : Int)] ∧ 1 ≤ d ∧ d ≤ 20 ∧ N < 2 ^ b ∧ b ≤ 8000 ∧ ∀ r : Nat, IsRoot N d r → Q (.int (r : Int)) H
theorem ok_root (T : Txt K mg) : FnOk P w K mg base CX0 30 T.f_whole_root T.d_whole_root ["number", "degree"] spRoot15 :=
  (roots T 15).imp fun vs H Q E h => by
    obtain ⟨N, d, b, rfl, h1, h2, h3, h4, q⟩ := h
    refine ⟨N, d, b, rfl, by omega, h1, h2, h3, by omega, ?_, q⟩
    show b ≤ d * (2 ^ 13 + 2) - 1
    have := Nat.mul_le_mul_right (2 ^ 13 + 2) h1
    omega
end
end Sh

/-! The first number of a set. -/
namespace Sh
open PySem PySem.Spec PyProof.Rows L2
section
variable {P : Program} {w : World} {K : PySem.W.Frag} {mg : Str → Option Value} {base : Heap}
def spFirst : Sp := fun vs H Q _ => ∃ k n b : Nat, vs = [.int ((k + 1 : Nat) : Int), .int (n : Int)] ∧ k < 20 ∧ n < 2 ^ b ∧ b ≤ 7000 ∧ Q (.int ((top k n : Nat) : Int)) H
noncomputable def dv_greatest_first {P : Program} {w : World} {K : PySem.W.Frag} {mg : Str → Option Value} {base : Heap} (T : Txt K mg) (GW : FnOk P w K mg base CX0 30 T.f_whole_root T.d_whole_root ["number", "degree"] spRoot15) {cdv : Value} {A : Around} {outer : List Env} {s : Shared} {H : Hp} {E : XK}
    (hr : Room 30 (A.deeper (envOfC "greatest_first" (defScope s_greatest_first) s.heap.objs.size T.f_greatest_first cdv))) :
    Σ' t : TS, PSs (cxOf CX0 P w K mg base ["size", "number", "first"] "greatest_first" (defScope s_greatest_first) T.f_greatest_first cdv A outer s H E).nox (defBody s_greatest_first) t :=
  ⟨_, (pss_cons (ps_set (i := 2) sc_greatest_first.nd rfl (.inl rfl) (pe_op op_nAdd (pe_call GW (hr.mono (by omega)) (by rfl) T.g_whole_root T.F_whole_root.kp T.b_whole_root .nil pass0 (pa_cons (pe_op op_nMul (pv 1) (pe_callBfun cr_factorial (by rfl) T.m_factorial (pa_cons (pv 0) pa_nil))) (pa_cons (pv 0) pa_nil))) (pe_op op_nDiv (pe_op op_nSub (pv 0) pe_int) pe_int)))
      (pss_cons (ps_while PassesOwn.never (pt_cmpR op_nLe (pe_callBfun cr_comb (by rfl) T.m_comb (pa_cons (pe_op op_nAdd (pv 2) pe_int) (pa_cons (pv 0) pa_nil))) (pv 1) (nomark _)) (pss_one (ps_set (i := 2) sc_greatest_first.nd rfl (.inl rfl) (pe_op op_nAdd (pv 2) pe_int))))
      (pss_one (ps_ret (pv 2)))))⟩
theorem ok_greatest_first (T : Txt K mg) : FnOk P w K mg base CX0 31 T.f_greatest_first T.d_greatest_first ["size", "number"] spFirst := by
  refine T.F_greatest_first.ok sc_greatest_first (fun vs H Q E h => ?_) (fun cdv A outer s H vs Q E hr h => ⟨_, (dv_greatest_first T (ok_root T) hr).2, ?_⟩)
  · obtain ⟨k, n, b, rfl, _⟩ := h
    rfl
  · obtain ⟨k, n, b, rfl, hk, hn, hb, q⟩ := h
    have hf : fac (k + 1) < 2 ^ 62 := fac_lt (k + 1) (by omega)
    have hnf : n * fac (k + 1) < 2 ^ (b + 62) := by
      rw [Nat.pow_add]
      exact Nat.lt_of_le_of_lt (Nat.mul_le_mul_right _ (Nat.le_of_lt hn)) (Nat.mul_lt_mul_of_pos_left hf (Nat.two_pow_pos b))
    refine ⟨_, rfl, _, rfl, k + 1, rfl, (by omega), n, fac (k + 1), rfl, rfl, ⟨b, 62, hn, hf, by omega⟩, _, rfl, n * fac (k + 1), k + 1, b + 62, rfl, by omega, by omega, hnf, by omega, fun r hr => ?_⟩
    have hs : ch (r + k / 2) (k + 1) ≤ n := start_ok hr.1
    refine ⟨_, rfl, k + 1, 1, rfl, rfl, (by omega), k, 2, rfl, rfl, .small (by omega) (by omega), r, k / 2, rfl, rfl, ?_⟩
    refine ⟨fun m σ H' => H' = H ∧ ∃ a, m = n + k + 1 - a ∧ σ = [some (.int ((k + 1 : Nat) : Int)), some (.int (n : Int)), some (.int (a : Int))] ∧ ch a (k + 1) ≤ n, ⟨_, rfl, _, rfl, rfl, hs⟩, ?_⟩
    rintro m σ H' ⟨rfl, a, rfl, rfl, ha⟩
    have ha2 : a ≤ n + k := Nat.le_trans (below_top ha) (top_most k n)
    have hab : a + 1 < 2 ^ (b + 5) := by
      rw [Nat.pow_add]
      omega
    have hab2 : (b + 5) * (k + 1) ≤ (b + 5) * 20 := Nat.mul_le_mul_left _ (by omega)
    refine ⟨_, rfl, a, 1, rfl, rfl, _, rfl, a + 1, k + 1, b + 5, rfl, hab, by omega, by omega, _, rfl, ch (a + 1) (k + 1), n, rfl, rfl, _, rfl, dec2 (fun c => ?_) (fun c => ?_)⟩
    · refine ⟨fun σ' H'' => H'' = H' ∧ σ' = [some (.int ((k + 1 : Nat) : Int)), some (.int (n : Int)), some (.int ((a + 1 : Nat) : Int))], ?_, _, rfl, a, 1, rfl, rfl, rfl, rfl⟩
      rintro σ' H'' ⟨rfl, rfl⟩
      exact ⟨n + k + 1 - (a + 1), by omega, rfl, a + 1, rfl, rfl, c⟩
    · refine ⟨_, rfl, ?_⟩
      rw [top_one ha (Nat.lt_of_not_le c)]
      exact q
end
end Sh

/-! Kinds, dicts too. -/
namespace Sh
open PySem PySem.Spec PyProof.Rows L2
abbrev tyOf (x : V) (H : Hp) : Option String := zTy2 x H
/-- a whole number, 0 or more -/
def numV : V → Bool
  | .int i => decide (0 ≤ i)
  | _ => false
/-- each less than the one ahead -/
def fallI (ns : List Int) : Bool := (ns.zip (ns.drop 1)).all fun p => decide (p.2 < p.1)
def intOf : V → Int
  | .int i => i
  | _ => 0
def setV (xs : List V) : Bool := decide (xs.length ≤ 20) && (xs.all numV && fallI (xs.map intOf))
/-- the kind is known -/
def Kind (x : V) (H : Hp) : Prop := ∃ n, tyOf x H = some n
theorem kind_int (i : Int) (H : Hp) : Kind (.int i) H := ⟨_, rfl⟩
theorem ty_same {H H' : Hp} {x : V} {n : String} (sm : Same H H') (h : tyOf x H = some n) : tyOf x H' = some n := by
  cases x with
  | ref p =>
    simp only [tyOf, zTy2] at h
    split at h
    · rename_i kvs e
      simp only [tyOf, zTy2]
      rw [sm _ _ e]
      exact h
    · simp only [zTyV] at h
      split at h
      · rename_i xs e
        simp only [tyOf, zTy2, zTyV]
        rw [sm _ _ e]
        exact h
      · rename_i xs e
        simp only [tyOf, zTy2, zTyV]
        rw [sm _ _ e]
        exact h
      · cases h
  | _ => exact h
theorem zTy_int {x : V} {H : Hp} (h : tyOf x H = some "int") : ∃ i, x = .int i := by
  cases x with
  | int i => exact ⟨i, rfl⟩
  | ref p =>
    simp only [tyOf, zTy2] at h
    split at h
    · simp at h
    · simp only [zTyV] at h
      split at h <;> simp at h
  | _ => simp [tyOf, zTy2, zTyV] at h
theorem ty_list {a : Addr} {xs : List V} {H : Hp} (h : H a = some (.lst xs)) : tyOf (.ref a) H = some "list" := by
  simp only [tyOf, zTy2, zTyV]
  rw [h]
theorem ty_tup {a : Addr} {xs : List V} {H : Hp} (h : H a = some (.tup xs)) : tyOf (.ref a) H = some "tuple" := by
  simp only [tyOf, zTy2, zTyV]
  rw [h]
theorem ty_dict {a : Addr} {kvs : List (Key × V)} {H : Hp} (h : H a = some (.dK kvs)) : tyOf (.ref a) H = some "dict" := by
  simp only [tyOf, zTy2]
  rw [h]
theorem kind_same {H H' : Hp} {x : V} (sm : Same H H') (h : Kind x H) : Kind x H' := by
  obtain ⟨n, h⟩ := h
  exact ⟨n, ty_same sm h⟩
theorem numV_not {x : V} {H : Hp} {n : String} (h : tyOf x H = some n) (hn : ¬ n = "int") : numV x = false := by
  cases x with
  | int i => exact absurd (Option.some.inj h).symm hn
  | _ => rfl
theorem numV_all {xs : List V} (h : xs.all numV = true) : xs = (xs.map intOf).map V.int := by
  induction xs with
  | nil => rfl
  | cons x xs ih =>
    rw [List.all_cons, Bool.and_eq_true] at h
    rw [List.map_cons, List.map_cons, ← ih h.2]
    cases x with
    | int i => rfl
    | _ => exact absurd h.1 (by simp [numV])
end Sh

/-! What is a number, a size, a set. -/
namespace Sh
open PySem PySem.Spec PyProof.Rows L2
section
variable {P : Program} {w : World} {K : PySem.W.Frag} {mg : Str → Option Value} {base : Heap}
def spIsNumber : Sp := fun vs H Q _ => ∃ x, vs = [x] ∧ Kind x H ∧ Q (.bl (numV x)) H
noncomputable def dv_is_number {P : Program} {w : World} {K : PySem.W.Frag} {mg : Str → Option Value} {base : Heap} (T : Txt K mg)  {cdv : Value} {A : Around} {outer : List Env} {s : Shared} {H : Hp} {E : XK}
    (hr : Room 0 (A.deeper (envOfC "is_number" (defScope s_is_number) s.heap.objs.size T.f_is_number cdv))) :
    Σ' t : TS, PSs (cxOf CX0 P w K mg base ["thing"] "is_number" (defScope s_is_number) T.f_is_number cdv A outer s H E).nox (defBody s_is_number) t :=
  ⟨_, (pss_one (ps_ret (pe_and (pe_cmpR op_isTy (pe_typeOf2 (by rfl) T.z_type (pv 0)) (pe_bltn (v := .ty "int") (by rfl) T.z_int (by decide +kernel) rfl) (nomark _)) (pe_one (pe_cmpR op_iGe (pv 0) pe_int (nomark _))))))⟩
theorem ok_is_number (T : Txt K mg) : FnOk P w K mg base CX0 1 T.f_is_number T.d_is_number ["thing"] spIsNumber := by
  refine T.F_is_number.ok sc_is_number (fun vs H Q E h => ?_) (fun cdv A outer s H vs Q E hr h => ⟨_, (dv_is_number T hr).2, ?_⟩)
  · obtain ⟨x, rfl, _⟩ := h
    rfl
  · obtain ⟨x, rfl, ⟨n, hn⟩, q⟩ := h
    refine ⟨x, rfl, n, hn, _, _, rfl, rfl, _, rfl, dec2 (fun c => ?_) (fun c => ?_)⟩
    · subst c
      obtain ⟨i, rfl⟩ := zTy_int hn
      exact ⟨_, rfl, i, 0, rfl, rfl, q⟩
    · rw [numV_not hn c] at q
      exact q
def sizeV (x : V) (lo hi : Int) : Bool := numV x && (decide (lo ≤ intOf x) && decide (intOf x ≤ hi))
def spIsSize : Sp := fun vs H Q _ => ∃ x lo hi, vs = [x, .int lo, .int hi] ∧ Kind x H ∧ Q (.bl (sizeV x lo hi)) H
noncomputable def dv_is_size {P : Program} {w : World} {K : PySem.W.Frag} {mg : Str → Option Value} {base : Heap} (T : Txt K mg)  {cdv : Value} {A : Around} {outer : List Env} {s : Shared} {H : Hp} {E : XK}
    (hr : Room 1 (A.deeper (envOfC "is_size" (defScope s_is_size) s.heap.objs.size T.f_is_size cdv))) :
    Σ' t : TS, PSs (cxOf CX0 P w K mg base ["thing", "least", "greatest"] "is_size" (defScope s_is_size) T.f_is_size cdv A outer s H E).nox (defBody s_is_size) t :=
  ⟨_, (pss_one (ps_ret (pe_and (pe_call (ok_is_number T) (hr.mono (by omega)) (by rfl) T.g_is_number T.F_is_number.kp T.b_is_number .nil pass0 (pa_cons (pv 0) pa_nil)) (pe_one (pe_chain op_iLe op_iLe (pv 1) (pv 0) (pv 2))))))⟩
theorem ok_is_size (T : Txt K mg) : FnOk P w K mg base CX0 2 T.f_is_size T.d_is_size ["thing", "least", "greatest"] spIsSize := by
  refine T.F_is_size.ok sc_is_size (fun vs H Q E h => ?_) (fun cdv A outer s H vs Q E hr h => ⟨_, (dv_is_size T hr).2, ?_⟩)
  · obtain ⟨x, lo, hi, rfl, _⟩ := h
    rfl
  · obtain ⟨x, lo, hi, rfl, hk, q⟩ := h
    refine ⟨x, rfl, x, rfl, hk, _, rfl, ?_⟩
    unfold sizeV at q
    cases x with
    | int i =>
      refine dec2 (fun c => ?_) (fun c => ?_)
      · refine ⟨_, rfl, _, rfl, lo, i, rfl, rfl, _, rfl, dec2 (fun c1 => ?_) (fun c1 => ?_)⟩
        · refine ⟨_, rfl, i, hi, rfl, rfl, ?_⟩
          rw [show numV (.int i) = true from decide_eq_true c, show decide (lo ≤ intOf (.int i)) = true from decide_eq_true c1, Bool.true_and, Bool.true_and] at q
          exact q
        · rw [show decide (lo ≤ intOf (.int i)) = false from decide_eq_false c1, Bool.false_and, Bool.and_false] at q
          exact q
      · rw [show numV (.int i) = false from decide_eq_false c, Bool.false_and] at q
        exact q
    | _ => exact iteF q
def spIsFalling (K : PySem.W.Frag) : Sp := fun vs H Q _ => ∃ (a : Addr) (ns : List Int), vs = [.ref a] ∧ SqL K H a (ns.map V.int) ∧ ns.length ≤ 1000 ∧ ∀ H', Same H H' → Q (.bl (fallI ns)) H'
noncomputable def dv_is_falling {P : Program} {w : World} {K : PySem.W.Frag} {mg : Str → Option Value} {base : Heap} (T : Txt K mg)  {cdv : Value} {A : Around} {outer : List Env} {s : Shared} {H : Hp} {E : XK}
    (hr : Room 0 (A.deeper (envOfC "is_falling" (defScope s_is_falling) s.heap.objs.size T.f_is_falling cdv))) :
    Σ' t : TS, PSs (cxOf CX0 P w K mg base ["numbers", "ahead", "behind"] "is_falling" (defScope s_is_falling) T.f_is_falling cdv A outer s H E).nox (defBody s_is_falling) t :=
  ⟨_, (pss_one (ps_ret (pe_callB (cr_allK (K := K) rfl) (by rfl) T.z_all (by decide +kernel) (pa_cons (pe_lc (g := gTup K 2 (gCons (gName 1) (gCons (gName 2) (gNil)))) (own := [("ahead", 1), ("behind", 2)]) rfl sc_is_falling.nd (pi_zip (by rfl) T.z_zip (pa_cons (pv 0) (pa_cons (pe_slice (sl_listK (K := K)) (pv 0) (po_some pe_int) po_none) pa_nil))) (blkOk_by (own := [("ahead", 1), ("behind", 2)]) (N := ["numbers", "ahead", "behind"]) (sc := defScope s_is_falling) (by decide +kernel)) (fun _ _ _ _ _ => by exact (pg_tupK (K := K) rfl (pgs_cons (pg_name (i := 1) sc_is_falling.nd rfl (.inl rfl)) (pgs_cons (pg_name (i := 2) sc_is_falling.nd rfl (.inl rfl)) pgs_nil)))) (fun _ _ _ _ _ => by exact pts_nil) (fun _ _ _ _ _ => by exact (pe_cmpR op_iGt (pv 1) (pv 2) (nomark _)))) pa_nil))))⟩
theorem cut_one (xs : List V) : cutV xs (some 1) none = xs.drop 1 := by
  unfold cutV
  rw [show HT.sIx xs.length 0 (some 1) = min 1 xs.length from HT.sIx_nat xs.length 0 1, HT.sIx_none]
  cases xs with
  | nil => rfl
  | cons x r =>
    rw [List.length_cons, Nat.min_eq_left (by omega)]
    exact List.take_of_length_le (by simp)
theorem ok_is_falling (T : Txt K mg) : FnOk P w K mg base CX0 1 T.f_is_falling T.d_is_falling ["numbers"] (spIsFalling K) := by
  refine T.F_is_falling.ok sc_is_falling (fun vs H Q E h => ?_) (fun cdv A outer s H vs Q E hr h => ⟨_, (dv_is_falling T hr).2, ?_⟩)
  · obtain ⟨a, ns, rfl, _⟩ := h
    rfl
  · obtain ⟨a, ns, rfl, hS, hz, q⟩ := h
    refine ⟨_, rfl, _, rfl, 1, rfl, a, _, rfl, hS, fun c nc => ?_⟩
    rw [cut_one, ← List.map_drop]
    have s1 : Same H (upd H c (.lst ((ns.drop 1).map V.int))) := same_new nc
    refine ⟨a, c, _, _, rfl, s1.seq hS, .of upd_same, fun D nD => ?_⟩
    have s2 : Same H (upd (upd H c (.lst ((ns.drop 1).map V.int))) D (.lst [])) := s1.trans (same_new nD)
    have nDH : H D = none := s1.free nD
    have ncD : c ≠ D := fun e => by rw [← e, upd_same] at nD; cases nD
    refine lc2_zip (ns.length - 1) (by rw [List.length_map, List.length_map, List.length_drop]; omega)
      (fun i acc H' => Same H H' ∧ H' c = some (.lst ((ns.drop 1).map V.int)) ∧ acc = ((ns.zip (ns.drop 1)).take i).map fun p => V.bl (decide (p.2 < p.1)))
      ⟨s2, by rw [upd_ne ncD, upd_same], rfl⟩ (fun i acc H' p => ⟨p.1.seq hS, .of p.2.1⟩) (fun i acc H' X o nX p => ⟨same_fresh H _ _ _ nX p.1, by rw [upd_ne (ne_of_none p.2.1 nX)]; exact p.2.1, p.2.2⟩)
      (fun _ _ => rfl) ?_ ?_
    · rintro i x y acc H' hx hy hl hD ⟨sm, hc, ha⟩
      rw [List.getElem?_map] at hx hy
      obtain ⟨z, hz1, rfl⟩ := Option.map_eq_some_iff.mp hx
      obtain ⟨z2, hz2, rfl⟩ := Option.map_eq_some_iff.mp hy
      refine ⟨_, rfl, _, rfl, z, z2, rfl, rfl, LcN.put hD hl ?_ ⟨same_free sm nDH, by rw [upd_ne ncD]; exact hc, ?_⟩⟩
      · have hi := (List.getElem?_eq_some_iff.mp hz1).1
        exact small1000 (by omega)
      · have hzz : (ns.zip (ns.drop 1))[i]? = some (z, z2) := List.getElem?_zip_eq_some.mpr ⟨hz1, hz2⟩
        rw [List.take_add_one, hzz, List.map_append, ha]
        rfl
    · rintro acc H' hl hD ⟨sm, hc, ha⟩
      have e : (ns.zip (ns.drop 1)).take (ns.length - 1) = ns.zip (ns.drop 1) := List.take_of_length_le (by rw [List.length_zip, List.length_drop]; omega)
      rw [e] at ha
      refine ⟨D, (ns.zip (ns.drop 1)).map fun p => decide (p.2 < p.1), rfl, .of ?_, ?_⟩
      · rw [hD, ha, List.map_map]
        rfl
      · rw [List.all_map]
        exact q H' sm
end
end Sh

/-! What is a list of numbers, a set, a row. -/
namespace Sh
open PySem PySem.Spec PyProof.Rows L2
theorem all_take {xs : List V} {i : Nat} {x : V} (h : xs[i]? = some x) : (xs.take (i + 1)).map numV = (xs.take i).map numV ++ [numV x] := by
  rw [List.take_add_one, h, List.map_append]
  rfl
/-- a list of at most 20 numbers -/
def listV (xs : List V) : Bool := decide (xs.length ≤ 20) && xs.all numV
theorem setV_list (xs : List V) : setV xs = (listV xs && fallI (xs.map intOf)) := by
  unfold setV listV
  rw [Bool.and_assoc]
section
variable {P : Program} {w : World} {K : PySem.W.Frag} {mg : Str → Option Value} {base : Heap}
/-- of any thing whose kind is known -/
def spIsF (f : List V → Bool) : Sp := fun vs H Q _ => ∃ x, vs = [x] ∧
  ((∃ n, tyOf x H = some n ∧ n ≠ "list" ∧ Q (.bl false) H) ∨
    ∃ a xs, x = .ref a ∧ H a = some (.lst xs) ∧ (xs.length ≤ 20 → ∀ v ∈ xs, Kind v H) ∧ ∀ H', Same H H' → Q (.bl (f xs)) H')
abbrev spIsList : Sp := spIsF listV
abbrev spIsSet : Sp := spIsF setV
noncomputable def dv_is_list_of_numbers {P : Program} {w : World} {K : PySem.W.Frag} {mg : Str → Option Value} {base : Heap} (T : Txt K mg)  {cdv : Value} {A : Around} {outer : List Env} {s : Shared} {H : Hp} {E : XK}
    (hr : Room 1 (A.deeper (envOfC "is_list_of_numbers" (defScope s_is_list_of_numbers) s.heap.objs.size T.f_is_list_of_numbers cdv))) :
    Σ' t : TS, PSs (cxOf CX0 P w K mg base ["thing", "each"] "is_list_of_numbers" (defScope s_is_list_of_numbers) T.f_is_list_of_numbers cdv A outer s H E).nox (defBody s_is_list_of_numbers) t :=
  ⟨_, (pss_cons (ps_if (PW.pt (pw_or (pt_cmpR op_isNotTy (pe_typeOf2 (by rfl) T.z_type (pv 0)) (pe_bltn (v := .ty "list") (by rfl) T.z_list (by decide +kernel) rfl) (nomark _)) (pw_or1 (pt_cmpR op_nGt (pe_callB (call_lenK (K := K)) (by rfl) T.z_len PySem.boot_len (pa_cons (pv 0) pa_nil)) (pe_glob (v := .int 20) rfl T.c_GREATEST_SIZE.2 ⟨_, rfl⟩) (nomark _))))) (pss_one (ps_ret pe_bl)) pss_nil)
      (pss_one (ps_ret (pe_callB (cr_allK (K := K) rfl) (by rfl) T.z_all (by decide +kernel) (pa_cons (pe_lc (g := gName 1) (own := [("each", 1)]) rfl sc_is_list_of_numbers.nd (pi_list (pv 0)) (blkOk_by (own := [("each", 1)]) (N := ["thing", "each"]) (sc := defScope s_is_list_of_numbers) (by decide +kernel)) (fun _ _ _ _ _ => by exact (pg_name (i := 1) sc_is_list_of_numbers.nd rfl (.inl rfl))) (fun _ _ _ _ _ => by exact pts_nil) (fun _ _ _ _ _ => by exact (pe_call (ok_is_number T) (hr.mono (by omega)) (by rfl) T.g_is_number T.F_is_number.kp T.b_is_number .nil pass0 (pa_cons (pv 1) pa_nil)))) pa_nil)))))⟩
theorem ok_is_list_of_numbers (T : Txt K mg) : FnOk P w K mg base CX0 2 T.f_is_list_of_numbers T.d_is_list_of_numbers ["thing"] spIsList := by
  refine T.F_is_list_of_numbers.ok sc_is_list_of_numbers (fun vs H Q E h => ?_) (fun cdv A outer s H vs Q E hr h => ⟨_, (dv_is_list_of_numbers T hr).2, ?_⟩)
  · obtain ⟨x, rfl, _⟩ := h
    rfl
  · obtain ⟨x, rfl, h⟩ := h
    rcases h with ⟨n, hn, hl, q⟩ | ⟨a, xs, rfl, ha, hk, q⟩
    · exact ⟨x, rfl, n, hn, _, _, rfl, rfl, _, rfl, decNF hl (iteT q)⟩
    · have hS : SqL K H a xs := .of ha
      refine ⟨_, rfl, "list", ty_list ha, _, _, rfl, rfl, _, rfl, decNT rfl ?_⟩
      refine ⟨_, rfl, a, xs, rfl, .inl hS, xs.length, 20, rfl, rfl, _, rfl, dec2 (fun c => ?_) (fun c => ?_)⟩
      · have e : listV xs = false := by
          unfold listV
          rw [decide_eq_false (by omega), Bool.false_and]
        rw [e] at q
        exact q H (Same.refl H)
      · have c20 : xs.length ≤ 20 := Nat.le_of_not_lt c
        have hkk := hk c20
        have e0 : decide (xs.length ≤ 20) = true := decide_eq_true c20
        unfold listV at q
        rw [e0, Bool.true_and] at q
        refine ⟨_, rfl, a, rfl, ⟨xs, hS⟩, fun D nD => ?_⟩
        refine lc1_list (xs := xs) (fun i acc H' => Same H H' ∧ acc = ((xs.take i).map numV).map V.bl) ⟨same_new nD, rfl⟩
          (fun i acc H' p => p.1.seq hS) (fun _ => rfl) ?_ ?_
        · rintro i x acc H' hx hl hD ⟨sm, he⟩
          refine ⟨_, rfl, x, rfl, kind_same sm (hkk x (List.mem_of_getElem? hx)), LcN.put hD hl ?_ ⟨same_free sm nD, ?_⟩⟩
          · have := (List.getElem?_eq_some_iff.mp hx).1
            exact small1000 (by omega)
          · rw [all_take hx, List.map_append, ← he]
            rfl
        · rintro acc H' hl hD ⟨sm, he⟩
          rw [List.take_length] at he
          refine ⟨D, xs.map numV, rfl, .of (by rw [hD, he]), ?_⟩
          have e1 : (xs.map numV).all id = xs.all numV := by
            rw [List.all_map]
            rfl
          rw [e1]
          exact q H' sm
noncomputable def dv_is_row {P : Program} {w : World} {K : PySem.W.Frag} {mg : Str → Option Value} {base : Heap} (T : Txt K mg)  {cdv : Value} {A : Around} {outer : List Env} {s : Shared} {H : Hp} {E : XK}
    (hr : Room 2 (A.deeper (envOfC "is_row" (defScope s_is_row) s.heap.objs.size T.f_is_row cdv))) :
    Σ' t : TS, PSs (cxOf CX0 P w K mg base ["thing"] "is_row" (defScope s_is_row) T.f_is_row cdv A outer s H E).nox (defBody s_is_row) t :=
  ⟨_, (pss_one (ps_ret (pe_call (ok_is_list_of_numbers T) (hr.mono (by omega)) (by rfl) T.g_is_list_of_numbers T.F_is_list_of_numbers.kp T.b_is_list_of_numbers .nil pass0 (pa_cons (pv 0) pa_nil))))⟩
theorem ok_is_row (T : Txt K mg) : FnOk P w K mg base CX0 3 T.f_is_row T.d_is_row ["thing"] spIsList := by
  refine T.F_is_row.ok sc_is_row (fun vs H Q E h => ?_) (fun cdv A outer s H vs Q E hr h => ⟨_, (dv_is_row T hr).2, ?_⟩)
  · obtain ⟨x, rfl, _⟩ := h
    rfl
  · obtain ⟨x, rfl, h⟩ := h
    exact ⟨_, rfl, x, rfl, h⟩
noncomputable def dv_is_set {P : Program} {w : World} {K : PySem.W.Frag} {mg : Str → Option Value} {base : Heap} (T : Txt K mg)  {cdv : Value} {A : Around} {outer : List Env} {s : Shared} {H : Hp} {E : XK}
    (hr : Room 2 (A.deeper (envOfC "is_set" (defScope s_is_set) s.heap.objs.size T.f_is_set cdv))) :
    Σ' t : TS, PSs (cxOf CX0 P w K mg base ["thing"] "is_set" (defScope s_is_set) T.f_is_set cdv A outer s H E).nox (defBody s_is_set) t :=
  ⟨_, (pss_one (ps_ret (pe_and (pe_call (ok_is_list_of_numbers T) (hr.mono (by omega)) (by rfl) T.g_is_list_of_numbers T.F_is_list_of_numbers.kp T.b_is_list_of_numbers .nil pass0 (pa_cons (pv 0) pa_nil)) (pe_one (pe_call (ok_is_falling T) (hr.mono (by omega)) (by rfl) T.g_is_falling T.F_is_falling.kp T.b_is_falling .nil pass0 (pa_cons (pv 0) pa_nil))))))⟩
theorem ok_is_set (T : Txt K mg) : FnOk P w K mg base CX0 3 T.f_is_set T.d_is_set ["thing"] spIsSet := by
  refine T.F_is_set.ok sc_is_set (fun vs H Q E h => ?_) (fun cdv A outer s H vs Q E hr h => ⟨_, (dv_is_set T hr).2, ?_⟩)
  · obtain ⟨x, rfl, _⟩ := h
    rfl
  · obtain ⟨x, rfl, h⟩ := h
    rcases h with ⟨n, hn, hl, q⟩ | ⟨a, xs, rfl, ha, hk, q⟩
    · exact ⟨x, rfl, x, rfl, .inl ⟨n, hn, hl, false, rfl, iteF q⟩⟩
    · refine ⟨_, rfl, _, rfl, .inr ⟨a, xs, rfl, ha, hk, fun H1 sm => ⟨_, rfl, ?_⟩⟩⟩
      rw [setV_list] at q
      cases hb : listV xs with
      | false =>
        rw [hb] at q
        exact iteF (q H1 sm)
      | true =>
        rw [hb, Bool.true_and] at q
        obtain ⟨h20, ha2⟩ : xs.length ≤ 20 ∧ xs.all numV = true := by
          unfold listV at hb
          rw [Bool.and_eq_true, decide_eq_true_eq] at hb
          exact hb
        have hx := numV_all ha2
        refine iteT ⟨_, rfl, a, xs.map intOf, rfl, ?_, ?_, fun H'' sm2 => ?_⟩
        · rw [← hx]
          exact sm.seq (.of ha)
        · rw [List.length_map]
          omega
        · exact q H'' (sm.trans sm2)
end
end Sh

/-! A set's number; a number's set; the sets beneath. -/
namespace Sh
open PySem PySem.Spec PyProof.Rows L2
/-- a list of numbers as it stands -/
def natsV (l : List Nat) : List V := l.map fun n : Nat => V.int (n : Int)
theorem natsV_length (l : List Nat) : (natsV l).length = l.length := List.length_map _
theorem natsV_get {l : List Nat} {i n : Nat} (h : l[i]? = some n) : (natsV l)[i]? = some (.int (n : Int)) := by
  unfold natsV
  rw [List.getElem?_map, h]
  rfl
theorem get_natsV {l : List Nat} {i : Nat} {x : V} (h : (natsV l)[i]? = some x) : ∃ n, l[i]? = some n ∧ x = .int (n : Int) := by
  unfold natsV at h
  rw [List.getElem?_map] at h
  obtain ⟨n, h1, h2⟩ := Option.map_eq_some_iff.mp h
  exact ⟨n, h1, h2.symm⟩
theorem natsV_ints (l : List Nat) : natsV l = (l.map fun n : Nat => (n : Int)).map V.int := by
  unfold natsV
  rw [List.map_map]
  rfl
theorem natsV_app (l : List Nat) (n : Nat) : natsV l ++ [V.int (n : Int)] = natsV (l ++ [n]) := by
  unfold natsV
  rw [List.map_append]
  rfl
theorem natsV_kind {l : List Nat} {H : Hp} : ∀ v ∈ natsV l, Kind v H := fun v hv => by
  unfold natsV at hv
  obtain ⟨n, _, rfl⟩ := List.mem_map.mp hv
  exact kind_int _ _
theorem fall_down : ∀ {l : List Nat}, Down l → fallI (l.map fun n : Nat => (n : Int)) = true
  | [], _ => rfl
  | [_], _ => rfl
  | a :: b :: l, h => by
    have h1 := List.pairwise_cons.mp h
    have ih := fall_down h1.2
    have hab : b < a := h1.1 b List.mem_cons_self
    show (decide ((b : Int) < (a : Int)) && fallI ((b :: l).map fun n : Nat => (n : Int))) = true
    rw [ih, decide_eq_true (by omega)]
    rfl
theorem setV_of {l : List Nat} (h : Down l) (h20 : l.length ≤ 20) : setV (natsV l) = true := by
  unfold setV
  have e1 : (natsV l).all numV = true := by
    rw [List.all_eq_true]
    intro v hv
    unfold natsV at hv
    obtain ⟨n, _, rfl⟩ := List.mem_map.mp hv
    exact decide_eq_true (show (0 : Int) ≤ (n : Int) by omega)
  have e2 : (natsV l).map intOf = l.map fun n : Nat => (n : Int) := by
    unfold natsV
    rw [List.map_map]
    rfl
  rw [e1, e2, fall_down h, natsV_length, decide_eq_true h20]
  rfl
/-- a set of numbers that are not too great -/
structure Good (l : List Nat) (b : Nat) : Prop where
  down : Down l
  few : l.length ≤ 20
  small : ∀ x ∈ l, x < 2 ^ b
  bits : b ≤ 5000
theorem drop_num {l : List Nat} {i x : Nat} (h : l[i]? = some x) : num (l.drop i) = ch x (l.length - i) + num (l.drop (i + 1)) := by
  obtain ⟨hi, rfl⟩ := List.getElem?_eq_some_iff.mp h
  rw [List.drop_eq_getElem_cons hi]
  show ch _ ((l.drop (i + 1)).length + 1) + _ = _
  have e : (l.drop (i + 1)).length + 1 = l.length - i := by
    rw [List.length_drop]
    omega
  rw [e]
section
variable {P : Program} {w : World} {K : PySem.W.Frag} {mg : Str → Option Value} {base : Heap}
def spCheckSet : Sp := fun vs H Q _ => ∃ (a : Addr) (l : List Nat), vs = [.ref a] ∧ H a = some (.lst (natsV l)) ∧ Down l ∧ l.length ≤ 20 ∧ ∀ H', Same H H' → Q .non H'
noncomputable def dv_check_set {P : Program} {w : World} {K : PySem.W.Frag} {mg : Str → Option Value} {base : Heap} (T : Txt K mg)  {cdv : Value} {A : Around} {outer : List Env} {s : Shared} {H : Hp} {E : XK}
    (hr : Room 3 (A.deeper (envOfC "check_set" (defScope s_check_set) s.heap.objs.size T.f_check_set cdv))) :
    Σ' t : TS, PSs (cxOf CX0 P w K mg base ["some"] "check_set" (defScope s_check_set) T.f_check_set cdv A outer s H E).nox (defBody s_check_set) t :=
  ⟨_, (pss_one (ps_if (pt_not (pt_val (pe_call (ok_is_set T) (hr.mono (by omega)) (by rfl) T.g_is_set T.F_is_set.kp T.b_is_set .nil pass0 (pa_cons (pv 0) pa_nil)))) (pss_one ps_never) pss_nil))⟩
theorem ok_check_set (T : Txt K mg) : FnOk P w K mg base CX0 4 T.f_check_set T.d_check_set ["some"] spCheckSet := by
  refine T.F_check_set.ok sc_check_set (fun vs H Q E h => ?_) (fun cdv A outer s H vs Q E hr h => ⟨_, (dv_check_set T hr).2, ?_⟩)
  · obtain ⟨a, l, rfl, _⟩ := h
    rfl
  · obtain ⟨a, l, rfl, ha, hd, h20, q⟩ := h
    refine ⟨_, rfl, _, rfl, .inr ⟨a, _, rfl, ha, fun _ => natsV_kind, fun H' sm => ?_⟩⟩
    rw [setV_of hd h20]
    exact ⟨true, rfl, iteF (q H' sm)⟩
def spNumberOf : Sp := fun vs H Q _ => ∃ (a : Addr) (l : List Nat) (b : Nat), vs = [.ref a] ∧ H a = some (.lst (natsV l)) ∧ Good l b ∧ ∀ H', Same H H' → Q (.int ((num l : Nat) : Int)) H'
noncomputable def dv_number_of {P : Program} {w : World} {K : PySem.W.Frag} {mg : Str → Option Value} {base : Heap} (T : Txt K mg)  {cdv : Value} {A : Around} {outer : List Env} {s : Shared} {H : Hp} {E : XK}
    (hr : Room 4 (A.deeper (envOfC "number_of" (defScope s_number_of) s.heap.objs.size T.f_number_of cdv))) :
    Σ' t : TS, PSs (cxOf CX0 P w K mg base ["some", "number", "place", "each"] "number_of" (defScope s_number_of) T.f_number_of cdv A outer s H E).nox (defBody s_number_of) t :=
  ⟨_, (pss_cons (ps_expr (pe_call (ok_check_set T) (hr.mono (by omega)) (by rfl) T.g_check_set T.F_check_set.kp T.b_check_set .nil pass0 (pa_cons (pv 0) pa_nil)))
      (pss_cons (ps_set (i := 1) sc_number_of.nd rfl (.inl rfl) pe_int)
      (pss_cons (ps_for PassesOwn.never rfl (pi_enum (by rfl) T.z_enumerate (pa_cons (pv 0) pa_nil)) (pg_tupK (K := K) rfl (pgs_cons (pg_name (i := 2) sc_number_of.nd rfl (.inl rfl)) (pgs_cons (pg_name (i := 3) sc_number_of.nd rfl (.inl rfl)) pgs_nil))) (pss_one (ps_set (i := 1) sc_number_of.nd rfl (.inl rfl) (pe_op op_nAdd (pv 1) (pe_callBfun cr_comb (by rfl) T.m_comb (pa_cons (pv 3) (pa_cons (pe_op op_nSub (pe_callB (call_lenK (K := K)) (by rfl) T.z_len PySem.boot_len (pa_cons (pv 0) pa_nil)) (pv 2)) pa_nil)))))))
      (pss_one (ps_ret (pv 1))))))⟩
theorem ok_number_of (T : Txt K mg) : FnOk P w K mg base CX0 5 T.f_number_of T.d_number_of ["some"] spNumberOf := by
  refine T.F_number_of.ok sc_number_of (fun vs H Q E h => ?_) (fun cdv A outer s H vs Q E hr h => ⟨_, (dv_number_of T hr).2, ?_⟩)
  · obtain ⟨a, l, b, rfl, _⟩ := h
    rfl
  · obtain ⟨a, l, b, rfl, ha, g, q⟩ := h
    refine ⟨_, rfl, a, l, rfl, ha, g.down, g.few, fun H1 sm1 => ?_⟩
    have hS : SqL K H1 a (natsV l) := .of (sm1 _ _ ha)
    refine ⟨_, rfl, a, _, rfl, hS, ?_⟩
    refine for2_enum (xs := natsV l) (fun i σ H' => Same H H' ∧ ∃ p y z, σ = [some (.ref a), some (.int ((p : Nat) : Int)), y, z] ∧ p + num (l.drop i) = num l) ⟨sm1, 0, none, none, rfl, by rw [Nat.zero_add]; rfl⟩
      (fun i σ H' p => .of (p.1 _ _ ha)) (fun i σ H' T o nT p => ⟨same_fresh H _ _ _ nT p.1, p.2⟩) ?_ ?_
    · rintro i x σ H' hx ⟨sm, p, y, z, rfl, hp⟩
      obtain ⟨n, hn, rfl⟩ := get_natsV hx
      have hi := (List.getElem?_eq_some_iff.mp hn).1
      have hnb := g.small n (List.mem_of_getElem? hn)
      have g20 := g.few
      have gb := g.bits
      have hb2 : b * (l.length - i) ≤ b * 20 := Nat.mul_le_mul_left _ (by omega)
      refine ⟨_, rfl, _, rfl, _, rfl, a, natsV l, rfl, .inl (.of (sm _ _ ha)), ?_⟩
      rw [natsV_length]
      refine ⟨_, rfl, l.length, i, rfl, rfl, by omega, n, l.length - i, b, rfl, hnb, by omega, by omega, p, ch n (l.length - i), rfl, rfl, sm, _, _, _, rfl, ?_⟩
      rw [drop_num hn] at hp
      omega
    · rintro σ H' ⟨sm, p, y, z, rfl, hp⟩
      rw [natsV_length, List.drop_length] at hp
      have hp : p = num l := hp
      subst hp
      exact ⟨_, rfl, q H' sm⟩
end
end Sh

/-! A number's set; the sets beneath. -/
namespace Sh
open PySem PySem.Spec PyProof.Rows L2
section
variable {P : Program} {w : World} {K : PySem.W.Frag} {mg : Str → Option Value} {base : Heap}
def spSetN : Sp := fun vs H Q _ => ∃ k n b : Nat, vs = [.int (k : Int), .int (n : Int)] ∧ k ≤ 20 ∧ n < 2 ^ b ∧ b ≤ 7000 ∧
  ∀ H' p, Same H H' → H p = none → H' p = some (.lst (natsV (cas k n))) → Q (.ref p) H'
noncomputable def dv_numbers_of_set {P : Program} {w : World} {K : PySem.W.Frag} {mg : Str → Option Value} {base : Heap} (T : Txt K mg)  {cdv : Value} {A : Around} {outer : List Env} {s : Shared} {H : Hp} {E : XK}
    (hr : Room 31 (A.deeper (envOfC "numbers_of_set" (defScope s_numbers_of_set) s.heap.objs.size T.f_numbers_of_set cdv))) :
    Σ' t : TS, PSs (cxOf CX0 P w K mg base ["size", "number", "numbers", "left", "first"] "numbers_of_set" (defScope s_numbers_of_set) T.f_numbers_of_set cdv A outer s H E).nox (defBody s_numbers_of_set) t :=
  ⟨_, (pss_cons (ps_set (i := 2) sc_numbers_of_set.nd rfl (.inl rfl) (pe_lst pa_nil))
      (pss_cons (ps_for PassesOwn.never rfl (pi_range3 (by rfl) T.z_range (pa_cons (pv 0) (pa_cons pe_int (pa_cons (pe_un un_neg pe_int) pa_nil)))) (pg_name (i := 3) sc_numbers_of_set.nd rfl (.inl rfl)) (pss_cons (ps_set (i := 4) sc_numbers_of_set.nd rfl (.inl rfl) (pe_call (ok_greatest_first T) (hr.mono (by omega)) (by rfl) T.g_greatest_first T.F_greatest_first.kp T.b_greatest_first .nil pass0 (pa_cons (pv 3) (pa_cons (pv 1) pa_nil))))
      (pss_cons (ps_expr (pe_bm PySem.F.plainAttrs_list PySem.F.slot_list_append PySem.F.type_list_append mt_append (pv 2) (pa_cons (pv 4) pa_nil)))
      (pss_one (ps_set (i := 1) sc_numbers_of_set.nd rfl (.inl rfl) (pe_op op_nSub (pv 1) (pe_callBfun cr_comb (by rfl) T.m_comb (pa_cons (pv 4) (pa_cons (pv 3) pa_nil)))))))))
      (pss_one (ps_ret (pv 2)))))⟩
theorem ok_numbers_of_set (T : Txt K mg) : FnOk P w K mg base CX0 32 T.f_numbers_of_set T.d_numbers_of_set ["size", "number"] spSetN := by
  refine T.F_numbers_of_set.ok sc_numbers_of_set (fun vs H Q E h => ?_) (fun cdv A outer s H vs Q E hr h => ⟨_, (dv_numbers_of_set T hr).2, ?_⟩)
  · obtain ⟨k, n, b, rfl, _⟩ := h
    rfl
  · obtain ⟨k, n, b, rfl, hk, hn, hb, q⟩ := h
    refine ⟨Nat.zero_le _, fun p hp => ?_⟩
    refine ⟨_, rfl, 1, rfl, (k : Int), 0, -1, _, rfl, RgC.neg (by omega) (by omega) (by omega) (by omega), ?_⟩
    refine for_down (n := k) (by omega) (fun i σ H' => Same H H' ∧ ∃ m l y z, σ = [some (.int (k : Int)), some (.int ((m : Nat) : Int)), some (.ref p), y, z] ∧ m ≤ n ∧ l ++ cas (k - i) m = cas k n ∧ l.length = i ∧ H' p = some (.lst (natsV l)))
      ⟨same_new hp, n, [], none, none, rfl, Nat.le_refl _, rfl, rfl, upd_same⟩ ?_ ?_
    · rintro i σ H' hi ⟨sm, m, l, y, z, rfl, hm, hl, hli, hpp⟩
      obtain ⟨j, hj⟩ : ∃ j, k - i = j + 1 := ⟨k - i - 1, by omega⟩
      rw [hj] at hl ⊢
      have hc := top_le j m
      have hc2 := top_most j m
      have htb : top j m < 2 ^ (b + 5) := by
        rw [Nat.pow_add]
        omega
      have hbk : (b + 5) * (j + 1) ≤ (b + 5) * 20 := Nat.mul_le_mul_left _ (by omega)
      refine ⟨_, rfl, _, rfl, j, m, b, rfl, by omega, by omega, hb, ?_⟩
      refine ⟨_, rfl, .inl ⟨rfl, _, .of hpp⟩, _, rfl, p, _, _, rfl, rfl, hpp, ?_, ?_⟩
      · rw [natsV_length, hli]
        exact small1000 (by omega)
      · have hnew : ∀ b' o, H b' = some o → b' ≠ p := fun b' o e => ne_of_none e hp
        refine ⟨_, rfl, _, rfl, _, rfl, top j m, j + 1, b + 5, rfl, htb, by omega, by omega, m, ch (top j m) (j + 1), rfl, rfl, hc, ?_⟩
        refine ⟨fun b' o e => ?_, m - ch (top j m) (j + 1), l ++ [top j m], _, _, rfl, by omega, ?_, ?_, ?_⟩
        · rw [upd_ne (hnew b' o e)]
          exact sm b' o e
        · rw [show k - (i + 1) = j by omega, List.append_assoc]
          exact hl
        · rw [List.length_append, hli]
          rfl
        · rw [upd_same, natsV_app]
    · rintro σ H' ⟨sm, m, l, y, z, rfl, hm, hl, hli, hpp⟩
      rw [Nat.sub_self] at hl
      have hl : l ++ [] = cas k n := hl
      rw [List.append_nil] at hl
      subst hl
      exact ⟨_, rfl, q H' p sm hp hpp⟩
theorem size_yes {k : Nat} {lo hi : Int} (h1 : lo ≤ (k : Int)) (h2 : (k : Int) ≤ hi) : sizeV (.int (k : Int)) lo hi = true := by
  show (decide ((0 : Int) ≤ k) && (decide (lo ≤ (k : Int)) && decide ((k : Int) ≤ hi))) = true
  rw [decide_eq_true (show (0 : Int) ≤ k by omega), decide_eq_true h1, decide_eq_true h2]
  rfl
theorem num_yes (n : Nat) : numV (.int (n : Int)) = true := decide_eq_true (show (0 : Int) ≤ n by omega)
def spSetOf : Sp := fun vs H Q _ => ∃ k n b : Nat, vs = [.int (k : Int), .int (n : Int)] ∧ k ≤ 20 ∧ n < 2 ^ b ∧ b ≤ 7000 ∧ (k = 0 → n = 0) ∧
  ∀ H' p, Same H H' → H p = none → H' p = some (.lst (natsV (cas k n))) → Q (.ref p) H'
noncomputable def dv_set_of {P : Program} {w : World} {K : PySem.W.Frag} {mg : Str → Option Value} {base : Heap} (T : Txt K mg)  {cdv : Value} {A : Around} {outer : List Env} {s : Shared} {H : Hp} {E : XK}
    (hr : Room 32 (A.deeper (envOfC "set_of" (defScope s_set_of) s.heap.objs.size T.f_set_of cdv))) :
    Σ' t : TS, PSs (cxOf CX0 P w K mg base ["size", "number"] "set_of" (defScope s_set_of) T.f_set_of cdv A outer s H E).nox (defBody s_set_of) t :=
  ⟨_, (pss_cons (ps_if (pt_not (pt_val (pe_call (ok_is_size T) (hr.mono (by omega)) (by rfl) T.g_is_size T.F_is_size.kp T.b_is_size .nil pass0 (pa_cons (pv 0) (pa_cons pe_int (pa_cons (pe_glob (v := .int 20) rfl T.c_GREATEST_SIZE.2 ⟨_, rfl⟩) pa_nil)))))) (pss_one ps_never) pss_nil)
      (pss_cons (ps_if (pt_not (pt_val (pe_call (ok_is_number T) (hr.mono (by omega)) (by rfl) T.g_is_number T.F_is_number.kp T.b_is_number .nil pass0 (pa_cons (pv 1) pa_nil)))) (pss_one ps_never) pss_nil)
      (pss_cons (ps_if (PW.pt (pw_and (pt_cmpR op_nEq (pv 0) pe_int (nomark _)) (pw_and1 (pt_cmpR op_nGt (pv 1) pe_int (nomark _))))) (pss_one ps_never) pss_nil)
      (pss_one (ps_ret (pe_call (ok_numbers_of_set T) (hr.mono (by omega)) (by rfl) T.g_numbers_of_set T.F_numbers_of_set.kp T.b_numbers_of_set .nil pass0 (pa_cons (pv 0) (pa_cons (pv 1) pa_nil))))))))⟩
theorem ok_set_of (T : Txt K mg) : FnOk P w K mg base CX0 33 T.f_set_of T.d_set_of ["size", "number"] spSetOf := by
  refine T.F_set_of.ok sc_set_of (fun vs H Q E h => ?_) (fun cdv A outer s H vs Q E hr h => ⟨_, (dv_set_of T hr).2, ?_⟩)
  · obtain ⟨k, n, b, rfl, _⟩ := h
    rfl
  · obtain ⟨k, n, b, rfl, hk, hn, hb, h0, q⟩ := h
    refine ⟨_, rfl, _, 0, 20, rfl, kind_int _ _, ?_⟩
    rw [size_yes (by omega) (by omega)]
    refine ⟨true, rfl, iteF ?_⟩
    refine ⟨_, rfl, _, rfl, kind_int _ _, ?_⟩
    rw [num_yes]
    refine ⟨true, rfl, iteF ?_⟩
    refine ⟨_, rfl, k, 0, rfl, rfl, _, rfl, ?_⟩
    refine (fun key => dec2 (fun c => ⟨_, rfl, n, 0, rfl, rfl, _, rfl, decF (by have := h0 c; omega) key⟩) (fun c => iteF key)) ?_
    exact ⟨_, rfl, _, rfl, k, n, b, rfl, hk, hn, hb, q⟩
end
end Sh

/-! The sets beneath. -/
namespace Sh
open PySem PySem.Spec PyProof.Rows L2
theorem cut_to (xs : List V) (i : Nat) : cutV xs none (some (i : Int)) = xs.take i := by
  unfold cutV
  rw [HT.sIx_none, show HT.sIx xs.length xs.length (some (i : Int)) = min i xs.length from HT.sIx_nat _ _ _, List.drop_zero, Nat.sub_zero]
  by_cases h : i ≤ xs.length
  · rw [Nat.min_eq_left h]
  · rw [Nat.min_eq_right (by omega), List.take_of_length_le (Nat.le_refl _), List.take_of_length_le (by omega)]
theorem cut_from (xs : List V) (i : Nat) : cutV xs (some (i : Int)) none = xs.drop i := by
  unfold cutV
  rw [HT.sIx_none, show HT.sIx xs.length 0 (some (i : Int)) = min i xs.length from HT.sIx_nat _ _ _]
  by_cases h : i ≤ xs.length
  · rw [Nat.min_eq_left h]
    exact List.take_of_length_le (by rw [List.length_drop]; exact Nat.le_refl _)
  · rw [Nat.min_eq_right (by omega), Nat.sub_self, List.take_zero, List.drop_eq_nil_of_le (by omega)]
theorem natsV_take (l : List Nat) (i : Nat) : (natsV l).take i = natsV (l.take i) := by
  unfold natsV
  rw [List.map_take]
theorem natsV_drop (l : List Nat) (i : Nat) : (natsV l).drop i = natsV (l.drop i) := by
  unfold natsV
  rw [List.map_drop]
theorem natsV_append (l m : List Nat) : natsV l ++ natsV m = natsV (l ++ m) := by
  unfold natsV
  rw [List.map_append]
/-- the list at p holds new lists, one for each place of l, without that place's number -/
structure Beneath (H H' : Hp) (l : List Nat) (ps : List Addr) : Prop where
  len : ps.length = l.length
  at_ : ∀ i x, ps[i]? = some x → H' x = some (.lst (natsV (l.eraseIdx i))) ∧ H x = none
  nd : ps.Nodup
/-- some[:at] + some[at + 1:] -/
abbrev tWithout (K : PySem.W.Frag) (i j : Nat) : TE := tOp rCat (tSl (rSlL K) (tVar i) tNoPart (tPart (tVar j))) (tSl (rSlL K) (tVar i) (tPart (tOp rNAdd (tVar j) (tC (.int 1)))) tNoPart)
theorem lc_beneath {K : PySem.W.Frag} {vs : List Nat} {σ : L2.St} {H1 : Hp} {D a : Addr} {Qd : Hp → Prop} {l : List Nat} {m i j : Nat} (hm : m = l.length) (hz : l.length ≤ 1000) (ha : H1 a = some (.lst (natsV l))) (hD : H1 D = none)
    (hw : ∀ x, wipe ((wipe σ vs).set j (some x)) vs = wipe σ vs) (hi : ∀ x, ((wipe σ vs).set j (some x))[i]? = some (some (.ref a))) (hj : ∀ x, ((wipe σ vs).set j (some x))[j]? = some (some x))
    (hd : ∀ H' ps, Same H1 H' → H' D = some (.lst (ps.map V.ref)) → Beneath H1 H' l ps → D ∉ ps → Qd H') : LcW (Itr 0 m) (gName j) (tWithout K i j) vs σ H1 D Qd := by
  refine lc1_rangeN hm (fun n acc H' => Same H1 H' ∧ ∃ ps : List Addr, acc = ps.map V.ref ∧ (∀ n x, ps[n]? = some x → H' x = some (.lst (natsV (l.eraseIdx n))) ∧ H1 x = none ∧ x ≠ D) ∧ ps.Nodup)
    ⟨same_new hD, [], rfl, fun n x h => by simp at h, List.nodup_nil⟩ hw ?_ ?_
  · rintro n acc H' hn hl hDH ⟨sm, ps, rfl, hps, hnd⟩
    have haH := sm _ _ ha
    refine ⟨_, hi _, _, hj _, n, rfl, a, _, rfl, .of haH, fun p1 n1 => ?_⟩
    rw [cut_to, natsV_take]
    refine ⟨_, hi _, _, hj _, n, 1, rfl, rfl, ((n + 1 : Nat) : Int), rfl, a, natsV l, rfl, .of (by rw [upd_ne (ne_of_none haH n1)]; exact haH), fun p2 n2 => ?_⟩
    rw [cut_from, natsV_drop]
    have d12 : p1 ≠ p2 := fun e => by rw [e] at n2; rw [upd_same] at n2; cases n2
    refine ⟨p1, p2, _, _, rfl, rfl, by rw [upd_ne d12, upd_same], upd_same, ?_, fun p3 n3 => ?_⟩
    · rw [natsV_length, natsV_length, List.length_take, List.length_drop]
      exact Nat.le_of_lt (small1000 (by omega))
    · rw [natsV_append]
      have d23 : p3 ≠ p2 := fun e => by rw [e, upd_same] at n3; cases n3
      have f2 : (upd H' p1 (.lst (natsV (l.take n)))) p3 = none := by rw [upd_ne d23] at n3; exact n3
      have d13 : p3 ≠ p1 := fun e => by rw [e, upd_same] at f2; cases f2
      have f3 : H' p3 = none := by rw [upd_ne d13] at f2; exact f2
      have dD : ∀ q, H' q = none → D ≠ q := fun q z => ne_of_none hDH z
      have n2' : H' p2 = none := by rw [upd_ne d12.symm] at n2; exact n2
      have old : ∀ x o, H' x = some o → (upd (upd (upd H' p1 (.lst (natsV (l.take n)))) p2 (.lst (natsV (l.drop (n + 1))))) p3 (.lst (natsV (l.take n ++ l.drop (n + 1))))) x = some o := fun x o e => by
        rw [upd_ne (ne_of_none e f3), upd_ne (ne_of_none e n2'), upd_ne (ne_of_none e n1)]
        exact e
      refine LcN.put (old _ _ hDH) hl (small1000 (by omega)) ⟨fun b o e => ?_, ps ++ [p3], by rw [List.map_append]; rfl, fun k x hx => ?_, ?_⟩
      · rw [upd_ne (ne_of_none e hD)]
        exact old _ _ (sm b o e)
      · rw [List.length_map] at hl
        rcases Nat.lt_or_ge k ps.length with hk | hk
        · rw [List.getElem?_append_left hk] at hx
          obtain ⟨g1, g2, g3⟩ := hps k x hx
          exact ⟨by rw [upd_ne g3]; exact old _ _ g1, g2, g3⟩
        · rw [List.getElem?_append_right hk] at hx
          have hk0 : k - ps.length = 0 := by
            refine Nat.lt_one_iff.mp ?_
            have := (List.getElem?_eq_some_iff.mp hx).1
            simpa using this
          rw [hk0] at hx
          have ex : p3 = x := Option.some.inj hx
          subst ex
          have ek : k = n := by omega
          subst ek
          refine ⟨?_, ?_, (dD _ f3).symm⟩
          · rw [upd_ne (dD _ f3).symm, upd_same, List.eraseIdx_eq_take_drop_succ]
          · cases q : H1 p3 with
            | none => rfl
            | some o =>
              rw [sm _ _ q] at f3
              cases f3
      · refine List.nodup_append.mpr ⟨hnd, List.nodup_cons.mpr ⟨List.not_mem_nil, List.nodup_nil⟩, fun x hx y hy e => ?_⟩
        have hy := List.mem_singleton.mp hy
        obtain ⟨k, hk⟩ := List.getElem?_of_mem hx
        obtain ⟨g1, _⟩ := hps k x hk
        rw [e, hy, f3] at g1
        cases g1
  · rintro acc H' hl hDH ⟨sm, ps, rfl, hps, hnd⟩
    rw [List.length_map] at hl
    refine hd H' ps sm hDH ⟨hl, fun n x h => ⟨(hps n x h).1, (hps n x h).2.1⟩, hnd⟩ fun hx => ?_
    obtain ⟨k, hk⟩ := List.getElem?_of_mem hx
    exact (hps k D hk).2.2 rfl
section
variable {P : Program} {w : World} {K : PySem.W.Frag} {mg : Str → Option Value} {base : Heap}
def spBeneath : Sp := fun vs H Q _ => ∃ (a : Addr) (l : List Nat), vs = [.ref a] ∧ H a = some (.lst (natsV l)) ∧ Down l ∧ l.length ≤ 20 ∧
  ∀ H' p ps, Same H H' → H p = none → H' p = some (.lst (ps.map V.ref)) → Beneath H H' l ps → p ∉ ps → Q (.ref p) H'
noncomputable def dv_beneath {P : Program} {w : World} {K : PySem.W.Frag} {mg : Str → Option Value} {base : Heap} (T : Txt K mg)  {cdv : Value} {A : Around} {outer : List Env} {s : Shared} {H : Hp} {E : XK}
    (hr : Room 4 (A.deeper (envOfC "beneath" (defScope s_beneath) s.heap.objs.size T.f_beneath cdv))) :
    Σ' t : TS, PSs (cxOf CX0 P w K mg base ["some", "place"] "beneath" (defScope s_beneath) T.f_beneath cdv A outer s H E).nox (defBody s_beneath) t :=
  ⟨_, (pss_cons (ps_expr (pe_call (ok_check_set T) (hr.mono (by omega)) (by rfl) T.g_check_set T.F_check_set.kp T.b_check_set .nil pass0 (pa_cons (pv 0) pa_nil)))
      (pss_one (ps_ret (pe_lc (g := gName 1) (own := [("place", 1)]) rfl sc_beneath.nd (pi_range1 (by rfl) T.z_range (pa_cons (pe_callB (call_lenK (K := K)) (by rfl) T.z_len PySem.boot_len (pa_cons (pv 0) pa_nil)) pa_nil)) (blkOk_by (own := [("place", 1)]) (N := ["some", "place"]) (sc := defScope s_beneath) (by decide +kernel)) (fun _ _ _ _ _ => by exact (pg_name (i := 1) sc_beneath.nd rfl (.inl rfl))) (fun _ _ _ _ _ => by exact pts_nil) (fun _ _ _ _ _ => by exact (pe_op op_cat (pe_slice (sl_listK (K := K)) (pv 0) po_none (po_some (pv 1))) (pe_slice (sl_listK (K := K)) (pv 0) (po_some (pe_op op_nAdd (pv 1) pe_int)) po_none)))))))⟩
theorem ok_beneath (T : Txt K mg) : FnOk P w K mg base CX0 5 T.f_beneath T.d_beneath ["some"] spBeneath := by
  refine T.F_beneath.ok sc_beneath (fun vs H Q E h => ?_) (fun cdv A outer s H vs Q E hr h => ⟨_, (dv_beneath T hr).2, ?_⟩)
  · obtain ⟨a, l, rfl, _⟩ := h
    rfl
  · obtain ⟨a, l, rfl, ha, hd, h20, q⟩ := h
    refine ⟨_, rfl, a, l, rfl, ha, hd, h20, fun H1 sm1 => ?_⟩
    have ha1 := sm1 _ _ ha
    refine ⟨_, rfl, a, natsV l, rfl, .inl (.of ha1), ?_⟩
    rw [natsV_length]
    refine ⟨(l.length : Int), rfl, by omega, by omega, fun D nD => ?_⟩
    refine lc_beneath rfl (by omega) ha1 nD (fun _ => rfl) (fun _ => rfl) (fun _ => rfl) fun H' ps sm hDH hb hnD => ?_
    refine q H' D ps (sm1.trans sm) (sm1.free nD) hDH ⟨hb.len, fun i x h => ⟨(hb.at_ i x h).1, sm1.free (hb.at_ i x h).2⟩, hb.nd⟩ hnD
end
end Sh

/-! The law's small defs: cells, draws, values, picks, places. -/
namespace Sh
open PySem PySem.Spec PyProof.Rows L2
/-- a number of a script is not too great -/
abbrev Bounded (ns : List Int) : Prop := ∀ z ∈ ns, Builtin.Int.intBits z ≤ 1048576
def many : Nat := 10 ^ 40
section
variable {P : Program} {w : World} {K : PySem.W.Frag} {mg : Str → Option Value} {base : Heap}
def spCellAt (K : PySem.W.Frag) : Sp := fun vs H Q _ => ∃ (a : Addr) (ns : List Int) (k : Nat), vs = [.ref a, .int (k : Int)] ∧ SqL K H a (ns.map V.int) ∧ ∀ z : Int, (z = 0 ∨ z ∈ ns) → Q (.int z) H
noncomputable def dv__law_cell_at {P : Program} {w : World} {K : PySem.W.Frag} {mg : Str → Option Value} {base : Heap} (T : Txt K mg)  {cdv : Value} {A : Around} {outer : List Env} {s : Shared} {H : Hp} {E : XK}
    (hr : Room 0 (A.deeper (envOfC "_law_cell_at" (defScope s__law_cell_at) s.heap.objs.size T.f__law_cell_at cdv))) :
    Σ' t : TS, PSs (cxOf CX0 P w K mg base ["_law_script", "_law_k"] "_law_cell_at" (defScope s__law_cell_at) T.f__law_cell_at cdv A outer s H E).nox (defBody s__law_cell_at) t :=
  ⟨_, (pss_cons (ps_if (pt_cmpR op_nLt (pv 1) (pe_callB (call_lenK (K := K)) (by rfl) T.z_len PySem.boot_len (pa_cons (pv 0) pa_nil)) (nomark _)) (pss_one (ps_ret (pe_ix (ix_listK (K := K)) (pv 0) (pv 1) (fun _ _ => rfl)))) pss_nil)
      (pss_one (ps_ret pe_int)))⟩
theorem ok__law_cell_at (T : Txt K mg) : FnOk P w K mg base CX0 1 T.f__law_cell_at T.d__law_cell_at ["_law_script", "_law_k"] (spCellAt K) := by
  refine T.F__law_cell_at.ok sc__law_cell_at (fun vs H Q E h => ?_) (fun cdv A outer s H vs Q E hr h => ⟨_, (dv__law_cell_at T hr).2, ?_⟩)
  · obtain ⟨a, ns, k, rfl, _⟩ := h
    rfl
  · obtain ⟨a, ns, k, rfl, hS, q⟩ := h
    refine ⟨_, rfl, _, rfl, a, _, rfl, .inl hS, k, _, rfl, rfl, _, rfl, dec2 (fun c => ?_) (fun c => ?_)⟩
    · rw [List.length_map] at c
      have g : (ns.map V.int)[k]? = some (.int ns[k]) := by
        rw [List.getElem?_map, List.getElem?_eq_getElem c]
        rfl
      exact ⟨_, rfl, _, rfl, a, _, k, _, rfl, rfl, hS, atI_nat g, q _ (.inr (List.getElem_mem c))⟩
    · exact q 0 (.inl rfl)
def primes : List Int := [1000003, 1000033, 1000037, 1000039, 1000081, 1000099, 1000117, 1000121, 1000133, 1000151, 1000159, 1000171, 1000183, 1000187, 1000193, 1000199]
theorem primes_pos : ∀ p ∈ primes, 0 < p := by decide
def spDraw : Sp := fun vs H Q _ => ∃ (c : Int) (k m : Nat), vs = [.int c, .int (k : Int), .int (m : Int)] ∧ Builtin.Int.intBits c ≤ 10000000 ∧ k ≤ 1000 ∧ 0 < m ∧ ∀ (z : Nat) H', z < m → Same H H' → Q (.int (z : Int)) H'
theorem mul_bits {i j : Int} {a b : Nat} (h1 : Builtin.Int.intBits i ≤ a) (h2 : Builtin.Int.intBits j ≤ b) : Builtin.Int.intBits (i * j) ≤ a + b := by
  refine intBits_le ?_
  rw [Int.natAbs_mul, Nat.pow_add]
  have x := Nat.lt_of_lt_of_le (natAbs_lt_pow_bits i) (Nat.pow_le_pow_right (by decide) h1)
  have y := Nat.lt_of_lt_of_le (natAbs_lt_pow_bits j) (Nat.pow_le_pow_right (by decide) h2)
  exact Nat.mul_lt_mul'' x y
theorem add_bits {i : Int} {n a : Nat} (h1 : Builtin.Int.intBits i ≤ a) (h2 : n < 2 ^ a) : Builtin.Int.intBits (i + (n : Int)) ≤ a + 1 := by
  refine intBits_le ?_
  have x := Nat.lt_of_lt_of_le (natAbs_lt_pow_bits i) (Nat.pow_le_pow_right (by decide) h1)
  rw [Nat.pow_succ]
  omega
def spValue : Sp := fun vs H Q _ => ∃ (c : Int) (k m : Nat), vs = [.int c, .int (k : Int), .int (m : Int)] ∧ Builtin.Int.intBits c ≤ 1048576 ∧ k ≤ 1000 ∧ 0 < m ∧ m ≤ many ∧ ∀ (z : Nat) H', z < many → Same H H' → Q (.int (z : Int)) H'
def spWhole : Sp := fun vs H Q _ => ∃ i : Int, vs = [.int i] ∧ Q (.bl true) H
def spPicks : Sp := fun vs H Q _ => ∃ n k b : Nat, vs = [.int (n : Int), .int (k : Int)] ∧ n < 2 ^ b ∧ b ≤ 10000 ∧ k ≤ 30 ∧ Q (.int ((ch n k : Nat) : Int)) H
/-- what is ahead of a set, place by place -/
def terms : List Nat → List Nat
  | [] => []
  | a :: l => ch a (l.length + 1) :: terms l
theorem terms_sum : ∀ l : List Nat, (terms l).sum = num l
  | [] => rfl
  | a :: l => by
    show ((ch a (l.length + 1)) :: terms l).sum = ch a (l.length + 1) + num l
    rw [List.sum_cons, terms_sum l]
theorem terms_length : ∀ l : List Nat, (terms l).length = l.length
  | [] => rfl
  | a :: l => congrArg Nat.succ (terms_length l)
theorem terms_get : ∀ {l : List Nat} {i n : Nat}, l[i]? = some n → (terms l)[i]? = some (ch n (l.length - i))
  | a :: l, 0, n, h => by
    have e : a = n := Option.some.inj h
    subst e
    rfl
  | a :: l, i + 1, n, h => by
    have h : l[i]? = some n := h
    have ih := terms_get h
    show (terms l)[i]? = some (ch n (l.length + 1 - (i + 1)))
    rw [ih, Nat.add_sub_add_right]
theorem sum_nats : ∀ l : List Nat, (l.map fun n : Nat => (n : Int)).sum = ((l.sum : Nat) : Int)
  | [] => rfl
  | a :: l => by
    rw [List.map_cons, List.sum_cons, List.sum_cons, sum_nats l]
    rfl
def spPlace : Sp := fun vs H Q _ => ∃ (a : Addr) (l : List Nat) (b : Nat), vs = [.ref a] ∧ H a = some (.lst (natsV l)) ∧ l.length ≤ 30 ∧ (∀ x ∈ l, x < 2 ^ b) ∧ b ≤ 10000 ∧ ∀ H', Same H H' → Q (.int ((num l : Nat) : Int)) H'
end
end Sh

/-! Lists of numbers, and lists of such, as data. -/
namespace Sh
open PySem PySem.Spec PyProof.Rows L2
def dataN (l : List Nat) : PyData := .list ((l.map fun n : Nat => (n : Int)).map PyData.int)
def dataNN (ls : List (List Nat)) : PyData := .list (ls.map dataN)
theorem cast_inj : ∀ {l m : List Nat}, (l.map fun n : Nat => (n : Int)) = (m.map fun n : Nat => (n : Int)) → l = m
  | [], [], _ => rfl
  | [], _ :: _, h => by simp at h
  | _ :: _, [], h => by simp at h
  | a :: l, b :: m, h => by
    rw [List.map_cons, List.map_cons, List.cons.injEq] at h
    rw [cast_inj h.2, Int.ofNat.inj h.1]
theorem eqvAll_ints : ∀ ns ms : List Int, PyData.eqvAll (ns.map PyData.int) (ms.map PyData.int) = decide (ns = ms)
  | [], [] => by simp [PyData.eqvAll]
  | [], _ :: _ => by simp [PyData.eqvAll]
  | _ :: _, [] => by simp [PyData.eqvAll]
  | n :: r, k :: q => by
    rw [List.map_cons, List.map_cons, PyData.eqvAll, eqvAll_ints r q]
    by_cases h : n = k <;> simp [h, PyData.eqv]
theorem eqv_N (l m : List Nat) : PyData.eqv (dataN l) (dataN m) = decide (l = m) := by
  unfold dataN
  rw [PyData.eqv, eqvAll_ints]
  exact decide_eq_decide.mpr ⟨cast_inj, fun h => by rw [h]⟩
theorem shaped_N (l : List Nat) : SeqAt.shaped (dataN l) = true := PySem.W.shaped_ints _
theorem canLay_N (l : List Nat) : (dataN l).canLay0 = true := SeqAt.canLay_of_shaped (shaped_N l)
theorem canLay_all : ∀ ls : List (List Nat), PyData.canLayAll0 (ls.map dataN) = true
  | [] => by simp [PyData.canLayAll0]
  | l :: ls => by rw [List.map_cons, PyData.canLayAll0, canLay_N, canLay_all ls]; rfl
theorem depth_N (l : List Nat) : (dataN l).depth = 1 := by
  unfold dataN
  rw [PyData.depth, PySem.W.depth_ints]
theorem depth_all : ∀ ls : List (List Nat), PyData.depthAll (ls.map dataN) ≤ 1
  | [] => by simp [PyData.depthAll]
  | l :: ls => by
    rw [List.map_cons, PyData.depthAll, depth_N]
    have := depth_all ls
    omega
theorem shaped_NN (ls : List (List Nat)) : SeqAt.shaped (dataNN ls) = true := by
  have h1 : (dataNN ls).canLay0 = true := by
    unfold dataNN
    rw [PyData.canLay0]
    exact canLay_all ls
  have h2 : (dataNN ls).depth ≤ 64 := by
    unfold dataNN
    rw [PyData.depth]
    have := depth_all ls
    omega
  unfold SeqAt.shaped
  rw [h1, decide_eq_true h2]
  rfl
theorem eqv_NN (ls : List (List Nat)) : PyData.eqv (dataNN ls) (dataNN ls) = true := SeqAt.eqv_refl _ (SeqAt.canLay_of_shaped (shaped_NN ls))
section
variable {K : PySem.W.Frag} {H : Hp}
theorem dp_N {a : Addr} {l : List Nat} (h : SqL K H a (natsV l)) : Dp K H (.ref a) (dataN l) := dp_list (by rw [← natsV_ints]; exact h)
theorem dp_all : ∀ {ps : List Addr} {ls : List (List Nat)}, ps.length = ls.length → (∀ (i : Nat) (p : Addr) (l : List Nat), ps[i]? = some p → ls[i]? = some l → SqL K H p (natsV l)) → DpAll K H (ps.map V.ref) (ls.map dataN)
  | [], [], _, _ => .nil
  | [], _ :: _, h, _ => by simp at h
  | _ :: _, [], h, _ => by simp at h
  | p :: ps, l :: ls, h, f => .cons (dp_N (f 0 p l rfl rfl)) (dp_all (by simpa using h) fun i q m h1 h2 => f (i + 1) q m h1 h2)
theorem dp_NN {a : Addr} {ps : List Addr} {ls : List (List Nat)} (h : SqL K H a (ps.map V.ref)) (hl : ps.length = ls.length) (f : ∀ (i : Nat) (p : Addr) (l : List Nat), ps[i]? = some p → ls[i]? = some l → SqL K H p (natsV l)) :
    Dp K H (.ref a) (dataNN ls) := .lst h (dp_all hl f)
theorem eqN {x y : V} {Q : VK} {a b : Addr} {l m : List Nat} (hx : x = .ref a) (hy : y = .ref b) (ha : SqL K H a (natsV l)) (hb : SqL K H b (natsV m)) (q : Q (.bl (decide (l = m))) H) : rEqD K x y H Q := by
  subst hx hy
  exact ⟨dataN l, dataN m, dp_N ha, dp_N hb, shaped_N l, shaped_N m, by rw [eqv_N]; exact q⟩
theorem neN {x y : V} {Q : VK} {a b : Addr} {l m : List Nat} (hx : x = .ref a) (hy : y = .ref b) (ha : SqL K H a (natsV l)) (hb : SqL K H b (natsV m)) (q : Q (.bl (!decide (l = m))) H) : rNeD K x y H Q := by
  subst hx hy
  exact ⟨dataN l, dataN m, dp_N ha, dp_N hb, shaped_N l, shaped_N m, by rw [eqv_N]; exact q⟩
end
theorem strict_one : ∀ {xs ys : List Int}, xs.Pairwise (· < ·) → ys.Pairwise (· < ·) → (∀ k, k ∈ xs ↔ k ∈ ys) → xs = ys
  | [], [], _, _, _ => rfl
  | [], y :: ys, _, _, h => absurd ((h y).mpr List.mem_cons_self) (by simp)
  | x :: xs, [], _, _, h => absurd ((h x).mp List.mem_cons_self) (by simp)
  | x :: xs, y :: ys, hx, hy, h => by
    have h1 := List.pairwise_cons.mp hx
    have h2 := List.pairwise_cons.mp hy
    have e : x = y := by
      have a := (h x).mp List.mem_cons_self
      have b := (h y).mpr List.mem_cons_self
      rcases List.mem_cons.mp a with a | a
      · exact a
      · rcases List.mem_cons.mp b with b | b
        · exact b.symm
        · have p := h1.1 y b
          have q := h2.1 x a
          omega
    subst e
    refine congrArg (x :: ·) (strict_one h1.2 h2.2 fun k => ⟨fun m => ?_, fun m => ?_⟩)
    · rcases List.mem_cons.mp ((h k).mp (List.mem_cons_of_mem _ m)) with z | z
      · have := h1.1 k m
        omega
      · exact z
    · rcases List.mem_cons.mp ((h k).mpr (List.mem_cons_of_mem _ m)) with z | z
      · have := h2.1 k m
        omega
      · exact z
/-- the members of a falling list in order, turned round, are the list -/
theorem sorted_back {l : List Nat} {ns : List Int} (hd : Down l) (hp : ns.Pairwise (· < ·)) (hm : ∀ k : Int, k ∈ ns ↔ decide (k ∈ l.map fun n : Nat => (n : Int)) = true) : (ns.map V.int).reverse = natsV l := by
  have e : ns = (l.map fun n : Nat => (n : Int)).reverse := by
    refine strict_one hp ?_ fun k => ?_
    · rw [List.pairwise_reverse, List.pairwise_map]
      exact hd.imp fun h => by omega
    · rw [hm k, decide_eq_true_eq, List.mem_reverse]
  rw [e, ← List.map_reverse, List.reverse_reverse, natsV_ints]
end Sh

/-! The law of sets by numbers: states, sets told, numbers told. -/
namespace Sh
open PySem PySem.Spec PyProof.Rows L2
theorem zero_bits : Builtin.Int.intBits 0 ≤ 1048576 := by decide +kernel
theorem cell_bits {ns : List Int} (hb : Bounded ns) {z : Int} (h : z = 0 ∨ z ∈ ns) : Builtin.Int.intBits z ≤ 1048576 := by
  rcases h with rfl | h
  · exact zero_bits
  · exact hb z h
theorem menu {ms : List Nat} {z : Nat} (h : z < ms.length) : (natsV ms)[z]? = some (.int ((ms[z] : Nat) : Int)) := natsV_get (List.getElem?_eq_getElem h)
theorem mod_bits {c p : Int} {b : Nat} (hp : 0 < p) (hb : p.natAbs < 2 ^ b) : Builtin.Int.intBits (c % p) ≤ b := by
  have h1 := Int.emod_nonneg c (show p ≠ 0 by omega)
  have h2 := Int.emod_lt_of_pos c hp
  refine intBits_le (Nat.lt_of_le_of_lt ?_ hb)
  omega
theorem if_either {p : Prop} [Decidable p] {σ : L2.St} {H : Hp} {Q : VK} {x y : V} (h : ∀ v, (v = x ∨ v = y) → Q v H) : if decide p = true then tC x σ H Q else tC y σ H Q :=
  dec2 (fun _ => h x (.inl rfl)) (fun _ => h y (.inr rfl))
def cutL {α : Type} (xs : List α) (lo hi : Option Int) : List α := (xs.drop (HT.sIx xs.length 0 lo)).take (HT.sIx xs.length xs.length hi - HT.sIx xs.length 0 lo)
theorem cutV_map {α : Type} (f : α → V) (xs : List α) (lo hi : Option Int) : cutV (xs.map f) lo hi = (cutL xs lo hi).map f := by
  unfold cutV cutL
  rw [List.length_map, List.map_take, List.map_drop]
theorem mem_cutL {α : Type} {xs : List α} {lo hi : Option Int} {x : α} (h : x ∈ cutL xs lo hi) : x ∈ xs := List.mem_of_mem_drop (List.mem_of_mem_take h)
theorem cutL_length {α : Type} (xs : List α) (lo hi : Option Int) : (cutL xs lo hi).length ≤ xs.length := by
  unfold cutL
  rw [List.length_take, List.length_drop]
  omega
theorem get_map {α : Type} {f : α → V} {xs : List α} {i : Nat} {x : V} (h : (xs.map f)[i]? = some x) : ∃ z, xs[i]? = some z ∧ x = f z := by
  rw [List.getElem?_map] at h
  obtain ⟨z, h1, h2⟩ := Option.map_eq_some_iff.mp h
  exact ⟨z, h1, h2.symm⟩
section
variable {P : Program} {w : World} {K : PySem.W.Frag} {mg : Str → Option Value} {base : Heap}
/-- new pairs: a size from 1 to 20, a number below 10 ** 40 -/
def Pairs (K : PySem.W.Frag) (H' : Hp) (ts : List Addr) : Prop := ∀ t ∈ ts, ∃ k n : Nat, SqT K H' t [.int (k : Int), .int (n : Int)] ∧ 1 ≤ k ∧ k ≤ 20 ∧ n < many
def spStates (K : PySem.W.Frag) : Sp := fun vs H Q _ => ∃ (a : Addr) (ns : List Int), vs = [.ref a] ∧ SqL K H a (ns.map V.int) ∧ ns.length ≤ 63 ∧ Bounded ns ∧
  ∀ H' p ts, Same H H' → H p = none → H' p = some (.lst (ts.map V.ref)) → Pairs K H' ts → Q (.ref p) H'
theorem pairs_same {H H' : Hp} {ts : List Addr} (sm : Same H H') (h : Pairs K H ts) : Pairs K H' ts := fun t ht =>
  let ⟨k, n, h1, h2⟩ := h t ht
  ⟨k, n, same_tup sm h1, h2⟩
end
end Sh

/-! The law's own set of a number, and the counts moved. -/
namespace Sh
open PySem PySem.Spec PyProof.Rows L2
/-- how far a search by halves has come: m lies below low and twice the step -/
def Wide (j m low s : Nat) : Prop := (∃ e, s = 2 ^ e ∧ m < ch (low + 2 * 2 ^ e) (j + 1)) ∨ (s = 0 ∧ m < ch (low + 1) (j + 1))
theorem wide_half {j m low low' s : Nat} (h : Wide j m low s) (h0 : 0 < s) (hm : m < ch (low' + s) (j + 1)) : Wide j m low' (s / 2) := by
  rcases h with ⟨e, rfl, _⟩ | ⟨rfl, _⟩
  · cases e with
    | zero => exact .inr ⟨rfl, hm⟩
    | succ e =>
      refine .inl ⟨e, ?_, ?_⟩
      · rw [Nat.pow_succ, Nat.mul_div_cancel _ (by decide)]
      · rw [Nat.pow_succ, Nat.mul_comm] at hm
        exact hm
  · exact absurd h0 (Nat.lt_irrefl 0)
theorem wide_in {j m low s : Nat} (h : Wide j m low s) (h0 : 0 < s) : m < ch (low + s + s) (j + 1) := by
  rcases h with ⟨e, rfl, q⟩ | ⟨rfl, _⟩
  · rw [Nat.add_assoc, ← Nat.two_mul]
    exact q
  · exact absurd h0 (Nat.lt_irrefl 0)
theorem wide_end {j m low : Nat} (h : Wide j m low 0) : m < ch (low + 1) (j + 1) := by
  rcases h with ⟨e, q, _⟩ | ⟨_, q⟩
  · exact absurd q.symm (Nat.ne_of_gt (Nat.two_pow_pos e))
  · exact q
/-- the count of a set, its picks of d more -/
def mvd (d : Int) : List Nat → Nat
  | [] => 0
  | a :: l => (if l.length + 1 ≤ a then ch a (((l.length + 1 : Nat) : Int) + d).toNat else 0) + mvd d l
theorem mvd_up : ∀ l : List Nat, mvd 1 l = ov l
  | [] => rfl
  | a :: l => by
    show (if l.length + 1 ≤ a then ch a (((l.length + 1 : Nat) : Int) + 1).toNat else 0) + mvd 1 l = ch a (l.length + 2) + ov l
    have e : (((l.length + 1 : Nat) : Int) + 1).toNat = l.length + 2 := by omega
    rw [mvd_up l, e]
    split
    · rfl
    · rw [ch_few (by omega)]
theorem mvd_down : ∀ l : List Nat, mvd (-1) l = un l
  | [] => rfl
  | a :: l => by
    show (if l.length + 1 ≤ a then ch a (((l.length + 1 : Nat) : Int) + (-1)).toNat else 0) + mvd (-1) l = (if l.length + 1 ≤ a then ch a l.length else 0) + un l
    have e : (((l.length + 1 : Nat) : Int) + (-1)).toNat = l.length := by omega
    rw [mvd_down l, e]
theorem drop_mvd {d : Int} {l : List Nat} {i x : Nat} (h : l[i]? = some x) : mvd d (l.drop i) = (if l.length - i ≤ x then ch x (((l.length - i : Nat) : Int) + d).toNat else 0) + mvd d (l.drop (i + 1)) := by
  obtain ⟨hi, rfl⟩ := List.getElem?_eq_some_iff.mp h
  rw [List.drop_eq_getElem_cons hi]
  have e : (l.drop (i + 1)).length + 1 = l.length - i := by
    rw [List.length_drop]
    omega
  show (if (l.drop (i + 1)).length + 1 ≤ _ then ch _ ((((l.drop (i + 1)).length + 1 : Nat) : Int) + d).toNat else 0) + _ = _
  rw [e]
section
variable {P : Program} {w : World} {K : PySem.W.Frag} {mg : Str → Option Value} {base : Heap}
def spLawSet : Sp := fun vs H Q _ => ∃ k n b : Nat, vs = [.int (k : Int), .int (n : Int)] ∧ k ≤ 20 ∧ n < 2 ^ b ∧ b ≤ 7000 ∧
  ∀ H' p, Same H H' → H p = none → H' p = some (.lst (natsV (cas k n))) → Q (.ref p) H'
def spMoved : Sp := fun vs H Q _ => ∃ (k n b : Nat) (d : Int), vs = [.int (k : Int), .int (n : Int), .int d] ∧ k ≤ 20 ∧ n < 2 ^ b ∧ b ≤ 7000 ∧ (d = 1 ∨ d = -1) ∧ ∀ H', Same H H' → Q (.int ((mvd d (cas k n) : Nat) : Int)) H'
end
end Sh

/-! The fewest within, the most that hold. -/
namespace Sh
open PySem PySem.Spec PyProof.Rows L2
section
variable {P : Program} {w : World} {K : PySem.W.Frag} {mg : Str → Option Value} {base : Heap}
/-- a number is no refusal -/
def spCheckNumber : Sp := fun vs H Q _ => ∃ n : Nat, vs = [.int (n : Int)] ∧ Q .non H
noncomputable def dv_check_number {P : Program} {w : World} {K : PySem.W.Frag} {mg : Str → Option Value} {base : Heap} (T : Txt K mg)  {cdv : Value} {A : Around} {outer : List Env} {s : Shared} {H : Hp} {E : XK}
    (hr : Room 1 (A.deeper (envOfC "check_number" (defScope s_check_number) s.heap.objs.size T.f_check_number cdv))) :
    Σ' t : TS, PSs (cxOf CX0 P w K mg base ["many"] "check_number" (defScope s_check_number) T.f_check_number cdv A outer s H E).nox (defBody s_check_number) t :=
  ⟨_, (pss_one (ps_if (pt_not (pt_val (pe_call (ok_is_number T) (hr.mono (by omega)) (by rfl) T.g_is_number T.F_is_number.kp T.b_is_number .nil pass0 (pa_cons (pv 0) pa_nil)))) (pss_one ps_never) pss_nil))⟩
theorem ok_check_number (T : Txt K mg) : FnOk P w K mg base CX0 2 T.f_check_number T.d_check_number ["many"] spCheckNumber := by
  refine T.F_check_number.ok sc_check_number (fun vs H Q E h => ?_) (fun cdv A outer s H vs Q E hr h => ⟨_, (dv_check_number T hr).2, ?_⟩)
  · obtain ⟨n, rfl, _⟩ := h
    rfl
  · obtain ⟨n, rfl, q⟩ := h
    refine ⟨_, rfl, _, rfl, kind_int _ _, ?_⟩
    rw [num_yes]
    exact ⟨true, rfl, iteF q⟩
def spFirstSets : Sp := fun vs H Q _ => ∃ (k n b : Nat) (d : Int), vs = [.int (k : Int), .int (n : Int), .int d] ∧ 1 ≤ k ∧ k ≤ 20 ∧ n < 2 ^ b ∧ b ≤ 6900 ∧ (d = 1 ∨ d = -1) ∧ ∀ H', Same H H' → Q (.int ((mvd d (cas k n) : Nat) : Int)) H'
noncomputable def dv_first_sets_at {P : Program} {w : World} {K : PySem.W.Frag} {mg : Str → Option Value} {base : Heap} (T : Txt K mg)  {cdv : Value} {A : Around} {outer : List Env} {s : Shared} {H : Hp} {E : XK}
    (hr : Room 32 (A.deeper (envOfC "first_sets_at" (defScope s_first_sets_at) s.heap.objs.size T.f_first_sets_at cdv))) :
    Σ' t : TS, PSs (cxOf CX0 P w K mg base ["size", "many", "by", "total", "place", "each", "left"] "first_sets_at" (defScope s_first_sets_at) T.f_first_sets_at cdv A outer s H E).nox (defBody s_first_sets_at) t :=
  ⟨_, (pss_cons (ps_set (i := 3) sc_first_sets_at.nd rfl (.inl rfl) pe_int)
      (pss_cons (ps_for PassesOwn.never rfl (pi_enum (by rfl) T.z_enumerate (pa_cons (pe_call (ok_numbers_of_set T) (hr.mono (by omega)) (by rfl) T.g_numbers_of_set T.F_numbers_of_set.kp T.b_numbers_of_set .nil pass0 (pa_cons (pv 0) (pa_cons (pv 1) pa_nil))) pa_nil)) (pg_tupK (K := K) rfl (pgs_cons (pg_name (i := 4) sc_first_sets_at.nd rfl (.inl rfl)) (pgs_cons (pg_name (i := 5) sc_first_sets_at.nd rfl (.inl rfl)) pgs_nil))) (pss_cons (ps_set (i := 6) sc_first_sets_at.nd rfl (.inl rfl) (pe_op op_nSub (pv 0) (pv 4)))
      (pss_one (ps_if (pt_cmpR op_nGe (pv 5) (pv 6) (nomark _)) (pss_one (ps_set (i := 3) sc_first_sets_at.nd rfl (.inl rfl) (pe_op op_nAdd (pv 3) (pe_callBfun cr_comb (by rfl) T.m_comb (pa_cons (pv 5) (pa_cons (pe_op op_iAdd (pv 6) (pv 2)) pa_nil)))))) pss_nil))))
      (pss_one (ps_ret (pv 3)))))⟩
theorem ok_first_sets_at (T : Txt K mg) : FnOk P w K mg base CX0 33 T.f_first_sets_at T.d_first_sets_at ["size", "many", "by"] spFirstSets := by
  refine T.F_first_sets_at.ok sc_first_sets_at (fun vs H Q E h => ?_) (fun cdv A outer s H vs Q E hr h => ⟨_, (dv_first_sets_at T hr).2, ?_⟩)
  · obtain ⟨k, n, b, d, rfl, _⟩ := h
    rfl
  · obtain ⟨k, n, b, d, rfl, hk1, hk, hn, hb, hd, q⟩ := h
    refine ⟨_, rfl, _, rfl, k, n, b, rfl, hk, hn, by omega, fun H1 p s1 np hp => ?_⟩
    refine ⟨p, natsV (cas k n), rfl, .of hp, ?_⟩
    have hlen := cas_length k n
    refine for2_enum (xs := natsV (cas k n)) (fun i σ H' => Same H1 H' ∧ ∃ f y z u, σ = [some (.int (k : Int)), some (.int (n : Int)), some (.int d), some (.int ((f : Nat) : Int)), y, z, u] ∧ f + mvd d ((cas k n).drop i) = mvd d (cas k n)) ⟨Same.refl _, 0, none, none, none, rfl, by rw [Nat.zero_add]; rfl⟩
      (fun i σ H' h => .of (h.1 _ _ hp)) (fun i σ H' T o nT h => ⟨same_fresh _ _ _ _ nT h.1, h.2⟩) ?_ ?_
    · rintro i x σ H' hx ⟨sm, f, y, z, u, rfl, hf⟩
      obtain ⟨a, ha, rfl⟩ := get_natsV hx
      have hi := (List.getElem?_eq_some_iff.mp ha).1
      rw [hlen] at hi
      have hab : a < 2 ^ (b + 5) := by
        have := cas_bound (List.mem_of_getElem? ha)
        rw [Nat.pow_add]
        omega
      have hdr := drop_mvd (d := d) ha
      rw [hlen] at hdr
      refine ⟨_, rfl, _, rfl, k, i, rfl, rfl, by omega, _, rfl, _, rfl, a, k - i, rfl, rfl, _, rfl, dec2 (fun c => ?_) (fun c => ?_)⟩
      · rw [if_pos c] at hdr
        obtain ⟨r, hr⟩ : ∃ r : Nat, ((k - i : Nat) : Int) + d = (r : Int) := ⟨(((k - i : Nat) : Int) + d).toNat, by omega⟩
        rw [hr, Int.toNat_natCast] at hdr
        refine ⟨_, rfl, _, rfl, _, rfl, _, rfl, ((k - i : Nat) : Int), d, rfl, rfl, ?_⟩
        rw [hr]
        have hr21 : r ≤ 21 := by omega
        have hbr : (b + 5) * r ≤ (b + 5) * 21 := Nat.mul_le_mul_left _ hr21
        refine ⟨a, r, b + 5, rfl, hab, by omega, by omega, f, ch a r, rfl, rfl, sm, _, _, _, _, rfl, ?_⟩
        omega
      · rw [if_neg c] at hdr
        refine ⟨sm, _, _, _, _, rfl, ?_⟩
        omega
    · rintro σ H' ⟨sm, f, y, z, u, rfl, hf⟩
      rw [natsV_length, List.drop_length] at hf
      have hf : f = mvd d (cas k n) := hf
      subst hf
      exact ⟨_, rfl, q H' (s1.trans sm)⟩
def spUnder : Sp := fun vs H Q _ => ∃ k n b : Nat, vs = [.int (k : Int), .int (n : Int)] ∧ 1 ≤ k ∧ k ≤ 20 ∧ n < 2 ^ b ∧ b ≤ 6000 ∧ ∀ H', Same H H' → Q (.int ((underN k n : Nat) : Int)) H'
def spOver : Sp := fun vs H Q _ => ∃ k n b : Nat, vs = [.int (k : Int), .int (n : Int)] ∧ 1 ≤ k ∧ k ≤ 19 ∧ n < 2 ^ b ∧ b ≤ 6000 ∧ ∀ H', Same H H' → Q (.int ((overN k n : Nat) : Int)) H'
noncomputable def dv_under {P : Program} {w : World} {K : PySem.W.Frag} {mg : Str → Option Value} {base : Heap} (T : Txt K mg)  {cdv : Value} {A : Around} {outer : List Env} {s : Shared} {H : Hp} {E : XK}
    (hr : Room 33 (A.deeper (envOfC "under" (defScope s_under) s.heap.objs.size T.f_under cdv))) :
    Σ' t : TS, PSs (cxOf CX0 P w K mg base ["size", "many"] "under" (defScope s_under) T.f_under cdv A outer s H E).nox (defBody s_under) t :=
  ⟨_, (pss_cons (ps_if (pt_not (pt_val (pe_call (ok_is_size T) (hr.mono (by omega)) (by rfl) T.g_is_size T.F_is_size.kp T.b_is_size .nil pass0 (pa_cons (pv 0) (pa_cons pe_int (pa_cons (pe_glob (v := .int 20) rfl T.c_GREATEST_SIZE.2 ⟨_, rfl⟩) pa_nil)))))) (pss_one ps_never) pss_nil)
      (pss_cons (ps_expr (pe_call (ok_check_number T) (hr.mono (by omega)) (by rfl) T.g_check_number T.F_check_number.kp T.b_check_number .nil pass0 (pa_cons (pv 1) pa_nil)))
      (pss_one (ps_ret (pe_call (ok_first_sets_at T) (hr.mono (by omega)) (by rfl) T.g_first_sets_at T.F_first_sets_at.kp T.b_first_sets_at .nil pass0 (pa_cons (pv 0) (pa_cons (pv 1) (pa_cons (pe_un un_neg pe_int) pa_nil))))))))⟩
theorem ok_under (T : Txt K mg) : FnOk P w K mg base CX0 34 T.f_under T.d_under ["size", "many"] spUnder := by
  refine T.F_under.ok sc_under (fun vs H Q E h => ?_) (fun cdv A outer s H vs Q E hr h => ⟨_, (dv_under T hr).2, ?_⟩)
  · obtain ⟨k, n, b, rfl, _⟩ := h
    rfl
  · obtain ⟨k, n, b, rfl, hk1, hk, hn, hb, q⟩ := h
    refine ⟨_, rfl, _, 1, 20, rfl, kind_int _ _, ?_⟩
    rw [size_yes (by omega) (by omega)]
    refine ⟨true, rfl, iteF ?_⟩
    refine ⟨_, rfl, n, rfl, ?_⟩
    refine ⟨_, rfl, _, rfl, 1, rfl, k, n, b, -1, rfl, hk1, hk, hn, by omega, .inr rfl, fun H' sm => ?_⟩
    rw [mvd_down]
    exact q H' sm
noncomputable def dv_over {P : Program} {w : World} {K : PySem.W.Frag} {mg : Str → Option Value} {base : Heap} (T : Txt K mg)  {cdv : Value} {A : Around} {outer : List Env} {s : Shared} {H : Hp} {E : XK}
    (hr : Room 33 (A.deeper (envOfC "over" (defScope s_over) s.heap.objs.size T.f_over cdv))) :
    Σ' t : TS, PSs (cxOf CX0 P w K mg base ["size", "many"] "over" (defScope s_over) T.f_over cdv A outer s H E).nox (defBody s_over) t :=
  ⟨_, (pss_cons (ps_if (pt_not (pt_val (pe_call (ok_is_size T) (hr.mono (by omega)) (by rfl) T.g_is_size T.F_is_size.kp T.b_is_size .nil pass0 (pa_cons (pv 0) (pa_cons pe_int (pa_cons (pe_op op_iSub (pe_glob (v := .int 20) rfl T.c_GREATEST_SIZE.2 ⟨_, rfl⟩) pe_int) pa_nil)))))) (pss_one ps_never) pss_nil)
      (pss_cons (ps_expr (pe_call (ok_check_number T) (hr.mono (by omega)) (by rfl) T.g_check_number T.F_check_number.kp T.b_check_number .nil pass0 (pa_cons (pv 1) pa_nil)))
      (pss_one (ps_ret (pe_call (ok_first_sets_at T) (hr.mono (by omega)) (by rfl) T.g_first_sets_at T.F_first_sets_at.kp T.b_first_sets_at .nil pass0 (pa_cons (pv 0) (pa_cons (pv 1) (pa_cons pe_int pa_nil))))))))⟩
theorem ok_over (T : Txt K mg) : FnOk P w K mg base CX0 34 T.f_over T.d_over ["size", "many"] spOver := by
  refine T.F_over.ok sc_over (fun vs H Q E h => ?_) (fun cdv A outer s H vs Q E hr h => ⟨_, (dv_over T hr).2, ?_⟩)
  · obtain ⟨k, n, b, rfl, _⟩ := h
    rfl
  · obtain ⟨k, n, b, rfl, hk1, hk, hn, hb, q⟩ := h
    refine ⟨_, rfl, 20, 1, rfl, rfl, _, 1, 19, rfl, kind_int _ _, ?_⟩
    rw [size_yes (by omega) (by omega)]
    refine ⟨true, rfl, iteF ?_⟩
    refine ⟨_, rfl, n, rfl, ?_⟩
    refine ⟨_, rfl, _, rfl, k, n, b, 1, rfl, hk1, by omega, hn, by omega, .inl rfl, fun H' sm => ?_⟩
    rw [mvd_up]
    exact q H' sm
end
end Sh

/-! The least size of which there are too many. -/
namespace Sh
open PySem PySem.Spec PyProof.Rows L2
/-- of counts from size k on: the least size of which there are too many, and the most -/
def leastFrom (k : Nat) : List Nat → Option (Nat × Nat)
  | a :: b :: l => if overN k a < b then some (k + 1, overN k a) else leastFrom (k + 1) (b :: l)
  | [_] => none
  | [] => none
def leastN (r : List Nat) : Option (Nat × Nat) := leastFrom 1 r
theorem least_step {k i a b : Nat} {r : List Nat} (h1 : r[i]? = some a) (h2 : r[i + 1]? = some b) : leastFrom k (r.drop i) = if overN k a < b then some (k + 1, overN k a) else leastFrom (k + 1) (r.drop (i + 1)) := by
  obtain ⟨hi, rfl⟩ := List.getElem?_eq_some_iff.mp h1
  obtain ⟨hj, rfl⟩ := List.getElem?_eq_some_iff.mp h2
  rw [List.drop_eq_getElem_cons hi, List.drop_eq_getElem_cons hj]
  rfl
theorem least_end {k i : Nat} {r : List Nat} (h : r.length ≤ i + 1) : leastFrom k (r.drop i) = none := by
  have hl : (r.drop i).length ≤ 1 := by
    rw [List.length_drop]
    omega
  match r.drop i, hl with
  | [], _ => rfl
  | [_], _ => rfl
/-- the same, of ints -/
def exN (r : List Nat) : Option (Int × Int) := (leastN r).map fun p => ((p.1 : Int), (p.2 : Int))
theorem exN_none {r : List Nat} : exN r = none ↔ leastN r = none := Option.map_eq_none_iff
theorem exN_some {r : List Nat} {s l : Nat} (h : leastN r = some (s, l)) : exN r = some ((s : Int), (l : Int)) := by
  unfold exN
  rw [h]
  rfl
theorem exN_nat {r : List Nat} {i j : Int} (h : exN r = some (i, j)) : 0 ≤ i ∧ 0 ≤ j := by
  unfold exN at h
  obtain ⟨p, _, e⟩ := Option.map_eq_some_iff.mp h
  have e1 := congrArg Prod.fst e
  have e2 := congrArg Prod.snd e
  simp only at e1 e2
  omega
/-- what None, or a new pair, is -/
inductive IsT (H : Hp) : V → Option (Int × Int) → Prop
  | nil : IsT H .non none
  | two {a : Addr} {i j : Int} (h : H a = some (.tup [.int i, .int j])) : IsT H (.ref a) (some (i, j))
theorem IsT.same {H H' : Hp} {v : V} {o : Option (Int × Int)} (h : IsT H v o) (s : Same H H') : IsT H' v o := by
  cases h with
  | nil => exact .nil
  | two h => exact .two (s _ _ h)
theorem IsT.dec {H : Hp} {v : V} {o : Option (Int × Int)} (h : IsT H v o) : decide (v = V.non) = decide (o = none) := by
  cases h with
  | nil => rfl
  | two h => rfl
theorem list_yes {l : List Nat} (h : l.length ≤ 20) : listV (natsV l) = true := by
  unfold listV
  rw [natsV_length, decide_eq_true h, Bool.true_and, List.all_eq_true]
  intro v hv
  unfold natsV at hv
  obtain ⟨n, _, rfl⟩ := List.mem_map.mp hv
  exact num_yes n
section
variable {P : Program} {w : World} {K : PySem.W.Frag} {mg : Str → Option Value} {base : Heap}
/-- a row, of counts below 2^b -/
structure Rw (H : Hp) (a : Addr) (r : List Nat) (b : Nat) : Prop where
  at_ : H a = some (.lst (natsV r))
  few : r.length ≤ 20
  small : ∀ x ∈ r, x < 2 ^ b
  bits : b ≤ 6000
theorem Rw.same {H H' : Hp} {a : Addr} {r : List Nat} {b : Nat} (h : Rw H a r b) (s : Same H H') : Rw H' a r b := ⟨s _ _ h.at_, h.few, h.small, h.bits⟩
def spLeast : Sp := fun vs H Q _ => ∃ (a : Addr) (r : List Nat) (b : Nat), vs = [.ref a] ∧ H a = some (.lst (natsV r)) ∧ r.length ≤ 20 ∧ (∀ x ∈ r, x < 2 ^ b) ∧ b ≤ 6000 ∧
  ∀ v H', Same H H' → IsT H' v (exN r) → Q v H'
noncomputable def dv_first_excess {P : Program} {w : World} {K : PySem.W.Frag} {mg : Str → Option Value} {base : Heap} (T : Txt K mg)  {cdv : Value} {A : Around} {outer : List Env} {s : Shared} {H : Hp} {E : XK}
    (hr : Room 34 (A.deeper (envOfC "first_excess" (defScope s_first_excess) s.heap.objs.size T.f_first_excess cdv))) :
    Σ' t : TS, PSs (cxOf CX0 P w K mg base ["row", "size", "can_be"] "first_excess" (defScope s_first_excess) T.f_first_excess cdv A outer s H E).nox (defBody s_first_excess) t :=
  ⟨_, (pss_cons (ps_for PassesOwn.never rfl (pi_range2 (by rfl) T.z_range (pa_cons pe_int (pa_cons (pe_callB (call_lenK (K := K)) (by rfl) T.z_len PySem.boot_len (pa_cons (pv 0) pa_nil)) pa_nil))) (pg_name (i := 1) sc_first_excess.nd rfl (.inl rfl)) (pss_cons (ps_set (i := 2) sc_first_excess.nd rfl (.inl rfl) (pe_call (ok_over T) (hr.mono (by omega)) (by rfl) T.g_over T.F_over.kp T.b_over .nil pass0 (pa_cons (pv 1) (pa_cons (pe_ix (ix_listK (K := K)) (pv 0) (pe_op op_nSub (pv 1) pe_int) (fun _ _ => rfl)) pa_nil))))
      (pss_one (ps_if (pt_cmpR op_nGt (pe_ix (ix_listK (K := K)) (pv 0) (pv 1) (fun _ _ => rfl)) (pv 2) (nomark _)) (pss_one (ps_ret (pe_tup (pa_cons (pe_op op_nAdd (pv 1) pe_int) (pa_cons (pv 2) pa_nil))))) pss_nil))))
      (pss_one (ps_ret pe_non)))⟩
theorem ok_first_excess (T : Txt K mg) : FnOk P w K mg base CX0 35 T.f_first_excess T.d_first_excess ["row"] spLeast := by
  refine T.F_first_excess.ok sc_first_excess (fun vs H Q E h => ?_) (fun cdv A outer s H vs Q E hr h => ⟨_, (dv_first_excess T hr).2, ?_⟩)
  · obtain ⟨a, r, b, rfl, _⟩ := h
    rfl
  · obtain ⟨a, r, b, rfl, ha, h20, hx, hb, q⟩ := h
    refine ⟨_, rfl, a, natsV r, rfl, .inl (.of ha), ?_⟩
    rw [natsV_length]
    refine ⟨1, (r.length : Int), rfl, ⟨by omega, by omega, by omega, by omega⟩, ?_⟩
    refine for_range (fun i σ H' => Same H H' ∧ ∃ y z, σ = [some (.ref a), y, z] ∧ leastN r = leastFrom (1 + i) (r.drop i)) ⟨Same.refl _, none, none, rfl, rfl⟩ ?_ ?_
    · rintro i σ H' hi ⟨sm, y, z, rfl, hl⟩
      have e1 : (1 : Int) + ((i : Nat) : Int) = ((1 + i : Nat) : Int) := rfl
      rw [e1]
      have hi1 : i < r.length := by omega
      have hi2 : i + 1 < r.length := by omega
      have g1 : r[i]? = some r[i] := List.getElem?_eq_getElem hi1
      have g2 : r[i + 1]? = some r[i + 1] := List.getElem?_eq_getElem hi2
      rw [least_step g1 g2] at hl
      have hb1 := hx _ (List.getElem_mem hi1)
      generalize r[i] = x at hl g1 hb1
      generalize r[i + 1] = x2 at hl g2
      have haH := sm _ _ ha
      refine ⟨_, rfl, _, rfl, _, rfl, 1 + i, 1, rfl, rfl, by omega, a, natsV r, ((1 + i - 1 : Nat) : Int), _, rfl, rfl, .of haH, atI_nat (natsV_get (by rw [Nat.add_sub_cancel_left]; exact g1)), 1 + i, x, b, rfl, by omega, by omega, hb1, hb, fun H1 s1 => ?_⟩
      have ha1 := s1 _ _ haH
      refine ⟨_, rfl, _, rfl, a, natsV r, ((1 + i : Nat) : Int), _, rfl, rfl, .of ha1, atI_nat (natsV_get (by rw [Nat.add_comm]; exact g2)), _, rfl, x2, overN (1 + i) x, rfl, rfl, _, rfl, dec2 (fun c => ?_) (fun c => ?_)⟩
      · rw [if_pos c] at hl
        refine ⟨_, rfl, 1 + i, 1, rfl, rfl, _, rfl, (by show 2 ≤ sizeLine; decide), fun t nt => ?_⟩
        have s2 := sm.trans s1
        exact q _ _ (s2.trans (same_new nt)) (exN_some hl ▸ .two upd_same)
      · rw [if_neg c] at hl
        exact ⟨sm.trans s1, _, _, rfl, hl⟩
    · rintro σ H' ⟨sm, y, z, rfl, hl⟩
      rw [least_end (by omega)] at hl
      exact q _ H' sm (exN_none.mpr hl ▸ .nil)
end
end Sh

/-! The answers: Can, Barred, what they show. -/
namespace Sh
open PySem PySem.Spec PyProof.Rows L2
theorem IsT.p {K : PySem.W.Frag} {H : Hp} {v : V} {o : Option (Int × Int)} (h : IsT H v o) : IsP K H v o := by
  cases h with
  | nil => exact .none
  | two h => exact .some (.of h)
theorem ms_ : ¬ (("most" : Str) = "size") := by decide +kernel
theorem sm_ : ¬ (("size" : Str) = "most") := by decide +kernel
/-- the fields of a Barred -/
def bf (i j : Int) : List (Str × V) := putF "most" (.int j) (putF "size" (.int i) [])
theorem bf_size (i j : Int) : (bf i j).lookup ("size" : Str) = some (.int i) := by
  unfold bf
  rw [lookup_putF, if_neg sm_, lookup_putF, if_pos rfl]
theorem bf_most (i j : Int) : (bf i j).lookup ("most" : Str) = some (.int j) := by
  unfold bf
  rw [lookup_putF, if_pos rfl]
theorem bf_no (i j : Int) {m : Str} (h1 : ¬ m = "most") (h2 : ¬ m = "size") : (bf i j).lookup m = none := by
  unfold bf
  rw [lookup_putF, if_neg h1, lookup_putF, if_neg h2]
  rfl
theorem bf_len (i j : Int) : (bf i j).length ≤ 2 := Nat.le_trans (length_putF _ _ _) (Nat.succ_le_succ (length_putF _ _ _))
/-- tuples of two ints -/
def Tps (H : Hp) (qs : List (Addr × Int × Int)) : Prop := ∀ q ∈ qs, H q.1 = some (.tup [.int q.2.1, .int q.2.2])
abbrev refsT (qs : List (Addr × Int × Int)) : List V := qs.map fun q => V.ref q.1
theorem Tps.same {H H' : Hp} {qs : List (Addr × Int × Int)} (h : Tps H qs) (s : Same H H') : Tps H' qs := fun q hq => s _ _ (h q hq)
theorem Tps.add {H : Hp} {qs : List (Addr × Int × Int)} {t : Addr} {i j : Int} (h : Tps H qs) (n : H t = none) : Tps (upd H t (.tup [.int i, .int j])) (qs ++ [(t, i, j)]) := fun q hq => by
  rcases List.mem_append.mp hq with hq | hq
  · exact same_new n _ _ (h q hq)
  · rw [List.mem_singleton.mp hq]
    exact upd_same
theorem Tps.put {H H' : Hp} {qs : List (Addr × Int × Int)} {t : Addr} {i j : Int} (h : Tps H qs) (s : Same H H') (g : H' t = some (.tup [.int i, .int j])) : Tps H' (qs ++ [(t, i, j)]) := fun q hq => by
  rcases List.mem_append.mp hq with hq | hq
  · exact s _ _ (h q hq)
  · rw [List.mem_singleton.mp hq]
    exact g
theorem Tps.app {H : Hp} {qs rs : List (Addr × Int × Int)} (h : Tps H qs) (g : Tps H rs) : Tps H (qs ++ rs) := fun q hq => (List.mem_append.mp hq).elim (h q) (g q)
theorem rw_take {r : List Nat} {H : Hp} {c : Addr} {n b : Nat} (h : H c = some (.lst (natsV (r.take n)))) (h20 : r.length ≤ 20) (hs : ∀ x ∈ r, x < 2 ^ b) (hb : b ≤ 6000) : Rw H c (r.take n) b :=
  ⟨h, by rw [List.length_take]; omega, fun x hx => hs x (List.mem_of_mem_take hx), hb⟩
theorem rw_lit {H : Hp} {e : Addr} {r : List Nat} (h : H e = some (.lst (natsV r))) (h20 : r.length ≤ 20) (hs : ∀ x ∈ r, x < 1024) : Rw H e r 10 := ⟨h, h20, hs, by decide⟩
section
variable {P : Program} {w : World} {K : PySem.W.Frag} {mg : Str → Option Value} {base : Heap}
/-- an answer as it stands: a Can, or a Barred with two ints -/
def Ans (T : Txt K mg) (H : Hp) (x : Addr) : Option (Int × Int) → Prop
  | none => ∃ dx, H x = some (.ins T.k_Can dx [])
  | some (i, j) => ∃ dx, H x = some (.ins T.k_Barred dx (bf i j))
theorem Ans.same {T : Txt K mg} {H H' : Hp} {x : Addr} {o : Option (Int × Int)} (h : Ans T H x o) (s : Same H H') : Ans T H' x o := by
  cases o with
  | none =>
    obtain ⟨dx, h⟩ := h
    exact ⟨dx, s _ _ h⟩
  | some p =>
    obtain ⟨i, j⟩ := p
    obtain ⟨dx, h⟩ := h
    exact ⟨dx, s _ _ h⟩
def spBarredInit (T : Txt K mg) : Sp := fun vs H Q _ => ∃ (p dx : Addr) (i j : Int), vs = [.ref p, .int i, .int j] ∧ H p = some (.ins T.k_Barred dx []) ∧
  ∀ H' : Hp, (∀ b, b ≠ p → H' b = H b) → H' p = some (.ins T.k_Barred dx (bf i j)) → Q .non H'
noncomputable def dv_Barred___init__ {P : Program} {w : World} {K : PySem.W.Frag} {mg : Str → Option Value} {base : Heap} (T : Txt K mg)  {cdv : Value} {A : Around} {outer : List Env} {s : Shared} {H : Hp} {E : XK}
    (hr : Room 0 (A.deeper (envOfC "Barred.__init__" (defScope s_Barred___init__) s.heap.objs.size T.f_Barred___init__ cdv))) :
    Σ' t : TS, PSs (cxOf CX0 P w K mg base ["self", "size", "most"] "Barred.__init__" (defScope s_Barred___init__) T.f_Barred___init__ cdv A outer s H E).nox (defBody s_Barred___init__) t :=
  ⟨_, (pss_cons (ps_fld (pv 0) (pv 1) rfl)
      (pss_one (ps_fld (pv 0) (pv 2) rfl)))⟩
theorem ok_Barred___init__ (T : Txt K mg) : FnOk P w K mg base CX0 1 T.f_Barred___init__ T.d_Barred___init__ ["self", "size", "most"] (spBarredInit T) := by
  refine T.F_Barred___init__.ok sc_Barred___init__ (fun vs H Q E h => ?_) (fun cdv A outer s H vs Q E hr h => ⟨_, (dv_Barred___init__ T hr).2, ?_⟩)
  · obtain ⟨p, dx, i, j, rfl, _⟩ := h
    rfl
  · obtain ⟨p, dx, i, j, rfl, hp, q⟩ := h
    refine ⟨_, rfl, _, rfl, p, T.k_Barred, dx, [], rfl, hp, T.C_Barred, T.n_Barred_size, (by show 0 < 1000; decide), ?_⟩
    refine ⟨_, rfl, _, rfl, p, T.k_Barred, dx, _, rfl, upd_same, T.C_Barred, T.n_Barred_most, (by show 1 < 1000; decide), ?_⟩
    exact q _ (fun b hb => by rw [upd_ne hb, upd_ne hb]) upd_same
/-- what a new Barred leaves -/
theorem made_barred {T : Txt K mg} {H H' : Hp} {x dx : Addr} {i j : Int} (nx : H x = none) (nd : H dx = none) (ne : dx ≠ x) (h1 : ∀ b, b ≠ x → H' b = (upd (upd H dx (.own x)) x (.ins T.k_Barred dx [])) b)
    (h2 : H' x = some (.ins T.k_Barred dx (bf i j))) : Same H H' ∧ Ans T H' x (some (i, j)) :=
  ⟨fun b o e => by
    have hb : b ≠ x := ne_of_none e nx
    rw [h1 b hb, upd_ne hb, upd_ne (ne_of_none e nd)]
    exact e, dx, h2⟩
theorem made_can {T : Txt K mg} {H : Hp} {x dx : Addr} (nx : H x = none) (nd : H dx = none) : Same H (upd (upd H dx (.own x)) x (.ins T.k_Can dx [])) ∧ Ans T (upd (upd H dx (.own x)) x (.ins T.k_Can dx [])) x none :=
  ⟨fun b o e => by
    rw [upd_ne (ne_of_none e nx), upd_ne (ne_of_none e nd)]
    exact e, dx, upd_same⟩
/-- shows, of an answer o: whether the row's is the same -/
def spShows (T : Txt K mg) (yes : Option (Int × Int) → Prop) : Sp := fun vs H Q _ => ∃ (x a : Addr) (o : Option (Int × Int)) (r : List Nat) (b : Nat), vs = [.ref x, .ref a] ∧ yes o ∧ Ans T H x o ∧ Rw H a r b ∧
  ∀ H', Same H H' → Q (.bl (decide (exN r = o))) H'
abbrev isNone (o : Option (Int × Int)) : Prop := o = none
abbrev isPair (o : Option (Int × Int)) : Prop := ∃ i j, o = some (i, j)
noncomputable def dv_Can_shows {P : Program} {w : World} {K : PySem.W.Frag} {mg : Str → Option Value} {base : Heap} (T : Txt K mg)  {cdv : Value} {A : Around} {outer : List Env} {s : Shared} {H : Hp} {E : XK}
    (hr : Room 35 (A.deeper (envOfC "Can.shows" (defScope s_Can_shows) s.heap.objs.size T.f_Can_shows cdv))) :
    Σ' t : TS, PSs (cxOf CX0 P w K mg base ["self", "row"] "Can.shows" (defScope s_Can_shows) T.f_Can_shows cdv A outer s H E).nox (defBody s_Can_shows) t :=
  ⟨_, (pss_one (ps_ret (pe_and (pe_call (ok_is_row T) (hr.mono (by omega)) (by rfl) T.g_is_row T.F_is_row.kp T.b_is_row .nil pass0 (pa_cons (pv 1) pa_nil)) (pe_one (pe_cmpR op_isN (pe_call (ok_first_excess T) (hr.mono (by omega)) (by rfl) T.g_first_excess T.F_first_excess.kp T.b_first_excess .nil pass0 (pa_cons (pv 1) pa_nil)) pe_non (nomark _))))))⟩
theorem ok_Can_shows (T : Txt K mg) : FnOk P w K mg base CX0 36 T.f_Can_shows T.d_Can_shows ["self", "row"] (spShows T isNone) := by
  refine T.F_Can_shows.ok sc_Can_shows (fun vs H Q E h => ?_) (fun cdv A outer s H vs Q E hr h => ⟨_, (dv_Can_shows T hr).2, ?_⟩)
  · obtain ⟨x, a, o, r, b, rfl, _⟩ := h
    rfl
  · obtain ⟨x, a, o, r, b, rfl, rfl, hx, ha, q⟩ := h
    refine ⟨_, rfl, _, rfl, .inr ⟨a, natsV r, rfl, ha.at_, fun _ => natsV_kind, fun H1 s1 => ?_⟩⟩
    rw [list_yes ha.few]
    refine ⟨_, rfl, iteT ?_⟩
    refine ⟨_, rfl, a, r, b, rfl, s1 _ _ ha.at_, ha.few, ha.small, ha.bits, fun v H2 s2 hv => ⟨rfl, ?_⟩⟩
    rw [hv.dec]
    exact q H2 (s1.trans s2)
noncomputable def dv_Barred_shows {P : Program} {w : World} {K : PySem.W.Frag} {mg : Str → Option Value} {base : Heap} (T : Txt K mg)  {cdv : Value} {A : Around} {outer : List Env} {s : Shared} {H : Hp} {E : XK}
    (hr : Room 35 (A.deeper (envOfC "Barred.shows" (defScope s_Barred_shows) s.heap.objs.size T.f_Barred_shows cdv))) :
    Σ' t : TS, PSs (cxOf CX0 P w K mg base ["self", "row", "fields", "each"] "Barred.shows" (defScope s_Barred_shows) T.f_Barred_shows cdv A outer s H E).nox (defBody s_Barred_shows) t :=
  ⟨_, (pss_cons (ps_set (i := 2) sc_Barred_shows.nd rfl (.inl rfl) (pe_tup (pa_cons (pe_fldK (K := K) (pv 0) (by rfl)) (pa_cons (pe_fldK (K := K) (pv 0) (by rfl)) pa_nil))))
      (pss_cons (ps_if (pt_not (pt_val (pe_callB (cr_allK (K := K) rfl) (by rfl) T.z_all (by decide +kernel) (pa_cons (pe_lc (g := gName 3) (own := [("each", 3)]) rfl sc_Barred_shows.nd (pi_tup (pv 2)) (blkOk_by (own := [("each", 3)]) (N := ["self", "row", "fields", "each"]) (sc := defScope s_Barred_shows) (by decide +kernel)) (fun _ _ _ _ _ => by exact (pg_name (i := 3) sc_Barred_shows.nd rfl (.inl rfl))) (fun _ _ _ _ _ => by exact pts_nil) (fun _ _ _ _ _ => by exact (pe_call (ok_is_number T) (hr.mono (by omega)) (by rfl) T.g_is_number T.F_is_number.kp T.b_is_number .nil pass0 (pa_cons (pv 3) pa_nil)))) pa_nil)))) (pss_one (ps_ret pe_bl)) pss_nil)
      (pss_one (ps_ret (pe_and (pe_call (ok_is_row T) (hr.mono (by omega)) (by rfl) T.g_is_row T.F_is_row.kp T.b_is_row .nil pass0 (pa_cons (pv 1) pa_nil)) (pe_one (pe_cmpR (op_eqDK (K := K) hr.units) (pe_call (ok_first_excess T) (hr.mono (by omega)) (by rfl) T.g_first_excess T.F_first_excess.kp T.b_first_excess .nil pass0 (pa_cons (pv 1) pa_nil)) (pv 2) (nomark _))))))))⟩
theorem ok_Barred_shows (T : Txt K mg) : FnOk P w K mg base CX0 36 T.f_Barred_shows T.d_Barred_shows ["self", "row"] (spShows T isPair) := by
  refine T.F_Barred_shows.ok sc_Barred_shows (fun vs H Q E h => ?_) (fun cdv A outer s H vs Q E hr h => ⟨_, (dv_Barred_shows T hr).2, ?_⟩)
  · obtain ⟨x, a, o, r, b, rfl, _⟩ := h
    rfl
  · obtain ⟨x, a, o, r, b, rfl, ⟨i, j, rfl⟩, ⟨dx, hx⟩, ha, q⟩ := h
    refine ⟨_, rfl, x, T.k_Barred, dx, _, _, rfl, hx, T.C_Barred, T.n_Barred_size, bf_size _ _, _, rfl, x, T.k_Barred, dx, _, _, rfl, hx, T.C_Barred, T.n_Barred_most, bf_most _ _, (by show 2 ≤ sizeLine; decide), fun t nt => ?_⟩
    have s1 : Same H (upd H t (.tup [.int i, .int j])) := same_new nt
    have hT : ∀ {H2}, Same (upd H t (.tup [.int i, .int j])) H2 → SqT K H2 t [.int i, .int j] := fun s2 => .of (s2 _ _ upd_same)
    refine ⟨_, rfl, t, rfl, ⟨_, hT (Same.refl _)⟩, fun D nD => ?_⟩
    refine lc1_tup (xs := [.int i, .int j]) (fun k acc H' => Same (upd H t (.tup [.int i, .int j])) H' ∧ acc = (([.int i, .int j] : List V).take k).map fun v => .bl (numV v)) ⟨same_new nD, rfl⟩
      (fun k acc H' p => hT p.1) (fun _ => rfl) ?_ ?_
    · rintro k y acc H' hy hl hD ⟨sm, he⟩
      have hk := (List.getElem?_eq_some_iff.mp hy).1
      have hk2 : k < 2 := hk
      refine ⟨_, rfl, y, rfl, ?_, LcN.put hD hl (small1000 (by omega)) ⟨same_free sm nD, ?_⟩⟩
      · have hm := List.mem_of_getElem? hy
        simp only [List.mem_cons, List.not_mem_nil, or_false] at hm
        rcases hm with rfl | rfl <;> exact kind_int _ _
      · rw [List.take_add_one, hy, List.map_append, ← he]
        rfl
    · rintro acc H' hl hD ⟨sm, he⟩
      have he : acc = [.bl (numV (.int i)), .bl (numV (.int j))] := he
      subst he
      refine ⟨D, [numV (.int i), numV (.int j)], rfl, .of hD, _, rfl, ?_⟩
      by_cases c : 0 ≤ i ∧ 0 ≤ j
      · have e1 : numV (.int i) = true := decide_eq_true c.1
        have e2 : numV (.int j) = true := decide_eq_true c.2
        rw [e1, e2]
        refine iteF ?_
        have s2 := s1.trans sm
        refine ⟨_, rfl, _, rfl, .inr ⟨a, natsV r, rfl, s2 _ _ ha.at_, fun _ => natsV_kind, fun H3 s3 => ?_⟩⟩
        rw [list_yes ha.few]
        refine ⟨_, rfl, iteT ?_⟩
        have s4 := s2.trans s3
        exact ⟨_, rfl, a, r, b, rfl, s4 _ _ ha.at_, ha.few, ha.small, ha.bits, fun v H5 s5 hv => ⟨_, rfl, eqP hv.p (.some (hT (sm.trans (s3.trans s5)))) (q H5 (s4.trans s5))⟩⟩
      · have e1 : ¬ exN r = some (i, j) := fun z => c (exN_nat z)
        have q2 := q H' (s1.trans sm)
        rw [decide_eq_false e1] at q2
        have e2 : (numV (.int i) && (numV (.int j) && true)) = false := by
          rw [Bool.eq_false_iff]
          intro z
          rw [Bool.and_eq_true, Bool.and_eq_true] at z
          exact c ⟨of_decide_eq_true z.1, of_decide_eq_true z.2.1⟩
        show if (!([numV (.int i), numV (.int j)].all id)) = true then _ else _
        have e3 : [numV (.int i), numV (.int j)].all id = false := e2
        rw [e3]
        exact iteT q2
end
end Sh

/-! Rows: what is told, what a family has, how many of the next size. -/
namespace Sh
open PySem PySem.Spec PyProof.Rows L2
/-- whether the family of the row has the set -/
def hasN (r l : List Nat) : Bool := l.isEmpty || match r[l.length - 1]? with
  | some n => decide (num l < n)
  | none => false
section
variable {P : Program} {w : World} {K : PySem.W.Frag} {mg : Str → Option Value} {base : Heap}
def spCheckRow : Sp := fun vs H Q _ => ∃ (a : Addr) (r : List Nat) (b : Nat), vs = [.ref a] ∧ Rw H a r b ∧ ∀ H', Same H H' → Q .non H'
noncomputable def dv_check_row {P : Program} {w : World} {K : PySem.W.Frag} {mg : Str → Option Value} {base : Heap} (T : Txt K mg)  {cdv : Value} {A : Around} {outer : List Env} {s : Shared} {H : Hp} {E : XK}
    (hr : Room 3 (A.deeper (envOfC "check_row" (defScope s_check_row) s.heap.objs.size T.f_check_row cdv))) :
    Σ' t : TS, PSs (cxOf CX0 P w K mg base ["row"] "check_row" (defScope s_check_row) T.f_check_row cdv A outer s H E).nox (defBody s_check_row) t :=
  ⟨_, (pss_one (ps_if (pt_not (pt_val (pe_call (ok_is_row T) (hr.mono (by omega)) (by rfl) T.g_is_row T.F_is_row.kp T.b_is_row .nil pass0 (pa_cons (pv 0) pa_nil)))) (pss_one ps_never) pss_nil))⟩
theorem ok_check_row (T : Txt K mg) : FnOk P w K mg base CX0 4 T.f_check_row T.d_check_row ["row"] spCheckRow := by
  refine T.F_check_row.ok sc_check_row (fun vs H Q E h => ?_) (fun cdv A outer s H vs Q E hr h => ⟨_, (dv_check_row T hr).2, ?_⟩)
  · obtain ⟨a, r, b, rfl, _⟩ := h
    rfl
  · obtain ⟨a, r, b, rfl, ha, q⟩ := h
    refine ⟨_, rfl, _, rfl, .inr ⟨a, natsV r, rfl, ha.at_, fun _ => natsV_kind, fun H1 s1 => ?_⟩⟩
    rw [list_yes ha.few]
    exact ⟨true, rfl, iteF (q H1 s1)⟩
def spCheckFamily : Sp := fun vs H Q _ => ∃ (a : Addr) (r : List Nat) (b : Nat), vs = [.ref a] ∧ Rw H a r b ∧ leastN r = none ∧ ∀ H', Same H H' → Q .non H'
noncomputable def dv_check_family {P : Program} {w : World} {K : PySem.W.Frag} {mg : Str → Option Value} {base : Heap} (T : Txt K mg)  {cdv : Value} {A : Around} {outer : List Env} {s : Shared} {H : Hp} {E : XK}
    (hr : Room 35 (A.deeper (envOfC "check_family" (defScope s_check_family) s.heap.objs.size T.f_check_family cdv))) :
    Σ' t : TS, PSs (cxOf CX0 P w K mg base ["row"] "check_family" (defScope s_check_family) T.f_check_family cdv A outer s H E).nox (defBody s_check_family) t :=
  ⟨_, (pss_cons (ps_expr (pe_call (ok_check_row T) (hr.mono (by omega)) (by rfl) T.g_check_row T.F_check_row.kp T.b_check_row .nil pass0 (pa_cons (pv 0) pa_nil)))
      (pss_one (ps_if (pt_cmpR op_notN (pe_call (ok_first_excess T) (hr.mono (by omega)) (by rfl) T.g_first_excess T.F_first_excess.kp T.b_first_excess .nil pass0 (pa_cons (pv 0) pa_nil)) pe_non (nomark _)) (pss_one ps_never) pss_nil)))⟩
theorem ok_check_family (T : Txt K mg) : FnOk P w K mg base CX0 36 T.f_check_family T.d_check_family ["row"] spCheckFamily := by
  refine T.F_check_family.ok sc_check_family (fun vs H Q E h => ?_) (fun cdv A outer s H vs Q E hr h => ⟨_, (dv_check_family T hr).2, ?_⟩)
  · obtain ⟨a, r, b, rfl, _⟩ := h
    rfl
  · obtain ⟨a, r, b, rfl, ha, h0, q⟩ := h
    refine ⟨_, rfl, a, r, b, rfl, ha, fun H1 s1 => ?_⟩
    have ha1 := ha.same s1
    refine ⟨_, rfl, a, r, b, rfl, ha1.at_, ha.few, ha.small, ha.bits, fun v H2 s2 hv => ⟨rfl, _, rfl, ?_⟩⟩
    rw [exN_none.mpr h0] at hv
    cases hv
    exact decNT rfl (q H2 (s1.trans s2))
def spTold (T : Txt K mg) : Sp := fun vs H Q _ => ∃ (a : Addr) (r : List Nat) (b : Nat), vs = [.ref a] ∧ Rw H a r b ∧ ∀ H' x, Same H H' → Ans T H' x (exN r) → Q (.ref x) H'
noncomputable def dv_told {P : Program} {w : World} {K : PySem.W.Frag} {mg : Str → Option Value} {base : Heap} (T : Txt K mg)  {cdv : Value} {A : Around} {outer : List Env} {s : Shared} {H : Hp} {E : XK}
    (hr : Room 35 (A.deeper (envOfC "told" (defScope s_told) s.heap.objs.size T.f_told cdv))) :
    Σ' t : TS, PSs (cxOf CX0 P w K mg base ["row", "excess", "size", "can_be"] "told" (defScope s_told) T.f_told cdv A outer s H E).nox (defBody s_told) t :=
  ⟨_, (pss_cons (ps_expr (pe_call (ok_check_row T) (hr.mono (by omega)) (by rfl) T.g_check_row T.F_check_row.kp T.b_check_row .nil pass0 (pa_cons (pv 0) pa_nil)))
      (pss_cons (ps_set (i := 1) sc_told.nd rfl (.inl rfl) (pe_call (ok_first_excess T) (hr.mono (by omega)) (by rfl) T.g_first_excess T.F_first_excess.kp T.b_first_excess .nil pass0 (pa_cons (pv 0) pa_nil)))
      (pss_cons (ps_if (pt_cmpR op_isN (pv 1) pe_non (nomark _)) (pss_one (ps_ret (pe_bare T.M_Can (by rfl) T.g_Can))) pss_nil)
      (pss_cons (ps_asg (pv 1) (pg_tupK (K := K) rfl (pgs_cons (pg_name (i := 2) sc_told.nd rfl (.inl rfl)) (pgs_cons (pg_name (i := 3) sc_told.nd rfl (.inl rfl)) pgs_nil))))
      (pss_one (ps_ret (pe_make T.M_Barred (ok_Barred___init__ T) (hr.mono (by omega)) (by rfl) T.g_Barred T.b_Barred___init__ .nil pass0 (pa_cons (pv 2) (pa_cons (pv 3) pa_nil)))))))))⟩
theorem ok_told (T : Txt K mg) : FnOk P w K mg base CX0 36 T.f_told T.d_told ["row"] (spTold T) := by
  refine T.F_told.ok sc_told (fun vs H Q E h => ?_) (fun cdv A outer s H vs Q E hr h => ⟨_, (dv_told T hr).2, ?_⟩)
  · obtain ⟨a, r, b, rfl, _⟩ := h
    rfl
  · obtain ⟨a, r, b, rfl, ha, q⟩ := h
    refine ⟨_, rfl, a, r, b, rfl, ha, fun H1 s1 => ?_⟩
    have ha1 := ha.same s1
    refine ⟨_, rfl, a, r, b, rfl, ha1.at_, ha.few, ha.small, ha.bits, fun v H2 s2 hv => ?_⟩
    refine ⟨_, rfl, rfl, _, rfl, ?_⟩
    cases he : exN r with
    | none =>
      rw [he] at hv q
      cases hv
      refine decT rfl fun x dx nx nd ne => ?_
      obtain ⟨sx, ax⟩ := made_can (T := T) nx nd
      exact q _ x ((s1.trans s2).trans sx) ax
    | some p =>
      obtain ⟨i, j⟩ := p
      rw [he] at hv q
      cases hv with
      | two g =>
        refine decF (fun e => nomatch e) ⟨_, rfl, pair_at (.of g) ?_⟩
        refine ⟨_, rfl, _, rfl, fun x dx nx nd ne => ⟨x, dx, i, j, rfl, upd_same, fun H3 f1 f2 => ⟨rfl, ?_⟩⟩⟩
        obtain ⟨sx, ax⟩ := made_barred (T := T) nx nd ne f1 f2
        exact q _ x ((s1.trans s2).trans sx) ax
def spHas : Sp := fun vs H Q _ => ∃ (a c : Addr) (r l : List Nat) (b b2 : Nat), vs = [.ref a, .ref c] ∧ Rw H a r b ∧ leastN r = none ∧ H c = some (.lst (natsV l)) ∧ Good l b2 ∧ ∀ H', Same H H' → Q (.bl (hasN r l)) H'
noncomputable def dv_has {P : Program} {w : World} {K : PySem.W.Frag} {mg : Str → Option Value} {base : Heap} (T : Txt K mg)  {cdv : Value} {A : Around} {outer : List Env} {s : Shared} {H : Hp} {E : XK}
    (hr : Room 36 (A.deeper (envOfC "has" (defScope s_has) s.heap.objs.size T.f_has cdv))) :
    Σ' t : TS, PSs (cxOf CX0 P w K mg base ["row", "some", "number"] "has" (defScope s_has) T.f_has cdv A outer s H E).nox (defBody s_has) t :=
  ⟨_, (pss_cons (ps_expr (pe_call (ok_check_family T) (hr.mono (by omega)) (by rfl) T.g_check_family T.F_check_family.kp T.b_check_family .nil pass0 (pa_cons (pv 0) pa_nil)))
      (pss_cons (ps_set (i := 2) sc_has.nd rfl (.inl rfl) (pe_call (ok_number_of T) (hr.mono (by omega)) (by rfl) T.g_number_of T.F_number_of.kp T.b_number_of .nil pass0 (pa_cons (pv 1) pa_nil)))
      (pss_cons (ps_if (pt_cmpR (op_eqDK (K := K) hr.units) (pv 1) (pe_lst pa_nil) (nomark _)) (pss_one (ps_ret pe_bl)) pss_nil)
      (pss_one (ps_ret (pe_and (pe_cmpR op_nLe (pe_callB (call_lenK (K := K)) (by rfl) T.z_len PySem.boot_len (pa_cons (pv 1) pa_nil)) (pe_callB (call_lenK (K := K)) (by rfl) T.z_len PySem.boot_len (pa_cons (pv 0) pa_nil)) (nomark _)) (pe_one (pe_cmpR op_nLt (pv 2) (pe_ix (ix_listK (K := K)) (pv 0) (pe_op op_nSub (pe_callB (call_lenK (K := K)) (by rfl) T.z_len PySem.boot_len (pa_cons (pv 1) pa_nil)) pe_int) (fun _ _ => rfl)) (nomark _)))))))))⟩
theorem ok_has (T : Txt K mg) : FnOk P w K mg base CX0 37 T.f_has T.d_has ["row", "some"] spHas := by
  refine T.F_has.ok sc_has (fun vs H Q E h => ?_) (fun cdv A outer s H vs Q E hr h => ⟨_, (dv_has T hr).2, ?_⟩)
  · obtain ⟨a, c, r, l, b, b2, rfl, _⟩ := h
    rfl
  · obtain ⟨a, c, r, l, b, b2, rfl, ha, h0, hc, hg, q⟩ := h
    refine ⟨_, rfl, a, r, b, rfl, ha, h0, fun H1 s1 => ?_⟩
    refine ⟨_, rfl, c, l, b2, rfl, s1 _ _ hc, hg, fun H2 s2 => ?_⟩
    have s12 := s1.trans s2
    refine ⟨_, rfl, Nat.zero_le _, fun e ne => ?_⟩
    have s3 := s12.trans (same_new (o := .lst []) ne)
    refine eqN (l := l) (m := []) rfl rfl (.of (s3 _ _ hc)) (.of upd_same) ⟨_, rfl, dec2 (fun e0 => ?_) (fun e0 => ?_)⟩
    · subst e0
      exact q _ s3
    · have hl : 0 < l.length := List.length_pos_iff.mpr e0
      have he : l.isEmpty = false := by
        cases l with
        | nil => exact absurd rfl e0
        | cons x l => rfl
      unfold hasN at q
      rw [he, Bool.false_or] at q
      refine ⟨_, rfl, c, natsV l, rfl, .inl (.of (s3 _ _ hc)), _, rfl, a, natsV r, rfl, .inl (.of (s3 _ _ ha.at_)), ?_⟩
      rw [natsV_length, natsV_length]
      refine ⟨l.length, r.length, rfl, rfl, _, rfl, dec2 (fun c1 => ?_) (fun c1 => ?_)⟩
      · have hi : l.length - 1 < r.length := by omega
        have g : r[l.length - 1]? = some r[l.length - 1] := List.getElem?_eq_getElem hi
        rw [g] at q
        refine ⟨_, rfl, _, rfl, _, rfl, c, natsV l, rfl, .inl (.of (s3 _ _ hc)), ?_⟩
        rw [natsV_length]
        exact ⟨l.length, 1, rfl, rfl, by omega, a, natsV r, ((l.length - 1 : Nat) : Int), _, rfl, rfl, .of (s3 _ _ ha.at_), atI_nat (natsV_get g), num l, _, rfl, rfl, q _ s3⟩
      · have g : r[l.length - 1]? = none := List.getElem?_eq_none (by omega)
        rw [g] at q
        exact q _ s3
def spMost : Sp := fun vs H Q _ => ∃ (a : Addr) (r : List Nat) (x b : Nat), vs = [.ref a] ∧ Rw H a (r ++ [x]) b ∧ leastN (r ++ [x]) = none ∧ r.length + 1 < 20 ∧ ∀ H', Same H H' → Q (.int ((overN (r.length + 1) x : Nat) : Int)) H'
noncomputable def dv_most {P : Program} {w : World} {K : PySem.W.Frag} {mg : Str → Option Value} {base : Heap} (T : Txt K mg)  {cdv : Value} {A : Around} {outer : List Env} {s : Shared} {H : Hp} {E : XK}
    (hr : Room 36 (A.deeper (envOfC "most" (defScope s_most) s.heap.objs.size T.f_most cdv))) :
    Σ' t : TS, PSs (cxOf CX0 P w K mg base ["row"] "most" (defScope s_most) T.f_most cdv A outer s H E).nox (defBody s_most) t :=
  ⟨_, (pss_cons (ps_expr (pe_call (ok_check_family T) (hr.mono (by omega)) (by rfl) T.g_check_family T.F_check_family.kp T.b_check_family .nil pass0 (pa_cons (pv 0) pa_nil)))
      (pss_cons (ps_if (pt_not (pt_chain op_nLe op_nLt pe_int (pe_callB (call_lenK (K := K)) (by rfl) T.z_len PySem.boot_len (pa_cons (pv 0) pa_nil)) (pe_glob (v := .int 20) rfl T.c_GREATEST_SIZE.2 ⟨_, rfl⟩))) (pss_one ps_never) pss_nil)
      (pss_one (ps_ret (pe_call (ok_over T) (hr.mono (by omega)) (by rfl) T.g_over T.F_over.kp T.b_over .nil pass0 (pa_cons (pe_callB (call_lenK (K := K)) (by rfl) T.z_len PySem.boot_len (pa_cons (pv 0) pa_nil)) (pa_cons (pe_ix (ix_listK (K := K)) (pv 0) (pe_un un_neg pe_int) (fun _ _ => rfl)) pa_nil)))))))⟩
theorem ok_most (T : Txt K mg) : FnOk P w K mg base CX0 37 T.f_most T.d_most ["row"] spMost := by
  refine T.F_most.ok sc_most (fun vs H Q E h => ?_) (fun cdv A outer s H vs Q E hr h => ⟨_, (dv_most T hr).2, ?_⟩)
  · obtain ⟨a, r, x, b, rfl, _⟩ := h
    rfl
  · obtain ⟨a, r, x, b, rfl, ha, h0, h19, q⟩ := h
    refine ⟨_, rfl, a, _, b, rfl, ha, h0, fun H1 s1 => ?_⟩
    have ha1 := ha.same s1
    have el : (natsV (r ++ [x])).length = r.length + 1 := by rw [natsV_length, List.length_append]; rfl
    have g : atI (natsV (r ++ [x])) (-1) = some (.int (x : Int)) := by
      rw [← natsV_app]
      exact atI_last _ _
    refine ⟨_, rfl, a, _, rfl, .inl (.of ha1.at_), ?_⟩
    rw [el]
    refine ⟨1, r.length + 1, rfl, rfl, _, rfl, decT (by omega) ?_⟩
    refine ⟨r.length + 1, 20, rfl, rfl, _, rfl, decNT (by omega) ?_⟩
    refine ⟨_, rfl, a, _, rfl, .inl (.of ha1.at_), ?_⟩
    rw [el]
    refine ⟨_, rfl, 1, rfl, a, _, -1, _, rfl, rfl, .of ha1.at_, g, r.length + 1, x, b, rfl, by omega, by omega, ha.small x (List.mem_append_right _ (List.mem_singleton.mpr rfl)), ha.bits, fun H2 s2 => q _ (s1.trans s2)⟩
end
end Sh

/-! What is refused, by the program's defs. -/
namespace Sh
open PySem PySem.Spec PyProof.Rows L2
/-- of a known kind, and no such list -/
def Bad (f : List V → Bool) (x : V) (H : Hp) : Prop := (∃ n, tyOf x H = some n ∧ n ≠ "list") ∨ ∃ a xs, x = .ref a ∧ H a = some (.lst xs) ∧ (xs.length ≤ 20 → ∀ v ∈ xs, Kind v H) ∧ f xs = false
theorem Bad.same {f : List V → Bool} {x : V} {H H' : Hp} (h : Bad f x H) (s : Same H H') : Bad f x H' := by
  rcases h with ⟨n, hn, hl⟩ | ⟨a, xs, rfl, ha, hk, hf⟩
  · exact .inl ⟨n, ty_same s hn, hl⟩
  · exact .inr ⟨a, xs, rfl, s _ _ ha, fun h v hv => kind_same s (hk h v hv), hf⟩
section
variable {P : Program} {w : World} {K : PySem.W.Frag} {mg : Str → Option Value} {base : Heap}
/-- a row that no family has -/
def Barr (x : V) (H : Hp) : Prop := ∃ a r b, x = .ref a ∧ Rw H a r b ∧ leastN r ≠ none
theorem Barr.same {x : V} {H H' : Hp} (h : Barr x H) (s : Same H H') : Barr x H' := by
  obtain ⟨a, r, b, e, h, h0⟩ := h
  exact ⟨a, r, b, e, h.same s, h0⟩
def RowBad (x : V) (H : Hp) : Prop := Bad listV x H ∨ Barr x H
/-- a row without a next size -/
def Full (x : V) (H : Hp) : Prop := ∃ a r b, x = .ref a ∧ Rw H a r b ∧ leastN r = none ∧ (r.length = 0 ∨ r.length = 20)
theorem Full.same {x : V} {H H' : Hp} (h : Full x H) (s : Same H H') : Full x H' := by
  obtain ⟨a, r, b, e, h, h0⟩ := h
  exact ⟨a, r, b, e, h.same s, h0⟩
/-- one thing that is refused as C -/
def spBad1 (bad : V → Hp → Prop) (C : Addr) : Sp := fun vs H _ E => ∃ x, vs = [x] ∧ bad x H ∧ ∀ H', Same H H' → E (.ref C) none H'
noncomputable def dvx_check_set {P : Program} {w : World} {K : PySem.W.Frag} {mg : Str → Option Value} {base : Heap} (T : Txt K mg)  {cdv : Value} {A : Around} {outer : List Env} {s : Shared} {H : Hp} {E : XK}
    (hr : Room 3 (A.deeper (envOfC "check_set" (defScope s_check_set) s.heap.objs.size T.f_check_set cdv))) :
    Σ' t : TS, PSs (cxOf (L2.CX P w) P w K mg base ["some"] "check_set" (defScope s_check_set) T.f_check_set cdv A outer s H E) (defBody s_check_set) t :=
  ⟨_, (pss_one (ps_if (pt_not (pt_val (pe_call (ok_is_set T) (hr.mono (by omega)) (by rfl) T.g_is_set T.F_is_set.kp T.b_is_set .nil pass0 (pa_cons (pv 0) pa_nil)))) (pss_one (ps_raise rfl (takes_of rfl rfl rfl rfl) (pmk_own PySem.F.excBase_ValueError T.X_BadSet.exc T.g_BadSet T.X_BadSet.kp (raises_own T.X_BadSet.be T.X_BadSet.ty) (by rfl)))) pss_nil))⟩
theorem bad_check_set (T : Txt K mg) : FnOk P w K mg base (L2.CX P w) 4 T.f_check_set T.d_check_set ["some"] (spBad1 (Bad setV) T.k_BadSet) := by
  refine T.F_check_set.okX sc_check_set (fun vs H Q E h => ?_) (fun cdv A outer s H vs Q E hr h => ⟨_, (dvx_check_set T hr).2, ?_⟩)
  · obtain ⟨x, rfl, _⟩ := h
    rfl
  · obtain ⟨x, rfl, hx, q⟩ := h
    rcases hx with ⟨n, hn, hl⟩ | ⟨a, xs, rfl, ha, hk, hf⟩
    · exact ⟨_, rfl, x, rfl, .inl ⟨n, hn, hl, false, rfl, iteT (q H (Same.refl H))⟩⟩
    · refine ⟨_, rfl, _, rfl, .inr ⟨a, xs, rfl, ha, hk, fun H1 s1 => ?_⟩⟩
      rw [hf]
      exact ⟨false, rfl, iteT (q H1 s1)⟩
noncomputable def dvx_number_of {P : Program} {w : World} {K : PySem.W.Frag} {mg : Str → Option Value} {base : Heap} (T : Txt K mg)  {cdv : Value} {A : Around} {outer : List Env} {s : Shared} {H : Hp} {E : XK}
    (hr : Room 4 (A.deeper (envOfC "number_of" (defScope s_number_of) s.heap.objs.size T.f_number_of cdv))) :
    Σ' t : TS, PSs (cxOf (L2.CX P w) P w K mg base ["some", "number", "place", "each"] "number_of" (defScope s_number_of) T.f_number_of cdv A outer s H E) (defBody s_number_of) t :=
  ⟨_, (pss_cons (ps_expr (pe_call (both (ok_check_set T) (bad_check_set T)) (hr.mono (by omega)) (by rfl) T.g_check_set T.F_check_set.kp T.b_check_set .nil (passes_call (takes_of rfl rfl rfl rfl) (fun _ _ _ _ h => h)) (pa_cons (pv 0) pa_nil)))
      (pss_cons (ps_set (i := 1) sc_number_of.nd rfl (.inl rfl) pe_int)
      (pss_cons (ps_nox (ps_for PassesOwn.never rfl (pi_enum (by rfl) T.z_enumerate (pa_cons (pv 0) pa_nil)) (pg_tupK (K := K) rfl (pgs_cons (pg_name (i := 2) sc_number_of.nd rfl (.inl rfl)) (pgs_cons (pg_name (i := 3) sc_number_of.nd rfl (.inl rfl)) pgs_nil))) (pss_one (ps_set (i := 1) sc_number_of.nd rfl (.inl rfl) (pe_op op_nAdd (pv 1) (pe_callBfun cr_comb (by rfl) T.m_comb (pa_cons (pv 3) (pa_cons (pe_op op_nSub (pe_callB (call_lenK (K := K)) (by rfl) T.z_len PySem.boot_len (pa_cons (pv 0) pa_nil)) (pv 2)) pa_nil))))))))
      (pss_one (ps_ret (pv 1))))))⟩
theorem bad_number_of (T : Txt K mg) : FnOk P w K mg base (L2.CX P w) 5 T.f_number_of T.d_number_of ["some"] (spBad1 (Bad setV) T.k_BadSet) := by
  refine T.F_number_of.okX sc_number_of (fun vs H Q E h => ?_) (fun cdv A outer s H vs Q E hr h => ⟨_, (dvx_number_of T hr).2, ?_⟩)
  · obtain ⟨x, rfl, _⟩ := h
    rfl
  · obtain ⟨x, rfl, hx, q⟩ := h
    exact ⟨_, rfl, .inr ⟨x, rfl, hx, q⟩⟩
noncomputable def dvx_beneath {P : Program} {w : World} {K : PySem.W.Frag} {mg : Str → Option Value} {base : Heap} (T : Txt K mg)  {cdv : Value} {A : Around} {outer : List Env} {s : Shared} {H : Hp} {E : XK}
    (hr : Room 4 (A.deeper (envOfC "beneath" (defScope s_beneath) s.heap.objs.size T.f_beneath cdv))) :
    Σ' t : TS, PSs (cxOf (L2.CX P w) P w K mg base ["some", "place"] "beneath" (defScope s_beneath) T.f_beneath cdv A outer s H E) (defBody s_beneath) t :=
  ⟨_, (pss_cons (ps_expr (pe_call (both (ok_check_set T) (bad_check_set T)) (hr.mono (by omega)) (by rfl) T.g_check_set T.F_check_set.kp T.b_check_set .nil (passes_call (takes_of rfl rfl rfl rfl) (fun _ _ _ _ h => h)) (pa_cons (pv 0) pa_nil)))
      (pss_one (ps_ret (pe_lc (g := gName 1) (own := [("place", 1)]) rfl sc_beneath.nd (pi_range1 (by rfl) T.z_range (pa_cons (pe_callB (call_lenK (K := K)) (by rfl) T.z_len PySem.boot_len (pa_cons (pv 0) pa_nil)) pa_nil)) (blkOk_by (own := [("place", 1)]) (N := ["some", "place"]) (sc := defScope s_beneath) (by decide +kernel)) (fun _ _ _ _ _ => by exact (pg_name (i := 1) sc_beneath.nd rfl (.inl rfl))) (fun _ _ _ _ _ => by exact pts_nil) (fun _ _ _ _ _ => by exact (pe_op op_cat (pe_slice (sl_listK (K := K)) (pv 0) po_none (po_some (pv 1))) (pe_slice (sl_listK (K := K)) (pv 0) (po_some (pe_op op_nAdd (pv 1) pe_int)) po_none)))))))⟩
theorem bad_beneath (T : Txt K mg) : FnOk P w K mg base (L2.CX P w) 5 T.f_beneath T.d_beneath ["some"] (spBad1 (Bad setV) T.k_BadSet) := by
  refine T.F_beneath.okX sc_beneath (fun vs H Q E h => ?_) (fun cdv A outer s H vs Q E hr h => ⟨_, (dvx_beneath T hr).2, ?_⟩)
  · obtain ⟨x, rfl, _⟩ := h
    rfl
  · obtain ⟨x, rfl, hx, q⟩ := h
    exact ⟨_, rfl, .inr ⟨x, rfl, hx, q⟩⟩
/-- no number -/
def NoNum (x : V) (H : Hp) : Prop := Kind x H ∧ numV x = false
theorem NoNum.same {x : V} {H H' : Hp} (h : NoNum x H) (s : Same H H') : NoNum x H' := ⟨kind_same s h.1, h.2⟩
/-- no size from lo to hi -/
def NoSize (lo hi : Int) (x : V) (H : Hp) : Prop := Kind x H ∧ sizeV x lo hi = false
theorem NoSize.same {lo hi : Int} {x : V} {H H' : Hp} (h : NoSize lo hi x H) (s : Same H H') : NoSize lo hi x H' := ⟨kind_same s h.1, h.2⟩
noncomputable def dvx_check_number {P : Program} {w : World} {K : PySem.W.Frag} {mg : Str → Option Value} {base : Heap} (T : Txt K mg)  {cdv : Value} {A : Around} {outer : List Env} {s : Shared} {H : Hp} {E : XK}
    (hr : Room 1 (A.deeper (envOfC "check_number" (defScope s_check_number) s.heap.objs.size T.f_check_number cdv))) :
    Σ' t : TS, PSs (cxOf (L2.CX P w) P w K mg base ["many"] "check_number" (defScope s_check_number) T.f_check_number cdv A outer s H E) (defBody s_check_number) t :=
  ⟨_, (pss_one (ps_if (pt_not (pt_val (pe_call (ok_is_number T) (hr.mono (by omega)) (by rfl) T.g_is_number T.F_is_number.kp T.b_is_number .nil pass0 (pa_cons (pv 0) pa_nil)))) (pss_one (ps_raise rfl (takes_of rfl rfl rfl rfl) (pmk_own PySem.F.excBase_ValueError T.X_BadNumber.exc T.g_BadNumber T.X_BadNumber.kp (raises_own T.X_BadNumber.be T.X_BadNumber.ty) (by rfl)))) pss_nil))⟩
theorem bad_check_number (T : Txt K mg) : FnOk P w K mg base (L2.CX P w) 2 T.f_check_number T.d_check_number ["many"] (spBad1 NoNum T.k_BadNumber) := by
  refine T.F_check_number.okX sc_check_number (fun vs H Q E h => ?_) (fun cdv A outer s H vs Q E hr h => ⟨_, (dvx_check_number T hr).2, ?_⟩)
  · obtain ⟨x, rfl, _⟩ := h
    rfl
  · obtain ⟨x, rfl, ⟨hk, hn⟩, q⟩ := h
    refine ⟨_, rfl, x, rfl, hk, ?_⟩
    rw [hn]
    exact ⟨false, rfl, iteT (q H (Same.refl H))⟩
/-- a size and a number of which one is refused -/
def spBadSN (lo hi : Int) (more : V → V → Prop) (CS CN : Addr) : Sp := fun vs H _ E => ∃ x y, vs = [x, y] ∧ ((NoSize lo hi x H ∧ ∀ H', Same H H' → E (.ref CS) none H') ∨ (∃ k : Nat, x = .int (k : Int) ∧ lo ≤ (k : Int) ∧ (k : Int) ≤ hi ∧ NoNum y H ∧ ∀ H', Same H H' → E (.ref CN) none H') ∨
  (more x y ∧ ∀ H', Same H H' → E (.ref CN) none H'))
noncomputable def dvx_set_of {P : Program} {w : World} {K : PySem.W.Frag} {mg : Str → Option Value} {base : Heap} (T : Txt K mg)  {cdv : Value} {A : Around} {outer : List Env} {s : Shared} {H : Hp} {E : XK}
    (hr : Room 32 (A.deeper (envOfC "set_of" (defScope s_set_of) s.heap.objs.size T.f_set_of cdv))) :
    Σ' t : TS, PSs (cxOf (L2.CX P w) P w K mg base ["size", "number"] "set_of" (defScope s_set_of) T.f_set_of cdv A outer s H E) (defBody s_set_of) t :=
  ⟨_, (pss_cons (ps_if (pt_not (pt_val (pe_call (ok_is_size T) (hr.mono (by omega)) (by rfl) T.g_is_size T.F_is_size.kp T.b_is_size .nil pass0 (pa_cons (pv 0) (pa_cons pe_int (pa_cons (pe_glob (v := .int 20) rfl T.c_GREATEST_SIZE.2 ⟨_, rfl⟩) pa_nil)))))) (pss_one (ps_raise rfl (takes_of rfl rfl rfl rfl) (pmk_own PySem.F.excBase_ValueError T.X_BadSize.exc T.g_BadSize T.X_BadSize.kp (raises_own T.X_BadSize.be T.X_BadSize.ty) (by rfl)))) pss_nil)
      (pss_cons (ps_if (pt_not (pt_val (pe_call (ok_is_number T) (hr.mono (by omega)) (by rfl) T.g_is_number T.F_is_number.kp T.b_is_number .nil pass0 (pa_cons (pv 1) pa_nil)))) (pss_one (ps_raise rfl (takes_of rfl rfl rfl rfl) (pmk_own PySem.F.excBase_ValueError T.X_BadNumber.exc T.g_BadNumber T.X_BadNumber.kp (raises_own T.X_BadNumber.be T.X_BadNumber.ty) (by rfl)))) pss_nil)
      (pss_cons (ps_if (PW.pt (pw_and (pt_cmpR op_nEq (pv 0) pe_int (nomark _)) (pw_and1 (pt_cmpR op_nGt (pv 1) pe_int (nomark _))))) (pss_one (ps_raise rfl (takes_of rfl rfl rfl rfl) (pmk_own PySem.F.excBase_ValueError T.X_BadNumber.exc T.g_BadNumber T.X_BadNumber.kp (raises_own T.X_BadNumber.be T.X_BadNumber.ty) (by rfl)))) pss_nil)
      (pss_one (ps_ret (pe_call (ok_numbers_of_set T) (hr.mono (by omega)) (by rfl) T.g_numbers_of_set T.F_numbers_of_set.kp T.b_numbers_of_set .nil pass0 (pa_cons (pv 0) (pa_cons (pv 1) pa_nil))))))))⟩
theorem bad_set_of (T : Txt K mg) : FnOk P w K mg base (L2.CX P w) 33 T.f_set_of T.d_set_of ["size", "number"] (spBadSN 0 20 (fun x y => x = .int 0 ∧ ∃ n : Nat, 0 < n ∧ y = .int (n : Int)) T.k_BadSize T.k_BadNumber) := by
  refine T.F_set_of.okX sc_set_of (fun vs H Q E h => ?_) (fun cdv A outer s H vs Q E hr h => ⟨_, (dvx_set_of T hr).2, ?_⟩)
  · obtain ⟨x, y, rfl, _⟩ := h
    rfl
  · obtain ⟨x, y, rfl, h⟩ := h
    rcases h with ⟨⟨hk, hs⟩, q⟩ | ⟨k, rfl, h1, h2, ⟨hk, hn⟩, q⟩ | ⟨⟨rfl, n, hn, rfl⟩, q⟩
    · refine ⟨_, rfl, x, 0, 20, rfl, hk, ?_⟩
      rw [hs]
      exact ⟨false, rfl, iteT (q H (Same.refl H))⟩
    · refine ⟨_, rfl, _, 0, 20, rfl, kind_int _ _, ?_⟩
      rw [size_yes h1 h2]
      refine ⟨true, rfl, iteF ⟨_, rfl, y, rfl, hk, ?_⟩⟩
      rw [hn]
      exact ⟨false, rfl, iteT (q H (Same.refl H))⟩
    · refine ⟨_, rfl, _, 0, 20, rfl, kind_int _ _, ?_⟩
      rw [show sizeV (.int 0) 0 20 = true from rfl]
      refine ⟨true, rfl, iteF ⟨_, rfl, _, rfl, kind_int _ _, ?_⟩⟩
      rw [num_yes]
      refine ⟨true, rfl, iteF ⟨_, rfl, 0, 0, rfl, rfl, _, rfl, decT rfl ⟨_, rfl, n, 0, rfl, rfl, _, rfl, decT hn (q H (Same.refl H))⟩⟩⟩
noncomputable def dvx_under {P : Program} {w : World} {K : PySem.W.Frag} {mg : Str → Option Value} {base : Heap} (T : Txt K mg)  {cdv : Value} {A : Around} {outer : List Env} {s : Shared} {H : Hp} {E : XK}
    (hr : Room 33 (A.deeper (envOfC "under" (defScope s_under) s.heap.objs.size T.f_under cdv))) :
    Σ' t : TS, PSs (cxOf (L2.CX P w) P w K mg base ["size", "many"] "under" (defScope s_under) T.f_under cdv A outer s H E) (defBody s_under) t :=
  ⟨_, (pss_cons (ps_if (pt_not (pt_val (pe_call (ok_is_size T) (hr.mono (by omega)) (by rfl) T.g_is_size T.F_is_size.kp T.b_is_size .nil pass0 (pa_cons (pv 0) (pa_cons pe_int (pa_cons (pe_glob (v := .int 20) rfl T.c_GREATEST_SIZE.2 ⟨_, rfl⟩) pa_nil)))))) (pss_one (ps_raise rfl (takes_of rfl rfl rfl rfl) (pmk_own PySem.F.excBase_ValueError T.X_BadSize.exc T.g_BadSize T.X_BadSize.kp (raises_own T.X_BadSize.be T.X_BadSize.ty) (by rfl)))) pss_nil)
      (pss_cons (ps_expr (pe_call (both (ok_check_number T) (bad_check_number T)) (hr.mono (by omega)) (by rfl) T.g_check_number T.F_check_number.kp T.b_check_number .nil (passes_call (takes_of rfl rfl rfl rfl) (fun _ _ _ _ h => h)) (pa_cons (pv 1) pa_nil)))
      (pss_one (ps_ret (pe_call (ok_first_sets_at T) (hr.mono (by omega)) (by rfl) T.g_first_sets_at T.F_first_sets_at.kp T.b_first_sets_at .nil pass0 (pa_cons (pv 0) (pa_cons (pv 1) (pa_cons (pe_un un_neg pe_int) pa_nil))))))))⟩
theorem bad_under (T : Txt K mg) : FnOk P w K mg base (L2.CX P w) 34 T.f_under T.d_under ["size", "many"] (spBadSN 1 20 (fun _ _ => False) T.k_BadSize T.k_BadNumber) := by
  refine T.F_under.okX sc_under (fun vs H Q E h => ?_) (fun cdv A outer s H vs Q E hr h => ⟨_, (dvx_under T hr).2, ?_⟩)
  · obtain ⟨x, y, rfl, _⟩ := h
    rfl
  · obtain ⟨x, y, rfl, h⟩ := h
    rcases h with ⟨⟨hk, hs⟩, q⟩ | ⟨k, rfl, h1, h2, hn, q⟩ | ⟨h, _⟩
    · refine ⟨_, rfl, x, 1, 20, rfl, hk, ?_⟩
      rw [hs]
      exact ⟨false, rfl, iteT (q H (Same.refl H))⟩
    · refine ⟨_, rfl, _, 1, 20, rfl, kind_int _ _, ?_⟩
      rw [size_yes h1 h2]
      exact ⟨true, rfl, iteF ⟨_, rfl, .inr ⟨y, rfl, hn, q⟩⟩⟩
    · exact h.elim
noncomputable def dvx_over {P : Program} {w : World} {K : PySem.W.Frag} {mg : Str → Option Value} {base : Heap} (T : Txt K mg)  {cdv : Value} {A : Around} {outer : List Env} {s : Shared} {H : Hp} {E : XK}
    (hr : Room 33 (A.deeper (envOfC "over" (defScope s_over) s.heap.objs.size T.f_over cdv))) :
    Σ' t : TS, PSs (cxOf (L2.CX P w) P w K mg base ["size", "many"] "over" (defScope s_over) T.f_over cdv A outer s H E) (defBody s_over) t :=
  ⟨_, (pss_cons (ps_if (pt_not (pt_val (pe_call (ok_is_size T) (hr.mono (by omega)) (by rfl) T.g_is_size T.F_is_size.kp T.b_is_size .nil pass0 (pa_cons (pv 0) (pa_cons pe_int (pa_cons (pe_op op_iSub (pe_glob (v := .int 20) rfl T.c_GREATEST_SIZE.2 ⟨_, rfl⟩) pe_int) pa_nil)))))) (pss_one (ps_raise rfl (takes_of rfl rfl rfl rfl) (pmk_own PySem.F.excBase_ValueError T.X_BadSize.exc T.g_BadSize T.X_BadSize.kp (raises_own T.X_BadSize.be T.X_BadSize.ty) (by rfl)))) pss_nil)
      (pss_cons (ps_expr (pe_call (both (ok_check_number T) (bad_check_number T)) (hr.mono (by omega)) (by rfl) T.g_check_number T.F_check_number.kp T.b_check_number .nil (passes_call (takes_of rfl rfl rfl rfl) (fun _ _ _ _ h => h)) (pa_cons (pv 1) pa_nil)))
      (pss_one (ps_ret (pe_call (ok_first_sets_at T) (hr.mono (by omega)) (by rfl) T.g_first_sets_at T.F_first_sets_at.kp T.b_first_sets_at .nil pass0 (pa_cons (pv 0) (pa_cons (pv 1) (pa_cons pe_int pa_nil))))))))⟩
theorem bad_over (T : Txt K mg) : FnOk P w K mg base (L2.CX P w) 34 T.f_over T.d_over ["size", "many"] (spBadSN 1 19 (fun _ _ => False) T.k_BadSize T.k_BadNumber) := by
  refine T.F_over.okX sc_over (fun vs H Q E h => ?_) (fun cdv A outer s H vs Q E hr h => ⟨_, (dvx_over T hr).2, ?_⟩)
  · obtain ⟨x, y, rfl, _⟩ := h
    rfl
  · obtain ⟨x, y, rfl, h⟩ := h
    rcases h with ⟨⟨hk, hs⟩, q⟩ | ⟨k, rfl, h1, h2, hn, q⟩ | ⟨h, _⟩
    · refine ⟨_, rfl, 20, 1, rfl, rfl, x, 1, 19, rfl, hk, ?_⟩
      rw [hs]
      exact ⟨false, rfl, iteT (q H (Same.refl H))⟩
    · refine ⟨_, rfl, 20, 1, rfl, rfl, _, 1, 19, rfl, kind_int _ _, ?_⟩
      rw [size_yes h1 h2]
      exact ⟨true, rfl, iteF ⟨_, rfl, .inr ⟨y, rfl, hn, q⟩⟩⟩
    · exact h.elim
noncomputable def dvx_check_row {P : Program} {w : World} {K : PySem.W.Frag} {mg : Str → Option Value} {base : Heap} (T : Txt K mg)  {cdv : Value} {A : Around} {outer : List Env} {s : Shared} {H : Hp} {E : XK}
    (hr : Room 3 (A.deeper (envOfC "check_row" (defScope s_check_row) s.heap.objs.size T.f_check_row cdv))) :
    Σ' t : TS, PSs (cxOf (L2.CX P w) P w K mg base ["row"] "check_row" (defScope s_check_row) T.f_check_row cdv A outer s H E) (defBody s_check_row) t :=
  ⟨_, (pss_one (ps_if (pt_not (pt_val (pe_call (ok_is_row T) (hr.mono (by omega)) (by rfl) T.g_is_row T.F_is_row.kp T.b_is_row .nil pass0 (pa_cons (pv 0) pa_nil)))) (pss_one (ps_raise rfl (takes_of rfl rfl rfl rfl) (pmk_own PySem.F.excBase_ValueError T.X_BadRow.exc T.g_BadRow T.X_BadRow.kp (raises_own T.X_BadRow.be T.X_BadRow.ty) (by rfl)))) pss_nil))⟩
theorem bad_check_row (T : Txt K mg) : FnOk P w K mg base (L2.CX P w) 4 T.f_check_row T.d_check_row ["row"] (spBad1 (Bad listV) T.k_BadRow) := by
  refine T.F_check_row.okX sc_check_row (fun vs H Q E h => ?_) (fun cdv A outer s H vs Q E hr h => ⟨_, (dvx_check_row T hr).2, ?_⟩)
  · obtain ⟨x, rfl, _⟩ := h
    rfl
  · obtain ⟨x, rfl, hx, q⟩ := h
    rcases hx with ⟨n, hn, hl⟩ | ⟨a, xs, rfl, ha, hk, hf⟩
    · exact ⟨_, rfl, x, rfl, .inl ⟨n, hn, hl, false, rfl, iteT (q H (Same.refl H))⟩⟩
    · refine ⟨_, rfl, _, rfl, .inr ⟨a, xs, rfl, ha, hk, fun H1 s1 => ?_⟩⟩
      rw [hf]
      exact ⟨false, rfl, iteT (q H1 s1)⟩
noncomputable def dvx_check_family {P : Program} {w : World} {K : PySem.W.Frag} {mg : Str → Option Value} {base : Heap} (T : Txt K mg)  {cdv : Value} {A : Around} {outer : List Env} {s : Shared} {H : Hp} {E : XK}
    (hr : Room 35 (A.deeper (envOfC "check_family" (defScope s_check_family) s.heap.objs.size T.f_check_family cdv))) :
    Σ' t : TS, PSs (cxOf (L2.CX P w) P w K mg base ["row"] "check_family" (defScope s_check_family) T.f_check_family cdv A outer s H E) (defBody s_check_family) t :=
  ⟨_, (pss_cons (ps_expr (pe_call (both (ok_check_row T) (bad_check_row T)) (hr.mono (by omega)) (by rfl) T.g_check_row T.F_check_row.kp T.b_check_row .nil (passes_call (takes_of rfl rfl rfl rfl) (fun _ _ _ _ h => h)) (pa_cons (pv 0) pa_nil)))
      (pss_one (ps_if (pt_cmpR op_notN (pe_call (ok_first_excess T) (hr.mono (by omega)) (by rfl) T.g_first_excess T.F_first_excess.kp T.b_first_excess .nil pass0 (pa_cons (pv 0) pa_nil)) pe_non (nomark _)) (pss_one (ps_raise rfl (takes_of rfl rfl rfl rfl) (pmk_own PySem.F.excBase_ValueError T.X_BadRow.exc T.g_BadRow T.X_BadRow.kp (raises_own T.X_BadRow.be T.X_BadRow.ty) (by rfl)))) pss_nil)))⟩
theorem bad_check_family (T : Txt K mg) : FnOk P w K mg base (L2.CX P w) 36 T.f_check_family T.d_check_family ["row"] (spBad1 RowBad T.k_BadRow) := by
  refine T.F_check_family.okX sc_check_family (fun vs H Q E h => ?_) (fun cdv A outer s H vs Q E hr h => ⟨_, (dvx_check_family T hr).2, ?_⟩)
  · obtain ⟨x, rfl, _⟩ := h
    rfl
  · obtain ⟨x, rfl, hx, q⟩ := h
    rcases hx with hx | ⟨a, r, b, rfl, ha, h0⟩
    · exact ⟨_, rfl, .inr ⟨x, rfl, hx, q⟩⟩
    · refine ⟨_, rfl, .inl ⟨a, r, b, rfl, ha, fun H1 s1 => ?_⟩⟩
      have ha1 := ha.same s1
      refine ⟨_, rfl, a, r, b, rfl, ha1.at_, ha.few, ha.small, ha.bits, fun v H2 s2 hv => ⟨rfl, _, rfl, ?_⟩⟩
      refine decNF (fun e => ?_) (q H2 (s1.trans s2))
      subst e
      cases he : exN r with
      | none => exact h0 (exN_none.mp he)
      | some p =>
        rw [he] at hv
        cases hv
noncomputable def dvx_told {P : Program} {w : World} {K : PySem.W.Frag} {mg : Str → Option Value} {base : Heap} (T : Txt K mg)  {cdv : Value} {A : Around} {outer : List Env} {s : Shared} {H : Hp} {E : XK}
    (hr : Room 35 (A.deeper (envOfC "told" (defScope s_told) s.heap.objs.size T.f_told cdv))) :
    Σ' t : TS, PSs (cxOf (L2.CX P w) P w K mg base ["row", "excess", "size", "can_be"] "told" (defScope s_told) T.f_told cdv A outer s H E) (defBody s_told) t :=
  ⟨_, (pss_cons (ps_expr (pe_call (both (ok_check_row T) (bad_check_row T)) (hr.mono (by omega)) (by rfl) T.g_check_row T.F_check_row.kp T.b_check_row .nil (passes_call (takes_of rfl rfl rfl rfl) (fun _ _ _ _ h => h)) (pa_cons (pv 0) pa_nil)))
      (pss_cons (ps_set (i := 1) sc_told.nd rfl (.inl rfl) (pe_call (ok_first_excess T) (hr.mono (by omega)) (by rfl) T.g_first_excess T.F_first_excess.kp T.b_first_excess .nil pass0 (pa_cons (pv 0) pa_nil)))
      (pss_cons (ps_if (pt_cmpR op_isN (pv 1) pe_non (nomark _)) (pss_one (ps_ret (pe_bare T.M_Can (by rfl) T.g_Can))) pss_nil)
      (pss_cons (ps_asg (pv 1) (pg_tupK (K := K) rfl (pgs_cons (pg_name (i := 2) sc_told.nd rfl (.inl rfl)) (pgs_cons (pg_name (i := 3) sc_told.nd rfl (.inl rfl)) pgs_nil))))
      (pss_one (ps_ret (pe_make T.M_Barred (ok_Barred___init__ T) (hr.mono (by omega)) (by rfl) T.g_Barred T.b_Barred___init__ .nil pass0 (pa_cons (pv 2) (pa_cons (pv 3) pa_nil)))))))))⟩
theorem bad_told (T : Txt K mg) : FnOk P w K mg base (L2.CX P w) 36 T.f_told T.d_told ["row"] (spBad1 (Bad listV) T.k_BadRow) := by
  refine T.F_told.okX sc_told (fun vs H Q E h => ?_) (fun cdv A outer s H vs Q E hr h => ⟨_, (dvx_told T hr).2, ?_⟩)
  · obtain ⟨x, rfl, _⟩ := h
    rfl
  · obtain ⟨x, rfl, hx, q⟩ := h
    exact ⟨_, rfl, .inr ⟨x, rfl, hx, q⟩⟩
def spBadHas (T : Txt K mg) : Sp := fun vs H _ E => ∃ x y, vs = [x, y] ∧ ((RowBad x H ∧ ∀ H', Same H H' → E (.ref T.k_BadRow) none H') ∨ (∃ a r b, x = .ref a ∧ Rw H a r b ∧ leastN r = none ∧ Bad setV y H ∧ ∀ H', Same H H' → E (.ref T.k_BadSet) none H'))
noncomputable def dvx_has {P : Program} {w : World} {K : PySem.W.Frag} {mg : Str → Option Value} {base : Heap} (T : Txt K mg)  {cdv : Value} {A : Around} {outer : List Env} {s : Shared} {H : Hp} {E : XK}
    (hr : Room 36 (A.deeper (envOfC "has" (defScope s_has) s.heap.objs.size T.f_has cdv))) :
    Σ' t : TS, PSs (cxOf (L2.CX P w) P w K mg base ["row", "some", "number"] "has" (defScope s_has) T.f_has cdv A outer s H E) (defBody s_has) t :=
  ⟨_, (pss_cons (ps_expr (pe_call (both (ok_check_family T) (bad_check_family T)) (hr.mono (by omega)) (by rfl) T.g_check_family T.F_check_family.kp T.b_check_family .nil (passes_call (takes_of rfl rfl rfl rfl) (fun _ _ _ _ h => h)) (pa_cons (pv 0) pa_nil)))
      (pss_cons (ps_set (i := 2) sc_has.nd rfl (.inl rfl) (pe_call (both (ok_number_of T) (bad_number_of T)) (hr.mono (by omega)) (by rfl) T.g_number_of T.F_number_of.kp T.b_number_of .nil (passes_call (takes_of rfl rfl rfl rfl) (fun _ _ _ _ h => h)) (pa_cons (pv 1) pa_nil)))
      (pss_cons (ps_if (pt_cmpR (op_eqDK (K := K) hr.units) (pv 1) (pe_lst pa_nil) (nomark _)) (pss_one (ps_ret pe_bl)) pss_nil)
      (pss_one (ps_ret (pe_and (pe_cmpR op_nLe (pe_callB (call_lenK (K := K)) (by rfl) T.z_len PySem.boot_len (pa_cons (pv 1) pa_nil)) (pe_callB (call_lenK (K := K)) (by rfl) T.z_len PySem.boot_len (pa_cons (pv 0) pa_nil)) (nomark _)) (pe_one (pe_cmpR op_nLt (pv 2) (pe_ix (ix_listK (K := K)) (pv 0) (pe_op op_nSub (pe_callB (call_lenK (K := K)) (by rfl) T.z_len PySem.boot_len (pa_cons (pv 1) pa_nil)) pe_int) (fun _ _ => rfl)) (nomark _)))))))))⟩
theorem bad_has (T : Txt K mg) : FnOk P w K mg base (L2.CX P w) 37 T.f_has T.d_has ["row", "some"] (spBadHas T) := by
  refine T.F_has.okX sc_has (fun vs H Q E h => ?_) (fun cdv A outer s H vs Q E hr h => ⟨_, (dvx_has T hr).2, ?_⟩)
  · obtain ⟨x, y, rfl, _⟩ := h
    rfl
  · obtain ⟨x, y, rfl, h⟩ := h
    rcases h with ⟨hx, q⟩ | ⟨a, r, b, rfl, ha, h0, hy, q⟩
    · exact ⟨_, rfl, .inr ⟨x, rfl, hx, q⟩⟩
    · refine ⟨_, rfl, .inl ⟨a, r, b, rfl, ha, h0, fun H1 s1 => ?_⟩⟩
      exact ⟨_, rfl, .inr ⟨y, rfl, hy.same s1, fun H2 s2 => q H2 (s1.trans s2)⟩⟩
noncomputable def dvx_most {P : Program} {w : World} {K : PySem.W.Frag} {mg : Str → Option Value} {base : Heap} (T : Txt K mg)  {cdv : Value} {A : Around} {outer : List Env} {s : Shared} {H : Hp} {E : XK}
    (hr : Room 36 (A.deeper (envOfC "most" (defScope s_most) s.heap.objs.size T.f_most cdv))) :
    Σ' t : TS, PSs (cxOf (L2.CX P w) P w K mg base ["row"] "most" (defScope s_most) T.f_most cdv A outer s H E) (defBody s_most) t :=
  ⟨_, (pss_cons (ps_expr (pe_call (both (ok_check_family T) (bad_check_family T)) (hr.mono (by omega)) (by rfl) T.g_check_family T.F_check_family.kp T.b_check_family .nil (passes_call (takes_of rfl rfl rfl rfl) (fun _ _ _ _ h => h)) (pa_cons (pv 0) pa_nil)))
      (pss_cons (ps_if (pt_not (pt_chain op_nLe op_nLt pe_int (pe_callB (call_lenK (K := K)) (by rfl) T.z_len PySem.boot_len (pa_cons (pv 0) pa_nil)) (pe_glob (v := .int 20) rfl T.c_GREATEST_SIZE.2 ⟨_, rfl⟩))) (pss_one (ps_raise rfl (takes_of rfl rfl rfl rfl) (pmk_own PySem.F.excBase_ValueError T.X_BadRow.exc T.g_BadRow T.X_BadRow.kp (raises_own T.X_BadRow.be T.X_BadRow.ty) (by rfl)))) pss_nil)
      (pss_one (ps_ret (pe_call (both (ok_over T) (bad_over T)) (hr.mono (by omega)) (by rfl) T.g_over T.F_over.kp T.b_over .nil (passes_call (takes_of rfl rfl rfl rfl) (fun _ _ _ _ h => h)) (pa_cons (pe_callB (call_lenK (K := K)) (by rfl) T.z_len PySem.boot_len (pa_cons (pv 0) pa_nil)) (pa_cons (pe_ix (ix_listK (K := K)) (pv 0) (pe_un un_neg pe_int) (fun _ _ => rfl)) pa_nil)))))))⟩
theorem bad_most (T : Txt K mg) : FnOk P w K mg base (L2.CX P w) 37 T.f_most T.d_most ["row"] (spBad1 (fun x H => RowBad x H ∨ Full x H) T.k_BadRow) := by
  refine T.F_most.okX sc_most (fun vs H Q E h => ?_) (fun cdv A outer s H vs Q E hr h => ⟨_, (dvx_most T hr).2, ?_⟩)
  · obtain ⟨x, rfl, _⟩ := h
    rfl
  · obtain ⟨x, rfl, hx, q⟩ := h
    rcases hx with hx | ⟨a, r, b, rfl, ha, h0, hl⟩
    · exact ⟨_, rfl, .inr ⟨x, rfl, hx, q⟩⟩
    · refine ⟨_, rfl, .inl ⟨a, r, b, rfl, ha, h0, fun H1 s1 => ?_⟩⟩
      have ha1 := ha.same s1
      refine ⟨_, rfl, a, _, rfl, .inl (.of ha1.at_), ?_⟩
      rw [natsV_length]
      refine ⟨1, r.length, rfl, rfl, _, rfl, ?_⟩
      rcases hl with hl | hl
      · exact decF (by omega) ⟨false, rfl, iteT (q H1 s1)⟩
      · refine decT (by omega) ⟨r.length, 20, rfl, rfl, _, rfl, decNF (by omega) (q H1 s1)⟩
end
end Sh

/-! The law's doors. -/
namespace Sh
open PySem PySem.Spec PyProof.Rows L2
/-- at a door a thing that is refused as C -/
def spAsk (prem : Nat → V → Hp → Prop) (C : Addr) : Sp := fun vs H _ E => ∃ (d : Nat) (x : V), vs = [.int (d : Int), x] ∧ prem d x H ∧ ∀ H', Same H H' → E (.ref C) none H'
/-- what new objects leave true -/
def Stable (prem : Nat → V → Hp → Prop) : Prop := ∀ d x H H', Same H H' → prem d x H → prem d x H'
def pSet : Nat → V → Hp → Prop := fun d x H => d < 4 ∧ Bad setV x H
def pSize : Nat → V → Hp → Prop := fun d x H => (d = 0 ∧ NoSize 0 20 x H) ∨ (d = 1 ∧ NoSize 1 20 x H) ∨ (d = 2 ∧ NoSize 1 19 x H)
def pNumber : Nat → V → Hp → Prop := fun d x H => d < 3 ∧ NoNum x H
def pRow : Nat → V → Hp → Prop := fun d x H => (d < 3 ∧ Bad listV x H) ∨ (d = 2 ∧ Full x H)
def pNext : Nat → V → Hp → Prop := fun d x H => d < 2 ∧ Barr x H
def pNone : Nat → V → Hp → Prop := fun d x H => d = 0 ∧ (NoNum x H ∨ ∃ n : Nat, 0 < n ∧ x = .int (n : Int))
theorem st_set : Stable pSet := fun d x H H' s h => ⟨h.1, h.2.same s⟩
theorem st_size : Stable pSize := fun d x H H' s h => by
  rcases h with ⟨e, h⟩ | ⟨e, h⟩ | ⟨e, h⟩
  · exact .inl ⟨e, h.same s⟩
  · exact .inr (.inl ⟨e, h.same s⟩)
  · exact .inr (.inr ⟨e, h.same s⟩)
theorem st_number : Stable pNumber := fun d x H H' s h => ⟨h.1, h.2.same s⟩
theorem st_row : Stable pRow := fun d x H H' s h => by
  rcases h with ⟨e, h⟩ | ⟨e, h⟩
  · exact .inl ⟨e, h.same s⟩
  · exact .inr ⟨e, h.same s⟩
theorem st_next : Stable pNext := fun d x H H' s h => ⟨h.1, h.2.same s⟩
theorem st_none : Stable pNone := fun d x H H' s h => ⟨h.1, h.2.imp (fun h => h.same s) id⟩
section
variable {P : Program} {w : World} {K : PySem.W.Frag} {mg : Str → Option Value} {base : Heap}
noncomputable def dvx__law_with_set {P : Program} {w : World} {K : PySem.W.Frag} {mg : Str → Option Value} {base : Heap} (T : Txt K mg)  {cdv : Value} {A : Around} {outer : List Env} {s : Shared} {H : Hp} {E : XK}
    (hr : Room 37 (A.deeper (envOfC "_law_with_set" (defScope s__law_with_set) s.heap.objs.size T.f__law_with_set cdv))) :
    Σ' t : TS, PSs (cxOf (L2.CX P w) P w K mg base ["_law_door", "_law_some"] "_law_with_set" (defScope s__law_with_set) T.f__law_with_set cdv A outer s H E) (defBody s__law_with_set) t :=
  ⟨_, (pss_cons (ps_if (pt_cmpR op_nLt (pv 0) pe_int (nomark _)) (pss_one (ps_ret (pe_ifExp (pt_cmpR op_nEq (pv 0) pe_int (nomark _)) (pe_call (both (ok_number_of T) (bad_number_of T)) (hr.mono (by omega)) (by rfl) T.g_number_of T.F_number_of.kp T.b_number_of .nil (passes_call (takes_of rfl rfl rfl rfl) (fun _ _ _ _ h => h)) (pa_cons (pv 1) pa_nil)) (pe_call (both (ok_beneath T) (bad_beneath T)) (hr.mono (by omega)) (by rfl) T.g_beneath T.F_beneath.kp T.b_beneath .nil (passes_call (takes_of rfl rfl rfl rfl) (fun _ _ _ _ h => h)) (pa_cons (pv 1) pa_nil))))) pss_nil)
      (pss_one (ps_ret (pe_ifExp (pt_cmpR op_nEq (pv 0) pe_int (nomark _)) (pe_call (both (ok_has T) (bad_has T)) (hr.mono (by omega)) (by rfl) T.g_has T.F_has.kp T.b_has .nil (passes_call (takes_of rfl rfl rfl rfl) (fun _ _ _ _ h => h)) (pa_cons (pe_lst (pa_cons pe_int (pa_cons pe_int pa_nil))) (pa_cons (pv 1) pa_nil))) (pe_call (both (ok_has T) (bad_has T)) (hr.mono (by omega)) (by rfl) T.g_has T.F_has.kp T.b_has .nil (passes_call (takes_of rfl rfl rfl rfl) (fun _ _ _ _ h => h)) (pa_cons (pe_lst pa_nil) (pa_cons (pv 1) pa_nil)))))))⟩
theorem bad__law_with_set (T : Txt K mg) : FnOk P w K mg base (L2.CX P w) 38 T.f__law_with_set T.d__law_with_set ["_law_door", "_law_some"] (spAsk pSet T.k_BadSet) := by
  refine T.F__law_with_set.okX sc__law_with_set (fun vs H Q E h => ?_) (fun cdv A outer s H vs Q E hr h => ⟨_, (dvx__law_with_set T hr).2, ?_⟩)
  · obtain ⟨d, x, rfl, _⟩ := h
    rfl
  · obtain ⟨d, x, rfl, ⟨hd, hx⟩, q⟩ := h
    refine ⟨_, rfl, d, 2, rfl, rfl, _, rfl, dec2 (fun c => ?_) (fun c => ?_)⟩
    · refine ⟨_, rfl, d, 0, rfl, rfl, _, rfl, dec2 (fun c2 => ?_) (fun c2 => ?_)⟩
      · exact ⟨_, rfl, .inr ⟨x, rfl, hx, q⟩⟩
      · exact ⟨_, rfl, .inr ⟨x, rfl, hx, q⟩⟩
    · refine ⟨_, rfl, d, 2, rfl, rfl, _, rfl, dec2 (fun c2 => ?_) (fun c2 => ?_)⟩
      · refine ⟨(by show 2 ≤ sizeLine; decide), fun e ne => ?_⟩
        generalize hh : upd _ e _ = H1 at ⊢
        have s1 := new_same ne hh
        have g1 := new_at hh
        clear hh
        exact ⟨_, rfl, .inr ⟨_, _, rfl, .inr ⟨e, [5, 2], 10, rfl, rw_lit g1 (by decide) (by decide), by decide +kernel, hx.same s1, fun H' s' => q H' (s1.trans s')⟩⟩⟩
      · refine ⟨Nat.zero_le _, fun e ne => ?_⟩
        generalize hh : upd _ e _ = H1 at ⊢
        have s1 := new_same ne hh
        have g1 := new_at hh
        clear hh
        exact ⟨_, rfl, .inr ⟨_, _, rfl, .inr ⟨e, [], 10, rfl, rw_lit g1 (by decide) (by decide), rfl, hx.same s1, fun H' s' => q H' (s1.trans s')⟩⟩⟩
noncomputable def dvx__law_with_size {P : Program} {w : World} {K : PySem.W.Frag} {mg : Str → Option Value} {base : Heap} (T : Txt K mg)  {cdv : Value} {A : Around} {outer : List Env} {s : Shared} {H : Hp} {E : XK}
    (hr : Room 37 (A.deeper (envOfC "_law_with_size" (defScope s__law_with_size) s.heap.objs.size T.f__law_with_size cdv))) :
    Σ' t : TS, PSs (cxOf (L2.CX P w) P w K mg base ["_law_door", "_law_size"] "_law_with_size" (defScope s__law_with_size) T.f__law_with_size cdv A outer s H E) (defBody s__law_with_size) t :=
  ⟨_, (pss_one (ps_ret (pe_ifExp (pt_cmpR op_nEq (pv 0) pe_int (nomark _)) (pe_call (both (ok_set_of T) (bad_set_of T)) (hr.mono (by omega)) (by rfl) T.g_set_of T.F_set_of.kp T.b_set_of .nil (passes_call (takes_of rfl rfl rfl rfl) (fun _ _ _ _ h => h)) (pa_cons (pv 1) (pa_cons (pe_un un_neg pe_int) pa_nil))) (pe_ifExp (pt_cmpR op_nEq (pv 0) pe_int (nomark _)) (pe_call (both (ok_under T) (bad_under T)) (hr.mono (by omega)) (by rfl) T.g_under T.F_under.kp T.b_under .nil (passes_call (takes_of rfl rfl rfl rfl) (fun _ _ _ _ h => h)) (pa_cons (pv 1) (pa_cons pe_non pa_nil))) (pe_call (both (ok_over T) (bad_over T)) (hr.mono (by omega)) (by rfl) T.g_over T.F_over.kp T.b_over .nil (passes_call (takes_of rfl rfl rfl rfl) (fun _ _ _ _ h => h)) (pa_cons (pv 1) (pa_cons (pe_un un_neg pe_int) pa_nil)))))))⟩
theorem bad__law_with_size (T : Txt K mg) : FnOk P w K mg base (L2.CX P w) 38 T.f__law_with_size T.d__law_with_size ["_law_door", "_law_size"] (spAsk pSize T.k_BadSize) := by
  refine T.F__law_with_size.okX sc__law_with_size (fun vs H Q E h => ?_) (fun cdv A outer s H vs Q E hr h => ⟨_, (dvx__law_with_size T hr).2, ?_⟩)
  · obtain ⟨d, x, rfl, _⟩ := h
    rfl
  · obtain ⟨d, x, rfl, h, q⟩ := h
    refine ⟨_, rfl, d, 0, rfl, rfl, _, rfl, dec2 (fun c => ?_) (fun c => ?_)⟩
    · have hx : NoSize 0 20 x H := by
        rcases h with ⟨_, h⟩ | ⟨e, _⟩ | ⟨e, _⟩
        · exact h
        · omega
        · omega
      exact ⟨_, rfl, 1, rfl, .inr ⟨_, _, rfl, .inl ⟨hx, q⟩⟩⟩
    · refine ⟨_, rfl, d, 1, rfl, rfl, _, rfl, dec2 (fun c2 => ?_) (fun c2 => ?_)⟩
      · have hx : NoSize 1 20 x H := by
          rcases h with ⟨e, _⟩ | ⟨_, h⟩ | ⟨e, _⟩
          · omega
          · exact h
          · omega
        exact ⟨_, rfl, .inr ⟨_, _, rfl, .inl ⟨hx, q⟩⟩⟩
      · have hx : NoSize 1 19 x H := by
          rcases h with ⟨e, _⟩ | ⟨e, _⟩ | ⟨_, h⟩
          · omega
          · omega
          · exact h
        exact ⟨_, rfl, 1, rfl, .inr ⟨_, _, rfl, .inl ⟨hx, q⟩⟩⟩
noncomputable def dvx__law_with_number {P : Program} {w : World} {K : PySem.W.Frag} {mg : Str → Option Value} {base : Heap} (T : Txt K mg)  {cdv : Value} {A : Around} {outer : List Env} {s : Shared} {H : Hp} {E : XK}
    (hr : Room 37 (A.deeper (envOfC "_law_with_number" (defScope s__law_with_number) s.heap.objs.size T.f__law_with_number cdv))) :
    Σ' t : TS, PSs (cxOf (L2.CX P w) P w K mg base ["_law_door", "_law_number"] "_law_with_number" (defScope s__law_with_number) T.f__law_with_number cdv A outer s H E) (defBody s__law_with_number) t :=
  ⟨_, (pss_one (ps_ret (pe_ifExp (pt_cmpR op_nEq (pv 0) pe_int (nomark _)) (pe_call (both (ok_set_of T) (bad_set_of T)) (hr.mono (by omega)) (by rfl) T.g_set_of T.F_set_of.kp T.b_set_of .nil (passes_call (takes_of rfl rfl rfl rfl) (fun _ _ _ _ h => h)) (pa_cons pe_int (pa_cons (pv 1) pa_nil))) (pe_ifExp (pt_cmpR op_nEq (pv 0) pe_int (nomark _)) (pe_call (both (ok_under T) (bad_under T)) (hr.mono (by omega)) (by rfl) T.g_under T.F_under.kp T.b_under .nil (passes_call (takes_of rfl rfl rfl rfl) (fun _ _ _ _ h => h)) (pa_cons pe_int (pa_cons (pv 1) pa_nil))) (pe_call (both (ok_over T) (bad_over T)) (hr.mono (by omega)) (by rfl) T.g_over T.F_over.kp T.b_over .nil (passes_call (takes_of rfl rfl rfl rfl) (fun _ _ _ _ h => h)) (pa_cons pe_int (pa_cons (pv 1) pa_nil)))))))⟩
theorem bad__law_with_number (T : Txt K mg) : FnOk P w K mg base (L2.CX P w) 38 T.f__law_with_number T.d__law_with_number ["_law_door", "_law_number"] (spAsk pNumber T.k_BadNumber) := by
  refine T.F__law_with_number.okX sc__law_with_number (fun vs H Q E h => ?_) (fun cdv A outer s H vs Q E hr h => ⟨_, (dvx__law_with_number T hr).2, ?_⟩)
  · obtain ⟨d, x, rfl, _⟩ := h
    rfl
  · obtain ⟨d, x, rfl, ⟨hd, hx⟩, q⟩ := h
    refine ⟨_, rfl, d, 0, rfl, rfl, _, rfl, dec2 (fun c => ?_) (fun c => ?_)⟩
    · exact ⟨_, rfl, .inr ⟨_, _, rfl, .inr (.inl ⟨3, rfl, by decide, by decide, hx, q⟩)⟩⟩
    · refine ⟨_, rfl, d, 1, rfl, rfl, _, rfl, dec2 (fun c2 => ?_) (fun c2 => ?_)⟩
      · exact ⟨_, rfl, .inr ⟨_, _, rfl, .inr (.inl ⟨20, rfl, by decide, by decide, hx, q⟩)⟩⟩
      · exact ⟨_, rfl, .inr ⟨_, _, rfl, .inr (.inl ⟨19, rfl, by decide, by decide, hx, q⟩)⟩⟩
noncomputable def dvx__law_with_row {P : Program} {w : World} {K : PySem.W.Frag} {mg : Str → Option Value} {base : Heap} (T : Txt K mg)  {cdv : Value} {A : Around} {outer : List Env} {s : Shared} {H : Hp} {E : XK}
    (hr : Room 37 (A.deeper (envOfC "_law_with_row" (defScope s__law_with_row) s.heap.objs.size T.f__law_with_row cdv))) :
    Σ' t : TS, PSs (cxOf (L2.CX P w) P w K mg base ["_law_door", "_law_row"] "_law_with_row" (defScope s__law_with_row) T.f__law_with_row cdv A outer s H E) (defBody s__law_with_row) t :=
  ⟨_, (pss_one (ps_ret (pe_ifExp (pt_cmpR op_nEq (pv 0) pe_int (nomark _)) (pe_call (both (ok_told T) (bad_told T)) (hr.mono (by omega)) (by rfl) T.g_told T.F_told.kp T.b_told .nil (passes_call (takes_of rfl rfl rfl rfl) (fun _ _ _ _ h => h)) (pa_cons (pv 1) pa_nil)) (pe_ifExp (pt_cmpR op_nEq (pv 0) pe_int (nomark _)) (pe_call (both (ok_has T) (bad_has T)) (hr.mono (by omega)) (by rfl) T.g_has T.F_has.kp T.b_has .nil (passes_call (takes_of rfl rfl rfl rfl) (fun _ _ _ _ h => h)) (pa_cons (pv 1) (pa_cons pe_non pa_nil))) (pe_call (both (ok_most T) (bad_most T)) (hr.mono (by omega)) (by rfl) T.g_most T.F_most.kp T.b_most .nil (passes_call (takes_of rfl rfl rfl rfl) (fun _ _ _ _ h => h)) (pa_cons (pv 1) pa_nil))))))⟩
theorem bad__law_with_row (T : Txt K mg) : FnOk P w K mg base (L2.CX P w) 38 T.f__law_with_row T.d__law_with_row ["_law_door", "_law_row"] (spAsk pRow T.k_BadRow) := by
  refine T.F__law_with_row.okX sc__law_with_row (fun vs H Q E h => ?_) (fun cdv A outer s H vs Q E hr h => ⟨_, (dvx__law_with_row T hr).2, ?_⟩)
  · obtain ⟨d, x, rfl, _⟩ := h
    rfl
  · obtain ⟨d, x, rfl, h, q⟩ := h
    refine ⟨_, rfl, d, 0, rfl, rfl, _, rfl, dec2 (fun c => ?_) (fun c => ?_)⟩
    · rcases h with ⟨_, h⟩ | ⟨e, _⟩
      · exact ⟨_, rfl, .inr ⟨x, rfl, h, q⟩⟩
      · omega
    · refine ⟨_, rfl, d, 1, rfl, rfl, _, rfl, dec2 (fun c2 => ?_) (fun c2 => ?_)⟩
      · rcases h with ⟨_, h⟩ | ⟨e, _⟩
        · exact ⟨_, rfl, .inr ⟨x, _, rfl, .inl ⟨.inl h, q⟩⟩⟩
        · omega
      · rcases h with ⟨_, h⟩ | ⟨_, h⟩
        · exact ⟨_, rfl, .inr ⟨x, rfl, .inl (.inl h), q⟩⟩
        · exact ⟨_, rfl, .inr ⟨x, rfl, .inr h, q⟩⟩
noncomputable def dvx__law_next {P : Program} {w : World} {K : PySem.W.Frag} {mg : Str → Option Value} {base : Heap} (T : Txt K mg)  {cdv : Value} {A : Around} {outer : List Env} {s : Shared} {H : Hp} {E : XK}
    (hr : Room 37 (A.deeper (envOfC "_law_next" (defScope s__law_next) s.heap.objs.size T.f__law_next cdv))) :
    Σ' t : TS, PSs (cxOf (L2.CX P w) P w K mg base ["_law_door", "_law_row"] "_law_next" (defScope s__law_next) T.f__law_next cdv A outer s H E) (defBody s__law_next) t :=
  ⟨_, (pss_one (ps_ret (pe_ifExp (pt_cmpR op_nEq (pv 0) pe_int (nomark _)) (pe_call (both (ok_has T) (bad_has T)) (hr.mono (by omega)) (by rfl) T.g_has T.F_has.kp T.b_has .nil (passes_call (takes_of rfl rfl rfl rfl) (fun _ _ _ _ h => h)) (pa_cons (pv 1) (pa_cons (pe_lst (pa_cons pe_int (pa_cons pe_int pa_nil))) pa_nil))) (pe_call (both (ok_most T) (bad_most T)) (hr.mono (by omega)) (by rfl) T.g_most T.F_most.kp T.b_most .nil (passes_call (takes_of rfl rfl rfl rfl) (fun _ _ _ _ h => h)) (pa_cons (pv 1) pa_nil)))))⟩
theorem bad__law_next (T : Txt K mg) : FnOk P w K mg base (L2.CX P w) 38 T.f__law_next T.d__law_next ["_law_door", "_law_row"] (spAsk pNext T.k_BadRow) := by
  refine T.F__law_next.okX sc__law_next (fun vs H Q E h => ?_) (fun cdv A outer s H vs Q E hr h => ⟨_, (dvx__law_next T hr).2, ?_⟩)
  · obtain ⟨d, x, rfl, _⟩ := h
    rfl
  · obtain ⟨d, x, rfl, ⟨hd, h⟩, q⟩ := h
    refine ⟨_, rfl, d, 0, rfl, rfl, _, rfl, dec2 (fun c => ?_) (fun c => ?_)⟩
    · refine ⟨_, rfl, (by show 2 ≤ sizeLine; decide), fun e ne => ?_⟩
      generalize hh : upd _ e _ = H1 at ⊢
      have s1 := new_same ne hh
      have g1 := new_at hh
      clear hh
      exact .inr ⟨x, _, rfl, .inl ⟨.inr (h.same s1), fun H' s' => q H' (s1.trans s')⟩⟩
    · exact ⟨_, rfl, .inr ⟨x, rfl, .inl (.inr h), q⟩⟩
noncomputable def dvx__law_of_none {P : Program} {w : World} {K : PySem.W.Frag} {mg : Str → Option Value} {base : Heap} (T : Txt K mg)  {cdv : Value} {A : Around} {outer : List Env} {s : Shared} {H : Hp} {E : XK}
    (hr : Room 37 (A.deeper (envOfC "_law_of_none" (defScope s__law_of_none) s.heap.objs.size T.f__law_of_none cdv))) :
    Σ' t : TS, PSs (cxOf (L2.CX P w) P w K mg base ["_law_door", "_law_number"] "_law_of_none" (defScope s__law_of_none) T.f__law_of_none cdv A outer s H E) (defBody s__law_of_none) t :=
  ⟨_, (pss_one (ps_ret (pe_call (both (ok_set_of T) (bad_set_of T)) (hr.mono (by omega)) (by rfl) T.g_set_of T.F_set_of.kp T.b_set_of .nil (passes_call (takes_of rfl rfl rfl rfl) (fun _ _ _ _ h => h)) (pa_cons (pv 0) (pa_cons (pv 1) pa_nil)))))⟩
theorem bad__law_of_none (T : Txt K mg) : FnOk P w K mg base (L2.CX P w) 38 T.f__law_of_none T.d__law_of_none ["_law_door", "_law_number"] (spAsk pNone T.k_BadNumber) := by
  refine T.F__law_of_none.okX sc__law_of_none (fun vs H Q E h => ?_) (fun cdv A outer s H vs Q E hr h => ⟨_, (dvx__law_of_none T hr).2, ?_⟩)
  · obtain ⟨d, x, rfl, _⟩ := h
    rfl
  · obtain ⟨d, x, rfl, ⟨rfl, h⟩, q⟩ := h
    rcases h with h | ⟨n, hn, rfl⟩
    · exact ⟨_, rfl, _, rfl, .inr ⟨_, _, rfl, .inr (.inl ⟨0, rfl, by decide, by decide, h, q⟩)⟩⟩
    · exact ⟨_, rfl, _, rfl, .inr ⟨_, _, rfl, .inr (.inr ⟨⟨rfl, n, hn, rfl⟩, q⟩)⟩⟩
end
end Sh

/-! The law: which error a door raised. -/
namespace Sh
open PySem PySem.Spec PyProof.Rows L2
/-- as Fun.ok, for a def that is called with the error that is caught -/
theorem okE {P : Program} {w : World} {K : PySem.W.Frag} {mg : Str → Option Value} {base : Heap} {x qual : Str} {st : Stmt} {f : Addr} {fd : FuncData} {N ps : List Str} {k : Nat} {sp : Addr → Value → Sp} (F : Fun K x qual st f fd) (S : FnScope N ps (defScope st)) (len : ∀ a cls vs H Q E, sp a cls vs H Q E → vs.length = ps.length)
    (hbody : ∀ (cdv : Value) (A : Around) (outer : List Env) (s : Shared) (H : Hp) (vs : List V) (Q : VK) (E : XK) (p : Addr × Obj) (cls : Value), IsE cls p → L2H.RoomH k (A.deeper (envOfC qual (defScope st) s.heap.objs.size f cdv)) → sp p.1 cls vs H Q E →
      ∃ t, PSs (L2H.cxH CX0 P w K mg base N qual (defScope st) f cdv A outer s H E p) (defBody st) t ∧ t { nx := fun _ H' => Q .non H', rt := Q } (L2.start N vs) H) : FnE P w K mg base (k + 1) f fd ps sp := by
  obtain ⟨oc, od, kV, doc, pm, an, cdv, ct, osl, rfl, lk, hcd⟩ := F.ex
  exact fn_ofE lk hcd S len fun A outer s H vs Q E p cls hp hr hsp => hbody cdv A outer s H vs Q E p cls hp hr hsp
/-- a list of truths as data -/
def dataB (bs : List Bool) : PyData := .list (bs.map PyData.bool)
theorem layB : ∀ bs : List Bool, PyData.canLayAll0 (bs.map PyData.bool) = true
  | [] => by simp [PyData.canLayAll0]
  | b :: bs => by simp [PyData.canLayAll0, PyData.canLay0, layB bs]
theorem depthB : ∀ bs : List Bool, PyData.depthAll (bs.map PyData.bool) = 0
  | [] => by simp [PyData.depthAll]
  | b :: bs => by simp [PyData.depthAll, PyData.depth, depthB bs]
theorem shapedB (bs : List Bool) : SeqAt.shaped (dataB bs) = true := by
  have h1 : (dataB bs).canLay0 = true := by
    unfold dataB
    rw [PyData.canLay0]
    exact layB bs
  have h2 : (dataB bs).depth ≤ 64 := by
    unfold dataB
    rw [PyData.depth, depthB]
    decide
  unfold SeqAt.shaped
  rw [h1, decide_eq_true h2]
  rfl
theorem dpB {K : PySem.W.Frag} {H : Hp} : ∀ bs : List Bool, DpAll K H (bs.map V.bl) (bs.map PyData.bool)
  | [] => .nil
  | b :: bs => .cons (.bl b) (dpB bs)
theorem eqB {K : PySem.W.Frag} {H : Hp} {x y : V} {Q : VK} {a b : Addr} (bs : List Bool) (hx : x = .ref a) (hy : y = .ref b) (ha : SqL K H a (bs.map V.bl)) (hb : SqL K H b (bs.map V.bl)) (q : Q (.bl true) H) : rEqD K x y H Q := by
  subst hx hy
  exact ⟨dataB bs, dataB bs, .lst ha (dpB bs), .lst hb (dpB bs), shapedB bs, shapedB bs, by rw [SeqAt.eqv_refl _ (SeqAt.canLay_of_shaped (shapedB bs))]; exact q⟩
section
variable {P : Program} {w : World} {K : PySem.W.Frag} {mg : Str → Option Value} {base : Heap}
/-- what is asked of an error's class -/
structure ErrC (T : Txt K mg) (C : Addr) (b0 b1 b2 b3 : Bool) : Prop where
  ex : ExcC K C
  k0 : PySem.W.kitOne K (.ref C) (.ref T.k_BadSet) = some b0
  k1 : PySem.W.kitOne K (.ref C) (.ref T.k_BadSize) = some b1
  k2 : PySem.W.kitOne K (.ref C) (.ref T.k_BadNumber) = some b2
  k3 : PySem.W.kitOne K (.ref C) (.ref T.k_BadRow) = some b3
  kv : PySem.W.kitOne K (.ref C) (.type "ValueError") = some true
  em : PySem.W.exmOne K (.ref C) (.ref T.k_SetsError) = some true
theorem er_BadSet (T : Txt K mg) : ErrC T T.k_BadSet true false false false := ⟨T.Y_BadSet, T.s_BadSet_BadSet, T.s_BadSet_BadSize, T.s_BadSet_BadNumber, T.s_BadSet_BadRow, T.t_BadSet_ValueError, T.e_BadSet_SetsError⟩
theorem er_BadSize (T : Txt K mg) : ErrC T T.k_BadSize false true false false := ⟨T.Y_BadSize, T.s_BadSize_BadSet, T.s_BadSize_BadSize, T.s_BadSize_BadNumber, T.s_BadSize_BadRow, T.t_BadSize_ValueError, T.e_BadSize_SetsError⟩
theorem er_BadNumber (T : Txt K mg) : ErrC T T.k_BadNumber false false true false := ⟨T.Y_BadNumber, T.s_BadNumber_BadSet, T.s_BadNumber_BadSize, T.s_BadNumber_BadNumber, T.s_BadNumber_BadRow, T.t_BadNumber_ValueError, T.e_BadNumber_SetsError⟩
theorem er_BadRow (T : Txt K mg) : ErrC T T.k_BadRow false false false true := ⟨T.Y_BadRow, T.s_BadRow_BadSet, T.s_BadRow_BadSize, T.s_BadRow_BadNumber, T.s_BadRow_BadRow, T.t_BadRow_ValueError, T.e_BadRow_SetsError⟩
abbrev kindsV (b0 b1 b2 b3 : Bool) : List V := [b0, b1, b2, b3, true].map V.bl
def spKinds (T : Txt K mg) : Addr → Value → Sp := fun a cls vs H Q _ => ∃ (C : Addr) (b0 b1 b2 b3 : Bool), vs = [.ref a] ∧ cls = .ref C ∧ ErrC T C b0 b1 b2 b3 ∧ ∀ H' p, Same H H' → H' p = some (.lst (kindsV b0 b1 b2 b3)) → Q (.ref p) H'
noncomputable def dve__law_kinds {P : Program} {w : World} {K : PySem.W.Frag} {mg : Str → Option Value} {base : Heap} (T : Txt K mg) {D : Addr} {p : Addr × Obj} (hC : ExcC K D) (hz : IsE (.ref D) p) {cdv : Value} {A : Around} {outer : List Env} {s : Shared} {H : Hp} {E : XK}
    (hr : L2H.RoomH 0 (A.deeper (envOfC "_law_kinds" (defScope s__law_kinds) s.heap.objs.size T.f__law_kinds cdv))) :
    Σ' t : TS, PSs (L2H.cxH CX0 P w K mg base ["_law_error", "_law_found"] "_law_kinds" (defScope s__law_kinds) T.f__law_kinds cdv A outer s H E p) (defBody s__law_kinds) t :=
  ⟨_, (pss_cons (ps_set (i := 1) sc__law_kinds.nd rfl (.inl rfl) (pe_lst (pa_cons (pe_callB (call_isP hC hz (List.mem_cons_self)) (by rfl) T.z_isinstance (by decide +kernel) (pa_cons (pv 0) (pa_cons (pe_glob (v := .ref T.k_BadSet) rfl T.g_BadSet rfl) pa_nil))) (pa_cons (pe_callB (call_isP hC hz (List.mem_cons_self)) (by rfl) T.z_isinstance (by decide +kernel) (pa_cons (pv 0) (pa_cons (pe_glob (v := .ref T.k_BadSize) rfl T.g_BadSize rfl) pa_nil))) (pa_cons (pe_callB (call_isP hC hz (List.mem_cons_self)) (by rfl) T.z_isinstance (by decide +kernel) (pa_cons (pv 0) (pa_cons (pe_glob (v := .ref T.k_BadNumber) rfl T.g_BadNumber rfl) pa_nil))) pa_nil)))))
      (pss_one (ps_ret (pe_op op_cat (pv 1) (pe_lst (pa_cons (pe_callB (call_isP hC hz (List.mem_cons_self)) (by rfl) T.z_isinstance (by decide +kernel) (pa_cons (pv 0) (pa_cons (pe_glob (v := .ref T.k_BadRow) rfl T.g_BadRow rfl) pa_nil))) (pa_cons (pe_callB (call_isP hC hz (List.mem_cons_self)) (by rfl) T.z_isinstance (by decide +kernel) (pa_cons (pv 0) (pa_cons (pe_bltn (v := .ty "ValueError") (by rfl) T.z_ValueError (by decide +kernel) rfl) pa_nil))) pa_nil)))))))⟩
theorem ok__law_kinds (T : Txt K mg) : FnE P w K mg base 1 T.f__law_kinds T.d__law_kinds ["_law_error"] (spKinds T) := by
  refine okE T.F__law_kinds sc__law_kinds (fun a cls vs H Q E h => ?_) (fun cdv A outer s H vs Q E p cls hz hr h => ?_)
  · obtain ⟨C, b0, b1, b2, b3, rfl, _⟩ := h
    rfl
  · obtain ⟨C, b0, b1, b2, b3, rfl, rfl, er, q⟩ := h
    refine ⟨_, (dve__law_kinds T er.ex hz hr).2, ?_⟩
    refine ⟨_, rfl, _, _, b0, rfl, fun u h => h, er.k0, _, rfl, _, _, b1, rfl, fun u h => h, er.k1, _, rfl, _, _, b2, rfl, fun u h => h, er.k2, (by show 3 ≤ sizeLine; decide), fun l nl => ?_⟩
    generalize hh : upd _ l _ = H1 at ⊢
    have s1 := new_same nl hh
    have g1 := new_at hh
    clear hh
    refine ⟨_, rfl, _, rfl, _, _, b3, rfl, fun u h => h, er.k3, _, rfl, _, _, true, rfl, fun u h => h, er.kv, (by show 2 ≤ sizeLine; decide), fun m nm => ?_⟩
    generalize hh : upd _ m _ = H2 at ⊢
    have s2 := new_same nm hh
    have g2 := new_at hh
    clear hh
    refine ⟨l, m, _, _, rfl, rfl, s2 _ _ g1, g2, (by show 5 ≤ sizeLine; decide), fun n nn => ?_⟩
    exact q _ n ((s1.trans s2).trans (same_new nn)) upd_same
def spTellt (fA : Addr) (prem : Nat → V → Hp → Prop) (b0 b1 b2 b3 : Bool) : Sp := fun vs H Q _ => ∃ (d : Nat) (x : V), vs = [.ref fA, .int (d : Int), x] ∧ prem d x H ∧ ∀ H' p, Same H H' → H' p = some (.lst (kindsV b0 b1 b2 b3)) → Q (.ref p) H'
noncomputable def dv__law_told {P : Program} {w : World} {K : PySem.W.Frag} {mg : Str → Option Value} {base : Heap} (T : Txt K mg) {fA : Addr} {fdA : FuncData} {psA : List Str} {spA : Sp} (FA : FnOk P w K mg base (L2.CX P w) 38 fA fdA psA spA) (kA : PySem.W.keepIn K (.ref fA) = true) (bA : Binds K fdA psA []) {cdv : Value} {A : Around} {outer : List Env} {s : Shared} {H : Hp} {E : XK}
    (hr : Room 39 (A.deeper (envOfC "_law_told" (defScope s__law_told) s.heap.objs.size T.f__law_told cdv))) :
    Σ' t : TS, PSs (cxOf CX0 P w K mg base ["_law_ask", "_law_door", "_law_thing", "_law_error"] "_law_told" (defScope s__law_told) T.f__law_told cdv A outer s H E).nox (defBody s__law_told) t :=
  ⟨_, (pss_cons (ps_try_as (i := 3) (tb := fun W => tDrop (tCallLS 0 fA spA (WE W) (tCons (tVar 1) (tCons (tVar 2) tNil)))) (ts := fun a cls d => tRet (tCallE (spKinds T) a cls d (tCons (tVar 3) tNil))) (Wout := fun _ _ _ _ => False) rfl rfl sc__law_told.nd rfl rfl ⟨rfl, by decide, .inl T.g_SetsError⟩ takes0 (fun W pn xe tk _ => by exact (pss_one (ps_expr (pe_callLS FA (hr.mono (by omega)) rfl (.inl rfl) kA bA (fun σ => passAt tk σ) (pa_cons (pv 1) (pa_cons (pv 2) pa_nil)))))) (fun a oe cls d pn hz hf => by exact (pss_one (ps_ret (pe_callE (ok__law_kinds T) ⟨(L2H.roomH_of (hr.mono (show 1 ≤ 39 by decide))).dp, (L2H.roomH_of (hr.mono (show 1 ≤ 39 by decide))).un⟩ hz hf (List.mem_cons_self) (by rfl) T.g__law_kinds T.F__law_kinds.kp T.b__law_kinds (by exact (pa_cons (pv 3) pa_nil)))))))
      (pss_one (ps_ret (pe_lst pa_nil))))⟩
theorem ok__law_told (T : Txt K mg) {fA C : Addr} {fdA : FuncData} {psA : List Str} {prem : Nat → V → Hp → Prop} {b0 b1 b2 b3 : Bool} (FA : FnOk P w K mg base (L2.CX P w) 38 fA fdA psA (spAsk prem C)) (kA : PySem.W.keepIn K (.ref fA) = true) (bA : Binds K fdA psA []) (er : ErrC T C b0 b1 b2 b3) :
    FnOk P w K mg base CX0 40 T.f__law_told T.d__law_told ["_law_ask", "_law_door", "_law_thing"] (Sh.spTellt fA prem b0 b1 b2 b3) := by
  refine T.F__law_told.ok sc__law_told (fun vs H Q E h => ?_) (fun cdv A outer s H vs Q E hr h => ⟨_, (dv__law_told T FA kA bA hr).2, ?_⟩)
  · obtain ⟨d, x, rfl, _⟩ := h
    rfl
  · obtain ⟨d, x, rfl, hp, q⟩ := h
    refine ⟨rfl, _, rfl, _, rfl, d, x, rfl, hp, fun H1 s1 => ⟨true, er.em, fun _ a ha => ?_, fun z => nomatch z⟩⟩
    exact ⟨_, rfl, rfl, C, b0, b1, b2, b3, rfl, rfl, er, fun H2 p s2 hp => q H2 p (s1.trans s2) hp⟩
def spAll (fA : Addr) (prem : Nat → V → Hp → Prop) (b0 b1 b2 b3 : Bool) : Sp := fun vs H Q _ => ∃ (ds ts du : Addr) (dl : List Nat) (xs : List V), vs = [.ref fA, .ref ds, .ref ts, .ref du] ∧ H ds = some (.lst (natsV dl)) ∧ H ts = some (.lst xs) ∧ xs.length ≤ 100 ∧
  H du = some (.lst (kindsV b0 b1 b2 b3)) ∧ (∀ d ∈ dl, ∀ x ∈ xs, prem d x H) ∧ ∀ H', Same H H' → Q (.bl true) H'
noncomputable def dv__law_all {P : Program} {w : World} {K : PySem.W.Frag} {mg : Str → Option Value} {base : Heap} (T : Txt K mg) {fA C : Addr} {fdA : FuncData} {psA : List Str} {prem : Nat → V → Hp → Prop} {b0 b1 b2 b3 : Bool} (FA : FnOk P w K mg base (L2.CX P w) 38 fA fdA psA (spAsk prem C)) (kA : PySem.W.keepIn K (.ref fA) = true) (bA : Binds K fdA psA []) (er : ErrC T C b0 b1 b2 b3) {cdv : Value} {A : Around} {outer : List Env} {s : Shared} {H : Hp} {E : XK}
    (hr : Room 40 (A.deeper (envOfC "_law_all" (defScope s__law_all) s.heap.objs.size T.f__law_all cdv))) :
    Σ' t : TS, PSs (cxOf CX0 P w K mg base ["_law_ask", "_law_doors", "_law_things", "_law_due", "_law_door", "_law_thing"] "_law_all" (defScope s__law_all) T.f__law_all cdv A outer s H E).nox (defBody s__law_all) t :=
  ⟨_, (pss_cons (ps_for PassesOwn.never rfl (pi_list (pv 1)) (pg_name (i := 4) sc__law_all.nd rfl (.inr rfl)) (pss_one (ps_if (pt_not (pt_val (pe_callB (cr_allK (K := K) rfl) (by rfl) T.z_all (by decide +kernel) (pa_cons (pe_lc (g := gName 5) (own := [("_law_thing", 5)]) rfl sc__law_all.nd (pi_list (pv 2)) (blkOk_by (own := [("_law_thing", 5)]) (N := ["_law_ask", "_law_doors", "_law_things", "_law_due", "_law_door", "_law_thing"]) (sc := defScope s__law_all) (by decide +kernel)) (fun _ _ _ _ _ => by exact (pg_name (i := 5) sc__law_all.nd rfl (.inl rfl))) (fun _ _ _ _ _ => by exact pts_nil) (fun _ _ _ _ _ => by exact (pe_cmpR (op_eqDK (K := K) hr.units) (pe_call (ok__law_told T FA kA bA er) (hr.mono (by omega)) (by rfl) T.g__law_told T.F__law_told.kp T.b__law_told .nil pass0 (pa_cons (pv 0) (pa_cons (pv 4) (pa_cons (pv 5) pa_nil)))) (pv 3) (nomark _)))) pa_nil)))) (pss_one (ps_ret pe_bl)) pss_nil)))
      (pss_one (ps_ret pe_bl)))⟩
theorem ok__law_all (T : Txt K mg) {fA C : Addr} {fdA : FuncData} {psA : List Str} {prem : Nat → V → Hp → Prop} {b0 b1 b2 b3 : Bool} (FA : FnOk P w K mg base (L2.CX P w) 38 fA fdA psA (spAsk prem C)) (kA : PySem.W.keepIn K (.ref fA) = true) (bA : Binds K fdA psA []) (er : ErrC T C b0 b1 b2 b3) (st : Stable prem) :
    FnOk P w K mg base CX0 41 T.f__law_all T.d__law_all ["_law_ask", "_law_doors", "_law_things", "_law_due"] (spAll fA prem b0 b1 b2 b3) := by
  refine T.F__law_all.ok sc__law_all (fun vs H Q E h => ?_) (fun cdv A outer s H vs Q E hr h => ⟨_, (dv__law_all T FA kA bA er hr).2, ?_⟩)
  · obtain ⟨ds, ts, du, dl, xs, rfl, _⟩ := h
    rfl
  · obtain ⟨ds, ts, du, dl, xs, rfl, hds, hts, hlen, hdu, hp, q⟩ := h
    refine ⟨_, rfl, ds, rfl, ⟨_, .of hds⟩, ?_⟩
    refine for1_list (xs := natsV dl) (fun i σ H' => Same H H' ∧ ∃ y, σ = [some (.ref fA), some (.ref ds), some (.ref ts), some (.ref du), y, none]) ⟨Same.refl _, _, rfl⟩ (fun i σ H' h => .of (h.1 _ _ hds)) ?_ ?_
    · rintro i y σ H1 hy ⟨s1, y4, rfl⟩
      obtain ⟨d, hd, rfl⟩ := get_natsV hy
      have hdm := List.mem_of_getElem? hd
      refine ⟨_, rfl, ts, rfl, ⟨_, .of (s1 _ _ hts)⟩, fun D nD => ?_⟩
      refine lc1_list (xs := xs) (fun i acc H' => Same H1 H' ∧ acc = List.replicate i (V.bl true)) ⟨same_new nD, rfl⟩ (fun i acc H' h => .of (h.1 _ _ (s1 _ _ hts))) (fun _ => rfl) ?_ ?_
      · rintro i x acc H2 hx hl hD ⟨s2, he⟩
        have hi := (List.getElem?_eq_some_iff.mp hx).1
        have hpx := st d x H H2 (s1.trans s2) (hp d hdm x (List.mem_of_getElem? hx))
        refine ⟨_, rfl, _, rfl, _, rfl, d, x, rfl, hpx, fun H3 p s3 hp3 => ⟨_, rfl, ?_⟩⟩
        refine eqB [b0, b1, b2, b3, true] rfl rfl (.of hp3) (.of (s3 _ _ (s2 _ _ (s1 _ _ hdu)))) ?_
        refine LcN.put (s3 _ _ hD) hl (small1000 (by omega)) ⟨same_free (s2.trans s3) nD, ?_⟩
        rw [he, List.replicate_succ']
      rintro acc H2 hl hD ⟨s2, he⟩
      subst he
      refine ⟨D, List.replicate xs.length true, rfl, .of (by rw [List.map_replicate]; exact hD), ?_⟩
      have eall : (List.replicate xs.length true).all id = true := by simp
      rw [eall]
      exact ⟨true, rfl, iteF ⟨s1.trans s2, _, rfl⟩⟩
    · rintro σ H1 ⟨s1, y4, rfl⟩
      exact q H1 s1
end
end Sh

/-! n, n - 1, .., 0. -/
namespace Sh
open PySem PySem.Spec PyProof.Rows L2
/-- n, n - 1, .., 0 -/
def downTo (n : Nat) : List Nat := (List.range (n + 1)).map fun k => n - k
theorem rgS_down (n : Nat) : rgS (n : Int) (-1) (n + 1) = natsV (downTo n) := by
  unfold rgS natsV downTo
  rw [List.map_map]
  refine List.map_congr_left fun k hk => ?_
  have := List.mem_range.mp hk
  show V.int ((n : Int) + (k : Int) * -1) = V.int ((n - k : Nat) : Int)
  exact congrArg V.int (by omega)
theorem downTo_length (n : Nat) : (downTo n).length = n + 1 := by
  unfold downTo
  rw [List.length_map, List.length_range]
theorem downTo_down (n : Nat) : Down (downTo n) := by
  unfold downTo
  rw [Down, List.pairwise_map]
  refine List.Pairwise.imp_of_mem (fun {i j} h1 h2 h3 => ?_) List.pairwise_lt_range
  have h1 := List.mem_range.mp h1
  have h2 := List.mem_range.mp h2
  omega
theorem good_downTo {n : Nat} (h : n < 20) : Good (downTo n) 5 :=
  ⟨downTo_down n, by rw [downTo_length]; omega, fun x hx => by
    unfold downTo at hx
    obtain ⟨k, _, rfl⟩ := List.mem_map.mp hx
    omega, by decide⟩
end Sh

/-! The law of refusals. Written by gen5.py. -/
namespace Sh
open PySem PySem.Spec PyProof.Rows L2
def far30 : Nat := 10 ^ 30
theorem pos30 : (0 : Int) < ((far30 : Nat) : Int) := by decide +kernel
theorem e30 : (10 : Int) ^ (30 : Int).toNat = ((far30 : Nat) : Int) := by decide +kernel
theorem far_of (z : Int) : ∃ f : Nat, f < far30 ∧ z % ((far30 : Nat) : Int) = (f : Int) := by
  have h0 := pos30
  have h1 := Int.emod_nonneg z (show ((far30 : Nat) : Int) ≠ 0 by omega)
  have h2 := Int.emod_lt_of_pos z h0
  exact ⟨(z % ((far30 : Nat) : Int)).toNat, by omega, by omega⟩
theorem far_small {f : Nat} (h : f < far30) : f < 2 ^ 100 := Nat.lt_trans h (by decide +kernel)
theorem far_more {f k : Nat} (h : f < far30) (hk : k ≤ 100) : k + f < 2 ^ 200 := by
  have h1 := far_small h
  have h2 : (2 : Nat) ^ 100 + 2 ^ 100 ≤ 2 ^ 200 := by decide +kernel
  have h3 : 100 < 2 ^ 100 := by decide +kernel
  omega
theorem small_far2 {f : Nat} (h : f < far30) : ∀ x ∈ [0, 1 + f], x < 2 ^ 200 := fun x hx => by
  simp only [List.mem_cons, List.not_mem_nil, or_false] at hx
  rcases hx with rfl | rfl
  · exact Nat.two_pow_pos _
  · exact far_more h (by decide)
theorem small_far3 {f : Nat} (h : f < far30) : ∀ x ∈ [3, 4 + f, 0], x < 2 ^ 200 := fun x hx => by
  simp only [List.mem_cons, List.not_mem_nil, or_false] at hx
  rcases hx with rfl | rfl | rfl
  · decide +kernel
  · exact far_more h (by decide)
  · exact Nat.two_pow_pos _
theorem cas_first (f : Nat) : (cas 20 f)[0]? = some (top 19 f) := by
  show (cas (19 + 1) f)[0]? = _
  rw [cas_succ]
  rfl
theorem top_18 (f : Nat) : 18 < top 19 f := Nat.lt_of_lt_of_le (by decide) (top_ge 19 f)
theorem over_10 : overN 1 0 = 0 := by decide +kernel
theorem over_13 : overN 1 3 = 3 := by decide +kernel
theorem least_two {a b : Nat} {l : List Nat} (h : overN 1 a < b) : leastN (a :: b :: l) ≠ none := by
  show (if overN 1 a < b then some (1 + 1, overN 1 a) else leastFrom (1 + 1) (b :: l)) ≠ none
  rw [if_pos h]
  exact fun z => nomatch z
theorem four {ds : List Addr} (h : ds.length = 4) : ∃ d0 d1 d2 d3, ds = [d0, d1, d2, d3] := match ds, h with
  | [a, b, c, d], _ => ⟨a, b, c, d, rfl⟩
abbrev dueV (j : Nat) : List V := kindsV (decide (j = 0)) (decide (j = 1)) (decide (j = 2)) (decide (j = 3))
/-- what stays: the lists of truths that are due -/
structure Env5 (H Hc : Hp) (u d0 d1 d2 d3 : Addr) : Prop where
  sc : Same H Hc
  due : Hc u = some (.lst [.ref d0, .ref d1, .ref d2, .ref d3])
  e0 : Hc d0 = some (.lst (kindsV true false false false))
  e1 : Hc d1 = some (.lst (kindsV false true false false))
  e2 : Hc d2 = some (.lst (kindsV false false true false))
  e3 : Hc d3 = some (.lst (kindsV false false false true))
theorem Env5.same {H Hc Hd : Hp} {u d0 d1 d2 d3 : Addr} (e : Env5 H Hc u d0 d1 d2 d3) (s : Same Hc Hd) : Env5 H Hd u d0 d1 d2 d3 := ⟨e.sc.trans s, s _ _ e.due, s _ _ e.e0, s _ _ e.e1, s _ _ e.e2, s _ _ e.e3⟩
/-- things of which the same is true, that new objects leave so -/
class Stay (p : V → Hp → Prop) : Prop where
  same : ∀ {x : V} {H H' : Hp}, p x H → Same H H' → p x H'
instance {f : List V → Bool} : Stay (Bad f) := ⟨fun h s => h.same s⟩
instance : Stay NoNum := ⟨fun h s => h.same s⟩
instance : Stay Barr := ⟨fun h s => h.same s⟩
instance : Stay Full := ⟨fun h s => h.same s⟩
def All (p : V → Hp → Prop) (l : List V) (H : Hp) : Prop := ∀ x ∈ l, p x H
theorem all_nil {p : V → Hp → Prop} {H : Hp} : All p [] H := fun x h => nomatch h
theorem All.same {p : V → Hp → Prop} [i : Stay p] {l : List V} {H H' : Hp} (h : All p l H) (s : Same H H') : All p l H' := fun x hx => i.same (h x hx) s
theorem All.add {p : V → Hp → Prop} {l : List V} {H : Hp} {x : V} (h : All p l H) (hx : p x H) : All p (l ++ [x]) H := fun y hy => by
  rcases List.mem_append.mp hy with hy | hy
  · exact h y hy
  · rw [List.mem_singleton.mp hy]
    exact hx
/-- things ahead of what is still to come -/
def AllF (p : V → Hp → Prop) (f : List V → List V) (H : Hp) : Prop := ∃ l, (∀ tl, f tl = l ++ tl) ∧ All p l H
theorem allF_nil {p : V → Hp → Prop} {H : Hp} : AllF p (fun tl => tl) H := ⟨[], fun _ => rfl, all_nil⟩
theorem AllF.same {p : V → Hp → Prop} [i : Stay p] {f : List V → List V} {H H' : Hp} (h : AllF p f H) (s : Same H H') : AllF p f H' := by
  obtain ⟨l, e, h⟩ := h
  exact ⟨l, e, h.same s⟩
theorem AllF.add {p : V → Hp → Prop} {f : List V → List V} {H : Hp} {x : V} (h : AllF p f H) (hx : p x H) : AllF p (fun tl => f (x :: tl)) H := by
  obtain ⟨l, e, h⟩ := h
  exact ⟨l ++ [x], fun tl => by show f (x :: tl) = _; rw [e, List.append_assoc]; rfl, h.add hx⟩
theorem AllF.done {p : V → Hp → Prop} {f : List V → List V} {H : Hp} (h : AllF p f H) : All p (f []) H := by
  obtain ⟨l, e, h⟩ := h
  rw [e, List.append_nil]
  exact h
/-- no object -/
def simple : V → Bool
  | .non => true
  | .bl _ => true
  | .int _ => true
  | .str _ => true
  | _ => false
theorem kind_simple {v : V} {H : Hp} (h : simple v = true) : Kind v H := by
  cases v with
  | non => exact ⟨_, rfl⟩
  | bl b => exact ⟨_, rfl⟩
  | int i => exact ⟨_, rfl⟩
  | str s => exact ⟨_, rfl⟩
  | _ => cases h
section
variable {f : List V → Bool} {H : Hp} {a : Addr} {x : V} {xs : List V}
theorem bad_ty {n : String} (h : tyOf x H = some n) (hn : n ≠ "list") : Bad f x H := .inl ⟨n, h, hn⟩
theorem bad_tup (h : H a = some (.tup xs)) : Bad f (.ref a) H := .inl ⟨_, ty_tup h, by decide⟩
theorem bad_dict {kvs : List (Key × V)} (h : H a = some (.dK kvs)) : Bad f (.ref a) H := .inl ⟨_, ty_dict h, by decide⟩
theorem bad_lst (h : H a = some (.lst xs)) (hs : xs.all simple = true) (hf : f xs = false) : Bad f (.ref a) H := .inr ⟨a, xs, rfl, h, fun _ v hv => kind_simple (List.all_eq_true.mp hs v hv), hf⟩
theorem bad_in {b : Addr} {ys : List V} (h : H a = some (.lst [.ref b])) (hb : H b = some (.lst ys)) (hf : f [.ref b] = false) : Bad f (.ref a) H :=
  .inr ⟨a, _, rfl, h, fun _ v hv => by rw [List.mem_singleton.mp hv]; exact ⟨_, ty_list hb⟩, hf⟩
theorem bad_tin {b : Addr} {ys : List V} (h : H a = some (.lst [.int 4, .ref b])) (hb : H b = some (.tup ys)) : Bad listV (.ref a) H :=
  .inr ⟨a, _, rfl, h, fun _ v hv => by
    simp only [List.mem_cons, List.not_mem_nil, or_false] at hv
    rcases hv with rfl | rfl
    · exact kind_int _ _
    · exact ⟨_, ty_tup hb⟩, rfl⟩
class Short (f : List V → Bool) : Prop where
  long : ∀ xs : List V, 20 < xs.length → f xs = false
instance : Short setV := ⟨fun xs h => by unfold setV; rw [decide_eq_false (by omega), Bool.false_and]⟩
instance : Short listV := ⟨fun xs h => by unfold listV; rw [decide_eq_false (by omega), Bool.false_and]⟩
theorem bad_long0 [s : Short f] (h : H a = some (.lst xs)) (hl : 20 < xs.length) : Bad f (.ref a) H := .inr ⟨a, xs, rfl, h, fun z => absurd z (by omega), s.long xs hl⟩
end
theorem numV_neg {i : Int} (h : i < 0) : numV (.int i) = false := decide_eq_false (by omega)
section
variable {H : Hp} {a : Addr} {far : Nat}
theorem bad_neg (h : H a = some (.lst [.int 2, .int (-1 - (far : Int))])) : Bad setV (.ref a) H := bad_lst h rfl (by
  unfold setV
  rw [show ([V.int 2, .int (-1 - (far : Int))].all numV) = (numV (.int 2) && (numV (.int (-1 - (far : Int))) && true)) from rfl, numV_neg (i := -1 - (far : Int)) (by omega)]
  rfl)
theorem bad_neg2 (h : H a = some (.lst [.int 3, .int (-1 - (far : Int))])) : Bad listV (.ref a) H := bad_lst h rfl (by
  unfold listV
  rw [show ([V.int 3, .int (-1 - (far : Int))].all numV) = (numV (.int 3) && (numV (.int (-1 - (far : Int))) && true)) from rfl, numV_neg (i := -1 - (far : Int)) (by omega)]
  rfl)
theorem bad_rise {i j : Int} (h : H a = some (.lst [.int i, .int j])) (hij : i ≤ j) : Bad setV (.ref a) H := bad_lst h rfl (by
  unfold setV
  rw [show fallI ([V.int i, .int j].map intOf) = (decide (j < i) && true) from rfl, decide_eq_false (show ¬ j < i by omega), Bool.false_and, Bool.and_false, Bool.and_false])
theorem bad_twice {i : Int} (h : H a = some (.lst [.int i, .int 1, .int 1])) : Bad setV (.ref a) H := bad_lst h rfl (by
  unfold setV
  rw [show fallI ([V.int i, .int 1, .int 1].map intOf) = (decide ((1 : Int) < i) && (decide ((1 : Int) < 1) && true)) from rfl, show decide ((1 : Int) < 1) = false from rfl, Bool.false_and, Bool.and_false, Bool.and_false, Bool.and_false])
theorem nn_ty {x : V} {n : String} (h : tyOf x H = some n) (hn : numV x = false) : NoNum x H := ⟨⟨n, h⟩, hn⟩
theorem nn_lst {xs : List V} (h : H a = some (.lst xs)) : NoNum (.ref a) H := ⟨⟨_, ty_list h⟩, rfl⟩
theorem nn_tup {xs : List V} (h : H a = some (.tup xs)) : NoNum (.ref a) H := ⟨⟨_, ty_tup h⟩, rfl⟩
theorem nn_dict {kvs : List (Key × V)} (h : H a = some (.dK kvs)) : NoNum (.ref a) H := ⟨⟨_, ty_dict h⟩, rfl⟩
theorem noSize {x : V} {lo hi : Int} (h : NoNum x H) : NoSize lo hi x H := ⟨h.1, by unfold sizeV; rw [h.2, Bool.false_and]⟩
theorem size_no {i lo hi : Int} (h : i < lo ∨ hi < i) : NoSize lo hi (.int i) H := ⟨kind_int _ _, by
  unfold sizeV
  show (numV (.int i) && (decide (lo ≤ i) && decide (i ≤ hi))) = false
  rcases h with h | h
  · rw [decide_eq_false (show ¬ lo ≤ i by omega), Bool.false_and, Bool.and_false]
  · rw [decide_eq_false (show ¬ i ≤ hi by omega), Bool.and_false, Bool.and_false]⟩
theorem sz4 {lo hi : Int} (h1 : 0 ≤ lo) (h2 : hi ≤ 20) : ∀ x ∈ [V.int (-1), .int (-1 - (far : Int)), .int 21, .int ((21 + far : Nat) : Int)], NoSize lo hi x H := fun x hx => by
  simp only [List.mem_cons, List.not_mem_nil, or_false] at hx
  rcases hx with rfl | rfl | rfl | rfl <;> exact size_no (by omega)
theorem sz5 {lo hi : Int} (h1 : 1 ≤ lo) (h2 : hi ≤ 20) : ∀ x ∈ [V.int 0, .int (-1), .int (-1 - (far : Int)), .int 21, .int ((21 + far : Nat) : Int)], NoSize lo hi x H := fun x hx => by
  simp only [List.mem_cons, List.not_mem_nil, or_false] at hx
  rcases hx with rfl | rfl | rfl | rfl | rfl <;> exact size_no (by omega)
theorem two_sizes {d : Nat} {x : V} (hd : d ∈ [1, 2]) (h1 : NoSize 1 20 x H) (h2 : NoSize 1 19 x H) : pSize d x H := by
  simp only [List.mem_cons, List.not_mem_nil, or_false] at hd
  rcases hd with rfl | rfl
  · exact .inr (.inl ⟨rfl, h1⟩)
  · exact .inr (.inr ⟨rfl, h2⟩)
theorem nn2 : ∀ x ∈ [V.int (-1), .int (-1 - (far : Int))], NoNum x H := fun x hx => by
  simp only [List.mem_cons, List.not_mem_nil, or_false] at hx
  rcases hx with rfl | rfl <;> exact ⟨kind_int _ _, numV_neg (by omega)⟩
theorem none4 : ∀ x ∈ [V.int 1, .int ((1 + far : Nat) : Int), .int (-1), .non], NoNum x H ∨ ∃ n : Nat, 0 < n ∧ x = .int (n : Int) := fun x hx => by
  simp only [List.mem_cons, List.not_mem_nil, or_false] at hx
  rcases hx with rfl | rfl | rfl | rfl
  · exact .inr ⟨1, by decide, rfl⟩
  · exact .inr ⟨1 + far, by omega, rfl⟩
  · exact .inl ⟨kind_int _ _, rfl⟩
  · exact .inl ⟨⟨_, rfl⟩, rfl⟩
theorem barr_of {r : List Nat} (h : H a = some (.lst (natsV r))) (h20 : r.length ≤ 20) (hs : ∀ x ∈ r, x < 2 ^ 200) (h0 : leastN r ≠ none) : Barr (.ref a) H := ⟨a, r, 200, rfl, ⟨h, h20, hs, by decide⟩, h0⟩
theorem full_of {r : List Nat} (h : H a = some (.lst (natsV r))) (h20 : r.length ≤ 20) (hs : ∀ x ∈ r, x < 1024) (h0 : leastN r = none) (hl : r.length = 0 ∨ r.length = 20) : Full (.ref a) H := ⟨a, r, 10, rfl, rw_lit h h20 hs, h0, hl⟩
theorem rgc_down (n : Nat) (h : n ≤ 1000) : RgC (n : Int) (-1) (-1) (n + 1) := by
  have h := RgC.neg (i := (n : Int)) (j := -1) (by omega) (by omega) (by omega) (by omega)
  rwa [show ((n : Int) - -1).toNat = n + 1 by omega] at h
end
theorem rgS_length (i c : Int) (n : Nat) : (rgS i c n).length = n := by
  unfold rgS
  rw [List.length_map, List.length_range]
section
variable {P : Program} {w : World} {K : PySem.W.Frag} {mg : Str → Option Value} {base : Heap}
def spLaw (K : PySem.W.Frag) : Sp := fun vs H Q _ => ∃ (a : Addr) (ns : List Int), vs = [.ref a] ∧ SqL K H a (ns.map V.int) ∧ ns.length ≤ 63 ∧ Bounded ns ∧ ∀ H', Same H H' → Q (.bl true) H'
noncomputable def dv_law {P : Program} {w : World} {K : PySem.W.Frag} {mg : Str → Option Value} {base : Heap} (T : Txt K mg)  {cdv : Value} {A : Around} {outer : List Env} {s : Shared} {H : Hp} {E : XK}
    (hr : Room 41 (A.deeper (envOfC "law" (defScope s_law) s.heap.objs.size T.f_law cdv))) :
    Σ' t : TS, PSs (cxOf CX0 P w K mg base ["_law_script", "_law_far", "_law_due", "_law_k", "_law_bad", "_law_strange", "_law_rows", "_law_barred"] "law" (defScope s_law) T.f_law cdv A outer s H E).nox (defBody s_law) t :=
  ⟨_, (pss_cons (ps_set (i := 1) sc_law.nd rfl (.inl rfl) (pe_op op_iMod (pe_callB call_abs (by rfl) T.z_abs (by decide +kernel) (pa_cons (pe_call (ok__law_cell_at T) (hr.mono (by omega)) (by rfl) T.g__law_cell_at T.F__law_cell_at.kp T.b__law_cell_at .nil pass0 (pa_cons (pv 0) (pa_cons pe_int pa_nil))) pa_nil)) (pe_op op_iPow pe_int pe_int)))
      (pss_cons (ps_set (i := 2) sc_law.nd rfl (.inl rfl) (pe_lst pa_nil))
      (pss_cons (ps_for PassesOwn.never rfl (pi_range1 (by rfl) T.z_range (pa_cons pe_int pa_nil)) (pg_name (i := 3) sc_law.nd rfl (.inl rfl)) (pss_one (ps_expr (pe_bm PySem.F.plainAttrs_list PySem.F.slot_list_append PySem.F.type_list_append mt_append (pv 2) (pa_cons (pe_lst (pa_cons (pe_cmpR op_nEq (pv 3) pe_int (nomark _)) (pa_cons (pe_cmpR op_nEq (pv 3) pe_int (nomark _)) (pa_cons (pe_cmpR op_nEq (pv 3) pe_int (nomark _)) (pa_cons (pe_cmpR op_nEq (pv 3) pe_int (nomark _)) (pa_cons pe_bl pa_nil)))))) pa_nil)))))
      (pss_cons (ps_set (i := 4) sc_law.nd rfl (.inl rfl) (pe_lst (pa_cons pe_non (pa_cons (pe_tup pa_nil) (pa_cons (pe_tup (pa_cons pe_int (pa_cons pe_int pa_nil))) (pa_cons pe_str (pa_cons pe_dnewK (pa_cons pe_int (pa_cons (pe_lst (pa_cons pe_non pa_nil)) (pa_cons (pe_lst (pa_cons pe_str pa_nil)) (pa_cons (pe_lst (pa_cons pe_bl pa_nil)) (pa_cons (pe_lst (pa_cons pe_int (pa_cons pe_bl pa_nil))) (pa_cons (pe_lst (pa_cons (pe_lst (pa_cons pe_int pa_nil)) pa_nil)) (pa_cons (pe_lst (pa_cons pe_int (pa_cons pe_int pa_nil))) (pa_cons (pe_lst (pa_cons pe_int (pa_cons pe_int pa_nil))) (pa_cons (pe_lst (pa_cons (pe_un un_neg pe_int) pa_nil)) (pa_cons (pe_lst (pa_cons pe_int (pa_cons (pe_op op_iSub (pe_un un_neg pe_int) (pv 1)) pa_nil))) pa_nil)))))))))))))))))
      (pss_cons (ps_set (i := 4) sc_law.nd rfl (.inl rfl) (pe_op op_cat (pv 4) (pe_lst (pa_cons (pe_lst (pa_cons (pv 1) (pa_cons (pe_op op_nAdd (pv 1) pe_int) pa_nil))) (pa_cons (pe_lst (pa_cons (pe_op op_nAdd (pv 1) pe_int) (pa_cons pe_int (pa_cons pe_int pa_nil)))) (pa_cons (pe_listRg3 rfl (by rfl) T.z_list (by rfl) T.z_range (pa_cons pe_int (pa_cons (pe_un un_neg pe_int) (pa_cons (pe_un un_neg pe_int) pa_nil)))) (pa_cons (pe_listRg3 rfl (by rfl) T.z_list (by rfl) T.z_range (pa_cons (pe_op op_nAdd pe_int (pe_op op_nMod (pv 1) pe_int)) (pa_cons (pe_un un_neg pe_int) (pa_cons (pe_un un_neg pe_int) pa_nil)))) pa_nil)))))))
      (pss_cons (ps_expr (pe_bm PySem.F.plainAttrs_list PySem.F.slot_list_append PySem.F.type_list_append mt_append (pv 4) (pa_cons (pe_lst (pa_cons pe_int (pa_cons pe_int (pa_cons pe_non pa_nil)))) pa_nil)))
      (pss_cons (ps_if (pt_not (pt_val (pe_call (ok__law_all T (bad__law_with_set T) T.F__law_with_set.kp T.b__law_with_set (er_BadSet T) st_set) (hr.mono (by omega)) (by rfl) T.g__law_all T.F__law_all.kp T.b__law_all .nil pass0 (pa_cons (pe_glob (v := .ref T.f__law_with_set) rfl T.g__law_with_set rfl) (pa_cons (pe_lst (pa_cons pe_int (pa_cons pe_int (pa_cons pe_int (pa_cons pe_int pa_nil))))) (pa_cons (pv 4) (pa_cons (pe_ix (ix_listK (K := K)) (pv 2) pe_int (fun _ _ => rfl)) pa_nil))))))) (pss_one (ps_ret pe_bl)) pss_nil)
      (pss_cons (ps_set (i := 5) sc_law.nd rfl (.inl rfl) (pe_lst (pa_cons pe_non (pa_cons pe_str (pa_cons pe_bl (pa_cons pe_bl (pa_cons (pe_lst (pa_cons pe_int pa_nil)) (pa_cons (pe_tup (pa_cons pe_int pa_nil)) (pa_cons pe_dnewK pa_nil)))))))))
      (pss_cons (ps_if (pt_not (pt_val (pe_call (ok__law_all T (bad__law_with_size T) T.F__law_with_size.kp T.b__law_with_size (er_BadSize T) st_size) (hr.mono (by omega)) (by rfl) T.g__law_all T.F__law_all.kp T.b__law_all .nil pass0 (pa_cons (pe_glob (v := .ref T.f__law_with_size) rfl T.g__law_with_size rfl) (pa_cons (pe_lst (pa_cons pe_int pa_nil)) (pa_cons (pe_op op_cat (pv 5) (pe_lst (pa_cons (pe_un un_neg pe_int) (pa_cons (pe_op op_iSub (pe_un un_neg pe_int) (pv 1)) (pa_cons pe_int (pa_cons (pe_op op_nAdd pe_int (pv 1)) pa_nil)))))) (pa_cons (pe_ix (ix_listK (K := K)) (pv 2) pe_int (fun _ _ => rfl)) pa_nil))))))) (pss_one (ps_ret pe_bl)) pss_nil)
      (pss_cons (ps_if (pt_not (pt_val (pe_call (ok__law_all T (bad__law_with_size T) T.F__law_with_size.kp T.b__law_with_size (er_BadSize T) st_size) (hr.mono (by omega)) (by rfl) T.g__law_all T.F__law_all.kp T.b__law_all .nil pass0 (pa_cons (pe_glob (v := .ref T.f__law_with_size) rfl T.g__law_with_size rfl) (pa_cons (pe_lst (pa_cons pe_int (pa_cons pe_int pa_nil))) (pa_cons (pe_op op_cat (pv 5) (pe_lst (pa_cons pe_int (pa_cons (pe_un un_neg pe_int) (pa_cons (pe_op op_iSub (pe_un un_neg pe_int) (pv 1)) (pa_cons pe_int (pa_cons (pe_op op_nAdd pe_int (pv 1)) pa_nil))))))) (pa_cons (pe_ix (ix_listK (K := K)) (pv 2) pe_int (fun _ _ => rfl)) pa_nil))))))) (pss_one (ps_ret pe_bl)) pss_nil)
      (pss_cons (ps_if (PW.pt (pw_or (pt_not (pt_val (pe_call (ok__law_all T (bad__law_with_size T) T.F__law_with_size.kp T.b__law_with_size (er_BadSize T) st_size) (hr.mono (by omega)) (by rfl) T.g__law_all T.F__law_all.kp T.b__law_all .nil pass0 (pa_cons (pe_glob (v := .ref T.f__law_with_size) rfl T.g__law_with_size rfl) (pa_cons (pe_lst (pa_cons pe_int pa_nil)) (pa_cons (pe_lst (pa_cons pe_int pa_nil)) (pa_cons (pe_ix (ix_listK (K := K)) (pv 2) pe_int (fun _ _ => rfl)) pa_nil))))))) (pw_or1 (pt_not (pt_val (pe_call (ok__law_all T (bad__law_with_number T) T.F__law_with_number.kp T.b__law_with_number (er_BadNumber T) st_number) (hr.mono (by omega)) (by rfl) T.g__law_all T.F__law_all.kp T.b__law_all .nil pass0 (pa_cons (pe_glob (v := .ref T.f__law_with_number) rfl T.g__law_with_number rfl) (pa_cons (pe_lst (pa_cons pe_int (pa_cons pe_int (pa_cons pe_int pa_nil)))) (pa_cons (pv 5) (pa_cons (pe_ix (ix_listK (K := K)) (pv 2) pe_int (fun _ _ => rfl)) pa_nil)))))))))) (pss_one (ps_ret pe_bl)) pss_nil)
      (pss_cons (ps_if (pt_not (pt_val (pe_call (ok__law_all T (bad__law_with_number T) T.F__law_with_number.kp T.b__law_with_number (er_BadNumber T) st_number) (hr.mono (by omega)) (by rfl) T.g__law_all T.F__law_all.kp T.b__law_all .nil pass0 (pa_cons (pe_glob (v := .ref T.f__law_with_number) rfl T.g__law_with_number rfl) (pa_cons (pe_lst (pa_cons pe_int (pa_cons pe_int (pa_cons pe_int pa_nil)))) (pa_cons (pe_lst (pa_cons (pe_un un_neg pe_int) (pa_cons (pe_op op_iSub (pe_un un_neg pe_int) (pv 1)) pa_nil))) (pa_cons (pe_ix (ix_listK (K := K)) (pv 2) pe_int (fun _ _ => rfl)) pa_nil))))))) (pss_one (ps_ret pe_bl)) pss_nil)
      (pss_cons (ps_if (pt_not (pt_val (pe_call (ok__law_all T (bad__law_of_none T) T.F__law_of_none.kp T.b__law_of_none (er_BadNumber T) st_none) (hr.mono (by omega)) (by rfl) T.g__law_all T.F__law_all.kp T.b__law_all .nil pass0 (pa_cons (pe_glob (v := .ref T.f__law_of_none) rfl T.g__law_of_none rfl) (pa_cons (pe_lst (pa_cons pe_int pa_nil)) (pa_cons (pe_lst (pa_cons pe_int (pa_cons (pe_op op_nAdd pe_int (pv 1)) (pa_cons (pe_un un_neg pe_int) (pa_cons pe_non pa_nil))))) (pa_cons (pe_ix (ix_listK (K := K)) (pv 2) pe_int (fun _ _ => rfl)) pa_nil))))))) (pss_one (ps_ret pe_bl)) pss_nil)
      (pss_cons (ps_set (i := 6) sc_law.nd rfl (.inl rfl) (pe_lst (pa_cons pe_non (pa_cons (pe_tup pa_nil) (pa_cons (pe_tup (pa_cons pe_int pa_nil)) (pa_cons pe_str (pa_cons pe_dnewK (pa_cons pe_int (pa_cons (pe_lst (pa_cons pe_non pa_nil)) (pa_cons (pe_lst (pa_cons pe_str pa_nil)) (pa_cons (pe_lst (pa_cons pe_bl pa_nil)) (pa_cons (pe_lst (pa_cons pe_int (pa_cons pe_bl pa_nil))) (pa_cons (pe_lst (pa_cons (pe_lst (pa_cons pe_int pa_nil)) pa_nil)) (pa_cons (pe_lst (pa_cons (pe_un un_neg pe_int) pa_nil)) (pa_cons (pe_lst (pa_cons pe_int (pa_cons (pe_op op_iSub (pe_un un_neg pe_int) (pv 1)) pa_nil))) (pa_cons (pe_op op_rep (pe_lst (pa_cons pe_int pa_nil)) pe_int) pa_nil))))))))))))))))
      (pss_cons (ps_if (pt_not (pt_val (pe_call (ok__law_all T (bad__law_with_row T) T.F__law_with_row.kp T.b__law_with_row (er_BadRow T) st_row) (hr.mono (by omega)) (by rfl) T.g__law_all T.F__law_all.kp T.b__law_all .nil pass0 (pa_cons (pe_glob (v := .ref T.f__law_with_row) rfl T.g__law_with_row rfl) (pa_cons (pe_lst (pa_cons pe_int (pa_cons pe_int (pa_cons pe_int pa_nil)))) (pa_cons (pe_op op_cat (pv 6) (pe_lst (pa_cons (pe_lst (pa_cons pe_int (pa_cons pe_int (pa_cons pe_non pa_nil)))) (pa_cons (pe_lst (pa_cons pe_int (pa_cons (pe_tup (pa_cons pe_int pa_nil)) pa_nil))) pa_nil)))) (pa_cons (pe_ix (ix_listK (K := K)) (pv 2) pe_int (fun _ _ => rfl)) pa_nil))))))) (pss_one (ps_ret pe_bl)) pss_nil)
      (pss_cons (ps_set (i := 7) sc_law.nd rfl (.inl rfl) (pe_lst (pa_cons (pe_lst (pa_cons pe_int (pa_cons pe_int pa_nil))) (pa_cons (pe_lst (pa_cons pe_int (pa_cons (pe_op op_nAdd pe_int (pv 1)) pa_nil))) (pa_cons (pe_lst (pa_cons pe_int (pa_cons pe_int (pa_cons pe_int pa_nil)))) (pa_cons (pe_lst (pa_cons pe_int (pa_cons pe_int (pa_cons pe_int (pa_cons pe_int (pa_cons pe_int pa_nil)))))) (pa_cons (pe_lst (pa_cons pe_int (pa_cons pe_int (pa_cons pe_int pa_nil)))) (pa_cons (pe_lst (pa_cons pe_int (pa_cons (pe_op op_nAdd pe_int (pv 1)) (pa_cons pe_int pa_nil)))) pa_nil))))))))
      (pss_cons (ps_if (PW.pt (pw_or (pt_not (pt_val (pe_call (ok__law_all T (bad__law_next T) T.F__law_next.kp T.b__law_next (er_BadRow T) st_next) (hr.mono (by omega)) (by rfl) T.g__law_all T.F__law_all.kp T.b__law_all .nil pass0 (pa_cons (pe_glob (v := .ref T.f__law_next) rfl T.g__law_next rfl) (pa_cons (pe_lst (pa_cons pe_int (pa_cons pe_int pa_nil))) (pa_cons (pv 7) (pa_cons (pe_ix (ix_listK (K := K)) (pv 2) pe_int (fun _ _ => rfl)) pa_nil))))))) (pw_or1 (pt_not (pt_val (pe_call (ok__law_all T (bad__law_with_row T) T.F__law_with_row.kp T.b__law_with_row (er_BadRow T) st_row) (hr.mono (by omega)) (by rfl) T.g__law_all T.F__law_all.kp T.b__law_all .nil pass0 (pa_cons (pe_glob (v := .ref T.f__law_with_row) rfl T.g__law_with_row rfl) (pa_cons (pe_lst (pa_cons pe_int pa_nil)) (pa_cons (pe_lst (pa_cons (pe_lst pa_nil) (pa_cons (pe_op op_rep (pe_lst (pa_cons pe_int pa_nil)) pe_int) pa_nil))) (pa_cons (pe_ix (ix_listK (K := K)) (pv 2) pe_int (fun _ _ => rfl)) pa_nil)))))))))) (pss_one (ps_ret pe_bl)) pss_nil)
      (pss_cons (ps_if (PW.pt (pw_or (pt_cmpR op_isnot_bl (pe_meth2 (pe_call (ok_told T) (hr.mono (by omega)) (by rfl) T.g_told T.F_told.kp T.b_told .nil pass0 (pa_cons (pe_op op_rep (pe_lst (pa_cons pe_int pa_nil)) pe_int) pa_nil)) T.C_Can T.C_Barred T.m_Can_shows T.m_Barred_shows (ok_Can_shows T) (ok_Barred_shows T) (hr.mono (by omega)) T.b_Can_shows T.b_Barred_shows pass0 (pa_cons (pe_op op_rep (pe_lst (pa_cons pe_int pa_nil)) pe_int) pa_nil)) pe_bl (nomark _)) (pw_or1 (pt_cmpR op_nNe (pe_call (ok_number_of T) (hr.mono (by omega)) (by rfl) T.g_number_of T.F_number_of.kp T.b_number_of .nil pass0 (pa_cons (pe_listRg3 rfl (by rfl) T.z_list (by rfl) T.z_range (pa_cons pe_int (pa_cons (pe_un un_neg pe_int) (pa_cons (pe_un un_neg pe_int) pa_nil)))) pa_nil)) pe_int (nomark _))))) (pss_one (ps_ret pe_bl)) pss_nil)
      (pss_one (ps_ret (pe_and (pe_call (ok_has T) (hr.mono (by omega)) (by rfl) T.g_has T.F_has.kp T.b_has .nil pass0 (pa_cons (pe_op op_rep (pe_lst (pa_cons pe_int pa_nil)) pe_int) (pa_cons (pe_lst pa_nil) pa_nil))) (pe_and (pe_cmpR op_nEq (pe_call (ok_most T) (hr.mono (by omega)) (by rfl) T.g_most T.F_most.kp T.b_most .nil pass0 (pa_cons (pe_op op_rep (pe_lst (pa_cons pe_int pa_nil)) pe_int) pa_nil)) pe_int (nomark _)) (pe_and (pe_cmpR op_nGt (pe_ix (ix_listK (K := K)) (pe_call (ok_set_of T) (hr.mono (by omega)) (by rfl) T.g_set_of T.F_set_of.kp T.b_set_of .nil pass0 (pa_cons pe_int (pa_cons (pv 1) pa_nil))) pe_int (fun _ _ => rfl)) pe_int (nomark _)) (pe_one (pe_chain op_nEq op_nEq (pe_call (ok_under T) (hr.mono (by omega)) (by rfl) T.g_under T.F_under.kp T.b_under .nil pass0 (pa_cons pe_int (pa_cons pe_int pa_nil))) pe_int (pe_call (ok_over T) (hr.mono (by omega)) (by rfl) T.g_over T.F_over.kp T.b_over .nil pass0 (pa_cons pe_int (pa_cons pe_int pa_nil))))))))))))))))))))))))))))⟩
theorem ok_law (T : Txt K mg) : FnOk P w K mg base CX0 42 T.f_law T.d_law ["_law_script"] (spLaw K) := by
  refine T.F_law.ok sc_law (fun vs H Q E h => ?_) (fun cdv A outer s H vs Q E hr h => ⟨_, (dv_law T hr).2, ?_⟩)
  · obtain ⟨a, ns, rfl, _⟩ := h
    rfl
  · obtain ⟨a, ns, rfl, hS, h63, hb, q⟩ := h
    have cp : CPow 10 30 := ⟨by decide, by decide, by decide⟩
    refine ⟨_, rfl, a, ns, 0, rfl, hS, fun z hz => ⟨z, rfl, ?_⟩⟩
    refine ⟨10, 30, rfl, rfl, cp, _, _, rfl, rfl, by rw [e30]; exact pos30, ?_⟩
    rw [e30]
    obtain ⟨far, hfar, ef⟩ := far_of (if z < 0 then -z else z)
    rw [ef]
    clear ef hz z hS h63 hb
    refine ⟨Nat.zero_le _, fun u nu => ?_⟩
    refine ⟨4, rfl, by decide, by decide, ?_⟩
    refine for_rangeN (n := 4) rfl (fun i σ H' => ∃ (ds : List Addr) (y : Option V), σ = [some (.ref a), some (.int (far : Int)), some (.ref u), y, none, none, none, none] ∧ Same H H' ∧ H' u = some (.lst (ds.map V.ref)) ∧ ds.length = i ∧ ∀ j d, ds[j]? = some d → H' d = some (.lst (dueV j)) ∧ d ≠ u) ⟨[], none, rfl, same_new nu, upd_same, rfl, fun j d h => by simp at h⟩ ?_ ?_
    · rintro i σ H1 hi ⟨ds, y, rfl, s1, hu, hl, hd⟩
      refine ⟨_, rfl, .inl ⟨rfl, _, .of hu⟩, _, rfl, i, 0, rfl, rfl, _, rfl, i, 1, rfl, rfl, _, rfl, i, 2, rfl, rfl, _, rfl, i, 3, rfl, rfl, (by show 5 ≤ sizeLine; decide), fun d nd => ?_⟩
      generalize hh : upd _ d _ = H2 at ⊢
      have s2 := new_same nd hh
      have g2 := new_at hh
      clear hh
      have hu2 := s2 _ _ hu
      refine ⟨u, _, _, rfl, rfl, hu2, ?_, ?_⟩
      · rw [List.length_map, hl]
        exact small1000 (by omega)
      have hdu : d ≠ u := fun e => by rw [e, hu] at nd; cases nd
      refine ⟨ds ++ [d], _, rfl, same_free (s1.trans s2) nu, by rw [upd_same, List.map_append]; rfl, by rw [List.length_append, hl]; rfl, fun j e hj => ?_⟩
      rcases Nat.lt_or_ge j ds.length with q1 | q1
      · rw [List.getElem?_append_left q1] at hj
        obtain ⟨h1, h2⟩ := hd j e hj
        exact ⟨by rw [upd_ne h2]; exact s2 _ _ h1, h2⟩
      · rw [List.getElem?_append_right q1] at hj
        have j0 : j - ds.length = 0 := Nat.lt_one_iff.mp (by have := (List.getElem?_eq_some_iff.mp hj).1; simpa using this)
        rw [j0] at hj
        have e1 : d = e := Option.some.inj hj
        subst e1
        have e2 : j = i := by omega
        subst e2
        exact ⟨by rw [upd_ne hdu]; exact g2, hdu⟩
    rintro σ Hc ⟨ds, y3, rfl, sc, hu, hl, hd⟩
    obtain ⟨d0, d1, d2, d3, rfl⟩ : ∃ d0 d1 d2 d3, ds = [d0, d1, d2, d3] := four hl
    have ev : Env5 H Hc u d0 d1 d2 d3 := ⟨sc, hu, (hd 0 d0 rfl).1, (hd 1 d1 rfl).1, (hd 2 d2 rfl).1, (hd 3 d3 rfl).1⟩
    clear sc hu hl hd nu
    have al := allF_nil (p := Bad setV) (H := Hc)
    replace al := al.add (bad_ty (x := .non) (n := "NoneType") rfl (by decide))
    refine ⟨Nat.zero_le _, fun t1 n1 => ?_⟩
    generalize hh : upd _ t1 _ = H1 at ⊢
    have s1 := new_same n1 hh
    have g1 := new_at hh
    clear hh
    replace ev := ev.same s1
    replace al := al.same s1
    clear n1 s1
    replace al := al.add (bad_tup g1)
    refine ⟨(by show 2 ≤ sizeLine; decide), fun t2 n2 => ?_⟩
    generalize hh : upd _ t2 _ = H2 at ⊢
    have s2 := new_same n2 hh
    have g2 := new_at hh
    clear hh
    replace ev := ev.same s2
    replace al := al.same s2
    clear n2 s2
    replace al := al.add (bad_tup g2)
    replace al := al.add (bad_ty (x := .str "10") (n := "str") rfl (by decide))
    refine fun t3 n3 => ?_
    generalize hh : upd _ t3 _ = H3 at ⊢
    have s3 := new_same n3 hh
    have g3 := new_at hh
    clear hh
    replace ev := ev.same s3
    replace al := al.same s3
    clear n3 s3
    replace al := al.add (bad_dict g3)
    replace al := al.add (bad_ty (x := .int 5) (n := "int") rfl (by decide))
    refine ⟨(by show 1 ≤ sizeLine; decide), fun t4 n4 => ?_⟩
    generalize hh : upd _ t4 _ = H4 at ⊢
    have s4 := new_same n4 hh
    have g4 := new_at hh
    clear hh
    replace ev := ev.same s4
    replace al := al.same s4
    clear n4 s4
    replace al := al.add (bad_lst (xs := [.non]) g4 rfl rfl)
    refine ⟨(by show 1 ≤ sizeLine; decide), fun t5 n5 => ?_⟩
    generalize hh : upd _ t5 _ = H5 at ⊢
    have s5 := new_same n5 hh
    have g5 := new_at hh
    clear hh
    replace ev := ev.same s5
    replace al := al.same s5
    clear n5 s5
    replace al := al.add (bad_lst (xs := [.str "1"]) g5 rfl rfl)
    refine ⟨(by show 1 ≤ sizeLine; decide), fun t6 n6 => ?_⟩
    generalize hh : upd _ t6 _ = H6 at ⊢
    have s6 := new_same n6 hh
    have g6 := new_at hh
    clear hh
    replace ev := ev.same s6
    replace al := al.same s6
    clear n6 s6
    replace al := al.add (bad_lst (xs := [.bl true]) g6 rfl rfl)
    refine ⟨(by show 2 ≤ sizeLine; decide), fun t7 n7 => ?_⟩
    generalize hh : upd _ t7 _ = H7 at ⊢
    have s7 := new_same n7 hh
    have g7 := new_at hh
    clear hh
    replace ev := ev.same s7
    replace al := al.same s7
    clear n7 s7
    replace al := al.add (bad_lst (xs := [.int 1, .bl false]) g7 rfl rfl)
    refine ⟨(by show 1 ≤ sizeLine; decide), fun t8 n8 => ?_⟩
    generalize hh : upd _ t8 _ = H8 at ⊢
    have s8 := new_same n8 hh
    have g8 := new_at hh
    clear hh
    replace ev := ev.same s8
    replace al := al.same s8
    clear n8 s8
    refine ⟨(by show 1 ≤ sizeLine; decide), fun t9 n9 => ?_⟩
    generalize hh : upd _ t9 _ = H9 at ⊢
    have s9 := new_same n9 hh
    have g9 := new_at hh
    clear hh
    replace ev := ev.same s9
    replace g8 := s9 _ _ g8
    replace al := al.same s9
    clear n9 s9
    replace al := al.add (bad_in g9 g8 rfl)
    refine ⟨(by show 2 ≤ sizeLine; decide), fun t10 n10 => ?_⟩
    generalize hh : upd _ t10 _ = H10 at ⊢
    have s10 := new_same n10 hh
    have g10 := new_at hh
    clear hh
    replace ev := ev.same s10
    replace al := al.same s10
    clear n10 s10
    replace al := al.add (bad_lst (xs := [.int 0, .int 1]) g10 rfl rfl)
    refine ⟨(by show 2 ≤ sizeLine; decide), fun t11 n11 => ?_⟩
    generalize hh : upd _ t11 _ = H11 at ⊢
    have s11 := new_same n11 hh
    have g11 := new_at hh
    clear hh
    replace ev := ev.same s11
    replace al := al.same s11
    clear n11 s11
    replace al := al.add (bad_lst (xs := [.int 1, .int 1]) g11 rfl rfl)
    refine ⟨1, rfl, (by show 1 ≤ sizeLine; decide), fun t12 n12 => ?_⟩
    generalize hh : upd _ t12 _ = H12 at ⊢
    have s12 := new_same n12 hh
    have g12 := new_at hh
    clear hh
    replace ev := ev.same s12
    replace al := al.same s12
    clear n12 s12
    replace al := al.add (bad_lst (xs := [.int (-1)]) g12 rfl rfl)
    refine ⟨1, rfl, _, rfl, -1, (far : Int), rfl, rfl, (by show 2 ≤ sizeLine; decide), fun t13 n13 => ?_⟩
    generalize hh : upd _ t13 _ = H13 at ⊢
    have s13 := new_same n13 hh
    have g13 := new_at hh
    clear hh
    replace ev := ev.same s13
    replace al := al.same s13
    clear n13 s13
    replace al := al.add (bad_neg g13)
    refine ⟨(by show 15 ≤ sizeLine; decide), fun t14 n14 => ?_⟩
    generalize hh : upd _ t14 _ = H14 at ⊢
    have s14 := new_same n14 hh
    have g14 := new_at hh
    clear hh
    replace ev := ev.same s14
    replace al := al.same s14
    clear n14 s14
    refine ⟨_, rfl, _, rfl, _, rfl, far, 1, rfl, rfl, (by show 2 ≤ sizeLine; decide), fun t15 n15 => ?_⟩
    generalize hh : upd _ t15 _ = H15 at ⊢
    have s15 := new_same n15 hh
    have g15 := new_at hh
    clear hh
    replace ev := ev.same s15
    replace g14 := s15 _ _ g14
    replace al := al.same s15
    clear n15 s15
    replace al := al.add (bad_rise g15 (Int.le_of_lt (by omega)))
    refine ⟨_, rfl, far, 2, rfl, rfl, (by show 3 ≤ sizeLine; decide), fun t16 n16 => ?_⟩
    generalize hh : upd _ t16 _ = H16 at ⊢
    have s16 := new_same n16 hh
    have g16 := new_at hh
    clear hh
    replace ev := ev.same s16
    replace g14 := s16 _ _ g14
    replace al := al.same s16
    clear n16 s16
    replace al := al.add (bad_twice g16)
    refine ⟨1, rfl, 1, rfl, ((20 : Nat) : Int), -1, -1, 20 + 1, rfl, rgc_down _ (by omega), by omega, fun t17 n17 => ?_⟩
    generalize hh : upd _ t17 _ = H17 at ⊢
    have s17 := new_same n17 hh
    have g17 := new_at hh
    clear hh
    replace ev := ev.same s17
    replace g14 := s17 _ _ g14
    replace al := al.same s17
    clear n17 s17
    replace al := al.add (bad_long0 g17 (by rw [rgS_length]; decide))
    refine ⟨_, rfl, far, 9, rfl, rfl, by decide, 20, far % 9, rfl, rfl, 1, rfl, 1, rfl, ((20 + far % 9 : Nat) : Int), -1, -1, 20 + far % 9 + 1, rfl, rgc_down _ (by omega), by omega, fun t18 n18 => ?_⟩
    generalize hh : upd _ t18 _ = H18 at ⊢
    have s18 := new_same n18 hh
    have g18 := new_at hh
    clear hh
    replace ev := ev.same s18
    replace g14 := s18 _ _ g14
    replace al := al.same s18
    clear n18 s18
    replace al := al.add (bad_long0 g18 (by rw [rgS_length]; omega))
    refine ⟨(by show 4 ≤ sizeLine; decide), fun t19 n19 => ?_⟩
    generalize hh : upd _ t19 _ = H19 at ⊢
    have s19 := new_same n19 hh
    have g19 := new_at hh
    clear hh
    replace ev := ev.same s19
    replace g14 := s19 _ _ g14
    replace al := al.same s19
    clear n19 s19
    refine ⟨t14, t19, _, _, rfl, rfl, g14, g19, (by show 19 ≤ sizeLine; decide), fun t20 n20 => ?_⟩
    generalize hh : upd _ t20 _ = H20 at ⊢
    have s20 := new_same n20 hh
    have g20 := new_at hh
    clear hh
    refine ⟨_, rfl, .inl ⟨rfl, _, .of g20⟩, (by show 3 ≤ sizeLine; decide), fun t21 n21 => ?_⟩
    have nk : t21 ≠ t20 := fun e => by rw [e, g20] at n21; cases n21
    generalize hh : upd _ t21 _ = H21 at ⊢
    have s21 := new_same n21 hh
    have g21 := new_at hh
    clear hh
    refine ⟨t20, _, _, rfl, rfl, s21 _ _ g20, (by show 19 < sizeLine; decide), ?_⟩
    generalize hh : upd H21 t20 _ = H0 at ⊢
    have sk : Same H19 H0 := hh ▸ same_free (s20.trans s21) n20
    have gb := new_at hh
    have gk : H0 t21 = some (.lst [.int 3, .int 1, .non]) := by rw [← hh, upd_ne nk]; exact g21
    replace ev := ev.same sk
    replace al := (al.same sk).add (bad_lst (xs := [.int 3, .int 1, .non]) gk rfl rfl)
    replace al : All (Bad setV) [.non, .ref t1, .ref t2, .str "10", .ref t3, .int 5, .ref t4, .ref t5, .ref t6, .ref t7, .ref t9, .ref t10, .ref t11, .ref t12, .ref t13, .ref t15, .ref t16, .ref t17, .ref t18, .ref t21] H0 := al.done
    replace gb : H0 t20 = some (.lst [.non, .ref t1, .ref t2, .str "10", .ref t3, .int 5, .ref t4, .ref t5, .ref t6, .ref t7, .ref t9, .ref t10, .ref t11, .ref t12, .ref t13, .ref t15, .ref t16, .ref t17, .ref t18, .ref t21]) := gb
    generalize exs : ([.non, .ref t1, .ref t2, .str "10", .ref t3, .int 5, .ref t4, .ref t5, .ref t6, .ref t7, .ref t9, .ref t10, .ref t11, .ref t12, .ref t13, .ref t15, .ref t16, .ref t17, .ref t18, .ref t21] : List V) = xs at al gb
    have lx : xs.length ≤ 100 := by rw [← exs]; show 20 ≤ 100; decide
    clear exs hh sk gk nk s20 g20 s21 g21 n20 n21
    refine ⟨(by show 4 ≤ sizeLine; decide), fun t22 n22 => ?_⟩
    generalize hh : upd _ t22 _ = H22 at ⊢
    have s22 := new_same n22 hh
    have g22 := new_at hh
    clear hh
    replace ev := ev.same s22
    replace gb := s22 _ _ gb
    replace al := al.same s22
    clear n22 s22
    refine ⟨_, rfl, _, rfl, u, _, ((0 : Nat) : Int), _, rfl, rfl, .of ev.due, atI_nat (j := 0) rfl, t22, t20, d0, [0, 1, 2, 3], _, rfl, g22, gb, lx, ev.e0, fun d hd x hx => ⟨(by decide : ∀ d ∈ [0, 1, 2, 3], d < 4) d hd, al x hx⟩, fun Q1 r1 => ⟨true, rfl, iteF ?_⟩⟩
    replace ev := ev.same r1
    replace gb := r1 _ _ gb
    replace al := al.same r1
    clear r1
    clear al gb lx
    have st := allF_nil (p := NoNum) (H := Q1)
    replace st := st.add (nn_ty (x := .non) (n := "NoneType") rfl rfl)
    replace st := st.add (nn_ty (x := .str "1") (n := "str") rfl rfl)
    replace st := st.add (nn_ty (x := .bl true) (n := "bool") rfl rfl)
    replace st := st.add (nn_ty (x := .bl false) (n := "bool") rfl rfl)
    refine ⟨(by show 1 ≤ sizeLine; decide), fun t23 n23 => ?_⟩
    generalize hh : upd _ t23 _ = H23 at ⊢
    have s23 := new_same n23 hh
    have g23 := new_at hh
    clear hh
    replace ev := ev.same s23
    replace st := st.same s23
    clear n23 s23
    replace st := st.add (nn_lst g23)
    refine ⟨(by show 1 ≤ sizeLine; decide), fun t24 n24 => ?_⟩
    generalize hh : upd _ t24 _ = H24 at ⊢
    have s24 := new_same n24 hh
    have g24 := new_at hh
    clear hh
    replace ev := ev.same s24
    replace st := st.same s24
    clear n24 s24
    replace st := st.add (nn_tup g24)
    refine fun t25 n25 => ?_
    generalize hh : upd _ t25 _ = H25 at ⊢
    have s25 := new_same n25 hh
    have g25 := new_at hh
    clear hh
    replace ev := ev.same s25
    replace st := st.same s25
    clear n25 s25
    replace st := st.add (nn_dict g25)
    refine ⟨(by show 7 ≤ sizeLine; decide), fun t26 n26 => ?_⟩
    generalize hh : upd _ t26 _ = H26 at ⊢
    have s26 := new_same n26 hh
    have g26 := new_at hh
    clear hh
    replace ev := ev.same s26
    replace st := st.same s26
    clear n26 s26
    replace st : All (NoNum) [.non, .str "1", .bl true, .bl false, .ref t23, .ref t24, .ref t25] _ := st.done
    have gs := g26
    generalize exs : ([.non, .str "1", .bl true, .bl false, .ref t23, .ref t24, .ref t25] : List V) = xs at st gs
    have lx : xs.length = 7 := by rw [← exs]; rfl
    clear exs g26
    refine ⟨(by show 1 ≤ sizeLine; decide), fun t27 n27 => ?_⟩
    generalize hh : upd _ t27 _ = H27 at ⊢
    have s27 := new_same n27 hh
    have g27 := new_at hh
    clear hh
    replace ev := ev.same s27
    replace gs := s27 _ _ gs
    replace st := st.same s27
    clear n27 s27
    refine ⟨_, rfl, 1, rfl, 1, rfl, _, rfl, -1, (far : Int), rfl, rfl, _, rfl, 21, far, rfl, rfl, (by show 4 ≤ sizeLine; decide), fun t28 n28 => ?_⟩
    generalize hh : upd _ t28 _ = H28 at ⊢
    have s28 := new_same n28 hh
    have g28 := new_at hh
    clear hh
    replace ev := ev.same s28
    replace gs := s28 _ _ gs
    replace g27 := s28 _ _ g27
    replace st := st.same s28
    clear n28 s28
    refine ⟨t26, t28, _, _, rfl, rfl, gs, g28, (by rw [lx]; show 11 ≤ sizeLine; decide), fun t29 n29 => ?_⟩
    generalize hh : upd _ t29 _ = H29 at ⊢
    have s29 := new_same n29 hh
    have g29 := new_at hh
    clear hh
    replace ev := ev.same s29
    replace gs := s29 _ _ gs
    replace g27 := s29 _ _ g27
    replace st := st.same s29
    clear n29 s29
    refine ⟨_, rfl, u, _, ((1 : Nat) : Int), _, rfl, rfl, .of ev.due, atI_nat (j := 1) rfl, t27, t29, d1, [0], _, rfl, g27, g29, by rw [List.length_append, lx]; show 11 ≤ 100; decide, ev.e1, fun d hd x hx => (List.mem_append.mp hx).elim (fun h => .inl ⟨List.mem_singleton.mp hd, noSize (st x h)⟩) fun h => .inl ⟨List.mem_singleton.mp hd, sz4 (by decide) (by decide) x h⟩, fun Q2 r2 => ⟨true, rfl, iteF ?_⟩⟩
    replace ev := ev.same r2
    replace gs := r2 _ _ gs
    replace g27 := r2 _ _ g27
    replace st := st.same r2
    clear r2
    refine ⟨(by show 2 ≤ sizeLine; decide), fun t30 n30 => ?_⟩
    generalize hh : upd _ t30 _ = H30 at ⊢
    have s30 := new_same n30 hh
    have g30 := new_at hh
    clear hh
    replace ev := ev.same s30
    replace gs := s30 _ _ gs
    replace st := st.same s30
    clear n30 s30
    refine ⟨_, rfl, 1, rfl, 1, rfl, _, rfl, -1, (far : Int), rfl, rfl, _, rfl, 21, far, rfl, rfl, (by show 5 ≤ sizeLine; decide), fun t31 n31 => ?_⟩
    generalize hh : upd _ t31 _ = H31 at ⊢
    have s31 := new_same n31 hh
    have g31 := new_at hh
    clear hh
    replace ev := ev.same s31
    replace gs := s31 _ _ gs
    replace g30 := s31 _ _ g30
    replace st := st.same s31
    clear n31 s31
    refine ⟨t26, t31, _, _, rfl, rfl, gs, g31, (by rw [lx]; show 12 ≤ sizeLine; decide), fun t32 n32 => ?_⟩
    generalize hh : upd _ t32 _ = H32 at ⊢
    have s32 := new_same n32 hh
    have g32 := new_at hh
    clear hh
    replace ev := ev.same s32
    replace gs := s32 _ _ gs
    replace g30 := s32 _ _ g30
    replace st := st.same s32
    clear n32 s32
    refine ⟨_, rfl, u, _, ((1 : Nat) : Int), _, rfl, rfl, .of ev.due, atI_nat (j := 1) rfl, t30, t32, d1, [1, 2], _, rfl, g30, g32, by rw [List.length_append, lx]; show 12 ≤ 100; decide, ev.e1, fun d hd x hx => (List.mem_append.mp hx).elim (fun h => two_sizes hd (noSize (st x h)) (noSize (st x h))) fun h => two_sizes hd (sz5 (by decide) (by decide) x h) (sz5 (by decide) (by decide) x h), fun Q3 r3 => ⟨true, rfl, iteF ?_⟩⟩
    replace ev := ev.same r3
    replace gs := r3 _ _ gs
    replace g30 := r3 _ _ g30
    replace st := st.same r3
    clear r3
    refine ⟨(by show 1 ≤ sizeLine; decide), fun t33 n33 => ?_⟩
    generalize hh : upd _ t33 _ = H33 at ⊢
    have s33 := new_same n33 hh
    have g33 := new_at hh
    clear hh
    replace ev := ev.same s33
    replace gs := s33 _ _ gs
    replace st := st.same s33
    clear n33 s33
    refine ⟨(by show 1 ≤ sizeLine; decide), fun t34 n34 => ?_⟩
    generalize hh : upd _ t34 _ = H34 at ⊢
    have s34 := new_same n34 hh
    have g34 := new_at hh
    clear hh
    replace ev := ev.same s34
    replace gs := s34 _ _ gs
    replace g33 := s34 _ _ g33
    replace st := st.same s34
    clear n34 s34
    refine ⟨_, rfl, u, _, ((1 : Nat) : Int), _, rfl, rfl, .of ev.due, atI_nat (j := 1) rfl, t33, t34, d1, [2], _, rfl, g33, g34, by show 1 ≤ 100; decide, ev.e1, fun d hd x hx => .inr (.inr ⟨List.mem_singleton.mp hd, by rw [List.mem_singleton.mp hx]; exact ⟨kind_int _ _, rfl⟩⟩), fun Q4 r4 => ⟨true, rfl, iteF ?_⟩⟩
    replace ev := ev.same r4
    replace gs := r4 _ _ gs
    replace g33 := r4 _ _ g33
    replace st := st.same r4
    clear r4
    refine ⟨(by show 3 ≤ sizeLine; decide), fun t35 n35 => ?_⟩
    generalize hh : upd _ t35 _ = H35 at ⊢
    have s35 := new_same n35 hh
    have g35 := new_at hh
    clear hh
    replace ev := ev.same s35
    replace gs := s35 _ _ gs
    replace st := st.same s35
    clear n35 s35
    refine ⟨_, rfl, _, rfl, u, _, ((2 : Nat) : Int), _, rfl, rfl, .of ev.due, atI_nat (j := 2) rfl, t35, t26, d2, [0, 1, 2], _, rfl, g35, gs, by rw [lx]; decide, ev.e2, fun d hd x hx => ⟨(by decide : ∀ d ∈ [0, 1, 2], d < 3) d hd, st x hx⟩, fun Q5 r5 => ⟨true, rfl, iteF ?_⟩⟩
    replace ev := ev.same r5
    replace gs := r5 _ _ gs
    replace st := st.same r5
    clear r5
    clear st gs lx
    refine ⟨(by show 3 ≤ sizeLine; decide), fun t36 n36 => ?_⟩
    generalize hh : upd _ t36 _ = H36 at ⊢
    have s36 := new_same n36 hh
    have g36 := new_at hh
    clear hh
    replace ev := ev.same s36
    clear n36 s36
    refine ⟨1, rfl, 1, rfl, _, rfl, -1, (far : Int), rfl, rfl, (by show 2 ≤ sizeLine; decide), fun t37 n37 => ?_⟩
    generalize hh : upd _ t37 _ = H37 at ⊢
    have s37 := new_same n37 hh
    have g37 := new_at hh
    clear hh
    replace ev := ev.same s37
    replace g36 := s37 _ _ g36
    clear n37 s37
    refine ⟨_, rfl, u, _, ((2 : Nat) : Int), _, rfl, rfl, .of ev.due, atI_nat (j := 2) rfl, t36, t37, d2, [0, 1, 2], _, rfl, g36, g37, by show 2 ≤ 100; decide, ev.e2, fun d hd x hx => ⟨(by decide : ∀ d ∈ [0, 1, 2], d < 3) d hd, nn2 x hx⟩, fun Q6 r6 => ⟨true, rfl, iteF ?_⟩⟩
    replace ev := ev.same r6
    replace g36 := r6 _ _ g36
    clear r6
    refine ⟨(by show 1 ≤ sizeLine; decide), fun t38 n38 => ?_⟩
    generalize hh : upd _ t38 _ = H38 at ⊢
    have s38 := new_same n38 hh
    have g38 := new_at hh
    clear hh
    replace ev := ev.same s38
    clear n38 s38
    refine ⟨_, rfl, 1, far, rfl, rfl, 1, rfl, (by show 4 ≤ sizeLine; decide), fun t39 n39 => ?_⟩
    generalize hh : upd _ t39 _ = H39 at ⊢
    have s39 := new_same n39 hh
    have g39 := new_at hh
    clear hh
    replace ev := ev.same s39
    replace g38 := s39 _ _ g38
    clear n39 s39
    refine ⟨_, rfl, u, _, ((2 : Nat) : Int), _, rfl, rfl, .of ev.due, atI_nat (j := 2) rfl, t38, t39, d2, [0], _, rfl, g38, g39, by show 4 ≤ 100; decide, ev.e2, fun d hd x hx => ⟨List.mem_singleton.mp hd, none4 x hx⟩, fun Q7 r7 => ⟨true, rfl, iteF ?_⟩⟩
    replace ev := ev.same r7
    replace g38 := r7 _ _ g38
    clear r7
    have al := allF_nil (p := Bad listV) (H := Q7)
    replace al := al.add (bad_ty (x := .non) (n := "NoneType") rfl (by decide))
    refine ⟨Nat.zero_le _, fun t40 n40 => ?_⟩
    generalize hh : upd _ t40 _ = H40 at ⊢
    have s40 := new_same n40 hh
    have g40 := new_at hh
    clear hh
    replace ev := ev.same s40
    replace al := al.same s40
    clear n40 s40
    replace al := al.add (bad_tup g40)
    refine ⟨(by show 1 ≤ sizeLine; decide), fun t41 n41 => ?_⟩
    generalize hh : upd _ t41 _ = H41 at ⊢
    have s41 := new_same n41 hh
    have g41 := new_at hh
    clear hh
    replace ev := ev.same s41
    replace al := al.same s41
    clear n41 s41
    replace al := al.add (bad_tup g41)
    replace al := al.add (bad_ty (x := .str "1") (n := "str") rfl (by decide))
    refine fun t42 n42 => ?_
    generalize hh : upd _ t42 _ = H42 at ⊢
    have s42 := new_same n42 hh
    have g42 := new_at hh
    clear hh
    replace ev := ev.same s42
    replace al := al.same s42
    clear n42 s42
    replace al := al.add (bad_dict g42)
    replace al := al.add (bad_ty (x := .int 5) (n := "int") rfl (by decide))
    refine ⟨(by show 1 ≤ sizeLine; decide), fun t43 n43 => ?_⟩
    generalize hh : upd _ t43 _ = H43 at ⊢
    have s43 := new_same n43 hh
    have g43 := new_at hh
    clear hh
    replace ev := ev.same s43
    replace al := al.same s43
    clear n43 s43
    replace al := al.add (bad_lst (xs := [.non]) g43 rfl rfl)
    refine ⟨(by show 1 ≤ sizeLine; decide), fun t44 n44 => ?_⟩
    generalize hh : upd _ t44 _ = H44 at ⊢
    have s44 := new_same n44 hh
    have g44 := new_at hh
    clear hh
    replace ev := ev.same s44
    replace al := al.same s44
    clear n44 s44
    replace al := al.add (bad_lst (xs := [.str "1"]) g44 rfl rfl)
    refine ⟨(by show 1 ≤ sizeLine; decide), fun t45 n45 => ?_⟩
    generalize hh : upd _ t45 _ = H45 at ⊢
    have s45 := new_same n45 hh
    have g45 := new_at hh
    clear hh
    replace ev := ev.same s45
    replace al := al.same s45
    clear n45 s45
    replace al := al.add (bad_lst (xs := [.bl true]) g45 rfl rfl)
    refine ⟨(by show 2 ≤ sizeLine; decide), fun t46 n46 => ?_⟩
    generalize hh : upd _ t46 _ = H46 at ⊢
    have s46 := new_same n46 hh
    have g46 := new_at hh
    clear hh
    replace ev := ev.same s46
    replace al := al.same s46
    clear n46 s46
    replace al := al.add (bad_lst (xs := [.int 3, .bl false]) g46 rfl rfl)
    refine ⟨(by show 1 ≤ sizeLine; decide), fun t47 n47 => ?_⟩
    generalize hh : upd _ t47 _ = H47 at ⊢
    have s47 := new_same n47 hh
    have g47 := new_at hh
    clear hh
    replace ev := ev.same s47
    replace al := al.same s47
    clear n47 s47
    refine ⟨(by show 1 ≤ sizeLine; decide), fun t48 n48 => ?_⟩
    generalize hh : upd _ t48 _ = H48 at ⊢
    have s48 := new_same n48 hh
    have g48 := new_at hh
    clear hh
    replace ev := ev.same s48
    replace g47 := s48 _ _ g47
    replace al := al.same s48
    clear n48 s48
    replace al := al.add (bad_in g48 g47 rfl)
    refine ⟨1, rfl, (by show 1 ≤ sizeLine; decide), fun t49 n49 => ?_⟩
    generalize hh : upd _ t49 _ = H49 at ⊢
    have s49 := new_same n49 hh
    have g49 := new_at hh
    clear hh
    replace ev := ev.same s49
    replace al := al.same s49
    clear n49 s49
    replace al := al.add (bad_lst (xs := [.int (-1)]) g49 rfl rfl)
    refine ⟨1, rfl, _, rfl, -1, (far : Int), rfl, rfl, (by show 2 ≤ sizeLine; decide), fun t50 n50 => ?_⟩
    generalize hh : upd _ t50 _ = H50 at ⊢
    have s50 := new_same n50 hh
    have g50 := new_at hh
    clear hh
    replace ev := ev.same s50
    replace al := al.same s50
    clear n50 s50
    replace al := al.add (bad_neg2 g50)
    refine ⟨(by show 1 ≤ sizeLine; decide), fun t51 n51 => ?_⟩
    generalize hh : upd _ t51 _ = H51 at ⊢
    have s51 := new_same n51 hh
    have g51 := new_at hh
    clear hh
    replace ev := ev.same s51
    replace al := al.same s51
    clear n51 s51
    refine ⟨t51, 21, _, rfl, rfl, g51, by decide, by decide, (by show 21 ≤ sizeLine; decide), fun t52 n52 => ?_⟩
    generalize hh : upd _ t52 _ = H52 at ⊢
    have s52 := new_same n52 hh
    have g52 := new_at hh
    clear hh
    replace ev := ev.same s52
    replace al := al.same s52
    clear n52 s52
    replace al := al.add (bad_long0 g52 (by decide))
    refine ⟨(by show 14 ≤ sizeLine; decide), fun t53 n53 => ?_⟩
    generalize hh : upd _ t53 _ = H53 at ⊢
    have s53 := new_same n53 hh
    have g53 := new_at hh
    clear hh
    replace ev := ev.same s53
    replace al := al.same s53
    clear n53 s53
    replace al : All (Bad listV) [.non, .ref t40, .ref t41, .str "1", .ref t42, .int 5, .ref t43, .ref t44, .ref t45, .ref t46, .ref t48, .ref t49, .ref t50, .ref t52] _ := al.done
    have gs := g53
    generalize exs : ([.non, .ref t40, .ref t41, .str "1", .ref t42, .int 5, .ref t43, .ref t44, .ref t45, .ref t46, .ref t48, .ref t49, .ref t50, .ref t52] : List V) = xs at al gs
    have lx : xs.length = 14 := by rw [← exs]; rfl
    clear exs g53
    refine ⟨(by show 3 ≤ sizeLine; decide), fun t54 n54 => ?_⟩
    generalize hh : upd _ t54 _ = H54 at ⊢
    have s54 := new_same n54 hh
    have g54 := new_at hh
    clear hh
    replace ev := ev.same s54
    replace gs := s54 _ _ gs
    replace al := al.same s54
    clear n54 s54
    have am := allF_nil (p := Bad listV) (H := H54)
    refine ⟨_, rfl, (by show 3 ≤ sizeLine; decide), fun t55 n55 => ?_⟩
    generalize hh : upd _ t55 _ = H55 at ⊢
    have s55 := new_same n55 hh
    have g55 := new_at hh
    clear hh
    replace ev := ev.same s55
    replace gs := s55 _ _ gs
    replace g54 := s55 _ _ g54
    replace al := al.same s55
    replace am := am.same s55
    clear n55 s55
    replace am := am.add (bad_lst (xs := [.int 4, .int 3, .non]) g55 rfl rfl)
    refine ⟨(by show 1 ≤ sizeLine; decide), fun t56 n56 => ?_⟩
    generalize hh : upd _ t56 _ = H56 at ⊢
    have s56 := new_same n56 hh
    have g56 := new_at hh
    clear hh
    replace ev := ev.same s56
    replace gs := s56 _ _ gs
    replace g54 := s56 _ _ g54
    replace al := al.same s56
    replace am := am.same s56
    clear n56 s56
    refine ⟨(by show 2 ≤ sizeLine; decide), fun t57 n57 => ?_⟩
    generalize hh : upd _ t57 _ = H57 at ⊢
    have s57 := new_same n57 hh
    have g57 := new_at hh
    clear hh
    replace ev := ev.same s57
    replace gs := s57 _ _ gs
    replace g54 := s57 _ _ g54
    replace g56 := s57 _ _ g56
    replace al := al.same s57
    replace am := am.same s57
    clear n57 s57
    replace am := am.add (bad_tin g57 g56)
    refine ⟨(by show 2 ≤ sizeLine; decide), fun t58 n58 => ?_⟩
    generalize hh : upd _ t58 _ = H58 at ⊢
    have s58 := new_same n58 hh
    have g58 := new_at hh
    clear hh
    replace ev := ev.same s58
    replace gs := s58 _ _ gs
    replace g54 := s58 _ _ g54
    replace al := al.same s58
    replace am := am.same s58
    clear n58 s58
    replace am : All (Bad listV) [.ref t55, .ref t57] _ := am.done
    refine ⟨t53, t58, _, _, rfl, rfl, gs, g58, (by rw [lx]; show 16 ≤ sizeLine; decide), fun t59 n59 => ?_⟩
    generalize hh : upd _ t59 _ = H59 at ⊢
    have s59 := new_same n59 hh
    have g59 := new_at hh
    clear hh
    replace ev := ev.same s59
    replace gs := s59 _ _ gs
    replace g54 := s59 _ _ g54
    replace al := al.same s59
    replace am := am.same s59
    clear n59 s59
    refine ⟨_, rfl, u, _, ((3 : Nat) : Int), _, rfl, rfl, .of ev.due, atI_nat (j := 3) rfl, t54, t59, d3, [0, 1, 2], _, rfl, g54, g59, by rw [List.length_append, lx]; show 16 ≤ 100; decide, ev.e3, fun d hd x hx => .inl ⟨(by decide : ∀ d ∈ [0, 1, 2], d < 3) d hd, (List.mem_append.mp hx).elim (al x) (am x)⟩, fun Q8 r8 => ⟨true, rfl, iteF ?_⟩⟩
    replace ev := ev.same r8
    replace gs := r8 _ _ gs
    replace g54 := r8 _ _ g54
    replace al := al.same r8
    replace am := am.same r8
    clear r8
    clear al am gs lx
    have al := allF_nil (p := Barr) (H := Q8)
    refine ⟨(by show 2 ≤ sizeLine; decide), fun t60 n60 => ?_⟩
    generalize hh : upd _ t60 _ = H60 at ⊢
    have s60 := new_same n60 hh
    have g60 := new_at hh
    clear hh
    replace ev := ev.same s60
    replace al := al.same s60
    clear n60 s60
    replace al := al.add (barr_of (r := [3, 4]) g60 (by show 2 ≤ 20; decide) (by decide +kernel) (by decide +kernel))
    refine ⟨_, rfl, 1, far, rfl, rfl, (by show 2 ≤ sizeLine; decide), fun t61 n61 => ?_⟩
    generalize hh : upd _ t61 _ = H61 at ⊢
    have s61 := new_same n61 hh
    have g61 := new_at hh
    clear hh
    replace ev := ev.same s61
    replace al := al.same s61
    clear n61 s61
    replace al := al.add (barr_of (r := [0, 1 + far]) g61 (by show 2 ≤ 20; decide) (small_far2 hfar) (least_two (by rw [over_10]; omega)))
    refine ⟨(by show 3 ≤ sizeLine; decide), fun t62 n62 => ?_⟩
    generalize hh : upd _ t62 _ = H62 at ⊢
    have s62 := new_same n62 hh
    have g62 := new_at hh
    clear hh
    replace ev := ev.same s62
    replace al := al.same s62
    clear n62 s62
    replace al := al.add (barr_of (r := [4, 5, 3]) g62 (by show 3 ≤ 20; decide) (by decide +kernel) (by decide +kernel))
    refine ⟨(by show 5 ≤ sizeLine; decide), fun t63 n63 => ?_⟩
    generalize hh : upd _ t63 _ = H63 at ⊢
    have s63 := new_same n63 hh
    have g63 := new_at hh
    clear hh
    replace ev := ev.same s63
    replace al := al.same s63
    clear n63 s63
    replace al := al.add (barr_of (r := [5, 10, 10, 5, 2]) g63 (by show 5 ≤ 20; decide) (by decide +kernel) (by decide +kernel))
    refine ⟨(by show 3 ≤ sizeLine; decide), fun t64 n64 => ?_⟩
    generalize hh : upd _ t64 _ = H64 at ⊢
    have s64 := new_same n64 hh
    have g64 := new_at hh
    clear hh
    replace ev := ev.same s64
    replace al := al.same s64
    clear n64 s64
    replace al := al.add (barr_of (r := [2, 1, 1]) g64 (by show 3 ≤ 20; decide) (by decide +kernel) (by decide +kernel))
    refine ⟨_, rfl, 4, far, rfl, rfl, (by show 3 ≤ sizeLine; decide), fun t65 n65 => ?_⟩
    generalize hh : upd _ t65 _ = H65 at ⊢
    have s65 := new_same n65 hh
    have g65 := new_at hh
    clear hh
    replace ev := ev.same s65
    replace al := al.same s65
    clear n65 s65
    replace al := al.add (barr_of (r := [3, 4 + far, 0]) g65 (by show 3 ≤ 20; decide) (small_far3 hfar) (least_two (by rw [over_13]; omega)))
    refine ⟨(by show 6 ≤ sizeLine; decide), fun t66 n66 => ?_⟩
    generalize hh : upd _ t66 _ = H66 at ⊢
    have s66 := new_same n66 hh
    have g66 := new_at hh
    clear hh
    replace ev := ev.same s66
    replace al := al.same s66
    clear n66 s66
    replace al : All (Barr) [.ref t60, .ref t61, .ref t62, .ref t63, .ref t64, .ref t65] _ := al.done
    have gs := g66
    generalize exs : ([.ref t60, .ref t61, .ref t62, .ref t63, .ref t64, .ref t65] : List V) = xs at al gs
    have lx : xs.length = 6 := by rw [← exs]; rfl
    clear exs g66
    refine ⟨(by show 2 ≤ sizeLine; decide), fun t67 n67 => ?_⟩
    generalize hh : upd _ t67 _ = H67 at ⊢
    have s67 := new_same n67 hh
    have g67 := new_at hh
    clear hh
    replace ev := ev.same s67
    replace gs := s67 _ _ gs
    replace al := al.same s67
    clear n67 s67
    refine ⟨_, rfl, _, rfl, u, _, ((3 : Nat) : Int), _, rfl, rfl, .of ev.due, atI_nat (j := 3) rfl, t67, t66, d3, [0, 1], _, rfl, g67, gs, by rw [lx]; decide, ev.e3, fun d hd x hx => ⟨(by decide : ∀ d ∈ [0, 1], d < 2) d hd, al x hx⟩, fun Q9 r9 => ⟨true, rfl, iteF ?_⟩⟩
    replace ev := ev.same r9
    replace gs := r9 _ _ gs
    replace al := al.same r9
    clear r9
    clear al gs lx
    refine ⟨(by show 1 ≤ sizeLine; decide), fun t68 n68 => ?_⟩
    generalize hh : upd _ t68 _ = H68 at ⊢
    have s68 := new_same n68 hh
    have g68 := new_at hh
    clear hh
    replace ev := ev.same s68
    clear n68 s68
    have al := allF_nil (p := Full) (H := H68)
    refine ⟨Nat.zero_le _, fun t69 n69 => ?_⟩
    generalize hh : upd _ t69 _ = H69 at ⊢
    have s69 := new_same n69 hh
    have g69 := new_at hh
    clear hh
    replace ev := ev.same s69
    replace g68 := s69 _ _ g68
    replace al := al.same s69
    clear n69 s69
    replace al := al.add (full_of (r := []) g69 (by decide) (by decide) rfl (.inl rfl))
    refine ⟨(by show 1 ≤ sizeLine; decide), fun t70 n70 => ?_⟩
    generalize hh : upd _ t70 _ = H70 at ⊢
    have s70 := new_same n70 hh
    have g70 := new_at hh
    clear hh
    replace ev := ev.same s70
    replace g68 := s70 _ _ g68
    replace al := al.same s70
    clear n70 s70
    refine ⟨t70, 20, _, rfl, rfl, g70, by decide, by decide, (by show 20 ≤ sizeLine; decide), fun t71 n71 => ?_⟩
    generalize hh : upd _ t71 _ = H71 at ⊢
    have s71 := new_same n71 hh
    have g71 := new_at hh
    clear hh
    replace ev := ev.same s71
    replace g68 := s71 _ _ g68
    replace al := al.same s71
    clear n71 s71
    replace al := al.add (full_of (r := List.replicate 20 0) g71 (by decide) (by decide) (by decide +kernel) (.inr rfl))
    refine ⟨(by show 2 ≤ sizeLine; decide), fun t72 n72 => ?_⟩
    generalize hh : upd _ t72 _ = H72 at ⊢
    have s72 := new_same n72 hh
    have g72 := new_at hh
    clear hh
    replace ev := ev.same s72
    replace g68 := s72 _ _ g68
    replace al := al.same s72
    clear n72 s72
    replace al : All (Full) [.ref t69, .ref t71] _ := al.done
    refine ⟨_, rfl, u, _, ((3 : Nat) : Int), _, rfl, rfl, .of ev.due, atI_nat (j := 3) rfl, t68, t72, d3, [2], _, rfl, g68, g72, by show 2 ≤ 100; decide, ev.e3, fun d hd x hx => .inr ⟨List.mem_singleton.mp hd, al x hx⟩, fun Q10 r10 => ⟨true, rfl, iteF ?_⟩⟩
    replace ev := ev.same r10
    replace g68 := r10 _ _ g68
    replace al := al.same r10
    clear r10
    clear al
    refine ⟨(by show 1 ≤ sizeLine; decide), fun t73 n73 => ?_⟩
    generalize hh : upd _ t73 _ = H73 at ⊢
    have s73 := new_same n73 hh
    have g73 := new_at hh
    clear hh
    replace ev := ev.same s73
    clear n73 s73
    refine ⟨t73, 20, _, rfl, rfl, g73, by decide, by decide, (by show 20 ≤ sizeLine; decide), fun t74 n74 => ?_⟩
    generalize hh : upd _ t74 _ = H74 at ⊢
    have s74 := new_same n74 hh
    have g74 := new_at hh
    clear hh
    replace ev := ev.same s74
    clear n74 s74
    refine ⟨t74, List.replicate 20 0, 10, rfl, rw_lit g74 (by decide) (by decide), fun Qa x ra hx => ?_⟩
    rw [show exN (List.replicate 20 0) = none by decide +kernel] at hx
    replace ev := ev.same ra
    obtain ⟨dx, gx⟩ := hx
    refine ⟨x, dx, [], rfl, rfl, .inl ⟨gx, ?_⟩⟩
    refine ⟨(by show 1 ≤ sizeLine; decide), fun t75 n75 => ?_⟩
    generalize hh : upd _ t75 _ = H75 at ⊢
    have s75 := new_same n75 hh
    have g75 := new_at hh
    clear hh
    replace ev := ev.same s75
    replace gx := s75 _ _ gx
    clear n75 s75
    refine ⟨t75, 20, _, rfl, rfl, g75, by decide, by decide, (by show 20 ≤ sizeLine; decide), fun t76 n76 => ?_⟩
    generalize hh : upd _ t76 _ = H76 at ⊢
    have s76 := new_same n76 hh
    have g76 := new_at hh
    clear hh
    replace ev := ev.same s76
    replace gx := s76 _ _ gx
    clear n76 s76
    refine ⟨x, t76, none, List.replicate 20 0, 10, rfl, rfl, ⟨dx, gx⟩, rw_lit g76 (by decide) (by decide), fun Qb rb => ?_⟩
    replace ev := ev.same rb
    refine ⟨_, _, rfl, rfl, _, rfl, decNT (decide_eq_true (by decide +kernel)) ?_⟩
    refine ⟨1, rfl, 1, rfl, ((19 : Nat) : Int), -1, -1, 19 + 1, rfl, rgc_down _ (by omega), by omega, fun t77 n77 => ?_⟩
    rw [rgS_down]
    generalize hh : upd _ t77 _ = H77 at ⊢
    have s77 := new_same n77 hh
    have g77 := new_at hh
    clear hh
    replace ev := ev.same s77
    clear n77 s77
    refine ⟨t77, downTo 19, 5, rfl, g77, good_downTo (by decide), fun Qc rc => ⟨num (downTo 19), 0, rfl, rfl, _, rfl, decNT (by decide +kernel) ?_⟩⟩
    replace ev := ev.same rc
    refine ⟨(by show 1 ≤ sizeLine; decide), fun t78 n78 => ?_⟩
    generalize hh : upd _ t78 _ = H78 at ⊢
    have s78 := new_same n78 hh
    have g78 := new_at hh
    clear hh
    replace ev := ev.same s78
    clear n78 s78
    refine ⟨t78, 20, _, rfl, rfl, g78, by decide, by decide, (by show 20 ≤ sizeLine; decide), fun t79 n79 => ?_⟩
    generalize hh : upd _ t79 _ = H79 at ⊢
    have s79 := new_same n79 hh
    have g79 := new_at hh
    clear hh
    replace ev := ev.same s79
    clear n79 s79
    refine ⟨Nat.zero_le _, fun t80 n80 => ?_⟩
    generalize hh : upd _ t80 _ = H80 at ⊢
    have s80 := new_same n80 hh
    have g80 := new_at hh
    clear hh
    replace ev := ev.same s80
    replace g79 := s80 _ _ g79
    clear n80 s80
    refine ⟨t79, t80, List.replicate 20 0, [], 10, 5, rfl, rw_lit g79 (by decide) (by decide), by decide +kernel, g80, ⟨List.Pairwise.nil, Nat.zero_le _, fun x h => (nomatch h), by decide⟩, fun Qd rd => ⟨true, rfl, iteT ?_⟩⟩
    replace ev := ev.same rd
    refine ⟨(by show 1 ≤ sizeLine; decide), fun t81 n81 => ?_⟩
    generalize hh : upd _ t81 _ = H81 at ⊢
    have s81 := new_same n81 hh
    have g81 := new_at hh
    clear hh
    replace ev := ev.same s81
    clear n81 s81
    refine ⟨t81, 19, _, rfl, rfl, g81, by decide, by decide, (by show 19 ≤ sizeLine; decide), fun t82 n82 => ?_⟩
    generalize hh : upd _ t82 _ = H82 at ⊢
    have s82 := new_same n82 hh
    have g82 := new_at hh
    clear hh
    replace ev := ev.same s82
    clear n82 s82
    refine ⟨t82, List.replicate 18 0, 0, 10, rfl, rw_lit g82 (by decide) (by decide), by decide +kernel, by decide, fun Qe re => ⟨_, 0, rfl, rfl, _, rfl, decT (by decide +kernel) ?_⟩⟩
    replace ev := ev.same re
    refine ⟨_, rfl, 20, far, 100, rfl, by decide, far_small hfar, by decide, fun z => absurd z (by decide), fun Qf p rf np hp => ?_⟩
    replace ev := ev.same rf
    obtain ⟨l, v, hp, h0, hv⟩ : ∃ (l : List Nat) (v : Nat), Qf p = some (.lst (natsV l)) ∧ l[0]? = some v ∧ 18 < v := ⟨cas 20 far, top 19 far, hp, cas_first far, top_18 far⟩
    refine ⟨p, _, ((0 : Nat) : Int), _, rfl, rfl, .of hp, atI_nat (natsV_get h0), v, 18, rfl, rfl, _, rfl, decT hv ?_⟩
    refine ⟨20, 0, 1, rfl, by decide, by decide, by decide, by decide, fun Qg rg => ⟨_, 0, rfl, rfl, _, rfl, decT (by decide +kernel) ?_⟩⟩
    replace ev := ev.same rg
    refine ⟨19, 0, 1, rfl, by decide, by decide, by decide, by decide, fun Qh rh => ⟨0, _, rfl, rfl, ?_⟩⟩
    replace ev := ev.same rh
    rw [decide_eq_true (show 0 = overN 19 0 by decide +kernel)]
    exact q _ ev.sc
end
end Sh

/-! What the top has written; the law. -/
namespace Sh
open PySem PySem.Spec PyProof.Rows L2
theorem kit_sub {K : PySem.W.Frag} {t : Value} {D : Addr} {b : Bool} (i : PySem.W.isClsIn K D = true) (ty : PySem.W.typeIn K (.ref D) = some (.type "type")) (self : PySem.W.subIn K t t = some true) (s : PySem.W.subIn K t (.ref D) = some b) : PySem.W.kitOne K t (.ref D) = some b := by
  unfold PySem.W.kitOne
  by_cases h : (t == .ref D) = true
  · rw [if_pos h]
    have e : t = .ref D := beq_iff_eq.mp h
    rw [e] at s self
    exact self.symm.trans s
  · rw [if_neg h]
    have e2 : ((PySem.W.clsIn K D).isSome && PySem.W.typeIn K (.ref D) == some (.type "type")) = true := by
      have i' : (PySem.W.clsIn K D).isSome = true := i
      rw [i', ty] <;> rfl
    show (if ((PySem.W.clsIn K D).isSome && PySem.W.typeIn K (.ref D) == some (.type "type")) = true then PySem.W.subIn K t (.ref D) else none) = some b
    rw [if_pos e2]
    exact s
theorem kit_subT {K : PySem.W.Frag} {C : Addr} {n : String} {b : Bool} (m : PySem.W.kitMeta n = true) (s : PySem.W.subIn K (.ref C) (.type n) = some b) : PySem.W.kitOne K (.ref C) (.type n) = some b := by
  unfold PySem.W.kitOne
  rw [if_neg (by intro h; exact nomatch (beq_iff_eq.mp h))]
  show (if PySem.W.kitMeta n = true then PySem.W.subIn K (.ref C) (.type n) else none) = some b
  rw [if_pos m]
  exact s
theorem all_mk {l : PySem.W.OpenLaw} {w : World} {K : PySem.W.Frag} {h : Heap} {mg : Str → Option Value} {fa : Addr} (X : K.In h) (G : h.Ns mainGlobals mg) (hfa : mg "law" = some (.ref fa))
    {C_SetsError : Addr} (g_SetsError : PySem.W.nsIn K mainGlobals "SetsError" = some (some (.ref C_SetsError)))
    {C_BadSet : Addr} (g_BadSet : PySem.W.nsIn K mainGlobals "BadSet" = some (some (.ref C_BadSet)))
    {C_BadSize : Addr} (g_BadSize : PySem.W.nsIn K mainGlobals "BadSize" = some (some (.ref C_BadSize)))
    {C_BadNumber : Addr} (g_BadNumber : PySem.W.nsIn K mainGlobals "BadNumber" = some (some (.ref C_BadNumber)))
    {C_BadRow : Addr} (g_BadRow : PySem.W.nsIn K mainGlobals "BadRow" = some (some (.ref C_BadRow)))
    {C_Can : Addr} (g_Can : PySem.W.nsIn K mainGlobals "Can" = some (some (.ref C_Can)))
    {C_Barred : Addr} (g_Barred : PySem.W.nsIn K mainGlobals "Barred" = some (some (.ref C_Barred)))
    {f0 : Addr} {od0 an0 : Option Addr} {sl0 : Array (Option Value)} {oc0 kV0 dc0 pm0 cd0 ct0 : Value}
    (a0 : PySem.W.nsIn K mainGlobals "is_number" = some (some (.ref f0)))
    (l0 : K.lookup f0 = some ⟨oc0, od0, .func (PySem.W.fnOf "is_number" "is_number" (defArgs s_is_number) (defBody s_is_number) (defScope s_is_number) .none kV0 dc0 pm0 an0 cd0 ct0), sl0⟩)
    (c0 : PySem.W.codeIn K cd0 "is_number" = true) (k0 : PySem.W.keepIn K (.ref f0) = true)
    {f1 : Addr} {od1 an1 : Option Addr} {sl1 : Array (Option Value)} {oc1 kV1 dc1 pm1 cd1 ct1 : Value}
    (a1 : PySem.W.nsIn K mainGlobals "is_size" = some (some (.ref f1)))
    (l1 : K.lookup f1 = some ⟨oc1, od1, .func (PySem.W.fnOf "is_size" "is_size" (defArgs s_is_size) (defBody s_is_size) (defScope s_is_size) .none kV1 dc1 pm1 an1 cd1 ct1), sl1⟩)
    (c1 : PySem.W.codeIn K cd1 "is_size" = true) (k1 : PySem.W.keepIn K (.ref f1) = true)
    {f2 : Addr} {od2 an2 : Option Addr} {sl2 : Array (Option Value)} {oc2 kV2 dc2 pm2 cd2 ct2 : Value}
    (a2 : PySem.W.nsIn K mainGlobals "is_list_of_numbers" = some (some (.ref f2)))
    (l2 : K.lookup f2 = some ⟨oc2, od2, .func (PySem.W.fnOf "is_list_of_numbers" "is_list_of_numbers" (defArgs s_is_list_of_numbers) (defBody s_is_list_of_numbers) (defScope s_is_list_of_numbers) .none kV2 dc2 pm2 an2 cd2 ct2), sl2⟩)
    (c2 : PySem.W.codeIn K cd2 "is_list_of_numbers" = true) (k2 : PySem.W.keepIn K (.ref f2) = true)
    {f3 : Addr} {od3 an3 : Option Addr} {sl3 : Array (Option Value)} {oc3 kV3 dc3 pm3 cd3 ct3 : Value}
    (a3 : PySem.W.nsIn K mainGlobals "is_falling" = some (some (.ref f3)))
    (l3 : K.lookup f3 = some ⟨oc3, od3, .func (PySem.W.fnOf "is_falling" "is_falling" (defArgs s_is_falling) (defBody s_is_falling) (defScope s_is_falling) .none kV3 dc3 pm3 an3 cd3 ct3), sl3⟩)
    (c3 : PySem.W.codeIn K cd3 "is_falling" = true) (k3 : PySem.W.keepIn K (.ref f3) = true)
    {f4 : Addr} {od4 an4 : Option Addr} {sl4 : Array (Option Value)} {oc4 kV4 dc4 pm4 cd4 ct4 : Value}
    (a4 : PySem.W.nsIn K mainGlobals "is_set" = some (some (.ref f4)))
    (l4 : K.lookup f4 = some ⟨oc4, od4, .func (PySem.W.fnOf "is_set" "is_set" (defArgs s_is_set) (defBody s_is_set) (defScope s_is_set) .none kV4 dc4 pm4 an4 cd4 ct4), sl4⟩)
    (c4 : PySem.W.codeIn K cd4 "is_set" = true) (k4 : PySem.W.keepIn K (.ref f4) = true)
    {f5 : Addr} {od5 an5 : Option Addr} {sl5 : Array (Option Value)} {oc5 kV5 dc5 pm5 cd5 ct5 : Value}
    (a5 : PySem.W.nsIn K mainGlobals "is_row" = some (some (.ref f5)))
    (l5 : K.lookup f5 = some ⟨oc5, od5, .func (PySem.W.fnOf "is_row" "is_row" (defArgs s_is_row) (defBody s_is_row) (defScope s_is_row) .none kV5 dc5 pm5 an5 cd5 ct5), sl5⟩)
    (c5 : PySem.W.codeIn K cd5 "is_row" = true) (k5 : PySem.W.keepIn K (.ref f5) = true)
    {f6 : Addr} {od6 an6 : Option Addr} {sl6 : Array (Option Value)} {oc6 kV6 dc6 pm6 cd6 ct6 : Value}
    (a6 : PySem.W.nsIn K mainGlobals "power" = some (some (.ref f6)))
    (l6 : K.lookup f6 = some ⟨oc6, od6, .func (PySem.W.fnOf "power" "power" (defArgs s_power) (defBody s_power) (defScope s_power) .none kV6 dc6 pm6 an6 cd6 ct6), sl6⟩)
    (c6 : PySem.W.codeIn K cd6 "power" = true) (k6 : PySem.W.keepIn K (.ref f6) = true)
    {f7 : Addr} {od7 an7 : Option Addr} {sl7 : Array (Option Value)} {oc7 kV7 dc7 pm7 cd7 ct7 : Value}
    (a7 : PySem.W.nsIn K mainGlobals "guess_above" = some (some (.ref f7)))
    (l7 : K.lookup f7 = some ⟨oc7, od7, .func (PySem.W.fnOf "guess_above" "guess_above" (defArgs s_guess_above) (defBody s_guess_above) (defScope s_guess_above) .none kV7 dc7 pm7 an7 cd7 ct7), sl7⟩)
    (c7 : PySem.W.codeIn K cd7 "guess_above" = true) (k7 : PySem.W.keepIn K (.ref f7) = true)
    {f8 : Addr} {od8 an8 : Option Addr} {sl8 : Array (Option Value)} {oc8 kV8 dc8 pm8 cd8 ct8 : Value}
    (a8 : PySem.W.nsIn K mainGlobals "whole_root" = some (some (.ref f8)))
    (l8 : K.lookup f8 = some ⟨oc8, od8, .func (PySem.W.fnOf "whole_root" "whole_root" (defArgs s_whole_root) (defBody s_whole_root) (defScope s_whole_root) .none kV8 dc8 pm8 an8 cd8 ct8), sl8⟩)
    (c8 : PySem.W.codeIn K cd8 "whole_root" = true) (k8 : PySem.W.keepIn K (.ref f8) = true)
    {f9 : Addr} {od9 an9 : Option Addr} {sl9 : Array (Option Value)} {oc9 kV9 dc9 pm9 cd9 ct9 : Value}
    (a9 : PySem.W.nsIn K mainGlobals "greatest_first" = some (some (.ref f9)))
    (l9 : K.lookup f9 = some ⟨oc9, od9, .func (PySem.W.fnOf "greatest_first" "greatest_first" (defArgs s_greatest_first) (defBody s_greatest_first) (defScope s_greatest_first) .none kV9 dc9 pm9 an9 cd9 ct9), sl9⟩)
    (c9 : PySem.W.codeIn K cd9 "greatest_first" = true) (k9 : PySem.W.keepIn K (.ref f9) = true)
    {f10 : Addr} {od10 an10 : Option Addr} {sl10 : Array (Option Value)} {oc10 kV10 dc10 pm10 cd10 ct10 : Value}
    (a10 : PySem.W.nsIn K mainGlobals "numbers_of_set" = some (some (.ref f10)))
    (l10 : K.lookup f10 = some ⟨oc10, od10, .func (PySem.W.fnOf "numbers_of_set" "numbers_of_set" (defArgs s_numbers_of_set) (defBody s_numbers_of_set) (defScope s_numbers_of_set) .none kV10 dc10 pm10 an10 cd10 ct10), sl10⟩)
    (c10 : PySem.W.codeIn K cd10 "numbers_of_set" = true) (k10 : PySem.W.keepIn K (.ref f10) = true)
    {f11 : Addr} {od11 an11 : Option Addr} {sl11 : Array (Option Value)} {oc11 kV11 dc11 pm11 cd11 ct11 : Value}
    (a11 : PySem.W.nsIn K mainGlobals "check_set" = some (some (.ref f11)))
    (l11 : K.lookup f11 = some ⟨oc11, od11, .func (PySem.W.fnOf "check_set" "check_set" (defArgs s_check_set) (defBody s_check_set) (defScope s_check_set) .none kV11 dc11 pm11 an11 cd11 ct11), sl11⟩)
    (c11 : PySem.W.codeIn K cd11 "check_set" = true) (k11 : PySem.W.keepIn K (.ref f11) = true)
    {f12 : Addr} {od12 an12 : Option Addr} {sl12 : Array (Option Value)} {oc12 kV12 dc12 pm12 cd12 ct12 : Value}
    (a12 : PySem.W.nsIn K mainGlobals "number_of" = some (some (.ref f12)))
    (l12 : K.lookup f12 = some ⟨oc12, od12, .func (PySem.W.fnOf "number_of" "number_of" (defArgs s_number_of) (defBody s_number_of) (defScope s_number_of) .none kV12 dc12 pm12 an12 cd12 ct12), sl12⟩)
    (c12 : PySem.W.codeIn K cd12 "number_of" = true) (k12 : PySem.W.keepIn K (.ref f12) = true)
    {f13 : Addr} {od13 an13 : Option Addr} {sl13 : Array (Option Value)} {oc13 kV13 dc13 pm13 cd13 ct13 : Value}
    (a13 : PySem.W.nsIn K mainGlobals "set_of" = some (some (.ref f13)))
    (l13 : K.lookup f13 = some ⟨oc13, od13, .func (PySem.W.fnOf "set_of" "set_of" (defArgs s_set_of) (defBody s_set_of) (defScope s_set_of) .none kV13 dc13 pm13 an13 cd13 ct13), sl13⟩)
    (c13 : PySem.W.codeIn K cd13 "set_of" = true) (k13 : PySem.W.keepIn K (.ref f13) = true)
    {f14 : Addr} {od14 an14 : Option Addr} {sl14 : Array (Option Value)} {oc14 kV14 dc14 pm14 cd14 ct14 : Value}
    (a14 : PySem.W.nsIn K mainGlobals "beneath" = some (some (.ref f14)))
    (l14 : K.lookup f14 = some ⟨oc14, od14, .func (PySem.W.fnOf "beneath" "beneath" (defArgs s_beneath) (defBody s_beneath) (defScope s_beneath) .none kV14 dc14 pm14 an14 cd14 ct14), sl14⟩)
    (c14 : PySem.W.codeIn K cd14 "beneath" = true) (k14 : PySem.W.keepIn K (.ref f14) = true)
    {f15 : Addr} {od15 an15 : Option Addr} {sl15 : Array (Option Value)} {oc15 kV15 dc15 pm15 cd15 ct15 : Value}
    (a15 : PySem.W.nsIn K mainGlobals "check_number" = some (some (.ref f15)))
    (l15 : K.lookup f15 = some ⟨oc15, od15, .func (PySem.W.fnOf "check_number" "check_number" (defArgs s_check_number) (defBody s_check_number) (defScope s_check_number) .none kV15 dc15 pm15 an15 cd15 ct15), sl15⟩)
    (c15 : PySem.W.codeIn K cd15 "check_number" = true) (k15 : PySem.W.keepIn K (.ref f15) = true)
    {f16 : Addr} {od16 an16 : Option Addr} {sl16 : Array (Option Value)} {oc16 kV16 dc16 pm16 cd16 ct16 : Value}
    (a16 : PySem.W.nsIn K mainGlobals "first_sets_at" = some (some (.ref f16)))
    (l16 : K.lookup f16 = some ⟨oc16, od16, .func (PySem.W.fnOf "first_sets_at" "first_sets_at" (defArgs s_first_sets_at) (defBody s_first_sets_at) (defScope s_first_sets_at) .none kV16 dc16 pm16 an16 cd16 ct16), sl16⟩)
    (c16 : PySem.W.codeIn K cd16 "first_sets_at" = true) (k16 : PySem.W.keepIn K (.ref f16) = true)
    {f17 : Addr} {od17 an17 : Option Addr} {sl17 : Array (Option Value)} {oc17 kV17 dc17 pm17 cd17 ct17 : Value}
    (a17 : PySem.W.nsIn K mainGlobals "under" = some (some (.ref f17)))
    (l17 : K.lookup f17 = some ⟨oc17, od17, .func (PySem.W.fnOf "under" "under" (defArgs s_under) (defBody s_under) (defScope s_under) .none kV17 dc17 pm17 an17 cd17 ct17), sl17⟩)
    (c17 : PySem.W.codeIn K cd17 "under" = true) (k17 : PySem.W.keepIn K (.ref f17) = true)
    {f18 : Addr} {od18 an18 : Option Addr} {sl18 : Array (Option Value)} {oc18 kV18 dc18 pm18 cd18 ct18 : Value}
    (a18 : PySem.W.nsIn K mainGlobals "over" = some (some (.ref f18)))
    (l18 : K.lookup f18 = some ⟨oc18, od18, .func (PySem.W.fnOf "over" "over" (defArgs s_over) (defBody s_over) (defScope s_over) .none kV18 dc18 pm18 an18 cd18 ct18), sl18⟩)
    (c18 : PySem.W.codeIn K cd18 "over" = true) (k18 : PySem.W.keepIn K (.ref f18) = true)
    {f19 : Addr} {od19 an19 : Option Addr} {sl19 : Array (Option Value)} {oc19 kV19 dc19 pm19 cd19 ct19 : Value}
    (a19 : PySem.W.nsIn K mainGlobals "first_excess" = some (some (.ref f19)))
    (l19 : K.lookup f19 = some ⟨oc19, od19, .func (PySem.W.fnOf "first_excess" "first_excess" (defArgs s_first_excess) (defBody s_first_excess) (defScope s_first_excess) .none kV19 dc19 pm19 an19 cd19 ct19), sl19⟩)
    (c19 : PySem.W.codeIn K cd19 "first_excess" = true) (k19 : PySem.W.keepIn K (.ref f19) = true)
    {f20 : Addr} {od20 an20 : Option Addr} {sl20 : Array (Option Value)} {oc20 kV20 dc20 pm20 cd20 ct20 : Value}
    (a20 : PySem.W.findIn K (.ref C_Can) "shows" = some (some (.ref f20))) (i20 : PySem.W.isFn K (.ref f20) = true)
    (l20 : K.lookup f20 = some ⟨oc20, od20, .func (PySem.W.fnOf "shows" "Can.shows" (defArgs s_Can_shows) (defBody s_Can_shows) (defScope s_Can_shows) .none kV20 dc20 pm20 an20 cd20 ct20), sl20⟩)
    (c20 : PySem.W.codeIn K cd20 "Can.shows" = true) (k20 : PySem.W.keepIn K (.ref f20) = true)
    {f21 : Addr} {od21 an21 : Option Addr} {sl21 : Array (Option Value)} {oc21 kV21 dc21 pm21 cd21 ct21 : Value}
    (a21 : PySem.W.findIn K (.ref C_Barred) "__init__" = some (some (.ref f21))) (i21 : PySem.W.isFn K (.ref f21) = true)
    (l21 : K.lookup f21 = some ⟨oc21, od21, .func (PySem.W.fnOf "__init__" "Barred.__init__" (defArgs s_Barred___init__) (defBody s_Barred___init__) (defScope s_Barred___init__) .none kV21 dc21 pm21 an21 cd21 ct21), sl21⟩)
    (c21 : PySem.W.codeIn K cd21 "Barred.__init__" = true) (k21 : PySem.W.keepIn K (.ref f21) = true)
    {f22 : Addr} {od22 an22 : Option Addr} {sl22 : Array (Option Value)} {oc22 kV22 dc22 pm22 cd22 ct22 : Value}
    (a22 : PySem.W.findIn K (.ref C_Barred) "shows" = some (some (.ref f22))) (i22 : PySem.W.isFn K (.ref f22) = true)
    (l22 : K.lookup f22 = some ⟨oc22, od22, .func (PySem.W.fnOf "shows" "Barred.shows" (defArgs s_Barred_shows) (defBody s_Barred_shows) (defScope s_Barred_shows) .none kV22 dc22 pm22 an22 cd22 ct22), sl22⟩)
    (c22 : PySem.W.codeIn K cd22 "Barred.shows" = true) (k22 : PySem.W.keepIn K (.ref f22) = true)
    {f23 : Addr} {od23 an23 : Option Addr} {sl23 : Array (Option Value)} {oc23 kV23 dc23 pm23 cd23 ct23 : Value}
    (a23 : PySem.W.nsIn K mainGlobals "check_row" = some (some (.ref f23)))
    (l23 : K.lookup f23 = some ⟨oc23, od23, .func (PySem.W.fnOf "check_row" "check_row" (defArgs s_check_row) (defBody s_check_row) (defScope s_check_row) .none kV23 dc23 pm23 an23 cd23 ct23), sl23⟩)
    (c23 : PySem.W.codeIn K cd23 "check_row" = true) (k23 : PySem.W.keepIn K (.ref f23) = true)
    {f24 : Addr} {od24 an24 : Option Addr} {sl24 : Array (Option Value)} {oc24 kV24 dc24 pm24 cd24 ct24 : Value}
    (a24 : PySem.W.nsIn K mainGlobals "check_family" = some (some (.ref f24)))
    (l24 : K.lookup f24 = some ⟨oc24, od24, .func (PySem.W.fnOf "check_family" "check_family" (defArgs s_check_family) (defBody s_check_family) (defScope s_check_family) .none kV24 dc24 pm24 an24 cd24 ct24), sl24⟩)
    (c24 : PySem.W.codeIn K cd24 "check_family" = true) (k24 : PySem.W.keepIn K (.ref f24) = true)
    {f25 : Addr} {od25 an25 : Option Addr} {sl25 : Array (Option Value)} {oc25 kV25 dc25 pm25 cd25 ct25 : Value}
    (a25 : PySem.W.nsIn K mainGlobals "told" = some (some (.ref f25)))
    (l25 : K.lookup f25 = some ⟨oc25, od25, .func (PySem.W.fnOf "told" "told" (defArgs s_told) (defBody s_told) (defScope s_told) .none kV25 dc25 pm25 an25 cd25 ct25), sl25⟩)
    (c25 : PySem.W.codeIn K cd25 "told" = true) (k25 : PySem.W.keepIn K (.ref f25) = true)
    {f26 : Addr} {od26 an26 : Option Addr} {sl26 : Array (Option Value)} {oc26 kV26 dc26 pm26 cd26 ct26 : Value}
    (a26 : PySem.W.nsIn K mainGlobals "has" = some (some (.ref f26)))
    (l26 : K.lookup f26 = some ⟨oc26, od26, .func (PySem.W.fnOf "has" "has" (defArgs s_has) (defBody s_has) (defScope s_has) .none kV26 dc26 pm26 an26 cd26 ct26), sl26⟩)
    (c26 : PySem.W.codeIn K cd26 "has" = true) (k26 : PySem.W.keepIn K (.ref f26) = true)
    {f27 : Addr} {od27 an27 : Option Addr} {sl27 : Array (Option Value)} {oc27 kV27 dc27 pm27 cd27 ct27 : Value}
    (a27 : PySem.W.nsIn K mainGlobals "most" = some (some (.ref f27)))
    (l27 : K.lookup f27 = some ⟨oc27, od27, .func (PySem.W.fnOf "most" "most" (defArgs s_most) (defBody s_most) (defScope s_most) .none kV27 dc27 pm27 an27 cd27 ct27), sl27⟩)
    (c27 : PySem.W.codeIn K cd27 "most" = true) (k27 : PySem.W.keepIn K (.ref f27) = true)
    {f28 : Addr} {od28 an28 : Option Addr} {sl28 : Array (Option Value)} {oc28 kV28 dc28 pm28 cd28 ct28 : Value}
    (a28 : PySem.W.nsIn K mainGlobals "_law_cell_at" = some (some (.ref f28)))
    (l28 : K.lookup f28 = some ⟨oc28, od28, .func (PySem.W.fnOf "_law_cell_at" "_law_cell_at" (defArgs s__law_cell_at) (defBody s__law_cell_at) (defScope s__law_cell_at) .none kV28 dc28 pm28 an28 cd28 ct28), sl28⟩)
    (c28 : PySem.W.codeIn K cd28 "_law_cell_at" = true) (k28 : PySem.W.keepIn K (.ref f28) = true)
    {f29 : Addr} {od29 an29 : Option Addr} {sl29 : Array (Option Value)} {oc29 kV29 dc29 pm29 cd29 ct29 : Value}
    (a29 : PySem.W.nsIn K mainGlobals "_law_kinds" = some (some (.ref f29)))
    (l29 : K.lookup f29 = some ⟨oc29, od29, .func (PySem.W.fnOf "_law_kinds" "_law_kinds" (defArgs s__law_kinds) (defBody s__law_kinds) (defScope s__law_kinds) .none kV29 dc29 pm29 an29 cd29 ct29), sl29⟩)
    (c29 : PySem.W.codeIn K cd29 "_law_kinds" = true) (k29 : PySem.W.keepIn K (.ref f29) = true)
    {f30 : Addr} {od30 an30 : Option Addr} {sl30 : Array (Option Value)} {oc30 kV30 dc30 pm30 cd30 ct30 : Value}
    (a30 : PySem.W.nsIn K mainGlobals "_law_with_set" = some (some (.ref f30)))
    (l30 : K.lookup f30 = some ⟨oc30, od30, .func (PySem.W.fnOf "_law_with_set" "_law_with_set" (defArgs s__law_with_set) (defBody s__law_with_set) (defScope s__law_with_set) .none kV30 dc30 pm30 an30 cd30 ct30), sl30⟩)
    (c30 : PySem.W.codeIn K cd30 "_law_with_set" = true) (k30 : PySem.W.keepIn K (.ref f30) = true)
    {f31 : Addr} {od31 an31 : Option Addr} {sl31 : Array (Option Value)} {oc31 kV31 dc31 pm31 cd31 ct31 : Value}
    (a31 : PySem.W.nsIn K mainGlobals "_law_with_size" = some (some (.ref f31)))
    (l31 : K.lookup f31 = some ⟨oc31, od31, .func (PySem.W.fnOf "_law_with_size" "_law_with_size" (defArgs s__law_with_size) (defBody s__law_with_size) (defScope s__law_with_size) .none kV31 dc31 pm31 an31 cd31 ct31), sl31⟩)
    (c31 : PySem.W.codeIn K cd31 "_law_with_size" = true) (k31 : PySem.W.keepIn K (.ref f31) = true)
    {f32 : Addr} {od32 an32 : Option Addr} {sl32 : Array (Option Value)} {oc32 kV32 dc32 pm32 cd32 ct32 : Value}
    (a32 : PySem.W.nsIn K mainGlobals "_law_with_number" = some (some (.ref f32)))
    (l32 : K.lookup f32 = some ⟨oc32, od32, .func (PySem.W.fnOf "_law_with_number" "_law_with_number" (defArgs s__law_with_number) (defBody s__law_with_number) (defScope s__law_with_number) .none kV32 dc32 pm32 an32 cd32 ct32), sl32⟩)
    (c32 : PySem.W.codeIn K cd32 "_law_with_number" = true) (k32 : PySem.W.keepIn K (.ref f32) = true)
    {f33 : Addr} {od33 an33 : Option Addr} {sl33 : Array (Option Value)} {oc33 kV33 dc33 pm33 cd33 ct33 : Value}
    (a33 : PySem.W.nsIn K mainGlobals "_law_with_row" = some (some (.ref f33)))
    (l33 : K.lookup f33 = some ⟨oc33, od33, .func (PySem.W.fnOf "_law_with_row" "_law_with_row" (defArgs s__law_with_row) (defBody s__law_with_row) (defScope s__law_with_row) .none kV33 dc33 pm33 an33 cd33 ct33), sl33⟩)
    (c33 : PySem.W.codeIn K cd33 "_law_with_row" = true) (k33 : PySem.W.keepIn K (.ref f33) = true)
    {f34 : Addr} {od34 an34 : Option Addr} {sl34 : Array (Option Value)} {oc34 kV34 dc34 pm34 cd34 ct34 : Value}
    (a34 : PySem.W.nsIn K mainGlobals "_law_next" = some (some (.ref f34)))
    (l34 : K.lookup f34 = some ⟨oc34, od34, .func (PySem.W.fnOf "_law_next" "_law_next" (defArgs s__law_next) (defBody s__law_next) (defScope s__law_next) .none kV34 dc34 pm34 an34 cd34 ct34), sl34⟩)
    (c34 : PySem.W.codeIn K cd34 "_law_next" = true) (k34 : PySem.W.keepIn K (.ref f34) = true)
    {f35 : Addr} {od35 an35 : Option Addr} {sl35 : Array (Option Value)} {oc35 kV35 dc35 pm35 cd35 ct35 : Value}
    (a35 : PySem.W.nsIn K mainGlobals "_law_of_none" = some (some (.ref f35)))
    (l35 : K.lookup f35 = some ⟨oc35, od35, .func (PySem.W.fnOf "_law_of_none" "_law_of_none" (defArgs s__law_of_none) (defBody s__law_of_none) (defScope s__law_of_none) .none kV35 dc35 pm35 an35 cd35 ct35), sl35⟩)
    (c35 : PySem.W.codeIn K cd35 "_law_of_none" = true) (k35 : PySem.W.keepIn K (.ref f35) = true)
    {f36 : Addr} {od36 an36 : Option Addr} {sl36 : Array (Option Value)} {oc36 kV36 dc36 pm36 cd36 ct36 : Value}
    (a36 : PySem.W.nsIn K mainGlobals "_law_told" = some (some (.ref f36)))
    (l36 : K.lookup f36 = some ⟨oc36, od36, .func (PySem.W.fnOf "_law_told" "_law_told" (defArgs s__law_told) (defBody s__law_told) (defScope s__law_told) .none kV36 dc36 pm36 an36 cd36 ct36), sl36⟩)
    (c36 : PySem.W.codeIn K cd36 "_law_told" = true) (k36 : PySem.W.keepIn K (.ref f36) = true)
    {f37 : Addr} {od37 an37 : Option Addr} {sl37 : Array (Option Value)} {oc37 kV37 dc37 pm37 cd37 ct37 : Value}
    (a37 : PySem.W.nsIn K mainGlobals "_law_all" = some (some (.ref f37)))
    (l37 : K.lookup f37 = some ⟨oc37, od37, .func (PySem.W.fnOf "_law_all" "_law_all" (defArgs s__law_all) (defBody s__law_all) (defScope s__law_all) .none kV37 dc37 pm37 an37 cd37 ct37), sl37⟩)
    (c37 : PySem.W.codeIn K cd37 "_law_all" = true) (k37 : PySem.W.keepIn K (.ref f37) = true)
    {f38 : Addr} {od38 an38 : Option Addr} {sl38 : Array (Option Value)} {oc38 kV38 dc38 pm38 cd38 ct38 : Value}
    (a38 : PySem.W.nsIn K mainGlobals "law" = some (some (.ref f38)))
    (l38 : K.lookup f38 = some ⟨oc38, od38, .func (PySem.W.fnOf "law" "law" (defArgs s_law) (defBody s_law) (defScope s_law) .none kV38 dc38 pm38 an38 cd38 ct38), sl38⟩)
    (c38 : PySem.W.codeIn K cd38 "law" = true) (k38 : PySem.W.keepIn K (.ref f38) = true)
    (z_ValueError : PySem.W.nsIn K mainGlobals "ValueError" = some none)
    (z_abs : PySem.W.nsIn K mainGlobals "abs" = some none)
    (z_all : PySem.W.nsIn K mainGlobals "all" = some none)
    (z_enumerate : PySem.W.nsIn K mainGlobals "enumerate" = some none)
    (z_int : PySem.W.nsIn K mainGlobals "int" = some none)
    (z_isinstance : PySem.W.nsIn K mainGlobals "isinstance" = some none)
    (z_len : PySem.W.nsIn K mainGlobals "len" = some none)
    (z_list : PySem.W.nsIn K mainGlobals "list" = some none)
    (z_range : PySem.W.nsIn K mainGlobals "range" = some none)
    (z_type : PySem.W.nsIn K mainGlobals "type" = some none)
    (z_zip : PySem.W.nsIn K mainGlobals "zip" = some none)
    (m_comb : PySem.W.nsIn K mainGlobals "comb" = some (some (.builtin "math.comb")))
    (m_factorial : PySem.W.nsIn K mainGlobals "factorial" = some (some (.builtin "math.factorial")))
    {t_GREATEST_SIZE : Tok} (i_GREATEST_SIZE : PySem.W.nsIn K mainGlobals "GREATEST_SIZE" = some (some (.int 20 t_GREATEST_SIZE)))
    (xo_BadSet : PySem.W.excIn K C_BadSet [.type "ValueError", .type "Exception", .type "BaseException", .type "object"] "ValueError.__new__" = true)
    (xk_BadSet : PySem.W.keepIn K (.ref C_BadSet) = true)
    (xb_BadSet : PySem.W.subIn K (.ref C_BadSet) (.type "BaseException") = some true)
    (xt_BadSet : PySem.W.typeIn K (.ref C_BadSet) = some (.type "type"))
    (ga_BadSet : PySem.W.findIn K (.ref C_BadSet) "__getattribute__" = some (some (.builtin "BaseException.__getattribute__")))
    (gg_BadSet : PySem.W.findIn K (.ref C_BadSet) "__getattr__" = some none)
    (hd_BadSet : PySem.W.hasDictIn K C_BadSet = true)
    (ca_BadSet : PySem.W.findIn K (.ref C_BadSet) "__class__" = some (some (.builtin "object.__class__")))
    (gt_object : PySem.W.specialIn K (.builtin "object.__class__") "__get__" = some (some (.builtin "getset_descriptor.__get__")))
    (tk_object : PySem.W.takesIn K (.builtin "object.__class__") = some true)
    (ob_BadSet : PySem.W.mroIn K C_BadSet (.type "object") = some true)
    (u_BadSet_BadSet : PySem.W.subIn K (.ref C_BadSet) (.ref C_BadSet) = some true)
    (ic_BadSet : PySem.W.isClsIn K C_BadSet = true)
    (ty_BadSet : PySem.W.typeIn K (.ref C_BadSet) = some (.type "type"))
    (u_BadSet_BadSize : PySem.W.subIn K (.ref C_BadSet) (.ref C_BadSize) = some false)
    (ic_BadSize : PySem.W.isClsIn K C_BadSize = true)
    (ty_BadSize : PySem.W.typeIn K (.ref C_BadSize) = some (.type "type"))
    (u_BadSet_BadNumber : PySem.W.subIn K (.ref C_BadSet) (.ref C_BadNumber) = some false)
    (ic_BadNumber : PySem.W.isClsIn K C_BadNumber = true)
    (ty_BadNumber : PySem.W.typeIn K (.ref C_BadNumber) = some (.type "type"))
    (u_BadSet_BadRow : PySem.W.subIn K (.ref C_BadSet) (.ref C_BadRow) = some false)
    (ic_BadRow : PySem.W.isClsIn K C_BadRow = true)
    (ty_BadRow : PySem.W.typeIn K (.ref C_BadRow) = some (.type "type"))
    (v_BadSet_ValueError : PySem.W.subIn K (.ref C_BadSet) (.type "ValueError") = some true)
    (u_BadSet_SetsError : PySem.W.subIn K (.ref C_BadSet) (.ref C_SetsError) = some true)
    (xb_SetsError : PySem.W.subIn K (.ref C_SetsError) (.type "BaseException") = some true)
    (hd_SetsError : PySem.W.hasDictIn K C_SetsError = true)
    (ty_SetsError : PySem.W.typeIn K (.ref C_SetsError) = some (.type "type"))
    (xo_BadSize : PySem.W.excIn K C_BadSize [.type "ValueError", .type "Exception", .type "BaseException", .type "object"] "ValueError.__new__" = true)
    (xk_BadSize : PySem.W.keepIn K (.ref C_BadSize) = true)
    (xb_BadSize : PySem.W.subIn K (.ref C_BadSize) (.type "BaseException") = some true)
    (xt_BadSize : PySem.W.typeIn K (.ref C_BadSize) = some (.type "type"))
    (ga_BadSize : PySem.W.findIn K (.ref C_BadSize) "__getattribute__" = some (some (.builtin "BaseException.__getattribute__")))
    (gg_BadSize : PySem.W.findIn K (.ref C_BadSize) "__getattr__" = some none)
    (hd_BadSize : PySem.W.hasDictIn K C_BadSize = true)
    (ca_BadSize : PySem.W.findIn K (.ref C_BadSize) "__class__" = some (some (.builtin "object.__class__")))
    (ob_BadSize : PySem.W.mroIn K C_BadSize (.type "object") = some true)
    (u_BadSize_BadSet : PySem.W.subIn K (.ref C_BadSize) (.ref C_BadSet) = some false)
    (u_BadSize_BadSize : PySem.W.subIn K (.ref C_BadSize) (.ref C_BadSize) = some true)
    (u_BadSize_BadNumber : PySem.W.subIn K (.ref C_BadSize) (.ref C_BadNumber) = some false)
    (u_BadSize_BadRow : PySem.W.subIn K (.ref C_BadSize) (.ref C_BadRow) = some false)
    (v_BadSize_ValueError : PySem.W.subIn K (.ref C_BadSize) (.type "ValueError") = some true)
    (u_BadSize_SetsError : PySem.W.subIn K (.ref C_BadSize) (.ref C_SetsError) = some true)
    (xo_BadNumber : PySem.W.excIn K C_BadNumber [.type "ValueError", .type "Exception", .type "BaseException", .type "object"] "ValueError.__new__" = true)
    (xk_BadNumber : PySem.W.keepIn K (.ref C_BadNumber) = true)
    (xb_BadNumber : PySem.W.subIn K (.ref C_BadNumber) (.type "BaseException") = some true)
    (xt_BadNumber : PySem.W.typeIn K (.ref C_BadNumber) = some (.type "type"))
    (ga_BadNumber : PySem.W.findIn K (.ref C_BadNumber) "__getattribute__" = some (some (.builtin "BaseException.__getattribute__")))
    (gg_BadNumber : PySem.W.findIn K (.ref C_BadNumber) "__getattr__" = some none)
    (hd_BadNumber : PySem.W.hasDictIn K C_BadNumber = true)
    (ca_BadNumber : PySem.W.findIn K (.ref C_BadNumber) "__class__" = some (some (.builtin "object.__class__")))
    (ob_BadNumber : PySem.W.mroIn K C_BadNumber (.type "object") = some true)
    (u_BadNumber_BadSet : PySem.W.subIn K (.ref C_BadNumber) (.ref C_BadSet) = some false)
    (u_BadNumber_BadNumber : PySem.W.subIn K (.ref C_BadNumber) (.ref C_BadNumber) = some true)
    (u_BadNumber_BadSize : PySem.W.subIn K (.ref C_BadNumber) (.ref C_BadSize) = some false)
    (u_BadNumber_BadRow : PySem.W.subIn K (.ref C_BadNumber) (.ref C_BadRow) = some false)
    (v_BadNumber_ValueError : PySem.W.subIn K (.ref C_BadNumber) (.type "ValueError") = some true)
    (u_BadNumber_SetsError : PySem.W.subIn K (.ref C_BadNumber) (.ref C_SetsError) = some true)
    (xo_BadRow : PySem.W.excIn K C_BadRow [.type "ValueError", .type "Exception", .type "BaseException", .type "object"] "ValueError.__new__" = true)
    (xk_BadRow : PySem.W.keepIn K (.ref C_BadRow) = true)
    (xb_BadRow : PySem.W.subIn K (.ref C_BadRow) (.type "BaseException") = some true)
    (xt_BadRow : PySem.W.typeIn K (.ref C_BadRow) = some (.type "type"))
    (ga_BadRow : PySem.W.findIn K (.ref C_BadRow) "__getattribute__" = some (some (.builtin "BaseException.__getattribute__")))
    (gg_BadRow : PySem.W.findIn K (.ref C_BadRow) "__getattr__" = some none)
    (hd_BadRow : PySem.W.hasDictIn K C_BadRow = true)
    (ca_BadRow : PySem.W.findIn K (.ref C_BadRow) "__class__" = some (some (.builtin "object.__class__")))
    (ob_BadRow : PySem.W.mroIn K C_BadRow (.type "object") = some true)
    (u_BadRow_BadSet : PySem.W.subIn K (.ref C_BadRow) (.ref C_BadSet) = some false)
    (u_BadRow_BadRow : PySem.W.subIn K (.ref C_BadRow) (.ref C_BadRow) = some true)
    (u_BadRow_BadSize : PySem.W.subIn K (.ref C_BadRow) (.ref C_BadSize) = some false)
    (u_BadRow_BadNumber : PySem.W.subIn K (.ref C_BadRow) (.ref C_BadNumber) = some false)
    (v_BadRow_ValueError : PySem.W.subIn K (.ref C_BadRow) (.type "ValueError") = some true)
    (u_BadRow_SetsError : PySem.W.subIn K (.ref C_BadRow) (.ref C_SetsError) = some true)
    (pg_Can : PySem.W.plainGet K C_Can Str.empty = true)
    (hd_Can : PySem.W.hasDictIn K C_Can = true)
    (po_Can : PySem.W.plainOver K C_Can = true)
    (sa_Can : PySem.W.findIn K (.ref C_Can) "__setattr__" = some (some (.builtin "object.__setattr__")))
    (mk_Can : PySem.W.makesIn K C_Can = true)
    (kc_Can : PySem.W.keepIn K (.ref C_Can) = true)
    (in_Can : PySem.W.findIn K (.ref C_Can) "__init__" = some (some (.builtin "object.__init__")))
    (pg_Barred : PySem.W.plainGet K C_Barred Str.empty = true)
    (hd_Barred : PySem.W.hasDictIn K C_Barred = true)
    (po_Barred : PySem.W.plainOver K C_Barred = true)
    (sa_Barred : PySem.W.findIn K (.ref C_Barred) "__setattr__" = some (some (.builtin "object.__setattr__")))
    (mk_Barred : PySem.W.makesIn K C_Barred = true)
    (kc_Barred : PySem.W.keepIn K (.ref C_Barred) = true)
    (n_Barred_size : PySem.W.findIn K (.ref C_Barred) "size" = some none)
    (n_Barred_most : PySem.W.findIn K (.ref C_Barred) "most" = some none)
    : ∃ fd : FuncData, (∀ (s : Shared) (v : Value), BindsTo s fd ⟨[v], []⟩ [("_law_script", v)]) ∧ ∀ base : Heap, K.In base → base.Ns mainGlobals mg → FnOk l.prog w K mg base CX0 42 fa fd ["_law_script"] (spLaw K) := by
  have e := hfa.symm.trans (PySem.W.mg_of X G a38)
  cases e
  have F0 := fun_mk (st := s_is_number) l0 c0 k0
  have b0 := F0.binds (ps := ["thing"]) fun _ _ _ _ _ _ us hl => match us, hl with | [_], _ => rfl
  have F1 := fun_mk (st := s_is_size) l1 c1 k1
  have b1 := F1.binds (ps := ["thing", "least", "greatest"]) fun _ _ _ _ _ _ us hl => match us, hl with | [_, _, _], _ => rfl
  have F2 := fun_mk (st := s_is_list_of_numbers) l2 c2 k2
  have b2 := F2.binds (ps := ["thing"]) fun _ _ _ _ _ _ us hl => match us, hl with | [_], _ => rfl
  have F3 := fun_mk (st := s_is_falling) l3 c3 k3
  have b3 := F3.binds (ps := ["numbers"]) fun _ _ _ _ _ _ us hl => match us, hl with | [_], _ => rfl
  have F4 := fun_mk (st := s_is_set) l4 c4 k4
  have b4 := F4.binds (ps := ["thing"]) fun _ _ _ _ _ _ us hl => match us, hl with | [_], _ => rfl
  have F5 := fun_mk (st := s_is_row) l5 c5 k5
  have b5 := F5.binds (ps := ["thing"]) fun _ _ _ _ _ _ us hl => match us, hl with | [_], _ => rfl
  have F6 := fun_mk (st := s_power) l6 c6 k6
  have b6 := F6.binds (ps := ["base", "degree"]) fun _ _ _ _ _ _ us hl => match us, hl with | [_, _], _ => rfl
  have F7 := fun_mk (st := s_guess_above) l7 c7 k7
  have b7 := F7.binds (ps := ["number", "degree"]) fun _ _ _ _ _ _ us hl => match us, hl with | [_, _], _ => rfl
  have F8 := fun_mk (st := s_whole_root) l8 c8 k8
  have b8 := F8.binds (ps := ["number", "degree"]) fun _ _ _ _ _ _ us hl => match us, hl with | [_, _], _ => rfl
  have F9 := fun_mk (st := s_greatest_first) l9 c9 k9
  have b9 := F9.binds (ps := ["size", "number"]) fun _ _ _ _ _ _ us hl => match us, hl with | [_, _], _ => rfl
  have F10 := fun_mk (st := s_numbers_of_set) l10 c10 k10
  have b10 := F10.binds (ps := ["size", "number"]) fun _ _ _ _ _ _ us hl => match us, hl with | [_, _], _ => rfl
  have F11 := fun_mk (st := s_check_set) l11 c11 k11
  have b11 := F11.binds (ps := ["some"]) fun _ _ _ _ _ _ us hl => match us, hl with | [_], _ => rfl
  have F12 := fun_mk (st := s_number_of) l12 c12 k12
  have b12 := F12.binds (ps := ["some"]) fun _ _ _ _ _ _ us hl => match us, hl with | [_], _ => rfl
  have F13 := fun_mk (st := s_set_of) l13 c13 k13
  have b13 := F13.binds (ps := ["size", "number"]) fun _ _ _ _ _ _ us hl => match us, hl with | [_, _], _ => rfl
  have F14 := fun_mk (st := s_beneath) l14 c14 k14
  have b14 := F14.binds (ps := ["some"]) fun _ _ _ _ _ _ us hl => match us, hl with | [_], _ => rfl
  have F15 := fun_mk (st := s_check_number) l15 c15 k15
  have b15 := F15.binds (ps := ["many"]) fun _ _ _ _ _ _ us hl => match us, hl with | [_], _ => rfl
  have F16 := fun_mk (st := s_first_sets_at) l16 c16 k16
  have b16 := F16.binds (ps := ["size", "many", "by"]) fun _ _ _ _ _ _ us hl => match us, hl with | [_, _, _], _ => rfl
  have F17 := fun_mk (st := s_under) l17 c17 k17
  have b17 := F17.binds (ps := ["size", "many"]) fun _ _ _ _ _ _ us hl => match us, hl with | [_, _], _ => rfl
  have F18 := fun_mk (st := s_over) l18 c18 k18
  have b18 := F18.binds (ps := ["size", "many"]) fun _ _ _ _ _ _ us hl => match us, hl with | [_, _], _ => rfl
  have F19 := fun_mk (st := s_first_excess) l19 c19 k19
  have b19 := F19.binds (ps := ["row"]) fun _ _ _ _ _ _ us hl => match us, hl with | [_], _ => rfl
  have F20 := fun_mk (st := s_Can_shows) l20 c20 k20
  have b20 := F20.binds (ps := ["self", "row"]) fun _ _ _ _ _ _ us hl => match us, hl with | [_, _], _ => rfl
  have F21 := fun_mk (st := s_Barred___init__) l21 c21 k21
  have b21 := F21.binds (ps := ["self", "size", "most"]) fun _ _ _ _ _ _ us hl => match us, hl with | [_, _, _], _ => rfl
  have F22 := fun_mk (st := s_Barred_shows) l22 c22 k22
  have b22 := F22.binds (ps := ["self", "row"]) fun _ _ _ _ _ _ us hl => match us, hl with | [_, _], _ => rfl
  have F23 := fun_mk (st := s_check_row) l23 c23 k23
  have b23 := F23.binds (ps := ["row"]) fun _ _ _ _ _ _ us hl => match us, hl with | [_], _ => rfl
  have F24 := fun_mk (st := s_check_family) l24 c24 k24
  have b24 := F24.binds (ps := ["row"]) fun _ _ _ _ _ _ us hl => match us, hl with | [_], _ => rfl
  have F25 := fun_mk (st := s_told) l25 c25 k25
  have b25 := F25.binds (ps := ["row"]) fun _ _ _ _ _ _ us hl => match us, hl with | [_], _ => rfl
  have F26 := fun_mk (st := s_has) l26 c26 k26
  have b26 := F26.binds (ps := ["row", "some"]) fun _ _ _ _ _ _ us hl => match us, hl with | [_, _], _ => rfl
  have F27 := fun_mk (st := s_most) l27 c27 k27
  have b27 := F27.binds (ps := ["row"]) fun _ _ _ _ _ _ us hl => match us, hl with | [_], _ => rfl
  have F28 := fun_mk (st := s__law_cell_at) l28 c28 k28
  have b28 := F28.binds (ps := ["_law_script", "_law_k"]) fun _ _ _ _ _ _ us hl => match us, hl with | [_, _], _ => rfl
  have F29 := fun_mk (st := s__law_kinds) l29 c29 k29
  have b29 := F29.binds (ps := ["_law_error"]) fun _ _ _ _ _ _ us hl => match us, hl with | [_], _ => rfl
  have F30 := fun_mk (st := s__law_with_set) l30 c30 k30
  have b30 := F30.binds (ps := ["_law_door", "_law_some"]) fun _ _ _ _ _ _ us hl => match us, hl with | [_, _], _ => rfl
  have F31 := fun_mk (st := s__law_with_size) l31 c31 k31
  have b31 := F31.binds (ps := ["_law_door", "_law_size"]) fun _ _ _ _ _ _ us hl => match us, hl with | [_, _], _ => rfl
  have F32 := fun_mk (st := s__law_with_number) l32 c32 k32
  have b32 := F32.binds (ps := ["_law_door", "_law_number"]) fun _ _ _ _ _ _ us hl => match us, hl with | [_, _], _ => rfl
  have F33 := fun_mk (st := s__law_with_row) l33 c33 k33
  have b33 := F33.binds (ps := ["_law_door", "_law_row"]) fun _ _ _ _ _ _ us hl => match us, hl with | [_, _], _ => rfl
  have F34 := fun_mk (st := s__law_next) l34 c34 k34
  have b34 := F34.binds (ps := ["_law_door", "_law_row"]) fun _ _ _ _ _ _ us hl => match us, hl with | [_, _], _ => rfl
  have F35 := fun_mk (st := s__law_of_none) l35 c35 k35
  have b35 := F35.binds (ps := ["_law_door", "_law_number"]) fun _ _ _ _ _ _ us hl => match us, hl with | [_, _], _ => rfl
  have F36 := fun_mk (st := s__law_told) l36 c36 k36
  have b36 := F36.binds (ps := ["_law_ask", "_law_door", "_law_thing"]) fun _ _ _ _ _ _ us hl => match us, hl with | [_, _, _], _ => rfl
  have F37 := fun_mk (st := s__law_all) l37 c37 k37
  have b37 := F37.binds (ps := ["_law_ask", "_law_doors", "_law_things", "_law_due"]) fun _ _ _ _ _ _ us hl => match us, hl with | [_, _, _, _], _ => rfl
  have F38 := fun_mk (st := s_law) l38 c38 k38
  have b38 := F38.binds (ps := ["_law_script"]) fun _ _ _ _ _ _ us hl => match us, hl with | [_], _ => rfl
  let T : Txt K mg := {
    f_is_number := _, d_is_number := _, F_is_number := F0, g_is_number := PySem.W.mg_of X G a0, b_is_number := b0,
    f_is_size := _, d_is_size := _, F_is_size := F1, g_is_size := PySem.W.mg_of X G a1, b_is_size := b1,
    f_is_list_of_numbers := _, d_is_list_of_numbers := _, F_is_list_of_numbers := F2, g_is_list_of_numbers := PySem.W.mg_of X G a2, b_is_list_of_numbers := b2,
    f_is_falling := _, d_is_falling := _, F_is_falling := F3, g_is_falling := PySem.W.mg_of X G a3, b_is_falling := b3,
    f_is_set := _, d_is_set := _, F_is_set := F4, g_is_set := PySem.W.mg_of X G a4, b_is_set := b4,
    f_is_row := _, d_is_row := _, F_is_row := F5, g_is_row := PySem.W.mg_of X G a5, b_is_row := b5,
    f_power := _, d_power := _, F_power := F6, g_power := PySem.W.mg_of X G a6, b_power := b6,
    f_guess_above := _, d_guess_above := _, F_guess_above := F7, g_guess_above := PySem.W.mg_of X G a7, b_guess_above := b7,
    f_whole_root := _, d_whole_root := _, F_whole_root := F8, g_whole_root := PySem.W.mg_of X G a8, b_whole_root := b8,
    f_greatest_first := _, d_greatest_first := _, F_greatest_first := F9, g_greatest_first := PySem.W.mg_of X G a9, b_greatest_first := b9,
    f_numbers_of_set := _, d_numbers_of_set := _, F_numbers_of_set := F10, g_numbers_of_set := PySem.W.mg_of X G a10, b_numbers_of_set := b10,
    f_check_set := _, d_check_set := _, F_check_set := F11, g_check_set := PySem.W.mg_of X G a11, b_check_set := b11,
    f_number_of := _, d_number_of := _, F_number_of := F12, g_number_of := PySem.W.mg_of X G a12, b_number_of := b12,
    f_set_of := _, d_set_of := _, F_set_of := F13, g_set_of := PySem.W.mg_of X G a13, b_set_of := b13,
    f_beneath := _, d_beneath := _, F_beneath := F14, g_beneath := PySem.W.mg_of X G a14, b_beneath := b14,
    f_check_number := _, d_check_number := _, F_check_number := F15, g_check_number := PySem.W.mg_of X G a15, b_check_number := b15,
    f_first_sets_at := _, d_first_sets_at := _, F_first_sets_at := F16, g_first_sets_at := PySem.W.mg_of X G a16, b_first_sets_at := b16,
    f_under := _, d_under := _, F_under := F17, g_under := PySem.W.mg_of X G a17, b_under := b17,
    f_over := _, d_over := _, F_over := F18, g_over := PySem.W.mg_of X G a18, b_over := b18,
    f_first_excess := _, d_first_excess := _, F_first_excess := F19, g_first_excess := PySem.W.mg_of X G a19, b_first_excess := b19,
    f_Can_shows := _, d_Can_shows := _, F_Can_shows := F20, b_Can_shows := b20,
    f_Barred___init__ := _, d_Barred___init__ := _, F_Barred___init__ := F21, b_Barred___init__ := b21,
    f_Barred_shows := _, d_Barred_shows := _, F_Barred_shows := F22, b_Barred_shows := b22,
    f_check_row := _, d_check_row := _, F_check_row := F23, g_check_row := PySem.W.mg_of X G a23, b_check_row := b23,
    f_check_family := _, d_check_family := _, F_check_family := F24, g_check_family := PySem.W.mg_of X G a24, b_check_family := b24,
    f_told := _, d_told := _, F_told := F25, g_told := PySem.W.mg_of X G a25, b_told := b25,
    f_has := _, d_has := _, F_has := F26, g_has := PySem.W.mg_of X G a26, b_has := b26,
    f_most := _, d_most := _, F_most := F27, g_most := PySem.W.mg_of X G a27, b_most := b27,
    f__law_cell_at := _, d__law_cell_at := _, F__law_cell_at := F28, g__law_cell_at := PySem.W.mg_of X G a28, b__law_cell_at := b28,
    f__law_kinds := _, d__law_kinds := _, F__law_kinds := F29, g__law_kinds := PySem.W.mg_of X G a29, b__law_kinds := b29,
    f__law_with_set := _, d__law_with_set := _, F__law_with_set := F30, g__law_with_set := PySem.W.mg_of X G a30, b__law_with_set := b30,
    f__law_with_size := _, d__law_with_size := _, F__law_with_size := F31, g__law_with_size := PySem.W.mg_of X G a31, b__law_with_size := b31,
    f__law_with_number := _, d__law_with_number := _, F__law_with_number := F32, g__law_with_number := PySem.W.mg_of X G a32, b__law_with_number := b32,
    f__law_with_row := _, d__law_with_row := _, F__law_with_row := F33, g__law_with_row := PySem.W.mg_of X G a33, b__law_with_row := b33,
    f__law_next := _, d__law_next := _, F__law_next := F34, g__law_next := PySem.W.mg_of X G a34, b__law_next := b34,
    f__law_of_none := _, d__law_of_none := _, F__law_of_none := F35, g__law_of_none := PySem.W.mg_of X G a35, b__law_of_none := b35,
    f__law_told := _, d__law_told := _, F__law_told := F36, g__law_told := PySem.W.mg_of X G a36, b__law_told := b36,
    f__law_all := _, d__law_all := _, F__law_all := F37, g__law_all := PySem.W.mg_of X G a37, b__law_all := b37,
    f_law := _, d_law := _, F_law := F38, g_law := PySem.W.mg_of X G a38, b_law := b38,
    k_SetsError := _, g_SetsError := PySem.W.mg_of X G g_SetsError,
    k_BadSet := _, g_BadSet := PySem.W.mg_of X G g_BadSet,
    X_BadSet := ⟨xo_BadSet, xk_BadSet, xb_BadSet, xt_BadSet⟩,
    Y_BadSet := ⟨ga_BadSet, gg_BadSet, xb_BadSet, hd_BadSet, ca_BadSet, gt_object, tk_object, ob_BadSet⟩,
    s_BadSet_BadSet := kit_sub ic_BadSet ty_BadSet u_BadSet_BadSet u_BadSet_BadSet,
    s_BadSet_BadSize := kit_sub ic_BadSize ty_BadSize u_BadSet_BadSet u_BadSet_BadSize,
    s_BadSet_BadNumber := kit_sub ic_BadNumber ty_BadNumber u_BadSet_BadSet u_BadSet_BadNumber,
    s_BadSet_BadRow := kit_sub ic_BadRow ty_BadRow u_BadSet_BadSet u_BadSet_BadRow,
    t_BadSet_ValueError := kit_subT (by decide +kernel) v_BadSet_ValueError,
    e_BadSet_SetsError := PySem.W.exm_ref xb_SetsError hd_SetsError ty_SetsError u_BadSet_SetsError,
    k_BadSize := _, g_BadSize := PySem.W.mg_of X G g_BadSize,
    X_BadSize := ⟨xo_BadSize, xk_BadSize, xb_BadSize, xt_BadSize⟩,
    Y_BadSize := ⟨ga_BadSize, gg_BadSize, xb_BadSize, hd_BadSize, ca_BadSize, gt_object, tk_object, ob_BadSize⟩,
    s_BadSize_BadSet := kit_sub ic_BadSet ty_BadSet u_BadSize_BadSize u_BadSize_BadSet,
    s_BadSize_BadSize := kit_sub ic_BadSize ty_BadSize u_BadSize_BadSize u_BadSize_BadSize,
    s_BadSize_BadNumber := kit_sub ic_BadNumber ty_BadNumber u_BadSize_BadSize u_BadSize_BadNumber,
    s_BadSize_BadRow := kit_sub ic_BadRow ty_BadRow u_BadSize_BadSize u_BadSize_BadRow,
    t_BadSize_ValueError := kit_subT (by decide +kernel) v_BadSize_ValueError,
    e_BadSize_SetsError := PySem.W.exm_ref xb_SetsError hd_SetsError ty_SetsError u_BadSize_SetsError,
    k_BadNumber := _, g_BadNumber := PySem.W.mg_of X G g_BadNumber,
    X_BadNumber := ⟨xo_BadNumber, xk_BadNumber, xb_BadNumber, xt_BadNumber⟩,
    Y_BadNumber := ⟨ga_BadNumber, gg_BadNumber, xb_BadNumber, hd_BadNumber, ca_BadNumber, gt_object, tk_object, ob_BadNumber⟩,
    s_BadNumber_BadSet := kit_sub ic_BadSet ty_BadSet u_BadNumber_BadNumber u_BadNumber_BadSet,
    s_BadNumber_BadSize := kit_sub ic_BadSize ty_BadSize u_BadNumber_BadNumber u_BadNumber_BadSize,
    s_BadNumber_BadNumber := kit_sub ic_BadNumber ty_BadNumber u_BadNumber_BadNumber u_BadNumber_BadNumber,
    s_BadNumber_BadRow := kit_sub ic_BadRow ty_BadRow u_BadNumber_BadNumber u_BadNumber_BadRow,
    t_BadNumber_ValueError := kit_subT (by decide +kernel) v_BadNumber_ValueError,
    e_BadNumber_SetsError := PySem.W.exm_ref xb_SetsError hd_SetsError ty_SetsError u_BadNumber_SetsError,
    k_BadRow := _, g_BadRow := PySem.W.mg_of X G g_BadRow,
    X_BadRow := ⟨xo_BadRow, xk_BadRow, xb_BadRow, xt_BadRow⟩,
    Y_BadRow := ⟨ga_BadRow, gg_BadRow, xb_BadRow, hd_BadRow, ca_BadRow, gt_object, tk_object, ob_BadRow⟩,
    s_BadRow_BadSet := kit_sub ic_BadSet ty_BadSet u_BadRow_BadRow u_BadRow_BadSet,
    s_BadRow_BadSize := kit_sub ic_BadSize ty_BadSize u_BadRow_BadRow u_BadRow_BadSize,
    s_BadRow_BadNumber := kit_sub ic_BadNumber ty_BadNumber u_BadRow_BadRow u_BadRow_BadNumber,
    s_BadRow_BadRow := kit_sub ic_BadRow ty_BadRow u_BadRow_BadRow u_BadRow_BadRow,
    t_BadRow_ValueError := kit_subT (by decide +kernel) v_BadRow_ValueError,
    e_BadRow_SetsError := PySem.W.exm_ref xb_SetsError hd_SetsError ty_SetsError u_BadRow_SetsError,
    k_Can := _, g_Can := PySem.W.mg_of X G g_Can,
    C_Can := ⟨pg_Can, hd_Can, po_Can, sa_Can⟩,
    M_Can := ⟨mk_Can, in_Can, kc_Can⟩,
    m_Can_shows := ⟨a20, i20, k20⟩,
    k_Barred := _, g_Barred := PySem.W.mg_of X G g_Barred,
    C_Barred := ⟨pg_Barred, hd_Barred, po_Barred, sa_Barred⟩,
    M_Barred := ⟨mk_Barred, a21, i21, kc_Barred⟩,
    m_Barred_shows := ⟨a22, i22, k22⟩,
    n_Barred_size := n_Barred_size,
    n_Barred_most := n_Barred_most,
    z_ValueError := PySem.W.mg_none_of X G z_ValueError,
    z_abs := PySem.W.mg_none_of X G z_abs,
    z_all := PySem.W.mg_none_of X G z_all,
    z_enumerate := PySem.W.mg_none_of X G z_enumerate,
    z_int := PySem.W.mg_none_of X G z_int,
    z_isinstance := PySem.W.mg_none_of X G z_isinstance,
    z_len := PySem.W.mg_none_of X G z_len,
    z_list := PySem.W.mg_none_of X G z_list,
    z_range := PySem.W.mg_none_of X G z_range,
    z_type := PySem.W.mg_none_of X G z_type,
    z_zip := PySem.W.mg_none_of X G z_zip,
    m_comb := PySem.W.mg_of X G m_comb,
    m_factorial := PySem.W.mg_of X G m_factorial,
    c_GREATEST_SIZE := ⟨_, PySem.W.mg_of X G i_GREATEST_SIZE⟩ }
  exact ⟨_, fun s v => .of_eq rfl, fun base _ _ => ok_law T⟩
end Sh
open PySem PySem.W PyProof.Rows
set_option maxHeartbeats 0 in
theorem PySem.Challenge.cw_shadowrow_k05_refused_holds : PySem.Challenge.rw_shadowrow_k05_refused.Holds := by
  w_on; o_law; k_head; (case hw => w_witness2)
  k_fill
  refine L2.walk_ofB (l := PySem.Challenge.rw_shadowrow_k05_refused) (n := 63) (k := 42) (x := "_law_script") (CX := fun _ => L2.CX0) (sp := fun w => Sh.spLaw _) rfl (by decide) rfl ⟨rfl, by decide, by decide⟩ (fun w h Y => PySem.W.kIn_of Y) ?F (fun _ _ a ns hl hb _ hS => ⟨a, ns, rfl, hS, hl, hb, fun _ _ => rfl⟩) (fun _ _ _ _ _ h => h)
  case F =>
    intro w mg fa h KX G hmg
    refine' Sh.all_mk KX G hmg ?g_SetsError ?g_BadSet ?g_BadSize ?g_BadNumber ?g_BadRow ?g_Can ?g_Barred ?a0 ?l0 ?c0 ?k0 ?a1 ?l1 ?c1 ?k1 ?a2 ?l2 ?c2 ?k2 ?a3 ?l3 ?c3 ?k3 ?a4 ?l4 ?c4 ?k4 ?a5 ?l5 ?c5 ?k5 ?a6 ?l6 ?c6 ?k6 ?a7 ?l7 ?c7 ?k7 ?a8 ?l8 ?c8 ?k8 ?a9 ?l9 ?c9 ?k9 ?a10 ?l10 ?c10 ?k10 ?a11 ?l11 ?c11 ?k11 ?a12 ?l12 ?c12 ?k12 ?a13 ?l13 ?c13 ?k13 ?a14 ?l14 ?c14 ?k14 ?a15 ?l15 ?c15 ?k15 ?a16 ?l16 ?c16 ?k16 ?a17 ?l17 ?c17 ?k17 ?a18 ?l18 ?c18 ?k18 ?a19 ?l19 ?c19 ?k19 ?i20 ?a20 ?l20 ?c20 ?k20 ?i21 ?a21 ?l21 ?c21 ?k21 ?i22 ?a22 ?l22 ?c22 ?k22 ?a23 ?l23 ?c23 ?k23 ?a24 ?l24 ?c24 ?k24 ?a25 ?l25 ?c25 ?k25 ?a26 ?l26 ?c26 ?k26 ?a27 ?l27 ?c27 ?k27 ?a28 ?l28 ?c28 ?k28 ?a29 ?l29 ?c29 ?k29 ?a30 ?l30 ?c30 ?k30 ?a31 ?l31 ?c31 ?k31 ?a32 ?l32 ?c32 ?k32 ?a33 ?l33 ?c33 ?k33 ?a34 ?l34 ?c34 ?k34 ?a35 ?l35 ?c35 ?k35 ?a36 ?l36 ?c36 ?k36 ?a37 ?l37 ?c37 ?k37 ?a38 ?l38 ?c38 ?k38 ?z_ValueError ?z_abs ?z_all ?z_enumerate ?z_int ?z_isinstance ?z_len ?z_list ?z_range ?z_type ?z_zip ?m_comb ?m_factorial ?i_GREATEST_SIZE ?xo_BadSet ?xk_BadSet ?xb_BadSet ?xt_BadSet ?ga_BadSet ?gg_BadSet ?hd_BadSet ?ca_BadSet ?gt_object ?tk_object ?ob_BadSet ?u_BadSet_BadSet ?ic_BadSet ?ty_BadSet ?u_BadSet_BadSize ?ic_BadSize ?ty_BadSize ?u_BadSet_BadNumber ?ic_BadNumber ?ty_BadNumber ?u_BadSet_BadRow ?ic_BadRow ?ty_BadRow ?v_BadSet_ValueError ?u_BadSet_SetsError ?xb_SetsError ?hd_SetsError ?ty_SetsError ?xo_BadSize ?xk_BadSize ?xb_BadSize ?xt_BadSize ?ga_BadSize ?gg_BadSize ?hd_BadSize ?ca_BadSize ?ob_BadSize ?u_BadSize_BadSet ?u_BadSize_BadSize ?u_BadSize_BadNumber ?u_BadSize_BadRow ?v_BadSize_ValueError ?u_BadSize_SetsError ?xo_BadNumber ?xk_BadNumber ?xb_BadNumber ?xt_BadNumber ?ga_BadNumber ?gg_BadNumber ?hd_BadNumber ?ca_BadNumber ?ob_BadNumber ?u_BadNumber_BadSet ?u_BadNumber_BadNumber ?u_BadNumber_BadSize ?u_BadNumber_BadRow ?v_BadNumber_ValueError ?u_BadNumber_SetsError ?xo_BadRow ?xk_BadRow ?xb_BadRow ?xt_BadRow ?ga_BadRow ?gg_BadRow ?hd_BadRow ?ca_BadRow ?ob_BadRow ?u_BadRow_BadSet ?u_BadRow_BadRow ?u_BadRow_BadSize ?u_BadRow_BadNumber ?v_BadRow_ValueError ?u_BadRow_SetsError ?pg_Can ?hd_Can ?po_Can ?sa_Can ?mk_Can ?kc_Can ?in_Can ?pg_Barred ?hd_Barred ?po_Barred ?sa_Barred ?mk_Barred ?kc_Barred ?n_Barred_size ?n_Barred_most
    (case g_SetsError => k_is)
    (case g_BadSet => k_is)
    (case g_BadSize => k_is)
    (case g_BadNumber => k_is)
    (case g_BadRow => k_is)
    (case g_Can => k_is)
    (case g_Barred => k_is)
    (case a0 => k_is)
    (case l0 => k_is)
    (case c0 => k_is)
    (case k0 => k_is)
    (case a1 => k_is)
    (case l1 => k_is)
    (case c1 => k_is)
    (case k1 => k_is)
    (case a2 => k_is)
    (case l2 => k_is)
    (case c2 => k_is)
    (case k2 => k_is)
    (case a3 => k_is)
    (case l3 => k_is)
    (case c3 => k_is)
    (case k3 => k_is)
    (case a4 => k_is)
    (case l4 => k_is)
    (case c4 => k_is)
    (case k4 => k_is)
    (case a5 => k_is)
    (case l5 => k_is)
    (case c5 => k_is)
    (case k5 => k_is)
    (case a6 => k_is)
    (case l6 => k_is)
    (case c6 => k_is)
    (case k6 => k_is)
    (case a7 => k_is)
    (case l7 => k_is)
    (case c7 => k_is)
    (case k7 => k_is)
    (case a8 => k_is)
    (case l8 => k_is)
    (case c8 => k_is)
    (case k8 => k_is)
    (case a9 => k_is)
    (case l9 => k_is)
    (case c9 => k_is)
    (case k9 => k_is)
    (case a10 => k_is)
    (case l10 => k_is)
    (case c10 => k_is)
    (case k10 => k_is)
    (case a11 => k_is)
    (case l11 => k_is)
    (case c11 => k_is)
    (case k11 => k_is)
    (case a12 => k_is)
    (case l12 => k_is)
    (case c12 => k_is)
    (case k12 => k_is)
    (case a13 => k_is)
    (case l13 => k_is)
    (case c13 => k_is)
    (case k13 => k_is)
    (case a14 => k_is)
    (case l14 => k_is)
    (case c14 => k_is)
    (case k14 => k_is)
    (case a15 => k_is)
    (case l15 => k_is)
    (case c15 => k_is)
    (case k15 => k_is)
    (case a16 => k_is)
    (case l16 => k_is)
    (case c16 => k_is)
    (case k16 => k_is)
    (case a17 => k_is)
    (case l17 => k_is)
    (case c17 => k_is)
    (case k17 => k_is)
    (case a18 => k_is)
    (case l18 => k_is)
    (case c18 => k_is)
    (case k18 => k_is)
    (case a19 => k_is)
    (case l19 => k_is)
    (case c19 => k_is)
    (case k19 => k_is)
    (case i20 => k_is)
    (case a20 => k_is)
    (case l20 => k_is)
    (case c20 => k_is)
    (case k20 => k_is)
    (case i21 => k_is)
    (case a21 => k_is)
    (case l21 => k_is)
    (case c21 => k_is)
    (case k21 => k_is)
    (case i22 => k_is)
    (case a22 => k_is)
    (case l22 => k_is)
    (case c22 => k_is)
    (case k22 => k_is)
    (case a23 => k_is)
    (case l23 => k_is)
    (case c23 => k_is)
    (case k23 => k_is)
    (case a24 => k_is)
    (case l24 => k_is)
    (case c24 => k_is)
    (case k24 => k_is)
    (case a25 => k_is)
    (case l25 => k_is)
    (case c25 => k_is)
    (case k25 => k_is)
    (case a26 => k_is)
    (case l26 => k_is)
    (case c26 => k_is)
    (case k26 => k_is)
    (case a27 => k_is)
    (case l27 => k_is)
    (case c27 => k_is)
    (case k27 => k_is)
    (case a28 => k_is)
    (case l28 => k_is)
    (case c28 => k_is)
    (case k28 => k_is)
    (case a29 => k_is)
    (case l29 => k_is)
    (case c29 => k_is)
    (case k29 => k_is)
    (case a30 => k_is)
    (case l30 => k_is)
    (case c30 => k_is)
    (case k30 => k_is)
    (case a31 => k_is)
    (case l31 => k_is)
    (case c31 => k_is)
    (case k31 => k_is)
    (case a32 => k_is)
    (case l32 => k_is)
    (case c32 => k_is)
    (case k32 => k_is)
    (case a33 => k_is)
    (case l33 => k_is)
    (case c33 => k_is)
    (case k33 => k_is)
    (case a34 => k_is)
    (case l34 => k_is)
    (case c34 => k_is)
    (case k34 => k_is)
    (case a35 => k_is)
    (case l35 => k_is)
    (case c35 => k_is)
    (case k35 => k_is)
    (case a36 => k_is)
    (case l36 => k_is)
    (case c36 => k_is)
    (case k36 => k_is)
    (case a37 => k_is)
    (case l37 => k_is)
    (case c37 => k_is)
    (case k37 => k_is)
    (case a38 => k_is)
    (case l38 => k_is)
    (case c38 => k_is)
    (case k38 => k_is)
    (case z_ValueError => k_is)
    (case z_abs => k_is)
    (case z_all => k_is)
    (case z_enumerate => k_is)
    (case z_int => k_is)
    (case z_isinstance => k_is)
    (case z_len => k_is)
    (case z_list => k_is)
    (case z_range => k_is)
    (case z_type => k_is)
    (case z_zip => k_is)
    (case m_comb => k_is)
    (case m_factorial => k_is)
    (case i_GREATEST_SIZE => k_is)
    (case xo_BadSet => k_exc)
    (case xk_BadSet => k_is)
    (case xb_BadSet => k_is)
    (case xt_BadSet => k_is)
    (case ga_BadSet => k_is)
    (case gg_BadSet => k_is)
    (case hd_BadSet => k_is)
    (case ca_BadSet => k_is)
    (case gt_object => k_is)
    (case tk_object => k_is)
    (case ob_BadSet => k_is)
    (case u_BadSet_BadSet => k_is)
    (case ic_BadSet => k_is)
    (case ty_BadSet => k_is)
    (case u_BadSet_BadSize => k_is)
    (case ic_BadSize => k_is)
    (case ty_BadSize => k_is)
    (case u_BadSet_BadNumber => k_is)
    (case ic_BadNumber => k_is)
    (case ty_BadNumber => k_is)
    (case u_BadSet_BadRow => k_is)
    (case ic_BadRow => k_is)
    (case ty_BadRow => k_is)
    (case v_BadSet_ValueError => k_is)
    (case u_BadSet_SetsError => k_is)
    (case xb_SetsError => k_is)
    (case hd_SetsError => k_is)
    (case ty_SetsError => k_is)
    (case xo_BadSize => k_exc)
    (case xk_BadSize => k_is)
    (case xb_BadSize => k_is)
    (case xt_BadSize => k_is)
    (case ga_BadSize => k_is)
    (case gg_BadSize => k_is)
    (case hd_BadSize => k_is)
    (case ca_BadSize => k_is)
    (case ob_BadSize => k_is)
    (case u_BadSize_BadSet => k_is)
    (case u_BadSize_BadSize => k_is)
    (case u_BadSize_BadNumber => k_is)
    (case u_BadSize_BadRow => k_is)
    (case v_BadSize_ValueError => k_is)
    (case u_BadSize_SetsError => k_is)
    (case xo_BadNumber => k_exc)
    (case xk_BadNumber => k_is)
    (case xb_BadNumber => k_is)
    (case xt_BadNumber => k_is)
    (case ga_BadNumber => k_is)
    (case gg_BadNumber => k_is)
    (case hd_BadNumber => k_is)
    (case ca_BadNumber => k_is)
    (case ob_BadNumber => k_is)
    (case u_BadNumber_BadSet => k_is)
    (case u_BadNumber_BadNumber => k_is)
    (case u_BadNumber_BadSize => k_is)
    (case u_BadNumber_BadRow => k_is)
    (case v_BadNumber_ValueError => k_is)
    (case u_BadNumber_SetsError => k_is)
    (case xo_BadRow => k_exc)
    (case xk_BadRow => k_is)
    (case xb_BadRow => k_is)
    (case xt_BadRow => k_is)
    (case ga_BadRow => k_is)
    (case gg_BadRow => k_is)
    (case hd_BadRow => k_is)
    (case ca_BadRow => k_is)
    (case ob_BadRow => k_is)
    (case u_BadRow_BadSet => k_is)
    (case u_BadRow_BadRow => k_is)
    (case u_BadRow_BadSize => k_is)
    (case u_BadRow_BadNumber => k_is)
    (case v_BadRow_ValueError => k_is)
    (case u_BadRow_SetsError => k_is)
    (case pg_Can => k_is)
    (case hd_Can => k_is)
    (case po_Can => k_is)
    (case sa_Can => k_is)
    (case mk_Can => k_is)
    (case kc_Can => k_is)
    (case in_Can => k_is)
    (case pg_Barred => k_is)
    (case hd_Barred => k_is)
    (case po_Barred => k_is)
    (case sa_Barred => k_is)
    (case mk_Barred => k_is)
    (case kc_Barred => k_is)
    (case n_Barred_size => k_is)
    (case n_Barred_most => k_is)
