/- Quotients, rounded toward 0, by a symbol: what they are, how they grow, when they reach a number. -/
import Derived.Test.YtknphpihipkdpaaCxRoot
set_option linter.unusedVariables false
set_option linter.unusedSimpArgs false
namespace Go.Proofs.Ytknphpihipkdpaa.Cx
open Go Go.RowKit
/-- What a quotient that is rounded toward 0 is: q of x by d. -/
def QD (x d q : Int) : Prop := (0 ≤ x → 0 ≤ q ∧ q * d ≤ x ∧ x ≤ q * d + (d - 1)) ∧ (x ≤ 0 → q ≤ 0 ∧ x ≤ q * d ∧ q * d ≤ x + (d - 1))
theorem qD_ex (x d : Int) (hd : 1 ≤ d) : ∃ q : Int, Hd (x.tdiv d = q) ∧ QD x d q := by
  have e := Int.mul_tdiv_add_tmod x d
  refine ⟨_, ⟨rfl⟩, fun h => ?_, fun h => ?_⟩
  · have a := rem_bd h (Int.le_refl x) hd
    have b := quo_bd h (Int.le_refl x) (by omega : 0 ≤ d)
    rw [tdiv_pos h, tmod_pos h] at *
    rw [Int.mul_comm] at e
    refine ⟨by omega, by omega, by omega⟩
  · have a := rem_bd (x := -x) (h := -x) (by omega) (Int.le_refl _) hd
    have b := quo_bd (x := -x) (h := -x) (by omega) (Int.le_refl _) (by omega : 0 ≤ d)
    rw [tdiv_neg h, tmod_neg h] at *
    rw [Int.mul_comm] at e
    refine ⟨by omega, by omega, by omega⟩
theorem qD_rng {x d q lo hi dl : Int} (h : QD x d q) (h1 : 1 ≤ dl) (h2 : dl ≤ d) (h3 : lo ≤ x) (h4 : x ≤ hi) (h5 : lo ≤ 0) (h6 : 0 ≤ hi) : lo ≤ q * dl ∧ q * dl ≤ hi := by
  rcases Int.le_total 0 x with k | k
  · obtain ⟨a, b, c⟩ := h.1 k
    have e := Int.mul_le_mul_of_nonneg_left h2 a
    have f := Int.mul_nonneg a (by omega : 0 ≤ dl)
    exact ⟨by omega, by omega⟩
  · obtain ⟨a, b, c⟩ := h.2 k
    have e := Int.mul_le_mul_of_nonneg_left h2 (by omega : 0 ≤ -q)
    have f := Int.mul_nonneg (by omega : 0 ≤ -q) (by omega : 0 ≤ dl)
    rw [Int.neg_mul] at f
    rw [Int.neg_mul, Int.neg_mul] at e
    exact ⟨by omega, by omega⟩
theorem qD_is {x d q m : Int} (h : QD x d q) (hm : q * d = m) : (0 ≤ x → 0 ≤ q ∧ m ≤ x ∧ x ≤ m + (d - 1)) ∧ (x ≤ 0 → q ≤ 0 ∧ x ≤ m ∧ m ≤ x + (d - 1)) := hm ▸ h
theorem qD_is' {x d q m : Int} (h : QD x d q) (hm : d * q = m) : (0 ≤ x → 0 ≤ q ∧ m ≤ x ∧ x ≤ m + (d - 1)) ∧ (x ≤ 0 → q ≤ 0 ∧ x ≤ m ∧ m ≤ x + (d - 1)) := qD_is h ((Int.mul_comm q d).trans hm)
theorem qD_mono {x d q y e r : Int} (h : QD x d q) (k : QD y e r) (hd : 1 ≤ d) (he : 1 ≤ e) : x ≤ y → e ≤ d → 0 ≤ y → q ≤ r := fun h1 h2 h3 => by
  obtain ⟨a, b, c⟩ := k.1 h3
  rcases Int.le_total 0 x with g | g
  · obtain ⟨a', b', c'⟩ := h.1 g
    refine Int.not_lt.1 fun g2 => ?_
    have u := Int.mul_le_mul_of_nonneg_left h2 a'
    have v := Int.mul_le_mul_of_nonneg_right (show r + 1 ≤ q by omega) (by omega : 0 ≤ e)
    rw [Int.add_mul, Int.one_mul] at v
    omega
  · have := (h.2 g).1; omega
theorem qD_gal {x d q t T : Int} (h : QD x d q) (hd : 1 ≤ d) (hT : t * d = T) : 1 ≤ t ∨ 0 ≤ x → t ≤ q ∧ T ≤ x ∨ q + 1 ≤ t ∧ x + 1 ≤ T := fun hh => by
  rcases Int.le_total 0 x with g | g
  · obtain ⟨a, b, c⟩ := h.1 g
    rcases Int.lt_or_le q t with k | k
    · have v := Int.mul_le_mul_of_nonneg_right (show q + 1 ≤ t by omega) (by omega : 0 ≤ d)
      rw [Int.add_mul, Int.one_mul] at v
      right; omega
    · have v := Int.mul_le_mul_of_nonneg_right k (by omega : 0 ≤ d)
      left; omega
  · have hq := (h.2 g).1
    rcases hh with k | k
    · have v := Int.mul_le_mul_of_nonneg_right k (by omega : 0 ≤ d)
      right; omega
    · obtain rfl : x = 0 := by omega
      obtain ⟨a, b, c⟩ := h.1 (Int.le_refl _)
      rcases Int.lt_or_le q t with k | k
      · have v := Int.mul_le_mul_of_nonneg_right (show q + 1 ≤ t by omega) (by omega : 0 ≤ d)
        rw [Int.add_mul, Int.one_mul] at v
        right; omega
      · have v := Int.mul_le_mul_of_nonneg_right k (by omega : 0 ≤ d)
        left; omega
end Go.Proofs.Ytknphpihipkdpaa.Cx
