/- A number from 0 on over a number, in lowest terms: its parts, and what they are where it is whole. -/
import Derived.Test.YtknphpihipkdpaaCxDiv
set_option linter.unusedVariables false
namespace Go.Proofs.Ytknphpihipkdpaa.Cx
open Go Go.RowKit
theorem assoc_eq {a b d m p n q : Int} (h1 : a * b = m) (h2 : m * d = p) (h3 : a * d = n) (h4 : n * b = q) : p = q := by
  rw [← h2, ← h4, ← h1, ← h3, Int.mul_assoc, Int.mul_assoc, Int.mul_comm b d]
theorem gcdc_ex (A n r : Int) (hn : 1 ≤ n) (hA : 0 ≤ A) (hr : A % n = r) : ∃ g N D : Int, Hd ((Int.gcd A n : Int) = g) ∧ Hd (N * g = A) ∧ Hd (D * g = n) ∧ (1 ≤ g ∧ g ≤ n) ∧ (0 ≤ N ∧ N ≤ A) ∧ (1 ≤ D ∧ D ≤ n) ∧ ((r = 0 → g = n ∧ D = 1 ∧ n * N = A) ∧ (D = 1 → r = 0)) := by
  have hg : (1 : Int) ≤ Int.gcd A n := by
    have := Int.gcd_pos_of_ne_zero_right A (by omega : n ≠ 0)
    omega
  obtain ⟨N, hN⟩ := Int.gcd_dvd_left (a := A) (b := n)
  obtain ⟨D, hD⟩ := Int.gcd_dvd_right (a := A) (b := n)
  have hk : r = 0 → (Int.gcd A n : Int) = n := fun h => by
    have h1 : n ∣ A := Int.dvd_of_emod_eq_zero (hr.trans h)
    have h2 := Int.dvd_coe_gcd h1 (Int.dvd_refl n)
    have h3 := Int.le_of_dvd (by omega) h2
    have h4 := Int.le_of_dvd (by omega) (⟨D, hD⟩ : (Int.gcd A n : Int) ∣ n)
    omega
  rw [Int.mul_comm] at hN hD
  refine ⟨_, N, D, ⟨rfl⟩, ⟨hN.symm⟩, ⟨hD.symm⟩, ?_⟩
  generalize (Int.gcd A n : Int) = g at *
  have d1 : 1 ≤ D := by
    rcases Int.lt_or_le 0 D with q | q
    · omega
    · have := Int.mul_le_mul_of_nonneg_right q (by omega : 0 ≤ g)
      omega
  have d2 : D * 1 ≤ D * g := Int.mul_le_mul_of_nonneg_left hg (by omega)
  have d3 : 1 * g ≤ D * g := Int.mul_le_mul_of_nonneg_right d1 (by omega)
  have n1 : 0 ≤ N := by
    rcases Int.lt_or_le N 0 with q | q
    · have := Int.mul_le_mul_of_nonneg_right (by omega : N ≤ -1) (by omega : 0 ≤ g)
      omega
    · exact q
  have n2 : N * 1 ≤ N * g := Int.mul_le_mul_of_nonneg_left hg n1
  refine ⟨⟨hg, by omega⟩, ⟨n1, by omega⟩, ⟨d1, by omega⟩, fun h => ?_, fun h => ?_⟩
  · have e := hk h
    subst e
    refine ⟨rfl, ?_, by rw [Int.mul_comm]; exact hN.symm⟩
    have := Int.mul_eq_mul_right_iff (a := D) (b := 1) (c := g) (by omega)
    exact this.1 (by omega)
  · subst h
    obtain rfl : g = n := by omega
    rw [← hr, hN]; exact Int.mul_emod_left ..
end Go.Proofs.Ytknphpihipkdpaa.Cx
