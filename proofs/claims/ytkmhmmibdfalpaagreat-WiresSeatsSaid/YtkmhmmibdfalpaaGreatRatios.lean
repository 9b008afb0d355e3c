/- Contracts of package thread's functions that return a ratio: Width, Sharp, Area, Advance, PerInch, Diameter, Meets. -/
import Derived.Test.YtkmhmmibdfalpaaGreatShape
namespace Go.Proofs.YtkmhmmibdfalpaaGreat
open Go.RowKit
set_option linter.unusedSimpArgs false
set_option linter.unusedVariables false

theorem errN_bad {f : Form} (h : okB f = false) : errN f = 2 := by unfold errN; rw [h]; rfl
theorem errN_good {f : Form} (h : okB f = true) : errN f = 0 := by unfold errN; rw [h]; rfl
theorem ok_lim {f : Form} (h : okB f = true) : limB f = true := by unfold okB at h; simp at h; exact h.1.1
theorem ok_open {f : Form} (h : okB f = true) : f.a * (f.l + f.r) ≤ 500 * f.p ∧ f.b * (f.l + f.r) ≤ 500 * f.p ∧ 1 ≤ f.a + f.b := by
  have hl := lim_iff.1 (ok_lim h)
  unfold okB openB at h
  simp at h
  have h2 := h.2
  have h3 := h.1.2
  rcases Int.le_total f.a f.b with e | e
  · rw [Int.max_eq_right e] at h2
    exact ⟨Int.le_trans (Int.mul_le_mul_of_nonneg_right e (by omega)) h2, h2, h3⟩
  · rw [Int.max_eq_left e] at h2
    exact ⟨h2, Int.le_trans (Int.mul_le_mul_of_nonneg_right e (by omega)) h2, h3⟩

theorem mul_bd {x y A B : Int} (h1 : -A ≤ x) (h2 : x ≤ A) (h3 : -B ≤ y) (h4 : y ≤ B) : -(A * B) ≤ x * y ∧ x * y ≤ A * B := by
  have hx : x.natAbs ≤ A.natAbs := by omega
  have hy : y.natAbs ≤ B.natAbs := by omega
  have hm : x.natAbs * y.natAbs ≤ A.natAbs * B.natAbs := Nat.mul_le_mul hx hy
  have e1 : (x * y).natAbs = x.natAbs * y.natAbs := Int.natAbs_mul x y
  have e2 : (A * B).natAbs = A.natAbs * B.natAbs := Int.natAbs_mul A B
  have e3 : 0 ≤ A * B := Int.mul_nonneg (by omega) (by omega)
  omega

def zeroR : Value := .agg #[.int .i64 0, .int .i64 0]

end Go.Proofs.YtkmhmmibdfalpaaGreat
