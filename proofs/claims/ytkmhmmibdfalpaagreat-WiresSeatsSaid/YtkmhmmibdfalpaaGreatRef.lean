/- Contracts of package acmeref01's numbers: In, Width, Form, Lowest. -/
import Derived.Test.YtkmhmmibdfalpaaGreatRatios
import Derived.Test.YtkmhmmibdfalpaaGreatSame
import Derived.Lib.QuietBelow
namespace Go.Proofs.YtkmhmmibdfalpaaGreat
open Go.RowKit
set_option linter.unusedVariables false
set_option linter.unusedSimpArgs false

set_option maxHeartbeats 400000 in
theorem in_any (n lo hi : Int) (w : World) :
    Calls Tryz.prog 67 #[.int .i64 n, .int .i64 lo, .int .i64 hi] w fun e w' => e = .returned (.bool (inB lo hi n)) ∧ w = w' := by
  by_cases a : lo ≤ n
  · by_cases b : n ≤ hi
    · go_enter Tryz.func67, Tryz.ntmps67
      go_wp2
      go_returns
      exact ⟨ret_bool (by unfold inB; rw [decide_eq_true (by omega)]), rfl⟩
    · go_enter Tryz.func67, Tryz.ntmps67
      go_wp2
      go_returns
      exact ⟨ret_bool (by unfold inB; rw [decide_eq_false (by omega)]), rfl⟩
  · go_enter Tryz.func67, Tryz.ntmps67
    go_wp2
    go_returns
    exact ⟨ret_bool (by unfold inB; rw [decide_eq_false (by omega)]), rfl⟩

set_option maxHeartbeats 1000000 in
theorem refWidth_any (p l r a b s t : Int) (h : Bool) (y : Int) (w : World) (hp : 0 ≤ p ∧ p ≤ 200000) (hl : 0 ≤ l ∧ l ≤ 3000) (hr : 0 ≤ r ∧ r ≤ 3000) (hy : -200000 ≤ y ∧ y ≤ 200000) :
    Calls Tryz.prog 68 #[.agg #[.int .i64 p, .int .i64 l, .int .i64 r, .int .i64 a, .int .i64 b, .int .i64 s, .bool h, .int .i64 t], .int .i64 y] w fun e w' => e = .returned (.int .i64 (1000 * p - 2 * y * (l + r))) ∧ Below w.heap.size w w' := by
  obtain ⟨m1, m2⟩ := mul_bd (x := 2 * y) (y := l + r) (A := 400000) (B := 6000) (by omega) (by omega) (by omega) (by omega)
  obtain ⟨p0, p1⟩ := hp
  obtain ⟨l0, l1⟩ := hl
  obtain ⟨r0, r1⟩ := hr
  obtain ⟨y0, y1⟩ := hy
  go_enter Tryz.func68, Tryz.ntmps68
  go_wp2
  go_returns
  exact ⟨rfl, by go_grown⟩

end Go.Proofs.YtkmhmmibdfalpaaGreat
