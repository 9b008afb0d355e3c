/- acmelaw01.at: a height of a form's tooth, by a number. -/
import Derived.Test.YtloleaahelmdjaaLaw
namespace Go.Proofs.Ytloleaahelmdjaa
open Go.RowKit
set_option linter.unusedVariables false

set_option maxHeartbeats 1000000 in
theorem at_any (p l r a b s t n : Int) (h : Bool) (w : World) (a0 : 0 ≤ a) (a1 : a ≤ 200000) (b0 : 0 ≤ b) (b1 : b ≤ 200000) (n0 : 0 ≤ n) (n1 : n ≤ 65535) :
    Calls Try.prog 38 #[.agg #[.int .i64 p, .int .i64 l, .int .i64 r, .int .i64 a, .int .i64 b, .int .i64 s, .bool h, .int .i64 t], .int .u16 n] w fun e w' => e = .returned (.int .i64 (-b + n % (a + b + 1))) ∧ Below w.heap.size w w' := by
  have m0 := Int.emod_nonneg n (b := a + b + 1) (by omega)
  have m1 := Int.emod_lt_of_pos n (b := a + b + 1) (by omega)
  have e1 : IntKind.i64.wrap (a + b) = a + b := IntWalk.i64_in _ (by omega)
  have e2 : IntKind.i64.wrap (a + b + 1) = a + b + 1 := IntWalk.i64_in _ (by omega)
  have e3 : IntKind.i64.wrap (-b) = -b := IntWalk.i64_in _ (by omega)
  have e4 : IntKind.i64.wrap (-b + n % (a + b + 1)) = -b + n % (a + b + 1) := IntWalk.i64_in _ (by omega)
  have e5 : n.tmod (a + b + 1) = n % (a + b + 1) := Int.tmod_eq_emod_of_nonneg n0
  have e6 : ((a + b + 1 : Int) == 0) = false := by simp; omega
  have e7 : IntKind.i64.wrap n = n := IntWalk.i64_in _ (by omega)
  go_enter Try.func38, Try.ntmps38
  go_wp2_with fail
  go_region
  go_wp2
  go_returns
  exact ⟨rfl, by go_grown⟩

set_option maxHeartbeats 1000000 in
theorem sum_any (n1 d1 n2 d2 g1 g2 : Int) (w : World) (h1 : 1 ≤ d1) (h2 : 1 ≤ d2) (h3 : d1 ≤ 2000) (h4 : d2 ≤ 2000) (r1 : 2000 % d1 = 0) (r2 : 2000 % d2 = 0) (r3 : (2000 : Int).tmod d1 = 0) (r4 : (2000 : Int).tmod d2 = 0)
    (t1 : (2000 : Int).tdiv d1 = g1) (t2 : (2000 : Int).tdiv d2 = g2) (t3 : 2000 / d1 = g1) (t4 : 2000 / d2 = g2) (b1 : -1000000000000000 ≤ n1 * g1 ∧ n1 * g1 ≤ 1000000000000000) (b2 : -1000000000000000 ≤ n2 * g2 ∧ n2 * g2 ≤ 1000000000000000) (k1 : 1 ≤ g1 ∧ g1 ≤ 2000) (k2 : 1 ≤ g2 ∧ g2 ≤ 2000) :
    Calls Try.prog 39 #[.agg #[.int .i64 n1, .int .i64 d1], .agg #[.int .i64 n2, .int .i64 d2]] w fun e w' => e = .returned (.tuple #[.int .i64 (n1 * g1 + n2 * g2), .bool true]) ∧ Below w.heap.size w w' := by
  have e1 : IntKind.i64.wrap (n1 * g1) = n1 * g1 := IntWalk.i64_in _ (by omega)
  have e2 : IntKind.i64.wrap (n2 * g2) = n2 * g2 := IntWalk.i64_in _ (by omega)
  have e3 : IntKind.i64.wrap (n1 * g1 + n2 * g2) = n1 * g1 + n2 * g2 := IntWalk.i64_in _ (by omega)
  have e4 : IntKind.i64.wrap g1 = g1 := IntWalk.i64_in _ (by omega)
  have e5 : IntKind.i64.wrap g2 = g2 := IntWalk.i64_in _ (by omega)
  have HE : Hid (n1 * Int.tdiv 2000 d1 + n2 * Int.tdiv 2000 d2 = n1 * g1 + n2 * g2) := by rw [t1, t2]; rfl
  go_enter Try.func39, Try.ntmps39
  go_wp2_with fail
  go_region
  go_wp2
  go_returns
  refine ⟨?_, by go_grown⟩
  first
    | rfl
    | rw [HE.out]
end Go.Proofs.Ytloleaahelmdjaa
