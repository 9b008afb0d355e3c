/- More of what the laws need: ratios twice as fine, forms that are none. Made by tools/gen_checks.py. -/
import Derived.Test.YtloleaahelmdjaaLaw
import Derived.Test.YtloleaahelmdjaaRefForm
import Derived.Test.YtloleaahelmdjaaLowest
namespace Go.Proofs.Ytloleaahelmdjaa
open Go.RowKit

theorem ratV_two (n d : Int) (hd : 1 ≤ d) : ratV (2 * n) (2 * d) = ratV n d := by
  have hg := gcd_pos_of n d hd
  have e : (Int.gcd (2 * n) (2 * d) : Int) = 2 * Int.gcd n d := by
    rw [Int.gcd_mul_left]; simp
  unfold ratV
  rw [e, Int.mul_ediv_mul_of_pos _ _ (by omega), Int.mul_ediv_mul_of_pos _ _ (by omega)]

theorem check_bad' (p l r a b s t : Int) (h : Bool) (w : World) (hk : okB ⟨p, l, r, a, b, s, h, t⟩ = false) :
    Calls Try.prog 14 #[.agg #[.int .i64 p, .int .i64 l, .int .i64 r, .int .i64 a, .int .i64 b, .int .i64 s, .bool h, .int .i64 t]] w fun e w' => e = .returned (.int .i64 2) ∧ Below w.heap.size w w' := by
  have hc := check_any p l r a b s t h w
  rw [errN_bad hk] at hc
  exact hc
theorem check_good' (p l r a b s t : Int) (h : Bool) (w : World) (hk : okB ⟨p, l, r, a, b, s, h, t⟩ = true) :
    Calls Try.prog 14 #[.agg #[.int .i64 p, .int .i64 l, .int .i64 r, .int .i64 a, .int .i64 b, .int .i64 s, .bool h, .int .i64 t]] w fun e w' => e = .returned (.int .i64 0) ∧ Below w.heap.size w w' := by
  have hc := check_any p l r a b s t h w
  rw [errN_good hk] at hc
  exact hc
theorem refForm_bad (p l r a b s t : Int) (h : Bool) (w : World) (hk : okB ⟨p, l, r, a, b, s, h, t⟩ = false) :
    Calls Try.prog 17 #[.agg #[.int .i64 p, .int .i64 l, .int .i64 r, .int .i64 a, .int .i64 b, .int .i64 s, .bool h, .int .i64 t]] w fun e w' => e = .returned (.bool false) ∧ Below w.heap.size w w' := hk ▸ refForm_any p l r a b s t h w
theorem refForm_good (p l r a b s t : Int) (h : Bool) (w : World) (hk : okB ⟨p, l, r, a, b, s, h, t⟩ = true) :
    Calls Try.prog 17 #[.agg #[.int .i64 p, .int .i64 l, .int .i64 r, .int .i64 a, .int .i64 b, .int .i64 s, .bool h, .int .i64 t]] w fun e w' => e = .returned (.bool true) ∧ Below w.heap.size w w' := hk ▸ refForm_any p l r a b s t h w
end Go.Proofs.Ytloleaahelmdjaa
