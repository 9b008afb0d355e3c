/- ThreadTapers: numbers; a screw without a taper. Made by tools/gen_tapers.py. -/
import Derived.Test.YtloleaahelmdjaaLaw
namespace Go.Proofs.Ytloleaahelmdjaa
open Go.ChangeShapes Go.WideShapes Go.ChangeAt Go.RowKit
set_option linter.unusedVariables false

theorem taper_math {q e g t L D x : Int} (he : 1 ≤ e) (ht : 1 ≤ t) (h1 : q * g = D * 500) (h2 : e * g = t * L) (hx : q * L / e = x) : x * t ≤ 500 * D ∧ 500 * D < (x + 1) * t ∧ (q * L % e = 0 → x * t = 500 * D) := by
  have h3 : q * L * t = 500 * D * e := by
    rw [Int.mul_assoc, Int.mul_comm L t, ← h2, Int.mul_comm e g, ← Int.mul_assoc, h1, Int.mul_comm D 500]
  have m0 := Int.emod_nonneg (q * L) (b := e) (by omega)
  have m1 := Int.emod_lt_of_pos (q * L) (b := e) (by omega)
  have hdm := Int.mul_ediv_add_emod (q * L) e
  rw [hx] at hdm
  generalize q * L % e = m at *
  rw [← hdm] at h3
  have h4 : e * (500 * D - x * t) = m * t := by
    rw [Int.mul_sub, Int.mul_comm e (500 * D), ← h3, Int.add_mul, Int.mul_assoc e x t]
    omega
  have h5 : 0 ≤ m * t := Int.mul_nonneg m0 (by omega)
  have h6 : m * t < e * t := Int.mul_lt_mul_of_pos_right m1 (by omega)
  refine ⟨?_, ?_, fun hm => ?_⟩
  · have : 0 ≤ 500 * D - x * t := by
      rcases Int.lt_or_le (500 * D - x * t) 0 with h | h
      · have := Int.mul_neg_of_pos_of_neg (by omega : 0 < e) h; omega
      · exact h
    omega
  · have : 500 * D - x * t < t := by
      rcases Int.lt_or_le (500 * D - x * t) t with h | h
      · exact h
      · have := Int.mul_le_mul_of_nonneg_left h (by omega : 0 ≤ e); omega
    rw [Int.add_mul, Int.one_mul]
    omega
  · rw [hm, Int.zero_mul] at h4
    rcases Int.mul_eq_zero.1 h4 with h | h
    · omega
    · omega

theorem taper_le {q e g r N : Int} (hg : 1 ≤ g) (h1 : q * g = N) (h2 : e * g = 1000) (h : N ≤ 1000 * r) : q ≤ r * e := by
  rcases Int.lt_or_le (r * e) q with h9 | h9
  · have := Int.mul_lt_mul_of_pos_right h9 (by omega : 0 < g)
    rw [Int.mul_assoc, h2, h1] at this
    omega
  · exact h9
theorem taper_lt {q e g r N : Int} (hg : 1 ≤ g) (h1 : q * g = N) (h2 : e * g = 1000) (h : 1000 * r < N) : r * e < q := by
  rcases Int.lt_or_le (r * e) q with h9 | h9
  · exact h9
  · have h8 : q * g ≤ r * e * g := Int.mul_le_mul_of_nonneg_right h9 (by omega : 0 ≤ g)
    rw [Int.mul_assoc, h2, h1] at h8
    omega
theorem taper_eq {q e g r N : Int} (hg : 1 ≤ g) (h1 : q * g = N) (h2 : e * g = 1000) (h : N = 1000 * r) : q = r * e := by
  have a := taper_le (r := r) hg h1 h2 (by omega)
  rcases Int.lt_or_le q (r * e) with h9 | h9
  · have := Int.mul_lt_mul_of_pos_right h9 (by omega : 0 < g)
    rw [Int.mul_assoc, h2, h1] at this
    omega
  · omega

set_option maxRecDepth 100000 in
set_option maxHeartbeats 4000000 in
theorem tapers_0 (xp xl xr xa xb xs xt : Int) (xh : Bool) (S M d r' : Int) (w : World) (p l r a b s : Int) (h : Bool)
    (HFm : Hid (∀ w : World, Calls Try.prog 37 #[.agg #[.int .u16 xp, .int .u16 xl, .int .u16 xr, .int .u16 xa, .int .u16 xb, .int .u8 xs, .int .u8 xt, .bool xh]] w fun e w' => e = .returned (.agg #[.int .i64 p, .int .i64 l, .int .i64 r, .int .i64 a, .int .i64 b, .int .i64 s, .bool h, .int .i64 0]) ∧ Below w.heap.size w w'))
    (S0 : 0 ≤ S) (S1 : S ≤ 4294967295) (M0 : 0 ≤ M) (M1 : M ≤ 65535) (S2 : 0 ≤ S % 9000000) (S3 : S % 9000000 < 9000000) (hd : 1 + S % 9000000 = d) (hr : d + M = r') (z0 : 1 ≤ d) (z1 : d ≤ 9000000) (z2 : d ≤ r') (z3 : r' ≤ 9065535)
    (HM : Hid (∀ w : World, Calls Try.prog 26 #[.agg #[.int .i64 p, .int .i64 l, .int .i64 r, .int .i64 a, .int .i64 b, .int .i64 s, .bool h, .int .i64 0], .int .i64 d, .int .i64 r'] w fun e w' => e = .returned (.tuple #[.agg #[.int .i64 0, .int .i64 0], .int .i64 7]) ∧ Below w.heap.size w w')) (HM2 : Hid (∀ w : World, Calls Try.prog 26 #[.agg #[.int .i64 p, .int .i64 l, .int .i64 r, .int .i64 a, .int .i64 b, .int .i64 s, .bool h, .int .i64 0], .int .i64 d, .int .i64 d] w fun e w' => e = .returned (.tuple #[.agg #[.int .i64 0, .int .i64 0], .int .i64 7]) ∧ Below w.heap.size w w')) :
    Calls Try.prog 11 #[.agg #[.int .u16 xp, .int .u16 xl, .int .u16 xr, .int .u16 xa, .int .u16 xb, .int .u8 xs, .int .u8 xt, .bool xh], .int .u32 S, .int .u16 M] w fun e w' => e = .returned (.bool true) ∧ Below w.heap.size w w' := by
  have qR := eqR
  have nR := neqR
  have gR := guardR
  go_enter Try.func11, Try.ntmps11
  go_wp2_with fail
  refine (HFm.out _).mono ?_
  rintro e w1 ⟨rfl, hb1⟩
  have hB1 : Below w.heap.size w w1 := stepB (by go_grown) hb1
  have hs1 := hB1.size
  clear hb1
  go_wp2_with fail
  refine (HM.out _).mono ?_
  rintro e w2 ⟨rfl, hb2⟩
  have F2 : Box w2 w1.heap.size #[.int .i64 p, .int .i64 l, .int .i64 r, .int .i64 a, .int .i64 b, .int .i64 s, .bool h, .int .i64 0] := Box.below (Box.new w1 _ _) hb2
  have hB2 : Below w.heap.size w w2 := stepB (by go_grown) hb2
  have hs2 := hB2.size
  clear hb2 hB1 hs1
  have cF := F2.2.1
  have lF := F2.1
  go_wp2_with fail
  refine (HM2.out _).mono ?_
  rintro e w3 ⟨rfl, hb3⟩
  have F3 : Box w3 w1.heap.size #[.int .i64 p, .int .i64 l, .int .i64 r, .int .i64 a, .int .i64 b, .int .i64 s, .bool h, .int .i64 0] := Box.below (Box.alloc F2 _) hb3
  have T3 : Box w3 w2.heap.size #[.int .i64 0, .int .i64 0] := Box.below (Box.new w2 _ _) hb3
  have hB3 : Below w.heap.size w w3 := stepB (by go_grown) hb3
  have hs3 := hB3.size
  clear hb3 hB2 hs2 F2 cF lF
  have cF := F3.2.1
  have lF := F3.1
  have cT := T3.2.1
  have lT := T3.1
  go_wp2_with fail
  refine (known_any _).mono ?_
  rintro e w9 ⟨rfl, hb9⟩
  have hB9 : Below w.heap.size w w9 := stepB (by go_grown) hb9
  clear hb9
  go_wp2
  go_returns
  exact ⟨rfl, hB9⟩

end Go.Proofs.Ytloleaahelmdjaa
