/- ThreadMeet: flanks that do not meet. Made by tools/gen_meet.py. -/
import Derived.Test.YtloleaahelmdjaaLaw
namespace Go.Proofs.Ytloleaahelmdjaa
open Go.ChangeShapes Go.WideShapes Go.ChangeAt Go.RowKit
set_option linter.unusedVariables false

set_option maxRecDepth 100000 in
set_option maxHeartbeats 4000000 in
theorem meet_0 (xp xl xr xa xb xs xt : Int) (xh : Bool) (M : Int) (w : World) (p l r a b s t : Int) (h : Bool)
    (HFm : Hid (∀ w : World, Calls Try.prog 37 #[.agg #[.int .u16 xp, .int .u16 xl, .int .u16 xr, .int .u16 xa, .int .u16 xb, .int .u8 xs, .int .u8 xt, .bool xh]] w fun e w' => e = .returned (.agg #[.int .i64 p, .int .i64 l, .int .i64 r, .int .i64 a, .int .i64 b, .int .i64 s, .bool h, .int .i64 t]) ∧ Below w.heap.size w w'))
    (M0 : 0 ≤ M) (M1 : M ≤ 65535) (p0 : 100 ≤ p) (p1 : p ≤ 200000) (l0 : 0 ≤ l) (l1 : l ≤ 3000) (r0 : 0 ≤ r) (r1 : r ≤ 3000) (a0 : 0 ≤ a) (a1 : a ≤ 200000) (b0 : 0 ≤ b) (b1 : b ≤ 200000)
    (HS : Hid (∀ w : World, Calls Try.prog 16 #[.agg #[.int .i64 p, .int .i64 l, .int .i64 r, .int .i64 a, .int .i64 b, .int .i64 s, .bool h, .int .i64 t]] w fun e w' => e = .returned (.tuple #[.agg #[.int .i64 0, .int .i64 0], .int .i64 7]) ∧ Below w.heap.size w w')) (hn : (l + r == 0) = true) :
    Calls Try.prog 9 #[.agg #[.int .u16 xp, .int .u16 xl, .int .u16 xr, .int .u16 xa, .int .u16 xb, .int .u8 xs, .int .u8 xt, .bool xh], .int .u16 M] w fun e w' => e = .returned (.bool true) ∧ Below w.heap.size w w' := by
  have qR := eqR
  have nR := neqR
  have gR := guardR
  go_enter Try.func9, Try.ntmps9
  go_wp2_with fail
  refine (HFm.out _).mono ?_
  rintro e w1 ⟨rfl, hb1⟩
  have hB1 : Below w.heap.size w w1 := stepB (by go_grown) hb1
  have hs1 := hB1.size
  clear hb1
  go_wp2_with fail
  refine (HS.out _).mono ?_
  rintro e w2 ⟨rfl, hb2⟩
  have F2 : Box w2 w1.heap.size #[.int .i64 p, .int .i64 l, .int .i64 r, .int .i64 a, .int .i64 b, .int .i64 s, .bool h, .int .i64 t] := Box.below (Box.new w1 _ _) hb2
  have hB2 : Below w.heap.size w w2 := stepB (by go_grown) hb2
  have hs2 := hB2.size
  clear hb2 hB1 hs1
  have cF := F2.2.1
  have lF := F2.1
  go_wp2_with fail
  refine (known_any _).mono ?_
  rintro e w9 ⟨rfl, hb9⟩
  have hB9 : Below w.heap.size w w9 := stepB (by go_grown) hb9
  clear hb9
  go_wp2
  go_returns
  exact ⟨rfl, hB9⟩

end Go.Proofs.Ytloleaahelmdjaa
