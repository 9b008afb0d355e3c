/- ThreadTapers: a way of whole units. Made by tools/gen_tapers.py. -/
import Derived.Test.YtloleaahelmdjaaTapers1
namespace Go.Proofs.Ytloleaahelmdjaa
open Go.ChangeShapes Go.WideShapes Go.ChangeAt Go.RowKit
set_option linter.unusedVariables false

set_option maxRecDepth 100000 in
set_option maxHeartbeats 4000000 in
theorem tapers_2 (xp xl xr xa xb xs xt : Int) (xh : Bool) (S M d r' : Int) (w : World) (p l r a b s t : Int) (h : Bool)
    (HFm : Hid (∀ w : World, Calls Try.prog 37 #[.agg #[.int .u16 xp, .int .u16 xl, .int .u16 xr, .int .u16 xa, .int .u16 xb, .int .u8 xs, .int .u8 xt, .bool xh]] w fun e w' => e = .returned (.agg #[.int .i64 p, .int .i64 l, .int .i64 r, .int .i64 a, .int .i64 b, .int .i64 s, .bool h, .int .i64 t]) ∧ Below w.heap.size w w'))
    (S0 : 0 ≤ S) (S1 : S ≤ 4294967295) (M0 : 0 ≤ M) (M1 : M ≤ 65535) (S2 : 0 ≤ S % 9000000) (S3 : S % 9000000 < 9000000) (hd : 1 + S % 9000000 = d) (hr : d + M = r') (z0 : 1 ≤ d) (z1 : d ≤ 9000000) (z2 : d ≤ r') (z3 : r' ≤ 9065535)
    (q e9 x : Int) (q0 : 0 ≤ q) (f1 : 1 ≤ e9) (y1 : q * (p * s) ≤ 32767500 * (200000 * 8)) (y0 : 0 ≤ q * (p * s)) (hL : 1 ≤ p * s) (hL2 : p * s ≤ 200000 * 8) (hx : q * (p * s) / e9 = x) (hx2 : (q * (p * s)).tdiv e9 = x) (x0 : 0 ≤ x) (x1 : x ≤ q * (p * s)) (ht1 : 1 ≤ t) (ht2 : t ≤ 100)
    (HM : Hid (∀ w : World, Calls Try.prog 26 #[.agg #[.int .i64 p, .int .i64 l, .int .i64 r, .int .i64 a, .int .i64 b, .int .i64 s, .bool h, .int .i64 t], .int .i64 d, .int .i64 r'] w fun e w' => e = .returned (.tuple #[.agg #[.int .i64 q, .int .i64 e9], .int .i64 0]) ∧ Below w.heap.size w w')) (HM2 : Hid (∀ w : World, Calls Try.prog 26 #[.agg #[.int .i64 p, .int .i64 l, .int .i64 r, .int .i64 a, .int .i64 b, .int .i64 s, .bool h, .int .i64 t], .int .i64 d, .int .i64 d] w fun e w' => e = .returned (.tuple #[.agg #[.int .i64 0, .int .i64 1], .int .i64 0]) ∧ Below w.heap.size w w'))
    (q1 e1 q2 e2 : Int) (HN : Hid (∀ w : World, Calls Try.prog 25 #[.agg #[.int .i64 p, .int .i64 l, .int .i64 r, .int .i64 a, .int .i64 b, .int .i64 s, .bool h, .int .i64 t], .int .i64 d, .int .i64 x] w fun e w' => e = .returned (.tuple #[.agg #[.int .i64 q1, .int .i64 e1], .int .i64 0]) ∧ Below w.heap.size w w')) (HN2 : Hid (∀ w : World, Calls Try.prog 25 #[.agg #[.int .i64 p, .int .i64 l, .int .i64 r, .int .i64 a, .int .i64 b, .int .i64 s, .bool h, .int .i64 t], .int .i64 d, .int .i64 (x + 1)] w fun e w' => e = .returned (.tuple #[.agg #[.int .i64 q2, .int .i64 e2], .int .i64 0]) ∧ Below w.heap.size w w')) (c1 : 1 ≤ e1) (d1 : 1 ≤ e2) (u1 : q1 ≤ r' * e1) (u2 : r' * e2 < q2) (j1 : 0 ≤ r' * e1) (j2 : r' * e1 ≤ 9065535 * 1000) (j3 : 0 ≤ r' * e2) (j4 : r' * e2 ≤ 9065535 * 1000) (hbig : ¬ 10000000 < x + 1) (hm : q * (p * s) % e9 = 0) (hm2 : (q * (p * s)).tmod e9 = 0) (u4 : (q1 == r' * e1) = true) :
    Calls Try.prog 11 #[.agg #[.int .u16 xp, .int .u16 xl, .int .u16 xr, .int .u16 xa, .int .u16 xb, .int .u8 xs, .int .u8 xt, .bool xh], .int .u32 S, .int .u16 M] w fun e w' => e = .returned (.bool true) ∧ Below w.heap.size w w' := by
  have qR := eqR
  have nR := neqR
  have gR := guardR
  go_enter Try.func11, Try.ntmps11
  go_wp2_with fail
  refine (HFm.out _).mono ?_
  rintro e w1 ⟨rfl, hb1⟩
  have hB1 : Below w.heap.size w w1 := stepB (by go_grown) hb1
  have hs1 := hB1.size
  clear hb1
  go_wp2_with fail
  refine (HM.out _).mono ?_
  rintro e w2 ⟨rfl, hb2⟩
  have F2 : Box w2 w1.heap.size #[.int .i64 p, .int .i64 l, .int .i64 r, .int .i64 a, .int .i64 b, .int .i64 s, .bool h, .int .i64 t] := Box.below (Box.new w1 _ _) hb2
  have hB2 : Below w.heap.size w w2 := stepB (by go_grown) hb2
  have hs2 := hB2.size
  clear hb2 hB1 hs1
  have cF := F2.2.1
  have lF := F2.1
  go_wp2_with fail
  refine (HM2.out _).mono ?_
  rintro e w3 ⟨rfl, hb3⟩
  have F3 : Box w3 w1.heap.size #[.int .i64 p, .int .i64 l, .int .i64 r, .int .i64 a, .int .i64 b, .int .i64 s, .bool h, .int .i64 t] := Box.below (Box.alloc F2 _) hb3
  have T3 : Box w3 w2.heap.size #[.int .i64 q, .int .i64 e9] := Box.below (Box.new w2 _ _) hb3
  have hB3 : Below w.heap.size w w3 := stepB (by go_grown) hb3
  have hs3 := hB3.size
  clear hb3 hB2 hs2 F2 cF lF
  have cF := F3.2.1
  have lF := F3.1
  have cT := T3.2.1
  have lT := T3.1
  go_wp2_with fail
  clear cT lT
  refine (HN.out _).mono ?_
  rintro e w4 ⟨rfl, hb4⟩
  have F4 : Box w4 w1.heap.size #[.int .i64 p, .int .i64 l, .int .i64 r, .int .i64 a, .int .i64 b, .int .i64 s, .bool h, .int .i64 t] := Box.below (Box.alloc F3 _) hb4
  have T4 : Box w4 w2.heap.size #[.int .i64 q, .int .i64 e9] := Box.below (Box.alloc T3 _) hb4
  have Z4 : Box w4 w3.heap.size #[.int .i64 0, .int .i64 1] := Box.below (Box.new w3 _ _) hb4
  have hB4 : Below w.heap.size w w4 := stepB (by go_grown) hb4
  have hs4 := hB4.size
  clear hb4 hB3 hs3 F3 T3 cF lF
  have cF := F4.2.1
  have lF := F4.1
  go_wp2_with fail
  refine (HN2.out _).mono ?_
  rintro e w5 ⟨rfl, hb5⟩
  have F5 : Box w5 w1.heap.size #[.int .i64 p, .int .i64 l, .int .i64 r, .int .i64 a, .int .i64 b, .int .i64 s, .bool h, .int .i64 t] := Box.below (Box.alloc F4 _) hb5
  have T5 : Box w5 w2.heap.size #[.int .i64 q, .int .i64 e9] := Box.below (Box.alloc T4 _) hb5
  have Z5 : Box w5 w3.heap.size #[.int .i64 0, .int .i64 1] := Box.below (Box.alloc Z4 _) hb5
  have P5 : Box w5 w4.heap.size #[.int .i64 q1, .int .i64 e1] := Box.below (Box.new w4 _ _) hb5
  have hB5 : Below w.heap.size w w5 := stepB (by go_grown) hb5
  have hs5 := hB5.size
  clear hb5 hB4 hs4 F4 T4 Z4 cF lF
  have cF := F5.2.1
  have lF := F5.1
  have cT := T5.2.1
  have lT := T5.1
  have cP := P5.2.1
  have lP := P5.1
  go_wp2_with fail
  refine (known_any _).mono ?_
  rintro e w9 ⟨rfl, hb9⟩
  have hB9 : Below w.heap.size w w9 := stepB (by go_grown) hb9
  clear hb9
  go_wp2
  go_returns
  exact ⟨rfl, hB9⟩

end Go.Proofs.Ytloleaahelmdjaa
