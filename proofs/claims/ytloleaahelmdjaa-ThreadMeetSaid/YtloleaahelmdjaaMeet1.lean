/- ThreadMeet: beyond the deepest tooth. Made by tools/gen_meet.py. -/
import Derived.Test.YtloleaahelmdjaaMeet0
namespace Go.Proofs.Ytloleaahelmdjaa
open Go.ChangeShapes Go.WideShapes Go.ChangeAt Go.RowKit
set_option linter.unusedVariables false

set_option maxRecDepth 100000 in
set_option maxHeartbeats 4000000 in
theorem meet_1 (xp xl xr xa xb xs xt : Int) (xh : Bool) (M : Int) (w : World) (p l r a b s t : Int) (h : Bool)
    (HFm : Hid (∀ w : World, Calls Try.prog 37 #[.agg #[.int .u16 xp, .int .u16 xl, .int .u16 xr, .int .u16 xa, .int .u16 xb, .int .u8 xs, .int .u8 xt, .bool xh]] w fun e w' => e = .returned (.agg #[.int .i64 p, .int .i64 l, .int .i64 r, .int .i64 a, .int .i64 b, .int .i64 s, .bool h, .int .i64 t]) ∧ Below w.heap.size w w'))
    (M0 : 0 ≤ M) (M1 : M ≤ 65535) (p0 : 100 ≤ p) (p1 : p ≤ 200000) (l0 : 0 ≤ l) (l1 : l ≤ 3000) (r0 : 0 ≤ r) (r1 : r ≤ 3000) (a0 : 0 ≤ a) (a1 : a ≤ 200000) (b0 : 0 ≤ b) (b1 : b ≤ 200000)
    (q e9 z : Int) (HS : Hid (∀ w : World, Calls Try.prog 16 #[.agg #[.int .i64 p, .int .i64 l, .int .i64 r, .int .i64 a, .int .i64 b, .int .i64 s, .bool h, .int .i64 t]] w fun e w' => e = .returned (.tuple #[.agg #[.int .i64 q, .int .i64 e9], .int .i64 0]) ∧ Below w.heap.size w w')) (HC : Hid (∀ w : World, Calls Try.prog 14 #[.agg #[.int .i64 p, .int .i64 l, .int .i64 r, .int .i64 (z + 1 + M), .int .i64 b, .int .i64 s, .bool h, .int .i64 t]] w fun e w' => e = .returned (.int .i64 2) ∧ Below w.heap.size w w')) (HD : Hid (∀ w : World, Calls Try.prog 14 #[.agg #[.int .i64 p, .int .i64 l, .int .i64 r, .int .i64 a, .int .i64 (z + 1 + M), .int .i64 s, .bool h, .int .i64 t]] w fun e w' => e = .returned (.int .i64 2) ∧ Below w.heap.size w w')) (hn : (l + r == 0) = false) (hn1 : 1 ≤ l + r) (f1 : 1 ≤ e9) (q0 : 0 ≤ q) (q9 : q ≤ 100000000) (g1 : (q * (l + r) != 500 * p * e9) = false) (g2 : a * e9 ≤ q) (g3 : b * e9 ≤ q) (g4 : 0 ≤ a * e9) (g5 : 0 ≤ b * e9) (g6 : 0 ≤ q * (l + r)) (g7 : q * (l + r) ≤ 100000000 * 6000) (g8 : 0 ≤ 500 * p * e9) (g9 : 500 * p * e9 ≤ 100000000 * 6000) (hz : q / e9 = z) (hz2 : q.tdiv e9 = z) (z0 : 0 ≤ z) (z9 : z ≤ 100000000) (hbig : 200000 < z) :
    Calls Try.prog 9 #[.agg #[.int .u16 xp, .int .u16 xl, .int .u16 xr, .int .u16 xa, .int .u16 xb, .int .u8 xs, .int .u8 xt, .bool xh], .int .u16 M] w fun e w' => e = .returned (.bool true) ∧ Below w.heap.size w w' := by
  have qR := eqR
  have nR := neqR
  have gR := guardR
  go_enter Try.func9, Try.ntmps9
  go_wp2_with fail
  refine (HFm.out _).mono ?_
  rintro e w1 ⟨rfl, hb1⟩
  have hB1 : Below w.heap.size w w1 := stepB (by go_grown) hb1
  have hs1 := hB1.size
  clear hb1
  go_wp2_with fail
  refine (HS.out _).mono ?_
  rintro e w2 ⟨rfl, hb2⟩
  have F2 : Box w2 w1.heap.size #[.int .i64 p, .int .i64 l, .int .i64 r, .int .i64 a, .int .i64 b, .int .i64 s, .bool h, .int .i64 t] := Box.below (Box.new w1 _ _) hb2
  have hB2 : Below w.heap.size w w2 := stepB (by go_grown) hb2
  have hs2 := hB2.size
  clear hb2 hB1 hs1
  have cF := F2.2.1
  have lF := F2.1
  go_wp2_with fail
  refine (HC.out _).mono ?_
  rintro e w3 ⟨rfl, hb3⟩
  have F3 : Box w3 w1.heap.size #[.int .i64 p, .int .i64 l, .int .i64 r, .int .i64 a, .int .i64 b, .int .i64 s, .bool h, .int .i64 t] := Box.below (Box.alloc (Box.alloc (Box.alloc F2 _) _) _) hb3
  have S3 : Box w3 w2.heap.size #[.int .i64 q, .int .i64 e9] := Box.below (Box.alloc (Box.alloc (Box.new w2 _ _) _) _) hb3
  have A3 : Box w3 (w2.heap.size + 1) #[.int .i64 p, .int .i64 l, .int .i64 r, .int .i64 (z + 1 + M), .int .i64 b, .int .i64 s, .bool h, .int .i64 t] := Box.below (Box.alloc (Box.newAt (w2.alloc _) _ _ (by simp)) _) hb3
  have D3 : Box w3 (w2.heap.size + 1 + 1) #[.int .i64 p, .int .i64 l, .int .i64 r, .int .i64 a, .int .i64 (z + 1 + M), .int .i64 s, .bool h, .int .i64 t] := Box.below (Box.newAt ((w2.alloc _).alloc _) _ _ (by simp)) hb3
  have hB3 : Below w.heap.size w w3 := stepB (by go_grown) hb3
  have hs3 := hB3.size
  clear hb3 hB2 hs2 F2 cF lF
  have cF := F3.2.1
  have lF := F3.1
  have cS := S3.2.1
  have lS := S3.1
  have cD := D3.2.1
  have lD := D3.1
  go_wp2_with fail
  refine (HD.out _).mono ?_
  rintro e w4 ⟨rfl, hb4⟩
  have F4 : Box w4 w1.heap.size #[.int .i64 p, .int .i64 l, .int .i64 r, .int .i64 a, .int .i64 b, .int .i64 s, .bool h, .int .i64 t] := Box.below F3 hb4
  have S4 : Box w4 w2.heap.size #[.int .i64 q, .int .i64 e9] := Box.below S3 hb4
  have A4 : Box w4 (w2.heap.size + 1) #[.int .i64 p, .int .i64 l, .int .i64 r, .int .i64 (z + 1 + M), .int .i64 b, .int .i64 s, .bool h, .int .i64 t] := Box.below A3 hb4
  have D4 : Box w4 (w2.heap.size + 1 + 1) #[.int .i64 p, .int .i64 l, .int .i64 r, .int .i64 a, .int .i64 (z + 1 + M), .int .i64 s, .bool h, .int .i64 t] := Box.below D3 hb4
  have hB4 : Below w.heap.size w w4 := stepB (by go_grown) hb4
  have hs4 := hB4.size
  clear hb4 hB3 hs3 F3 S3 A3 D3 cD lD cF lF cS lS
  have cF := F4.2.1
  have lF := F4.1
  have cS := S4.2.1
  have lS := S4.1
  have cD := D4.2.1
  have lD := D4.1
  go_wp2_with fail
  refine (known_any _).mono ?_
  rintro e w9 ⟨rfl, hb9⟩
  have hB9 : Below w.heap.size w w9 := stepB (by go_grown) hb9
  clear hb9
  go_wp2
  go_returns
  exact ⟨rfl, hB9⟩

set_option maxRecDepth 100000 in
set_option maxHeartbeats 4000000 in
theorem meet_2 (xp xl xr xa xb xs xt : Int) (xh : Bool) (M : Int) (w : World) (p l r a b s t : Int) (h : Bool)
    (HFm : Hid (∀ w : World, Calls Try.prog 37 #[.agg #[.int .u16 xp, .int .u16 xl, .int .u16 xr, .int .u16 xa, .int .u16 xb, .int .u8 xs, .int .u8 xt, .bool xh]] w fun e w' => e = .returned (.agg #[.int .i64 p, .int .i64 l, .int .i64 r, .int .i64 a, .int .i64 b, .int .i64 s, .bool h, .int .i64 t]) ∧ Below w.heap.size w w'))
    (M0 : 0 ≤ M) (M1 : M ≤ 65535) (p0 : 100 ≤ p) (p1 : p ≤ 200000) (l0 : 0 ≤ l) (l1 : l ≤ 3000) (r0 : 0 ≤ r) (r1 : r ≤ 3000) (a0 : 0 ≤ a) (a1 : a ≤ 200000) (b0 : 0 ≤ b) (b1 : b ≤ 200000)
    (q e9 z : Int) (HS : Hid (∀ w : World, Calls Try.prog 16 #[.agg #[.int .i64 p, .int .i64 l, .int .i64 r, .int .i64 a, .int .i64 b, .int .i64 s, .bool h, .int .i64 t]] w fun e w' => e = .returned (.tuple #[.agg #[.int .i64 q, .int .i64 e9], .int .i64 0]) ∧ Below w.heap.size w w')) (HC : Hid (∀ w : World, Calls Try.prog 14 #[.agg #[.int .i64 p, .int .i64 l, .int .i64 r, .int .i64 (z + 1 + M), .int .i64 b, .int .i64 s, .bool h, .int .i64 t]] w fun e w' => e = .returned (.int .i64 2) ∧ Below w.heap.size w w')) (HD : Hid (∀ w : World, Calls Try.prog 14 #[.agg #[.int .i64 p, .int .i64 l, .int .i64 r, .int .i64 a, .int .i64 (z + 1 + M), .int .i64 s, .bool h, .int .i64 t]] w fun e w' => e = .returned (.int .i64 2) ∧ Below w.heap.size w w')) (hn : (l + r == 0) = false) (hn1 : 1 ≤ l + r) (f1 : 1 ≤ e9) (q0 : 0 ≤ q) (q9 : q ≤ 100000000) (g1 : (q * (l + r) != 500 * p * e9) = false) (g2 : a * e9 ≤ q) (g3 : b * e9 ≤ q) (g4 : 0 ≤ a * e9) (g5 : 0 ≤ b * e9) (g6 : 0 ≤ q * (l + r)) (g7 : q * (l + r) ≤ 100000000 * 6000) (g8 : 0 ≤ 500 * p * e9) (g9 : 500 * p * e9 ≤ 100000000 * 6000) (hz : q / e9 = z) (hz2 : q.tdiv e9 = z) (z0 : 0 ≤ z) (z9 : z ≤ 100000000) (hbig : ¬ 200000 < z) (hzb : (z + b == 0) = true) :
    Calls Try.prog 9 #[.agg #[.int .u16 xp, .int .u16 xl, .int .u16 xr, .int .u16 xa, .int .u16 xb, .int .u8 xs, .int .u8 xt, .bool xh], .int .u16 M] w fun e w' => e = .returned (.bool true) ∧ Below w.heap.size w w' := by
  have qR := eqR
  have nR := neqR
  have gR := guardR
  go_enter Try.func9, Try.ntmps9
  go_wp2_with fail
  refine (HFm.out _).mono ?_
  rintro e w1 ⟨rfl, hb1⟩
  have hB1 : Below w.heap.size w w1 := stepB (by go_grown) hb1
  have hs1 := hB1.size
  clear hb1
  go_wp2_with fail
  refine (HS.out _).mono ?_
  rintro e w2 ⟨rfl, hb2⟩
  have F2 : Box w2 w1.heap.size #[.int .i64 p, .int .i64 l, .int .i64 r, .int .i64 a, .int .i64 b, .int .i64 s, .bool h, .int .i64 t] := Box.below (Box.new w1 _ _) hb2
  have hB2 : Below w.heap.size w w2 := stepB (by go_grown) hb2
  have hs2 := hB2.size
  clear hb2 hB1 hs1
  have cF := F2.2.1
  have lF := F2.1
  go_wp2_with fail
  refine (HC.out _).mono ?_
  rintro e w3 ⟨rfl, hb3⟩
  have F3 : Box w3 w1.heap.size #[.int .i64 p, .int .i64 l, .int .i64 r, .int .i64 a, .int .i64 b, .int .i64 s, .bool h, .int .i64 t] := Box.below (Box.alloc (Box.alloc (Box.alloc F2 _) _) _) hb3
  have S3 : Box w3 w2.heap.size #[.int .i64 q, .int .i64 e9] := Box.below (Box.alloc (Box.alloc (Box.new w2 _ _) _) _) hb3
  have A3 : Box w3 (w2.heap.size + 1) #[.int .i64 p, .int .i64 l, .int .i64 r, .int .i64 (z + 1 + M), .int .i64 b, .int .i64 s, .bool h, .int .i64 t] := Box.below (Box.alloc (Box.newAt (w2.alloc _) _ _ (by simp)) _) hb3
  have D3 : Box w3 (w2.heap.size + 1 + 1) #[.int .i64 p, .int .i64 l, .int .i64 r, .int .i64 a, .int .i64 (z + 1 + M), .int .i64 s, .bool h, .int .i64 t] := Box.below (Box.newAt ((w2.alloc _).alloc _) _ _ (by simp)) hb3
  have hB3 : Below w.heap.size w w3 := stepB (by go_grown) hb3
  have hs3 := hB3.size
  clear hb3 hB2 hs2 F2 cF lF
  have cF := F3.2.1
  have lF := F3.1
  have cS := S3.2.1
  have lS := S3.1
  have cD := D3.2.1
  have lD := D3.1
  go_wp2_with fail
  refine (HD.out _).mono ?_
  rintro e w4 ⟨rfl, hb4⟩
  have F4 : Box w4 w1.heap.size #[.int .i64 p, .int .i64 l, .int .i64 r, .int .i64 a, .int .i64 b, .int .i64 s, .bool h, .int .i64 t] := Box.below F3 hb4
  have S4 : Box w4 w2.heap.size #[.int .i64 q, .int .i64 e9] := Box.below S3 hb4
  have A4 : Box w4 (w2.heap.size + 1) #[.int .i64 p, .int .i64 l, .int .i64 r, .int .i64 (z + 1 + M), .int .i64 b, .int .i64 s, .bool h, .int .i64 t] := Box.below A3 hb4
  have D4 : Box w4 (w2.heap.size + 1 + 1) #[.int .i64 p, .int .i64 l, .int .i64 r, .int .i64 a, .int .i64 (z + 1 + M), .int .i64 s, .bool h, .int .i64 t] := Box.below D3 hb4
  have hB4 : Below w.heap.size w w4 := stepB (by go_grown) hb4
  have hs4 := hB4.size
  clear hb4 hB3 hs3 F3 S3 A3 D3 cD lD cF lF cS lS
  have cF := F4.2.1
  have lF := F4.1
  have cS := S4.2.1
  have lS := S4.1
  have cD := D4.2.1
  have lD := D4.1
  go_wp2_with fail
  refine (known_any _).mono ?_
  rintro e w9 ⟨rfl, hb9⟩
  have hB9 : Below w.heap.size w w9 := stepB (by go_grown) hb9
  clear hb9
  go_wp2
  go_returns
  exact ⟨rfl, hB9⟩

end Go.Proofs.Ytloleaahelmdjaa
