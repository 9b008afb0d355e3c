/- ThreadRoom: its ways. Made by tools/gen_roomlaw.py. -/
import Derived.Test.YtloleaahelmdjaaLaw2
import Derived.Test.YtloleaahelmdjaaLies
namespace Go.Proofs.Ytloleaahelmdjaa
open Go.ChangeShapes Go.WideShapes Go.ChangeAt Go.RowKit
set_option linter.unusedVariables false
set_option linter.unusedSimpArgs false

set_option maxRecDepth 100000 in
set_option maxHeartbeats 4000000 in
theorem room_way_none (xp xl xr xa xb xs xt : Int) (xh : Bool) (x0 x1 y0 y1 y2 y3 : Int) (p l r a b s t : Int) (h : Bool) (lb rb P Q lo hi : Int)  (HFm : Hid (∀ w : World, Calls Try.prog 37 #[.agg #[.int .u16 xp, .int .u16 xl, .int .u16 xr, .int .u16 xa, .int .u16 xb, .int .u8 xs, .int .u8 xt, .bool xh]] w fun e w' => e = .returned (.agg #[.int .i64 p, .int .i64 l, .int .i64 r, .int .i64 a, .int .i64 b, .int .i64 s, .bool h, .int .i64 t]) ∧ Below w.heap.size w w')) (b10 : 0 ≤ x0 ∧ x0 ≤ 65535) (b11 : 0 ≤ x1 ∧ x1 ≤ 65535) (b12 : 0 ≤ y0 ∧ y0 ≤ 65535) (b13 : 0 ≤ y1 ∧ y1 ≤ 65535) (b14 : 0 ≤ y2 ∧ y2 ≤ 65535) (b15 : 0 ≤ y3 ∧ y3 ≤ 65535) (hlb : x0 % 1200 = lb) (hlb2 : x0.tmod 1200 = lb) (hrb : x1 % 1200 = rb) (hrb2 : x1.tmod 1200 = rb) (hP : y0 - 30000 = P) (hQ : y1 - 30000 = Q) (hP2 : IntKind.i64.wrap (y0 - 30000) = P) (hQ2 : IntKind.i64.wrap (y1 - 30000) = Q) (wy0 : IntKind.i64.wrap y0 = y0) (wy1 : IntKind.i64.wrap y1 = y1) (wy2 : IntKind.i64.wrap y2 = y2) (wy3 : IntKind.i64.wrap y3 = y3) (wP : IntKind.i64.wrap P = P) (wQ : IntKind.i64.wrap Q = Q) (hmin : min P Q = lo) (hmax : max P Q = hi) (l0 : 0 ≤ l) (l1 : l ≤ 3000) (r0 : 0 ≤ r) (r1 : r ≤ 3000) (HS : Hid (∀ w : World, Calls Try.prog 27 #[.agg #[.int .i64 p, .int .i64 l, .int .i64 r, .int .i64 a, .int .i64 b, .int .i64 s, .bool h, .int .i64 t], .agg #[.int .i64 p, .int .i64 l, .int .i64 r, .int .i64 a, .int .i64 b, .int .i64 s, .bool h, .int .i64 t], .agg #[.int .i64 lo, .int .i64 hi]] w fun e w' => e = .returned (.tuple #[.int .i64 0, .int .i64 0]) ∧ Below w.heap.size w w')) (HK : Hid (∀ w : World, Calls Try.prog 14 #[.agg #[.int .i64 p, .int .i64 lb, .int .i64 rb, .int .i64 0, .int .i64 1, .int .i64 s, .bool h, .int .i64 t]] w fun e w' => e = .returned (.int .i64 0) ∧ Below w.heap.size w w')) (hlr : (l + r == 0) = true) (HR : Hid (∀ w : World, Calls Try.prog 27 #[.agg #[.int .i64 p, .int .i64 l, .int .i64 r, .int .i64 a, .int .i64 b, .int .i64 s, .bool h, .int .i64 t], .agg #[.int .i64 p, .int .i64 lb, .int .i64 rb, .int .i64 0, .int .i64 1, .int .i64 s, .bool h, .int .i64 t], .agg #[.int .i64 lo, .int .i64 hi]] w fun e w' => e = .returned (.tuple #[.int .i64 0, .int .i64 7]) ∧ Below w.heap.size w w')) (H0 : Hid (∀ w : World, Calls Try.prog 40 #[.agg #[.int .i64 p, .int .i64 l, .int .i64 r, .int .i64 a, .int .i64 b, .int .i64 s, .bool h, .int .i64 t], .agg #[.int .i64 p, .int .i64 lb, .int .i64 rb, .int .i64 0, .int .i64 1, .int .i64 s, .bool h, .int .i64 t], .agg #[.int .i64 lo, .int .i64 hi], .int .i64 0] w fun e w' => e = .returned (.bool false) ∧ Below w.heap.size w w')) (H1 : Hid (∀ w : World, Calls Try.prog 40 #[.agg #[.int .i64 p, .int .i64 l, .int .i64 r, .int .i64 a, .int .i64 b, .int .i64 s, .bool h, .int .i64 t], .agg #[.int .i64 p, .int .i64 lb, .int .i64 rb, .int .i64 0, .int .i64 1, .int .i64 s, .bool h, .int .i64 t], .agg #[.int .i64 lo, .int .i64 hi], .int .i64 100000] w fun e w' => e = .returned (.bool false) ∧ Below w.heap.size w w')) (w : World) :
    Calls Try.prog 12 #[.agg #[.int .u16 xp, .int .u16 xl, .int .u16 xr, .int .u16 xa, .int .u16 xb, .int .u8 xs, .int .u8 xt, .bool xh], .agg #[.int .u16 x0, .int .u16 x1], .agg #[.int .u16 y0, .int .u16 y1, .int .u16 y2, .int .u16 y3]] w fun e w' => e = .returned (.bool true) ∧ Below w.heap.size w w' := by
  obtain ⟨b10, b10x⟩ := b10
  obtain ⟨b11, b11x⟩ := b11
  obtain ⟨b12, b12x⟩ := b12
  obtain ⟨b13, b13x⟩ := b13
  obtain ⟨b14, b14x⟩ := b14
  obtain ⟨b15, b15x⟩ := b15
  go_enter Try.func12, Try.ntmps12
  go_wp2_with fail
  refine (HFm.out _).mono ?_
  rintro e w1 ⟨rfl, hb1⟩
  have Xb4_1 : Box w1 (w.heap.size + 1) #[.int .u16 x0, .int .u16 x1] := Box.below (Box.alloc (Box.newAt (w.alloc _) _ _ (by simp)) _) hb1
  have Xb5_1 : Box w1 (w.heap.size + 1 + 1) #[.int .u16 y0, .int .u16 y1, .int .u16 y2, .int .u16 y3] := Box.below (Box.newAt ((w.alloc _).alloc _) _ _ (by simp)) hb1
  have hB1 : Below w.heap.size w w1 := stepB (by go_grown) hb1
  have hs1 := hB1.size
  clear hb1
  have cc4 := Xb4_1.2.1
  have ll4 := Xb4_1.1
  have lm4_0 : w.heap.size < w1.heap.size := by have := ll4; omega
  go_wp2_with fail
  go_region
  go_wp2
  have Yb5 : Box (((w1.alloc (.cells #[.int .i64 p, .int .i64 l, .int .i64 r, .int .i64 a, .int .i64 b, .int .i64 s, .bool h, .int .i64 t] 23)).alloc (.cells #[.int .i64 p, .int .i64 lb, .int .i64 rb, .int .i64 0, .int .i64 1, .int .i64 s, .bool h, .int .i64 t] 23)).drew) (w.heap.size + 1 + 1) #[.int .u16 y0, .int .u16 y1, .int .u16 y2, .int .u16 y3] := (Box.alloc (Box.alloc Xb5_1 _) _).drew
  have Yb7 : Box (((w1.alloc (.cells #[.int .i64 p, .int .i64 l, .int .i64 r, .int .i64 a, .int .i64 b, .int .i64 s, .bool h, .int .i64 t] 23)).alloc (.cells #[.int .i64 p, .int .i64 lb, .int .i64 rb, .int .i64 0, .int .i64 1, .int .i64 s, .bool h, .int .i64 t] 23)).drew) w1.heap.size #[.int .i64 p, .int .i64 l, .int .i64 r, .int .i64 a, .int .i64 b, .int .i64 s, .bool h, .int .i64 t] := (Box.alloc (Box.new w1 _ _) _).drew
  have Yb8 : Box (((w1.alloc (.cells #[.int .i64 p, .int .i64 l, .int .i64 r, .int .i64 a, .int .i64 b, .int .i64 s, .bool h, .int .i64 t] 23)).alloc (.cells #[.int .i64 p, .int .i64 lb, .int .i64 rb, .int .i64 0, .int .i64 1, .int .i64 s, .bool h, .int .i64 t] 23)).drew) (w1.heap.size + 1) #[.int .i64 p, .int .i64 lb, .int .i64 rb, .int .i64 0, .int .i64 1, .int .i64 s, .bool h, .int .i64 t] := (Box.newAt (w1.alloc _) _ _ (by simp)).drew
  have hBX : Below w.heap.size w (((w1.alloc (.cells #[.int .i64 p, .int .i64 l, .int .i64 r, .int .i64 a, .int .i64 b, .int .i64 s, .bool h, .int .i64 t] 23)).alloc (.cells #[.int .i64 p, .int .i64 lb, .int .i64 rb, .int .i64 0, .int .i64 1, .int .i64 s, .bool h, .int .i64 t] 23)).drew) := by go_grown
  clear hB1 hs1 Xb4_1 Xb5_1 cc4 ll4 lm4_0
  generalize (((w1.alloc (.cells #[.int .i64 p, .int .i64 l, .int .i64 r, .int .i64 a, .int .i64 b, .int .i64 s, .bool h, .int .i64 t] 23)).alloc (.cells #[.int .i64 p, .int .i64 lb, .int .i64 rb, .int .i64 0, .int .i64 1, .int .i64 s, .bool h, .int .i64 t] 23)).drew) = XW1 at *
  have hsX := hBX.size
  have rd5 := fun d os => (Yb5.regrown d os).2.1
  have Zb7 := Lib.hid Yb7
  have Zb8 := Lib.hid Yb8
  clear Yb5 Yb7 Yb8
  refine wp_region_quiet_below (by kernel_rfl) (by kernel_rfl) ?_
  repeat ((with_reducible refine wpQuiet_step (fun K hK => ?_)); go_simp; first | ((with_reducible refine hK _ ?_); clear hK K) | (apply Exists.intro; refine ⟨fun _ => ?_, hK _ ?_⟩; fail; clear hK K))
  with_reducible refine wpQuiet_nil ?_
  intro w2 hw'
  obtain ⟨⟨dq, osq⟩, hw''⟩ := hw'
  have hb2 : Below XW1.heap.size XW1 w2 := by rw [hw'']; exact below_regrown XW1 dq osq
  have Xb7_2 : Box w2 w1.heap.size #[.int .i64 p, .int .i64 l, .int .i64 r, .int .i64 a, .int .i64 b, .int .i64 s, .bool h, .int .i64 t] := Zb7.out.below hb2
  have Xb8_2 : Box w2 (w1.heap.size + 1) #[.int .i64 p, .int .i64 lb, .int .i64 rb, .int .i64 0, .int .i64 1, .int .i64 s, .bool h, .int .i64 t] := Zb8.out.below hb2
  have hB2 : Below w.heap.size w w2 := stepB hBX hb2
  have hs2 := hB2.size
  clear hw'' hb2 hBX hsX rd5 Zb7 Zb8
  have cc7 := Xb7_2.2.1
  have ll7 := Xb7_2.1
  have cc8 := Xb8_2.2.1
  have ll8 := Xb8_2.1
  have lm8_0 : w1.heap.size < w2.heap.size := by have := ll8; omega
  go_wp2_with fail
  refine (HR.out _).mono ?_
  rintro e w3 ⟨rfl, hb3⟩
  have Xb7_3 : Box w3 w1.heap.size #[.int .i64 p, .int .i64 l, .int .i64 r, .int .i64 a, .int .i64 b, .int .i64 s, .bool h, .int .i64 t] := Box.below (Box.alloc Xb7_2 _) hb3
  have Xb8_3 : Box w3 (w1.heap.size + 1) #[.int .i64 p, .int .i64 lb, .int .i64 rb, .int .i64 0, .int .i64 1, .int .i64 s, .bool h, .int .i64 t] := Box.below (Box.alloc Xb8_2 _) hb3
  have Xb11_3 : Box w3 w2.heap.size #[.int .i64 lo, .int .i64 hi] := Box.below (Box.new w2 _ _) hb3
  have hB3 : Below w.heap.size w w3 := stepB (by go_grown) hb3
  have hs3 := hB3.size
  clear hb3 hB2 hs2 Xb7_2 Xb8_2 cc7 ll7 cc8 ll8 lm8_0
  have cc7 := Xb7_3.2.1
  have ll7 := Xb7_3.1
  have cc11 := Xb11_3.2.1
  have ll11 := Xb11_3.1
  go_wp2_with fail
  refine (HS.out _).mono ?_
  rintro e w4 ⟨rfl, hb4⟩
  have Xb7_4 : Box w4 w1.heap.size #[.int .i64 p, .int .i64 l, .int .i64 r, .int .i64 a, .int .i64 b, .int .i64 s, .bool h, .int .i64 t] := Box.below Xb7_3 hb4
  have Xb8_4 : Box w4 (w1.heap.size + 1) #[.int .i64 p, .int .i64 lb, .int .i64 rb, .int .i64 0, .int .i64 1, .int .i64 s, .bool h, .int .i64 t] := Box.below Xb8_3 hb4
  have Xb11_4 : Box w4 w2.heap.size #[.int .i64 lo, .int .i64 hi] := Box.below Xb11_3 hb4
  have hB4 : Below w.heap.size w w4 := stepB (by go_grown) hb4
  have hs4 := hB4.size
  clear hb4 hB3 hs3 Xb7_3 Xb8_3 Xb11_3 cc7 ll7 cc11 ll11
  have cc8 := Xb8_4.2.1
  have ll8 := Xb8_4.1
  have lm8_0 : w1.heap.size < w4.heap.size := by have := ll8; omega
  go_wp2_with fail
  refine (HK.out _).mono ?_
  rintro e w5 ⟨rfl, hb5⟩
  have Xb7_5 : Box w5 w1.heap.size #[.int .i64 p, .int .i64 l, .int .i64 r, .int .i64 a, .int .i64 b, .int .i64 s, .bool h, .int .i64 t] := Box.below Xb7_4 hb5
  have Xb8_5 : Box w5 (w1.heap.size + 1) #[.int .i64 p, .int .i64 lb, .int .i64 rb, .int .i64 0, .int .i64 1, .int .i64 s, .bool h, .int .i64 t] := Box.below Xb8_4 hb5
  have Xb11_5 : Box w5 w2.heap.size #[.int .i64 lo, .int .i64 hi] := Box.below Xb11_4 hb5
  have hB5 : Below w.heap.size w w5 := stepB (by go_grown) hb5
  have hs5 := hB5.size
  clear hb5 hB4 hs4 Xb7_4 Xb8_4 Xb11_4 cc8 ll8 lm8_0
  have cc7 := Xb7_5.2.1
  have ll7 := Xb7_5.1
  have cc8 := Xb8_5.2.1
  have ll8 := Xb8_5.1
  have lm8_0 : w1.heap.size < w5.heap.size := by have := ll8; omega
  have cc11 := Xb11_5.2.1
  have ll11 := Xb11_5.1
  go_wp2_with fail
  refine (H0.out _).mono ?_
  rintro e w6 ⟨rfl, hb6⟩
  have Xb7_6 : Box w6 w1.heap.size #[.int .i64 p, .int .i64 l, .int .i64 r, .int .i64 a, .int .i64 b, .int .i64 s, .bool h, .int .i64 t] := Box.below Xb7_5 hb6
  have Xb8_6 : Box w6 (w1.heap.size + 1) #[.int .i64 p, .int .i64 lb, .int .i64 rb, .int .i64 0, .int .i64 1, .int .i64 s, .bool h, .int .i64 t] := Box.below Xb8_5 hb6
  have Xb11_6 : Box w6 w2.heap.size #[.int .i64 lo, .int .i64 hi] := Box.below Xb11_5 hb6
  have hB6 : Below w.heap.size w w6 := stepB (by go_grown) hb6
  have hs6 := hB6.size
  clear hb6 hB5 hs5 Xb7_5 Xb8_5 Xb11_5 cc7 ll7 cc8 ll8 lm8_0 cc11 ll11
  have cc7 := Xb7_6.2.1
  have ll7 := Xb7_6.1
  have cc8 := Xb8_6.2.1
  have ll8 := Xb8_6.1
  have lm8_0 : w1.heap.size < w6.heap.size := by have := ll8; omega
  have cc11 := Xb11_6.2.1
  have ll11 := Xb11_6.1
  go_wp2_with fail
  refine (H1.out _).mono ?_
  rintro e w7 ⟨rfl, hb7⟩
  have hB7 : Below w.heap.size w w7 := stepB (by go_grown) hb7
  have hs7 := hB7.size
  clear hb7 hB6 hs6 Xb7_6 Xb8_6 Xb11_6 cc7 ll7 cc8 ll8 lm8_0 cc11 ll11
  go_wp2_with fail
  refine (known_any _).mono ?_
  rintro e w8 ⟨rfl, hb8⟩
  have hB8 : Below w.heap.size w w8 := stepB (by go_grown) hb8
  have hs8 := hB8.size
  clear hb8 hB7 hs7
  go_wp2
  go_returns
  exact ⟨rfl, hB8⟩

set_option maxRecDepth 100000 in
set_option maxHeartbeats 4000000 in
theorem room_way_zero (xp xl xr xa xb xs xt : Int) (xh : Bool) (x0 x1 y0 y1 y2 y3 : Int) (p l r a b s t : Int) (h : Bool) (lb rb P Q lo hi : Int) (n m wd m2 m3 u v lo2 hi2 : Int) (HFm : Hid (∀ w : World, Calls Try.prog 37 #[.agg #[.int .u16 xp, .int .u16 xl, .int .u16 xr, .int .u16 xa, .int .u16 xb, .int .u8 xs, .int .u8 xt, .bool xh]] w fun e w' => e = .returned (.agg #[.int .i64 p, .int .i64 l, .int .i64 r, .int .i64 a, .int .i64 b, .int .i64 s, .bool h, .int .i64 t]) ∧ Below w.heap.size w w')) (b10 : 0 ≤ x0 ∧ x0 ≤ 65535) (b11 : 0 ≤ x1 ∧ x1 ≤ 65535) (b12 : 0 ≤ y0 ∧ y0 ≤ 65535) (b13 : 0 ≤ y1 ∧ y1 ≤ 65535) (b14 : 0 ≤ y2 ∧ y2 ≤ 65535) (b15 : 0 ≤ y3 ∧ y3 ≤ 65535) (hlb : x0 % 1200 = lb) (hlb2 : x0.tmod 1200 = lb) (hrb : x1 % 1200 = rb) (hrb2 : x1.tmod 1200 = rb) (hP : y0 - 30000 = P) (hQ : y1 - 30000 = Q) (hP2 : IntKind.i64.wrap (y0 - 30000) = P) (hQ2 : IntKind.i64.wrap (y1 - 30000) = Q) (wy0 : IntKind.i64.wrap y0 = y0) (wy1 : IntKind.i64.wrap y1 = y1) (wy2 : IntKind.i64.wrap y2 = y2) (wy3 : IntKind.i64.wrap y3 = y3) (wP : IntKind.i64.wrap P = P) (wQ : IntKind.i64.wrap Q = Q) (hmin : min P Q = lo) (hmax : max P Q = hi) (l0 : 0 ≤ l) (l1 : l ≤ 3000) (r0 : 0 ≤ r) (r1 : r ≤ 3000) (HS : Hid (∀ w : World, Calls Try.prog 27 #[.agg #[.int .i64 p, .int .i64 l, .int .i64 r, .int .i64 a, .int .i64 b, .int .i64 s, .bool h, .int .i64 t], .agg #[.int .i64 p, .int .i64 l, .int .i64 r, .int .i64 a, .int .i64 b, .int .i64 s, .bool h, .int .i64 t], .agg #[.int .i64 lo, .int .i64 hi]] w fun e w' => e = .returned (.tuple #[.int .i64 0, .int .i64 0]) ∧ Below w.heap.size w w')) (HK : Hid (∀ w : World, Calls Try.prog 14 #[.agg #[.int .i64 p, .int .i64 lb, .int .i64 rb, .int .i64 0, .int .i64 1, .int .i64 s, .bool h, .int .i64 t]] w fun e w' => e = .returned (.int .i64 0) ∧ Below w.heap.size w w'))  (HR : Hid (∀ w : World, Calls Try.prog 27 #[.agg #[.int .i64 p, .int .i64 l, .int .i64 r, .int .i64 a, .int .i64 b, .int .i64 s, .bool h, .int .i64 t], .agg #[.int .i64 p, .int .i64 lb, .int .i64 rb, .int .i64 0, .int .i64 1, .int .i64 s, .bool h, .int .i64 t], .agg #[.int .i64 lo, .int .i64 hi]] w fun e w' => e = .returned (.tuple #[.int .i64 0, .int .i64 0]) ∧ Below w.heap.size w w')) (H0 : Hid (∀ w : World, Calls Try.prog 40 #[.agg #[.int .i64 p, .int .i64 l, .int .i64 r, .int .i64 a, .int .i64 b, .int .i64 s, .bool h, .int .i64 t], .agg #[.int .i64 p, .int .i64 lb, .int .i64 rb, .int .i64 0, .int .i64 1, .int .i64 s, .bool h, .int .i64 t], .agg #[.int .i64 lo, .int .i64 hi], .int .i64 0] w fun e w' => e = .returned (.bool true) ∧ Below w.heap.size w w')) (HR2 : Hid (∀ w : World, Calls Try.prog 27 #[.agg #[.int .i64 p, .int .i64 l, .int .i64 r, .int .i64 a, .int .i64 b, .int .i64 s, .bool h, .int .i64 t], .agg #[.int .i64 p, .int .i64 lb, .int .i64 rb, .int .i64 0, .int .i64 1, .int .i64 s, .bool h, .int .i64 t], .agg #[.int .i64 lo2, .int .i64 hi2]] w fun e w' => e = .returned (.tuple #[.int .i64 m, .int .i64 0]) ∧ Below w.heap.size w w')) (H2 : Hid (∀ w : World, Calls Try.prog 40 #[.agg #[.int .i64 p, .int .i64 l, .int .i64 r, .int .i64 a, .int .i64 b, .int .i64 s, .bool h, .int .i64 t], .agg #[.int .i64 p, .int .i64 lb, .int .i64 rb, .int .i64 0, .int .i64 1, .int .i64 s, .bool h, .int .i64 t], .agg #[.int .i64 lo2, .int .i64 hi2], .int .i64 0] w fun e w' => e = .returned (.bool true) ∧ Below w.heap.size w w')) (wlo : IntKind.i64.wrap (hi - lo) = hi - lo) (hw1 : hi - lo + 1 = wd) (hw2 : IntKind.i64.wrap (hi - lo + 1) = wd) (hw3 : (wd == 0) = false) (hw4 : ¬ wd = 0) (hw5 : 1 ≤ wd) (hu1 : y2.tmod wd = m2) (hu5 : y2 % wd = m2) (hu2 : lo + m2 = u) (hu3 : IntKind.i64.wrap (lo + m2) = u) (hu4 : IntKind.i64.wrap m2 = m2) (hv1 : y3.tmod wd = m3) (hv5 : y3 % wd = m3) (hv2 : lo + m3 = v) (hv3 : IntKind.i64.wrap (lo + m3) = v) (hv4 : IntKind.i64.wrap m3 = m3) (hmin2 : min u v = lo2) (hmax2 : max u v = hi2) (wu : IntKind.i64.wrap u = u) (wv : IntKind.i64.wrap v = v) (hmn : decide (m ≤ 0) = true) (w : World) :
    Calls Try.prog 12 #[.agg #[.int .u16 xp, .int .u16 xl, .int .u16 xr, .int .u16 xa, .int .u16 xb, .int .u8 xs, .int .u8 xt, .bool xh], .agg #[.int .u16 x0, .int .u16 x1], .agg #[.int .u16 y0, .int .u16 y1, .int .u16 y2, .int .u16 y3]] w fun e w' => e = .returned (.bool true) ∧ Below w.heap.size w w' := by
  obtain ⟨b10, b10x⟩ := b10
  obtain ⟨b11, b11x⟩ := b11
  obtain ⟨b12, b12x⟩ := b12
  obtain ⟨b13, b13x⟩ := b13
  obtain ⟨b14, b14x⟩ := b14
  obtain ⟨b15, b15x⟩ := b15
  go_enter Try.func12, Try.ntmps12
  go_wp2_with fail
  refine (HFm.out _).mono ?_
  rintro e w1 ⟨rfl, hb1⟩
  have Xb4_1 : Box w1 (w.heap.size + 1) #[.int .u16 x0, .int .u16 x1] := Box.below (Box.alloc (Box.newAt (w.alloc _) _ _ (by simp)) _) hb1
  have Xb5_1 : Box w1 (w.heap.size + 1 + 1) #[.int .u16 y0, .int .u16 y1, .int .u16 y2, .int .u16 y3] := Box.below (Box.newAt ((w.alloc _).alloc _) _ _ (by simp)) hb1
  have hB1 : Below w.heap.size w w1 := stepB (by go_grown) hb1
  have hs1 := hB1.size
  clear hb1
  have cc4 := Xb4_1.2.1
  have ll4 := Xb4_1.1
  have lm4_0 : w.heap.size < w1.heap.size := by have := ll4; omega
  go_wp2_with fail
  go_region
  go_wp2
  have Yb5 : Box (((w1.alloc (.cells #[.int .i64 p, .int .i64 l, .int .i64 r, .int .i64 a, .int .i64 b, .int .i64 s, .bool h, .int .i64 t] 23)).alloc (.cells #[.int .i64 p, .int .i64 lb, .int .i64 rb, .int .i64 0, .int .i64 1, .int .i64 s, .bool h, .int .i64 t] 23)).drew) (w.heap.size + 1 + 1) #[.int .u16 y0, .int .u16 y1, .int .u16 y2, .int .u16 y3] := (Box.alloc (Box.alloc Xb5_1 _) _).drew
  have Yb7 : Box (((w1.alloc (.cells #[.int .i64 p, .int .i64 l, .int .i64 r, .int .i64 a, .int .i64 b, .int .i64 s, .bool h, .int .i64 t] 23)).alloc (.cells #[.int .i64 p, .int .i64 lb, .int .i64 rb, .int .i64 0, .int .i64 1, .int .i64 s, .bool h, .int .i64 t] 23)).drew) w1.heap.size #[.int .i64 p, .int .i64 l, .int .i64 r, .int .i64 a, .int .i64 b, .int .i64 s, .bool h, .int .i64 t] := (Box.alloc (Box.new w1 _ _) _).drew
  have Yb8 : Box (((w1.alloc (.cells #[.int .i64 p, .int .i64 l, .int .i64 r, .int .i64 a, .int .i64 b, .int .i64 s, .bool h, .int .i64 t] 23)).alloc (.cells #[.int .i64 p, .int .i64 lb, .int .i64 rb, .int .i64 0, .int .i64 1, .int .i64 s, .bool h, .int .i64 t] 23)).drew) (w1.heap.size + 1) #[.int .i64 p, .int .i64 lb, .int .i64 rb, .int .i64 0, .int .i64 1, .int .i64 s, .bool h, .int .i64 t] := (Box.newAt (w1.alloc _) _ _ (by simp)).drew
  have hBX : Below w.heap.size w (((w1.alloc (.cells #[.int .i64 p, .int .i64 l, .int .i64 r, .int .i64 a, .int .i64 b, .int .i64 s, .bool h, .int .i64 t] 23)).alloc (.cells #[.int .i64 p, .int .i64 lb, .int .i64 rb, .int .i64 0, .int .i64 1, .int .i64 s, .bool h, .int .i64 t] 23)).drew) := by go_grown
  clear hB1 hs1 Xb4_1 Xb5_1 cc4 ll4 lm4_0
  generalize (((w1.alloc (.cells #[.int .i64 p, .int .i64 l, .int .i64 r, .int .i64 a, .int .i64 b, .int .i64 s, .bool h, .int .i64 t] 23)).alloc (.cells #[.int .i64 p, .int .i64 lb, .int .i64 rb, .int .i64 0, .int .i64 1, .int .i64 s, .bool h, .int .i64 t] 23)).drew) = XW1 at *
  have hsX := hBX.size
  have rd5 := fun d os => (Yb5.regrown d os).2.1
  have Zb5 := Lib.hid Yb5
  have Zb7 := Lib.hid Yb7
  have Zb8 := Lib.hid Yb8
  clear Yb5 Yb7 Yb8
  refine wp_region_quiet_below (by kernel_rfl) (by kernel_rfl) ?_
  repeat ((with_reducible refine wpQuiet_step (fun K hK => ?_)); go_simp; first | ((with_reducible refine hK _ ?_); clear hK K) | (apply Exists.intro; refine ⟨fun _ => ?_, hK _ ?_⟩; fail; clear hK K))
  with_reducible refine wpQuiet_nil ?_
  intro w2 hw'
  obtain ⟨⟨dq, osq⟩, hw''⟩ := hw'
  have hb2 : Below XW1.heap.size XW1 w2 := by rw [hw'']; exact below_regrown XW1 dq osq
  have Xb5_2 : Box w2 (w.heap.size + 1 + 1) #[.int .u16 y0, .int .u16 y1, .int .u16 y2, .int .u16 y3] := Zb5.out.below hb2
  have Xb7_2 : Box w2 w1.heap.size #[.int .i64 p, .int .i64 l, .int .i64 r, .int .i64 a, .int .i64 b, .int .i64 s, .bool h, .int .i64 t] := Zb7.out.below hb2
  have Xb8_2 : Box w2 (w1.heap.size + 1) #[.int .i64 p, .int .i64 lb, .int .i64 rb, .int .i64 0, .int .i64 1, .int .i64 s, .bool h, .int .i64 t] := Zb8.out.below hb2
  have hB2 : Below w.heap.size w w2 := stepB hBX hb2
  have hs2 := hB2.size
  clear hw'' hb2 hBX hsX rd5 Zb5 Zb7 Zb8
  have cc7 := Xb7_2.2.1
  have ll7 := Xb7_2.1
  have cc8 := Xb8_2.2.1
  have ll8 := Xb8_2.1
  have lm8_0 : w1.heap.size < w2.heap.size := by have := ll8; omega
  go_wp2_with fail
  refine (HR.out _).mono ?_
  rintro e w3 ⟨rfl, hb3⟩
  have Xb5_3 : Box w3 (w.heap.size + 1 + 1) #[.int .u16 y0, .int .u16 y1, .int .u16 y2, .int .u16 y3] := Box.below (Box.alloc Xb5_2 _) hb3
  have Xb7_3 : Box w3 w1.heap.size #[.int .i64 p, .int .i64 l, .int .i64 r, .int .i64 a, .int .i64 b, .int .i64 s, .bool h, .int .i64 t] := Box.below (Box.alloc Xb7_2 _) hb3
  have Xb8_3 : Box w3 (w1.heap.size + 1) #[.int .i64 p, .int .i64 lb, .int .i64 rb, .int .i64 0, .int .i64 1, .int .i64 s, .bool h, .int .i64 t] := Box.below (Box.alloc Xb8_2 _) hb3
  have Xb11_3 : Box w3 w2.heap.size #[.int .i64 lo, .int .i64 hi] := Box.below (Box.new w2 _ _) hb3
  have hB3 : Below w.heap.size w w3 := stepB (by go_grown) hb3
  have hs3 := hB3.size
  clear hb3 hB2 hs2 Xb5_2 Xb7_2 Xb8_2 cc7 ll7 cc8 ll8 lm8_0
  have cc7 := Xb7_3.2.1
  have ll7 := Xb7_3.1
  have cc11 := Xb11_3.2.1
  have ll11 := Xb11_3.1
  go_wp2_with fail
  refine (HS.out _).mono ?_
  rintro e w4 ⟨rfl, hb4⟩
  have Xb5_4 : Box w4 (w.heap.size + 1 + 1) #[.int .u16 y0, .int .u16 y1, .int .u16 y2, .int .u16 y3] := Box.below Xb5_3 hb4
  have Xb7_4 : Box w4 w1.heap.size #[.int .i64 p, .int .i64 l, .int .i64 r, .int .i64 a, .int .i64 b, .int .i64 s, .bool h, .int .i64 t] := Box.below Xb7_3 hb4
  have Xb8_4 : Box w4 (w1.heap.size + 1) #[.int .i64 p, .int .i64 lb, .int .i64 rb, .int .i64 0, .int .i64 1, .int .i64 s, .bool h, .int .i64 t] := Box.below Xb8_3 hb4
  have Xb11_4 : Box w4 w2.heap.size #[.int .i64 lo, .int .i64 hi] := Box.below Xb11_3 hb4
  have hB4 : Below w.heap.size w w4 := stepB (by go_grown) hb4
  have hs4 := hB4.size
  clear hb4 hB3 hs3 Xb5_3 Xb7_3 Xb8_3 Xb11_3 cc7 ll7 cc11 ll11
  have cc8 := Xb8_4.2.1
  have ll8 := Xb8_4.1
  have lm8_0 : w1.heap.size < w4.heap.size := by have := ll8; omega
  go_wp2_with fail
  refine (HK.out _).mono ?_
  rintro e w5 ⟨rfl, hb5⟩
  have Xb5_5 : Box w5 (w.heap.size + 1 + 1) #[.int .u16 y0, .int .u16 y1, .int .u16 y2, .int .u16 y3] := Box.below Xb5_4 hb5
  have Xb7_5 : Box w5 w1.heap.size #[.int .i64 p, .int .i64 l, .int .i64 r, .int .i64 a, .int .i64 b, .int .i64 s, .bool h, .int .i64 t] := Box.below Xb7_4 hb5
  have Xb8_5 : Box w5 (w1.heap.size + 1) #[.int .i64 p, .int .i64 lb, .int .i64 rb, .int .i64 0, .int .i64 1, .int .i64 s, .bool h, .int .i64 t] := Box.below Xb8_4 hb5
  have Xb11_5 : Box w5 w2.heap.size #[.int .i64 lo, .int .i64 hi] := Box.below Xb11_4 hb5
  have hB5 : Below w.heap.size w w5 := stepB (by go_grown) hb5
  have hs5 := hB5.size
  clear hb5 hB4 hs4 Xb5_4 Xb7_4 Xb8_4 Xb11_4 cc8 ll8 lm8_0
  have cc7 := Xb7_5.2.1
  have ll7 := Xb7_5.1
  have cc8 := Xb8_5.2.1
  have ll8 := Xb8_5.1
  have lm8_0 : w1.heap.size < w5.heap.size := by have := ll8; omega
  have cc11 := Xb11_5.2.1
  have ll11 := Xb11_5.1
  go_wp2_with fail
  refine (H0.out _).mono ?_
  rintro e w6 ⟨rfl, hb6⟩
  have Xb5_6 : Box w6 (w.heap.size + 1 + 1) #[.int .u16 y0, .int .u16 y1, .int .u16 y2, .int .u16 y3] := Box.below Xb5_5 hb6
  have Xb7_6 : Box w6 w1.heap.size #[.int .i64 p, .int .i64 l, .int .i64 r, .int .i64 a, .int .i64 b, .int .i64 s, .bool h, .int .i64 t] := Box.below Xb7_5 hb6
  have Xb8_6 : Box w6 (w1.heap.size + 1) #[.int .i64 p, .int .i64 lb, .int .i64 rb, .int .i64 0, .int .i64 1, .int .i64 s, .bool h, .int .i64 t] := Box.below Xb8_5 hb6
  have Xb11_6 : Box w6 w2.heap.size #[.int .i64 lo, .int .i64 hi] := Box.below Xb11_5 hb6
  have hB6 : Below w.heap.size w w6 := stepB (by go_grown) hb6
  have hs6 := hB6.size
  clear hb6 hB5 hs5 Xb5_5 Xb7_5 Xb8_5 Xb11_5 cc7 ll7 cc8 ll8 lm8_0 cc11 ll11
  have cc7 := Xb7_6.2.1
  have ll7 := Xb7_6.1
  have cc8 := Xb8_6.2.1
  have ll8 := Xb8_6.1
  have lm8_0 : w1.heap.size < w6.heap.size := by have := ll8; omega
  have cc11 := Xb11_6.2.1
  have ll11 := Xb11_6.1
  go_wp2
  have Yb5 : Box w6 (w.heap.size + 1 + 1) #[.int .u16 y0, .int .u16 y1, .int .u16 y2, .int .u16 y3] := Xb5_6
  have Yb7 : Box w6 w1.heap.size #[.int .i64 p, .int .i64 l, .int .i64 r, .int .i64 a, .int .i64 b, .int .i64 s, .bool h, .int .i64 t] := Xb7_6
  have Yb8 : Box w6 (w1.heap.size + 1) #[.int .i64 p, .int .i64 lb, .int .i64 rb, .int .i64 0, .int .i64 1, .int .i64 s, .bool h, .int .i64 t] := Xb8_6
  have Yb11 : Box w6 w2.heap.size #[.int .i64 lo, .int .i64 hi] := Xb11_6
  have hBX : Below w.heap.size w w6 := by go_grown
  clear hB6 hs6 Xb5_6 Xb7_6 Xb8_6 Xb11_6 cc7 ll7 cc8 ll8 lm8_0 cc11 ll11
  have hsX := hBX.size
  have rd5 := fun d os => (Yb5.regrown d os).2.1
  have rd11 := fun d os => (Yb11.regrown d os).2.1
  have Zb7 := Lib.hid Yb7
  have Zb8 := Lib.hid Yb8
  clear Yb5 Yb7 Yb8 Yb11
  refine wp_region_quiet_below (by kernel_rfl) (by kernel_rfl) ?_
  repeat ((with_reducible refine wpQuiet_step (fun K hK => ?_)); go_simp; first | ((with_reducible refine hK _ ?_); clear hK K) | (apply Exists.intro; refine ⟨fun _ => ?_, hK _ ?_⟩; fail; clear hK K))
  with_reducible refine wpQuiet_nil ?_
  intro w7 hw'
  obtain ⟨⟨dq, osq⟩, hw''⟩ := hw'
  have hb7 : Below w6.heap.size w6 w7 := by rw [hw'']; exact below_regrown w6 dq osq
  have Xb7_7 : Box w7 w1.heap.size #[.int .i64 p, .int .i64 l, .int .i64 r, .int .i64 a, .int .i64 b, .int .i64 s, .bool h, .int .i64 t] := Zb7.out.below hb7
  have Xb8_7 : Box w7 (w1.heap.size + 1) #[.int .i64 p, .int .i64 lb, .int .i64 rb, .int .i64 0, .int .i64 1, .int .i64 s, .bool h, .int .i64 t] := Zb8.out.below hb7
  have hB7 : Below w.heap.size w w7 := stepB hBX hb7
  have hs7 := hB7.size
  clear hw'' hb7 hBX hsX rd5 rd11 Zb7 Zb8
  have cc7 := Xb7_7.2.1
  have ll7 := Xb7_7.1
  have cc8 := Xb8_7.2.1
  have ll8 := Xb8_7.1
  have lm8_0 : w1.heap.size < w7.heap.size := by have := ll8; omega
  go_wp2_with fail
  refine (HR2.out _).mono ?_
  rintro e w8 ⟨rfl, hb8⟩
  have Xb7_8 : Box w8 w1.heap.size #[.int .i64 p, .int .i64 l, .int .i64 r, .int .i64 a, .int .i64 b, .int .i64 s, .bool h, .int .i64 t] := Box.below (Box.alloc Xb7_7 _) hb8
  have Xb8_8 : Box w8 (w1.heap.size + 1) #[.int .i64 p, .int .i64 lb, .int .i64 rb, .int .i64 0, .int .i64 1, .int .i64 s, .bool h, .int .i64 t] := Box.below (Box.alloc Xb8_7 _) hb8
  have Xb19_8 : Box w8 w7.heap.size #[.int .i64 lo2, .int .i64 hi2] := Box.below (Box.new w7 _ _) hb8
  have hB8 : Below w.heap.size w w8 := stepB (by go_grown) hb8
  have hs8 := hB8.size
  clear hb8 hB7 hs7 Xb7_7 Xb8_7 cc7 ll7 cc8 ll8 lm8_0
  have cc7 := Xb7_8.2.1
  have ll7 := Xb7_8.1
  have cc8 := Xb8_8.2.1
  have ll8 := Xb8_8.1
  have lm8_0 : w1.heap.size < w8.heap.size := by have := ll8; omega
  have cc19 := Xb19_8.2.1
  have ll19 := Xb19_8.1
  go_wp2_with fail
  refine (H2.out _).mono ?_
  rintro e w9 ⟨rfl, hb9⟩
  have hB9 : Below w.heap.size w w9 := stepB (by go_grown) hb9
  have hs9 := hB9.size
  clear hb9 hB8 hs8 Xb7_8 Xb8_8 Xb19_8 cc7 ll7 cc8 ll8 lm8_0 cc19 ll19
  go_wp2_with fail
  refine (known_any _).mono ?_
  rintro e w10 ⟨rfl, hb10⟩
  have hB10 : Below w.heap.size w w10 := stepB (by go_grown) hb10
  have hs10 := hB10.size
  clear hb10 hB9 hs9
  go_wp2
  go_returns
  exact ⟨rfl, hB10⟩

set_option maxRecDepth 100000 in
set_option maxHeartbeats 4000000 in
theorem room_way_good (xp xl xr xa xb xs xt : Int) (xh : Bool) (x0 x1 y0 y1 y2 y3 : Int) (p l r a b s t : Int) (h : Bool) (lb rb P Q lo hi : Int) (n m wd m2 m3 u v lo2 hi2 : Int) (HFm : Hid (∀ w : World, Calls Try.prog 37 #[.agg #[.int .u16 xp, .int .u16 xl, .int .u16 xr, .int .u16 xa, .int .u16 xb, .int .u8 xs, .int .u8 xt, .bool xh]] w fun e w' => e = .returned (.agg #[.int .i64 p, .int .i64 l, .int .i64 r, .int .i64 a, .int .i64 b, .int .i64 s, .bool h, .int .i64 t]) ∧ Below w.heap.size w w')) (b10 : 0 ≤ x0 ∧ x0 ≤ 65535) (b11 : 0 ≤ x1 ∧ x1 ≤ 65535) (b12 : 0 ≤ y0 ∧ y0 ≤ 65535) (b13 : 0 ≤ y1 ∧ y1 ≤ 65535) (b14 : 0 ≤ y2 ∧ y2 ≤ 65535) (b15 : 0 ≤ y3 ∧ y3 ≤ 65535) (hlb : x0 % 1200 = lb) (hlb2 : x0.tmod 1200 = lb) (hrb : x1 % 1200 = rb) (hrb2 : x1.tmod 1200 = rb) (hP : y0 - 30000 = P) (hQ : y1 - 30000 = Q) (hP2 : IntKind.i64.wrap (y0 - 30000) = P) (hQ2 : IntKind.i64.wrap (y1 - 30000) = Q) (wy0 : IntKind.i64.wrap y0 = y0) (wy1 : IntKind.i64.wrap y1 = y1) (wy2 : IntKind.i64.wrap y2 = y2) (wy3 : IntKind.i64.wrap y3 = y3) (wP : IntKind.i64.wrap P = P) (wQ : IntKind.i64.wrap Q = Q) (hmin : min P Q = lo) (hmax : max P Q = hi) (l0 : 0 ≤ l) (l1 : l ≤ 3000) (r0 : 0 ≤ r) (r1 : r ≤ 3000) (HS : Hid (∀ w : World, Calls Try.prog 27 #[.agg #[.int .i64 p, .int .i64 l, .int .i64 r, .int .i64 a, .int .i64 b, .int .i64 s, .bool h, .int .i64 t], .agg #[.int .i64 p, .int .i64 l, .int .i64 r, .int .i64 a, .int .i64 b, .int .i64 s, .bool h, .int .i64 t], .agg #[.int .i64 lo, .int .i64 hi]] w fun e w' => e = .returned (.tuple #[.int .i64 0, .int .i64 0]) ∧ Below w.heap.size w w')) (HK : Hid (∀ w : World, Calls Try.prog 14 #[.agg #[.int .i64 p, .int .i64 lb, .int .i64 rb, .int .i64 0, .int .i64 1, .int .i64 s, .bool h, .int .i64 t]] w fun e w' => e = .returned (.int .i64 0) ∧ Below w.heap.size w w')) (n0 : 1 ≤ n) (n1 : n ≤ 1200000000) (H1 : Hid (∀ w : World, Calls Try.prog 40 #[.agg #[.int .i64 p, .int .i64 l, .int .i64 r, .int .i64 a, .int .i64 b, .int .i64 s, .bool h, .int .i64 t], .agg #[.int .i64 p, .int .i64 lb, .int .i64 rb, .int .i64 0, .int .i64 1, .int .i64 s, .bool h, .int .i64 t], .agg #[.int .i64 lo, .int .i64 hi], .int .i64 (n - 1)] w fun e w' => e = .returned (.bool false) ∧ Below w.heap.size w w')) (HR : Hid (∀ w : World, Calls Try.prog 27 #[.agg #[.int .i64 p, .int .i64 l, .int .i64 r, .int .i64 a, .int .i64 b, .int .i64 s, .bool h, .int .i64 t], .agg #[.int .i64 p, .int .i64 lb, .int .i64 rb, .int .i64 0, .int .i64 1, .int .i64 s, .bool h, .int .i64 t], .agg #[.int .i64 lo, .int .i64 hi]] w fun e w' => e = .returned (.tuple #[.int .i64 n, .int .i64 0]) ∧ Below w.heap.size w w')) (H0 : Hid (∀ w : World, Calls Try.prog 40 #[.agg #[.int .i64 p, .int .i64 l, .int .i64 r, .int .i64 a, .int .i64 b, .int .i64 s, .bool h, .int .i64 t], .agg #[.int .i64 p, .int .i64 lb, .int .i64 rb, .int .i64 0, .int .i64 1, .int .i64 s, .bool h, .int .i64 t], .agg #[.int .i64 lo, .int .i64 hi], .int .i64 n] w fun e w' => e = .returned (.bool true) ∧ Below w.heap.size w w')) (HR2 : Hid (∀ w : World, Calls Try.prog 27 #[.agg #[.int .i64 p, .int .i64 l, .int .i64 r, .int .i64 a, .int .i64 b, .int .i64 s, .bool h, .int .i64 t], .agg #[.int .i64 p, .int .i64 lb, .int .i64 rb, .int .i64 0, .int .i64 1, .int .i64 s, .bool h, .int .i64 t], .agg #[.int .i64 lo2, .int .i64 hi2]] w fun e w' => e = .returned (.tuple #[.int .i64 m, .int .i64 0]) ∧ Below w.heap.size w w')) (H2 : Hid (∀ w : World, Calls Try.prog 40 #[.agg #[.int .i64 p, .int .i64 l, .int .i64 r, .int .i64 a, .int .i64 b, .int .i64 s, .bool h, .int .i64 t], .agg #[.int .i64 p, .int .i64 lb, .int .i64 rb, .int .i64 0, .int .i64 1, .int .i64 s, .bool h, .int .i64 t], .agg #[.int .i64 lo2, .int .i64 hi2], .int .i64 n] w fun e w' => e = .returned (.bool true) ∧ Below w.heap.size w w')) (wlo : IntKind.i64.wrap (hi - lo) = hi - lo) (hw1 : hi - lo + 1 = wd) (hw2 : IntKind.i64.wrap (hi - lo + 1) = wd) (hw3 : (wd == 0) = false) (hw4 : ¬ wd = 0) (hw5 : 1 ≤ wd) (hu1 : y2.tmod wd = m2) (hu5 : y2 % wd = m2) (hu2 : lo + m2 = u) (hu3 : IntKind.i64.wrap (lo + m2) = u) (hu4 : IntKind.i64.wrap m2 = m2) (hv1 : y3.tmod wd = m3) (hv5 : y3 % wd = m3) (hv2 : lo + m3 = v) (hv3 : IntKind.i64.wrap (lo + m3) = v) (hv4 : IntKind.i64.wrap m3 = m3) (hmin2 : min u v = lo2) (hmax2 : max u v = hi2) (wu : IntKind.i64.wrap u = u) (wv : IntKind.i64.wrap v = v) (hmn : decide (m ≤ n) = true) (w : World) :
    Calls Try.prog 12 #[.agg #[.int .u16 xp, .int .u16 xl, .int .u16 xr, .int .u16 xa, .int .u16 xb, .int .u8 xs, .int .u8 xt, .bool xh], .agg #[.int .u16 x0, .int .u16 x1], .agg #[.int .u16 y0, .int .u16 y1, .int .u16 y2, .int .u16 y3]] w fun e w' => e = .returned (.bool true) ∧ Below w.heap.size w w' := by
  obtain ⟨b10, b10x⟩ := b10
  obtain ⟨b11, b11x⟩ := b11
  obtain ⟨b12, b12x⟩ := b12
  obtain ⟨b13, b13x⟩ := b13
  obtain ⟨b14, b14x⟩ := b14
  obtain ⟨b15, b15x⟩ := b15
  have d1 : decide (n < 0) = false := decide_eq_false (by omega)
  have d2 : decide (0 < n) = true := decide_eq_true (by omega)
  go_enter Try.func12, Try.ntmps12
  go_wp2_with fail
  refine (HFm.out _).mono ?_
  rintro e w1 ⟨rfl, hb1⟩
  have Xb4_1 : Box w1 (w.heap.size + 1) #[.int .u16 x0, .int .u16 x1] := Box.below (Box.alloc (Box.newAt (w.alloc _) _ _ (by simp)) _) hb1
  have Xb5_1 : Box w1 (w.heap.size + 1 + 1) #[.int .u16 y0, .int .u16 y1, .int .u16 y2, .int .u16 y3] := Box.below (Box.newAt ((w.alloc _).alloc _) _ _ (by simp)) hb1
  have hB1 : Below w.heap.size w w1 := stepB (by go_grown) hb1
  have hs1 := hB1.size
  clear hb1
  have cc4 := Xb4_1.2.1
  have ll4 := Xb4_1.1
  have lm4_0 : w.heap.size < w1.heap.size := by have := ll4; omega
  go_wp2_with fail
  go_region
  go_wp2
  have Yb5 : Box (((w1.alloc (.cells #[.int .i64 p, .int .i64 l, .int .i64 r, .int .i64 a, .int .i64 b, .int .i64 s, .bool h, .int .i64 t] 23)).alloc (.cells #[.int .i64 p, .int .i64 lb, .int .i64 rb, .int .i64 0, .int .i64 1, .int .i64 s, .bool h, .int .i64 t] 23)).drew) (w.heap.size + 1 + 1) #[.int .u16 y0, .int .u16 y1, .int .u16 y2, .int .u16 y3] := (Box.alloc (Box.alloc Xb5_1 _) _).drew
  have Yb7 : Box (((w1.alloc (.cells #[.int .i64 p, .int .i64 l, .int .i64 r, .int .i64 a, .int .i64 b, .int .i64 s, .bool h, .int .i64 t] 23)).alloc (.cells #[.int .i64 p, .int .i64 lb, .int .i64 rb, .int .i64 0, .int .i64 1, .int .i64 s, .bool h, .int .i64 t] 23)).drew) w1.heap.size #[.int .i64 p, .int .i64 l, .int .i64 r, .int .i64 a, .int .i64 b, .int .i64 s, .bool h, .int .i64 t] := (Box.alloc (Box.new w1 _ _) _).drew
  have Yb8 : Box (((w1.alloc (.cells #[.int .i64 p, .int .i64 l, .int .i64 r, .int .i64 a, .int .i64 b, .int .i64 s, .bool h, .int .i64 t] 23)).alloc (.cells #[.int .i64 p, .int .i64 lb, .int .i64 rb, .int .i64 0, .int .i64 1, .int .i64 s, .bool h, .int .i64 t] 23)).drew) (w1.heap.size + 1) #[.int .i64 p, .int .i64 lb, .int .i64 rb, .int .i64 0, .int .i64 1, .int .i64 s, .bool h, .int .i64 t] := (Box.newAt (w1.alloc _) _ _ (by simp)).drew
  have hBX : Below w.heap.size w (((w1.alloc (.cells #[.int .i64 p, .int .i64 l, .int .i64 r, .int .i64 a, .int .i64 b, .int .i64 s, .bool h, .int .i64 t] 23)).alloc (.cells #[.int .i64 p, .int .i64 lb, .int .i64 rb, .int .i64 0, .int .i64 1, .int .i64 s, .bool h, .int .i64 t] 23)).drew) := by go_grown
  clear hB1 hs1 Xb4_1 Xb5_1 cc4 ll4 lm4_0
  generalize (((w1.alloc (.cells #[.int .i64 p, .int .i64 l, .int .i64 r, .int .i64 a, .int .i64 b, .int .i64 s, .bool h, .int .i64 t] 23)).alloc (.cells #[.int .i64 p, .int .i64 lb, .int .i64 rb, .int .i64 0, .int .i64 1, .int .i64 s, .bool h, .int .i64 t] 23)).drew) = XW1 at *
  have hsX := hBX.size
  have rd5 := fun d os => (Yb5.regrown d os).2.1
  have Zb5 := Lib.hid Yb5
  have Zb7 := Lib.hid Yb7
  have Zb8 := Lib.hid Yb8
  clear Yb5 Yb7 Yb8
  refine wp_region_quiet_below (by kernel_rfl) (by kernel_rfl) ?_
  repeat ((with_reducible refine wpQuiet_step (fun K hK => ?_)); go_simp; first | ((with_reducible refine hK _ ?_); clear hK K) | (apply Exists.intro; refine ⟨fun _ => ?_, hK _ ?_⟩; fail; clear hK K))
  with_reducible refine wpQuiet_nil ?_
  intro w2 hw'
  obtain ⟨⟨dq, osq⟩, hw''⟩ := hw'
  have hb2 : Below XW1.heap.size XW1 w2 := by rw [hw'']; exact below_regrown XW1 dq osq
  have Xb5_2 : Box w2 (w.heap.size + 1 + 1) #[.int .u16 y0, .int .u16 y1, .int .u16 y2, .int .u16 y3] := Zb5.out.below hb2
  have Xb7_2 : Box w2 w1.heap.size #[.int .i64 p, .int .i64 l, .int .i64 r, .int .i64 a, .int .i64 b, .int .i64 s, .bool h, .int .i64 t] := Zb7.out.below hb2
  have Xb8_2 : Box w2 (w1.heap.size + 1) #[.int .i64 p, .int .i64 lb, .int .i64 rb, .int .i64 0, .int .i64 1, .int .i64 s, .bool h, .int .i64 t] := Zb8.out.below hb2
  have hB2 : Below w.heap.size w w2 := stepB hBX hb2
  have hs2 := hB2.size
  clear hw'' hb2 hBX hsX rd5 Zb5 Zb7 Zb8
  have cc7 := Xb7_2.2.1
  have ll7 := Xb7_2.1
  have cc8 := Xb8_2.2.1
  have ll8 := Xb8_2.1
  have lm8_0 : w1.heap.size < w2.heap.size := by have := ll8; omega
  go_wp2_with fail
  refine (HR.out _).mono ?_
  rintro e w3 ⟨rfl, hb3⟩
  have Xb5_3 : Box w3 (w.heap.size + 1 + 1) #[.int .u16 y0, .int .u16 y1, .int .u16 y2, .int .u16 y3] := Box.below (Box.alloc Xb5_2 _) hb3
  have Xb7_3 : Box w3 w1.heap.size #[.int .i64 p, .int .i64 l, .int .i64 r, .int .i64 a, .int .i64 b, .int .i64 s, .bool h, .int .i64 t] := Box.below (Box.alloc Xb7_2 _) hb3
  have Xb8_3 : Box w3 (w1.heap.size + 1) #[.int .i64 p, .int .i64 lb, .int .i64 rb, .int .i64 0, .int .i64 1, .int .i64 s, .bool h, .int .i64 t] := Box.below (Box.alloc Xb8_2 _) hb3
  have Xb11_3 : Box w3 w2.heap.size #[.int .i64 lo, .int .i64 hi] := Box.below (Box.new w2 _ _) hb3
  have hB3 : Below w.heap.size w w3 := stepB (by go_grown) hb3
  have hs3 := hB3.size
  clear hb3 hB2 hs2 Xb5_2 Xb7_2 Xb8_2 cc7 ll7 cc8 ll8 lm8_0
  have cc7 := Xb7_3.2.1
  have ll7 := Xb7_3.1
  have cc11 := Xb11_3.2.1
  have ll11 := Xb11_3.1
  go_wp2_with fail
  refine (HS.out _).mono ?_
  rintro e w4 ⟨rfl, hb4⟩
  have Xb5_4 : Box w4 (w.heap.size + 1 + 1) #[.int .u16 y0, .int .u16 y1, .int .u16 y2, .int .u16 y3] := Box.below Xb5_3 hb4
  have Xb7_4 : Box w4 w1.heap.size #[.int .i64 p, .int .i64 l, .int .i64 r, .int .i64 a, .int .i64 b, .int .i64 s, .bool h, .int .i64 t] := Box.below Xb7_3 hb4
  have Xb8_4 : Box w4 (w1.heap.size + 1) #[.int .i64 p, .int .i64 lb, .int .i64 rb, .int .i64 0, .int .i64 1, .int .i64 s, .bool h, .int .i64 t] := Box.below Xb8_3 hb4
  have Xb11_4 : Box w4 w2.heap.size #[.int .i64 lo, .int .i64 hi] := Box.below Xb11_3 hb4
  have hB4 : Below w.heap.size w w4 := stepB (by go_grown) hb4
  have hs4 := hB4.size
  clear hb4 hB3 hs3 Xb5_3 Xb7_3 Xb8_3 Xb11_3 cc7 ll7 cc11 ll11
  have cc8 := Xb8_4.2.1
  have ll8 := Xb8_4.1
  have lm8_0 : w1.heap.size < w4.heap.size := by have := ll8; omega
  go_wp2_with fail
  refine (HK.out _).mono ?_
  rintro e w5 ⟨rfl, hb5⟩
  have Xb5_5 : Box w5 (w.heap.size + 1 + 1) #[.int .u16 y0, .int .u16 y1, .int .u16 y2, .int .u16 y3] := Box.below Xb5_4 hb5
  have Xb7_5 : Box w5 w1.heap.size #[.int .i64 p, .int .i64 l, .int .i64 r, .int .i64 a, .int .i64 b, .int .i64 s, .bool h, .int .i64 t] := Box.below Xb7_4 hb5
  have Xb8_5 : Box w5 (w1.heap.size + 1) #[.int .i64 p, .int .i64 lb, .int .i64 rb, .int .i64 0, .int .i64 1, .int .i64 s, .bool h, .int .i64 t] := Box.below Xb8_4 hb5
  have Xb11_5 : Box w5 w2.heap.size #[.int .i64 lo, .int .i64 hi] := Box.below Xb11_4 hb5
  have hB5 : Below w.heap.size w w5 := stepB (by go_grown) hb5
  have hs5 := hB5.size
  clear hb5 hB4 hs4 Xb5_4 Xb7_4 Xb8_4 Xb11_4 cc8 ll8 lm8_0
  have cc7 := Xb7_5.2.1
  have ll7 := Xb7_5.1
  have cc8 := Xb8_5.2.1
  have ll8 := Xb8_5.1
  have lm8_0 : w1.heap.size < w5.heap.size := by have := ll8; omega
  have cc11 := Xb11_5.2.1
  have ll11 := Xb11_5.1
  go_wp2_with fail
  refine (H0.out _).mono ?_
  rintro e w6 ⟨rfl, hb6⟩
  have Xb5_6 : Box w6 (w.heap.size + 1 + 1) #[.int .u16 y0, .int .u16 y1, .int .u16 y2, .int .u16 y3] := Box.below Xb5_5 hb6
  have Xb7_6 : Box w6 w1.heap.size #[.int .i64 p, .int .i64 l, .int .i64 r, .int .i64 a, .int .i64 b, .int .i64 s, .bool h, .int .i64 t] := Box.below Xb7_5 hb6
  have Xb8_6 : Box w6 (w1.heap.size + 1) #[.int .i64 p, .int .i64 lb, .int .i64 rb, .int .i64 0, .int .i64 1, .int .i64 s, .bool h, .int .i64 t] := Box.below Xb8_5 hb6
  have Xb11_6 : Box w6 w2.heap.size #[.int .i64 lo, .int .i64 hi] := Box.below Xb11_5 hb6
  have hB6 : Below w.heap.size w w6 := stepB (by go_grown) hb6
  have hs6 := hB6.size
  clear hb6 hB5 hs5 Xb5_5 Xb7_5 Xb8_5 Xb11_5 cc7 ll7 cc8 ll8 lm8_0 cc11 ll11
  have cc7 := Xb7_6.2.1
  have ll7 := Xb7_6.1
  have cc8 := Xb8_6.2.1
  have ll8 := Xb8_6.1
  have lm8_0 : w1.heap.size < w6.heap.size := by have := ll8; omega
  have cc11 := Xb11_6.2.1
  have ll11 := Xb11_6.1
  go_wp2_with fail
  refine (H1.out _).mono ?_
  rintro e w7 ⟨rfl, hb7⟩
  have Xb5_7 : Box w7 (w.heap.size + 1 + 1) #[.int .u16 y0, .int .u16 y1, .int .u16 y2, .int .u16 y3] := Box.below Xb5_6 hb7
  have Xb7_7 : Box w7 w1.heap.size #[.int .i64 p, .int .i64 l, .int .i64 r, .int .i64 a, .int .i64 b, .int .i64 s, .bool h, .int .i64 t] := Box.below Xb7_6 hb7
  have Xb8_7 : Box w7 (w1.heap.size + 1) #[.int .i64 p, .int .i64 lb, .int .i64 rb, .int .i64 0, .int .i64 1, .int .i64 s, .bool h, .int .i64 t] := Box.below Xb8_6 hb7
  have Xb11_7 : Box w7 w2.heap.size #[.int .i64 lo, .int .i64 hi] := Box.below Xb11_6 hb7
  have hB7 : Below w.heap.size w w7 := stepB (by go_grown) hb7
  have hs7 := hB7.size
  clear hb7 hB6 hs6 Xb5_6 Xb7_6 Xb8_6 Xb11_6 cc7 ll7 cc8 ll8 lm8_0 cc11 ll11
  have cc11 := Xb11_7.2.1
  have ll11 := Xb11_7.1
  go_wp2
  have Yb5 : Box w7 (w.heap.size + 1 + 1) #[.int .u16 y0, .int .u16 y1, .int .u16 y2, .int .u16 y3] := Xb5_7
  have Yb7 : Box w7 w1.heap.size #[.int .i64 p, .int .i64 l, .int .i64 r, .int .i64 a, .int .i64 b, .int .i64 s, .bool h, .int .i64 t] := Xb7_7
  have Yb8 : Box w7 (w1.heap.size + 1) #[.int .i64 p, .int .i64 lb, .int .i64 rb, .int .i64 0, .int .i64 1, .int .i64 s, .bool h, .int .i64 t] := Xb8_7
  have Yb11 : Box w7 w2.heap.size #[.int .i64 lo, .int .i64 hi] := Xb11_7
  have hBX : Below w.heap.size w w7 := by go_grown
  clear hB7 hs7 Xb5_7 Xb7_7 Xb8_7 Xb11_7 cc11 ll11
  have hsX := hBX.size
  have rd5 := fun d os => (Yb5.regrown d os).2.1
  have rd11 := fun d os => (Yb11.regrown d os).2.1
  have Zb7 := Lib.hid Yb7
  have Zb8 := Lib.hid Yb8
  clear Yb5 Yb7 Yb8 Yb11
  refine wp_region_quiet_below (by kernel_rfl) (by kernel_rfl) ?_
  repeat ((with_reducible refine wpQuiet_step (fun K hK => ?_)); go_simp; first | ((with_reducible refine hK _ ?_); clear hK K) | (apply Exists.intro; refine ⟨fun _ => ?_, hK _ ?_⟩; fail; clear hK K))
  with_reducible refine wpQuiet_nil ?_
  intro w8 hw'
  obtain ⟨⟨dq, osq⟩, hw''⟩ := hw'
  have hb8 : Below w7.heap.size w7 w8 := by rw [hw'']; exact below_regrown w7 dq osq
  have Xb7_8 : Box w8 w1.heap.size #[.int .i64 p, .int .i64 l, .int .i64 r, .int .i64 a, .int .i64 b, .int .i64 s, .bool h, .int .i64 t] := Zb7.out.below hb8
  have Xb8_8 : Box w8 (w1.heap.size + 1) #[.int .i64 p, .int .i64 lb, .int .i64 rb, .int .i64 0, .int .i64 1, .int .i64 s, .bool h, .int .i64 t] := Zb8.out.below hb8
  have hB8 : Below w.heap.size w w8 := stepB hBX hb8
  have hs8 := hB8.size
  clear hw'' hb8 hBX hsX rd5 rd11 Zb7 Zb8
  have cc7 := Xb7_8.2.1
  have ll7 := Xb7_8.1
  have cc8 := Xb8_8.2.1
  have ll8 := Xb8_8.1
  have lm8_0 : w1.heap.size < w8.heap.size := by have := ll8; omega
  go_wp2_with fail
  refine (HR2.out _).mono ?_
  rintro e w9 ⟨rfl, hb9⟩
  have Xb7_9 : Box w9 w1.heap.size #[.int .i64 p, .int .i64 l, .int .i64 r, .int .i64 a, .int .i64 b, .int .i64 s, .bool h, .int .i64 t] := Box.below (Box.alloc Xb7_8 _) hb9
  have Xb8_9 : Box w9 (w1.heap.size + 1) #[.int .i64 p, .int .i64 lb, .int .i64 rb, .int .i64 0, .int .i64 1, .int .i64 s, .bool h, .int .i64 t] := Box.below (Box.alloc Xb8_8 _) hb9
  have Xb19_9 : Box w9 w8.heap.size #[.int .i64 lo2, .int .i64 hi2] := Box.below (Box.new w8 _ _) hb9
  have hB9 : Below w.heap.size w w9 := stepB (by go_grown) hb9
  have hs9 := hB9.size
  clear hb9 hB8 hs8 Xb7_8 Xb8_8 cc7 ll7 cc8 ll8 lm8_0
  have cc7 := Xb7_9.2.1
  have ll7 := Xb7_9.1
  have cc8 := Xb8_9.2.1
  have ll8 := Xb8_9.1
  have lm8_0 : w1.heap.size < w9.heap.size := by have := ll8; omega
  have cc19 := Xb19_9.2.1
  have ll19 := Xb19_9.1
  go_wp2_with fail
  refine (H2.out _).mono ?_
  rintro e w10 ⟨rfl, hb10⟩
  have hB10 : Below w.heap.size w w10 := stepB (by go_grown) hb10
  have hs10 := hB10.size
  clear hb10 hB9 hs9 Xb7_9 Xb8_9 Xb19_9 cc7 ll7 cc8 ll8 lm8_0 cc19 ll19
  go_wp2_with fail
  refine (known_any _).mono ?_
  rintro e w11 ⟨rfl, hb11⟩
  have hB11 : Below w.heap.size w w11 := stepB (by go_grown) hb11
  have hs11 := hB11.size
  clear hb11 hB10 hs10
  go_wp2
  go_returns
  exact ⟨rfl, hB11⟩

end Go.Proofs.Ytloleaahelmdjaa
