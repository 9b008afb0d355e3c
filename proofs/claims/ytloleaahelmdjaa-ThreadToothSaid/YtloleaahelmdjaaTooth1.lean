/- ThreadTooth: its way. Made by tools/gen_tooth.py. -/
import Derived.Test.YtloleaahelmdjaaTooth0
import Derived.Deep.DeepCutAuto
namespace Go.Proofs.Ytloleaahelmdjaa
open Go.ChangeShapes Go.WideShapes Go.ChangeAt Go.RowKit
set_option linter.unusedVariables false
set_option linter.unusedSimpArgs false

set_option maxRecDepth 100000 in
set_option maxHeartbeats 4000000 in
theorem tooth_way (xp xl xr xa xb xs xt : Int) (xh : Bool) (X Y Z : Int) (p l r a b s t : Int) (h : Bool) (u1 u2 u3 x y z : Int) (q1 e1 q2 e2 q3 e3 q4 e4 q5 e5 q6 e6 s3 s4 s5 : Int) (HFm : Hid (∀ w : World, Calls Try.prog 37 #[.agg #[.int .u16 xp, .int .u16 xl, .int .u16 xr, .int .u16 xa, .int .u16 xb, .int .u8 xs, .int .u8 xt, .bool xh]] w fun e w' => e = .returned (.agg #[.int .i64 p, .int .i64 l, .int .i64 r, .int .i64 a, .int .i64 b, .int .i64 s, .bool h, .int .i64 t]) ∧ Below w.heap.size w w')) (H1 : Hid (∀ w : World, Calls Try.prog 38 #[.agg #[.int .i64 p, .int .i64 l, .int .i64 r, .int .i64 a, .int .i64 b, .int .i64 s, .bool h, .int .i64 t], .int .u16 X] w fun e w' => e = .returned (.int .i64 u1) ∧ Below w.heap.size w w')) (H2 : Hid (∀ w : World, Calls Try.prog 38 #[.agg #[.int .i64 p, .int .i64 l, .int .i64 r, .int .i64 a, .int .i64 b, .int .i64 s, .bool h, .int .i64 t], .int .u16 Y] w fun e w' => e = .returned (.int .i64 u2) ∧ Below w.heap.size w w')) (H3 : Hid (∀ w : World, Calls Try.prog 38 #[.agg #[.int .i64 p, .int .i64 l, .int .i64 r, .int .i64 a, .int .i64 b, .int .i64 s, .bool h, .int .i64 t], .int .u16 Z] w fun e w' => e = .returned (.int .i64 u3) ∧ Below w.heap.size w w')) (g1 : min (min u1 u2) u3 = x) (g2 : max (min u1 u2) (min (max u1 u2) u3) = y) (g3 : max (max u1 u2) u3 = z) (U1 : -200000 ≤ u1 ∧ u1 ≤ 200000) (U2 : -200000 ≤ u2 ∧ u2 ≤ 200000) (U3 : -200000 ≤ u3 ∧ u3 ≤ 200000) (W1 : Hid (∀ w : World, Calls Try.prog 15 #[.agg #[.int .i64 p, .int .i64 l, .int .i64 r, .int .i64 a, .int .i64 b, .int .i64 s, .bool h, .int .i64 t], .int .i64 x] w fun e w' => e = .returned (.tuple #[.agg #[.int .i64 q1, .int .i64 e1], .int .i64 0]) ∧ Below w.heap.size w w')) (W2 : Hid (∀ w : World, Calls Try.prog 15 #[.agg #[.int .i64 p, .int .i64 l, .int .i64 r, .int .i64 a, .int .i64 b, .int .i64 s, .bool h, .int .i64 t], .int .i64 z] w fun e w' => e = .returned (.tuple #[.agg #[.int .i64 q2, .int .i64 e2], .int .i64 0]) ∧ Below w.heap.size w w')) (W3 : Hid (∀ w : World, Calls Try.prog 15 #[.agg #[.int .i64 p, .int .i64 l, .int .i64 r, .int .i64 a, .int .i64 b, .int .i64 s, .bool h, .int .i64 t], .int .i64 0] w fun e w' => e = .returned (.tuple #[.agg #[.int .i64 q3, .int .i64 e3], .int .i64 0]) ∧ Below w.heap.size w w')) (A1 : Hid (∀ w : World, Calls Try.prog 22 #[.agg #[.int .i64 p, .int .i64 l, .int .i64 r, .int .i64 a, .int .i64 b, .int .i64 s, .bool h, .int .i64 t], .int .i64 x, .int .i64 y] w fun e w' => e = .returned (.tuple #[.agg #[.int .i64 q4, .int .i64 e4], .int .i64 0]) ∧ Below w.heap.size w w')) (A2 : Hid (∀ w : World, Calls Try.prog 22 #[.agg #[.int .i64 p, .int .i64 l, .int .i64 r, .int .i64 a, .int .i64 b, .int .i64 s, .bool h, .int .i64 t], .int .i64 y, .int .i64 z] w fun e w' => e = .returned (.tuple #[.agg #[.int .i64 q5, .int .i64 e5], .int .i64 0]) ∧ Below w.heap.size w w')) (A3 : Hid (∀ w : World, Calls Try.prog 22 #[.agg #[.int .i64 p, .int .i64 l, .int .i64 r, .int .i64 a, .int .i64 b, .int .i64 s, .bool h, .int .i64 t], .int .i64 x, .int .i64 z] w fun e w' => e = .returned (.tuple #[.agg #[.int .i64 q6, .int .i64 e6], .int .i64 0]) ∧ Below w.heap.size w w')) (S1 : Hid (∀ w : World, Calls Try.prog 39 #[.agg #[.int .i64 q1, .int .i64 e1], .agg #[.int .i64 (-q2), .int .i64 e2]] w fun e w' => e = .returned (.tuple #[.int .i64 (2 * (z - x) * (l + r)), .bool true]) ∧ Below w.heap.size w w')) (S2 : Hid (∀ w : World, Calls Try.prog 39 #[.agg #[.int .i64 q3, .int .i64 e3], .agg #[.int .i64 q3, .int .i64 e3]] w fun e w' => e = .returned (.tuple #[.int .i64 (2000 * p), .bool true]) ∧ Below w.heap.size w w')) (S3 : Hid (∀ w : World, Calls Try.prog 39 #[.agg #[.int .i64 q2, .int .i64 e2], .agg #[.int .i64 0, .int .i64 1]] w fun e w' => e = .returned (.tuple #[.int .i64 s3, .bool true]) ∧ Below w.heap.size w w')) (S4 : Hid (∀ w : World, Calls Try.prog 39 #[.agg #[.int .i64 q1, .int .i64 e1], .agg #[.int .i64 0, .int .i64 1]] w fun e w' => e = .returned (.tuple #[.int .i64 s4, .bool true]) ∧ Below w.heap.size w w')) (S5 : Hid (∀ w : World, Calls Try.prog 39 #[.agg #[.int .i64 q4, .int .i64 e4], .agg #[.int .i64 q5, .int .i64 e5]] w fun e w' => e = .returned (.tuple #[.int .i64 s5, .bool true]) ∧ Below w.heap.size w w')) (S6 : Hid (∀ w : World, Calls Try.prog 39 #[.agg #[.int .i64 q6, .int .i64 e6], .agg #[.int .i64 0, .int .i64 1]] w fun e w' => e = .returned (.tuple #[.int .i64 s5, .bool true]) ∧ Below w.heap.size w w')) (n0 : 0 ≤ s3) (n1 : s4 ≤ 2000 * p) (p0 : 100 ≤ p) (p1 : p ≤ 200000) (l0 : 0 ≤ l) (l1 : l ≤ 3000) (r0 : 0 ≤ r) (r1 : r ≤ 3000) (w1 : IntKind.i64.wrap (-q2) = -q2) (w2 : IntKind.i64.wrap (z - x) = z - x) (w3 : IntKind.i64.wrap (2 * (z - x)) = 2 * (z - x)) (w4 : IntKind.i64.wrap (2 * (z - x) * (l + r)) = 2 * (z - x) * (l + r)) (w : World) :
    Calls Try.prog 8 #[.agg #[.int .u16 xp, .int .u16 xl, .int .u16 xr, .int .u16 xa, .int .u16 xb, .int .u8 xs, .int .u8 xt, .bool xh], .agg #[.int .u16 X, .int .u16 Y, .int .u16 Z]] w fun e w' => e = .returned (.bool true) ∧ Below w.heap.size w w' := by
  have d1 : decide (0 ≤ s3) = true := decide_eq_true n0
  have d2 : decide (s4 ≤ 2000 * p) = true := decide_eq_true n1
  go_enter Try.func8, Try.ntmps8
  go_wp2_with fail
  refine (HFm.out _).mono ?_
  rintro e w1 ⟨rfl, hb1⟩
  have Xb3_1 : Box w1 (w.heap.size + 1) #[.int .u16 X, .int .u16 Y, .int .u16 Z] := Box.below (Box.newAt (w.alloc _) _ _ (by simp)) hb1
  have hB1 : Below w.heap.size w w1 := stepB (by go_grown) hb1
  have hs1 := hB1.size
  clear hb1
  go_wp2
  have Yb3 : Box (w1.alloc (.cells #[.int .i64 p, .int .i64 l, .int .i64 r, .int .i64 a, .int .i64 b, .int .i64 s, .bool h, .int .i64 t] 23)) (w.heap.size + 1) #[.int .u16 X, .int .u16 Y, .int .u16 Z] := (Box.alloc Xb3_1 _)
  have Yb5 : Box (w1.alloc (.cells #[.int .i64 p, .int .i64 l, .int .i64 r, .int .i64 a, .int .i64 b, .int .i64 s, .bool h, .int .i64 t] 23)) w1.heap.size #[.int .i64 p, .int .i64 l, .int .i64 r, .int .i64 a, .int .i64 b, .int .i64 s, .bool h, .int .i64 t] := (Box.new w1 _ _)
  have hBX : Below w.heap.size w (w1.alloc (.cells #[.int .i64 p, .int .i64 l, .int .i64 r, .int .i64 a, .int .i64 b, .int .i64 s, .bool h, .int .i64 t] 23)) := by go_grown
  clear hB1 hs1 Xb3_1
  generalize (w1.alloc (.cells #[.int .i64 p, .int .i64 l, .int .i64 r, .int .i64 a, .int .i64 b, .int .i64 s, .bool h, .int .i64 t] 23)) = XW1 at *
  have hsX := hBX.size
  have rd3 := fun d os => (Yb3.regrown d os).2.1
  have rd5 := fun d os => (Yb5.regrown d os).2.1
  have kc38 := fun d os => (H1.out (Go.Sort.grow (redrawn XW1 d) os)).regrown_of
  have kc42 := fun d os => (H2.out (Go.Sort.grow (redrawn XW1 d) os)).regrown_of
  have kc46 := fun d os => (H3.out (Go.Sort.grow (redrawn XW1 d) os)).regrown_of
  have Zb5 := Lib.hid Yb5
  clear Yb3 Yb5
  refine wp_region_quiet_below (by kernel_rfl) (by kernel_rfl) ?_
  repeat ((with_reducible refine wpQuiet_step (fun K hK => ?_)); go_simp; first | ((with_reducible refine hK _ ?_); clear hK K) | (apply Exists.intro; refine ⟨fun _ => ?_, hK _ ?_⟩; (first | (go_at_call 38; with_reducible exact kc38 _ _) | (go_at_call 38; with_reducible exact kc42 _ _) | (go_at_call 38; with_reducible exact kc46 _ _)); clear hK K))
  with_reducible refine wpQuiet_nil ?_
  intro w2 hw'
  obtain ⟨⟨dq, osq⟩, hw''⟩ := hw'
  have hb2 : Below XW1.heap.size XW1 w2 := by rw [hw'']; exact below_regrown XW1 dq osq
  have Xb5_2 : Box w2 w1.heap.size #[.int .i64 p, .int .i64 l, .int .i64 r, .int .i64 a, .int .i64 b, .int .i64 s, .bool h, .int .i64 t] := Zb5.out.below hb2
  have hB2 : Below w.heap.size w w2 := stepB hBX hb2
  have hs2 := hB2.size
  clear hw'' hb2 hBX hsX rd3 rd5 kc38 kc42 kc46 Zb5
  go_upto_region 3 with fail
  go_cut [6, 7, 8] (fun s6 s7 s8 wx => s6 = .int .i64 x ∧ s7 = .int .i64 y ∧ s8 = .int .i64 z ∧ Box wx w1.heap.size #[.int .i64 p, .int .i64 l, .int .i64 r, .int .i64 a, .int .i64 b, .int .i64 s, .bool h, .int .i64 t] ∧ Below w.heap.size w wx)
  case first =>
    · skip
      go_wp2_with fail
      all_goals (go_meet; exact ⟨congrArg (Value.int IntKind.i64) (by omega), congrArg (Value.int IntKind.i64) (by omega), congrArg (Value.int IntKind.i64) (by omega), Xb5_2, hB2⟩)
  case rest =>
    obtain ⟨w3, rfl⟩ : ∃ x : World, x = wc := ⟨_, rfl⟩
    obtain ⟨rfl, rfl, rfl, Xb5_3, hB3⟩ := hcut
    clear Xb5_2 hB2 hs2
    have hs3 := hB3.size
    have cc5 := Xb5_3.2.1
    have ll5 := Xb5_3.1
    clear g1 g2 g3 U1 U2 U3
    go_wp2_with fail
    refine (W1.out _).mono ?_
    rintro e w4 ⟨rfl, hb4⟩
    have Xb5_4 : Box w4 w1.heap.size #[.int .i64 p, .int .i64 l, .int .i64 r, .int .i64 a, .int .i64 b, .int .i64 s, .bool h, .int .i64 t] := Box.below Xb5_3 hb4
    have hB4 : Below w.heap.size w w4 := stepB (by go_grown) hb4
    have hs4 := hB4.size
    clear hb4 hB3 hs3 Xb5_3 cc5 ll5
    have cc5 := Xb5_4.2.1
    have ll5 := Xb5_4.1
    go_wp2_with fail
    refine (W2.out _).mono ?_
    rintro e w5 ⟨rfl, hb5⟩
    have Xb5_5 : Box w5 w1.heap.size #[.int .i64 p, .int .i64 l, .int .i64 r, .int .i64 a, .int .i64 b, .int .i64 s, .bool h, .int .i64 t] := Box.below (Box.alloc Xb5_4 _) hb5
    have Xb9_5 : Box w5 w4.heap.size #[.int .i64 q1, .int .i64 e1] := Box.below (Box.new w4 _ _) hb5
    have hB5 : Below w.heap.size w w5 := stepB (by go_grown) hb5
    have hs5 := hB5.size
    clear hb5 hB4 hs4 Xb5_4 cc5 ll5
    have cc5 := Xb5_5.2.1
    have ll5 := Xb5_5.1
    go_wp2_with fail
    refine (W3.out _).mono ?_
    rintro e w6 ⟨rfl, hb6⟩
    have Xb5_6 : Box w6 w1.heap.size #[.int .i64 p, .int .i64 l, .int .i64 r, .int .i64 a, .int .i64 b, .int .i64 s, .bool h, .int .i64 t] := Box.below (Box.alloc Xb5_5 _) hb6
    have Xb9_6 : Box w6 w4.heap.size #[.int .i64 q1, .int .i64 e1] := Box.below (Box.alloc Xb9_5 _) hb6
    have Xb11_6 : Box w6 w5.heap.size #[.int .i64 q2, .int .i64 e2] := Box.below (Box.new w5 _ _) hb6
    have hB6 : Below w.heap.size w w6 := stepB (by go_grown) hb6
    have hs6 := hB6.size
    clear hb6 hB5 hs5 Xb5_5 Xb9_5 cc5 ll5
    have cc5 := Xb5_6.2.1
    have ll5 := Xb5_6.1
    go_wp2_with fail
    refine (A1.out _).mono ?_
    rintro e w7 ⟨rfl, hb7⟩
    have Xb5_7 : Box w7 w1.heap.size #[.int .i64 p, .int .i64 l, .int .i64 r, .int .i64 a, .int .i64 b, .int .i64 s, .bool h, .int .i64 t] := Box.below (Box.alloc Xb5_6 _) hb7
    have Xb9_7 : Box w7 w4.heap.size #[.int .i64 q1, .int .i64 e1] := Box.below (Box.alloc Xb9_6 _) hb7
    have Xb11_7 : Box w7 w5.heap.size #[.int .i64 q2, .int .i64 e2] := Box.below (Box.alloc Xb11_6 _) hb7
    have Xb13_7 : Box w7 w6.heap.size #[.int .i64 q3, .int .i64 e3] := Box.below (Box.new w6 _ _) hb7
    have hB7 : Below w.heap.size w w7 := stepB (by go_grown) hb7
    have hs7 := hB7.size
    clear hb7 hB6 hs6 Xb5_6 Xb9_6 Xb11_6 cc5 ll5
    have cc5 := Xb5_7.2.1
    have ll5 := Xb5_7.1
    go_wp2_with fail
    refine (A2.out _).mono ?_
    rintro e w8 ⟨rfl, hb8⟩
    have Xb5_8 : Box w8 w1.heap.size #[.int .i64 p, .int .i64 l, .int .i64 r, .int .i64 a, .int .i64 b, .int .i64 s, .bool h, .int .i64 t] := Box.below (Box.alloc Xb5_7 _) hb8
    have Xb9_8 : Box w8 w4.heap.size #[.int .i64 q1, .int .i64 e1] := Box.below (Box.alloc Xb9_7 _) hb8
    have Xb11_8 : Box w8 w5.heap.size #[.int .i64 q2, .int .i64 e2] := Box.below (Box.alloc Xb11_7 _) hb8
    have Xb13_8 : Box w8 w6.heap.size #[.int .i64 q3, .int .i64 e3] := Box.below (Box.alloc Xb13_7 _) hb8
    have Xb15_8 : Box w8 w7.heap.size #[.int .i64 q4, .int .i64 e4] := Box.below (Box.new w7 _ _) hb8
    have hB8 : Below w.heap.size w w8 := stepB (by go_grown) hb8
    have hs8 := hB8.size
    clear hb8 hB7 hs7 Xb5_7 Xb9_7 Xb11_7 Xb13_7 cc5 ll5
    have cc5 := Xb5_8.2.1
    have ll5 := Xb5_8.1
    go_wp2_with fail
    refine (A3.out _).mono ?_
    rintro e w9 ⟨rfl, hb9⟩
    have Xb5_9 : Box w9 w1.heap.size #[.int .i64 p, .int .i64 l, .int .i64 r, .int .i64 a, .int .i64 b, .int .i64 s, .bool h, .int .i64 t] := Box.below (Box.alloc Xb5_8 _) hb9
    have Xb9_9 : Box w9 w4.heap.size #[.int .i64 q1, .int .i64 e1] := Box.below (Box.alloc Xb9_8 _) hb9
    have Xb11_9 : Box w9 w5.heap.size #[.int .i64 q2, .int .i64 e2] := Box.below (Box.alloc Xb11_8 _) hb9
    have Xb13_9 : Box w9 w6.heap.size #[.int .i64 q3, .int .i64 e3] := Box.below (Box.alloc Xb13_8 _) hb9
    have Xb15_9 : Box w9 w7.heap.size #[.int .i64 q4, .int .i64 e4] := Box.below (Box.alloc Xb15_8 _) hb9
    have Xb17_9 : Box w9 w8.heap.size #[.int .i64 q5, .int .i64 e5] := Box.below (Box.new w8 _ _) hb9
    have hB9 : Below w.heap.size w w9 := stepB (by go_grown) hb9
    have hs9 := hB9.size
    clear hb9 hB8 hs8 Xb5_8 Xb9_8 Xb11_8 Xb13_8 Xb15_8 cc5 ll5
    have cc9 := Xb9_9.2.1
    have ll9 := Xb9_9.1
    have cc11 := Xb11_9.2.1
    have ll11 := Xb11_9.1
    go_wp2_with fail
    refine (S1.out _).mono ?_
    rintro e w10 ⟨rfl, hb10⟩
    have Xb5_10 : Box w10 w1.heap.size #[.int .i64 p, .int .i64 l, .int .i64 r, .int .i64 a, .int .i64 b, .int .i64 s, .bool h, .int .i64 t] := Box.below (Box.alloc Xb5_9 _) hb10
    have Xb9_10 : Box w10 w4.heap.size #[.int .i64 q1, .int .i64 e1] := Box.below (Box.alloc Xb9_9 _) hb10
    have Xb11_10 : Box w10 w5.heap.size #[.int .i64 q2, .int .i64 e2] := Box.below (Box.alloc Xb11_9 _) hb10
    have Xb13_10 : Box w10 w6.heap.size #[.int .i64 q3, .int .i64 e3] := Box.below (Box.alloc Xb13_9 _) hb10
    have Xb15_10 : Box w10 w7.heap.size #[.int .i64 q4, .int .i64 e4] := Box.below (Box.alloc Xb15_9 _) hb10
    have Xb17_10 : Box w10 w8.heap.size #[.int .i64 q5, .int .i64 e5] := Box.below (Box.alloc Xb17_9 _) hb10
    have Xb19_10 : Box w10 w9.heap.size #[.int .i64 q6, .int .i64 e6] := Box.below (Box.new w9 _ _) hb10
    have hB10 : Below w.heap.size w w10 := stepB (by go_grown) hb10
    have hs10 := hB10.size
    clear hb10 hB9 hs9 Xb5_9 Xb9_9 Xb11_9 Xb13_9 Xb15_9 Xb17_9 cc9 ll9 cc11 ll11
    have cc13 := Xb13_10.2.1
    have ll13 := Xb13_10.1
    go_wp2_with fail
    refine (S2.out _).mono ?_
    rintro e w11 ⟨rfl, hb11⟩
    have Xb5_11 : Box w11 w1.heap.size #[.int .i64 p, .int .i64 l, .int .i64 r, .int .i64 a, .int .i64 b, .int .i64 s, .bool h, .int .i64 t] := Box.below Xb5_10 hb11
    have Xb9_11 : Box w11 w4.heap.size #[.int .i64 q1, .int .i64 e1] := Box.below Xb9_10 hb11
    have Xb11_11 : Box w11 w5.heap.size #[.int .i64 q2, .int .i64 e2] := Box.below Xb11_10 hb11
    have Xb15_11 : Box w11 w7.heap.size #[.int .i64 q4, .int .i64 e4] := Box.below Xb15_10 hb11
    have Xb17_11 : Box w11 w8.heap.size #[.int .i64 q5, .int .i64 e5] := Box.below Xb17_10 hb11
    have Xb19_11 : Box w11 w9.heap.size #[.int .i64 q6, .int .i64 e6] := Box.below Xb19_10 hb11
    have hB11 : Below w.heap.size w w11 := stepB (by go_grown) hb11
    have hs11 := hB11.size
    clear hb11 hB10 hs10 Xb5_10 Xb9_10 Xb11_10 Xb13_10 Xb15_10 Xb17_10 Xb19_10 cc13 ll13
    have cc11 := Xb11_11.2.1
    have ll11 := Xb11_11.1
    go_wp2_with fail
    refine (S3.out _).mono ?_
    rintro e w12 ⟨rfl, hb12⟩
    have Xb5_12 : Box w12 w1.heap.size #[.int .i64 p, .int .i64 l, .int .i64 r, .int .i64 a, .int .i64 b, .int .i64 s, .bool h, .int .i64 t] := Box.below Xb5_11 hb12
    have Xb9_12 : Box w12 w4.heap.size #[.int .i64 q1, .int .i64 e1] := Box.below Xb9_11 hb12
    have Xb15_12 : Box w12 w7.heap.size #[.int .i64 q4, .int .i64 e4] := Box.below Xb15_11 hb12
    have Xb17_12 : Box w12 w8.heap.size #[.int .i64 q5, .int .i64 e5] := Box.below Xb17_11 hb12
    have Xb19_12 : Box w12 w9.heap.size #[.int .i64 q6, .int .i64 e6] := Box.below Xb19_11 hb12
    have hB12 : Below w.heap.size w w12 := stepB (by go_grown) hb12
    have hs12 := hB12.size
    clear hb12 hB11 hs11 Xb5_11 Xb9_11 Xb11_11 Xb15_11 Xb17_11 Xb19_11 cc11 ll11
    have cc9 := Xb9_12.2.1
    have ll9 := Xb9_12.1
    go_wp2_with fail
    refine (S4.out _).mono ?_
    rintro e w13 ⟨rfl, hb13⟩
    have Xb5_13 : Box w13 w1.heap.size #[.int .i64 p, .int .i64 l, .int .i64 r, .int .i64 a, .int .i64 b, .int .i64 s, .bool h, .int .i64 t] := Box.below Xb5_12 hb13
    have Xb15_13 : Box w13 w7.heap.size #[.int .i64 q4, .int .i64 e4] := Box.below Xb15_12 hb13
    have Xb17_13 : Box w13 w8.heap.size #[.int .i64 q5, .int .i64 e5] := Box.below Xb17_12 hb13
    have Xb19_13 : Box w13 w9.heap.size #[.int .i64 q6, .int .i64 e6] := Box.below Xb19_12 hb13
    have hB13 : Below w.heap.size w w13 := stepB (by go_grown) hb13
    have hs13 := hB13.size
    clear hb13 hB12 hs12 Xb5_12 Xb9_12 Xb15_12 Xb17_12 Xb19_12 cc9 ll9
    have cc15 := Xb15_13.2.1
    have ll15 := Xb15_13.1
    have cc17 := Xb17_13.2.1
    have ll17 := Xb17_13.1
    go_wp2_with fail
    refine (S5.out _).mono ?_
    rintro e w14 ⟨rfl, hb14⟩
    have Xb5_14 : Box w14 w1.heap.size #[.int .i64 p, .int .i64 l, .int .i64 r, .int .i64 a, .int .i64 b, .int .i64 s, .bool h, .int .i64 t] := Box.below Xb5_13 hb14
    have Xb19_14 : Box w14 w9.heap.size #[.int .i64 q6, .int .i64 e6] := Box.below Xb19_13 hb14
    have hB14 : Below w.heap.size w w14 := stepB (by go_grown) hb14
    have hs14 := hB14.size
    clear hb14 hB13 hs13 Xb5_13 Xb15_13 Xb17_13 Xb19_13 cc15 ll15 cc17 ll17
    have cc19 := Xb19_14.2.1
    have ll19 := Xb19_14.1
    go_wp2_with fail
    refine (S6.out _).mono ?_
    rintro e w15 ⟨rfl, hb15⟩
    have Xb5_15 : Box w15 w1.heap.size #[.int .i64 p, .int .i64 l, .int .i64 r, .int .i64 a, .int .i64 b, .int .i64 s, .bool h, .int .i64 t] := Box.below Xb5_14 hb15
    have hB15 : Below w.heap.size w w15 := stepB (by go_grown) hb15
    have hs15 := hB15.size
    clear hb15 hB14 hs14 Xb5_14 Xb19_14 cc19 ll19
    have cc5 := Xb5_15.2.1
    have ll5 := Xb5_15.1
    go_wp2_with fail
    refine (known_any _).mono ?_
    rintro e w16 ⟨rfl, hb16⟩
    have hB16 : Below w.heap.size w w16 := stepB (by go_grown) hb16
    have hs16 := hB16.size
    clear hb16 hB15 hs15 Xb5_15 cc5 ll5
    go_wp2
    go_returns
    exact ⟨rfl, hB16⟩
end Go.Proofs.Ytloleaahelmdjaa
