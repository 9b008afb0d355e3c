/- ThreadMoves: its ways. Made by tools/gen_moves.py. -/
import Derived.Test.YtloleaahelmdjaaLaw2
import Derived.Deep.DeepCutAuto
namespace Go.Proofs.Ytloleaahelmdjaa
open Go.ChangeShapes Go.WideShapes Go.ChangeAt Go.RowKit
set_option linter.unusedVariables false
set_option linter.unusedSimpArgs false

set_option maxRecDepth 100000 in
set_option maxHeartbeats 8000000 in
theorem moves_true (p l r a b s t : Int) (xa xd xx xs xr : Int) (q1 e1 E1 q2 e2 q3 e3 E3 q4 e4 E4 : Int) (dB : Bool) (p0 : 100 ≤ p) (p1 : p ≤ 200000) (l0 : 0 ≤ l) (l1 : l ≤ 3000) (r0 : 0 ≤ r) (r1 : r ≤ 3000) (a0 : 0 ≤ a) (a1 : a ≤ 200000) (b0 : 0 ≤ b) (b1 : b ≤ 200000) (s0 : 1 ≤ s) (s1 : s ≤ 8) (t0 : 0 ≤ t) (t1 : t ≤ 100) (HA : Hid (∀ w : World, Calls Try.prog 23 #[.agg #[.int .i64 p, .int .i64 l, .int .i64 r, .int .i64 a, .int .i64 b, .int .i64 s, .bool true, .int .i64 t], .int .i64 xa] w fun e w' => e = .returned (.tuple #[.agg #[.int .i64 q1, .int .i64 e1], .int .i64 E1]) ∧ Below w.heap.size w w')) (HP : Hid (∀ w : World, Calls Try.prog 24 #[.agg #[.int .i64 p, .int .i64 l, .int .i64 r, .int .i64 a, .int .i64 b, .int .i64 s, .bool true, .int .i64 t]] w fun e w' => e = .returned (.tuple #[.agg #[.int .i64 q2, .int .i64 e2], .int .i64 0]) ∧ Below w.heap.size w w')) (HD : Hid (∀ w : World, Calls Try.prog 25 #[.agg #[.int .i64 p, .int .i64 l, .int .i64 r, .int .i64 a, .int .i64 b, .int .i64 s, .bool true, .int .i64 t], .int .i64 xd, .int .i64 xx] w fun e w' => e = .returned (.tuple #[.agg #[.int .i64 q3, .int .i64 e3], .int .i64 E3]) ∧ Below w.heap.size w w')) (HM : Hid (∀ w : World, Calls Try.prog 26 #[.agg #[.int .i64 p, .int .i64 l, .int .i64 r, .int .i64 a, .int .i64 b, .int .i64 s, .bool true, .int .i64 t], .int .i64 xs, .int .i64 xr] w fun e w' => e = .returned (.tuple #[.agg #[.int .i64 q4, .int .i64 e4], .int .i64 E4]) ∧ Below w.heap.size w w')) (HF : Hid (∀ w : World, Calls Try.prog 17 #[.agg #[.int .i64 p, .int .i64 l, .int .i64 r, .int .i64 a, .int .i64 b, .int .i64 s, .bool true, .int .i64 t]] w fun e w' => e = .returned (.bool true) ∧ Below w.heap.size w w')) (HL2 : Hid (∀ w : World, Calls Try.prog 20 #[.int .i64 254000, .int .i64 p] w fun e w' => e = .returned (.agg #[.int .i64 q2, .int .i64 e2]) ∧ Below w.heap.size w w')) (CA : Hid ((inB (-1000000000) 1000000000 xa = true ∧ E1 = 0 ∧ IntKind.i64.wrap (p * s) = p * s ∧ IntKind.i64.wrap (p * s * xa) = p * s * xa ∧ IntKind.i64.wrap (-(p * s * xa)) = -(p * s * xa) ∧ (∀ w : World, Calls Try.prog 20 #[.int .i64 (-(p * s * xa)), .int .i64 1000000] w fun e w' => e = .returned (.agg #[.int .i64 q1, .int .i64 e1]) ∧ Below w.heap.size w w')) ∨ (inB (-1000000000) 1000000000 xa = false ∧ E1 = 3 ∧ q1 = 0 ∧ e1 = 0))) (CD : Hid ((inB 1 10000000 xd = false ∧ dB = false) ∨ (inB 1 10000000 xd = true ∧ inB 0 10000000 xx = dB))) (CX : Hid ((dB = true ∧ E3 = 0 ∧ IntKind.i64.wrap (1000 * xd) = 1000 * xd ∧ IntKind.i64.wrap (2 * xx) = 2 * xx ∧ IntKind.i64.wrap (2 * xx * t) = 2 * xx * t ∧ IntKind.i64.wrap (1000 * xd + 2 * xx * t) = 1000 * xd + 2 * xx * t ∧ (∀ w : World, Calls Try.prog 20 #[.int .i64 (1000 * xd + 2 * xx * t), .int .i64 1000] w fun e w' => e = .returned (.agg #[.int .i64 q3, .int .i64 e3]) ∧ Below w.heap.size w w')) ∨ (dB = false ∧ E3 = 3 ∧ q3 = 0 ∧ e3 = 0))) (CM : Hid (((xs < 1 ∨ (1 ≤ xs ∧ xr < xs) ∨ (1 ≤ xs ∧ xs ≤ xr ∧ 10000000 < xr)) ∧ E4 = 3 ∧ q4 = 0 ∧ e4 = 0) ∨ (1 ≤ xs ∧ xs ≤ xr ∧ xr ≤ 10000000 ∧ (t == 0) = true ∧ E4 = 7 ∧ q4 = 0 ∧ e4 = 0) ∨ (1 ≤ xs ∧ xs ≤ xr ∧ xr ≤ 10000000 ∧ (t == 0) = false ∧ E4 = 0 ∧ IntKind.i64.wrap (xr - xs) = xr - xs ∧ IntKind.i64.wrap (500 * (xr - xs)) = 500 * (xr - xs) ∧ IntKind.i64.wrap (t * p) = t * p ∧ IntKind.i64.wrap (t * p * s) = t * p * s ∧ (∀ w : World, Calls Try.prog 20 #[.int .i64 (500 * (xr - xs)), .int .i64 (t * p * s)] w fun e w' => e = .returned (.agg #[.int .i64 q4, .int .i64 e4]) ∧ Below w.heap.size w w')))) (w : World) :
    Calls Try.prog 5 #[.agg #[.int .i64 p, .int .i64 l, .int .i64 r, .int .i64 a, .int .i64 b, .int .i64 s, .bool true, .int .i64 t], .agg #[.int .i64 xa, .int .i64 xd, .int .i64 xx, .int .i64 xs, .int .i64 xr]] w fun e w' => e = .returned (.bool true) ∧ Below w.heap.size w w' := by
  have qR := eqR
  have nR := neqR
  have gR := guardR
  go_enter Try.func5, Try.ntmps5
  go_wp2_with fail
  refine (HA.out _).mono ?_
  rintro e w1 ⟨rfl, hb1⟩
  have Xb2_1 : Box w1 w.heap.size #[.int .i64 p, .int .i64 l, .int .i64 r, .int .i64 a, .int .i64 b, .int .i64 s, .bool true, .int .i64 t] := Box.below (Box.alloc (Box.new w _ _) _) hb1
  have Xb3_1 : Box w1 (w.heap.size + 1) #[.int .i64 xa, .int .i64 xd, .int .i64 xx, .int .i64 xs, .int .i64 xr] := Box.below (Box.newAt (w.alloc _) _ _ (by simp)) hb1
  have hB1 : Below w.heap.size w w1 := stepB (by go_grown) hb1
  have hs1 := hB1.size
  clear hb1
  have cc2 := Xb2_1.2.1
  have ll2 := Xb2_1.1
  go_wp2_with fail
  refine (HP.out _).mono ?_
  rintro e w2 ⟨rfl, hb2⟩
  have Xb2_2 : Box w2 w.heap.size #[.int .i64 p, .int .i64 l, .int .i64 r, .int .i64 a, .int .i64 b, .int .i64 s, .bool true, .int .i64 t] := Box.below (Box.alloc Xb2_1 _) hb2
  have Xb3_2 : Box w2 (w.heap.size + 1) #[.int .i64 xa, .int .i64 xd, .int .i64 xx, .int .i64 xs, .int .i64 xr] := Box.below (Box.alloc Xb3_1 _) hb2
  have Xb5_2 : Box w2 w1.heap.size #[.int .i64 q1, .int .i64 e1] := Box.below (Box.new w1 _ _) hb2
  have hB2 : Below w.heap.size w w2 := stepB (by go_grown) hb2
  have hs2 := hB2.size
  clear hb2 hB1 hs1 Xb2_1 Xb3_1 cc2 ll2
  have cc2 := Xb2_2.2.1
  have ll2 := Xb2_2.1
  have cc3 := Xb3_2.2.1
  have ll3 := Xb3_2.1
  go_wp2_with fail
  refine (HD.out _).mono ?_
  rintro e w3 ⟨rfl, hb3⟩
  have Xb2_3 : Box w3 w.heap.size #[.int .i64 p, .int .i64 l, .int .i64 r, .int .i64 a, .int .i64 b, .int .i64 s, .bool true, .int .i64 t] := Box.below (Box.alloc Xb2_2 _) hb3
  have Xb3_3 : Box w3 (w.heap.size + 1) #[.int .i64 xa, .int .i64 xd, .int .i64 xx, .int .i64 xs, .int .i64 xr] := Box.below (Box.alloc Xb3_2 _) hb3
  have Xb5_3 : Box w3 w1.heap.size #[.int .i64 q1, .int .i64 e1] := Box.below (Box.alloc Xb5_2 _) hb3
  have Xb7_3 : Box w3 w2.heap.size #[.int .i64 q2, .int .i64 e2] := Box.below (Box.new w2 _ _) hb3
  have hB3 : Below w.heap.size w w3 := stepB (by go_grown) hb3
  have hs3 := hB3.size
  clear hb3 hB2 hs2 Xb2_2 Xb3_2 Xb5_2 cc2 ll2 cc3 ll3
  have cc2 := Xb2_3.2.1
  have ll2 := Xb2_3.1
  have cc3 := Xb3_3.2.1
  have ll3 := Xb3_3.1
  go_wp2_with fail
  refine (HM.out _).mono ?_
  rintro e w4 ⟨rfl, hb4⟩
  have Xb2_4 : Box w4 w.heap.size #[.int .i64 p, .int .i64 l, .int .i64 r, .int .i64 a, .int .i64 b, .int .i64 s, .bool true, .int .i64 t] := Box.below (Box.alloc Xb2_3 _) hb4
  have Xb3_4 : Box w4 (w.heap.size + 1) #[.int .i64 xa, .int .i64 xd, .int .i64 xx, .int .i64 xs, .int .i64 xr] := Box.below (Box.alloc Xb3_3 _) hb4
  have Xb5_4 : Box w4 w1.heap.size #[.int .i64 q1, .int .i64 e1] := Box.below (Box.alloc Xb5_3 _) hb4
  have Xb7_4 : Box w4 w2.heap.size #[.int .i64 q2, .int .i64 e2] := Box.below (Box.alloc Xb7_3 _) hb4
  have Xb9_4 : Box w4 w3.heap.size #[.int .i64 q3, .int .i64 e3] := Box.below (Box.new w3 _ _) hb4
  have hB4 : Below w.heap.size w w4 := stepB (by go_grown) hb4
  have hs4 := hB4.size
  clear hb4 hB3 hs3 Xb2_3 Xb3_3 Xb5_3 Xb7_3 cc2 ll2 cc3 ll3
  have cc2 := Xb2_4.2.1
  have ll2 := Xb2_4.1
  go_wp2_with fail
  refine (HF.out _).mono ?_
  rintro e w5 ⟨rfl, hb5⟩
  have Xb2_5 : Box w5 w.heap.size #[.int .i64 p, .int .i64 l, .int .i64 r, .int .i64 a, .int .i64 b, .int .i64 s, .bool true, .int .i64 t] := Box.below (Box.alloc (Box.alloc Xb2_4 _) _) hb5
  have Xb3_5 : Box w5 (w.heap.size + 1) #[.int .i64 xa, .int .i64 xd, .int .i64 xx, .int .i64 xs, .int .i64 xr] := Box.below (Box.alloc (Box.alloc Xb3_4 _) _) hb5
  have Xb5_5 : Box w5 w1.heap.size #[.int .i64 q1, .int .i64 e1] := Box.below (Box.alloc (Box.alloc Xb5_4 _) _) hb5
  have Xb7_5 : Box w5 w2.heap.size #[.int .i64 q2, .int .i64 e2] := Box.below (Box.alloc (Box.alloc Xb7_4 _) _) hb5
  have Xb9_5 : Box w5 w3.heap.size #[.int .i64 q3, .int .i64 e3] := Box.below (Box.alloc (Box.alloc Xb9_4 _) _) hb5
  have Xb11_5 : Box w5 w4.heap.size #[.int .i64 q4, .int .i64 e4] := Box.below (Box.alloc (Box.new w4 _ _) _) hb5
  have Xb13_5 : Box w5 (w4.heap.size + 1) #[.int .i64 0, .int .i64 0] := Box.below (Box.newAt (w4.alloc _) _ _ (by simp)) hb5
  have hB5 : Below w.heap.size w w5 := stepB (by go_grown) hb5
  have hs5 := hB5.size
  clear hb5 hB4 hs4 Xb2_4 Xb3_4 Xb5_4 Xb7_4 Xb9_4 cc2 ll2
  go_wp2
  have Yb2 : Box w5 w.heap.size #[.int .i64 p, .int .i64 l, .int .i64 r, .int .i64 a, .int .i64 b, .int .i64 s, .bool true, .int .i64 t] := Xb2_5
  have Yb3 : Box w5 (w.heap.size + 1) #[.int .i64 xa, .int .i64 xd, .int .i64 xx, .int .i64 xs, .int .i64 xr] := Xb3_5
  have Yb5 : Box w5 w1.heap.size #[.int .i64 q1, .int .i64 e1] := Xb5_5
  have Yb7 : Box w5 w2.heap.size #[.int .i64 q2, .int .i64 e2] := Xb7_5
  have Yb9 : Box w5 w3.heap.size #[.int .i64 q3, .int .i64 e3] := Xb9_5
  have Yb11 : Box w5 w4.heap.size #[.int .i64 q4, .int .i64 e4] := Xb11_5
  have Yb13 : Box w5 (w4.heap.size + 1) #[.int .i64 0, .int .i64 0] := Xb13_5
  have hBX : Below w.heap.size w w5 := by go_grown
  clear hB5 hs5 Xb2_5 Xb3_5 Xb5_5 Xb7_5 Xb9_5 Xb11_5 Xb13_5
  have hsX := hBX.size
  have rd2 := fun d os => (Yb2.regrown d os).2.1
  have rd7 := fun d os => (Yb7.regrown d os).2.1
  have kc95 := fun d os => (HL2.out (Go.Sort.grow (redrawn w5 d) os)).regrown_of
  have Zb2 := Lib.hid Yb2
  have Zb3 := Lib.hid Yb3
  have Zb5 := Lib.hid Yb5
  have Zb9 := Lib.hid Yb9
  have Zb11 := Lib.hid Yb11
  have Zb13 := Lib.hid Yb13
  clear Yb2 Yb3 Yb5 Yb7 Yb9 Yb11 Yb13
  refine wp_region_quiet_below (by kernel_rfl) (by kernel_rfl) ?_
  repeat ((with_reducible refine wpQuiet_step (fun K hK => ?_)); go_simp; first | ((with_reducible refine hK _ ?_); clear hK K) | (apply Exists.intro; refine ⟨fun _ => ?_, hK _ ?_⟩; (first | (go_at_call 20; with_reducible exact kc95 _ _)); clear hK K))
  with_reducible refine wpQuiet_nil ?_
  intro w6 hw'
  obtain ⟨⟨dq, osq⟩, hw''⟩ := hw'
  have hb6 : Below w5.heap.size w5 w6 := by rw [hw'']; exact below_regrown w5 dq osq
  have Xb2_6 : Box w6 w.heap.size #[.int .i64 p, .int .i64 l, .int .i64 r, .int .i64 a, .int .i64 b, .int .i64 s, .bool true, .int .i64 t] := Zb2.out.below hb6
  have Xb3_6 : Box w6 (w.heap.size + 1) #[.int .i64 xa, .int .i64 xd, .int .i64 xx, .int .i64 xs, .int .i64 xr] := Zb3.out.below hb6
  have Xb5_6 : Box w6 w1.heap.size #[.int .i64 q1, .int .i64 e1] := Zb5.out.below hb6
  have Xb9_6 : Box w6 w3.heap.size #[.int .i64 q3, .int .i64 e3] := Zb9.out.below hb6
  have Xb11_6 : Box w6 w4.heap.size #[.int .i64 q4, .int .i64 e4] := Zb11.out.below hb6
  have Xb13_6 : Box w6 (w4.heap.size + 1) #[.int .i64 0, .int .i64 0] := Zb13.out.below hb6
  have hB6 : Below w.heap.size w w6 := stepB hBX hb6
  have hs6 := hB6.size
  clear hw'' hb6 hBX hsX rd2 rd7 kc95 Zb2 Zb3 Zb5 Zb9 Zb11 Zb13
  have cc3 := Xb3_6.2.1
  have ll3 := Xb3_6.1
  go_wp2_with fail
  refine (in_any _ _ _ _).mono ?_
  rintro e w9 ⟨rfl, rfl⟩
  go_upto_if 100 with fail
  go_cut [6] (fun s6 wx => Box wx w.heap.size #[.int .i64 p, .int .i64 l, .int .i64 r, .int .i64 a, .int .i64 b, .int .i64 s, .bool true, .int .i64 t] ∧ Box wx (w.heap.size + 1) #[.int .i64 xa, .int .i64 xd, .int .i64 xx, .int .i64 xs, .int .i64 xr] ∧ Box wx w3.heap.size #[.int .i64 q3, .int .i64 e3] ∧ Box wx w4.heap.size #[.int .i64 q4, .int .i64 e4] ∧ Box wx (w4.heap.size + 1) #[.int .i64 0, .int .i64 0] ∧ Below w.heap.size w wx)
  case first =>
    rcases CA.out with ⟨hA, hE, g1, g2, g3, hL⟩ | ⟨hA, hE, hq, he⟩
    · rw [hA]
      have HL := Lib.hid hL
      clear hL hA CA CD CX CM
      clear cc3 ll3
      have cc2 := Xb2_6.2.1
      have ll2 := Xb2_6.1
      have cc3 := Xb3_6.2.1
      have ll3 := Xb3_6.1
      go_wp2
      have Yb2 : Box w6 w.heap.size #[.int .i64 p, .int .i64 l, .int .i64 r, .int .i64 a, .int .i64 b, .int .i64 s, .bool true, .int .i64 t] := Xb2_6
      have Yb3 : Box w6 (w.heap.size + 1) #[.int .i64 xa, .int .i64 xd, .int .i64 xx, .int .i64 xs, .int .i64 xr] := Xb3_6
      have Yb5 : Box w6 w1.heap.size #[.int .i64 q1, .int .i64 e1] := Xb5_6
      have Yb9 : Box w6 w3.heap.size #[.int .i64 q3, .int .i64 e3] := Xb9_6
      have Yb11 : Box w6 w4.heap.size #[.int .i64 q4, .int .i64 e4] := Xb11_6
      have Yb13 : Box w6 (w4.heap.size + 1) #[.int .i64 0, .int .i64 0] := Xb13_6
      have hBX : Below w.heap.size w w6 := by go_grown
      clear hB6 hs6 Xb2_6 Xb3_6 Xb5_6 Xb9_6 Xb11_6 Xb13_6 cc2 ll2 cc3 ll3
      have hsX := hBX.size
      have rd5 := fun d os => (Yb5.regrown d os).2.1
      have kc118 := fun d os => (HL.out (Go.Sort.grow (redrawn w6 d) os)).regrown_of
      have Zb2 := Lib.hid Yb2
      have Zb3 := Lib.hid Yb3
      have Zb9 := Lib.hid Yb9
      have Zb11 := Lib.hid Yb11
      have Zb13 := Lib.hid Yb13
      clear Yb2 Yb3 Yb5 Yb9 Yb11 Yb13
      refine wp_region_quiet_below (by kernel_rfl) (by kernel_rfl) ?_
      repeat ((with_reducible refine wpQuiet_step (fun K hK => ?_)); go_simp; first | ((with_reducible refine hK _ ?_); clear hK K) | (apply Exists.intro; refine ⟨fun _ => ?_, hK _ ?_⟩; (first | (go_at_call 20; with_reducible exact kc118 _ _)); clear hK K))
      with_reducible refine wpQuiet_nil ?_
      intro w7 hw'
      obtain ⟨⟨dq, osq⟩, hw''⟩ := hw'
      have hb7 : Below w6.heap.size w6 w7 := by rw [hw'']; exact below_regrown w6 dq osq
      have Xb2_7 : Box w7 w.heap.size #[.int .i64 p, .int .i64 l, .int .i64 r, .int .i64 a, .int .i64 b, .int .i64 s, .bool true, .int .i64 t] := Zb2.out.below hb7
      have Xb3_7 : Box w7 (w.heap.size + 1) #[.int .i64 xa, .int .i64 xd, .int .i64 xx, .int .i64 xs, .int .i64 xr] := Zb3.out.below hb7
      have Xb9_7 : Box w7 w3.heap.size #[.int .i64 q3, .int .i64 e3] := Zb9.out.below hb7
      have Xb11_7 : Box w7 w4.heap.size #[.int .i64 q4, .int .i64 e4] := Zb11.out.below hb7
      have Xb13_7 : Box w7 (w4.heap.size + 1) #[.int .i64 0, .int .i64 0] := Zb13.out.below hb7
      have hB7 : Below w.heap.size w w7 := stepB hBX hb7
      have hs7 := hB7.size
      clear hw'' hb7 hBX hsX rd5 kc118 Zb2 Zb3 Zb9 Zb11 Zb13
      go_wp2_with fail
      go_meet
      exact ⟨Xb2_7, Xb3_7, Xb9_7, Xb11_7, Xb13_7, hB7⟩
    · rw [hA]
      clear hA CA CD CX CM
      clear cc3 ll3
      have cc5 := Xb5_6.2.1
      have ll5 := Xb5_6.1
      have cc13 := Xb13_6.2.1
      have ll13 := Xb13_6.1
      go_wp2_with fail
      go_meet
      exact ⟨Xb2_6, Xb3_6, Xb9_6, Xb11_6, Xb13_6, hB6⟩
  case rest =>
    obtain ⟨w8, rfl⟩ : ∃ x : World, x = wc := ⟨_, rfl⟩
    obtain ⟨Xb2_8, Xb3_8, Xb9_8, Xb11_8, Xb13_8, hB8⟩ := hcut
    clear Xb2_6 Xb3_6 Xb5_6 Xb9_6 Xb11_6 Xb13_6 cc3 ll3 hB6 hs6
    have hs8 := hB8.size
    go_upto_region 18 with fail
    go_cut [135] (fun s135 wx => s135 = .bool dB ∧ Box wx w.heap.size #[.int .i64 p, .int .i64 l, .int .i64 r, .int .i64 a, .int .i64 b, .int .i64 s, .bool true, .int .i64 t] ∧ Box wx (w.heap.size + 1) #[.int .i64 xa, .int .i64 xd, .int .i64 xx, .int .i64 xs, .int .i64 xr] ∧ Box wx w3.heap.size #[.int .i64 q3, .int .i64 e3] ∧ Box wx w4.heap.size #[.int .i64 q4, .int .i64 e4] ∧ Box wx (w4.heap.size + 1) #[.int .i64 0, .int .i64 0] ∧ Below w.heap.size w wx)
    case first =>
      rcases CD.out with ⟨hA, hD⟩ | ⟨hA, hD⟩
      · clear CA CD CX CM
        have cc3 := Xb3_8.2.1
        have ll3 := Xb3_8.1
        go_wp2_with fail
        refine (in_any _ _ _ _).mono ?_
        rintro e w9 ⟨rfl, rfl⟩
        rw [hA]
        go_wp2_with fail
        go_meet
        exact ⟨by rw [hD], Xb2_8, Xb3_8, Xb9_8, Xb11_8, Xb13_8, hB8⟩
      · clear CA CD CX CM
        have cc3 := Xb3_8.2.1
        have ll3 := Xb3_8.1
        go_wp2_with fail
        refine (in_any _ _ _ _).mono ?_
        rintro e w9 ⟨rfl, rfl⟩
        rw [hA]
        go_wp2_with fail
        refine (in_any _ _ _ _).mono ?_
        rintro e w9 ⟨rfl, rfl⟩
        rw [hD]
        go_wp2_with fail
        go_meet
        exact ⟨rfl, Xb2_8, Xb3_8, Xb9_8, Xb11_8, Xb13_8, hB8⟩
    case rest =>
      obtain ⟨w9, rfl⟩ : ∃ x : World, x = wc := ⟨_, rfl⟩
      obtain ⟨rfl, Xb2_9, Xb3_9, Xb9_9, Xb11_9, Xb13_9, hB9⟩ := hcut
      clear Xb2_8 Xb3_8 Xb9_8 Xb11_8 Xb13_8 hB8 hs8
      have hs9 := hB9.size
      go_upto_if 135 with fail
      go_cut [10] (fun s10 wx => Box wx w.heap.size #[.int .i64 p, .int .i64 l, .int .i64 r, .int .i64 a, .int .i64 b, .int .i64 s, .bool true, .int .i64 t] ∧ Box wx (w.heap.size + 1) #[.int .i64 xa, .int .i64 xd, .int .i64 xx, .int .i64 xs, .int .i64 xr] ∧ Box wx w4.heap.size #[.int .i64 q4, .int .i64 e4] ∧ Box wx (w4.heap.size + 1) #[.int .i64 0, .int .i64 0] ∧ Below w.heap.size w wx)
      case first =>
        rcases CX.out with ⟨hA, hE, g1, g2, g3, g4, hL⟩ | ⟨hA, hE, hq, he⟩
        · rw [hA]
          have HL := Lib.hid hL
          clear hL hA CA CD CX CM
          go_wp2
          have Yb2 : Box w9 w.heap.size #[.int .i64 p, .int .i64 l, .int .i64 r, .int .i64 a, .int .i64 b, .int .i64 s, .bool true, .int .i64 t] := Xb2_9
          have Yb3 : Box w9 (w.heap.size + 1) #[.int .i64 xa, .int .i64 xd, .int .i64 xx, .int .i64 xs, .int .i64 xr] := Xb3_9
          have Yb9 : Box w9 w3.heap.size #[.int .i64 q3, .int .i64 e3] := Xb9_9
          have Yb11 : Box w9 w4.heap.size #[.int .i64 q4, .int .i64 e4] := Xb11_9
          have Yb13 : Box w9 (w4.heap.size + 1) #[.int .i64 0, .int .i64 0] := Xb13_9
          have hBX : Below w.heap.size w w9 := by go_grown
          clear hB9 hs9 Xb2_9 Xb3_9 Xb9_9 Xb11_9 Xb13_9
          have hsX := hBX.size
          have rd2 := fun d os => (Yb2.regrown d os).2.1
          have rd3 := fun d os => (Yb3.regrown d os).2.1
          have rd9 := fun d os => (Yb9.regrown d os).2.1
          have kc150 := fun d os => (HL.out (Go.Sort.grow (redrawn w9 d) os)).regrown_of
          have Zb2 := Lib.hid Yb2
          have Zb3 := Lib.hid Yb3
          have Zb11 := Lib.hid Yb11
          have Zb13 := Lib.hid Yb13
          clear Yb2 Yb3 Yb9 Yb11 Yb13
          refine wp_region_quiet_below (by kernel_rfl) (by kernel_rfl) ?_
          repeat ((with_reducible refine wpQuiet_step (fun K hK => ?_)); go_simp; first | ((with_reducible refine hK _ ?_); clear hK K) | (apply Exists.intro; refine ⟨fun _ => ?_, hK _ ?_⟩; (first | (go_at_call 20; with_reducible exact kc150 _ _)); clear hK K))
          with_reducible refine wpQuiet_nil ?_
          intro w10 hw'
          obtain ⟨⟨dq, osq⟩, hw''⟩ := hw'
          have hb10 : Below w9.heap.size w9 w10 := by rw [hw'']; exact below_regrown w9 dq osq
          have Xb2_10 : Box w10 w.heap.size #[.int .i64 p, .int .i64 l, .int .i64 r, .int .i64 a, .int .i64 b, .int .i64 s, .bool true, .int .i64 t] := Zb2.out.below hb10
          have Xb3_10 : Box w10 (w.heap.size + 1) #[.int .i64 xa, .int .i64 xd, .int .i64 xx, .int .i64 xs, .int .i64 xr] := Zb3.out.below hb10
          have Xb11_10 : Box w10 w4.heap.size #[.int .i64 q4, .int .i64 e4] := Zb11.out.below hb10
          have Xb13_10 : Box w10 (w4.heap.size + 1) #[.int .i64 0, .int .i64 0] := Zb13.out.below hb10
          have hB10 : Below w.heap.size w w10 := stepB hBX hb10
          have hs10 := hB10.size
          clear hw'' hb10 hBX hsX rd2 rd3 rd9 kc150 Zb2 Zb3 Zb11 Zb13
          go_wp2_with fail
          go_meet
          exact ⟨Xb2_10, Xb3_10, Xb11_10, Xb13_10, hB10⟩
        · rw [hA]
          clear hA CA CD CX CM
          have cc9 := Xb9_9.2.1
          have ll9 := Xb9_9.1
          have cc13 := Xb13_9.2.1
          have ll13 := Xb13_9.1
          go_wp2_with fail
          go_meet
          exact ⟨Xb2_9, Xb3_9, Xb11_9, Xb13_9, hB9⟩
      case rest =>
        obtain ⟨w11, rfl⟩ : ∃ x : World, x = wc := ⟨_, rfl⟩
        obtain ⟨Xb2_11, Xb3_11, Xb11_11, Xb13_11, hB11⟩ := hcut
        clear Xb2_9 Xb3_9 Xb9_9 Xb11_9 Xb13_9 hB9 hs9
        have hs11 := hB11.size
        rcases CM.out with ⟨hA, hE, hq, he⟩ | ⟨hA, hA2, hA3, hT, hE, hq, he⟩ | ⟨hA, hA2, hA3, hT, hE, g1, g2, g3, g4, hL⟩
        all_goals clear CA CD CX CM
        · rcases hA with hA | ⟨hA, hA2⟩ | ⟨hA, hA2, hA3⟩
          · have d1 : decide (xs < 1) = true := decide_eq_true hA
            have cc3 := Xb3_11.2.1
            have ll3 := Xb3_11.1
            have cc11 := Xb11_11.2.1
            have ll11 := Xb11_11.1
            have cc13 := Xb13_11.2.1
            have ll13 := Xb13_11.1
            go_wp2_with fail
            refine (known_any _).mono ?_
            rintro e w12 ⟨rfl, hb12⟩
            have hB12 : Below w.heap.size w w12 := stepB (by go_grown) hb12
            have hs12 := hB12.size
            clear hb12 hB11 hs11 Xb2_11 Xb3_11 Xb11_11 Xb13_11 cc3 ll3 cc11 ll11 cc13 ll13
            go_wp2
            go_returns
            exact ⟨rfl, hB12⟩
          · have d1 : decide (xs < 1) = false := decide_eq_false (by omega)
            have d2 : decide (xr < xs) = true := decide_eq_true hA2
            have cc3 := Xb3_11.2.1
            have ll3 := Xb3_11.1
            have cc11 := Xb11_11.2.1
            have ll11 := Xb11_11.1
            have cc13 := Xb13_11.2.1
            have ll13 := Xb13_11.1
            go_wp2_with fail
            refine (known_any _).mono ?_
            rintro e w12 ⟨rfl, hb12⟩
            have hB12 : Below w.heap.size w w12 := stepB (by go_grown) hb12
            have hs12 := hB12.size
            clear hb12 hB11 hs11 Xb2_11 Xb3_11 Xb11_11 Xb13_11 cc3 ll3 cc11 ll11 cc13 ll13
            go_wp2
            go_returns
            exact ⟨rfl, hB12⟩
          · have d1 : decide (xs < 1) = false := decide_eq_false (by omega)
            have d2 : decide (xr < xs) = false := decide_eq_false (by omega)
            have d3 : decide (10000000 < xr) = true := decide_eq_true hA3
            have cc3 := Xb3_11.2.1
            have ll3 := Xb3_11.1
            have cc11 := Xb11_11.2.1
            have ll11 := Xb11_11.1
            have cc13 := Xb13_11.2.1
            have ll13 := Xb13_11.1
            go_wp2_with fail
            refine (known_any _).mono ?_
            rintro e w12 ⟨rfl, hb12⟩
            have hB12 : Below w.heap.size w w12 := stepB (by go_grown) hb12
            have hs12 := hB12.size
            clear hb12 hB11 hs11 Xb2_11 Xb3_11 Xb11_11 Xb13_11 cc3 ll3 cc11 ll11 cc13 ll13
            go_wp2
            go_returns
            exact ⟨rfl, hB12⟩
        · have d1 : decide (xs < 1) = false := decide_eq_false (by omega)
          have d2 : decide (xr < xs) = false := decide_eq_false (by omega)
          have d3 : decide (10000000 < xr) = false := decide_eq_false (by omega)
          have cc2 := Xb2_11.2.1
          have ll2 := Xb2_11.1
          have cc3 := Xb3_11.2.1
          have ll3 := Xb3_11.1
          have cc11 := Xb11_11.2.1
          have ll11 := Xb11_11.1
          have cc13 := Xb13_11.2.1
          have ll13 := Xb13_11.1
          go_wp2_with fail
          refine (known_any _).mono ?_
          rintro e w12 ⟨rfl, hb12⟩
          have hB12 : Below w.heap.size w w12 := stepB (by go_grown) hb12
          have hs12 := hB12.size
          clear hb12 hB11 hs11 Xb2_11 Xb3_11 Xb11_11 Xb13_11 cc2 ll2 cc3 ll3 cc11 ll11 cc13 ll13
          go_wp2
          go_returns
          exact ⟨rfl, hB12⟩
        · have d1 : decide (xs < 1) = false := decide_eq_false (by omega)
          have d2 : decide (xr < xs) = false := decide_eq_false (by omega)
          have d3 : decide (10000000 < xr) = false := decide_eq_false (by omega)
          have HL := Lib.hid hL
          clear hL
          have cc2 := Xb2_11.2.1
          have ll2 := Xb2_11.1
          have cc3 := Xb3_11.2.1
          have ll3 := Xb3_11.1
          go_wp2
          have Yb2 : Box w11 w.heap.size #[.int .i64 p, .int .i64 l, .int .i64 r, .int .i64 a, .int .i64 b, .int .i64 s, .bool true, .int .i64 t] := Xb2_11
          have Yb3 : Box w11 (w.heap.size + 1) #[.int .i64 xa, .int .i64 xd, .int .i64 xx, .int .i64 xs, .int .i64 xr] := Xb3_11
          have Yb11 : Box w11 w4.heap.size #[.int .i64 q4, .int .i64 e4] := Xb11_11
          have hBX : Below w.heap.size w w11 := by go_grown
          clear hB11 hs11 Xb2_11 Xb3_11 Xb11_11 Xb13_11 cc2 ll2 cc3 ll3
          have hsX := hBX.size
          have rd2 := fun d os => (Yb2.regrown d os).2.1
          have rd3 := fun d os => (Yb3.regrown d os).2.1
          have rd11 := fun d os => (Yb11.regrown d os).2.1
          have kc218 := fun d os => (HL.out (Go.Sort.grow (redrawn w11 d) os)).regrown_of
          have kc222 := fun d os => (known_any (Go.Sort.grow (redrawn w11 d) os)).regrown_of
          clear Yb2 Yb3 Yb11
          refine wp_region_quiet_below (by kernel_rfl) (by kernel_rfl) ?_
          repeat ((with_reducible refine wpQuiet_step (fun K hK => ?_)); go_simp; first | ((with_reducible refine hK _ ?_); clear hK K) | (apply Exists.intro; refine ⟨fun _ => ?_, hK _ ?_⟩; (first | (go_at_call 20; with_reducible exact kc218 _ _) | (go_at_call 18; with_reducible exact kc222 _ _)); clear hK K))
          with_reducible refine wpQuiet_nil ?_
          intro w12 hw'
          obtain ⟨⟨dq, osq⟩, hw''⟩ := hw'
          have hb12 : Below w11.heap.size w11 w12 := by rw [hw'']; exact below_regrown w11 dq osq
          have hB12 : Below w.heap.size w w12 := stepB hBX hb12
          have hs12 := hB12.size
          clear hw'' hb12 hBX hsX rd2 rd3 rd11 kc218 kc222
          go_wp2
          go_returns
          exact ⟨rfl, hB12⟩

end Go.Proofs.Ytloleaahelmdjaa
