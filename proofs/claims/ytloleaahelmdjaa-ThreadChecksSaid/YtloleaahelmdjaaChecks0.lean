/- ThreadChecks: its ways. Made by tools/gen_checks.py. -/
import Derived.Test.YtloleaahelmdjaaLaw2
namespace Go.Proofs.Ytloleaahelmdjaa
open Go.ChangeShapes Go.WideShapes Go.ChangeAt Go.RowKit
set_option linter.unusedVariables false
set_option linter.unusedSimpArgs false

set_option maxRecDepth 100000 in
set_option maxHeartbeats 2000000 in
theorem checks_bad (p l r a b s t : Int) (h : Bool) (y : Int) (HC : Hid (∀ w : World, Calls Try.prog 14 #[.agg #[.int .i64 p, .int .i64 l, .int .i64 r, .int .i64 a, .int .i64 b, .int .i64 s, .bool h, .int .i64 t]] w fun e w' => e = .returned (.int .i64 2) ∧ Below w.heap.size w w')) (HW : Hid (∀ w : World, Calls Try.prog 15 #[.agg #[.int .i64 p, .int .i64 l, .int .i64 r, .int .i64 a, .int .i64 b, .int .i64 s, .bool h, .int .i64 t], .int .i64 y] w fun e w' => e = .returned (.tuple #[.agg #[.int .i64 0, .int .i64 0], .int .i64 2]) ∧ Below w.heap.size w w')) (HS : Hid (∀ w : World, Calls Try.prog 16 #[.agg #[.int .i64 p, .int .i64 l, .int .i64 r, .int .i64 a, .int .i64 b, .int .i64 s, .bool h, .int .i64 t]] w fun e w' => e = .returned (.tuple #[.agg #[.int .i64 0, .int .i64 0], .int .i64 2]) ∧ Below w.heap.size w w')) (HF : Hid (∀ w : World, Calls Try.prog 17 #[.agg #[.int .i64 p, .int .i64 l, .int .i64 r, .int .i64 a, .int .i64 b, .int .i64 s, .bool h, .int .i64 t]] w fun e w' => e = .returned (.bool false) ∧ Below w.heap.size w w')) (w : World) :
    Calls Try.prog 3 #[.agg #[.int .i64 p, .int .i64 l, .int .i64 r, .int .i64 a, .int .i64 b, .int .i64 s, .bool h, .int .i64 t], .int .i64 y] w fun e w' => e = .returned (.bool true) ∧ Below w.heap.size w w' := by
  have qR := eqR
  have nR := neqR
  have gR := guardR
  go_enter Try.func3, Try.ntmps3
  go_wp2_with fail
  refine (HC.out _).mono ?_
  rintro e w1 ⟨rfl, hb1⟩
  have Xb2_1 : Box w1 w.heap.size #[.int .i64 p, .int .i64 l, .int .i64 r, .int .i64 a, .int .i64 b, .int .i64 s, .bool h, .int .i64 t] := Box.below (Box.new w _ _) hb1
  have hB1 : Below w.heap.size w w1 := stepB (by go_grown) hb1
  have hs1 := hB1.size
  clear hb1
  have cc2 := Xb2_1.2.1
  have ll2 := Xb2_1.1
  go_wp2_with fail
  refine (HW.out _).mono ?_
  rintro e w2 ⟨rfl, hb2⟩
  have Xb2_2 : Box w2 w.heap.size #[.int .i64 p, .int .i64 l, .int .i64 r, .int .i64 a, .int .i64 b, .int .i64 s, .bool h, .int .i64 t] := Box.below Xb2_1 hb2
  have hB2 : Below w.heap.size w w2 := stepB (by go_grown) hb2
  have hs2 := hB2.size
  clear hb2 hB1 hs1 Xb2_1 cc2 ll2
  have cc2 := Xb2_2.2.1
  have ll2 := Xb2_2.1
  go_wp2_with fail
  refine (HS.out _).mono ?_
  rintro e w3 ⟨rfl, hb3⟩
  have Xb2_3 : Box w3 w.heap.size #[.int .i64 p, .int .i64 l, .int .i64 r, .int .i64 a, .int .i64 b, .int .i64 s, .bool h, .int .i64 t] := Box.below (Box.alloc Xb2_2 _) hb3
  have Xb6_3 : Box w3 w2.heap.size #[.int .i64 0, .int .i64 0] := Box.below (Box.new w2 _ _) hb3
  have hB3 : Below w.heap.size w w3 := stepB (by go_grown) hb3
  have hs3 := hB3.size
  clear hb3 hB2 hs2 Xb2_2 cc2 ll2
  have cc2 := Xb2_3.2.1
  have ll2 := Xb2_3.1
  go_wp2_with fail
  refine (HF.out _).mono ?_
  rintro e w4 ⟨rfl, hb4⟩
  have Xb6_4 : Box w4 w2.heap.size #[.int .i64 0, .int .i64 0] := Box.below (Box.alloc Xb6_3 _) hb4
  have Xb8_4 : Box w4 w3.heap.size #[.int .i64 0, .int .i64 0] := Box.below (Box.new w3 _ _) hb4
  have hB4 : Below w.heap.size w w4 := stepB (by go_grown) hb4
  have hs4 := hB4.size
  clear hb4 hB3 hs3 Xb2_3 Xb6_3 cc2 ll2
  have cc6 := Xb6_4.2.1
  have ll6 := Xb6_4.1
  have cc8 := Xb8_4.2.1
  have ll8 := Xb8_4.1
  go_wp2_with fail
  refine (known_any _).mono ?_
  rintro e w5 ⟨rfl, hb5⟩
  have hB5 : Below w.heap.size w w5 := stepB (by go_grown) hb5
  have hs5 := hB5.size
  clear hb5 hB4 hs4 Xb6_4 Xb8_4 cc6 ll6 cc8 ll8
  go_wp2
  go_returns
  exact ⟨rfl, hB5⟩

set_option maxRecDepth 100000 in
set_option maxHeartbeats 2000000 in
theorem checks_in0 (p l r a b s t : Int) (h : Bool) (y : Int) (Y0 : -9223372036854775808 ≤ y) (Y1 : y ≤ 9223372036854775807) (p0 : 100 ≤ p) (p1 : p ≤ 200000) (l0 : 0 ≤ l) (l1 : l ≤ 3000) (r0 : 0 ≤ r) (r1 : r ≤ 3000) (a0 : 0 ≤ a) (a1 : a ≤ 200000) (b0 : 0 ≤ b) (b1 : b ≤ 200000) (HC : Hid (∀ w : World, Calls Try.prog 14 #[.agg #[.int .i64 p, .int .i64 l, .int .i64 r, .int .i64 a, .int .i64 b, .int .i64 s, .bool h, .int .i64 t]] w fun e w' => e = .returned (.int .i64 0) ∧ Below w.heap.size w w')) (HF : Hid (∀ w : World, Calls Try.prog 17 #[.agg #[.int .i64 p, .int .i64 l, .int .i64 r, .int .i64 a, .int .i64 b, .int .i64 s, .bool h, .int .i64 t]] w fun e w' => e = .returned (.bool true) ∧ Below w.heap.size w w')) (q1 e1 v : Int) (hy : inB (-b) a y = true) (HW : Hid (∀ w : World, Calls Try.prog 15 #[.agg #[.int .i64 p, .int .i64 l, .int .i64 r, .int .i64 a, .int .i64 b, .int .i64 s, .bool h, .int .i64 t], .int .i64 y] w fun e w' => e = .returned (.tuple #[.agg #[.int .i64 q1, .int .i64 e1], .int .i64 0]) ∧ Below w.heap.size w w')) (HV : Hid (∀ w : World, Calls Try.prog 21 #[.agg #[.int .i64 p, .int .i64 l, .int .i64 r, .int .i64 a, .int .i64 b, .int .i64 s, .bool h, .int .i64 t], .int .i64 y] w fun e w' => e = .returned (.int .i64 v) ∧ Below w.heap.size w w')) (HL : Hid (∀ w : World, Calls Try.prog 20 #[.int .i64 v, .int .i64 2000] w fun e w' => e = .returned (.agg #[.int .i64 q1, .int .i64 e1]) ∧ Below w.heap.size w w')) (hn : (l + r == 0) = true) (HS : Hid (∀ w : World, Calls Try.prog 16 #[.agg #[.int .i64 p, .int .i64 l, .int .i64 r, .int .i64 a, .int .i64 b, .int .i64 s, .bool h, .int .i64 t]] w fun e w' => e = .returned (.tuple #[.agg #[.int .i64 0, .int .i64 0], .int .i64 7]) ∧ Below w.heap.size w w')) (w : World) :
    Calls Try.prog 3 #[.agg #[.int .i64 p, .int .i64 l, .int .i64 r, .int .i64 a, .int .i64 b, .int .i64 s, .bool h, .int .i64 t], .int .i64 y] w fun e w' => e = .returned (.bool true) ∧ Below w.heap.size w w' := by
  have qR := eqR
  have nR := neqR
  have gR := guardR
  go_enter Try.func3, Try.ntmps3
  go_wp2_with fail
  refine (HC.out _).mono ?_
  rintro e w1 ⟨rfl, hb1⟩
  have Xb2_1 : Box w1 w.heap.size #[.int .i64 p, .int .i64 l, .int .i64 r, .int .i64 a, .int .i64 b, .int .i64 s, .bool h, .int .i64 t] := Box.below (Box.new w _ _) hb1
  have hB1 : Below w.heap.size w w1 := stepB (by go_grown) hb1
  have hs1 := hB1.size
  clear hb1
  have cc2 := Xb2_1.2.1
  have ll2 := Xb2_1.1
  go_wp2_with fail
  refine (HW.out _).mono ?_
  rintro e w2 ⟨rfl, hb2⟩
  have Xb2_2 : Box w2 w.heap.size #[.int .i64 p, .int .i64 l, .int .i64 r, .int .i64 a, .int .i64 b, .int .i64 s, .bool h, .int .i64 t] := Box.below Xb2_1 hb2
  have hB2 : Below w.heap.size w w2 := stepB (by go_grown) hb2
  have hs2 := hB2.size
  clear hb2 hB1 hs1 Xb2_1 cc2 ll2
  have cc2 := Xb2_2.2.1
  have ll2 := Xb2_2.1
  go_wp2_with fail
  refine (HS.out _).mono ?_
  rintro e w3 ⟨rfl, hb3⟩
  have Xb2_3 : Box w3 w.heap.size #[.int .i64 p, .int .i64 l, .int .i64 r, .int .i64 a, .int .i64 b, .int .i64 s, .bool h, .int .i64 t] := Box.below (Box.alloc Xb2_2 _) hb3
  have Xb6_3 : Box w3 w2.heap.size #[.int .i64 q1, .int .i64 e1] := Box.below (Box.new w2 _ _) hb3
  have hB3 : Below w.heap.size w w3 := stepB (by go_grown) hb3
  have hs3 := hB3.size
  clear hb3 hB2 hs2 Xb2_2 cc2 ll2
  have cc2 := Xb2_3.2.1
  have ll2 := Xb2_3.1
  go_wp2_with fail
  refine (HF.out _).mono ?_
  rintro e w4 ⟨rfl, hb4⟩
  have Xb2_4 : Box w4 w.heap.size #[.int .i64 p, .int .i64 l, .int .i64 r, .int .i64 a, .int .i64 b, .int .i64 s, .bool h, .int .i64 t] := Box.below (Box.alloc Xb2_3 _) hb4
  have Xb6_4 : Box w4 w2.heap.size #[.int .i64 q1, .int .i64 e1] := Box.below (Box.alloc Xb6_3 _) hb4
  have Xb8_4 : Box w4 w3.heap.size #[.int .i64 0, .int .i64 0] := Box.below (Box.new w3 _ _) hb4
  have hB4 : Below w.heap.size w w4 := stepB (by go_grown) hb4
  have hs4 := hB4.size
  clear hb4 hB3 hs3 Xb2_3 Xb6_3 cc2 ll2
  have cc2 := Xb2_4.2.1
  have ll2 := Xb2_4.1
  go_wp2_with fail
  refine (in_any _ _ _ _).mono ?_
  rintro e w9 ⟨rfl, rfl⟩
  rw [hy]
  go_wp2
  have Yb2 : Box w4 w.heap.size #[.int .i64 p, .int .i64 l, .int .i64 r, .int .i64 a, .int .i64 b, .int .i64 s, .bool h, .int .i64 t] := Xb2_4
  have Yb6 : Box w4 w2.heap.size #[.int .i64 q1, .int .i64 e1] := Xb6_4
  have Yb8 : Box w4 w3.heap.size #[.int .i64 0, .int .i64 0] := Xb8_4
  have hBX : Below w.heap.size w w4 := by go_grown
  clear hB4 hs4 Xb2_4 Xb6_4 Xb8_4 cc2 ll2
  have hsX := hBX.size
  have rd2 := fun d os => (Yb2.regrown d os).2.1
  have rd6 := fun d os => (Yb6.regrown d os).2.1
  have kc66 := fun d os => (HV.out (Go.Sort.grow (redrawn w4 d) os)).regrown_of
  have kc67 := fun d os => (HL.out (Go.Sort.grow (redrawn w4 d) os)).regrown_of
  have Zb2 := Lib.hid Yb2
  have Zb8 := Lib.hid Yb8
  clear Yb2 Yb6 Yb8
  refine wp_region_quiet_below (by kernel_rfl) (by kernel_rfl) ?_
  repeat ((with_reducible refine wpQuiet_step (fun K hK => ?_)); go_simp; first | ((with_reducible refine hK _ ?_); clear hK K) | (apply Exists.intro; refine ⟨fun _ => ?_, hK _ ?_⟩; (first | (go_at_call 21; with_reducible exact kc66 _ _) | (go_at_call 20; with_reducible exact kc67 _ _)); clear hK K))
  with_reducible refine wpQuiet_nil ?_
  intro w5 hw'
  obtain ⟨⟨dq, osq⟩, hw''⟩ := hw'
  have hb5 : Below w4.heap.size w4 w5 := by rw [hw'']; exact below_regrown w4 dq osq
  have Xb2_5 : Box w5 w.heap.size #[.int .i64 p, .int .i64 l, .int .i64 r, .int .i64 a, .int .i64 b, .int .i64 s, .bool h, .int .i64 t] := Zb2.out.below hb5
  have Xb8_5 : Box w5 w3.heap.size #[.int .i64 0, .int .i64 0] := Zb8.out.below hb5
  have hB5 : Below w.heap.size w w5 := stepB hBX hb5
  have hs5 := hB5.size
  clear hw'' hb5 hBX hsX rd2 rd6 kc66 kc67 Zb2 Zb8
  have cc2 := Xb2_5.2.1
  have ll2 := Xb2_5.1
  have cc8 := Xb8_5.2.1
  have ll8 := Xb8_5.1
  go_wp2_with fail
  refine (known_any _).mono ?_
  rintro e w6 ⟨rfl, hb6⟩
  have hB6 : Below w.heap.size w w6 := stepB (by go_grown) hb6
  have hs6 := hB6.size
  clear hb6 hB5 hs5 Xb2_5 Xb8_5 cc2 ll2 cc8 ll8
  go_wp2
  go_returns
  exact ⟨rfl, hB6⟩

set_option maxRecDepth 100000 in
set_option maxHeartbeats 2000000 in
theorem checks_in1 (p l r a b s t : Int) (h : Bool) (y : Int) (Y0 : -9223372036854775808 ≤ y) (Y1 : y ≤ 9223372036854775807) (p0 : 100 ≤ p) (p1 : p ≤ 200000) (l0 : 0 ≤ l) (l1 : l ≤ 3000) (r0 : 0 ≤ r) (r1 : r ≤ 3000) (a0 : 0 ≤ a) (a1 : a ≤ 200000) (b0 : 0 ≤ b) (b1 : b ≤ 200000) (HC : Hid (∀ w : World, Calls Try.prog 14 #[.agg #[.int .i64 p, .int .i64 l, .int .i64 r, .int .i64 a, .int .i64 b, .int .i64 s, .bool h, .int .i64 t]] w fun e w' => e = .returned (.int .i64 0) ∧ Below w.heap.size w w')) (HF : Hid (∀ w : World, Calls Try.prog 17 #[.agg #[.int .i64 p, .int .i64 l, .int .i64 r, .int .i64 a, .int .i64 b, .int .i64 s, .bool h, .int .i64 t]] w fun e w' => e = .returned (.bool true) ∧ Below w.heap.size w w')) (q1 e1 v : Int) (hy : inB (-b) a y = true) (HW : Hid (∀ w : World, Calls Try.prog 15 #[.agg #[.int .i64 p, .int .i64 l, .int .i64 r, .int .i64 a, .int .i64 b, .int .i64 s, .bool h, .int .i64 t], .int .i64 y] w fun e w' => e = .returned (.tuple #[.agg #[.int .i64 q1, .int .i64 e1], .int .i64 0]) ∧ Below w.heap.size w w')) (HV : Hid (∀ w : World, Calls Try.prog 21 #[.agg #[.int .i64 p, .int .i64 l, .int .i64 r, .int .i64 a, .int .i64 b, .int .i64 s, .bool h, .int .i64 t], .int .i64 y] w fun e w' => e = .returned (.int .i64 v) ∧ Below w.heap.size w w')) (HL : Hid (∀ w : World, Calls Try.prog 20 #[.int .i64 v, .int .i64 2000] w fun e w' => e = .returned (.agg #[.int .i64 q1, .int .i64 e1]) ∧ Below w.heap.size w w')) (q2 e2 : Int) (hn : (l + r == 0) = false) (HS : Hid (∀ w : World, Calls Try.prog 16 #[.agg #[.int .i64 p, .int .i64 l, .int .i64 r, .int .i64 a, .int .i64 b, .int .i64 s, .bool h, .int .i64 t]] w fun e w' => e = .returned (.tuple #[.agg #[.int .i64 q2, .int .i64 e2], .int .i64 0]) ∧ Below w.heap.size w w')) (HM : Hid (∀ w : World, Calls Try.prog 20 #[.int .i64 (500 * p), .int .i64 (l + r)] w fun e w' => e = .returned (.agg #[.int .i64 q2, .int .i64 e2]) ∧ Below w.heap.size w w')) (w : World) :
    Calls Try.prog 3 #[.agg #[.int .i64 p, .int .i64 l, .int .i64 r, .int .i64 a, .int .i64 b, .int .i64 s, .bool h, .int .i64 t], .int .i64 y] w fun e w' => e = .returned (.bool true) ∧ Below w.heap.size w w' := by
  have qR := eqR
  have nR := neqR
  have gR := guardR
  have W1 : IntKind.i64.wrap (500 * p) = 500 * p := IntWalk.i64_in _ (by omega)
  have W2 : IntKind.i64.wrap (l + r) = l + r := IntWalk.i64_in _ (by omega)
  go_enter Try.func3, Try.ntmps3
  go_wp2_with fail
  refine (HC.out _).mono ?_
  rintro e w1 ⟨rfl, hb1⟩
  have Xb2_1 : Box w1 w.heap.size #[.int .i64 p, .int .i64 l, .int .i64 r, .int .i64 a, .int .i64 b, .int .i64 s, .bool h, .int .i64 t] := Box.below (Box.new w _ _) hb1
  have hB1 : Below w.heap.size w w1 := stepB (by go_grown) hb1
  have hs1 := hB1.size
  clear hb1
  have cc2 := Xb2_1.2.1
  have ll2 := Xb2_1.1
  go_wp2_with fail
  refine (HW.out _).mono ?_
  rintro e w2 ⟨rfl, hb2⟩
  have Xb2_2 : Box w2 w.heap.size #[.int .i64 p, .int .i64 l, .int .i64 r, .int .i64 a, .int .i64 b, .int .i64 s, .bool h, .int .i64 t] := Box.below Xb2_1 hb2
  have hB2 : Below w.heap.size w w2 := stepB (by go_grown) hb2
  have hs2 := hB2.size
  clear hb2 hB1 hs1 Xb2_1 cc2 ll2
  have cc2 := Xb2_2.2.1
  have ll2 := Xb2_2.1
  go_wp2_with fail
  refine (HS.out _).mono ?_
  rintro e w3 ⟨rfl, hb3⟩
  have Xb2_3 : Box w3 w.heap.size #[.int .i64 p, .int .i64 l, .int .i64 r, .int .i64 a, .int .i64 b, .int .i64 s, .bool h, .int .i64 t] := Box.below (Box.alloc Xb2_2 _) hb3
  have Xb6_3 : Box w3 w2.heap.size #[.int .i64 q1, .int .i64 e1] := Box.below (Box.new w2 _ _) hb3
  have hB3 : Below w.heap.size w w3 := stepB (by go_grown) hb3
  have hs3 := hB3.size
  clear hb3 hB2 hs2 Xb2_2 cc2 ll2
  have cc2 := Xb2_3.2.1
  have ll2 := Xb2_3.1
  go_wp2_with fail
  refine (HF.out _).mono ?_
  rintro e w4 ⟨rfl, hb4⟩
  have Xb2_4 : Box w4 w.heap.size #[.int .i64 p, .int .i64 l, .int .i64 r, .int .i64 a, .int .i64 b, .int .i64 s, .bool h, .int .i64 t] := Box.below (Box.alloc Xb2_3 _) hb4
  have Xb6_4 : Box w4 w2.heap.size #[.int .i64 q1, .int .i64 e1] := Box.below (Box.alloc Xb6_3 _) hb4
  have Xb8_4 : Box w4 w3.heap.size #[.int .i64 q2, .int .i64 e2] := Box.below (Box.new w3 _ _) hb4
  have hB4 : Below w.heap.size w w4 := stepB (by go_grown) hb4
  have hs4 := hB4.size
  clear hb4 hB3 hs3 Xb2_3 Xb6_3 cc2 ll2
  have cc2 := Xb2_4.2.1
  have ll2 := Xb2_4.1
  go_wp2_with fail
  refine (in_any _ _ _ _).mono ?_
  rintro e w9 ⟨rfl, rfl⟩
  rw [hy]
  go_wp2
  have Yb2 : Box w4 w.heap.size #[.int .i64 p, .int .i64 l, .int .i64 r, .int .i64 a, .int .i64 b, .int .i64 s, .bool h, .int .i64 t] := Xb2_4
  have Yb6 : Box w4 w2.heap.size #[.int .i64 q1, .int .i64 e1] := Xb6_4
  have Yb8 : Box w4 w3.heap.size #[.int .i64 q2, .int .i64 e2] := Xb8_4
  have hBX : Below w.heap.size w w4 := by go_grown
  clear hB4 hs4 Xb2_4 Xb6_4 Xb8_4 cc2 ll2
  have hsX := hBX.size
  have rd2 := fun d os => (Yb2.regrown d os).2.1
  have rd6 := fun d os => (Yb6.regrown d os).2.1
  have kc66 := fun d os => (HV.out (Go.Sort.grow (redrawn w4 d) os)).regrown_of
  have kc67 := fun d os => (HL.out (Go.Sort.grow (redrawn w4 d) os)).regrown_of
  have Zb2 := Lib.hid Yb2
  have Zb8 := Lib.hid Yb8
  clear Yb2 Yb6 Yb8
  refine wp_region_quiet_below (by kernel_rfl) (by kernel_rfl) ?_
  repeat ((with_reducible refine wpQuiet_step (fun K hK => ?_)); go_simp; first | ((with_reducible refine hK _ ?_); clear hK K) | (apply Exists.intro; refine ⟨fun _ => ?_, hK _ ?_⟩; (first | (go_at_call 21; with_reducible exact kc66 _ _) | (go_at_call 20; with_reducible exact kc67 _ _)); clear hK K))
  with_reducible refine wpQuiet_nil ?_
  intro w5 hw'
  obtain ⟨⟨dq, osq⟩, hw''⟩ := hw'
  have hb5 : Below w4.heap.size w4 w5 := by rw [hw'']; exact below_regrown w4 dq osq
  have Xb2_5 : Box w5 w.heap.size #[.int .i64 p, .int .i64 l, .int .i64 r, .int .i64 a, .int .i64 b, .int .i64 s, .bool h, .int .i64 t] := Zb2.out.below hb5
  have Xb8_5 : Box w5 w3.heap.size #[.int .i64 q2, .int .i64 e2] := Zb8.out.below hb5
  have hB5 : Below w.heap.size w w5 := stepB hBX hb5
  have hs5 := hB5.size
  clear hw'' hb5 hBX hsX rd2 rd6 kc66 kc67 Zb2 Zb8
  have cc2 := Xb2_5.2.1
  have ll2 := Xb2_5.1
  go_wp2
  have Yb2 : Box w5 w.heap.size #[.int .i64 p, .int .i64 l, .int .i64 r, .int .i64 a, .int .i64 b, .int .i64 s, .bool h, .int .i64 t] := Xb2_5
  have Yb8 : Box w5 w3.heap.size #[.int .i64 q2, .int .i64 e2] := Xb8_5
  have hBX : Below w.heap.size w w5 := by go_grown
  clear hB5 hs5 Xb2_5 Xb8_5 cc2 ll2
  have hsX := hBX.size
  have rd2 := fun d os => (Yb2.regrown d os).2.1
  have rd8 := fun d os => (Yb8.regrown d os).2.1
  have kc105 := fun d os => (HM.out (Go.Sort.grow (redrawn w5 d) os)).regrown_of
  have kc109 := fun d os => (known_any (Go.Sort.grow (redrawn w5 d) os)).regrown_of
  clear Yb2 Yb8
  refine wp_region_quiet_below (by kernel_rfl) (by kernel_rfl) ?_
  repeat ((with_reducible refine wpQuiet_step (fun K hK => ?_)); go_simp; first | ((with_reducible refine hK _ ?_); clear hK K) | (apply Exists.intro; refine ⟨fun _ => ?_, hK _ ?_⟩; (first | (go_at_call 20; with_reducible exact kc105 _ _) | (go_at_call 18; with_reducible exact kc109 _ _)); clear hK K))
  with_reducible refine wpQuiet_nil ?_
  intro w6 hw'
  obtain ⟨⟨dq, osq⟩, hw''⟩ := hw'
  have hb6 : Below w5.heap.size w5 w6 := by rw [hw'']; exact below_regrown w5 dq osq
  have hB6 : Below w.heap.size w w6 := stepB hBX hb6
  have hs6 := hB6.size
  clear hw'' hb6 hBX hsX rd2 rd8 kc105 kc109
  go_wp2
  go_returns
  exact ⟨rfl, hB6⟩

set_option maxRecDepth 100000 in
set_option maxHeartbeats 2000000 in
theorem checks_out0 (p l r a b s t : Int) (h : Bool) (y : Int) (Y0 : -9223372036854775808 ≤ y) (Y1 : y ≤ 9223372036854775807) (p0 : 100 ≤ p) (p1 : p ≤ 200000) (l0 : 0 ≤ l) (l1 : l ≤ 3000) (r0 : 0 ≤ r) (r1 : r ≤ 3000) (a0 : 0 ≤ a) (a1 : a ≤ 200000) (b0 : 0 ≤ b) (b1 : b ≤ 200000) (HC : Hid (∀ w : World, Calls Try.prog 14 #[.agg #[.int .i64 p, .int .i64 l, .int .i64 r, .int .i64 a, .int .i64 b, .int .i64 s, .bool h, .int .i64 t]] w fun e w' => e = .returned (.int .i64 0) ∧ Below w.heap.size w w')) (HF : Hid (∀ w : World, Calls Try.prog 17 #[.agg #[.int .i64 p, .int .i64 l, .int .i64 r, .int .i64 a, .int .i64 b, .int .i64 s, .bool h, .int .i64 t]] w fun e w' => e = .returned (.bool true) ∧ Below w.heap.size w w')) (hy : inB (-b) a y = false) (HW : Hid (∀ w : World, Calls Try.prog 15 #[.agg #[.int .i64 p, .int .i64 l, .int .i64 r, .int .i64 a, .int .i64 b, .int .i64 s, .bool h, .int .i64 t], .int .i64 y] w fun e w' => e = .returned (.tuple #[.agg #[.int .i64 0, .int .i64 0], .int .i64 3]) ∧ Below w.heap.size w w')) (hn : (l + r == 0) = true) (HS : Hid (∀ w : World, Calls Try.prog 16 #[.agg #[.int .i64 p, .int .i64 l, .int .i64 r, .int .i64 a, .int .i64 b, .int .i64 s, .bool h, .int .i64 t]] w fun e w' => e = .returned (.tuple #[.agg #[.int .i64 0, .int .i64 0], .int .i64 7]) ∧ Below w.heap.size w w')) (w : World) :
    Calls Try.prog 3 #[.agg #[.int .i64 p, .int .i64 l, .int .i64 r, .int .i64 a, .int .i64 b, .int .i64 s, .bool h, .int .i64 t], .int .i64 y] w fun e w' => e = .returned (.bool true) ∧ Below w.heap.size w w' := by
  have qR := eqR
  have nR := neqR
  have gR := guardR
  go_enter Try.func3, Try.ntmps3
  go_wp2_with fail
  refine (HC.out _).mono ?_
  rintro e w1 ⟨rfl, hb1⟩
  have Xb2_1 : Box w1 w.heap.size #[.int .i64 p, .int .i64 l, .int .i64 r, .int .i64 a, .int .i64 b, .int .i64 s, .bool h, .int .i64 t] := Box.below (Box.new w _ _) hb1
  have hB1 : Below w.heap.size w w1 := stepB (by go_grown) hb1
  have hs1 := hB1.size
  clear hb1
  have cc2 := Xb2_1.2.1
  have ll2 := Xb2_1.1
  go_wp2_with fail
  refine (HW.out _).mono ?_
  rintro e w2 ⟨rfl, hb2⟩
  have Xb2_2 : Box w2 w.heap.size #[.int .i64 p, .int .i64 l, .int .i64 r, .int .i64 a, .int .i64 b, .int .i64 s, .bool h, .int .i64 t] := Box.below Xb2_1 hb2
  have hB2 : Below w.heap.size w w2 := stepB (by go_grown) hb2
  have hs2 := hB2.size
  clear hb2 hB1 hs1 Xb2_1 cc2 ll2
  have cc2 := Xb2_2.2.1
  have ll2 := Xb2_2.1
  go_wp2_with fail
  refine (HS.out _).mono ?_
  rintro e w3 ⟨rfl, hb3⟩
  have Xb2_3 : Box w3 w.heap.size #[.int .i64 p, .int .i64 l, .int .i64 r, .int .i64 a, .int .i64 b, .int .i64 s, .bool h, .int .i64 t] := Box.below (Box.alloc Xb2_2 _) hb3
  have Xb6_3 : Box w3 w2.heap.size #[.int .i64 0, .int .i64 0] := Box.below (Box.new w2 _ _) hb3
  have hB3 : Below w.heap.size w w3 := stepB (by go_grown) hb3
  have hs3 := hB3.size
  clear hb3 hB2 hs2 Xb2_2 cc2 ll2
  have cc2 := Xb2_3.2.1
  have ll2 := Xb2_3.1
  go_wp2_with fail
  refine (HF.out _).mono ?_
  rintro e w4 ⟨rfl, hb4⟩
  have Xb2_4 : Box w4 w.heap.size #[.int .i64 p, .int .i64 l, .int .i64 r, .int .i64 a, .int .i64 b, .int .i64 s, .bool h, .int .i64 t] := Box.below (Box.alloc Xb2_3 _) hb4
  have Xb6_4 : Box w4 w2.heap.size #[.int .i64 0, .int .i64 0] := Box.below (Box.alloc Xb6_3 _) hb4
  have Xb8_4 : Box w4 w3.heap.size #[.int .i64 0, .int .i64 0] := Box.below (Box.new w3 _ _) hb4
  have hB4 : Below w.heap.size w w4 := stepB (by go_grown) hb4
  have hs4 := hB4.size
  clear hb4 hB3 hs3 Xb2_3 Xb6_3 cc2 ll2
  have cc2 := Xb2_4.2.1
  have ll2 := Xb2_4.1
  have cc6 := Xb6_4.2.1
  have ll6 := Xb6_4.1
  have cc8 := Xb8_4.2.1
  have ll8 := Xb8_4.1
  go_wp2_with fail
  refine (in_any _ _ _ _).mono ?_
  rintro e w9 ⟨rfl, rfl⟩
  rw [hy]
  go_wp2_with fail
  refine (known_any _).mono ?_
  rintro e w5 ⟨rfl, hb5⟩
  have hB5 : Below w.heap.size w w5 := stepB (by go_grown) hb5
  have hs5 := hB5.size
  clear hb5 hB4 hs4 Xb2_4 Xb6_4 Xb8_4 cc2 ll2 cc6 ll6 cc8 ll8
  go_wp2
  go_returns
  exact ⟨rfl, hB5⟩

set_option maxRecDepth 100000 in
set_option maxHeartbeats 2000000 in
theorem checks_out1 (p l r a b s t : Int) (h : Bool) (y : Int) (Y0 : -9223372036854775808 ≤ y) (Y1 : y ≤ 9223372036854775807) (p0 : 100 ≤ p) (p1 : p ≤ 200000) (l0 : 0 ≤ l) (l1 : l ≤ 3000) (r0 : 0 ≤ r) (r1 : r ≤ 3000) (a0 : 0 ≤ a) (a1 : a ≤ 200000) (b0 : 0 ≤ b) (b1 : b ≤ 200000) (HC : Hid (∀ w : World, Calls Try.prog 14 #[.agg #[.int .i64 p, .int .i64 l, .int .i64 r, .int .i64 a, .int .i64 b, .int .i64 s, .bool h, .int .i64 t]] w fun e w' => e = .returned (.int .i64 0) ∧ Below w.heap.size w w')) (HF : Hid (∀ w : World, Calls Try.prog 17 #[.agg #[.int .i64 p, .int .i64 l, .int .i64 r, .int .i64 a, .int .i64 b, .int .i64 s, .bool h, .int .i64 t]] w fun e w' => e = .returned (.bool true) ∧ Below w.heap.size w w')) (hy : inB (-b) a y = false) (HW : Hid (∀ w : World, Calls Try.prog 15 #[.agg #[.int .i64 p, .int .i64 l, .int .i64 r, .int .i64 a, .int .i64 b, .int .i64 s, .bool h, .int .i64 t], .int .i64 y] w fun e w' => e = .returned (.tuple #[.agg #[.int .i64 0, .int .i64 0], .int .i64 3]) ∧ Below w.heap.size w w')) (q2 e2 : Int) (hn : (l + r == 0) = false) (HS : Hid (∀ w : World, Calls Try.prog 16 #[.agg #[.int .i64 p, .int .i64 l, .int .i64 r, .int .i64 a, .int .i64 b, .int .i64 s, .bool h, .int .i64 t]] w fun e w' => e = .returned (.tuple #[.agg #[.int .i64 q2, .int .i64 e2], .int .i64 0]) ∧ Below w.heap.size w w')) (HM : Hid (∀ w : World, Calls Try.prog 20 #[.int .i64 (500 * p), .int .i64 (l + r)] w fun e w' => e = .returned (.agg #[.int .i64 q2, .int .i64 e2]) ∧ Below w.heap.size w w')) (w : World) :
    Calls Try.prog 3 #[.agg #[.int .i64 p, .int .i64 l, .int .i64 r, .int .i64 a, .int .i64 b, .int .i64 s, .bool h, .int .i64 t], .int .i64 y] w fun e w' => e = .returned (.bool true) ∧ Below w.heap.size w w' := by
  have qR := eqR
  have nR := neqR
  have gR := guardR
  have W1 : IntKind.i64.wrap (500 * p) = 500 * p := IntWalk.i64_in _ (by omega)
  have W2 : IntKind.i64.wrap (l + r) = l + r := IntWalk.i64_in _ (by omega)
  go_enter Try.func3, Try.ntmps3
  go_wp2_with fail
  refine (HC.out _).mono ?_
  rintro e w1 ⟨rfl, hb1⟩
  have Xb2_1 : Box w1 w.heap.size #[.int .i64 p, .int .i64 l, .int .i64 r, .int .i64 a, .int .i64 b, .int .i64 s, .bool h, .int .i64 t] := Box.below (Box.new w _ _) hb1
  have hB1 : Below w.heap.size w w1 := stepB (by go_grown) hb1
  have hs1 := hB1.size
  clear hb1
  have cc2 := Xb2_1.2.1
  have ll2 := Xb2_1.1
  go_wp2_with fail
  refine (HW.out _).mono ?_
  rintro e w2 ⟨rfl, hb2⟩
  have Xb2_2 : Box w2 w.heap.size #[.int .i64 p, .int .i64 l, .int .i64 r, .int .i64 a, .int .i64 b, .int .i64 s, .bool h, .int .i64 t] := Box.below Xb2_1 hb2
  have hB2 : Below w.heap.size w w2 := stepB (by go_grown) hb2
  have hs2 := hB2.size
  clear hb2 hB1 hs1 Xb2_1 cc2 ll2
  have cc2 := Xb2_2.2.1
  have ll2 := Xb2_2.1
  go_wp2_with fail
  refine (HS.out _).mono ?_
  rintro e w3 ⟨rfl, hb3⟩
  have Xb2_3 : Box w3 w.heap.size #[.int .i64 p, .int .i64 l, .int .i64 r, .int .i64 a, .int .i64 b, .int .i64 s, .bool h, .int .i64 t] := Box.below (Box.alloc Xb2_2 _) hb3
  have Xb6_3 : Box w3 w2.heap.size #[.int .i64 0, .int .i64 0] := Box.below (Box.new w2 _ _) hb3
  have hB3 : Below w.heap.size w w3 := stepB (by go_grown) hb3
  have hs3 := hB3.size
  clear hb3 hB2 hs2 Xb2_2 cc2 ll2
  have cc2 := Xb2_3.2.1
  have ll2 := Xb2_3.1
  go_wp2_with fail
  refine (HF.out _).mono ?_
  rintro e w4 ⟨rfl, hb4⟩
  have Xb2_4 : Box w4 w.heap.size #[.int .i64 p, .int .i64 l, .int .i64 r, .int .i64 a, .int .i64 b, .int .i64 s, .bool h, .int .i64 t] := Box.below (Box.alloc Xb2_3 _) hb4
  have Xb6_4 : Box w4 w2.heap.size #[.int .i64 0, .int .i64 0] := Box.below (Box.alloc Xb6_3 _) hb4
  have Xb8_4 : Box w4 w3.heap.size #[.int .i64 q2, .int .i64 e2] := Box.below (Box.new w3 _ _) hb4
  have hB4 : Below w.heap.size w w4 := stepB (by go_grown) hb4
  have hs4 := hB4.size
  clear hb4 hB3 hs3 Xb2_3 Xb6_3 cc2 ll2
  have cc2 := Xb2_4.2.1
  have ll2 := Xb2_4.1
  have cc6 := Xb6_4.2.1
  have ll6 := Xb6_4.1
  go_wp2_with fail
  refine (in_any _ _ _ _).mono ?_
  rintro e w9 ⟨rfl, rfl⟩
  rw [hy]
  go_wp2
  have Yb2 : Box w4 w.heap.size #[.int .i64 p, .int .i64 l, .int .i64 r, .int .i64 a, .int .i64 b, .int .i64 s, .bool h, .int .i64 t] := Xb2_4
  have Yb8 : Box w4 w3.heap.size #[.int .i64 q2, .int .i64 e2] := Xb8_4
  have hBX : Below w.heap.size w w4 := by go_grown
  clear hB4 hs4 Xb2_4 Xb6_4 Xb8_4 cc2 ll2 cc6 ll6
  have hsX := hBX.size
  have rd2 := fun d os => (Yb2.regrown d os).2.1
  have rd8 := fun d os => (Yb8.regrown d os).2.1
  have kc105 := fun d os => (HM.out (Go.Sort.grow (redrawn w4 d) os)).regrown_of
  have kc109 := fun d os => (known_any (Go.Sort.grow (redrawn w4 d) os)).regrown_of
  clear Yb2 Yb8
  refine wp_region_quiet_below (by kernel_rfl) (by kernel_rfl) ?_
  repeat ((with_reducible refine wpQuiet_step (fun K hK => ?_)); go_simp; first | ((with_reducible refine hK _ ?_); clear hK K) | (apply Exists.intro; refine ⟨fun _ => ?_, hK _ ?_⟩; (first | (go_at_call 20; with_reducible exact kc105 _ _) | (go_at_call 18; with_reducible exact kc109 _ _)); clear hK K))
  with_reducible refine wpQuiet_nil ?_
  intro w5 hw'
  obtain ⟨⟨dq, osq⟩, hw''⟩ := hw'
  have hb5 : Below w4.heap.size w4 w5 := by rw [hw'']; exact below_regrown w4 dq osq
  have hB5 : Below w.heap.size w w5 := stepB hBX hb5
  have hs5 := hB5.size
  clear hw'' hb5 hBX hsX rd2 rd8 kc105 kc109
  go_wp2
  go_returns
  exact ⟨rfl, hB5⟩

end Go.Proofs.Ytloleaahelmdjaa
