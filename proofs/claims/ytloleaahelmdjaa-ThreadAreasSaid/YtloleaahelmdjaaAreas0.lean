/- ThreadAreas: its ways. Made by tools/gen_checks.py. -/
import Derived.Test.YtloleaahelmdjaaLaw2
namespace Go.Proofs.Ytloleaahelmdjaa
open Go.ChangeShapes Go.WideShapes Go.ChangeAt Go.RowKit
set_option linter.unusedVariables false
set_option linter.unusedSimpArgs false

set_option maxRecDepth 100000 in
set_option maxHeartbeats 2000000 in
theorem areas_bad (p l r a b s t : Int) (h : Bool) (y z : Int) (HA : Hid (∀ w : World, Calls Try.prog 22 #[.agg #[.int .i64 p, .int .i64 l, .int .i64 r, .int .i64 a, .int .i64 b, .int .i64 s, .bool h, .int .i64 t], .int .i64 y, .int .i64 z] w fun e w' => e = .returned (.tuple #[.agg #[.int .i64 0, .int .i64 0], .int .i64 2]) ∧ Below w.heap.size w w')) (HF : Hid (∀ w : World, Calls Try.prog 17 #[.agg #[.int .i64 p, .int .i64 l, .int .i64 r, .int .i64 a, .int .i64 b, .int .i64 s, .bool h, .int .i64 t]] w fun e w' => e = .returned (.bool false) ∧ Below w.heap.size w w')) (w : World) :
    Calls Try.prog 4 #[.agg #[.int .i64 p, .int .i64 l, .int .i64 r, .int .i64 a, .int .i64 b, .int .i64 s, .bool h, .int .i64 t], .int .i64 y, .int .i64 z] w fun e w' => e = .returned (.bool true) ∧ Below w.heap.size w w' := by
  have qR := eqR
  have nR := neqR
  have gR := guardR
  go_enter Try.func4, Try.ntmps4
  go_wp2_with fail
  refine (HA.out _).mono ?_
  rintro e w1 ⟨rfl, hb1⟩
  have Xb3_1 : Box w1 w.heap.size #[.int .i64 p, .int .i64 l, .int .i64 r, .int .i64 a, .int .i64 b, .int .i64 s, .bool h, .int .i64 t] := Box.below (Box.new w _ _) hb1
  have hB1 : Below w.heap.size w w1 := stepB (by go_grown) hb1
  have hs1 := hB1.size
  clear hb1
  have cc3 := Xb3_1.2.1
  have ll3 := Xb3_1.1
  go_wp2_with fail
  refine (HF.out _).mono ?_
  rintro e w2 ⟨rfl, hb2⟩
  have Xb7_2 : Box w2 w1.heap.size #[.int .i64 0, .int .i64 0] := Box.below (Box.new w1 _ _) hb2
  have hB2 : Below w.heap.size w w2 := stepB (by go_grown) hb2
  have hs2 := hB2.size
  clear hb2 hB1 hs1 Xb3_1 cc3 ll3
  have cc7 := Xb7_2.2.1
  have ll7 := Xb7_2.1
  go_wp2_with fail
  refine (known_any _).mono ?_
  rintro e w3 ⟨rfl, hb3⟩
  have hB3 : Below w.heap.size w w3 := stepB (by go_grown) hb3
  have hs3 := hB3.size
  clear hb3 hB2 hs2 Xb7_2 cc7 ll7
  go_wp2
  go_returns
  exact ⟨rfl, hB3⟩

set_option maxRecDepth 100000 in
set_option maxHeartbeats 2000000 in
theorem areas_r1 (p l r a b s t : Int) (h : Bool) (y z : Int) (p0 : 100 ≤ p) (p1 : p ≤ 200000) (l0 : 0 ≤ l) (l1 : l ≤ 3000) (r0 : 0 ≤ r) (r1 : r ≤ 3000) (a0 : 0 ≤ a) (a1 : a ≤ 200000) (b0 : 0 ≤ b) (b1 : b ≤ 200000) (HA : Hid (∀ w : World, Calls Try.prog 22 #[.agg #[.int .i64 p, .int .i64 l, .int .i64 r, .int .i64 a, .int .i64 b, .int .i64 s, .bool h, .int .i64 t], .int .i64 y, .int .i64 z] w fun e w' => e = .returned (.tuple #[.agg #[.int .i64 0, .int .i64 0], .int .i64 3]) ∧ Below w.heap.size w w')) (HF : Hid (∀ w : World, Calls Try.prog 17 #[.agg #[.int .i64 p, .int .i64 l, .int .i64 r, .int .i64 a, .int .i64 b, .int .i64 s, .bool h, .int .i64 t]] w fun e w' => e = .returned (.bool true) ∧ Below w.heap.size w w')) (h1 : inB (-b) a y = false) (w : World) :
    Calls Try.prog 4 #[.agg #[.int .i64 p, .int .i64 l, .int .i64 r, .int .i64 a, .int .i64 b, .int .i64 s, .bool h, .int .i64 t], .int .i64 y, .int .i64 z] w fun e w' => e = .returned (.bool true) ∧ Below w.heap.size w w' := by
  have qR := eqR
  have nR := neqR
  have gR := guardR
  go_enter Try.func4, Try.ntmps4
  go_wp2_with fail
  refine (HA.out _).mono ?_
  rintro e w1 ⟨rfl, hb1⟩
  have Xb3_1 : Box w1 w.heap.size #[.int .i64 p, .int .i64 l, .int .i64 r, .int .i64 a, .int .i64 b, .int .i64 s, .bool h, .int .i64 t] := Box.below (Box.new w _ _) hb1
  have hB1 : Below w.heap.size w w1 := stepB (by go_grown) hb1
  have hs1 := hB1.size
  clear hb1
  have cc3 := Xb3_1.2.1
  have ll3 := Xb3_1.1
  go_wp2_with fail
  refine (HF.out _).mono ?_
  rintro e w2 ⟨rfl, hb2⟩
  have Xb3_2 : Box w2 w.heap.size #[.int .i64 p, .int .i64 l, .int .i64 r, .int .i64 a, .int .i64 b, .int .i64 s, .bool h, .int .i64 t] := Box.below (Box.alloc Xb3_1 _) hb2
  have Xb7_2 : Box w2 w1.heap.size #[.int .i64 0, .int .i64 0] := Box.below (Box.new w1 _ _) hb2
  have hB2 : Below w.heap.size w w2 := stepB (by go_grown) hb2
  have hs2 := hB2.size
  clear hb2 hB1 hs1 Xb3_1 cc3 ll3
  have cc3 := Xb3_2.2.1
  have ll3 := Xb3_2.1
  have cc7 := Xb7_2.2.1
  have ll7 := Xb7_2.1
  go_wp2_with fail
  refine (in_any _ _ _ _).mono ?_
  rintro e w9 ⟨rfl, rfl⟩
  rw [h1]
  go_wp2_with fail
  refine (known_any _).mono ?_
  rintro e w3 ⟨rfl, hb3⟩
  have hB3 : Below w.heap.size w w3 := stepB (by go_grown) hb3
  have hs3 := hB3.size
  clear hb3 hB2 hs2 Xb3_2 Xb7_2 cc3 ll3 cc7 ll7
  go_wp2
  go_returns
  exact ⟨rfl, hB3⟩

set_option maxRecDepth 100000 in
set_option maxHeartbeats 2000000 in
theorem areas_r2 (p l r a b s t : Int) (h : Bool) (y z : Int) (p0 : 100 ≤ p) (p1 : p ≤ 200000) (l0 : 0 ≤ l) (l1 : l ≤ 3000) (r0 : 0 ≤ r) (r1 : r ≤ 3000) (a0 : 0 ≤ a) (a1 : a ≤ 200000) (b0 : 0 ≤ b) (b1 : b ≤ 200000) (HA : Hid (∀ w : World, Calls Try.prog 22 #[.agg #[.int .i64 p, .int .i64 l, .int .i64 r, .int .i64 a, .int .i64 b, .int .i64 s, .bool h, .int .i64 t], .int .i64 y, .int .i64 z] w fun e w' => e = .returned (.tuple #[.agg #[.int .i64 0, .int .i64 0], .int .i64 3]) ∧ Below w.heap.size w w')) (HF : Hid (∀ w : World, Calls Try.prog 17 #[.agg #[.int .i64 p, .int .i64 l, .int .i64 r, .int .i64 a, .int .i64 b, .int .i64 s, .bool h, .int .i64 t]] w fun e w' => e = .returned (.bool true) ∧ Below w.heap.size w w')) (h1 : inB (-b) a y = true) (h2 : inB (-b) a z = false) (w : World) :
    Calls Try.prog 4 #[.agg #[.int .i64 p, .int .i64 l, .int .i64 r, .int .i64 a, .int .i64 b, .int .i64 s, .bool h, .int .i64 t], .int .i64 y, .int .i64 z] w fun e w' => e = .returned (.bool true) ∧ Below w.heap.size w w' := by
  have qR := eqR
  have nR := neqR
  have gR := guardR
  go_enter Try.func4, Try.ntmps4
  go_wp2_with fail
  refine (HA.out _).mono ?_
  rintro e w1 ⟨rfl, hb1⟩
  have Xb3_1 : Box w1 w.heap.size #[.int .i64 p, .int .i64 l, .int .i64 r, .int .i64 a, .int .i64 b, .int .i64 s, .bool h, .int .i64 t] := Box.below (Box.new w _ _) hb1
  have hB1 : Below w.heap.size w w1 := stepB (by go_grown) hb1
  have hs1 := hB1.size
  clear hb1
  have cc3 := Xb3_1.2.1
  have ll3 := Xb3_1.1
  go_wp2_with fail
  refine (HF.out _).mono ?_
  rintro e w2 ⟨rfl, hb2⟩
  have Xb3_2 : Box w2 w.heap.size #[.int .i64 p, .int .i64 l, .int .i64 r, .int .i64 a, .int .i64 b, .int .i64 s, .bool h, .int .i64 t] := Box.below (Box.alloc Xb3_1 _) hb2
  have Xb7_2 : Box w2 w1.heap.size #[.int .i64 0, .int .i64 0] := Box.below (Box.new w1 _ _) hb2
  have hB2 : Below w.heap.size w w2 := stepB (by go_grown) hb2
  have hs2 := hB2.size
  clear hb2 hB1 hs1 Xb3_1 cc3 ll3
  have cc3 := Xb3_2.2.1
  have ll3 := Xb3_2.1
  have cc7 := Xb7_2.2.1
  have ll7 := Xb7_2.1
  go_wp2_with fail
  refine (in_any _ _ _ _).mono ?_
  rintro e w9 ⟨rfl, rfl⟩
  rw [h1]
  go_wp2_with fail
  refine (in_any _ _ _ _).mono ?_
  rintro e w9 ⟨rfl, rfl⟩
  rw [h2]
  go_wp2_with fail
  refine (known_any _).mono ?_
  rintro e w3 ⟨rfl, hb3⟩
  have hB3 : Below w.heap.size w w3 := stepB (by go_grown) hb3
  have hs3 := hB3.size
  clear hb3 hB2 hs2 Xb3_2 Xb7_2 cc3 ll3 cc7 ll7
  go_wp2
  go_returns
  exact ⟨rfl, hB3⟩

set_option maxRecDepth 100000 in
set_option maxHeartbeats 2000000 in
theorem areas_r3 (p l r a b s t : Int) (h : Bool) (y z : Int) (p0 : 100 ≤ p) (p1 : p ≤ 200000) (l0 : 0 ≤ l) (l1 : l ≤ 3000) (r0 : 0 ≤ r) (r1 : r ≤ 3000) (a0 : 0 ≤ a) (a1 : a ≤ 200000) (b0 : 0 ≤ b) (b1 : b ≤ 200000) (HA : Hid (∀ w : World, Calls Try.prog 22 #[.agg #[.int .i64 p, .int .i64 l, .int .i64 r, .int .i64 a, .int .i64 b, .int .i64 s, .bool h, .int .i64 t], .int .i64 y, .int .i64 z] w fun e w' => e = .returned (.tuple #[.agg #[.int .i64 0, .int .i64 0], .int .i64 3]) ∧ Below w.heap.size w w')) (HF : Hid (∀ w : World, Calls Try.prog 17 #[.agg #[.int .i64 p, .int .i64 l, .int .i64 r, .int .i64 a, .int .i64 b, .int .i64 s, .bool h, .int .i64 t]] w fun e w' => e = .returned (.bool true) ∧ Below w.heap.size w w')) (h1 : inB (-b) a y = true) (h2 : inB (-b) a z = true) (h3 : z < y) (w : World) :
    Calls Try.prog 4 #[.agg #[.int .i64 p, .int .i64 l, .int .i64 r, .int .i64 a, .int .i64 b, .int .i64 s, .bool h, .int .i64 t], .int .i64 y, .int .i64 z] w fun e w' => e = .returned (.bool true) ∧ Below w.heap.size w w' := by
  have qR := eqR
  have nR := neqR
  have gR := guardR
  have d3 : decide (z < y) = true := decide_eq_true h3
  go_enter Try.func4, Try.ntmps4
  go_wp2_with fail
  refine (HA.out _).mono ?_
  rintro e w1 ⟨rfl, hb1⟩
  have Xb3_1 : Box w1 w.heap.size #[.int .i64 p, .int .i64 l, .int .i64 r, .int .i64 a, .int .i64 b, .int .i64 s, .bool h, .int .i64 t] := Box.below (Box.new w _ _) hb1
  have hB1 : Below w.heap.size w w1 := stepB (by go_grown) hb1
  have hs1 := hB1.size
  clear hb1
  have cc3 := Xb3_1.2.1
  have ll3 := Xb3_1.1
  go_wp2_with fail
  refine (HF.out _).mono ?_
  rintro e w2 ⟨rfl, hb2⟩
  have Xb3_2 : Box w2 w.heap.size #[.int .i64 p, .int .i64 l, .int .i64 r, .int .i64 a, .int .i64 b, .int .i64 s, .bool h, .int .i64 t] := Box.below (Box.alloc Xb3_1 _) hb2
  have Xb7_2 : Box w2 w1.heap.size #[.int .i64 0, .int .i64 0] := Box.below (Box.new w1 _ _) hb2
  have hB2 : Below w.heap.size w w2 := stepB (by go_grown) hb2
  have hs2 := hB2.size
  clear hb2 hB1 hs1 Xb3_1 cc3 ll3
  have cc3 := Xb3_2.2.1
  have ll3 := Xb3_2.1
  have cc7 := Xb7_2.2.1
  have ll7 := Xb7_2.1
  go_wp2_with fail
  refine (in_any _ _ _ _).mono ?_
  rintro e w9 ⟨rfl, rfl⟩
  rw [h1]
  go_wp2_with fail
  refine (in_any _ _ _ _).mono ?_
  rintro e w9 ⟨rfl, rfl⟩
  rw [h2]
  go_wp2_with fail
  refine (known_any _).mono ?_
  rintro e w3 ⟨rfl, hb3⟩
  have hB3 : Below w.heap.size w w3 := stepB (by go_grown) hb3
  have hs3 := hB3.size
  clear hb3 hB2 hs2 Xb3_2 Xb7_2 cc3 ll3 cc7 ll7
  go_wp2
  go_returns
  exact ⟨rfl, hB3⟩

set_option maxRecDepth 100000 in
set_option maxHeartbeats 2000000 in
theorem areas_good (p l r a b s t : Int) (h : Bool) (y z : Int) (p0 : 100 ≤ p) (p1 : p ≤ 200000) (l0 : 0 ≤ l) (l1 : l ≤ 3000) (r0 : 0 ≤ r) (r1 : r ≤ 3000) (a0 : 0 ≤ a) (a1 : a ≤ 200000) (b0 : 0 ≤ b) (b1 : b ≤ 200000) (q1 e1 : Int) (h1 : inB (-b) a y = true) (h2 : inB (-b) a z = true) (h3 : y ≤ z) (W0 : IntKind.i64.wrap (z - y) = z - y) (W1 : IntKind.i64.wrap (1000 * (z - y)) = 1000 * (z - y)) (W2 : IntKind.i64.wrap (1000 * (z - y) * p) = 1000 * (z - y) * p) (W3 : IntKind.i64.wrap (z * z) = z * z) (W4 : IntKind.i64.wrap (y * y) = y * y) (W5 : IntKind.i64.wrap (z * z - y * y) = z * z - y * y) (W6 : IntKind.i64.wrap (l + r) = l + r) (W7 : IntKind.i64.wrap ((z * z - y * y) * (l + r)) = (z * z - y * y) * (l + r)) (W8 : IntKind.i64.wrap (1000 * (z - y) * p - (z * z - y * y) * (l + r)) = 1000 * (z - y) * p - (z * z - y * y) * (l + r)) (HA : Hid (∀ w : World, Calls Try.prog 22 #[.agg #[.int .i64 p, .int .i64 l, .int .i64 r, .int .i64 a, .int .i64 b, .int .i64 s, .bool h, .int .i64 t], .int .i64 y, .int .i64 z] w fun e w' => e = .returned (.tuple #[.agg #[.int .i64 q1, .int .i64 e1], .int .i64 0]) ∧ Below w.heap.size w w')) (HF : Hid (∀ w : World, Calls Try.prog 17 #[.agg #[.int .i64 p, .int .i64 l, .int .i64 r, .int .i64 a, .int .i64 b, .int .i64 s, .bool h, .int .i64 t]] w fun e w' => e = .returned (.bool true) ∧ Below w.heap.size w w')) (HL : Hid (∀ w : World, Calls Try.prog 20 #[.int .i64 (1000 * (z - y) * p - (z * z - y * y) * (l + r)), .int .i64 2000] w fun e w' => e = .returned (.agg #[.int .i64 q1, .int .i64 e1]) ∧ Below w.heap.size w w')) (w : World) :
    Calls Try.prog 4 #[.agg #[.int .i64 p, .int .i64 l, .int .i64 r, .int .i64 a, .int .i64 b, .int .i64 s, .bool h, .int .i64 t], .int .i64 y, .int .i64 z] w fun e w' => e = .returned (.bool true) ∧ Below w.heap.size w w' := by
  have qR := eqR
  have nR := neqR
  have gR := guardR
  have d3 : decide (z < y) = false := decide_eq_false (by omega)
  go_enter Try.func4, Try.ntmps4
  go_wp2_with fail
  refine (HA.out _).mono ?_
  rintro e w1 ⟨rfl, hb1⟩
  have Xb3_1 : Box w1 w.heap.size #[.int .i64 p, .int .i64 l, .int .i64 r, .int .i64 a, .int .i64 b, .int .i64 s, .bool h, .int .i64 t] := Box.below (Box.new w _ _) hb1
  have hB1 : Below w.heap.size w w1 := stepB (by go_grown) hb1
  have hs1 := hB1.size
  clear hb1
  have cc3 := Xb3_1.2.1
  have ll3 := Xb3_1.1
  go_wp2_with fail
  refine (HF.out _).mono ?_
  rintro e w2 ⟨rfl, hb2⟩
  have Xb3_2 : Box w2 w.heap.size #[.int .i64 p, .int .i64 l, .int .i64 r, .int .i64 a, .int .i64 b, .int .i64 s, .bool h, .int .i64 t] := Box.below (Box.alloc Xb3_1 _) hb2
  have Xb7_2 : Box w2 w1.heap.size #[.int .i64 q1, .int .i64 e1] := Box.below (Box.new w1 _ _) hb2
  have hB2 : Below w.heap.size w w2 := stepB (by go_grown) hb2
  have hs2 := hB2.size
  clear hb2 hB1 hs1 Xb3_1 cc3 ll3
  have cc3 := Xb3_2.2.1
  have ll3 := Xb3_2.1
  go_wp2_with fail
  refine (in_any _ _ _ _).mono ?_
  rintro e w9 ⟨rfl, rfl⟩
  rw [h1]
  go_wp2_with fail
  refine (in_any _ _ _ _).mono ?_
  rintro e w9 ⟨rfl, rfl⟩
  rw [h2]
  go_wp2
  have Yb3 : Box w2 w.heap.size #[.int .i64 p, .int .i64 l, .int .i64 r, .int .i64 a, .int .i64 b, .int .i64 s, .bool h, .int .i64 t] := Xb3_2
  have Yb7 : Box w2 w1.heap.size #[.int .i64 q1, .int .i64 e1] := Xb7_2
  have hBX : Below w.heap.size w w2 := by go_grown
  clear hB2 hs2 Xb3_2 Xb7_2 cc3 ll3
  have hsX := hBX.size
  have rd3 := fun d os => (Yb3.regrown d os).2.1
  have rd7 := fun d os => (Yb7.regrown d os).2.1
  have kc87 := fun d os => (HL.out (Go.Sort.grow (redrawn w2 d) os)).regrown_of
  have kc91 := fun d os => (known_any (Go.Sort.grow (redrawn w2 d) os)).regrown_of
  clear Yb3 Yb7
  refine wp_region_quiet_below (by kernel_rfl) (by kernel_rfl) ?_
  repeat ((with_reducible refine wpQuiet_step (fun K hK => ?_)); go_simp; first | ((with_reducible refine hK _ ?_); clear hK K) | (apply Exists.intro; refine ⟨fun _ => ?_, hK _ ?_⟩; (first | (go_at_call 20; with_reducible exact kc87 _ _) | (go_at_call 18; with_reducible exact kc91 _ _)); clear hK K))
  with_reducible refine wpQuiet_nil ?_
  intro w3 hw'
  obtain ⟨⟨dq, osq⟩, hw''⟩ := hw'
  have hb3 : Below w2.heap.size w2 w3 := by rw [hw'']; exact below_regrown w2 dq osq
  have hB3 : Below w.heap.size w w3 := stepB hBX hb3
  have hs3 := hB3.size
  clear hw'' hb3 hBX hsX rd3 rd7 kc87 kc91
  go_wp2
  go_returns
  exact ⟨rfl, hB3⟩

end Go.Proofs.Ytloleaahelmdjaa
