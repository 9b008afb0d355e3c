/- ZoneCoats: its ways. Made by tools/gen_zcoats.py. -/
import Derived.Test.YtpmeahmjmpgbfaaZKnown
import Derived.Test.YtpmeahmjmpgbfaaZRef
namespace Go.Proofs.Ytpmeahmjmpgbfaa
open Go.ChangeShapes Go.WideShapes Go.ChangeAt Go.RowKit
set_option linter.unusedVariables false
set_option linter.unusedSimpArgs false

theorem neqSk (a b c d : Int) (w : World) : (binOp .neq 24 (.agg #[.int .i64 a, .int .i64 b]) (.agg #[.int .i64 c, .int .i64 d])).run Try.prog w = .ok (.bool (!(a == c && b == d))) w := by
  have u3 := Try.underlying3
  have a3 := Try.isAgg3
  have z3 := Try.sizeOf3
  have hS : Try.prog.underlying 24 = some (.struct (Try.prog.fieldsOf 24)) := by kernel_rfl
  have hp : Try.prog.stoodInHeld 24 = false := by kernel_rfl
  rw [run_neq_struct, show (10000 : Nat) = 9999 + 1 from rfl, run_equalIn_agg w 9999 24 _ _ hS hp]
  simp only [Program.fieldsOf, Try.underlying24]
  go_simp
  by_cases h1 : a = c <;> by_cases h2 : b = d <;> simp [h1, h2]

theorem lspan2_any (a b : Int) (w : World) : Calls Try.prog 40 #[.int .i64 a, .int .i64 b] w fun e w' => e = .returned (.agg #[.int .i64 a, .int .i64 b]) ∧ Below w.heap.size w w' := lspan_any a b w

set_option maxRecDepth 100000 in
set_option maxHeartbeats 4000000 in
theorem coats_bad1 (s0 s1 t0 t1 n d : Int) (nut : Bool) (HB : Hid (∀ w : World, Calls Try.prog 35 #[.agg #[.int .i64 s0, .int .i64 s1], .bool nut, .agg #[.int .i64 t0, .int .i64 t1, .int .i64 n, .int .i64 d]] w fun e w' => e = .returned (.tuple #[.agg #[.int .i64 0, .int .i64 0], .int .i64 2]) ∧ Below w.heap.size w w')) (HA : Hid (∀ w : World, Calls Try.prog 36 #[.agg #[.int .i64 s0, .int .i64 s1], .bool nut, .agg #[.int .i64 t0, .int .i64 t1, .int .i64 n, .int .i64 d]] w fun e w' => e = .returned (.tuple #[.agg #[.int .i64 0, .int .i64 0], .int .i64 2]) ∧ Below w.heap.size w w')) (HS : Hid (∀ w : World, Calls Try.prog 37 #[.agg #[.int .i64 s0, .int .i64 s1], .int .i64 (-20000000), .int .i64 20000000] w fun e w' => e = .returned (.bool false) ∧ Below w.heap.size w w')) (w : World) :
    Calls Try.prog 6 #[.agg #[.int .i64 s0, .int .i64 s1], .agg #[.int .i64 t0, .int .i64 t1, .int .i64 n, .int .i64 d], .bool nut] w fun e w' => e = .returned (.bool true) ∧ Below w.heap.size w w' := by
  have qS := eqSk
  have nS := neqSk
  have gS := guardSk
  go_enter Try.func6, Try.ntmps6
  go_wp2_with fail
  refine (HB.out _).mono ?_
  rintro e w1 ⟨rfl, hb1⟩
  have Xb3_1 : Box w1 w.heap.size #[.int .i64 s0, .int .i64 s1] := Box.below (Box.alloc (Box.new w _ _) _) hb1
  have Xb4_1 : Box w1 (w.heap.size + 1) #[.int .i64 t0, .int .i64 t1, .int .i64 n, .int .i64 d] := Box.below (Box.newAt (w.alloc _) _ _ (by simp)) hb1
  have hB1 : Below w.heap.size w w1 := stepB (by go_grown) hb1
  have hs1 := hB1.size
  clear hb1
  have cc3 := Xb3_1.2.1
  have ll3 := Xb3_1.1
  have cc4 := Xb4_1.2.1
  have ll4 := Xb4_1.1
  have lm4_0 : w.heap.size < w1.heap.size := by have := ll4; omega
  go_wp2_with fail
  refine (HA.out _).mono ?_
  rintro e w2 ⟨rfl, hb2⟩
  have Xb3_2 : Box w2 w.heap.size #[.int .i64 s0, .int .i64 s1] := Box.below (Box.alloc Xb3_1 _) hb2
  have Xb4_2 : Box w2 (w.heap.size + 1) #[.int .i64 t0, .int .i64 t1, .int .i64 n, .int .i64 d] := Box.below (Box.alloc Xb4_1 _) hb2
  have Xb7_2 : Box w2 w1.heap.size #[.int .i64 0, .int .i64 0] := Box.below (Box.new w1 _ _) hb2
  have hB2 : Below w.heap.size w w2 := stepB (by go_grown) hb2
  have hs2 := hB2.size
  clear hb2 hB1 hs1 Xb3_1 Xb4_1 cc3 ll3 cc4 ll4 lm4_0
  have cc3 := Xb3_2.2.1
  have ll3 := Xb3_2.1
  go_wp2_with fail
  refine (HS.out _).mono ?_
  rintro e w3 ⟨rfl, hb3⟩
  have Xb4_3 : Box w3 (w.heap.size + 1) #[.int .i64 t0, .int .i64 t1, .int .i64 n, .int .i64 d] := Box.below (Box.alloc Xb4_2 _) hb3
  have Xb7_3 : Box w3 w1.heap.size #[.int .i64 0, .int .i64 0] := Box.below (Box.alloc Xb7_2 _) hb3
  have Xb9_3 : Box w3 w2.heap.size #[.int .i64 0, .int .i64 0] := Box.below (Box.new w2 _ _) hb3
  have hB3 : Below w.heap.size w w3 := stepB (by go_grown) hb3
  have hs3 := hB3.size
  clear hb3 hB2 hs2 Xb3_2 Xb4_2 Xb7_2 cc3 ll3
  have cc4 := Xb4_3.2.1
  have ll4 := Xb4_3.1
  have lm4_0 : w.heap.size < w3.heap.size := by have := ll4; omega
  have cc7 := Xb7_3.2.1
  have ll7 := Xb7_3.1
  have cc9 := Xb9_3.2.1
  have ll9 := Xb9_3.1
  go_wp2_with fail
  refine (known_any _).mono ?_
  rintro e w4 ⟨rfl, hb4⟩
  have hB4 : Below w.heap.size w w4 := stepB (by go_grown) hb4
  have hs4 := hB4.size
  clear hb4 hB3 hs3 Xb4_3 Xb7_3 Xb9_3 cc4 ll4 lm4_0 cc7 ll7 cc9 ll9
  go_wp2
  go_returns
  exact ⟨rfl, hB4⟩

set_option maxRecDepth 100000 in
set_option maxHeartbeats 4000000 in
theorem coats_bad2 (s0 s1 t0 t1 n d : Int) (nut : Bool) (HB : Hid (∀ w : World, Calls Try.prog 35 #[.agg #[.int .i64 s0, .int .i64 s1], .bool nut, .agg #[.int .i64 t0, .int .i64 t1, .int .i64 n, .int .i64 d]] w fun e w' => e = .returned (.tuple #[.agg #[.int .i64 0, .int .i64 0], .int .i64 2]) ∧ Below w.heap.size w w')) (HA : Hid (∀ w : World, Calls Try.prog 36 #[.agg #[.int .i64 s0, .int .i64 s1], .bool nut, .agg #[.int .i64 t0, .int .i64 t1, .int .i64 n, .int .i64 d]] w fun e w' => e = .returned (.tuple #[.agg #[.int .i64 0, .int .i64 0], .int .i64 2]) ∧ Below w.heap.size w w')) (HS : Hid (∀ w : World, Calls Try.prog 37 #[.agg #[.int .i64 s0, .int .i64 s1], .int .i64 (-20000000), .int .i64 20000000] w fun e w' => e = .returned (.bool true) ∧ Below w.heap.size w w')) (HC : Hid (∀ w : World, Calls Try.prog 38 #[.agg #[.int .i64 t0, .int .i64 t1, .int .i64 n, .int .i64 d]] w fun e w' => e = .returned (.bool false) ∧ Below w.heap.size w w')) (w : World) :
    Calls Try.prog 6 #[.agg #[.int .i64 s0, .int .i64 s1], .agg #[.int .i64 t0, .int .i64 t1, .int .i64 n, .int .i64 d], .bool nut] w fun e w' => e = .returned (.bool true) ∧ Below w.heap.size w w' := by
  have qS := eqSk
  have nS := neqSk
  have gS := guardSk
  go_enter Try.func6, Try.ntmps6
  go_wp2_with fail
  refine (HB.out _).mono ?_
  rintro e w1 ⟨rfl, hb1⟩
  have Xb3_1 : Box w1 w.heap.size #[.int .i64 s0, .int .i64 s1] := Box.below (Box.alloc (Box.new w _ _) _) hb1
  have Xb4_1 : Box w1 (w.heap.size + 1) #[.int .i64 t0, .int .i64 t1, .int .i64 n, .int .i64 d] := Box.below (Box.newAt (w.alloc _) _ _ (by simp)) hb1
  have hB1 : Below w.heap.size w w1 := stepB (by go_grown) hb1
  have hs1 := hB1.size
  clear hb1
  have cc3 := Xb3_1.2.1
  have ll3 := Xb3_1.1
  have cc4 := Xb4_1.2.1
  have ll4 := Xb4_1.1
  have lm4_0 : w.heap.size < w1.heap.size := by have := ll4; omega
  go_wp2_with fail
  refine (HA.out _).mono ?_
  rintro e w2 ⟨rfl, hb2⟩
  have Xb3_2 : Box w2 w.heap.size #[.int .i64 s0, .int .i64 s1] := Box.below (Box.alloc Xb3_1 _) hb2
  have Xb4_2 : Box w2 (w.heap.size + 1) #[.int .i64 t0, .int .i64 t1, .int .i64 n, .int .i64 d] := Box.below (Box.alloc Xb4_1 _) hb2
  have Xb7_2 : Box w2 w1.heap.size #[.int .i64 0, .int .i64 0] := Box.below (Box.new w1 _ _) hb2
  have hB2 : Below w.heap.size w w2 := stepB (by go_grown) hb2
  have hs2 := hB2.size
  clear hb2 hB1 hs1 Xb3_1 Xb4_1 cc3 ll3 cc4 ll4 lm4_0
  have cc3 := Xb3_2.2.1
  have ll3 := Xb3_2.1
  go_wp2_with fail
  refine (HS.out _).mono ?_
  rintro e w3 ⟨rfl, hb3⟩
  have Xb4_3 : Box w3 (w.heap.size + 1) #[.int .i64 t0, .int .i64 t1, .int .i64 n, .int .i64 d] := Box.below (Box.alloc Xb4_2 _) hb3
  have Xb7_3 : Box w3 w1.heap.size #[.int .i64 0, .int .i64 0] := Box.below (Box.alloc Xb7_2 _) hb3
  have Xb9_3 : Box w3 w2.heap.size #[.int .i64 0, .int .i64 0] := Box.below (Box.new w2 _ _) hb3
  have hB3 : Below w.heap.size w w3 := stepB (by go_grown) hb3
  have hs3 := hB3.size
  clear hb3 hB2 hs2 Xb3_2 Xb4_2 Xb7_2 cc3 ll3
  have cc4 := Xb4_3.2.1
  have ll4 := Xb4_3.1
  have lm4_0 : w.heap.size < w3.heap.size := by have := ll4; omega
  go_wp2_with fail
  refine (HC.out _).mono ?_
  rintro e w4 ⟨rfl, hb4⟩
  have Xb7_4 : Box w4 w1.heap.size #[.int .i64 0, .int .i64 0] := Box.below Xb7_3 hb4
  have Xb9_4 : Box w4 w2.heap.size #[.int .i64 0, .int .i64 0] := Box.below Xb9_3 hb4
  have hB4 : Below w.heap.size w w4 := stepB (by go_grown) hb4
  have hs4 := hB4.size
  clear hb4 hB3 hs3 Xb4_3 Xb7_3 Xb9_3 cc4 ll4 lm4_0
  have cc7 := Xb7_4.2.1
  have ll7 := Xb7_4.1
  have cc9 := Xb9_4.2.1
  have ll9 := Xb9_4.1
  go_wp2_with fail
  refine (known_any _).mono ?_
  rintro e w5 ⟨rfl, hb5⟩
  have hB5 : Below w.heap.size w w5 := stepB (by go_grown) hb5
  have hs5 := hB5.size
  clear hb5 hB4 hs4 Xb7_4 Xb9_4 cc7 ll7 cc9 ll9
  go_wp2
  go_returns
  exact ⟨rfl, hB5⟩

set_option maxRecDepth 100000 in
set_option maxHeartbeats 4000000 in
theorem coats_ok0 (s0 s1 t0 t1 n d al ah bl bh x0 x1 x2 x3 : Int) (HB : Hid (∀ w : World, Calls Try.prog 35 #[.agg #[.int .i64 s0, .int .i64 s1], .bool false, .agg #[.int .i64 t0, .int .i64 t1, .int .i64 n, .int .i64 d]] w fun e w' => e = .returned (.tuple #[.agg #[.int .i64 al, .int .i64 ah], .int .i64 0]) ∧ Below w.heap.size w w')) (HA : Hid (∀ w : World, Calls Try.prog 36 #[.agg #[.int .i64 s0, .int .i64 s1], .bool false, .agg #[.int .i64 t0, .int .i64 t1, .int .i64 n, .int .i64 d]] w fun e w' => e = .returned (.tuple #[.agg #[.int .i64 bl, .int .i64 bh], .int .i64 0]) ∧ Below w.heap.size w w')) (HS : Hid (∀ w : World, Calls Try.prog 37 #[.agg #[.int .i64 s0, .int .i64 s1], .int .i64 (-20000000), .int .i64 20000000] w fun e w' => e = .returned (.bool true) ∧ Below w.heap.size w w')) (HC : Hid (∀ w : World, Calls Try.prog 38 #[.agg #[.int .i64 t0, .int .i64 t1, .int .i64 n, .int .i64 d]] w fun e w' => e = .returned (.bool true) ∧ Below w.heap.size w w')) (HG0 : Hid (∀ w : World, Calls Try.prog 39 #[.int .i64 s0, .bool false, .int .i64 t0, .agg #[.int .i64 t0, .int .i64 t1, .int .i64 n, .int .i64 d]] w fun e w' => e = .returned (.int .i64 x0) ∧ Below w.heap.size w w')) (HG1 : Hid (∀ w : World, Calls Try.prog 39 #[.int .i64 s1, .bool false, .int .i64 t1, .agg #[.int .i64 t0, .int .i64 t1, .int .i64 n, .int .i64 d]] w fun e w' => e = .returned (.int .i64 x1) ∧ Below w.heap.size w w')) (HD : Hid (∀ w : World, Calls Try.prog 41 #[.int .i64 x0, .int .i64 d] w fun e w' => e = .returned (.int .i64 bl) ∧ Below w.heap.size w w')) (HU : Hid (∀ w : World, Calls Try.prog 42 #[.int .i64 x1, .int .i64 d] w fun e w' => e = .returned (.int .i64 bh) ∧ Below w.heap.size w w')) (HR0 : Hid (∀ w : World, Calls Try.prog 43 #[.int .i64 al, .agg #[.int .i64 s0, .int .i64 s1], .bool false, .agg #[.int .i64 t0, .int .i64 t1, .int .i64 n, .int .i64 d]] w fun e w' => e = .returned (.bool true) ∧ Below w.heap.size w w')) (HR1 : Hid (∀ w : World, Calls Try.prog 43 #[.int .i64 ah, .agg #[.int .i64 s0, .int .i64 s1], .bool false, .agg #[.int .i64 t0, .int .i64 t1, .int .i64 n, .int .i64 d]] w fun e w' => e = .returned (.bool true) ∧ Below w.heap.size w w')) (HR2 : Hid (∀ w : World, Calls Try.prog 43 #[.int .i64 (al - 1), .agg #[.int .i64 s0, .int .i64 s1], .bool false, .agg #[.int .i64 t0, .int .i64 t1, .int .i64 n, .int .i64 d]] w fun e w' => e = .returned (.bool false) ∧ Below w.heap.size w w')) (HR3 : Hid (∀ w : World, Calls Try.prog 43 #[.int .i64 (ah + 1), .agg #[.int .i64 s0, .int .i64 s1], .bool false, .agg #[.int .i64 t0, .int .i64 t1, .int .i64 n, .int .i64 d]] w fun e w' => e = .returned (.bool false) ∧ Below w.heap.size w w')) (hal : al ≤ ah) (W1 : IntKind.i64.wrap (al - 1) = al - 1) (W2 : IntKind.i64.wrap (ah + 1) = ah + 1) (w : World) :
    Calls Try.prog 6 #[.agg #[.int .i64 s0, .int .i64 s1], .agg #[.int .i64 t0, .int .i64 t1, .int .i64 n, .int .i64 d], .bool false] w fun e w' => e = .returned (.bool true) ∧ Below w.heap.size w w' := by
  have qS := eqSk
  have nS := neqSk
  have gS := guardSk
  have d1 : decide (al ≤ ah) = true := decide_eq_true hal
  clear hal
  go_enter Try.func6, Try.ntmps6
  go_wp2_with fail
  refine (HB.out _).mono ?_
  rintro e w1 ⟨rfl, hb1⟩
  have Xb3_1 : Box w1 w.heap.size #[.int .i64 s0, .int .i64 s1] := Box.below (Box.alloc (Box.new w _ _) _) hb1
  have Xb4_1 : Box w1 (w.heap.size + 1) #[.int .i64 t0, .int .i64 t1, .int .i64 n, .int .i64 d] := Box.below (Box.newAt (w.alloc _) _ _ (by simp)) hb1
  have hB1 : Below w.heap.size w w1 := stepB (by go_grown) hb1
  have hs1 := hB1.size
  clear hb1
  have cc3 := Xb3_1.2.1
  have ll3 := Xb3_1.1
  have cc4 := Xb4_1.2.1
  have ll4 := Xb4_1.1
  have lm4_0 : w.heap.size < w1.heap.size := by have := ll4; omega
  go_wp2_with fail
  refine (HA.out _).mono ?_
  rintro e w2 ⟨rfl, hb2⟩
  have Xb3_2 : Box w2 w.heap.size #[.int .i64 s0, .int .i64 s1] := Box.below (Box.alloc Xb3_1 _) hb2
  have Xb4_2 : Box w2 (w.heap.size + 1) #[.int .i64 t0, .int .i64 t1, .int .i64 n, .int .i64 d] := Box.below (Box.alloc Xb4_1 _) hb2
  have Xb7_2 : Box w2 w1.heap.size #[.int .i64 al, .int .i64 ah] := Box.below (Box.new w1 _ _) hb2
  have hB2 : Below w.heap.size w w2 := stepB (by go_grown) hb2
  have hs2 := hB2.size
  clear hb2 hB1 hs1 Xb3_1 Xb4_1 cc3 ll3 cc4 ll4 lm4_0
  have cc3 := Xb3_2.2.1
  have ll3 := Xb3_2.1
  go_wp2_with fail
  refine (HS.out _).mono ?_
  rintro e w3 ⟨rfl, hb3⟩
  have Xb3_3 : Box w3 w.heap.size #[.int .i64 s0, .int .i64 s1] := Box.below (Box.alloc Xb3_2 _) hb3
  have Xb4_3 : Box w3 (w.heap.size + 1) #[.int .i64 t0, .int .i64 t1, .int .i64 n, .int .i64 d] := Box.below (Box.alloc Xb4_2 _) hb3
  have Xb7_3 : Box w3 w1.heap.size #[.int .i64 al, .int .i64 ah] := Box.below (Box.alloc Xb7_2 _) hb3
  have Xb9_3 : Box w3 w2.heap.size #[.int .i64 bl, .int .i64 bh] := Box.below (Box.new w2 _ _) hb3
  have hB3 : Below w.heap.size w w3 := stepB (by go_grown) hb3
  have hs3 := hB3.size
  clear hb3 hB2 hs2 Xb3_2 Xb4_2 Xb7_2 cc3 ll3
  have cc4 := Xb4_3.2.1
  have ll4 := Xb4_3.1
  have lm4_0 : w.heap.size < w3.heap.size := by have := ll4; omega
  go_wp2_with fail
  refine (HC.out _).mono ?_
  rintro e w4 ⟨rfl, hb4⟩
  have Xb3_4 : Box w4 w.heap.size #[.int .i64 s0, .int .i64 s1] := Box.below Xb3_3 hb4
  have Xb4_4 : Box w4 (w.heap.size + 1) #[.int .i64 t0, .int .i64 t1, .int .i64 n, .int .i64 d] := Box.below Xb4_3 hb4
  have Xb7_4 : Box w4 w1.heap.size #[.int .i64 al, .int .i64 ah] := Box.below Xb7_3 hb4
  have Xb9_4 : Box w4 w2.heap.size #[.int .i64 bl, .int .i64 bh] := Box.below Xb9_3 hb4
  have hB4 : Below w.heap.size w w4 := stepB (by go_grown) hb4
  have hs4 := hB4.size
  clear hb4 hB3 hs3 Xb3_3 Xb4_3 Xb7_3 Xb9_3 cc4 ll4 lm4_0
  go_wp2
  have Yb3 : Box w4 w.heap.size #[.int .i64 s0, .int .i64 s1] := Xb3_4
  have Yb4 : Box w4 (w.heap.size + 1) #[.int .i64 t0, .int .i64 t1, .int .i64 n, .int .i64 d] := Xb4_4
  have Yb7 : Box w4 w1.heap.size #[.int .i64 al, .int .i64 ah] := Xb7_4
  have Yb9 : Box w4 w2.heap.size #[.int .i64 bl, .int .i64 bh] := Xb9_4
  have hBX : Below w.heap.size w w4 := by go_grown
  clear hB4 hs4 Xb3_4 Xb4_4 Xb7_4 Xb9_4
  have hsX := hBX.size
  have rd3 := fun d os => (Yb3.regrown d os).2.1
  have rd4 := fun d os => (Yb4.regrown d os).2.1
  have kc63 := fun d os => (HG0.out (Go.Sort.grow (redrawn w4 d) os)).regrown_of
  have kc71 := fun d os => (HG1.out (Go.Sort.grow (redrawn w4 d) os)).regrown_of
  have Zb3 := Lib.hid Yb3
  have Zb4 := Lib.hid Yb4
  have Zb7 := Lib.hid Yb7
  have Zb9 := Lib.hid Yb9
  clear Yb3 Yb4 Yb7 Yb9
  refine wp_region_quiet_below (by kernel_rfl) (by kernel_rfl) ?_
  repeat ((with_reducible refine wpQuiet_step (fun K hK => ?_)); go_simp; first | ((with_reducible refine hK _ ?_); clear hK K) | (apply Exists.intro; refine ⟨fun _ => ?_, hK _ ?_⟩; (first | (go_at_call 39; with_reducible exact kc63 _ _) | (go_at_call 39; with_reducible exact kc71 _ _)); clear hK K))
  with_reducible refine wpQuiet_nil ?_
  intro w5 hw'
  obtain ⟨⟨dq, osq⟩, hw''⟩ := hw'
  have hb5 : Below w4.heap.size w4 w5 := by rw [hw'']; exact below_regrown w4 dq osq
  have Xb3_5 : Box w5 w.heap.size #[.int .i64 s0, .int .i64 s1] := Zb3.out.below hb5
  have Xb4_5 : Box w5 (w.heap.size + 1) #[.int .i64 t0, .int .i64 t1, .int .i64 n, .int .i64 d] := Zb4.out.below hb5
  have Xb7_5 : Box w5 w1.heap.size #[.int .i64 al, .int .i64 ah] := Zb7.out.below hb5
  have Xb9_5 : Box w5 w2.heap.size #[.int .i64 bl, .int .i64 bh] := Zb9.out.below hb5
  have hB5 : Below w.heap.size w w5 := stepB hBX hb5
  have hs5 := hB5.size
  clear hw'' hb5 hBX hsX rd3 rd4 kc63 kc71 Zb3 Zb4 Zb7 Zb9
  go_wp2
  have Yb3 : Box w5 w.heap.size #[.int .i64 s0, .int .i64 s1] := Xb3_5
  have Yb4 : Box w5 (w.heap.size + 1) #[.int .i64 t0, .int .i64 t1, .int .i64 n, .int .i64 d] := Xb4_5
  have Yb7 : Box w5 w1.heap.size #[.int .i64 al, .int .i64 ah] := Xb7_5
  have Yb9 : Box w5 w2.heap.size #[.int .i64 bl, .int .i64 bh] := Xb9_5
  have hBX : Below w.heap.size w w5 := by go_grown
  clear hB5 hs5 Xb3_5 Xb4_5 Xb7_5 Xb9_5
  have hsX := hBX.size
  have rd4 := fun d os => (Yb4.regrown d os).2.1
  have rd9 := fun d os => (Yb9.regrown d os).2.1
  have kc97 := fun d os => (HD.out (Go.Sort.grow (redrawn w5 d) os)).regrown_of
  have kc102 := fun d os => (HU.out (Go.Sort.grow (redrawn w5 d) os)).regrown_of
  have kc103 := fun d os => (lspan2_any bl bh (Go.Sort.grow (redrawn w5 d) os)).regrown_of
  have Zb3 := Lib.hid Yb3
  have Zb4 := Lib.hid Yb4
  have Zb7 := Lib.hid Yb7
  clear Yb3 Yb4 Yb7 Yb9
  refine wp_region_quiet_below (by kernel_rfl) (by kernel_rfl) ?_
  repeat ((with_reducible refine wpQuiet_step (fun K hK => ?_)); go_simp; first | ((with_reducible refine hK _ ?_); clear hK K) | (apply Exists.intro; refine ⟨fun _ => ?_, hK _ ?_⟩; (first | (go_at_call 41; with_reducible exact kc97 _ _) | (go_at_call 42; with_reducible exact kc102 _ _) | (go_at_call 40; with_reducible exact kc103 _ _)); clear hK K))
  with_reducible refine wpQuiet_nil ?_
  intro w6 hw'
  obtain ⟨⟨dq, osq⟩, hw''⟩ := hw'
  have hb6 : Below w5.heap.size w5 w6 := by rw [hw'']; exact below_regrown w5 dq osq
  have Xb3_6 : Box w6 w.heap.size #[.int .i64 s0, .int .i64 s1] := Zb3.out.below hb6
  have Xb4_6 : Box w6 (w.heap.size + 1) #[.int .i64 t0, .int .i64 t1, .int .i64 n, .int .i64 d] := Zb4.out.below hb6
  have Xb7_6 : Box w6 w1.heap.size #[.int .i64 al, .int .i64 ah] := Zb7.out.below hb6
  have hB6 : Below w.heap.size w w6 := stepB hBX hb6
  have hs6 := hB6.size
  clear hw'' hb6 hBX hsX rd4 rd9 kc97 kc102 kc103 Zb3 Zb4 Zb7
  have cc3 := Xb3_6.2.1
  have ll3 := Xb3_6.1
  have cc4 := Xb4_6.2.1
  have ll4 := Xb4_6.1
  have lm4_0 : w.heap.size < w6.heap.size := by have := ll4; omega
  have cc7 := Xb7_6.2.1
  have ll7 := Xb7_6.1
  go_wp2_with fail
  refine (HR0.out _).mono ?_
  rintro e w7 ⟨rfl, hb7⟩
  have Xb3_7 : Box w7 w.heap.size #[.int .i64 s0, .int .i64 s1] := Box.below Xb3_6 hb7
  have Xb4_7 : Box w7 (w.heap.size + 1) #[.int .i64 t0, .int .i64 t1, .int .i64 n, .int .i64 d] := Box.below Xb4_6 hb7
  have Xb7_7 : Box w7 w1.heap.size #[.int .i64 al, .int .i64 ah] := Box.below Xb7_6 hb7
  have hB7 : Below w.heap.size w w7 := stepB (by go_grown) hb7
  have hs7 := hB7.size
  clear hb7 hB6 hs6 Xb3_6 Xb4_6 Xb7_6 cc3 ll3 cc4 ll4 lm4_0 cc7 ll7
  have cc3 := Xb3_7.2.1
  have ll3 := Xb3_7.1
  have cc4 := Xb4_7.2.1
  have ll4 := Xb4_7.1
  have lm4_0 : w.heap.size < w7.heap.size := by have := ll4; omega
  have cc7 := Xb7_7.2.1
  have ll7 := Xb7_7.1
  go_wp2_with fail
  refine (HR1.out _).mono ?_
  rintro e w8 ⟨rfl, hb8⟩
  have Xb3_8 : Box w8 w.heap.size #[.int .i64 s0, .int .i64 s1] := Box.below Xb3_7 hb8
  have Xb4_8 : Box w8 (w.heap.size + 1) #[.int .i64 t0, .int .i64 t1, .int .i64 n, .int .i64 d] := Box.below Xb4_7 hb8
  have Xb7_8 : Box w8 w1.heap.size #[.int .i64 al, .int .i64 ah] := Box.below Xb7_7 hb8
  have hB8 : Below w.heap.size w w8 := stepB (by go_grown) hb8
  have hs8 := hB8.size
  clear hb8 hB7 hs7 Xb3_7 Xb4_7 Xb7_7 cc3 ll3 cc4 ll4 lm4_0 cc7 ll7
  have cc3 := Xb3_8.2.1
  have ll3 := Xb3_8.1
  have cc4 := Xb4_8.2.1
  have ll4 := Xb4_8.1
  have lm4_0 : w.heap.size < w8.heap.size := by have := ll4; omega
  have cc7 := Xb7_8.2.1
  have ll7 := Xb7_8.1
  go_wp2_with fail
  refine (HR2.out _).mono ?_
  rintro e w9 ⟨rfl, hb9⟩
  have Xb3_9 : Box w9 w.heap.size #[.int .i64 s0, .int .i64 s1] := Box.below Xb3_8 hb9
  have Xb4_9 : Box w9 (w.heap.size + 1) #[.int .i64 t0, .int .i64 t1, .int .i64 n, .int .i64 d] := Box.below Xb4_8 hb9
  have Xb7_9 : Box w9 w1.heap.size #[.int .i64 al, .int .i64 ah] := Box.below Xb7_8 hb9
  have hB9 : Below w.heap.size w w9 := stepB (by go_grown) hb9
  have hs9 := hB9.size
  clear hb9 hB8 hs8 Xb3_8 Xb4_8 Xb7_8 cc3 ll3 cc4 ll4 lm4_0 cc7 ll7
  have cc3 := Xb3_9.2.1
  have ll3 := Xb3_9.1
  have cc4 := Xb4_9.2.1
  have ll4 := Xb4_9.1
  have lm4_0 : w.heap.size < w9.heap.size := by have := ll4; omega
  have cc7 := Xb7_9.2.1
  have ll7 := Xb7_9.1
  go_wp2_with fail
  refine (HR3.out _).mono ?_
  rintro e w10 ⟨rfl, hb10⟩
  have hB10 : Below w.heap.size w w10 := stepB (by go_grown) hb10
  have hs10 := hB10.size
  clear hb10 hB9 hs9 Xb3_9 Xb4_9 Xb7_9 cc3 ll3 cc4 ll4 lm4_0 cc7 ll7
  go_wp2_with fail
  refine (known_any _).mono ?_
  rintro e w11 ⟨rfl, hb11⟩
  have hB11 : Below w.heap.size w w11 := stepB (by go_grown) hb11
  have hs11 := hB11.size
  clear hb11 hB10 hs10
  go_wp2
  go_returns
  exact ⟨rfl, hB11⟩

set_option maxRecDepth 100000 in
set_option maxHeartbeats 4000000 in
theorem coats_ok1 (s0 s1 t0 t1 n d al ah bl bh x0 x1 x2 x3 : Int) (HB : Hid (∀ w : World, Calls Try.prog 35 #[.agg #[.int .i64 s0, .int .i64 s1], .bool true, .agg #[.int .i64 t0, .int .i64 t1, .int .i64 n, .int .i64 d]] w fun e w' => e = .returned (.tuple #[.agg #[.int .i64 al, .int .i64 ah], .int .i64 0]) ∧ Below w.heap.size w w')) (HA : Hid (∀ w : World, Calls Try.prog 36 #[.agg #[.int .i64 s0, .int .i64 s1], .bool true, .agg #[.int .i64 t0, .int .i64 t1, .int .i64 n, .int .i64 d]] w fun e w' => e = .returned (.tuple #[.agg #[.int .i64 bl, .int .i64 bh], .int .i64 0]) ∧ Below w.heap.size w w')) (HS : Hid (∀ w : World, Calls Try.prog 37 #[.agg #[.int .i64 s0, .int .i64 s1], .int .i64 (-20000000), .int .i64 20000000] w fun e w' => e = .returned (.bool true) ∧ Below w.heap.size w w')) (HC : Hid (∀ w : World, Calls Try.prog 38 #[.agg #[.int .i64 t0, .int .i64 t1, .int .i64 n, .int .i64 d]] w fun e w' => e = .returned (.bool true) ∧ Below w.heap.size w w')) (HG0 : Hid (∀ w : World, Calls Try.prog 39 #[.int .i64 s0, .bool true, .int .i64 t0, .agg #[.int .i64 t0, .int .i64 t1, .int .i64 n, .int .i64 d]] w fun e w' => e = .returned (.int .i64 x0) ∧ Below w.heap.size w w')) (HG1 : Hid (∀ w : World, Calls Try.prog 39 #[.int .i64 s1, .bool true, .int .i64 t1, .agg #[.int .i64 t0, .int .i64 t1, .int .i64 n, .int .i64 d]] w fun e w' => e = .returned (.int .i64 x1) ∧ Below w.heap.size w w')) (HG2 : Hid (∀ w : World, Calls Try.prog 39 #[.int .i64 s0, .bool true, .int .i64 t1, .agg #[.int .i64 t0, .int .i64 t1, .int .i64 n, .int .i64 d]] w fun e w' => e = .returned (.int .i64 x2) ∧ Below w.heap.size w w')) (HG3 : Hid (∀ w : World, Calls Try.prog 39 #[.int .i64 s1, .bool true, .int .i64 t0, .agg #[.int .i64 t0, .int .i64 t1, .int .i64 n, .int .i64 d]] w fun e w' => e = .returned (.int .i64 x3) ∧ Below w.heap.size w w')) (HD : Hid (∀ w : World, Calls Try.prog 41 #[.int .i64 x2, .int .i64 d] w fun e w' => e = .returned (.int .i64 bl) ∧ Below w.heap.size w w')) (HU : Hid (∀ w : World, Calls Try.prog 42 #[.int .i64 x3, .int .i64 d] w fun e w' => e = .returned (.int .i64 bh) ∧ Below w.heap.size w w')) (HR0 : Hid (∀ w : World, Calls Try.prog 43 #[.int .i64 al, .agg #[.int .i64 s0, .int .i64 s1], .bool true, .agg #[.int .i64 t0, .int .i64 t1, .int .i64 n, .int .i64 d]] w fun e w' => e = .returned (.bool true) ∧ Below w.heap.size w w')) (HR1 : Hid (∀ w : World, Calls Try.prog 43 #[.int .i64 ah, .agg #[.int .i64 s0, .int .i64 s1], .bool true, .agg #[.int .i64 t0, .int .i64 t1, .int .i64 n, .int .i64 d]] w fun e w' => e = .returned (.bool true) ∧ Below w.heap.size w w')) (HR2 : Hid (∀ w : World, Calls Try.prog 43 #[.int .i64 (al - 1), .agg #[.int .i64 s0, .int .i64 s1], .bool true, .agg #[.int .i64 t0, .int .i64 t1, .int .i64 n, .int .i64 d]] w fun e w' => e = .returned (.bool false) ∧ Below w.heap.size w w')) (HR3 : Hid (∀ w : World, Calls Try.prog 43 #[.int .i64 (ah + 1), .agg #[.int .i64 s0, .int .i64 s1], .bool true, .agg #[.int .i64 t0, .int .i64 t1, .int .i64 n, .int .i64 d]] w fun e w' => e = .returned (.bool false) ∧ Below w.heap.size w w')) (hal : al ≤ ah) (W1 : IntKind.i64.wrap (al - 1) = al - 1) (W2 : IntKind.i64.wrap (ah + 1) = ah + 1) (w : World) :
    Calls Try.prog 6 #[.agg #[.int .i64 s0, .int .i64 s1], .agg #[.int .i64 t0, .int .i64 t1, .int .i64 n, .int .i64 d], .bool true] w fun e w' => e = .returned (.bool true) ∧ Below w.heap.size w w' := by
  have qS := eqSk
  have nS := neqSk
  have gS := guardSk
  have d1 : decide (al ≤ ah) = true := decide_eq_true hal
  clear hal
  go_enter Try.func6, Try.ntmps6
  go_wp2_with fail
  refine (HB.out _).mono ?_
  rintro e w1 ⟨rfl, hb1⟩
  have Xb3_1 : Box w1 w.heap.size #[.int .i64 s0, .int .i64 s1] := Box.below (Box.alloc (Box.new w _ _) _) hb1
  have Xb4_1 : Box w1 (w.heap.size + 1) #[.int .i64 t0, .int .i64 t1, .int .i64 n, .int .i64 d] := Box.below (Box.newAt (w.alloc _) _ _ (by simp)) hb1
  have hB1 : Below w.heap.size w w1 := stepB (by go_grown) hb1
  have hs1 := hB1.size
  clear hb1
  have cc3 := Xb3_1.2.1
  have ll3 := Xb3_1.1
  have cc4 := Xb4_1.2.1
  have ll4 := Xb4_1.1
  have lm4_0 : w.heap.size < w1.heap.size := by have := ll4; omega
  go_wp2_with fail
  refine (HA.out _).mono ?_
  rintro e w2 ⟨rfl, hb2⟩
  have Xb3_2 : Box w2 w.heap.size #[.int .i64 s0, .int .i64 s1] := Box.below (Box.alloc Xb3_1 _) hb2
  have Xb4_2 : Box w2 (w.heap.size + 1) #[.int .i64 t0, .int .i64 t1, .int .i64 n, .int .i64 d] := Box.below (Box.alloc Xb4_1 _) hb2
  have Xb7_2 : Box w2 w1.heap.size #[.int .i64 al, .int .i64 ah] := Box.below (Box.new w1 _ _) hb2
  have hB2 : Below w.heap.size w w2 := stepB (by go_grown) hb2
  have hs2 := hB2.size
  clear hb2 hB1 hs1 Xb3_1 Xb4_1 cc3 ll3 cc4 ll4 lm4_0
  have cc3 := Xb3_2.2.1
  have ll3 := Xb3_2.1
  go_wp2_with fail
  refine (HS.out _).mono ?_
  rintro e w3 ⟨rfl, hb3⟩
  have Xb3_3 : Box w3 w.heap.size #[.int .i64 s0, .int .i64 s1] := Box.below (Box.alloc Xb3_2 _) hb3
  have Xb4_3 : Box w3 (w.heap.size + 1) #[.int .i64 t0, .int .i64 t1, .int .i64 n, .int .i64 d] := Box.below (Box.alloc Xb4_2 _) hb3
  have Xb7_3 : Box w3 w1.heap.size #[.int .i64 al, .int .i64 ah] := Box.below (Box.alloc Xb7_2 _) hb3
  have Xb9_3 : Box w3 w2.heap.size #[.int .i64 bl, .int .i64 bh] := Box.below (Box.new w2 _ _) hb3
  have hB3 : Below w.heap.size w w3 := stepB (by go_grown) hb3
  have hs3 := hB3.size
  clear hb3 hB2 hs2 Xb3_2 Xb4_2 Xb7_2 cc3 ll3
  have cc4 := Xb4_3.2.1
  have ll4 := Xb4_3.1
  have lm4_0 : w.heap.size < w3.heap.size := by have := ll4; omega
  go_wp2_with fail
  refine (HC.out _).mono ?_
  rintro e w4 ⟨rfl, hb4⟩
  have Xb3_4 : Box w4 w.heap.size #[.int .i64 s0, .int .i64 s1] := Box.below Xb3_3 hb4
  have Xb4_4 : Box w4 (w.heap.size + 1) #[.int .i64 t0, .int .i64 t1, .int .i64 n, .int .i64 d] := Box.below Xb4_3 hb4
  have Xb7_4 : Box w4 w1.heap.size #[.int .i64 al, .int .i64 ah] := Box.below Xb7_3 hb4
  have Xb9_4 : Box w4 w2.heap.size #[.int .i64 bl, .int .i64 bh] := Box.below Xb9_3 hb4
  have hB4 : Below w.heap.size w w4 := stepB (by go_grown) hb4
  have hs4 := hB4.size
  clear hb4 hB3 hs3 Xb3_3 Xb4_3 Xb7_3 Xb9_3 cc4 ll4 lm4_0
  go_wp2
  have Yb3 : Box w4 w.heap.size #[.int .i64 s0, .int .i64 s1] := Xb3_4
  have Yb4 : Box w4 (w.heap.size + 1) #[.int .i64 t0, .int .i64 t1, .int .i64 n, .int .i64 d] := Xb4_4
  have Yb7 : Box w4 w1.heap.size #[.int .i64 al, .int .i64 ah] := Xb7_4
  have Yb9 : Box w4 w2.heap.size #[.int .i64 bl, .int .i64 bh] := Xb9_4
  have hBX : Below w.heap.size w w4 := by go_grown
  clear hB4 hs4 Xb3_4 Xb4_4 Xb7_4 Xb9_4
  have hsX := hBX.size
  have rd3 := fun d os => (Yb3.regrown d os).2.1
  have rd4 := fun d os => (Yb4.regrown d os).2.1
  have kc63 := fun d os => (HG0.out (Go.Sort.grow (redrawn w4 d) os)).regrown_of
  have kc71 := fun d os => (HG1.out (Go.Sort.grow (redrawn w4 d) os)).regrown_of
  have Zb3 := Lib.hid Yb3
  have Zb4 := Lib.hid Yb4
  have Zb7 := Lib.hid Yb7
  have Zb9 := Lib.hid Yb9
  clear Yb3 Yb4 Yb7 Yb9
  refine wp_region_quiet_below (by kernel_rfl) (by kernel_rfl) ?_
  repeat ((with_reducible refine wpQuiet_step (fun K hK => ?_)); go_simp; first | ((with_reducible refine hK _ ?_); clear hK K) | (apply Exists.intro; refine ⟨fun _ => ?_, hK _ ?_⟩; (first | (go_at_call 39; with_reducible exact kc63 _ _) | (go_at_call 39; with_reducible exact kc71 _ _)); clear hK K))
  with_reducible refine wpQuiet_nil ?_
  intro w5 hw'
  obtain ⟨⟨dq, osq⟩, hw''⟩ := hw'
  have hb5 : Below w4.heap.size w4 w5 := by rw [hw'']; exact below_regrown w4 dq osq
  have Xb3_5 : Box w5 w.heap.size #[.int .i64 s0, .int .i64 s1] := Zb3.out.below hb5
  have Xb4_5 : Box w5 (w.heap.size + 1) #[.int .i64 t0, .int .i64 t1, .int .i64 n, .int .i64 d] := Zb4.out.below hb5
  have Xb7_5 : Box w5 w1.heap.size #[.int .i64 al, .int .i64 ah] := Zb7.out.below hb5
  have Xb9_5 : Box w5 w2.heap.size #[.int .i64 bl, .int .i64 bh] := Zb9.out.below hb5
  have hB5 : Below w.heap.size w w5 := stepB hBX hb5
  have hs5 := hB5.size
  clear hw'' hb5 hBX hsX rd3 rd4 kc63 kc71 Zb3 Zb4 Zb7 Zb9
  go_wp2
  have Yb3 : Box w5 w.heap.size #[.int .i64 s0, .int .i64 s1] := Xb3_5
  have Yb4 : Box w5 (w.heap.size + 1) #[.int .i64 t0, .int .i64 t1, .int .i64 n, .int .i64 d] := Xb4_5
  have Yb7 : Box w5 w1.heap.size #[.int .i64 al, .int .i64 ah] := Xb7_5
  have Yb9 : Box w5 w2.heap.size #[.int .i64 bl, .int .i64 bh] := Xb9_5
  have hBX : Below w.heap.size w w5 := by go_grown
  clear hB5 hs5 Xb3_5 Xb4_5 Xb7_5 Xb9_5
  have hsX := hBX.size
  have rd3 := fun d os => (Yb3.regrown d os).2.1
  have rd4 := fun d os => (Yb4.regrown d os).2.1
  have kc80 := fun d os => (HG2.out (Go.Sort.grow (redrawn w5 d) os)).regrown_of
  have kc88 := fun d os => (HG3.out (Go.Sort.grow (redrawn w5 d) os)).regrown_of
  have Zb3 := Lib.hid Yb3
  have Zb4 := Lib.hid Yb4
  have Zb7 := Lib.hid Yb7
  have Zb9 := Lib.hid Yb9
  clear Yb3 Yb4 Yb7 Yb9
  refine wp_region_quiet_below (by kernel_rfl) (by kernel_rfl) ?_
  repeat ((with_reducible refine wpQuiet_step (fun K hK => ?_)); go_simp; first | ((with_reducible refine hK _ ?_); clear hK K) | (apply Exists.intro; refine ⟨fun _ => ?_, hK _ ?_⟩; (first | (go_at_call 39; with_reducible exact kc80 _ _) | (go_at_call 39; with_reducible exact kc88 _ _)); clear hK K))
  with_reducible refine wpQuiet_nil ?_
  intro w6 hw'
  obtain ⟨⟨dq, osq⟩, hw''⟩ := hw'
  have hb6 : Below w5.heap.size w5 w6 := by rw [hw'']; exact below_regrown w5 dq osq
  have Xb3_6 : Box w6 w.heap.size #[.int .i64 s0, .int .i64 s1] := Zb3.out.below hb6
  have Xb4_6 : Box w6 (w.heap.size + 1) #[.int .i64 t0, .int .i64 t1, .int .i64 n, .int .i64 d] := Zb4.out.below hb6
  have Xb7_6 : Box w6 w1.heap.size #[.int .i64 al, .int .i64 ah] := Zb7.out.below hb6
  have Xb9_6 : Box w6 w2.heap.size #[.int .i64 bl, .int .i64 bh] := Zb9.out.below hb6
  have hB6 : Below w.heap.size w w6 := stepB hBX hb6
  have hs6 := hB6.size
  clear hw'' hb6 hBX hsX rd3 rd4 kc80 kc88 Zb3 Zb4 Zb7 Zb9
  go_wp2
  have Yb3 : Box w6 w.heap.size #[.int .i64 s0, .int .i64 s1] := Xb3_6
  have Yb4 : Box w6 (w.heap.size + 1) #[.int .i64 t0, .int .i64 t1, .int .i64 n, .int .i64 d] := Xb4_6
  have Yb7 : Box w6 w1.heap.size #[.int .i64 al, .int .i64 ah] := Xb7_6
  have Yb9 : Box w6 w2.heap.size #[.int .i64 bl, .int .i64 bh] := Xb9_6
  have hBX : Below w.heap.size w w6 := by go_grown
  clear hB6 hs6 Xb3_6 Xb4_6 Xb7_6 Xb9_6
  have hsX := hBX.size
  have rd4 := fun d os => (Yb4.regrown d os).2.1
  have rd9 := fun d os => (Yb9.regrown d os).2.1
  have kc97 := fun d os => (HD.out (Go.Sort.grow (redrawn w6 d) os)).regrown_of
  have kc102 := fun d os => (HU.out (Go.Sort.grow (redrawn w6 d) os)).regrown_of
  have kc103 := fun d os => (lspan2_any bl bh (Go.Sort.grow (redrawn w6 d) os)).regrown_of
  have Zb3 := Lib.hid Yb3
  have Zb4 := Lib.hid Yb4
  have Zb7 := Lib.hid Yb7
  clear Yb3 Yb4 Yb7 Yb9
  refine wp_region_quiet_below (by kernel_rfl) (by kernel_rfl) ?_
  repeat ((with_reducible refine wpQuiet_step (fun K hK => ?_)); go_simp; first | ((with_reducible refine hK _ ?_); clear hK K) | (apply Exists.intro; refine ⟨fun _ => ?_, hK _ ?_⟩; (first | (go_at_call 41; with_reducible exact kc97 _ _) | (go_at_call 42; with_reducible exact kc102 _ _) | (go_at_call 40; with_reducible exact kc103 _ _)); clear hK K))
  with_reducible refine wpQuiet_nil ?_
  intro w7 hw'
  obtain ⟨⟨dq, osq⟩, hw''⟩ := hw'
  have hb7 : Below w6.heap.size w6 w7 := by rw [hw'']; exact below_regrown w6 dq osq
  have Xb3_7 : Box w7 w.heap.size #[.int .i64 s0, .int .i64 s1] := Zb3.out.below hb7
  have Xb4_7 : Box w7 (w.heap.size + 1) #[.int .i64 t0, .int .i64 t1, .int .i64 n, .int .i64 d] := Zb4.out.below hb7
  have Xb7_7 : Box w7 w1.heap.size #[.int .i64 al, .int .i64 ah] := Zb7.out.below hb7
  have hB7 : Below w.heap.size w w7 := stepB hBX hb7
  have hs7 := hB7.size
  clear hw'' hb7 hBX hsX rd4 rd9 kc97 kc102 kc103 Zb3 Zb4 Zb7
  have cc3 := Xb3_7.2.1
  have ll3 := Xb3_7.1
  have cc4 := Xb4_7.2.1
  have ll4 := Xb4_7.1
  have lm4_0 : w.heap.size < w7.heap.size := by have := ll4; omega
  have cc7 := Xb7_7.2.1
  have ll7 := Xb7_7.1
  go_wp2_with fail
  refine (HR0.out _).mono ?_
  rintro e w8 ⟨rfl, hb8⟩
  have Xb3_8 : Box w8 w.heap.size #[.int .i64 s0, .int .i64 s1] := Box.below Xb3_7 hb8
  have Xb4_8 : Box w8 (w.heap.size + 1) #[.int .i64 t0, .int .i64 t1, .int .i64 n, .int .i64 d] := Box.below Xb4_7 hb8
  have Xb7_8 : Box w8 w1.heap.size #[.int .i64 al, .int .i64 ah] := Box.below Xb7_7 hb8
  have hB8 : Below w.heap.size w w8 := stepB (by go_grown) hb8
  have hs8 := hB8.size
  clear hb8 hB7 hs7 Xb3_7 Xb4_7 Xb7_7 cc3 ll3 cc4 ll4 lm4_0 cc7 ll7
  have cc3 := Xb3_8.2.1
  have ll3 := Xb3_8.1
  have cc4 := Xb4_8.2.1
  have ll4 := Xb4_8.1
  have lm4_0 : w.heap.size < w8.heap.size := by have := ll4; omega
  have cc7 := Xb7_8.2.1
  have ll7 := Xb7_8.1
  go_wp2_with fail
  refine (HR1.out _).mono ?_
  rintro e w9 ⟨rfl, hb9⟩
  have Xb3_9 : Box w9 w.heap.size #[.int .i64 s0, .int .i64 s1] := Box.below Xb3_8 hb9
  have Xb4_9 : Box w9 (w.heap.size + 1) #[.int .i64 t0, .int .i64 t1, .int .i64 n, .int .i64 d] := Box.below Xb4_8 hb9
  have Xb7_9 : Box w9 w1.heap.size #[.int .i64 al, .int .i64 ah] := Box.below Xb7_8 hb9
  have hB9 : Below w.heap.size w w9 := stepB (by go_grown) hb9
  have hs9 := hB9.size
  clear hb9 hB8 hs8 Xb3_8 Xb4_8 Xb7_8 cc3 ll3 cc4 ll4 lm4_0 cc7 ll7
  have cc3 := Xb3_9.2.1
  have ll3 := Xb3_9.1
  have cc4 := Xb4_9.2.1
  have ll4 := Xb4_9.1
  have lm4_0 : w.heap.size < w9.heap.size := by have := ll4; omega
  have cc7 := Xb7_9.2.1
  have ll7 := Xb7_9.1
  go_wp2_with fail
  refine (HR2.out _).mono ?_
  rintro e w10 ⟨rfl, hb10⟩
  have Xb3_10 : Box w10 w.heap.size #[.int .i64 s0, .int .i64 s1] := Box.below Xb3_9 hb10
  have Xb4_10 : Box w10 (w.heap.size + 1) #[.int .i64 t0, .int .i64 t1, .int .i64 n, .int .i64 d] := Box.below Xb4_9 hb10
  have Xb7_10 : Box w10 w1.heap.size #[.int .i64 al, .int .i64 ah] := Box.below Xb7_9 hb10
  have hB10 : Below w.heap.size w w10 := stepB (by go_grown) hb10
  have hs10 := hB10.size
  clear hb10 hB9 hs9 Xb3_9 Xb4_9 Xb7_9 cc3 ll3 cc4 ll4 lm4_0 cc7 ll7
  have cc3 := Xb3_10.2.1
  have ll3 := Xb3_10.1
  have cc4 := Xb4_10.2.1
  have ll4 := Xb4_10.1
  have lm4_0 : w.heap.size < w10.heap.size := by have := ll4; omega
  have cc7 := Xb7_10.2.1
  have ll7 := Xb7_10.1
  go_wp2_with fail
  refine (HR3.out _).mono ?_
  rintro e w11 ⟨rfl, hb11⟩
  have hB11 : Below w.heap.size w w11 := stepB (by go_grown) hb11
  have hs11 := hB11.size
  clear hb11 hB10 hs10 Xb3_10 Xb4_10 Xb7_10 cc3 ll3 cc4 ll4 lm4_0 cc7 ll7
  go_wp2_with fail
  refine (known_any _).mono ?_
  rintro e w12 ⟨rfl, hb12⟩
  have hB12 : Below w.heap.size w w12 := stepB (by go_grown) hb12
  have hs12 := hB12.size
  clear hb12 hB11 hs11
  go_wp2
  go_returns
  exact ⟨rfl, hB12⟩

set_option maxRecDepth 100000 in
set_option maxHeartbeats 4000000 in
theorem coats_no0 (s0 s1 t0 t1 n d al ah bl bh x0 x1 x2 x3 q q2 : Int) (HB : Hid (∀ w : World, Calls Try.prog 35 #[.agg #[.int .i64 s0, .int .i64 s1], .bool false, .agg #[.int .i64 t0, .int .i64 t1, .int .i64 n, .int .i64 d]] w fun e w' => e = .returned (.tuple #[.agg #[.int .i64 0, .int .i64 0], .int .i64 9]) ∧ Below w.heap.size w w')) (HA : Hid (∀ w : World, Calls Try.prog 36 #[.agg #[.int .i64 s0, .int .i64 s1], .bool false, .agg #[.int .i64 t0, .int .i64 t1, .int .i64 n, .int .i64 d]] w fun e w' => e = .returned (.tuple #[.agg #[.int .i64 bl, .int .i64 bh], .int .i64 0]) ∧ Below w.heap.size w w')) (HS : Hid (∀ w : World, Calls Try.prog 37 #[.agg #[.int .i64 s0, .int .i64 s1], .int .i64 (-20000000), .int .i64 20000000] w fun e w' => e = .returned (.bool true) ∧ Below w.heap.size w w')) (HC : Hid (∀ w : World, Calls Try.prog 38 #[.agg #[.int .i64 t0, .int .i64 t1, .int .i64 n, .int .i64 d]] w fun e w' => e = .returned (.bool true) ∧ Below w.heap.size w w')) (HG0 : Hid (∀ w : World, Calls Try.prog 39 #[.int .i64 s0, .bool false, .int .i64 t0, .agg #[.int .i64 t0, .int .i64 t1, .int .i64 n, .int .i64 d]] w fun e w' => e = .returned (.int .i64 x0) ∧ Below w.heap.size w w')) (HG1 : Hid (∀ w : World, Calls Try.prog 39 #[.int .i64 s1, .bool false, .int .i64 t1, .agg #[.int .i64 t0, .int .i64 t1, .int .i64 n, .int .i64 d]] w fun e w' => e = .returned (.int .i64 x1) ∧ Below w.heap.size w w')) (HD : Hid (∀ w : World, Calls Try.prog 41 #[.int .i64 x0, .int .i64 d] w fun e w' => e = .returned (.int .i64 bl) ∧ Below w.heap.size w w')) (HU : Hid (∀ w : World, Calls Try.prog 42 #[.int .i64 x1, .int .i64 d] w fun e w' => e = .returned (.int .i64 bh) ∧ Below w.heap.size w w')) (HD2 : Hid (∀ w : World, Calls Try.prog 41 #[.int .i64 (t0 * n), .int .i64 d] w fun e w' => e = .returned (.int .i64 q) ∧ Below w.heap.size w w')) (HR0 : Hid (∀ w : World, Calls Try.prog 43 #[.int .i64 (s0 - q), .agg #[.int .i64 s0, .int .i64 s1], .bool false, .agg #[.int .i64 t0, .int .i64 t1, .int .i64 n, .int .i64 d]] w fun e w' => e = .returned (.bool false) ∧ Below w.heap.size w w')) (W1 : IntKind.i64.wrap (t0 * n) = t0 * n) (W2 : IntKind.i64.wrap (s0 - q) = s0 - q) (w : World) :
    Calls Try.prog 6 #[.agg #[.int .i64 s0, .int .i64 s1], .agg #[.int .i64 t0, .int .i64 t1, .int .i64 n, .int .i64 d], .bool false] w fun e w' => e = .returned (.bool true) ∧ Below w.heap.size w w' := by
  have qS := eqSk
  have nS := neqSk
  have gS := guardSk
  go_enter Try.func6, Try.ntmps6
  go_wp2_with fail
  refine (HB.out _).mono ?_
  rintro e w1 ⟨rfl, hb1⟩
  have Xb3_1 : Box w1 w.heap.size #[.int .i64 s0, .int .i64 s1] := Box.below (Box.alloc (Box.new w _ _) _) hb1
  have Xb4_1 : Box w1 (w.heap.size + 1) #[.int .i64 t0, .int .i64 t1, .int .i64 n, .int .i64 d] := Box.below (Box.newAt (w.alloc _) _ _ (by simp)) hb1
  have hB1 : Below w.heap.size w w1 := stepB (by go_grown) hb1
  have hs1 := hB1.size
  clear hb1
  have cc3 := Xb3_1.2.1
  have ll3 := Xb3_1.1
  have cc4 := Xb4_1.2.1
  have ll4 := Xb4_1.1
  have lm4_0 : w.heap.size < w1.heap.size := by have := ll4; omega
  go_wp2_with fail
  refine (HA.out _).mono ?_
  rintro e w2 ⟨rfl, hb2⟩
  have Xb3_2 : Box w2 w.heap.size #[.int .i64 s0, .int .i64 s1] := Box.below (Box.alloc Xb3_1 _) hb2
  have Xb4_2 : Box w2 (w.heap.size + 1) #[.int .i64 t0, .int .i64 t1, .int .i64 n, .int .i64 d] := Box.below (Box.alloc Xb4_1 _) hb2
  have Xb7_2 : Box w2 w1.heap.size #[.int .i64 0, .int .i64 0] := Box.below (Box.new w1 _ _) hb2
  have hB2 : Below w.heap.size w w2 := stepB (by go_grown) hb2
  have hs2 := hB2.size
  clear hb2 hB1 hs1 Xb3_1 Xb4_1 cc3 ll3 cc4 ll4 lm4_0
  have cc3 := Xb3_2.2.1
  have ll3 := Xb3_2.1
  go_wp2_with fail
  refine (HS.out _).mono ?_
  rintro e w3 ⟨rfl, hb3⟩
  have Xb3_3 : Box w3 w.heap.size #[.int .i64 s0, .int .i64 s1] := Box.below (Box.alloc Xb3_2 _) hb3
  have Xb4_3 : Box w3 (w.heap.size + 1) #[.int .i64 t0, .int .i64 t1, .int .i64 n, .int .i64 d] := Box.below (Box.alloc Xb4_2 _) hb3
  have Xb7_3 : Box w3 w1.heap.size #[.int .i64 0, .int .i64 0] := Box.below (Box.alloc Xb7_2 _) hb3
  have Xb9_3 : Box w3 w2.heap.size #[.int .i64 bl, .int .i64 bh] := Box.below (Box.new w2 _ _) hb3
  have hB3 : Below w.heap.size w w3 := stepB (by go_grown) hb3
  have hs3 := hB3.size
  clear hb3 hB2 hs2 Xb3_2 Xb4_2 Xb7_2 cc3 ll3
  have cc4 := Xb4_3.2.1
  have ll4 := Xb4_3.1
  have lm4_0 : w.heap.size < w3.heap.size := by have := ll4; omega
  go_wp2_with fail
  refine (HC.out _).mono ?_
  rintro e w4 ⟨rfl, hb4⟩
  have Xb3_4 : Box w4 w.heap.size #[.int .i64 s0, .int .i64 s1] := Box.below Xb3_3 hb4
  have Xb4_4 : Box w4 (w.heap.size + 1) #[.int .i64 t0, .int .i64 t1, .int .i64 n, .int .i64 d] := Box.below Xb4_3 hb4
  have Xb7_4 : Box w4 w1.heap.size #[.int .i64 0, .int .i64 0] := Box.below Xb7_3 hb4
  have Xb9_4 : Box w4 w2.heap.size #[.int .i64 bl, .int .i64 bh] := Box.below Xb9_3 hb4
  have hB4 : Below w.heap.size w w4 := stepB (by go_grown) hb4
  have hs4 := hB4.size
  clear hb4 hB3 hs3 Xb3_3 Xb4_3 Xb7_3 Xb9_3 cc4 ll4 lm4_0
  go_wp2
  have Yb3 : Box w4 w.heap.size #[.int .i64 s0, .int .i64 s1] := Xb3_4
  have Yb4 : Box w4 (w.heap.size + 1) #[.int .i64 t0, .int .i64 t1, .int .i64 n, .int .i64 d] := Xb4_4
  have Yb7 : Box w4 w1.heap.size #[.int .i64 0, .int .i64 0] := Xb7_4
  have Yb9 : Box w4 w2.heap.size #[.int .i64 bl, .int .i64 bh] := Xb9_4
  have hBX : Below w.heap.size w w4 := by go_grown
  clear hB4 hs4 Xb3_4 Xb4_4 Xb7_4 Xb9_4
  have hsX := hBX.size
  have rd3 := fun d os => (Yb3.regrown d os).2.1
  have rd4 := fun d os => (Yb4.regrown d os).2.1
  have kc63 := fun d os => (HG0.out (Go.Sort.grow (redrawn w4 d) os)).regrown_of
  have kc71 := fun d os => (HG1.out (Go.Sort.grow (redrawn w4 d) os)).regrown_of
  have Zb3 := Lib.hid Yb3
  have Zb4 := Lib.hid Yb4
  have Zb7 := Lib.hid Yb7
  have Zb9 := Lib.hid Yb9
  clear Yb3 Yb4 Yb7 Yb9
  refine wp_region_quiet_below (by kernel_rfl) (by kernel_rfl) ?_
  repeat ((with_reducible refine wpQuiet_step (fun K hK => ?_)); go_simp; first | ((with_reducible refine hK _ ?_); clear hK K) | (apply Exists.intro; refine ⟨fun _ => ?_, hK _ ?_⟩; (first | (go_at_call 39; with_reducible exact kc63 _ _) | (go_at_call 39; with_reducible exact kc71 _ _)); clear hK K))
  with_reducible refine wpQuiet_nil ?_
  intro w5 hw'
  obtain ⟨⟨dq, osq⟩, hw''⟩ := hw'
  have hb5 : Below w4.heap.size w4 w5 := by rw [hw'']; exact below_regrown w4 dq osq
  have Xb3_5 : Box w5 w.heap.size #[.int .i64 s0, .int .i64 s1] := Zb3.out.below hb5
  have Xb4_5 : Box w5 (w.heap.size + 1) #[.int .i64 t0, .int .i64 t1, .int .i64 n, .int .i64 d] := Zb4.out.below hb5
  have Xb7_5 : Box w5 w1.heap.size #[.int .i64 0, .int .i64 0] := Zb7.out.below hb5
  have Xb9_5 : Box w5 w2.heap.size #[.int .i64 bl, .int .i64 bh] := Zb9.out.below hb5
  have hB5 : Below w.heap.size w w5 := stepB hBX hb5
  have hs5 := hB5.size
  clear hw'' hb5 hBX hsX rd3 rd4 kc63 kc71 Zb3 Zb4 Zb7 Zb9
  go_wp2
  have Yb3 : Box w5 w.heap.size #[.int .i64 s0, .int .i64 s1] := Xb3_5
  have Yb4 : Box w5 (w.heap.size + 1) #[.int .i64 t0, .int .i64 t1, .int .i64 n, .int .i64 d] := Xb4_5
  have Yb7 : Box w5 w1.heap.size #[.int .i64 0, .int .i64 0] := Xb7_5
  have Yb9 : Box w5 w2.heap.size #[.int .i64 bl, .int .i64 bh] := Xb9_5
  have hBX : Below w.heap.size w w5 := by go_grown
  clear hB5 hs5 Xb3_5 Xb4_5 Xb7_5 Xb9_5
  have hsX := hBX.size
  have rd4 := fun d os => (Yb4.regrown d os).2.1
  have rd9 := fun d os => (Yb9.regrown d os).2.1
  have kc97 := fun d os => (HD.out (Go.Sort.grow (redrawn w5 d) os)).regrown_of
  have kc102 := fun d os => (HU.out (Go.Sort.grow (redrawn w5 d) os)).regrown_of
  have kc103 := fun d os => (lspan2_any bl bh (Go.Sort.grow (redrawn w5 d) os)).regrown_of
  have Zb3 := Lib.hid Yb3
  have Zb4 := Lib.hid Yb4
  have Zb7 := Lib.hid Yb7
  clear Yb3 Yb4 Yb7 Yb9
  refine wp_region_quiet_below (by kernel_rfl) (by kernel_rfl) ?_
  repeat ((with_reducible refine wpQuiet_step (fun K hK => ?_)); go_simp; first | ((with_reducible refine hK _ ?_); clear hK K) | (apply Exists.intro; refine ⟨fun _ => ?_, hK _ ?_⟩; (first | (go_at_call 41; with_reducible exact kc97 _ _) | (go_at_call 42; with_reducible exact kc102 _ _) | (go_at_call 40; with_reducible exact kc103 _ _)); clear hK K))
  with_reducible refine wpQuiet_nil ?_
  intro w6 hw'
  obtain ⟨⟨dq, osq⟩, hw''⟩ := hw'
  have hb6 : Below w5.heap.size w5 w6 := by rw [hw'']; exact below_regrown w5 dq osq
  have Xb3_6 : Box w6 w.heap.size #[.int .i64 s0, .int .i64 s1] := Zb3.out.below hb6
  have Xb4_6 : Box w6 (w.heap.size + 1) #[.int .i64 t0, .int .i64 t1, .int .i64 n, .int .i64 d] := Zb4.out.below hb6
  have Xb7_6 : Box w6 w1.heap.size #[.int .i64 0, .int .i64 0] := Zb7.out.below hb6
  have hB6 : Below w.heap.size w w6 := stepB hBX hb6
  have hs6 := hB6.size
  clear hw'' hb6 hBX hsX rd4 rd9 kc97 kc102 kc103 Zb3 Zb4 Zb7
  have cc7 := Xb7_6.2.1
  have ll7 := Xb7_6.1
  go_wp2
  have Yb3 : Box w6 w.heap.size #[.int .i64 s0, .int .i64 s1] := Xb3_6
  have Yb4 : Box w6 (w.heap.size + 1) #[.int .i64 t0, .int .i64 t1, .int .i64 n, .int .i64 d] := Xb4_6
  have hBX : Below w.heap.size w w6 := by go_grown
  clear hB6 hs6 Xb3_6 Xb4_6 Xb7_6 cc7 ll7
  have hsX := hBX.size
  have rd3 := fun d os => (Yb3.regrown d os).2.1
  have rd4 := fun d os => (Yb4.regrown d os).2.1
  have kc171 := fun d os => (HD2.out (Go.Sort.grow (redrawn w6 d) os)).regrown_of
  have Zb3 := Lib.hid Yb3
  have Zb4 := Lib.hid Yb4
  clear Yb3 Yb4
  refine wp_region_quiet_below (by kernel_rfl) (by kernel_rfl) ?_
  repeat ((with_reducible refine wpQuiet_step (fun K hK => ?_)); go_simp; first | ((with_reducible refine hK _ ?_); clear hK K) | (apply Exists.intro; refine ⟨fun _ => ?_, hK _ ?_⟩; (first | (go_at_call 41; with_reducible exact kc171 _ _)); clear hK K))
  with_reducible refine wpQuiet_nil ?_
  intro w7 hw'
  obtain ⟨⟨dq, osq⟩, hw''⟩ := hw'
  have hb7 : Below w6.heap.size w6 w7 := by rw [hw'']; exact below_regrown w6 dq osq
  have Xb3_7 : Box w7 w.heap.size #[.int .i64 s0, .int .i64 s1] := Zb3.out.below hb7
  have Xb4_7 : Box w7 (w.heap.size + 1) #[.int .i64 t0, .int .i64 t1, .int .i64 n, .int .i64 d] := Zb4.out.below hb7
  have hB7 : Below w.heap.size w w7 := stepB hBX hb7
  have hs7 := hB7.size
  clear hw'' hb7 hBX hsX rd3 rd4 kc171 Zb3 Zb4
  have cc3 := Xb3_7.2.1
  have ll3 := Xb3_7.1
  have cc4 := Xb4_7.2.1
  have ll4 := Xb4_7.1
  have lm4_0 : w.heap.size < w7.heap.size := by have := ll4; omega
  go_wp2_with fail
  refine (HR0.out _).mono ?_
  rintro e w8 ⟨rfl, hb8⟩
  have hB8 : Below w.heap.size w w8 := stepB (by go_grown) hb8
  have hs8 := hB8.size
  clear hb8 hB7 hs7 Xb3_7 Xb4_7 cc3 ll3 cc4 ll4 lm4_0
  go_wp2_with fail
  refine (known_any _).mono ?_
  rintro e w9 ⟨rfl, hb9⟩
  have hB9 : Below w.heap.size w w9 := stepB (by go_grown) hb9
  have hs9 := hB9.size
  clear hb9 hB8 hs8
  go_wp2
  go_returns
  exact ⟨rfl, hB9⟩

set_option maxRecDepth 100000 in
set_option maxHeartbeats 4000000 in
theorem coats_no1 (s0 s1 t0 t1 n d al ah bl bh x0 x1 x2 x3 q q2 : Int) (HB : Hid (∀ w : World, Calls Try.prog 35 #[.agg #[.int .i64 s0, .int .i64 s1], .bool true, .agg #[.int .i64 t0, .int .i64 t1, .int .i64 n, .int .i64 d]] w fun e w' => e = .returned (.tuple #[.agg #[.int .i64 0, .int .i64 0], .int .i64 9]) ∧ Below w.heap.size w w')) (HA : Hid (∀ w : World, Calls Try.prog 36 #[.agg #[.int .i64 s0, .int .i64 s1], .bool true, .agg #[.int .i64 t0, .int .i64 t1, .int .i64 n, .int .i64 d]] w fun e w' => e = .returned (.tuple #[.agg #[.int .i64 bl, .int .i64 bh], .int .i64 0]) ∧ Below w.heap.size w w')) (HS : Hid (∀ w : World, Calls Try.prog 37 #[.agg #[.int .i64 s0, .int .i64 s1], .int .i64 (-20000000), .int .i64 20000000] w fun e w' => e = .returned (.bool true) ∧ Below w.heap.size w w')) (HC : Hid (∀ w : World, Calls Try.prog 38 #[.agg #[.int .i64 t0, .int .i64 t1, .int .i64 n, .int .i64 d]] w fun e w' => e = .returned (.bool true) ∧ Below w.heap.size w w')) (HG0 : Hid (∀ w : World, Calls Try.prog 39 #[.int .i64 s0, .bool true, .int .i64 t0, .agg #[.int .i64 t0, .int .i64 t1, .int .i64 n, .int .i64 d]] w fun e w' => e = .returned (.int .i64 x0) ∧ Below w.heap.size w w')) (HG1 : Hid (∀ w : World, Calls Try.prog 39 #[.int .i64 s1, .bool true, .int .i64 t1, .agg #[.int .i64 t0, .int .i64 t1, .int .i64 n, .int .i64 d]] w fun e w' => e = .returned (.int .i64 x1) ∧ Below w.heap.size w w')) (HG2 : Hid (∀ w : World, Calls Try.prog 39 #[.int .i64 s0, .bool true, .int .i64 t1, .agg #[.int .i64 t0, .int .i64 t1, .int .i64 n, .int .i64 d]] w fun e w' => e = .returned (.int .i64 x2) ∧ Below w.heap.size w w')) (HG3 : Hid (∀ w : World, Calls Try.prog 39 #[.int .i64 s1, .bool true, .int .i64 t0, .agg #[.int .i64 t0, .int .i64 t1, .int .i64 n, .int .i64 d]] w fun e w' => e = .returned (.int .i64 x3) ∧ Below w.heap.size w w')) (HD : Hid (∀ w : World, Calls Try.prog 41 #[.int .i64 x2, .int .i64 d] w fun e w' => e = .returned (.int .i64 bl) ∧ Below w.heap.size w w')) (HU : Hid (∀ w : World, Calls Try.prog 42 #[.int .i64 x3, .int .i64 d] w fun e w' => e = .returned (.int .i64 bh) ∧ Below w.heap.size w w')) (HD2 : Hid (∀ w : World, Calls Try.prog 41 #[.int .i64 (t0 * n), .int .i64 d] w fun e w' => e = .returned (.int .i64 q) ∧ Below w.heap.size w w')) (HR0 : Hid (∀ w : World, Calls Try.prog 43 #[.int .i64 (s0 + q2), .agg #[.int .i64 s0, .int .i64 s1], .bool true, .agg #[.int .i64 t0, .int .i64 t1, .int .i64 n, .int .i64 d]] w fun e w' => e = .returned (.bool false) ∧ Below w.heap.size w w')) (W1 : IntKind.i64.wrap (t0 * n) = t0 * n) (W2 : IntKind.i64.wrap (s0 - q) = s0 - q) (HU2 : Hid (∀ w : World, Calls Try.prog 42 #[.int .i64 (t1 * n), .int .i64 d] w fun e w' => e = .returned (.int .i64 q2) ∧ Below w.heap.size w w')) (W3 : IntKind.i64.wrap (t1 * n) = t1 * n) (W4 : IntKind.i64.wrap (s0 + q2) = s0 + q2) (w : World) :
    Calls Try.prog 6 #[.agg #[.int .i64 s0, .int .i64 s1], .agg #[.int .i64 t0, .int .i64 t1, .int .i64 n, .int .i64 d], .bool true] w fun e w' => e = .returned (.bool true) ∧ Below w.heap.size w w' := by
  have qS := eqSk
  have nS := neqSk
  have gS := guardSk
  go_enter Try.func6, Try.ntmps6
  go_wp2_with fail
  refine (HB.out _).mono ?_
  rintro e w1 ⟨rfl, hb1⟩
  have Xb3_1 : Box w1 w.heap.size #[.int .i64 s0, .int .i64 s1] := Box.below (Box.alloc (Box.new w _ _) _) hb1
  have Xb4_1 : Box w1 (w.heap.size + 1) #[.int .i64 t0, .int .i64 t1, .int .i64 n, .int .i64 d] := Box.below (Box.newAt (w.alloc _) _ _ (by simp)) hb1
  have hB1 : Below w.heap.size w w1 := stepB (by go_grown) hb1
  have hs1 := hB1.size
  clear hb1
  have cc3 := Xb3_1.2.1
  have ll3 := Xb3_1.1
  have cc4 := Xb4_1.2.1
  have ll4 := Xb4_1.1
  have lm4_0 : w.heap.size < w1.heap.size := by have := ll4; omega
  go_wp2_with fail
  refine (HA.out _).mono ?_
  rintro e w2 ⟨rfl, hb2⟩
  have Xb3_2 : Box w2 w.heap.size #[.int .i64 s0, .int .i64 s1] := Box.below (Box.alloc Xb3_1 _) hb2
  have Xb4_2 : Box w2 (w.heap.size + 1) #[.int .i64 t0, .int .i64 t1, .int .i64 n, .int .i64 d] := Box.below (Box.alloc Xb4_1 _) hb2
  have Xb7_2 : Box w2 w1.heap.size #[.int .i64 0, .int .i64 0] := Box.below (Box.new w1 _ _) hb2
  have hB2 : Below w.heap.size w w2 := stepB (by go_grown) hb2
  have hs2 := hB2.size
  clear hb2 hB1 hs1 Xb3_1 Xb4_1 cc3 ll3 cc4 ll4 lm4_0
  have cc3 := Xb3_2.2.1
  have ll3 := Xb3_2.1
  go_wp2_with fail
  refine (HS.out _).mono ?_
  rintro e w3 ⟨rfl, hb3⟩
  have Xb3_3 : Box w3 w.heap.size #[.int .i64 s0, .int .i64 s1] := Box.below (Box.alloc Xb3_2 _) hb3
  have Xb4_3 : Box w3 (w.heap.size + 1) #[.int .i64 t0, .int .i64 t1, .int .i64 n, .int .i64 d] := Box.below (Box.alloc Xb4_2 _) hb3
  have Xb7_3 : Box w3 w1.heap.size #[.int .i64 0, .int .i64 0] := Box.below (Box.alloc Xb7_2 _) hb3
  have Xb9_3 : Box w3 w2.heap.size #[.int .i64 bl, .int .i64 bh] := Box.below (Box.new w2 _ _) hb3
  have hB3 : Below w.heap.size w w3 := stepB (by go_grown) hb3
  have hs3 := hB3.size
  clear hb3 hB2 hs2 Xb3_2 Xb4_2 Xb7_2 cc3 ll3
  have cc4 := Xb4_3.2.1
  have ll4 := Xb4_3.1
  have lm4_0 : w.heap.size < w3.heap.size := by have := ll4; omega
  go_wp2_with fail
  refine (HC.out _).mono ?_
  rintro e w4 ⟨rfl, hb4⟩
  have Xb3_4 : Box w4 w.heap.size #[.int .i64 s0, .int .i64 s1] := Box.below Xb3_3 hb4
  have Xb4_4 : Box w4 (w.heap.size + 1) #[.int .i64 t0, .int .i64 t1, .int .i64 n, .int .i64 d] := Box.below Xb4_3 hb4
  have Xb7_4 : Box w4 w1.heap.size #[.int .i64 0, .int .i64 0] := Box.below Xb7_3 hb4
  have Xb9_4 : Box w4 w2.heap.size #[.int .i64 bl, .int .i64 bh] := Box.below Xb9_3 hb4
  have hB4 : Below w.heap.size w w4 := stepB (by go_grown) hb4
  have hs4 := hB4.size
  clear hb4 hB3 hs3 Xb3_3 Xb4_3 Xb7_3 Xb9_3 cc4 ll4 lm4_0
  go_wp2
  have Yb3 : Box w4 w.heap.size #[.int .i64 s0, .int .i64 s1] := Xb3_4
  have Yb4 : Box w4 (w.heap.size + 1) #[.int .i64 t0, .int .i64 t1, .int .i64 n, .int .i64 d] := Xb4_4
  have Yb7 : Box w4 w1.heap.size #[.int .i64 0, .int .i64 0] := Xb7_4
  have Yb9 : Box w4 w2.heap.size #[.int .i64 bl, .int .i64 bh] := Xb9_4
  have hBX : Below w.heap.size w w4 := by go_grown
  clear hB4 hs4 Xb3_4 Xb4_4 Xb7_4 Xb9_4
  have hsX := hBX.size
  have rd3 := fun d os => (Yb3.regrown d os).2.1
  have rd4 := fun d os => (Yb4.regrown d os).2.1
  have kc63 := fun d os => (HG0.out (Go.Sort.grow (redrawn w4 d) os)).regrown_of
  have kc71 := fun d os => (HG1.out (Go.Sort.grow (redrawn w4 d) os)).regrown_of
  have Zb3 := Lib.hid Yb3
  have Zb4 := Lib.hid Yb4
  have Zb7 := Lib.hid Yb7
  have Zb9 := Lib.hid Yb9
  clear Yb3 Yb4 Yb7 Yb9
  refine wp_region_quiet_below (by kernel_rfl) (by kernel_rfl) ?_
  repeat ((with_reducible refine wpQuiet_step (fun K hK => ?_)); go_simp; first | ((with_reducible refine hK _ ?_); clear hK K) | (apply Exists.intro; refine ⟨fun _ => ?_, hK _ ?_⟩; (first | (go_at_call 39; with_reducible exact kc63 _ _) | (go_at_call 39; with_reducible exact kc71 _ _)); clear hK K))
  with_reducible refine wpQuiet_nil ?_
  intro w5 hw'
  obtain ⟨⟨dq, osq⟩, hw''⟩ := hw'
  have hb5 : Below w4.heap.size w4 w5 := by rw [hw'']; exact below_regrown w4 dq osq
  have Xb3_5 : Box w5 w.heap.size #[.int .i64 s0, .int .i64 s1] := Zb3.out.below hb5
  have Xb4_5 : Box w5 (w.heap.size + 1) #[.int .i64 t0, .int .i64 t1, .int .i64 n, .int .i64 d] := Zb4.out.below hb5
  have Xb7_5 : Box w5 w1.heap.size #[.int .i64 0, .int .i64 0] := Zb7.out.below hb5
  have Xb9_5 : Box w5 w2.heap.size #[.int .i64 bl, .int .i64 bh] := Zb9.out.below hb5
  have hB5 : Below w.heap.size w w5 := stepB hBX hb5
  have hs5 := hB5.size
  clear hw'' hb5 hBX hsX rd3 rd4 kc63 kc71 Zb3 Zb4 Zb7 Zb9
  go_wp2
  have Yb3 : Box w5 w.heap.size #[.int .i64 s0, .int .i64 s1] := Xb3_5
  have Yb4 : Box w5 (w.heap.size + 1) #[.int .i64 t0, .int .i64 t1, .int .i64 n, .int .i64 d] := Xb4_5
  have Yb7 : Box w5 w1.heap.size #[.int .i64 0, .int .i64 0] := Xb7_5
  have Yb9 : Box w5 w2.heap.size #[.int .i64 bl, .int .i64 bh] := Xb9_5
  have hBX : Below w.heap.size w w5 := by go_grown
  clear hB5 hs5 Xb3_5 Xb4_5 Xb7_5 Xb9_5
  have hsX := hBX.size
  have rd3 := fun d os => (Yb3.regrown d os).2.1
  have rd4 := fun d os => (Yb4.regrown d os).2.1
  have kc80 := fun d os => (HG2.out (Go.Sort.grow (redrawn w5 d) os)).regrown_of
  have kc88 := fun d os => (HG3.out (Go.Sort.grow (redrawn w5 d) os)).regrown_of
  have Zb3 := Lib.hid Yb3
  have Zb4 := Lib.hid Yb4
  have Zb7 := Lib.hid Yb7
  have Zb9 := Lib.hid Yb9
  clear Yb3 Yb4 Yb7 Yb9
  refine wp_region_quiet_below (by kernel_rfl) (by kernel_rfl) ?_
  repeat ((with_reducible refine wpQuiet_step (fun K hK => ?_)); go_simp; first | ((with_reducible refine hK _ ?_); clear hK K) | (apply Exists.intro; refine ⟨fun _ => ?_, hK _ ?_⟩; (first | (go_at_call 39; with_reducible exact kc80 _ _) | (go_at_call 39; with_reducible exact kc88 _ _)); clear hK K))
  with_reducible refine wpQuiet_nil ?_
  intro w6 hw'
  obtain ⟨⟨dq, osq⟩, hw''⟩ := hw'
  have hb6 : Below w5.heap.size w5 w6 := by rw [hw'']; exact below_regrown w5 dq osq
  have Xb3_6 : Box w6 w.heap.size #[.int .i64 s0, .int .i64 s1] := Zb3.out.below hb6
  have Xb4_6 : Box w6 (w.heap.size + 1) #[.int .i64 t0, .int .i64 t1, .int .i64 n, .int .i64 d] := Zb4.out.below hb6
  have Xb7_6 : Box w6 w1.heap.size #[.int .i64 0, .int .i64 0] := Zb7.out.below hb6
  have Xb9_6 : Box w6 w2.heap.size #[.int .i64 bl, .int .i64 bh] := Zb9.out.below hb6
  have hB6 : Below w.heap.size w w6 := stepB hBX hb6
  have hs6 := hB6.size
  clear hw'' hb6 hBX hsX rd3 rd4 kc80 kc88 Zb3 Zb4 Zb7 Zb9
  go_wp2
  have Yb3 : Box w6 w.heap.size #[.int .i64 s0, .int .i64 s1] := Xb3_6
  have Yb4 : Box w6 (w.heap.size + 1) #[.int .i64 t0, .int .i64 t1, .int .i64 n, .int .i64 d] := Xb4_6
  have Yb7 : Box w6 w1.heap.size #[.int .i64 0, .int .i64 0] := Xb7_6
  have Yb9 : Box w6 w2.heap.size #[.int .i64 bl, .int .i64 bh] := Xb9_6
  have hBX : Below w.heap.size w w6 := by go_grown
  clear hB6 hs6 Xb3_6 Xb4_6 Xb7_6 Xb9_6
  have hsX := hBX.size
  have rd4 := fun d os => (Yb4.regrown d os).2.1
  have rd9 := fun d os => (Yb9.regrown d os).2.1
  have kc97 := fun d os => (HD.out (Go.Sort.grow (redrawn w6 d) os)).regrown_of
  have kc102 := fun d os => (HU.out (Go.Sort.grow (redrawn w6 d) os)).regrown_of
  have kc103 := fun d os => (lspan2_any bl bh (Go.Sort.grow (redrawn w6 d) os)).regrown_of
  have Zb3 := Lib.hid Yb3
  have Zb4 := Lib.hid Yb4
  have Zb7 := Lib.hid Yb7
  clear Yb3 Yb4 Yb7 Yb9
  refine wp_region_quiet_below (by kernel_rfl) (by kernel_rfl) ?_
  repeat ((with_reducible refine wpQuiet_step (fun K hK => ?_)); go_simp; first | ((with_reducible refine hK _ ?_); clear hK K) | (apply Exists.intro; refine ⟨fun _ => ?_, hK _ ?_⟩; (first | (go_at_call 41; with_reducible exact kc97 _ _) | (go_at_call 42; with_reducible exact kc102 _ _) | (go_at_call 40; with_reducible exact kc103 _ _)); clear hK K))
  with_reducible refine wpQuiet_nil ?_
  intro w7 hw'
  obtain ⟨⟨dq, osq⟩, hw''⟩ := hw'
  have hb7 : Below w6.heap.size w6 w7 := by rw [hw'']; exact below_regrown w6 dq osq
  have Xb3_7 : Box w7 w.heap.size #[.int .i64 s0, .int .i64 s1] := Zb3.out.below hb7
  have Xb4_7 : Box w7 (w.heap.size + 1) #[.int .i64 t0, .int .i64 t1, .int .i64 n, .int .i64 d] := Zb4.out.below hb7
  have Xb7_7 : Box w7 w1.heap.size #[.int .i64 0, .int .i64 0] := Zb7.out.below hb7
  have hB7 : Below w.heap.size w w7 := stepB hBX hb7
  have hs7 := hB7.size
  clear hw'' hb7 hBX hsX rd4 rd9 kc97 kc102 kc103 Zb3 Zb4 Zb7
  have cc7 := Xb7_7.2.1
  have ll7 := Xb7_7.1
  go_wp2
  have Yb3 : Box w7 w.heap.size #[.int .i64 s0, .int .i64 s1] := Xb3_7
  have Yb4 : Box w7 (w.heap.size + 1) #[.int .i64 t0, .int .i64 t1, .int .i64 n, .int .i64 d] := Xb4_7
  have hBX : Below w.heap.size w w7 := by go_grown
  clear hB7 hs7 Xb3_7 Xb4_7 Xb7_7 cc7 ll7
  have hsX := hBX.size
  have rd3 := fun d os => (Yb3.regrown d os).2.1
  have rd4 := fun d os => (Yb4.regrown d os).2.1
  have kc171 := fun d os => (HD2.out (Go.Sort.grow (redrawn w7 d) os)).regrown_of
  have Zb3 := Lib.hid Yb3
  have Zb4 := Lib.hid Yb4
  clear Yb3 Yb4
  refine wp_region_quiet_below (by kernel_rfl) (by kernel_rfl) ?_
  repeat ((with_reducible refine wpQuiet_step (fun K hK => ?_)); go_simp; first | ((with_reducible refine hK _ ?_); clear hK K) | (apply Exists.intro; refine ⟨fun _ => ?_, hK _ ?_⟩; (first | (go_at_call 41; with_reducible exact kc171 _ _)); clear hK K))
  with_reducible refine wpQuiet_nil ?_
  intro w8 hw'
  obtain ⟨⟨dq, osq⟩, hw''⟩ := hw'
  have hb8 : Below w7.heap.size w7 w8 := by rw [hw'']; exact below_regrown w7 dq osq
  have Xb3_8 : Box w8 w.heap.size #[.int .i64 s0, .int .i64 s1] := Zb3.out.below hb8
  have Xb4_8 : Box w8 (w.heap.size + 1) #[.int .i64 t0, .int .i64 t1, .int .i64 n, .int .i64 d] := Zb4.out.below hb8
  have hB8 : Below w.heap.size w w8 := stepB hBX hb8
  have hs8 := hB8.size
  clear hw'' hb8 hBX hsX rd3 rd4 kc171 Zb3 Zb4
  go_wp2
  have Yb3 : Box w8 w.heap.size #[.int .i64 s0, .int .i64 s1] := Xb3_8
  have Yb4 : Box w8 (w.heap.size + 1) #[.int .i64 t0, .int .i64 t1, .int .i64 n, .int .i64 d] := Xb4_8
  have hBX : Below w.heap.size w w8 := by go_grown
  clear hB8 hs8 Xb3_8 Xb4_8
  have hsX := hBX.size
  have rd3 := fun d os => (Yb3.regrown d os).2.1
  have rd4 := fun d os => (Yb4.regrown d os).2.1
  have kc186 := fun d os => (HU2.out (Go.Sort.grow (redrawn w8 d) os)).regrown_of
  have Zb3 := Lib.hid Yb3
  have Zb4 := Lib.hid Yb4
  clear Yb3 Yb4
  refine wp_region_quiet_below (by kernel_rfl) (by kernel_rfl) ?_
  repeat ((with_reducible refine wpQuiet_step (fun K hK => ?_)); go_simp; first | ((with_reducible refine hK _ ?_); clear hK K) | (apply Exists.intro; refine ⟨fun _ => ?_, hK _ ?_⟩; (first | (go_at_call 42; with_reducible exact kc186 _ _)); clear hK K))
  with_reducible refine wpQuiet_nil ?_
  intro w9 hw'
  obtain ⟨⟨dq, osq⟩, hw''⟩ := hw'
  have hb9 : Below w8.heap.size w8 w9 := by rw [hw'']; exact below_regrown w8 dq osq
  have Xb3_9 : Box w9 w.heap.size #[.int .i64 s0, .int .i64 s1] := Zb3.out.below hb9
  have Xb4_9 : Box w9 (w.heap.size + 1) #[.int .i64 t0, .int .i64 t1, .int .i64 n, .int .i64 d] := Zb4.out.below hb9
  have hB9 : Below w.heap.size w w9 := stepB hBX hb9
  have hs9 := hB9.size
  clear hw'' hb9 hBX hsX rd3 rd4 kc186 Zb3 Zb4
  have cc3 := Xb3_9.2.1
  have ll3 := Xb3_9.1
  have cc4 := Xb4_9.2.1
  have ll4 := Xb4_9.1
  have lm4_0 : w.heap.size < w9.heap.size := by have := ll4; omega
  go_wp2_with fail
  refine (HR0.out _).mono ?_
  rintro e w10 ⟨rfl, hb10⟩
  have hB10 : Below w.heap.size w w10 := stepB (by go_grown) hb10
  have hs10 := hB10.size
  clear hb10 hB9 hs9 Xb3_9 Xb4_9 cc3 ll3 cc4 ll4 lm4_0
  go_wp2_with fail
  refine (known_any _).mono ?_
  rintro e w11 ⟨rfl, hb11⟩
  have hB11 : Below w.heap.size w w11 := stepB (by go_grown) hb11
  have hs11 := hB11.size
  clear hb11 hB10 hs10
  go_wp2
  go_returns
  exact ⟨rfl, hB11⟩

end Go.Proofs.Ytpmeahmjmpgbfaa
