/- ThreadRooms: its ways. Made by tools/gen_rooms.py. -/
import Derived.Test.YtloleaahelmdjaaLaw2
namespace Go.Proofs.Ytloleaahelmdjaa
open Go.ChangeShapes Go.WideShapes Go.ChangeAt Go.RowKit
set_option linter.unusedVariables false
set_option linter.unusedSimpArgs false

set_option maxRecDepth 100000 in
set_option maxHeartbeats 2000000 in
theorem rooms_bad1 (p l r a b s t : Int) (h : Bool) (p' l' r' a' b' s' t' : Int) (h' : Bool) (lo hi : Int) (HR : Hid (∀ w : World, Calls Try.prog 27 #[.agg #[.int .i64 p, .int .i64 l, .int .i64 r, .int .i64 a, .int .i64 b, .int .i64 s, .bool h, .int .i64 t], .agg #[.int .i64 p', .int .i64 l', .int .i64 r', .int .i64 a', .int .i64 b', .int .i64 s', .bool h', .int .i64 t'], .agg #[.int .i64 lo, .int .i64 hi]] w fun e w' => e = .returned (.tuple #[.int .i64 0, .int .i64 2]) ∧ Below w.heap.size w w')) (HF1 : Hid (∀ w : World, Calls Try.prog 17 #[.agg #[.int .i64 p, .int .i64 l, .int .i64 r, .int .i64 a, .int .i64 b, .int .i64 s, .bool h, .int .i64 t]] w fun e w' => e = .returned (.bool false) ∧ Below w.heap.size w w')) (w : World) :
    Calls Try.prog 6 #[.agg #[.int .i64 p, .int .i64 l, .int .i64 r, .int .i64 a, .int .i64 b, .int .i64 s, .bool h, .int .i64 t], .agg #[.int .i64 p', .int .i64 l', .int .i64 r', .int .i64 a', .int .i64 b', .int .i64 s', .bool h', .int .i64 t'], .agg #[.int .i64 lo, .int .i64 hi]] w fun e w' => e = .returned (.bool true) ∧ Below w.heap.size w w' := by
  have qR := eqR
  have nR := neqR
  have gR := guardR
  go_enter Try.func6, Try.ntmps6
  go_wp2_with fail
  refine (HR.out _).mono ?_
  rintro e w1 ⟨rfl, hb1⟩
  have Xb3_1 : Box w1 w.heap.size #[.int .i64 p, .int .i64 l, .int .i64 r, .int .i64 a, .int .i64 b, .int .i64 s, .bool h, .int .i64 t] := Box.below (Box.alloc (Box.alloc (Box.new w _ _) _) _) hb1
  have Xb4_1 : Box w1 (w.heap.size + 1) #[.int .i64 p', .int .i64 l', .int .i64 r', .int .i64 a', .int .i64 b', .int .i64 s', .bool h', .int .i64 t'] := Box.below (Box.alloc (Box.newAt (w.alloc _) _ _ (by simp)) _) hb1
  have hB1 : Below w.heap.size w w1 := stepB (by go_grown) hb1
  have hs1 := hB1.size
  clear hb1
  have cc3 := Xb3_1.2.1
  have ll3 := Xb3_1.1
  go_wp2_with fail
  refine (HF1.out _).mono ?_
  rintro e w2 ⟨rfl, hb2⟩
  have Xb4_2 : Box w2 (w.heap.size + 1) #[.int .i64 p', .int .i64 l', .int .i64 r', .int .i64 a', .int .i64 b', .int .i64 s', .bool h', .int .i64 t'] := Box.below Xb4_1 hb2
  have hB2 : Below w.heap.size w w2 := stepB (by go_grown) hb2
  have hs2 := hB2.size
  clear hb2 hB1 hs1 Xb3_1 Xb4_1 cc3 ll3
  have cc4 := Xb4_2.2.1
  have ll4 := Xb4_2.1
  go_wp2_with fail
  refine (known_any _).mono ?_
  rintro e w3 ⟨rfl, hb3⟩
  have hB3 : Below w.heap.size w w3 := stepB (by go_grown) hb3
  have hs3 := hB3.size
  clear hb3 hB2 hs2 Xb4_2 cc4 ll4
  go_wp2
  go_returns
  exact ⟨rfl, hB3⟩

set_option maxRecDepth 100000 in
set_option maxHeartbeats 2000000 in
theorem rooms_bad2 (p l r a b s t : Int) (h : Bool) (p' l' r' a' b' s' t' : Int) (h' : Bool) (lo hi : Int) (HR : Hid (∀ w : World, Calls Try.prog 27 #[.agg #[.int .i64 p, .int .i64 l, .int .i64 r, .int .i64 a, .int .i64 b, .int .i64 s, .bool h, .int .i64 t], .agg #[.int .i64 p', .int .i64 l', .int .i64 r', .int .i64 a', .int .i64 b', .int .i64 s', .bool h', .int .i64 t'], .agg #[.int .i64 lo, .int .i64 hi]] w fun e w' => e = .returned (.tuple #[.int .i64 0, .int .i64 2]) ∧ Below w.heap.size w w')) (HF1 : Hid (∀ w : World, Calls Try.prog 17 #[.agg #[.int .i64 p, .int .i64 l, .int .i64 r, .int .i64 a, .int .i64 b, .int .i64 s, .bool h, .int .i64 t]] w fun e w' => e = .returned (.bool true) ∧ Below w.heap.size w w')) (HF2 : Hid (∀ w : World, Calls Try.prog 17 #[.agg #[.int .i64 p', .int .i64 l', .int .i64 r', .int .i64 a', .int .i64 b', .int .i64 s', .bool h', .int .i64 t']] w fun e w' => e = .returned (.bool false) ∧ Below w.heap.size w w')) (w : World) :
    Calls Try.prog 6 #[.agg #[.int .i64 p, .int .i64 l, .int .i64 r, .int .i64 a, .int .i64 b, .int .i64 s, .bool h, .int .i64 t], .agg #[.int .i64 p', .int .i64 l', .int .i64 r', .int .i64 a', .int .i64 b', .int .i64 s', .bool h', .int .i64 t'], .agg #[.int .i64 lo, .int .i64 hi]] w fun e w' => e = .returned (.bool true) ∧ Below w.heap.size w w' := by
  have qR := eqR
  have nR := neqR
  have gR := guardR
  go_enter Try.func6, Try.ntmps6
  go_wp2_with fail
  refine (HR.out _).mono ?_
  rintro e w1 ⟨rfl, hb1⟩
  have Xb3_1 : Box w1 w.heap.size #[.int .i64 p, .int .i64 l, .int .i64 r, .int .i64 a, .int .i64 b, .int .i64 s, .bool h, .int .i64 t] := Box.below (Box.alloc (Box.alloc (Box.new w _ _) _) _) hb1
  have Xb4_1 : Box w1 (w.heap.size + 1) #[.int .i64 p', .int .i64 l', .int .i64 r', .int .i64 a', .int .i64 b', .int .i64 s', .bool h', .int .i64 t'] := Box.below (Box.alloc (Box.newAt (w.alloc _) _ _ (by simp)) _) hb1
  have hB1 : Below w.heap.size w w1 := stepB (by go_grown) hb1
  have hs1 := hB1.size
  clear hb1
  have cc3 := Xb3_1.2.1
  have ll3 := Xb3_1.1
  go_wp2_with fail
  refine (HF1.out _).mono ?_
  rintro e w2 ⟨rfl, hb2⟩
  have Xb4_2 : Box w2 (w.heap.size + 1) #[.int .i64 p', .int .i64 l', .int .i64 r', .int .i64 a', .int .i64 b', .int .i64 s', .bool h', .int .i64 t'] := Box.below Xb4_1 hb2
  have hB2 : Below w.heap.size w w2 := stepB (by go_grown) hb2
  have hs2 := hB2.size
  clear hb2 hB1 hs1 Xb3_1 Xb4_1 cc3 ll3
  have cc4 := Xb4_2.2.1
  have ll4 := Xb4_2.1
  go_wp2_with fail
  refine (HF2.out _).mono ?_
  rintro e w3 ⟨rfl, hb3⟩
  have hB3 : Below w.heap.size w w3 := stepB (by go_grown) hb3
  have hs3 := hB3.size
  clear hb3 hB2 hs2 Xb4_2 cc4 ll4
  go_wp2_with fail
  refine (known_any _).mono ?_
  rintro e w4 ⟨rfl, hb4⟩
  have hB4 : Below w.heap.size w w4 := stepB (by go_grown) hb4
  have hs4 := hB4.size
  clear hb4 hB3 hs3
  go_wp2
  go_returns
  exact ⟨rfl, hB4⟩

set_option maxRecDepth 100000 in
set_option maxHeartbeats 2000000 in
theorem rooms_state (p l r a b s t : Int) (h : Bool) (p' l' r' a' b' s' t' : Int) (h' : Bool) (lo hi : Int) (HR : Hid (∀ w : World, Calls Try.prog 27 #[.agg #[.int .i64 p, .int .i64 l, .int .i64 r, .int .i64 a, .int .i64 b, .int .i64 s, .bool h, .int .i64 t], .agg #[.int .i64 p', .int .i64 l', .int .i64 r', .int .i64 a', .int .i64 b', .int .i64 s', .bool h', .int .i64 t'], .agg #[.int .i64 lo, .int .i64 hi]] w fun e w' => e = .returned (.tuple #[.int .i64 0, .int .i64 9]) ∧ Below w.heap.size w w')) (HF1 : Hid (∀ w : World, Calls Try.prog 17 #[.agg #[.int .i64 p, .int .i64 l, .int .i64 r, .int .i64 a, .int .i64 b, .int .i64 s, .bool h, .int .i64 t]] w fun e w' => e = .returned (.bool true) ∧ Below w.heap.size w w')) (HF2 : Hid (∀ w : World, Calls Try.prog 17 #[.agg #[.int .i64 p', .int .i64 l', .int .i64 r', .int .i64 a', .int .i64 b', .int .i64 s', .bool h', .int .i64 t']] w fun e w' => e = .returned (.bool true) ∧ Below w.heap.size w w')) (HMt : Hid (∀ w : World, Calls Try.prog 28 #[.agg #[.int .i64 p, .int .i64 l, .int .i64 r, .int .i64 a, .int .i64 b, .int .i64 s, .bool h, .int .i64 t], .agg #[.int .i64 p', .int .i64 l', .int .i64 r', .int .i64 a', .int .i64 b', .int .i64 s', .bool h', .int .i64 t']] w fun e w' => e = .returned (.bool false) ∧ Below w.heap.size w w')) (w : World) :
    Calls Try.prog 6 #[.agg #[.int .i64 p, .int .i64 l, .int .i64 r, .int .i64 a, .int .i64 b, .int .i64 s, .bool h, .int .i64 t], .agg #[.int .i64 p', .int .i64 l', .int .i64 r', .int .i64 a', .int .i64 b', .int .i64 s', .bool h', .int .i64 t'], .agg #[.int .i64 lo, .int .i64 hi]] w fun e w' => e = .returned (.bool true) ∧ Below w.heap.size w w' := by
  have qR := eqR
  have nR := neqR
  have gR := guardR
  go_enter Try.func6, Try.ntmps6
  go_wp2_with fail
  refine (HR.out _).mono ?_
  rintro e w1 ⟨rfl, hb1⟩
  have Xb3_1 : Box w1 w.heap.size #[.int .i64 p, .int .i64 l, .int .i64 r, .int .i64 a, .int .i64 b, .int .i64 s, .bool h, .int .i64 t] := Box.below (Box.alloc (Box.alloc (Box.new w _ _) _) _) hb1
  have Xb4_1 : Box w1 (w.heap.size + 1) #[.int .i64 p', .int .i64 l', .int .i64 r', .int .i64 a', .int .i64 b', .int .i64 s', .bool h', .int .i64 t'] := Box.below (Box.alloc (Box.newAt (w.alloc _) _ _ (by simp)) _) hb1
  have hB1 : Below w.heap.size w w1 := stepB (by go_grown) hb1
  have hs1 := hB1.size
  clear hb1
  have cc3 := Xb3_1.2.1
  have ll3 := Xb3_1.1
  go_wp2_with fail
  refine (HF1.out _).mono ?_
  rintro e w2 ⟨rfl, hb2⟩
  have Xb3_2 : Box w2 w.heap.size #[.int .i64 p, .int .i64 l, .int .i64 r, .int .i64 a, .int .i64 b, .int .i64 s, .bool h, .int .i64 t] := Box.below Xb3_1 hb2
  have Xb4_2 : Box w2 (w.heap.size + 1) #[.int .i64 p', .int .i64 l', .int .i64 r', .int .i64 a', .int .i64 b', .int .i64 s', .bool h', .int .i64 t'] := Box.below Xb4_1 hb2
  have hB2 : Below w.heap.size w w2 := stepB (by go_grown) hb2
  have hs2 := hB2.size
  clear hb2 hB1 hs1 Xb3_1 Xb4_1 cc3 ll3
  have cc4 := Xb4_2.2.1
  have ll4 := Xb4_2.1
  go_wp2_with fail
  refine (HF2.out _).mono ?_
  rintro e w3 ⟨rfl, hb3⟩
  have Xb3_3 : Box w3 w.heap.size #[.int .i64 p, .int .i64 l, .int .i64 r, .int .i64 a, .int .i64 b, .int .i64 s, .bool h, .int .i64 t] := Box.below Xb3_2 hb3
  have Xb4_3 : Box w3 (w.heap.size + 1) #[.int .i64 p', .int .i64 l', .int .i64 r', .int .i64 a', .int .i64 b', .int .i64 s', .bool h', .int .i64 t'] := Box.below Xb4_2 hb3
  have hB3 : Below w.heap.size w w3 := stepB (by go_grown) hb3
  have hs3 := hB3.size
  clear hb3 hB2 hs2 Xb3_2 Xb4_2 cc4 ll4
  have cc3 := Xb3_3.2.1
  have ll3 := Xb3_3.1
  have cc4 := Xb4_3.2.1
  have ll4 := Xb4_3.1
  go_wp2_with fail
  refine (HMt.out _).mono ?_
  rintro e w4 ⟨rfl, hb4⟩
  have hB4 : Below w.heap.size w w4 := stepB (by go_grown) hb4
  have hs4 := hB4.size
  clear hb4 hB3 hs3 Xb3_3 Xb4_3 cc3 ll3 cc4 ll4
  go_wp2_with fail
  refine (known_any _).mono ?_
  rintro e w5 ⟨rfl, hb5⟩
  have hB5 : Below w.heap.size w w5 := stepB (by go_grown) hb5
  have hs5 := hB5.size
  clear hb5 hB4 hs4
  go_wp2
  go_returns
  exact ⟨rfl, hB5⟩

set_option maxRecDepth 100000 in
set_option maxHeartbeats 2000000 in
theorem rooms_r1 (p l r a b s t : Int) (h : Bool) (p' l' r' a' b' s' t' : Int) (h' : Bool) (lo hi : Int) (HR : Hid (∀ w : World, Calls Try.prog 27 #[.agg #[.int .i64 p, .int .i64 l, .int .i64 r, .int .i64 a, .int .i64 b, .int .i64 s, .bool h, .int .i64 t], .agg #[.int .i64 p', .int .i64 l', .int .i64 r', .int .i64 a', .int .i64 b', .int .i64 s', .bool h', .int .i64 t'], .agg #[.int .i64 lo, .int .i64 hi]] w fun e w' => e = .returned (.tuple #[.int .i64 0, .int .i64 3]) ∧ Below w.heap.size w w')) (HF1 : Hid (∀ w : World, Calls Try.prog 17 #[.agg #[.int .i64 p, .int .i64 l, .int .i64 r, .int .i64 a, .int .i64 b, .int .i64 s, .bool h, .int .i64 t]] w fun e w' => e = .returned (.bool true) ∧ Below w.heap.size w w')) (HF2 : Hid (∀ w : World, Calls Try.prog 17 #[.agg #[.int .i64 p', .int .i64 l', .int .i64 r', .int .i64 a', .int .i64 b', .int .i64 s', .bool h', .int .i64 t']] w fun e w' => e = .returned (.bool true) ∧ Below w.heap.size w w')) (HMt : Hid (∀ w : World, Calls Try.prog 28 #[.agg #[.int .i64 p, .int .i64 l, .int .i64 r, .int .i64 a, .int .i64 b, .int .i64 s, .bool h, .int .i64 t], .agg #[.int .i64 p', .int .i64 l', .int .i64 r', .int .i64 a', .int .i64 b', .int .i64 s', .bool h', .int .i64 t']] w fun e w' => e = .returned (.bool true) ∧ Below w.heap.size w w')) (g1 : lo < -200000) (w : World) :
    Calls Try.prog 6 #[.agg #[.int .i64 p, .int .i64 l, .int .i64 r, .int .i64 a, .int .i64 b, .int .i64 s, .bool h, .int .i64 t], .agg #[.int .i64 p', .int .i64 l', .int .i64 r', .int .i64 a', .int .i64 b', .int .i64 s', .bool h', .int .i64 t'], .agg #[.int .i64 lo, .int .i64 hi]] w fun e w' => e = .returned (.bool true) ∧ Below w.heap.size w w' := by
  have qR := eqR
  have nR := neqR
  have gR := guardR
  have d1 : decide (lo < -200000) = true := decide_eq_true g1
  go_enter Try.func6, Try.ntmps6
  go_wp2_with fail
  refine (HR.out _).mono ?_
  rintro e w1 ⟨rfl, hb1⟩
  have Xb3_1 : Box w1 w.heap.size #[.int .i64 p, .int .i64 l, .int .i64 r, .int .i64 a, .int .i64 b, .int .i64 s, .bool h, .int .i64 t] := Box.below (Box.alloc (Box.alloc (Box.new w _ _) _) _) hb1
  have Xb4_1 : Box w1 (w.heap.size + 1) #[.int .i64 p', .int .i64 l', .int .i64 r', .int .i64 a', .int .i64 b', .int .i64 s', .bool h', .int .i64 t'] := Box.below (Box.alloc (Box.newAt (w.alloc _) _ _ (by simp)) _) hb1
  have Xb5_1 : Box w1 (w.heap.size + 1 + 1) #[.int .i64 lo, .int .i64 hi] := Box.below (Box.newAt ((w.alloc _).alloc _) _ _ (by simp)) hb1
  have hB1 : Below w.heap.size w w1 := stepB (by go_grown) hb1
  have hs1 := hB1.size
  clear hb1
  have cc3 := Xb3_1.2.1
  have ll3 := Xb3_1.1
  go_wp2_with fail
  refine (HF1.out _).mono ?_
  rintro e w2 ⟨rfl, hb2⟩
  have Xb3_2 : Box w2 w.heap.size #[.int .i64 p, .int .i64 l, .int .i64 r, .int .i64 a, .int .i64 b, .int .i64 s, .bool h, .int .i64 t] := Box.below Xb3_1 hb2
  have Xb4_2 : Box w2 (w.heap.size + 1) #[.int .i64 p', .int .i64 l', .int .i64 r', .int .i64 a', .int .i64 b', .int .i64 s', .bool h', .int .i64 t'] := Box.below Xb4_1 hb2
  have Xb5_2 : Box w2 (w.heap.size + 1 + 1) #[.int .i64 lo, .int .i64 hi] := Box.below Xb5_1 hb2
  have hB2 : Below w.heap.size w w2 := stepB (by go_grown) hb2
  have hs2 := hB2.size
  clear hb2 hB1 hs1 Xb3_1 Xb4_1 Xb5_1 cc3 ll3
  have cc4 := Xb4_2.2.1
  have ll4 := Xb4_2.1
  go_wp2_with fail
  refine (HF2.out _).mono ?_
  rintro e w3 ⟨rfl, hb3⟩
  have Xb3_3 : Box w3 w.heap.size #[.int .i64 p, .int .i64 l, .int .i64 r, .int .i64 a, .int .i64 b, .int .i64 s, .bool h, .int .i64 t] := Box.below Xb3_2 hb3
  have Xb4_3 : Box w3 (w.heap.size + 1) #[.int .i64 p', .int .i64 l', .int .i64 r', .int .i64 a', .int .i64 b', .int .i64 s', .bool h', .int .i64 t'] := Box.below Xb4_2 hb3
  have Xb5_3 : Box w3 (w.heap.size + 1 + 1) #[.int .i64 lo, .int .i64 hi] := Box.below Xb5_2 hb3
  have hB3 : Below w.heap.size w w3 := stepB (by go_grown) hb3
  have hs3 := hB3.size
  clear hb3 hB2 hs2 Xb3_2 Xb4_2 Xb5_2 cc4 ll4
  have cc3 := Xb3_3.2.1
  have ll3 := Xb3_3.1
  have cc4 := Xb4_3.2.1
  have ll4 := Xb4_3.1
  go_wp2_with fail
  refine (HMt.out _).mono ?_
  rintro e w4 ⟨rfl, hb4⟩
  have Xb5_4 : Box w4 (w.heap.size + 1 + 1) #[.int .i64 lo, .int .i64 hi] := Box.below Xb5_3 hb4
  have hB4 : Below w.heap.size w w4 := stepB (by go_grown) hb4
  have hs4 := hB4.size
  clear hb4 hB3 hs3 Xb3_3 Xb4_3 Xb5_3 cc3 ll3 cc4 ll4
  have cc5 := Xb5_4.2.1
  have ll5 := Xb5_4.1
  go_wp2_with fail
  refine (known_any _).mono ?_
  rintro e w5 ⟨rfl, hb5⟩
  have hB5 : Below w.heap.size w w5 := stepB (by go_grown) hb5
  have hs5 := hB5.size
  clear hb5 hB4 hs4 Xb5_4 cc5 ll5
  go_wp2
  go_returns
  exact ⟨rfl, hB5⟩

set_option maxRecDepth 100000 in
set_option maxHeartbeats 2000000 in
theorem rooms_r2 (p l r a b s t : Int) (h : Bool) (p' l' r' a' b' s' t' : Int) (h' : Bool) (lo hi : Int) (HR : Hid (∀ w : World, Calls Try.prog 27 #[.agg #[.int .i64 p, .int .i64 l, .int .i64 r, .int .i64 a, .int .i64 b, .int .i64 s, .bool h, .int .i64 t], .agg #[.int .i64 p', .int .i64 l', .int .i64 r', .int .i64 a', .int .i64 b', .int .i64 s', .bool h', .int .i64 t'], .agg #[.int .i64 lo, .int .i64 hi]] w fun e w' => e = .returned (.tuple #[.int .i64 0, .int .i64 3]) ∧ Below w.heap.size w w')) (HF1 : Hid (∀ w : World, Calls Try.prog 17 #[.agg #[.int .i64 p, .int .i64 l, .int .i64 r, .int .i64 a, .int .i64 b, .int .i64 s, .bool h, .int .i64 t]] w fun e w' => e = .returned (.bool true) ∧ Below w.heap.size w w')) (HF2 : Hid (∀ w : World, Calls Try.prog 17 #[.agg #[.int .i64 p', .int .i64 l', .int .i64 r', .int .i64 a', .int .i64 b', .int .i64 s', .bool h', .int .i64 t']] w fun e w' => e = .returned (.bool true) ∧ Below w.heap.size w w')) (HMt : Hid (∀ w : World, Calls Try.prog 28 #[.agg #[.int .i64 p, .int .i64 l, .int .i64 r, .int .i64 a, .int .i64 b, .int .i64 s, .bool h, .int .i64 t], .agg #[.int .i64 p', .int .i64 l', .int .i64 r', .int .i64 a', .int .i64 b', .int .i64 s', .bool h', .int .i64 t']] w fun e w' => e = .returned (.bool true) ∧ Below w.heap.size w w')) (g1 : -200000 ≤ lo) (g2 : hi < lo) (w : World) :
    Calls Try.prog 6 #[.agg #[.int .i64 p, .int .i64 l, .int .i64 r, .int .i64 a, .int .i64 b, .int .i64 s, .bool h, .int .i64 t], .agg #[.int .i64 p', .int .i64 l', .int .i64 r', .int .i64 a', .int .i64 b', .int .i64 s', .bool h', .int .i64 t'], .agg #[.int .i64 lo, .int .i64 hi]] w fun e w' => e = .returned (.bool true) ∧ Below w.heap.size w w' := by
  have qR := eqR
  have nR := neqR
  have gR := guardR
  have d1 : decide (lo < -200000) = false := decide_eq_false (by omega)
  have d2 : decide (hi < lo) = true := decide_eq_true g2
  go_enter Try.func6, Try.ntmps6
  go_wp2_with fail
  refine (HR.out _).mono ?_
  rintro e w1 ⟨rfl, hb1⟩
  have Xb3_1 : Box w1 w.heap.size #[.int .i64 p, .int .i64 l, .int .i64 r, .int .i64 a, .int .i64 b, .int .i64 s, .bool h, .int .i64 t] := Box.below (Box.alloc (Box.alloc (Box.new w _ _) _) _) hb1
  have Xb4_1 : Box w1 (w.heap.size + 1) #[.int .i64 p', .int .i64 l', .int .i64 r', .int .i64 a', .int .i64 b', .int .i64 s', .bool h', .int .i64 t'] := Box.below (Box.alloc (Box.newAt (w.alloc _) _ _ (by simp)) _) hb1
  have Xb5_1 : Box w1 (w.heap.size + 1 + 1) #[.int .i64 lo, .int .i64 hi] := Box.below (Box.newAt ((w.alloc _).alloc _) _ _ (by simp)) hb1
  have hB1 : Below w.heap.size w w1 := stepB (by go_grown) hb1
  have hs1 := hB1.size
  clear hb1
  have cc3 := Xb3_1.2.1
  have ll3 := Xb3_1.1
  go_wp2_with fail
  refine (HF1.out _).mono ?_
  rintro e w2 ⟨rfl, hb2⟩
  have Xb3_2 : Box w2 w.heap.size #[.int .i64 p, .int .i64 l, .int .i64 r, .int .i64 a, .int .i64 b, .int .i64 s, .bool h, .int .i64 t] := Box.below Xb3_1 hb2
  have Xb4_2 : Box w2 (w.heap.size + 1) #[.int .i64 p', .int .i64 l', .int .i64 r', .int .i64 a', .int .i64 b', .int .i64 s', .bool h', .int .i64 t'] := Box.below Xb4_1 hb2
  have Xb5_2 : Box w2 (w.heap.size + 1 + 1) #[.int .i64 lo, .int .i64 hi] := Box.below Xb5_1 hb2
  have hB2 : Below w.heap.size w w2 := stepB (by go_grown) hb2
  have hs2 := hB2.size
  clear hb2 hB1 hs1 Xb3_1 Xb4_1 Xb5_1 cc3 ll3
  have cc4 := Xb4_2.2.1
  have ll4 := Xb4_2.1
  go_wp2_with fail
  refine (HF2.out _).mono ?_
  rintro e w3 ⟨rfl, hb3⟩
  have Xb3_3 : Box w3 w.heap.size #[.int .i64 p, .int .i64 l, .int .i64 r, .int .i64 a, .int .i64 b, .int .i64 s, .bool h, .int .i64 t] := Box.below Xb3_2 hb3
  have Xb4_3 : Box w3 (w.heap.size + 1) #[.int .i64 p', .int .i64 l', .int .i64 r', .int .i64 a', .int .i64 b', .int .i64 s', .bool h', .int .i64 t'] := Box.below Xb4_2 hb3
  have Xb5_3 : Box w3 (w.heap.size + 1 + 1) #[.int .i64 lo, .int .i64 hi] := Box.below Xb5_2 hb3
  have hB3 : Below w.heap.size w w3 := stepB (by go_grown) hb3
  have hs3 := hB3.size
  clear hb3 hB2 hs2 Xb3_2 Xb4_2 Xb5_2 cc4 ll4
  have cc3 := Xb3_3.2.1
  have ll3 := Xb3_3.1
  have cc4 := Xb4_3.2.1
  have ll4 := Xb4_3.1
  go_wp2_with fail
  refine (HMt.out _).mono ?_
  rintro e w4 ⟨rfl, hb4⟩
  have Xb5_4 : Box w4 (w.heap.size + 1 + 1) #[.int .i64 lo, .int .i64 hi] := Box.below Xb5_3 hb4
  have hB4 : Below w.heap.size w w4 := stepB (by go_grown) hb4
  have hs4 := hB4.size
  clear hb4 hB3 hs3 Xb3_3 Xb4_3 Xb5_3 cc3 ll3 cc4 ll4
  have cc5 := Xb5_4.2.1
  have ll5 := Xb5_4.1
  go_wp2_with fail
  refine (known_any _).mono ?_
  rintro e w5 ⟨rfl, hb5⟩
  have hB5 : Below w.heap.size w w5 := stepB (by go_grown) hb5
  have hs5 := hB5.size
  clear hb5 hB4 hs4 Xb5_4 cc5 ll5
  go_wp2
  go_returns
  exact ⟨rfl, hB5⟩

set_option maxRecDepth 100000 in
set_option maxHeartbeats 2000000 in
theorem rooms_r3 (p l r a b s t : Int) (h : Bool) (p' l' r' a' b' s' t' : Int) (h' : Bool) (lo hi : Int) (HR : Hid (∀ w : World, Calls Try.prog 27 #[.agg #[.int .i64 p, .int .i64 l, .int .i64 r, .int .i64 a, .int .i64 b, .int .i64 s, .bool h, .int .i64 t], .agg #[.int .i64 p', .int .i64 l', .int .i64 r', .int .i64 a', .int .i64 b', .int .i64 s', .bool h', .int .i64 t'], .agg #[.int .i64 lo, .int .i64 hi]] w fun e w' => e = .returned (.tuple #[.int .i64 0, .int .i64 3]) ∧ Below w.heap.size w w')) (HF1 : Hid (∀ w : World, Calls Try.prog 17 #[.agg #[.int .i64 p, .int .i64 l, .int .i64 r, .int .i64 a, .int .i64 b, .int .i64 s, .bool h, .int .i64 t]] w fun e w' => e = .returned (.bool true) ∧ Below w.heap.size w w')) (HF2 : Hid (∀ w : World, Calls Try.prog 17 #[.agg #[.int .i64 p', .int .i64 l', .int .i64 r', .int .i64 a', .int .i64 b', .int .i64 s', .bool h', .int .i64 t']] w fun e w' => e = .returned (.bool true) ∧ Below w.heap.size w w')) (HMt : Hid (∀ w : World, Calls Try.prog 28 #[.agg #[.int .i64 p, .int .i64 l, .int .i64 r, .int .i64 a, .int .i64 b, .int .i64 s, .bool h, .int .i64 t], .agg #[.int .i64 p', .int .i64 l', .int .i64 r', .int .i64 a', .int .i64 b', .int .i64 s', .bool h', .int .i64 t']] w fun e w' => e = .returned (.bool true) ∧ Below w.heap.size w w')) (g1 : -200000 ≤ lo) (g2 : lo ≤ hi) (g3 : 200000 < hi) (w : World) :
    Calls Try.prog 6 #[.agg #[.int .i64 p, .int .i64 l, .int .i64 r, .int .i64 a, .int .i64 b, .int .i64 s, .bool h, .int .i64 t], .agg #[.int .i64 p', .int .i64 l', .int .i64 r', .int .i64 a', .int .i64 b', .int .i64 s', .bool h', .int .i64 t'], .agg #[.int .i64 lo, .int .i64 hi]] w fun e w' => e = .returned (.bool true) ∧ Below w.heap.size w w' := by
  have qR := eqR
  have nR := neqR
  have gR := guardR
  have d1 : decide (lo < -200000) = false := decide_eq_false (by omega)
  have d2 : decide (hi < lo) = false := decide_eq_false (by omega)
  have d3 : decide (200000 < hi) = true := decide_eq_true g3
  go_enter Try.func6, Try.ntmps6
  go_wp2_with fail
  refine (HR.out _).mono ?_
  rintro e w1 ⟨rfl, hb1⟩
  have Xb3_1 : Box w1 w.heap.size #[.int .i64 p, .int .i64 l, .int .i64 r, .int .i64 a, .int .i64 b, .int .i64 s, .bool h, .int .i64 t] := Box.below (Box.alloc (Box.alloc (Box.new w _ _) _) _) hb1
  have Xb4_1 : Box w1 (w.heap.size + 1) #[.int .i64 p', .int .i64 l', .int .i64 r', .int .i64 a', .int .i64 b', .int .i64 s', .bool h', .int .i64 t'] := Box.below (Box.alloc (Box.newAt (w.alloc _) _ _ (by simp)) _) hb1
  have Xb5_1 : Box w1 (w.heap.size + 1 + 1) #[.int .i64 lo, .int .i64 hi] := Box.below (Box.newAt ((w.alloc _).alloc _) _ _ (by simp)) hb1
  have hB1 : Below w.heap.size w w1 := stepB (by go_grown) hb1
  have hs1 := hB1.size
  clear hb1
  have cc3 := Xb3_1.2.1
  have ll3 := Xb3_1.1
  go_wp2_with fail
  refine (HF1.out _).mono ?_
  rintro e w2 ⟨rfl, hb2⟩
  have Xb3_2 : Box w2 w.heap.size #[.int .i64 p, .int .i64 l, .int .i64 r, .int .i64 a, .int .i64 b, .int .i64 s, .bool h, .int .i64 t] := Box.below Xb3_1 hb2
  have Xb4_2 : Box w2 (w.heap.size + 1) #[.int .i64 p', .int .i64 l', .int .i64 r', .int .i64 a', .int .i64 b', .int .i64 s', .bool h', .int .i64 t'] := Box.below Xb4_1 hb2
  have Xb5_2 : Box w2 (w.heap.size + 1 + 1) #[.int .i64 lo, .int .i64 hi] := Box.below Xb5_1 hb2
  have hB2 : Below w.heap.size w w2 := stepB (by go_grown) hb2
  have hs2 := hB2.size
  clear hb2 hB1 hs1 Xb3_1 Xb4_1 Xb5_1 cc3 ll3
  have cc4 := Xb4_2.2.1
  have ll4 := Xb4_2.1
  go_wp2_with fail
  refine (HF2.out _).mono ?_
  rintro e w3 ⟨rfl, hb3⟩
  have Xb3_3 : Box w3 w.heap.size #[.int .i64 p, .int .i64 l, .int .i64 r, .int .i64 a, .int .i64 b, .int .i64 s, .bool h, .int .i64 t] := Box.below Xb3_2 hb3
  have Xb4_3 : Box w3 (w.heap.size + 1) #[.int .i64 p', .int .i64 l', .int .i64 r', .int .i64 a', .int .i64 b', .int .i64 s', .bool h', .int .i64 t'] := Box.below Xb4_2 hb3
  have Xb5_3 : Box w3 (w.heap.size + 1 + 1) #[.int .i64 lo, .int .i64 hi] := Box.below Xb5_2 hb3
  have hB3 : Below w.heap.size w w3 := stepB (by go_grown) hb3
  have hs3 := hB3.size
  clear hb3 hB2 hs2 Xb3_2 Xb4_2 Xb5_2 cc4 ll4
  have cc3 := Xb3_3.2.1
  have ll3 := Xb3_3.1
  have cc4 := Xb4_3.2.1
  have ll4 := Xb4_3.1
  go_wp2_with fail
  refine (HMt.out _).mono ?_
  rintro e w4 ⟨rfl, hb4⟩
  have Xb5_4 : Box w4 (w.heap.size + 1 + 1) #[.int .i64 lo, .int .i64 hi] := Box.below Xb5_3 hb4
  have hB4 : Below w.heap.size w w4 := stepB (by go_grown) hb4
  have hs4 := hB4.size
  clear hb4 hB3 hs3 Xb3_3 Xb4_3 Xb5_3 cc3 ll3 cc4 ll4
  have cc5 := Xb5_4.2.1
  have ll5 := Xb5_4.1
  go_wp2_with fail
  refine (known_any _).mono ?_
  rintro e w5 ⟨rfl, hb5⟩
  have hB5 : Below w.heap.size w w5 := stepB (by go_grown) hb5
  have hs5 := hB5.size
  clear hb5 hB4 hs4 Xb5_4 cc5 ll5
  go_wp2
  go_returns
  exact ⟨rfl, hB5⟩

set_option maxRecDepth 100000 in
set_option maxHeartbeats 2000000 in
theorem rooms_yes (p l r a b s t : Int) (h : Bool) (p' l' r' a' b' s' t' : Int) (h' : Bool) (lo hi : Int) (n : Int) (g1 : -200000 ≤ lo) (g2 : lo ≤ hi) (g3 : hi ≤ 200000) (HR : Hid (∀ w : World, Calls Try.prog 27 #[.agg #[.int .i64 p, .int .i64 l, .int .i64 r, .int .i64 a, .int .i64 b, .int .i64 s, .bool h, .int .i64 t], .agg #[.int .i64 p', .int .i64 l', .int .i64 r', .int .i64 a', .int .i64 b', .int .i64 s', .bool h', .int .i64 t'], .agg #[.int .i64 lo, .int .i64 hi]] w fun e w' => e = .returned (.tuple #[.int .i64 n, .int .i64 0]) ∧ Below w.heap.size w w')) (HF1 : Hid (∀ w : World, Calls Try.prog 17 #[.agg #[.int .i64 p, .int .i64 l, .int .i64 r, .int .i64 a, .int .i64 b, .int .i64 s, .bool h, .int .i64 t]] w fun e w' => e = .returned (.bool true) ∧ Below w.heap.size w w')) (HF2 : Hid (∀ w : World, Calls Try.prog 17 #[.agg #[.int .i64 p', .int .i64 l', .int .i64 r', .int .i64 a', .int .i64 b', .int .i64 s', .bool h', .int .i64 t']] w fun e w' => e = .returned (.bool true) ∧ Below w.heap.size w w')) (HMt : Hid (∀ w : World, Calls Try.prog 28 #[.agg #[.int .i64 p, .int .i64 l, .int .i64 r, .int .i64 a, .int .i64 b, .int .i64 s, .bool h, .int .i64 t], .agg #[.int .i64 p', .int .i64 l', .int .i64 r', .int .i64 a', .int .i64 b', .int .i64 s', .bool h', .int .i64 t']] w fun e w' => e = .returned (.bool true) ∧ Below w.heap.size w w')) (HQ : Hid (∀ w : World, Calls Try.prog 29 #[.agg #[.int .i64 p, .int .i64 l, .int .i64 r, .int .i64 a, .int .i64 b, .int .i64 s, .bool h, .int .i64 t], .agg #[.int .i64 p', .int .i64 l', .int .i64 r', .int .i64 a', .int .i64 b', .int .i64 s', .bool h', .int .i64 t'], .agg #[.int .i64 lo, .int .i64 hi]] w fun e w' => e = .returned (.tuple #[.int .i64 n, .bool true]) ∧ Below w.heap.size w w')) (w : World) :
    Calls Try.prog 6 #[.agg #[.int .i64 p, .int .i64 l, .int .i64 r, .int .i64 a, .int .i64 b, .int .i64 s, .bool h, .int .i64 t], .agg #[.int .i64 p', .int .i64 l', .int .i64 r', .int .i64 a', .int .i64 b', .int .i64 s', .bool h', .int .i64 t'], .agg #[.int .i64 lo, .int .i64 hi]] w fun e w' => e = .returned (.bool true) ∧ Below w.heap.size w w' := by
  have qR := eqR
  have nR := neqR
  have gR := guardR
  have d1 : decide (lo < -200000) = false := decide_eq_false (by omega)
  have d2 : decide (hi < lo) = false := decide_eq_false (by omega)
  have d3 : decide (200000 < hi) = false := decide_eq_false (by omega)
  go_enter Try.func6, Try.ntmps6
  go_wp2_with fail
  refine (HR.out _).mono ?_
  rintro e w1 ⟨rfl, hb1⟩
  have Xb3_1 : Box w1 w.heap.size #[.int .i64 p, .int .i64 l, .int .i64 r, .int .i64 a, .int .i64 b, .int .i64 s, .bool h, .int .i64 t] := Box.below (Box.alloc (Box.alloc (Box.new w _ _) _) _) hb1
  have Xb4_1 : Box w1 (w.heap.size + 1) #[.int .i64 p', .int .i64 l', .int .i64 r', .int .i64 a', .int .i64 b', .int .i64 s', .bool h', .int .i64 t'] := Box.below (Box.alloc (Box.newAt (w.alloc _) _ _ (by simp)) _) hb1
  have Xb5_1 : Box w1 (w.heap.size + 1 + 1) #[.int .i64 lo, .int .i64 hi] := Box.below (Box.newAt ((w.alloc _).alloc _) _ _ (by simp)) hb1
  have hB1 : Below w.heap.size w w1 := stepB (by go_grown) hb1
  have hs1 := hB1.size
  clear hb1
  have cc3 := Xb3_1.2.1
  have ll3 := Xb3_1.1
  go_wp2_with fail
  refine (HF1.out _).mono ?_
  rintro e w2 ⟨rfl, hb2⟩
  have Xb3_2 : Box w2 w.heap.size #[.int .i64 p, .int .i64 l, .int .i64 r, .int .i64 a, .int .i64 b, .int .i64 s, .bool h, .int .i64 t] := Box.below Xb3_1 hb2
  have Xb4_2 : Box w2 (w.heap.size + 1) #[.int .i64 p', .int .i64 l', .int .i64 r', .int .i64 a', .int .i64 b', .int .i64 s', .bool h', .int .i64 t'] := Box.below Xb4_1 hb2
  have Xb5_2 : Box w2 (w.heap.size + 1 + 1) #[.int .i64 lo, .int .i64 hi] := Box.below Xb5_1 hb2
  have hB2 : Below w.heap.size w w2 := stepB (by go_grown) hb2
  have hs2 := hB2.size
  clear hb2 hB1 hs1 Xb3_1 Xb4_1 Xb5_1 cc3 ll3
  have cc4 := Xb4_2.2.1
  have ll4 := Xb4_2.1
  go_wp2_with fail
  refine (HF2.out _).mono ?_
  rintro e w3 ⟨rfl, hb3⟩
  have Xb3_3 : Box w3 w.heap.size #[.int .i64 p, .int .i64 l, .int .i64 r, .int .i64 a, .int .i64 b, .int .i64 s, .bool h, .int .i64 t] := Box.below Xb3_2 hb3
  have Xb4_3 : Box w3 (w.heap.size + 1) #[.int .i64 p', .int .i64 l', .int .i64 r', .int .i64 a', .int .i64 b', .int .i64 s', .bool h', .int .i64 t'] := Box.below Xb4_2 hb3
  have Xb5_3 : Box w3 (w.heap.size + 1 + 1) #[.int .i64 lo, .int .i64 hi] := Box.below Xb5_2 hb3
  have hB3 : Below w.heap.size w w3 := stepB (by go_grown) hb3
  have hs3 := hB3.size
  clear hb3 hB2 hs2 Xb3_2 Xb4_2 Xb5_2 cc4 ll4
  have cc3 := Xb3_3.2.1
  have ll3 := Xb3_3.1
  have cc4 := Xb4_3.2.1
  have ll4 := Xb4_3.1
  go_wp2_with fail
  refine (HMt.out _).mono ?_
  rintro e w4 ⟨rfl, hb4⟩
  have Xb3_4 : Box w4 w.heap.size #[.int .i64 p, .int .i64 l, .int .i64 r, .int .i64 a, .int .i64 b, .int .i64 s, .bool h, .int .i64 t] := Box.below Xb3_3 hb4
  have Xb4_4 : Box w4 (w.heap.size + 1) #[.int .i64 p', .int .i64 l', .int .i64 r', .int .i64 a', .int .i64 b', .int .i64 s', .bool h', .int .i64 t'] := Box.below Xb4_3 hb4
  have Xb5_4 : Box w4 (w.heap.size + 1 + 1) #[.int .i64 lo, .int .i64 hi] := Box.below Xb5_3 hb4
  have hB4 : Below w.heap.size w w4 := stepB (by go_grown) hb4
  have hs4 := hB4.size
  clear hb4 hB3 hs3 Xb3_3 Xb4_3 Xb5_3 cc3 ll3 cc4 ll4
  have cc3 := Xb3_4.2.1
  have ll3 := Xb3_4.1
  have cc4 := Xb4_4.2.1
  have ll4 := Xb4_4.1
  have cc5 := Xb5_4.2.1
  have ll5 := Xb5_4.1
  go_wp2_with fail
  refine (HQ.out _).mono ?_
  rintro e w5 ⟨rfl, hb5⟩
  have hB5 : Below w.heap.size w w5 := stepB (by go_grown) hb5
  have hs5 := hB5.size
  clear hb5 hB4 hs4 Xb3_4 Xb4_4 Xb5_4 cc3 ll3 cc4 ll4 cc5 ll5
  go_wp2_with fail
  refine (known_any _).mono ?_
  rintro e w6 ⟨rfl, hb6⟩
  have hB6 : Below w.heap.size w w6 := stepB (by go_grown) hb6
  have hs6 := hB6.size
  clear hb6 hB5 hs5
  go_wp2
  go_returns
  exact ⟨rfl, hB6⟩

set_option maxRecDepth 100000 in
set_option maxHeartbeats 2000000 in
theorem rooms_no (p l r a b s t : Int) (h : Bool) (p' l' r' a' b' s' t' : Int) (h' : Bool) (lo hi : Int) (g1 : -200000 ≤ lo) (g2 : lo ≤ hi) (g3 : hi ≤ 200000) (HR : Hid (∀ w : World, Calls Try.prog 27 #[.agg #[.int .i64 p, .int .i64 l, .int .i64 r, .int .i64 a, .int .i64 b, .int .i64 s, .bool h, .int .i64 t], .agg #[.int .i64 p', .int .i64 l', .int .i64 r', .int .i64 a', .int .i64 b', .int .i64 s', .bool h', .int .i64 t'], .agg #[.int .i64 lo, .int .i64 hi]] w fun e w' => e = .returned (.tuple #[.int .i64 0, .int .i64 7]) ∧ Below w.heap.size w w')) (HF1 : Hid (∀ w : World, Calls Try.prog 17 #[.agg #[.int .i64 p, .int .i64 l, .int .i64 r, .int .i64 a, .int .i64 b, .int .i64 s, .bool h, .int .i64 t]] w fun e w' => e = .returned (.bool true) ∧ Below w.heap.size w w')) (HF2 : Hid (∀ w : World, Calls Try.prog 17 #[.agg #[.int .i64 p', .int .i64 l', .int .i64 r', .int .i64 a', .int .i64 b', .int .i64 s', .bool h', .int .i64 t']] w fun e w' => e = .returned (.bool true) ∧ Below w.heap.size w w')) (HMt : Hid (∀ w : World, Calls Try.prog 28 #[.agg #[.int .i64 p, .int .i64 l, .int .i64 r, .int .i64 a, .int .i64 b, .int .i64 s, .bool h, .int .i64 t], .agg #[.int .i64 p', .int .i64 l', .int .i64 r', .int .i64 a', .int .i64 b', .int .i64 s', .bool h', .int .i64 t']] w fun e w' => e = .returned (.bool true) ∧ Below w.heap.size w w')) (HQ : Hid (∀ w : World, Calls Try.prog 29 #[.agg #[.int .i64 p, .int .i64 l, .int .i64 r, .int .i64 a, .int .i64 b, .int .i64 s, .bool h, .int .i64 t], .agg #[.int .i64 p', .int .i64 l', .int .i64 r', .int .i64 a', .int .i64 b', .int .i64 s', .bool h', .int .i64 t'], .agg #[.int .i64 lo, .int .i64 hi]] w fun e w' => e = .returned (.tuple #[.int .i64 0, .bool false]) ∧ Below w.heap.size w w')) (w : World) :
    Calls Try.prog 6 #[.agg #[.int .i64 p, .int .i64 l, .int .i64 r, .int .i64 a, .int .i64 b, .int .i64 s, .bool h, .int .i64 t], .agg #[.int .i64 p', .int .i64 l', .int .i64 r', .int .i64 a', .int .i64 b', .int .i64 s', .bool h', .int .i64 t'], .agg #[.int .i64 lo, .int .i64 hi]] w fun e w' => e = .returned (.bool true) ∧ Below w.heap.size w w' := by
  have qR := eqR
  have nR := neqR
  have gR := guardR
  have d1 : decide (lo < -200000) = false := decide_eq_false (by omega)
  have d2 : decide (hi < lo) = false := decide_eq_false (by omega)
  have d3 : decide (200000 < hi) = false := decide_eq_false (by omega)
  go_enter Try.func6, Try.ntmps6
  go_wp2_with fail
  refine (HR.out _).mono ?_
  rintro e w1 ⟨rfl, hb1⟩
  have Xb3_1 : Box w1 w.heap.size #[.int .i64 p, .int .i64 l, .int .i64 r, .int .i64 a, .int .i64 b, .int .i64 s, .bool h, .int .i64 t] := Box.below (Box.alloc (Box.alloc (Box.new w _ _) _) _) hb1
  have Xb4_1 : Box w1 (w.heap.size + 1) #[.int .i64 p', .int .i64 l', .int .i64 r', .int .i64 a', .int .i64 b', .int .i64 s', .bool h', .int .i64 t'] := Box.below (Box.alloc (Box.newAt (w.alloc _) _ _ (by simp)) _) hb1
  have Xb5_1 : Box w1 (w.heap.size + 1 + 1) #[.int .i64 lo, .int .i64 hi] := Box.below (Box.newAt ((w.alloc _).alloc _) _ _ (by simp)) hb1
  have hB1 : Below w.heap.size w w1 := stepB (by go_grown) hb1
  have hs1 := hB1.size
  clear hb1
  have cc3 := Xb3_1.2.1
  have ll3 := Xb3_1.1
  go_wp2_with fail
  refine (HF1.out _).mono ?_
  rintro e w2 ⟨rfl, hb2⟩
  have Xb3_2 : Box w2 w.heap.size #[.int .i64 p, .int .i64 l, .int .i64 r, .int .i64 a, .int .i64 b, .int .i64 s, .bool h, .int .i64 t] := Box.below Xb3_1 hb2
  have Xb4_2 : Box w2 (w.heap.size + 1) #[.int .i64 p', .int .i64 l', .int .i64 r', .int .i64 a', .int .i64 b', .int .i64 s', .bool h', .int .i64 t'] := Box.below Xb4_1 hb2
  have Xb5_2 : Box w2 (w.heap.size + 1 + 1) #[.int .i64 lo, .int .i64 hi] := Box.below Xb5_1 hb2
  have hB2 : Below w.heap.size w w2 := stepB (by go_grown) hb2
  have hs2 := hB2.size
  clear hb2 hB1 hs1 Xb3_1 Xb4_1 Xb5_1 cc3 ll3
  have cc4 := Xb4_2.2.1
  have ll4 := Xb4_2.1
  go_wp2_with fail
  refine (HF2.out _).mono ?_
  rintro e w3 ⟨rfl, hb3⟩
  have Xb3_3 : Box w3 w.heap.size #[.int .i64 p, .int .i64 l, .int .i64 r, .int .i64 a, .int .i64 b, .int .i64 s, .bool h, .int .i64 t] := Box.below Xb3_2 hb3
  have Xb4_3 : Box w3 (w.heap.size + 1) #[.int .i64 p', .int .i64 l', .int .i64 r', .int .i64 a', .int .i64 b', .int .i64 s', .bool h', .int .i64 t'] := Box.below Xb4_2 hb3
  have Xb5_3 : Box w3 (w.heap.size + 1 + 1) #[.int .i64 lo, .int .i64 hi] := Box.below Xb5_2 hb3
  have hB3 : Below w.heap.size w w3 := stepB (by go_grown) hb3
  have hs3 := hB3.size
  clear hb3 hB2 hs2 Xb3_2 Xb4_2 Xb5_2 cc4 ll4
  have cc3 := Xb3_3.2.1
  have ll3 := Xb3_3.1
  have cc4 := Xb4_3.2.1
  have ll4 := Xb4_3.1
  go_wp2_with fail
  refine (HMt.out _).mono ?_
  rintro e w4 ⟨rfl, hb4⟩
  have Xb3_4 : Box w4 w.heap.size #[.int .i64 p, .int .i64 l, .int .i64 r, .int .i64 a, .int .i64 b, .int .i64 s, .bool h, .int .i64 t] := Box.below Xb3_3 hb4
  have Xb4_4 : Box w4 (w.heap.size + 1) #[.int .i64 p', .int .i64 l', .int .i64 r', .int .i64 a', .int .i64 b', .int .i64 s', .bool h', .int .i64 t'] := Box.below Xb4_3 hb4
  have Xb5_4 : Box w4 (w.heap.size + 1 + 1) #[.int .i64 lo, .int .i64 hi] := Box.below Xb5_3 hb4
  have hB4 : Below w.heap.size w w4 := stepB (by go_grown) hb4
  have hs4 := hB4.size
  clear hb4 hB3 hs3 Xb3_3 Xb4_3 Xb5_3 cc3 ll3 cc4 ll4
  have cc3 := Xb3_4.2.1
  have ll3 := Xb3_4.1
  have cc4 := Xb4_4.2.1
  have ll4 := Xb4_4.1
  have cc5 := Xb5_4.2.1
  have ll5 := Xb5_4.1
  go_wp2_with fail
  refine (HQ.out _).mono ?_
  rintro e w5 ⟨rfl, hb5⟩
  have hB5 : Below w.heap.size w w5 := stepB (by go_grown) hb5
  have hs5 := hB5.size
  clear hb5 hB4 hs4 Xb3_4 Xb4_4 Xb5_4 cc3 ll3 cc4 ll4 cc5 ll5
  go_wp2_with fail
  refine (known_any _).mono ?_
  rintro e w6 ⟨rfl, hb6⟩
  have hB6 : Below w.heap.size w w6 := stepB (by go_grown) hb6
  have hs6 := hB6.size
  clear hb6 hB5 hs5
  go_wp2
  go_returns
  exact ⟨rfl, hB6⟩

end Go.Proofs.Ytloleaahelmdjaa
