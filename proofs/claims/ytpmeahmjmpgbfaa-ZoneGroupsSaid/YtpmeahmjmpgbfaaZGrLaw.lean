/- ZoneGroups holds: in how few groups any screws and nuts must be sorted, or the error, is what the document says, for all spans; no condition besides the statement's own. Made by tools/gen_zgrlaw.py. -/
import Derived.Test.YtpmeahmjmpgbfaaZKnown
import Derived.Test.YtpmeahmjmpgbfaaZRefGr
import Derived.Test.YtpmeahmjmpgbfaaOpenZ
namespace Go.Proofs.Ytpmeahmjmpgbfaa
open Go.ChangeShapes Go.WideShapes Go.ChangeAt Go.RowKit
set_option linter.unusedVariables false
set_option linter.unusedSimpArgs false

set_option maxRecDepth 100000 in
set_option maxHeartbeats 4000000 in
theorem zgr_bad1 (s0 s1 n0 n1 v0 v1 : Int) (HG : Hid (∀ w : World, Calls Try.prog 55 #[.agg #[.int .i64 s0, .int .i64 s1], .agg #[.int .i64 n0, .int .i64 n1], .agg #[.int .i64 v0, .int .i64 v1]] w fun e w' => e = .returned (.tuple #[.int .i64 0, .int .i64 2]) ∧ Below w.heap.size w w')) (H1 : Hid (∀ w : World, Calls Try.prog 37 #[.agg #[.int .i64 s0, .int .i64 s1], .int .i64 0, .int .i64 20000000] w fun e w' => e = .returned (.bool false) ∧ Below w.heap.size w w')) (w : World) :
    Calls Try.prog 9 #[.agg #[.int .i64 s0, .int .i64 s1], .agg #[.int .i64 n0, .int .i64 n1], .agg #[.int .i64 v0, .int .i64 v1]] w fun e w' => e = .returned (.bool true) ∧ Below w.heap.size w w' := by
  skip
  go_enter Try.func9, Try.ntmps9
  go_wp2_with fail
  refine (HG.out _).mono ?_
  rintro e w1 ⟨rfl, hb1⟩
  have Xb3_1 : Box w1 w.heap.size #[.int .i64 s0, .int .i64 s1] := Box.below (Box.alloc (Box.alloc (Box.new w _ _) _) _) hb1
  have Xb4_1 : Box w1 (w.heap.size + 1) #[.int .i64 n0, .int .i64 n1] := Box.below (Box.alloc (Box.newAt (w.alloc _) _ _ (by simp)) _) hb1
  have Xb5_1 : Box w1 (w.heap.size + 1 + 1) #[.int .i64 v0, .int .i64 v1] := Box.below (Box.newAt ((w.alloc _).alloc _) _ _ (by simp)) hb1
  have hB1 : Below w.heap.size w w1 := stepB (by go_grown) hb1
  have hs1 := hB1.size
  clear hb1
  have cc3 := Xb3_1.2.1
  have ll3 := Xb3_1.1
  go_wp2_with fail
  refine (H1.out _).mono ?_
  rintro e w2 ⟨rfl, hb2⟩
  have Xb4_2 : Box w2 (w.heap.size + 1) #[.int .i64 n0, .int .i64 n1] := Box.below Xb4_1 hb2
  have Xb5_2 : Box w2 (w.heap.size + 1 + 1) #[.int .i64 v0, .int .i64 v1] := Box.below Xb5_1 hb2
  have hB2 : Below w.heap.size w w2 := stepB (by go_grown) hb2
  have hs2 := hB2.size
  clear hb2 hB1 hs1 Xb3_1 Xb4_1 Xb5_1 cc3 ll3
  have cc4 := Xb4_2.2.1
  have ll4 := Xb4_2.1
  have lm4_0 : w.heap.size < w2.heap.size := by have := ll4; omega
  have cc5 := Xb5_2.2.1
  have ll5 := Xb5_2.1
  have lm5_0 : w.heap.size < w2.heap.size := by have := ll5; omega
  have lm5_1 : w.heap.size + 1 < w2.heap.size := by have := ll5; omega
  go_wp2_with fail
  refine (known_any _).mono ?_
  rintro e w3 ⟨rfl, hb3⟩
  have hB3 : Below w.heap.size w w3 := stepB (by go_grown) hb3
  have hs3 := hB3.size
  clear hb3 hB2 hs2 Xb4_2 Xb5_2 cc4 ll4 lm4_0 cc5 ll5 lm5_0 lm5_1
  go_wp2
  go_returns
  exact ⟨rfl, hB3⟩

set_option maxRecDepth 100000 in
set_option maxHeartbeats 4000000 in
theorem zgr_bad2 (s0 s1 n0 n1 v0 v1 : Int) (HG : Hid (∀ w : World, Calls Try.prog 55 #[.agg #[.int .i64 s0, .int .i64 s1], .agg #[.int .i64 n0, .int .i64 n1], .agg #[.int .i64 v0, .int .i64 v1]] w fun e w' => e = .returned (.tuple #[.int .i64 0, .int .i64 2]) ∧ Below w.heap.size w w')) (H1 : Hid (∀ w : World, Calls Try.prog 37 #[.agg #[.int .i64 s0, .int .i64 s1], .int .i64 0, .int .i64 20000000] w fun e w' => e = .returned (.bool true) ∧ Below w.heap.size w w')) (H2 : Hid (∀ w : World, Calls Try.prog 37 #[.agg #[.int .i64 n0, .int .i64 n1], .int .i64 0, .int .i64 20000000] w fun e w' => e = .returned (.bool false) ∧ Below w.heap.size w w')) (w : World) :
    Calls Try.prog 9 #[.agg #[.int .i64 s0, .int .i64 s1], .agg #[.int .i64 n0, .int .i64 n1], .agg #[.int .i64 v0, .int .i64 v1]] w fun e w' => e = .returned (.bool true) ∧ Below w.heap.size w w' := by
  skip
  go_enter Try.func9, Try.ntmps9
  go_wp2_with fail
  refine (HG.out _).mono ?_
  rintro e w1 ⟨rfl, hb1⟩
  have Xb3_1 : Box w1 w.heap.size #[.int .i64 s0, .int .i64 s1] := Box.below (Box.alloc (Box.alloc (Box.new w _ _) _) _) hb1
  have Xb4_1 : Box w1 (w.heap.size + 1) #[.int .i64 n0, .int .i64 n1] := Box.below (Box.alloc (Box.newAt (w.alloc _) _ _ (by simp)) _) hb1
  have Xb5_1 : Box w1 (w.heap.size + 1 + 1) #[.int .i64 v0, .int .i64 v1] := Box.below (Box.newAt ((w.alloc _).alloc _) _ _ (by simp)) hb1
  have hB1 : Below w.heap.size w w1 := stepB (by go_grown) hb1
  have hs1 := hB1.size
  clear hb1
  have cc3 := Xb3_1.2.1
  have ll3 := Xb3_1.1
  go_wp2_with fail
  refine (H1.out _).mono ?_
  rintro e w2 ⟨rfl, hb2⟩
  have Xb4_2 : Box w2 (w.heap.size + 1) #[.int .i64 n0, .int .i64 n1] := Box.below Xb4_1 hb2
  have Xb5_2 : Box w2 (w.heap.size + 1 + 1) #[.int .i64 v0, .int .i64 v1] := Box.below Xb5_1 hb2
  have hB2 : Below w.heap.size w w2 := stepB (by go_grown) hb2
  have hs2 := hB2.size
  clear hb2 hB1 hs1 Xb3_1 Xb4_1 Xb5_1 cc3 ll3
  have cc4 := Xb4_2.2.1
  have ll4 := Xb4_2.1
  have lm4_0 : w.heap.size < w2.heap.size := by have := ll4; omega
  go_wp2_with fail
  refine (H2.out _).mono ?_
  rintro e w3 ⟨rfl, hb3⟩
  have Xb5_3 : Box w3 (w.heap.size + 1 + 1) #[.int .i64 v0, .int .i64 v1] := Box.below Xb5_2 hb3
  have hB3 : Below w.heap.size w w3 := stepB (by go_grown) hb3
  have hs3 := hB3.size
  clear hb3 hB2 hs2 Xb4_2 Xb5_2 cc4 ll4 lm4_0
  have cc5 := Xb5_3.2.1
  have ll5 := Xb5_3.1
  have lm5_0 : w.heap.size < w3.heap.size := by have := ll5; omega
  have lm5_1 : w.heap.size + 1 < w3.heap.size := by have := ll5; omega
  go_wp2_with fail
  refine (known_any _).mono ?_
  rintro e w4 ⟨rfl, hb4⟩
  have hB4 : Below w.heap.size w w4 := stepB (by go_grown) hb4
  have hs4 := hB4.size
  clear hb4 hB3 hs3 Xb5_3 cc5 ll5 lm5_0 lm5_1
  go_wp2
  go_returns
  exact ⟨rfl, hB4⟩

set_option maxRecDepth 100000 in
set_option maxHeartbeats 4000000 in
theorem zgr_bad3 (s0 s1 n0 n1 v0 v1 : Int) (HG : Hid (∀ w : World, Calls Try.prog 55 #[.agg #[.int .i64 s0, .int .i64 s1], .agg #[.int .i64 n0, .int .i64 n1], .agg #[.int .i64 v0, .int .i64 v1]] w fun e w' => e = .returned (.tuple #[.int .i64 0, .int .i64 2]) ∧ Below w.heap.size w w')) (H1 : Hid (∀ w : World, Calls Try.prog 37 #[.agg #[.int .i64 s0, .int .i64 s1], .int .i64 0, .int .i64 20000000] w fun e w' => e = .returned (.bool true) ∧ Below w.heap.size w w')) (H2 : Hid (∀ w : World, Calls Try.prog 37 #[.agg #[.int .i64 n0, .int .i64 n1], .int .i64 0, .int .i64 20000000] w fun e w' => e = .returned (.bool true) ∧ Below w.heap.size w w')) (H3 : Hid (∀ w : World, Calls Try.prog 37 #[.agg #[.int .i64 v0, .int .i64 v1], .int .i64 (-40000000), .int .i64 40000000] w fun e w' => e = .returned (.bool false) ∧ Below w.heap.size w w')) (w : World) :
    Calls Try.prog 9 #[.agg #[.int .i64 s0, .int .i64 s1], .agg #[.int .i64 n0, .int .i64 n1], .agg #[.int .i64 v0, .int .i64 v1]] w fun e w' => e = .returned (.bool true) ∧ Below w.heap.size w w' := by
  skip
  go_enter Try.func9, Try.ntmps9
  go_wp2_with fail
  refine (HG.out _).mono ?_
  rintro e w1 ⟨rfl, hb1⟩
  have Xb3_1 : Box w1 w.heap.size #[.int .i64 s0, .int .i64 s1] := Box.below (Box.alloc (Box.alloc (Box.new w _ _) _) _) hb1
  have Xb4_1 : Box w1 (w.heap.size + 1) #[.int .i64 n0, .int .i64 n1] := Box.below (Box.alloc (Box.newAt (w.alloc _) _ _ (by simp)) _) hb1
  have Xb5_1 : Box w1 (w.heap.size + 1 + 1) #[.int .i64 v0, .int .i64 v1] := Box.below (Box.newAt ((w.alloc _).alloc _) _ _ (by simp)) hb1
  have hB1 : Below w.heap.size w w1 := stepB (by go_grown) hb1
  have hs1 := hB1.size
  clear hb1
  have cc3 := Xb3_1.2.1
  have ll3 := Xb3_1.1
  go_wp2_with fail
  refine (H1.out _).mono ?_
  rintro e w2 ⟨rfl, hb2⟩
  have Xb4_2 : Box w2 (w.heap.size + 1) #[.int .i64 n0, .int .i64 n1] := Box.below Xb4_1 hb2
  have Xb5_2 : Box w2 (w.heap.size + 1 + 1) #[.int .i64 v0, .int .i64 v1] := Box.below Xb5_1 hb2
  have hB2 : Below w.heap.size w w2 := stepB (by go_grown) hb2
  have hs2 := hB2.size
  clear hb2 hB1 hs1 Xb3_1 Xb4_1 Xb5_1 cc3 ll3
  have cc4 := Xb4_2.2.1
  have ll4 := Xb4_2.1
  have lm4_0 : w.heap.size < w2.heap.size := by have := ll4; omega
  go_wp2_with fail
  refine (H2.out _).mono ?_
  rintro e w3 ⟨rfl, hb3⟩
  have Xb5_3 : Box w3 (w.heap.size + 1 + 1) #[.int .i64 v0, .int .i64 v1] := Box.below Xb5_2 hb3
  have hB3 : Below w.heap.size w w3 := stepB (by go_grown) hb3
  have hs3 := hB3.size
  clear hb3 hB2 hs2 Xb4_2 Xb5_2 cc4 ll4 lm4_0
  have cc5 := Xb5_3.2.1
  have ll5 := Xb5_3.1
  have lm5_0 : w.heap.size < w3.heap.size := by have := ll5; omega
  have lm5_1 : w.heap.size + 1 < w3.heap.size := by have := ll5; omega
  go_wp2_with fail
  refine (H3.out _).mono ?_
  rintro e w4 ⟨rfl, hb4⟩
  have hB4 : Below w.heap.size w w4 := stepB (by go_grown) hb4
  have hs4 := hB4.size
  clear hb4 hB3 hs3 Xb5_3 cc5 ll5 lm5_0 lm5_1
  go_wp2_with fail
  refine (known_any _).mono ?_
  rintro e w5 ⟨rfl, hb5⟩
  have hB5 : Below w.heap.size w w5 := stepB (by go_grown) hb5
  have hs5 := hB5.size
  clear hb5 hB4 hs4
  go_wp2
  go_returns
  exact ⟨rfl, hB5⟩

set_option maxRecDepth 100000 in
set_option maxHeartbeats 4000000 in
theorem zgr_none (s0 s1 n0 n1 v0 v1 : Int) (HG : Hid (∀ w : World, Calls Try.prog 55 #[.agg #[.int .i64 s0, .int .i64 s1], .agg #[.int .i64 n0, .int .i64 n1], .agg #[.int .i64 v0, .int .i64 v1]] w fun e w' => e = .returned (.tuple #[.int .i64 0, .int .i64 7]) ∧ Below w.heap.size w w')) (H1 : Hid (∀ w : World, Calls Try.prog 37 #[.agg #[.int .i64 s0, .int .i64 s1], .int .i64 0, .int .i64 20000000] w fun e w' => e = .returned (.bool true) ∧ Below w.heap.size w w')) (H2 : Hid (∀ w : World, Calls Try.prog 37 #[.agg #[.int .i64 n0, .int .i64 n1], .int .i64 0, .int .i64 20000000] w fun e w' => e = .returned (.bool true) ∧ Below w.heap.size w w')) (H3 : Hid (∀ w : World, Calls Try.prog 37 #[.agg #[.int .i64 v0, .int .i64 v1], .int .i64 (-40000000), .int .i64 40000000] w fun e w' => e = .returned (.bool true) ∧ Below w.heap.size w w')) (HR : Hid (∀ w : World, Calls Try.prog 56 #[.agg #[.int .i64 s0, .int .i64 s1], .agg #[.int .i64 n0, .int .i64 n1], .agg #[.int .i64 v0, .int .i64 v1]] w fun e w' => e = .returned (.tuple #[.int .i64 0, .bool false]) ∧ Below w.heap.size w w')) (w : World) :
    Calls Try.prog 9 #[.agg #[.int .i64 s0, .int .i64 s1], .agg #[.int .i64 n0, .int .i64 n1], .agg #[.int .i64 v0, .int .i64 v1]] w fun e w' => e = .returned (.bool true) ∧ Below w.heap.size w w' := by
  skip
  go_enter Try.func9, Try.ntmps9
  go_wp2_with fail
  refine (HG.out _).mono ?_
  rintro e w1 ⟨rfl, hb1⟩
  have Xb3_1 : Box w1 w.heap.size #[.int .i64 s0, .int .i64 s1] := Box.below (Box.alloc (Box.alloc (Box.new w _ _) _) _) hb1
  have Xb4_1 : Box w1 (w.heap.size + 1) #[.int .i64 n0, .int .i64 n1] := Box.below (Box.alloc (Box.newAt (w.alloc _) _ _ (by simp)) _) hb1
  have Xb5_1 : Box w1 (w.heap.size + 1 + 1) #[.int .i64 v0, .int .i64 v1] := Box.below (Box.newAt ((w.alloc _).alloc _) _ _ (by simp)) hb1
  have hB1 : Below w.heap.size w w1 := stepB (by go_grown) hb1
  have hs1 := hB1.size
  clear hb1
  have cc3 := Xb3_1.2.1
  have ll3 := Xb3_1.1
  go_wp2_with fail
  refine (H1.out _).mono ?_
  rintro e w2 ⟨rfl, hb2⟩
  have Xb3_2 : Box w2 w.heap.size #[.int .i64 s0, .int .i64 s1] := Box.below Xb3_1 hb2
  have Xb4_2 : Box w2 (w.heap.size + 1) #[.int .i64 n0, .int .i64 n1] := Box.below Xb4_1 hb2
  have Xb5_2 : Box w2 (w.heap.size + 1 + 1) #[.int .i64 v0, .int .i64 v1] := Box.below Xb5_1 hb2
  have hB2 : Below w.heap.size w w2 := stepB (by go_grown) hb2
  have hs2 := hB2.size
  clear hb2 hB1 hs1 Xb3_1 Xb4_1 Xb5_1 cc3 ll3
  have cc4 := Xb4_2.2.1
  have ll4 := Xb4_2.1
  have lm4_0 : w.heap.size < w2.heap.size := by have := ll4; omega
  go_wp2_with fail
  refine (H2.out _).mono ?_
  rintro e w3 ⟨rfl, hb3⟩
  have Xb3_3 : Box w3 w.heap.size #[.int .i64 s0, .int .i64 s1] := Box.below Xb3_2 hb3
  have Xb4_3 : Box w3 (w.heap.size + 1) #[.int .i64 n0, .int .i64 n1] := Box.below Xb4_2 hb3
  have Xb5_3 : Box w3 (w.heap.size + 1 + 1) #[.int .i64 v0, .int .i64 v1] := Box.below Xb5_2 hb3
  have hB3 : Below w.heap.size w w3 := stepB (by go_grown) hb3
  have hs3 := hB3.size
  clear hb3 hB2 hs2 Xb3_2 Xb4_2 Xb5_2 cc4 ll4 lm4_0
  have cc5 := Xb5_3.2.1
  have ll5 := Xb5_3.1
  have lm5_0 : w.heap.size < w3.heap.size := by have := ll5; omega
  have lm5_1 : w.heap.size + 1 < w3.heap.size := by have := ll5; omega
  go_wp2_with fail
  refine (H3.out _).mono ?_
  rintro e w4 ⟨rfl, hb4⟩
  have Xb3_4 : Box w4 w.heap.size #[.int .i64 s0, .int .i64 s1] := Box.below Xb3_3 hb4
  have Xb4_4 : Box w4 (w.heap.size + 1) #[.int .i64 n0, .int .i64 n1] := Box.below Xb4_3 hb4
  have Xb5_4 : Box w4 (w.heap.size + 1 + 1) #[.int .i64 v0, .int .i64 v1] := Box.below Xb5_3 hb4
  have hB4 : Below w.heap.size w w4 := stepB (by go_grown) hb4
  have hs4 := hB4.size
  clear hb4 hB3 hs3 Xb3_3 Xb4_3 Xb5_3 cc5 ll5 lm5_0 lm5_1
  have cc3 := Xb3_4.2.1
  have ll3 := Xb3_4.1
  have cc4 := Xb4_4.2.1
  have ll4 := Xb4_4.1
  have lm4_0 : w.heap.size < w4.heap.size := by have := ll4; omega
  have cc5 := Xb5_4.2.1
  have ll5 := Xb5_4.1
  have lm5_0 : w.heap.size < w4.heap.size := by have := ll5; omega
  have lm5_1 : w.heap.size + 1 < w4.heap.size := by have := ll5; omega
  go_wp2_with fail
  refine (HR.out _).mono ?_
  rintro e w5 ⟨rfl, hb5⟩
  have hB5 : Below w.heap.size w w5 := stepB (by go_grown) hb5
  have hs5 := hB5.size
  clear hb5 hB4 hs4 Xb3_4 Xb4_4 Xb5_4 cc3 ll3 cc4 ll4 lm4_0 cc5 ll5 lm5_0 lm5_1
  go_wp2_with fail
  refine (known_any _).mono ?_
  rintro e w6 ⟨rfl, hb6⟩
  have hB6 : Below w.heap.size w w6 := stepB (by go_grown) hb6
  have hs6 := hB6.size
  clear hb6 hB5 hs5
  go_wp2
  go_returns
  exact ⟨rfl, hB6⟩

set_option maxRecDepth 100000 in
set_option maxHeartbeats 4000000 in
theorem zgr_some (s0 s1 n0 n1 v0 v1 n : Int) (HG : Hid (∀ w : World, Calls Try.prog 55 #[.agg #[.int .i64 s0, .int .i64 s1], .agg #[.int .i64 n0, .int .i64 n1], .agg #[.int .i64 v0, .int .i64 v1]] w fun e w' => e = .returned (.tuple #[.int .i64 n, .int .i64 0]) ∧ Below w.heap.size w w')) (H1 : Hid (∀ w : World, Calls Try.prog 37 #[.agg #[.int .i64 s0, .int .i64 s1], .int .i64 0, .int .i64 20000000] w fun e w' => e = .returned (.bool true) ∧ Below w.heap.size w w')) (H2 : Hid (∀ w : World, Calls Try.prog 37 #[.agg #[.int .i64 n0, .int .i64 n1], .int .i64 0, .int .i64 20000000] w fun e w' => e = .returned (.bool true) ∧ Below w.heap.size w w')) (H3 : Hid (∀ w : World, Calls Try.prog 37 #[.agg #[.int .i64 v0, .int .i64 v1], .int .i64 (-40000000), .int .i64 40000000] w fun e w' => e = .returned (.bool true) ∧ Below w.heap.size w w')) (HR : Hid (∀ w : World, Calls Try.prog 56 #[.agg #[.int .i64 s0, .int .i64 s1], .agg #[.int .i64 n0, .int .i64 n1], .agg #[.int .i64 v0, .int .i64 v1]] w fun e w' => e = .returned (.tuple #[.int .i64 n, .bool true]) ∧ Below w.heap.size w w')) (w : World) :
    Calls Try.prog 9 #[.agg #[.int .i64 s0, .int .i64 s1], .agg #[.int .i64 n0, .int .i64 n1], .agg #[.int .i64 v0, .int .i64 v1]] w fun e w' => e = .returned (.bool true) ∧ Below w.heap.size w w' := by
  skip
  go_enter Try.func9, Try.ntmps9
  go_wp2_with fail
  refine (HG.out _).mono ?_
  rintro e w1 ⟨rfl, hb1⟩
  have Xb3_1 : Box w1 w.heap.size #[.int .i64 s0, .int .i64 s1] := Box.below (Box.alloc (Box.alloc (Box.new w _ _) _) _) hb1
  have Xb4_1 : Box w1 (w.heap.size + 1) #[.int .i64 n0, .int .i64 n1] := Box.below (Box.alloc (Box.newAt (w.alloc _) _ _ (by simp)) _) hb1
  have Xb5_1 : Box w1 (w.heap.size + 1 + 1) #[.int .i64 v0, .int .i64 v1] := Box.below (Box.newAt ((w.alloc _).alloc _) _ _ (by simp)) hb1
  have hB1 : Below w.heap.size w w1 := stepB (by go_grown) hb1
  have hs1 := hB1.size
  clear hb1
  have cc3 := Xb3_1.2.1
  have ll3 := Xb3_1.1
  go_wp2_with fail
  refine (H1.out _).mono ?_
  rintro e w2 ⟨rfl, hb2⟩
  have Xb3_2 : Box w2 w.heap.size #[.int .i64 s0, .int .i64 s1] := Box.below Xb3_1 hb2
  have Xb4_2 : Box w2 (w.heap.size + 1) #[.int .i64 n0, .int .i64 n1] := Box.below Xb4_1 hb2
  have Xb5_2 : Box w2 (w.heap.size + 1 + 1) #[.int .i64 v0, .int .i64 v1] := Box.below Xb5_1 hb2
  have hB2 : Below w.heap.size w w2 := stepB (by go_grown) hb2
  have hs2 := hB2.size
  clear hb2 hB1 hs1 Xb3_1 Xb4_1 Xb5_1 cc3 ll3
  have cc4 := Xb4_2.2.1
  have ll4 := Xb4_2.1
  have lm4_0 : w.heap.size < w2.heap.size := by have := ll4; omega
  go_wp2_with fail
  refine (H2.out _).mono ?_
  rintro e w3 ⟨rfl, hb3⟩
  have Xb3_3 : Box w3 w.heap.size #[.int .i64 s0, .int .i64 s1] := Box.below Xb3_2 hb3
  have Xb4_3 : Box w3 (w.heap.size + 1) #[.int .i64 n0, .int .i64 n1] := Box.below Xb4_2 hb3
  have Xb5_3 : Box w3 (w.heap.size + 1 + 1) #[.int .i64 v0, .int .i64 v1] := Box.below Xb5_2 hb3
  have hB3 : Below w.heap.size w w3 := stepB (by go_grown) hb3
  have hs3 := hB3.size
  clear hb3 hB2 hs2 Xb3_2 Xb4_2 Xb5_2 cc4 ll4 lm4_0
  have cc5 := Xb5_3.2.1
  have ll5 := Xb5_3.1
  have lm5_0 : w.heap.size < w3.heap.size := by have := ll5; omega
  have lm5_1 : w.heap.size + 1 < w3.heap.size := by have := ll5; omega
  go_wp2_with fail
  refine (H3.out _).mono ?_
  rintro e w4 ⟨rfl, hb4⟩
  have Xb3_4 : Box w4 w.heap.size #[.int .i64 s0, .int .i64 s1] := Box.below Xb3_3 hb4
  have Xb4_4 : Box w4 (w.heap.size + 1) #[.int .i64 n0, .int .i64 n1] := Box.below Xb4_3 hb4
  have Xb5_4 : Box w4 (w.heap.size + 1 + 1) #[.int .i64 v0, .int .i64 v1] := Box.below Xb5_3 hb4
  have hB4 : Below w.heap.size w w4 := stepB (by go_grown) hb4
  have hs4 := hB4.size
  clear hb4 hB3 hs3 Xb3_3 Xb4_3 Xb5_3 cc5 ll5 lm5_0 lm5_1
  have cc3 := Xb3_4.2.1
  have ll3 := Xb3_4.1
  have cc4 := Xb4_4.2.1
  have ll4 := Xb4_4.1
  have lm4_0 : w.heap.size < w4.heap.size := by have := ll4; omega
  have cc5 := Xb5_4.2.1
  have ll5 := Xb5_4.1
  have lm5_0 : w.heap.size < w4.heap.size := by have := ll5; omega
  have lm5_1 : w.heap.size + 1 < w4.heap.size := by have := ll5; omega
  go_wp2_with fail
  refine (HR.out _).mono ?_
  rintro e w5 ⟨rfl, hb5⟩
  have hB5 : Below w.heap.size w w5 := stepB (by go_grown) hb5
  have hs5 := hB5.size
  clear hb5 hB4 hs4 Xb3_4 Xb4_4 Xb5_4 cc3 ll3 cc4 ll4 lm4_0 cc5 ll5 lm5_0 lm5_1
  go_wp2_with fail
  refine (known_any _).mono ?_
  rintro e w6 ⟨rfl, hb6⟩
  have hB6 : Below w.heap.size w w6 := stepB (by go_grown) hb6
  have hs6 := hB6.size
  clear hb6 hB5 hs5
  go_wp2
  go_returns
  exact ⟨rfl, hB6⟩

set_option maxRecDepth 100000 in
set_option maxHeartbeats 4000000 in
theorem zgroups_walk (s0 s1 n0 n1 v0 v1 : Int) (w : World) (ws0 : (Lit.int .i64 s0).wf = true) (ws1 : (Lit.int .i64 s1).wf = true) (wn0 : (Lit.int .i64 n0).wf = true) (wn1 : (Lit.int .i64 n1).wf = true) (wv0 : (Lit.int .i64 v0).wf = true) (wv1 : (Lit.int .i64 v1).wf = true) :
    Calls Try.prog 9 #[.agg #[.int .i64 s0, .int .i64 s1], .agg #[.int .i64 n0, .int .i64 n1], .agg #[.int .i64 v0, .int .i64 v1]] w fun e w' => e = .returned (.bool true) ∧ Below w.heap.size w w' := by
  have HG := fun w => groups_any s0 s1 n0 n1 v0 v1 w
  have H1 := fun w => zspan_any s0 s1 0 20000000 w
  have H2 := fun w => zspan_any n0 n1 0 20000000 w
  have H3 := fun w => zspan_any v0 v1 (-40000000) 40000000 w
  have bad : spansB s0 s1 n0 n1 v0 v1 = false → groupsV s0 s1 n0 n1 v0 v1 = .tuple #[.int .i64 0, .int .i64 2] := fun hp => by unfold groupsV; rw [hp]; rfl
  cases h1 : vspan s0 s1 0 20000000
  · rw [h1] at H1
    rw [bad (by unfold spansB; rw [h1]; rfl)] at HG
    exact zgr_bad1 s0 s1 n0 n1 v0 v1 (Lib.hid HG) (Lib.hid H1) w
  cases h2 : vspan n0 n1 0 20000000
  · rw [h1] at H1
    rw [h2] at H2
    rw [bad (by unfold spansB; rw [h1, h2]; rfl)] at HG
    exact zgr_bad2 s0 s1 n0 n1 v0 v1 (Lib.hid HG) (Lib.hid H1) (Lib.hid H2) w
  cases h3 : vspan v0 v1 (-40000000) 40000000
  · rw [h1] at H1
    rw [h2] at H2
    rw [h3] at H3
    rw [bad (by unfold spansB; rw [h1, h2, h3]; rfl)] at HG
    exact zgr_bad3 s0 s1 n0 n1 v0 v1 (Lib.hid HG) (Lib.hid H1) (Lib.hid H2) (Lib.hid H3) w
  rw [h1] at H1
  rw [h2] at H2
  rw [h3] at H3
  have good : groupsV s0 s1 n0 n1 v0 v1 = groupsW s0 s1 n0 n1 v0 v1 := by unfold groupsV spansB; rw [h1, h2, h3]; rfl
  rw [good] at HG
  obtain ⟨a0, a1, a2⟩ := (vspan_iff _ _ _ _).1 h1
  obtain ⟨b0, b1, b2⟩ := (vspan_iff _ _ _ _).1 h2
  have HR := fun w => rgroups_any s0 s1 n0 n1 v0 v1 w a0 a1 a2 b0 b1 b2
  unfold groupsW at HG
  unfold groupsRV at HR
  cases hg : groupsN s0 s1 n0 n1 v0 v1 with
  | none =>
    rw [hg] at HG HR
    exact zgr_none s0 s1 n0 n1 v0 v1 (Lib.hid HG) (Lib.hid H1) (Lib.hid H2) (Lib.hid H3) (Lib.hid HR) w
  | some n =>
    rw [hg] at HG HR
    exact zgr_some s0 s1 n0 n1 v0 v1 n (Lib.hid HG) (Lib.hid H1) (Lib.hid H2) (Lib.hid H3) (Lib.hid HR) w

theorem zgroups_own : ownKnob Try.prog.godebug = none := by kernel_rfl
theorem zgroups_laidOut : laidOutB Try.prog = true := by kernel_rfl

set_option maxRecDepth 100000 in
theorem zgroups_lifted (os : Os) (started : os.Started) (H : Type) (enc : TypeId × Value → H) :
    ReturnsInHanded {} Try.checked os 9 .any (Rows.zoneGroupsSpec.pre6 enc Try.prog Try.f9 Rows.zoneGroupsRow.domain false) (Rows.zoneGroupsSpec.post enc Try.prog Try.f9 false true false false) := by
  refine returnsInHanded_of_change (C := Try.checked) zgroups_own started (by kernel_rfl) Try.func9
    (ChangeSpec.witness6 (enc := enc) (C := Try.checked) false ⟨#[], #[.agg #[.int .i64 0, .int .i64 0], .agg #[.int .i64 0, .int .i64 0], .agg #[.int .i64 0, .int .i64 0]], []⟩ 8 (by kernel_rfl) (by kernel_rfl) (by kernel_rfl) (by kernel_rfl)) ?_
  intro W base args ds gs before hval0 hW hcnd _
  have hval : ∀ (j : Nat) t v, Try.f9.params[j]? = some t → args[j]? = some v → Value.okWide Try.prog W .any base t v := hval0
  have hW' := hW
  obtain ⟨p, q, hA0, hV, rfl, hfz, hnd⟩ := hW
  have hA : DataW.TrodAll enc Try.prog W 0 (fun _ => true) true Try.f9.params.toList args.toList ds p := hA0
  rw [Try.params9] at hA hval
  obtain ⟨v0, vs0, d0, ds0, p0, q0, hargs, rfl, rfl, h0, r0⟩ := trodAll_cons hA
  obtain ⟨v1, vs1, d1, ds1, p1, q1, rfl, rfl, rfl, h1, r1⟩ := trodAll_cons r0
  obtain ⟨v2, vs2, d2, ds2, p2, q2, rfl, rfl, rfl, h2, r2⟩ := trodAll_cons r1
  obtain ⟨rfl, rfl, rfl⟩ := trodAll_nil r2
  obtain rfl : args = #[v0, v1, v2] := by cases args; simp_all
  obtain ⟨rfl, rfl⟩ := trodVars_none hV
  have k0 := h0
  have lt0 : ∀ x ∈ p0, x.block < W.heap.size := by obtain ⟨m, hm⟩ := k0; exact DataW.trod_lt m _ _ _ hm
  have k1 := h1
  have lt1 : ∀ x ∈ p1, x.block < W.heap.size := by obtain ⟨m, hm⟩ := k1; exact DataW.trod_lt m _ _ _ hm
  have k2 := h2
  have lt2 : ∀ x ∈ p2, x.block < W.heap.size := by obtain ⟨m, hm⟩ := k2; exact DataW.trod_lt m _ _ _ hm
  obtain ⟨s0, s1, rfl, ws0, ws1⟩ := open_span (hval 0 24 v0 rfl rfl) h0
  obtain ⟨n0, n1, rfl, wn0, wn1⟩ := open_span (hval 1 24 v1 rfl rfl) h1
  obtain ⟨v0, v1, rfl, wv0, wv1⟩ := open_span (hval 2 24 v2 rfl rfl) h2
  clear hA0 hval0
  refine (zgroups_walk s0 s1 n0 n1 v0 v1 W ws0 ws1 wn0 wn1 wv0 wv1).mono fun e W' ⟨he, bel⟩ => ?_
  subst he
  exact ⟨_, rfl, _, _, _, [], _, [], hW', trodAll_mk1 (shut_bool Try.underlying4 _), (trodAll_cons_mk (Below.trod zgroups_laidOut (by kernel_rfl) (of_decide_eq_true (by kernel_rfl)) k0 bel lt0) (trodAll_cons_mk (Below.trod zgroups_laidOut (by kernel_rfl) (of_decide_eq_true (by kernel_rfl)) k1 bel lt1) (trodAll_cons_mk (Below.trod zgroups_laidOut (by kernel_rfl) (of_decide_eq_true (by kernel_rfl)) k2 bel lt2) trodAll_mk0))), rfl, bel.frame _, fun h => by cases h⟩

theorem zgroups_over : Rows.zoneGroupsRow.holds Try.pinned (OpenSpec.ofChange Rows.zoneGroupsSpec) :=
  OpenClaim.holds_of_wide 9 Try.f9 rfl rfl rfl rfl rfl rfl rfl ⟨rfl, rfl, rfl, rfl, rfl⟩ rfl rfl rfl rfl rfl (by kernel_rfl) Try.func9 (by kernel_rfl)
    (of_decide_eq_true (by kernel_rfl)) (by unfold Func.isWrapper; rw [if_neg (of_decide_eq_false (by kernel_rfl))]; exact ⟨rfl, rfl⟩)
    (fun os started H enc _ => zgroups_lifted os started H enc)

theorem zgroups_proved : Rows.ZoneGroupsSaid := zgroups_over
#print axioms zgroups_proved
end Go.Proofs.Ytpmeahmjmpgbfaa
