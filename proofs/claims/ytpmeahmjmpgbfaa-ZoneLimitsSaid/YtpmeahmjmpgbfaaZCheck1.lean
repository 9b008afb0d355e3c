/- Ways of zone.Check. Made by tools/gen_zcheck.py. -/
import Derived.Test.YtpmeahmjmpgbfaaZCheck
namespace Go.Proofs.Ytpmeahmjmpgbfaa
open Go.RowKit
set_option linter.unusedVariables false
set_option linter.unusedSimpArgs false

set_option maxRecDepth 100000 in
set_option maxHeartbeats 2000000 in
theorem zcheck_a (w : World) (ss : List Int) (gs ps : List (List Int)) (sa ga pa : Option Addr) (sc gc pc : Nat) (HL1 : Hid (∀ (W : World) (b : Nat), Below w.heap.size w W → b < W.heap.size → W.cell? ⟨b, 0, none⟩ = some (.slice sa ss.length sc) → Calls Try.prog 89 #[.int .i64 20, .slice (some ⟨b, 0, none⟩) 1 1] W fun e w' => e = .returned (.bool true) ∧ Below W.heap.size W w')) :
    Calls Try.prog 29 #[.agg #[.slice sa ss.length sc, .slice ga gs.length gc, .slice pa ps.length pc]] w fun e w' => e = .returned (.int .i64 5) ∧ Below w.heap.size w w' := by
  go_enter Try.func29, Try.ntmps29
  go_wp2_with fail
  refine (HL1.out _ _ (by go_grown) (by simp) (by go_cell)).mono ?_
  rintro e w1 ⟨rfl, hb1⟩
  have hB1 : Below w.heap.size w w1 := stepB (by go_grown) hb1
  have hs1 := hB1.size
  clear hb1
  go_wp2
  go_returns
  exact ⟨rfl, hB1⟩

set_option maxRecDepth 100000 in
set_option maxHeartbeats 2000000 in
theorem zcheck_b (w : World) (ss : List Int) (gs ps : List (List Int)) (sa ga pa : Option Addr) (sc gc pc : Nat) (HL1 : Hid (∀ (W : World) (b : Nat), Below w.heap.size w W → b < W.heap.size → W.cell? ⟨b, 0, none⟩ = some (.slice sa ss.length sc) → Calls Try.prog 89 #[.int .i64 20, .slice (some ⟨b, 0, none⟩) 1 1] W fun e w' => e = .returned (.bool false) ∧ Below W.heap.size W w')) (HL2 : Hid (∀ (W : World) (b : Nat), Below w.heap.size w W → b < W.heap.size → W.cell? ⟨b, 0, none⟩ = some (.slice ga gs.length gc) → W.cell? ⟨b, 1, none⟩ = some (.slice pa ps.length pc) → Calls Try.prog 90 #[.int .i64 12, .slice (some ⟨b, 0, none⟩) 2 2] W fun e w' => e = .returned (.bool true) ∧ Below W.heap.size W w')) :
    Calls Try.prog 29 #[.agg #[.slice sa ss.length sc, .slice ga gs.length gc, .slice pa ps.length pc]] w fun e w' => e = .returned (.int .i64 5) ∧ Below w.heap.size w w' := by
  go_enter Try.func29, Try.ntmps29
  go_wp2_with fail
  refine (HL1.out _ _ (by go_grown) (by simp) (by go_cell)).mono ?_
  rintro e w1 ⟨rfl, hb1⟩
  have Xb1_1 : Box w1 w.heap.size #[.slice sa ss.length sc, .slice ga gs.length gc, .slice pa ps.length pc] := Box.below (Box.alloc (Box.new w _ _) _) hb1
  have hB1 : Below w.heap.size w w1 := stepB (by go_grown) hb1
  have hs1 := hB1.size
  clear hb1
  have cc1 := Xb1_1.2.1
  have ll1 := Xb1_1.1
  go_wp2_with fail
  refine (HL2.out _ _ (by go_grown) (by simp) (by go_cell) (by go_cell)).mono ?_
  rintro e w2 ⟨rfl, hb2⟩
  have hB2 : Below w.heap.size w w2 := stepB (by go_grown) hb2
  have hs2 := hB2.size
  clear hb2 hB1 hs1 Xb1_1 cc1 ll1
  go_wp2
  go_returns
  exact ⟨rfl, hB2⟩

set_option maxRecDepth 100000 in
set_option maxHeartbeats 2000000 in
theorem zcheck_c (w : World) (ss : List Int) (gs ps : List (List Int)) (sa ga pa : Option Addr) (sc gc pc : Nat) (HL1 : Hid (∀ (W : World) (b : Nat), Below w.heap.size w W → b < W.heap.size → W.cell? ⟨b, 0, none⟩ = some (.slice sa ss.length sc) → Calls Try.prog 89 #[.int .i64 20, .slice (some ⟨b, 0, none⟩) 1 1] W fun e w' => e = .returned (.bool false) ∧ Below W.heap.size W w')) (HL2 : Hid (∀ (W : World) (b : Nat), Below w.heap.size w W → b < W.heap.size → W.cell? ⟨b, 0, none⟩ = some (.slice ga gs.length gc) → W.cell? ⟨b, 1, none⟩ = some (.slice pa ps.length pc) → Calls Try.prog 90 #[.int .i64 12, .slice (some ⟨b, 0, none⟩) 2 2] W fun e w' => e = .returned (.bool false) ∧ Below W.heap.size W w')) (HF : Hid (∀ W : World, Below w.heap.size w W → Calls Try.prog 91 #[.agg #[.slice sa ss.length sc, .slice ga gs.length gc, .slice pa ps.length pc]] W fun e w' => e = .returned (.bool false) ∧ Below W.heap.size W w')) :
    Calls Try.prog 29 #[.agg #[.slice sa ss.length sc, .slice ga gs.length gc, .slice pa ps.length pc]] w fun e w' => e = .returned (.int .i64 4) ∧ Below w.heap.size w w' := by
  go_enter Try.func29, Try.ntmps29
  go_wp2_with fail
  refine (HL1.out _ _ (by go_grown) (by simp) (by go_cell)).mono ?_
  rintro e w1 ⟨rfl, hb1⟩
  have Xb1_1 : Box w1 w.heap.size #[.slice sa ss.length sc, .slice ga gs.length gc, .slice pa ps.length pc] := Box.below (Box.alloc (Box.new w _ _) _) hb1
  have hB1 : Below w.heap.size w w1 := stepB (by go_grown) hb1
  have hs1 := hB1.size
  clear hb1
  have cc1 := Xb1_1.2.1
  have ll1 := Xb1_1.1
  go_wp2_with fail
  refine (HL2.out _ _ (by go_grown) (by simp) (by go_cell) (by go_cell)).mono ?_
  rintro e w2 ⟨rfl, hb2⟩
  have Xb1_2 : Box w2 w.heap.size #[.slice sa ss.length sc, .slice ga gs.length gc, .slice pa ps.length pc] := Box.below (Box.alloc Xb1_1 _) hb2
  have hB2 : Below w.heap.size w w2 := stepB (by go_grown) hb2
  have hs2 := hB2.size
  clear hb2 hB1 hs1 Xb1_1 cc1 ll1
  have cc1 := Xb1_2.2.1
  have ll1 := Xb1_2.1
  go_wp2_with fail
  refine (HF.out _ (by go_grown)).mono ?_
  rintro e w3 ⟨rfl, hb3⟩
  have hB3 : Below w.heap.size w w3 := stepB (by go_grown) hb3
  have hs3 := hB3.size
  clear hb3 hB2 hs2 Xb1_2 cc1 ll1
  go_wp2
  go_returns
  exact ⟨rfl, hB3⟩

set_option maxRecDepth 100000 in
set_option maxHeartbeats 2000000 in
theorem zcheck_d (w : World) (ss : List Int) (gs ps : List (List Int)) (sa ga pa : Option Addr) (sc gc pc : Nat) (HL1 : Hid (∀ (W : World) (b : Nat), Below w.heap.size w W → b < W.heap.size → W.cell? ⟨b, 0, none⟩ = some (.slice sa ss.length sc) → Calls Try.prog 89 #[.int .i64 20, .slice (some ⟨b, 0, none⟩) 1 1] W fun e w' => e = .returned (.bool false) ∧ Below W.heap.size W w')) (HL2 : Hid (∀ (W : World) (b : Nat), Below w.heap.size w W → b < W.heap.size → W.cell? ⟨b, 0, none⟩ = some (.slice ga gs.length gc) → W.cell? ⟨b, 1, none⟩ = some (.slice pa ps.length pc) → Calls Try.prog 90 #[.int .i64 12, .slice (some ⟨b, 0, none⟩) 2 2] W fun e w' => e = .returned (.bool false) ∧ Below W.heap.size W w')) (HF : Hid (∀ W : World, Below w.heap.size w W → Calls Try.prog 91 #[.agg #[.slice sa ss.length sc, .slice ga gs.length gc, .slice pa ps.length pc]] W fun e w' => e = .returned (.bool true) ∧ Below W.heap.size W w')) (HS : Hid (∀ W : World, Below w.heap.size w W → Calls Try.prog 92 #[.slice sa ss.length sc] W fun e w' => e = .returned (.bool false) ∧ Below W.heap.size W w')) :
    Calls Try.prog 29 #[.agg #[.slice sa ss.length sc, .slice ga gs.length gc, .slice pa ps.length pc]] w fun e w' => e = .returned (.int .i64 2) ∧ Below w.heap.size w w' := by
  go_enter Try.func29, Try.ntmps29
  go_wp2_with fail
  refine (HL1.out _ _ (by go_grown) (by simp) (by go_cell)).mono ?_
  rintro e w1 ⟨rfl, hb1⟩
  have Xb1_1 : Box w1 w.heap.size #[.slice sa ss.length sc, .slice ga gs.length gc, .slice pa ps.length pc] := Box.below (Box.alloc (Box.new w _ _) _) hb1
  have hB1 : Below w.heap.size w w1 := stepB (by go_grown) hb1
  have hs1 := hB1.size
  clear hb1
  have cc1 := Xb1_1.2.1
  have ll1 := Xb1_1.1
  go_wp2_with fail
  refine (HL2.out _ _ (by go_grown) (by simp) (by go_cell) (by go_cell)).mono ?_
  rintro e w2 ⟨rfl, hb2⟩
  have Xb1_2 : Box w2 w.heap.size #[.slice sa ss.length sc, .slice ga gs.length gc, .slice pa ps.length pc] := Box.below (Box.alloc Xb1_1 _) hb2
  have hB2 : Below w.heap.size w w2 := stepB (by go_grown) hb2
  have hs2 := hB2.size
  clear hb2 hB1 hs1 Xb1_1 cc1 ll1
  have cc1 := Xb1_2.2.1
  have ll1 := Xb1_2.1
  go_wp2_with fail
  refine (HF.out _ (by go_grown)).mono ?_
  rintro e w3 ⟨rfl, hb3⟩
  have Xb1_3 : Box w3 w.heap.size #[.slice sa ss.length sc, .slice ga gs.length gc, .slice pa ps.length pc] := Box.below Xb1_2 hb3
  have hB3 : Below w.heap.size w w3 := stepB (by go_grown) hb3
  have hs3 := hB3.size
  clear hb3 hB2 hs2 Xb1_2 cc1 ll1
  have cc1 := Xb1_3.2.1
  have ll1 := Xb1_3.1
  go_wp2_with fail
  refine (HS.out _ (by go_grown)).mono ?_
  rintro e w4 ⟨rfl, hb4⟩
  have hB4 : Below w.heap.size w w4 := stepB (by go_grown) hb4
  have hs4 := hB4.size
  clear hb4 hB3 hs3 Xb1_3 cc1 ll1
  go_wp2
  go_returns
  exact ⟨rfl, hB4⟩

set_option maxRecDepth 100000 in
set_option maxHeartbeats 2000000 in
theorem zcheck_e (w : World) (ss : List Int) (gs ps : List (List Int)) (sa ga pa : Option Addr) (sc gc pc : Nat) (HL1 : Hid (∀ (W : World) (b : Nat), Below w.heap.size w W → b < W.heap.size → W.cell? ⟨b, 0, none⟩ = some (.slice sa ss.length sc) → Calls Try.prog 89 #[.int .i64 20, .slice (some ⟨b, 0, none⟩) 1 1] W fun e w' => e = .returned (.bool false) ∧ Below W.heap.size W w')) (HL2 : Hid (∀ (W : World) (b : Nat), Below w.heap.size w W → b < W.heap.size → W.cell? ⟨b, 0, none⟩ = some (.slice ga gs.length gc) → W.cell? ⟨b, 1, none⟩ = some (.slice pa ps.length pc) → Calls Try.prog 90 #[.int .i64 12, .slice (some ⟨b, 0, none⟩) 2 2] W fun e w' => e = .returned (.bool false) ∧ Below W.heap.size W w')) (HF : Hid (∀ W : World, Below w.heap.size w W → Calls Try.prog 91 #[.agg #[.slice sa ss.length sc, .slice ga gs.length gc, .slice pa ps.length pc]] W fun e w' => e = .returned (.bool true) ∧ Below W.heap.size W w')) (HS : Hid (∀ W : World, Below w.heap.size w W → Calls Try.prog 92 #[.slice sa ss.length sc] W fun e w' => e = .returned (.bool true) ∧ Below W.heap.size W w')) (HR : Hid (∀ W : World, Below w.heap.size w W → Calls Try.prog 93 #[.agg #[.slice sa ss.length sc, .slice ga gs.length gc, .slice pa ps.length pc]] W fun e w' => e = .returned (.bool false) ∧ Below W.heap.size W w')) :
    Calls Try.prog 29 #[.agg #[.slice sa ss.length sc, .slice ga gs.length gc, .slice pa ps.length pc]] w fun e w' => e = .returned (.int .i64 2) ∧ Below w.heap.size w w' := by
  go_enter Try.func29, Try.ntmps29
  go_wp2_with fail
  refine (HL1.out _ _ (by go_grown) (by simp) (by go_cell)).mono ?_
  rintro e w1 ⟨rfl, hb1⟩
  have Xb1_1 : Box w1 w.heap.size #[.slice sa ss.length sc, .slice ga gs.length gc, .slice pa ps.length pc] := Box.below (Box.alloc (Box.new w _ _) _) hb1
  have hB1 : Below w.heap.size w w1 := stepB (by go_grown) hb1
  have hs1 := hB1.size
  clear hb1
  have cc1 := Xb1_1.2.1
  have ll1 := Xb1_1.1
  go_wp2_with fail
  refine (HL2.out _ _ (by go_grown) (by simp) (by go_cell) (by go_cell)).mono ?_
  rintro e w2 ⟨rfl, hb2⟩
  have Xb1_2 : Box w2 w.heap.size #[.slice sa ss.length sc, .slice ga gs.length gc, .slice pa ps.length pc] := Box.below (Box.alloc Xb1_1 _) hb2
  have hB2 : Below w.heap.size w w2 := stepB (by go_grown) hb2
  have hs2 := hB2.size
  clear hb2 hB1 hs1 Xb1_1 cc1 ll1
  have cc1 := Xb1_2.2.1
  have ll1 := Xb1_2.1
  go_wp2_with fail
  refine (HF.out _ (by go_grown)).mono ?_
  rintro e w3 ⟨rfl, hb3⟩
  have Xb1_3 : Box w3 w.heap.size #[.slice sa ss.length sc, .slice ga gs.length gc, .slice pa ps.length pc] := Box.below Xb1_2 hb3
  have hB3 : Below w.heap.size w w3 := stepB (by go_grown) hb3
  have hs3 := hB3.size
  clear hb3 hB2 hs2 Xb1_2 cc1 ll1
  have cc1 := Xb1_3.2.1
  have ll1 := Xb1_3.1
  go_wp2_with fail
  refine (HS.out _ (by go_grown)).mono ?_
  rintro e w4 ⟨rfl, hb4⟩
  have Xb1_4 : Box w4 w.heap.size #[.slice sa ss.length sc, .slice ga gs.length gc, .slice pa ps.length pc] := Box.below Xb1_3 hb4
  have hB4 : Below w.heap.size w w4 := stepB (by go_grown) hb4
  have hs4 := hB4.size
  clear hb4 hB3 hs3 Xb1_3 cc1 ll1
  have cc1 := Xb1_4.2.1
  have ll1 := Xb1_4.1
  go_wp2_with fail
  refine (HR.out _ (by go_grown)).mono ?_
  rintro e w5 ⟨rfl, hb5⟩
  have hB5 : Below w.heap.size w w5 := stepB (by go_grown) hb5
  have hs5 := hB5.size
  clear hb5 hB4 hs4 Xb1_4 cc1 ll1
  go_wp2
  go_returns
  exact ⟨rfl, hB5⟩

set_option maxRecDepth 100000 in
set_option maxHeartbeats 2000000 in
theorem zcheck_f (w : World) (ss : List Int) (gs ps : List (List Int)) (sa ga pa : Option Addr) (sc gc pc : Nat) (HL1 : Hid (∀ (W : World) (b : Nat), Below w.heap.size w W → b < W.heap.size → W.cell? ⟨b, 0, none⟩ = some (.slice sa ss.length sc) → Calls Try.prog 89 #[.int .i64 20, .slice (some ⟨b, 0, none⟩) 1 1] W fun e w' => e = .returned (.bool false) ∧ Below W.heap.size W w')) (HL2 : Hid (∀ (W : World) (b : Nat), Below w.heap.size w W → b < W.heap.size → W.cell? ⟨b, 0, none⟩ = some (.slice ga gs.length gc) → W.cell? ⟨b, 1, none⟩ = some (.slice pa ps.length pc) → Calls Try.prog 90 #[.int .i64 12, .slice (some ⟨b, 0, none⟩) 2 2] W fun e w' => e = .returned (.bool false) ∧ Below W.heap.size W w')) (HF : Hid (∀ W : World, Below w.heap.size w W → Calls Try.prog 91 #[.agg #[.slice sa ss.length sc, .slice ga gs.length gc, .slice pa ps.length pc]] W fun e w' => e = .returned (.bool true) ∧ Below W.heap.size W w')) (HS : Hid (∀ W : World, Below w.heap.size w W → Calls Try.prog 92 #[.slice sa ss.length sc] W fun e w' => e = .returned (.bool true) ∧ Below W.heap.size W w')) (HR : Hid (∀ W : World, Below w.heap.size w W → Calls Try.prog 93 #[.agg #[.slice sa ss.length sc, .slice ga gs.length gc, .slice pa ps.length pc]] W fun e w' => e = .returned (.bool true) ∧ Below W.heap.size W w')) :
    Calls Try.prog 29 #[.agg #[.slice sa ss.length sc, .slice ga gs.length gc, .slice pa ps.length pc]] w fun e w' => e = .returned (.int .i64 0) ∧ Below w.heap.size w w' := by
  go_enter Try.func29, Try.ntmps29
  go_wp2_with fail
  refine (HL1.out _ _ (by go_grown) (by simp) (by go_cell)).mono ?_
  rintro e w1 ⟨rfl, hb1⟩
  have Xb1_1 : Box w1 w.heap.size #[.slice sa ss.length sc, .slice ga gs.length gc, .slice pa ps.length pc] := Box.below (Box.alloc (Box.new w _ _) _) hb1
  have hB1 : Below w.heap.size w w1 := stepB (by go_grown) hb1
  have hs1 := hB1.size
  clear hb1
  have cc1 := Xb1_1.2.1
  have ll1 := Xb1_1.1
  go_wp2_with fail
  refine (HL2.out _ _ (by go_grown) (by simp) (by go_cell) (by go_cell)).mono ?_
  rintro e w2 ⟨rfl, hb2⟩
  have Xb1_2 : Box w2 w.heap.size #[.slice sa ss.length sc, .slice ga gs.length gc, .slice pa ps.length pc] := Box.below (Box.alloc Xb1_1 _) hb2
  have hB2 : Below w.heap.size w w2 := stepB (by go_grown) hb2
  have hs2 := hB2.size
  clear hb2 hB1 hs1 Xb1_1 cc1 ll1
  have cc1 := Xb1_2.2.1
  have ll1 := Xb1_2.1
  go_wp2_with fail
  refine (HF.out _ (by go_grown)).mono ?_
  rintro e w3 ⟨rfl, hb3⟩
  have Xb1_3 : Box w3 w.heap.size #[.slice sa ss.length sc, .slice ga gs.length gc, .slice pa ps.length pc] := Box.below Xb1_2 hb3
  have hB3 : Below w.heap.size w w3 := stepB (by go_grown) hb3
  have hs3 := hB3.size
  clear hb3 hB2 hs2 Xb1_2 cc1 ll1
  have cc1 := Xb1_3.2.1
  have ll1 := Xb1_3.1
  go_wp2_with fail
  refine (HS.out _ (by go_grown)).mono ?_
  rintro e w4 ⟨rfl, hb4⟩
  have Xb1_4 : Box w4 w.heap.size #[.slice sa ss.length sc, .slice ga gs.length gc, .slice pa ps.length pc] := Box.below Xb1_3 hb4
  have hB4 : Below w.heap.size w w4 := stepB (by go_grown) hb4
  have hs4 := hB4.size
  clear hb4 hB3 hs3 Xb1_3 cc1 ll1
  have cc1 := Xb1_4.2.1
  have ll1 := Xb1_4.1
  go_wp2_with fail
  refine (HR.out _ (by go_grown)).mono ?_
  rintro e w5 ⟨rfl, hb5⟩
  have hB5 : Below w.heap.size w w5 := stepB (by go_grown) hb5
  have hs5 := hB5.size
  clear hb5 hB4 hs4 Xb1_4 cc1 ll1
  go_wp2
  go_returns
  exact ⟨rfl, hB5⟩

end Go.Proofs.Ytpmeahmjmpgbfaa
