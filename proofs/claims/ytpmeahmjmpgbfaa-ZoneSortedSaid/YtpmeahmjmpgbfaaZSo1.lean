/- ZoneSorted: the way without groups. Made by tools/gen_zslaw.py. -/
import Derived.Test.YtpmeahmjmpgbfaaZSo2
import Derived.Deep.DeepCutAuto
namespace Go.Proofs.Ytpmeahmjmpgbfaa
open Go.ChangeShapes Go.WideShapes Go.ChangeAt Go.RowKit
set_option linter.unusedVariables false
set_option linter.unusedSimpArgs false

set_option maxRecDepth 100000 in
set_option maxHeartbeats 16000000 in
theorem zso_none (F : Nat → Int) (a0 a1 x0 x1 v0 v1 v2 v3 : Int) (A0 : IntKind.i64.wrap (a0) = a0) (A0s : IntKind.i64.wrap (1000 + a0) = F 0) (W0 : IntKind.i64.wrap (x0) = x0) (R0 : x0.tmod 300 = F 11) (R0e : x0 % 300 = F 11) (R0w : IntKind.i64.wrap (F 11) = F 11) (S1 : IntKind.i64.wrap (F 0 + F 11) = F 1) (A1 : IntKind.i64.wrap (a1) = a1) (A1s : IntKind.i64.wrap (1000 + a1) = F 2) (W1 : IntKind.i64.wrap (x1) = x1) (R1 : x1.tmod 300 = F 12) (R1e : x1 % 300 = F 12) (R1w : IntKind.i64.wrap (F 12) = F 12) (N1 : IntKind.i64.wrap (F 2 + F 12) = F 3) (D1 : IntKind.i64.wrap (F 3 - F 2) = F 3 - F 2) (Q1 : (F 3 - F 2).tdiv 2 = F 14) (Q1w : IntKind.i64.wrap (F 14) = F 14) (D2 : IntKind.i64.wrap (F 2 + F 14) = F 15) (D3 : IntKind.i64.wrap (F 15 - F 0) = F 16) (D4 : IntKind.i64.wrap (F 1 - F 0) = F 1 - F 0) (Q2 : (F 1 - F 0).tdiv 2 = F 17) (Q2w : IntKind.i64.wrap (F 17) = F 17) (D5 : IntKind.i64.wrap (F 16 - F 17) = F 4) (V0 : IntKind.i64.wrap (v0) = v0) (V1 : IntKind.i64.wrap (v1) = v1) (V2 : IntKind.i64.wrap (v2) = v2) (V3 : IntKind.i64.wrap (v3) = v3) (D6 : IntKind.i64.wrap (F 4 - v0) = F 5) (D7 : IntKind.i64.wrap (F 4 + v1) = F 6) (HBD : Hid (0 ≤ F 0 ∧ F 0 ≤ F 1 ∧ F 1 ≤ 20000000 ∧ 0 ≤ F 2 ∧ F 2 ≤ F 3 ∧ F 3 ≤ 20000000)) (HG : Hid (∀ w : World, Calls Try.prog 55 #[.agg #[.int .i64 (F 0), .int .i64 (F 1)], .agg #[.int .i64 (F 2), .int .i64 (F 3)], .agg #[.int .i64 (F 5), .int .i64 (F 6)]] w fun e w' => e = .returned (.tuple #[.int .i64 0, .int .i64 7]) ∧ Below w.heap.size w w')) (HN : Hid (∀ k : Nat, 1 ≤ k → k ≤ 50 → sortedB (F 0) (F 1) (F 2) (F 3) (F 5) (F 6) k = false)) (w : World) :
    Calls Try.prog 13 #[.agg #[.int .u8 a0, .int .u8 a1], .agg #[.int .u16 x0, .int .u16 x1], .agg #[.int .u8 v0, .int .u8 v1, .int .u8 v2, .int .u8 v3]] w fun e w' => e = .returned (.bool true) ∧ Below w.heap.size w w' := by
  go_enter Try.func13, Try.ntmps13
  go_wp2_with fail
  refine (lspan_any (F 0) (F 1) _).mono ?_
  rintro e w1 ⟨rfl, hb1⟩
  have Xb3_1 : Box w1 w.heap.size #[.int .u8 a0, .int .u8 a1] := Box.below (Box.alloc (Box.alloc (Box.new w _ _) _) _) hb1
  have Xb4_1 : Box w1 (w.heap.size + 1) #[.int .u16 x0, .int .u16 x1] := Box.below (Box.alloc (Box.newAt (w.alloc _) _ _ (by simp)) _) hb1
  have Xb5_1 : Box w1 (w.heap.size + 1 + 1) #[.int .u8 v0, .int .u8 v1, .int .u8 v2, .int .u8 v3] := Box.below (Box.newAt ((w.alloc _).alloc _) _ _ (by simp)) hb1
  have hB1 : Below w.heap.size w w1 := stepB (by go_grown) hb1
  have hs1 := hB1.size
  clear hb1
  have cc3 := Xb3_1.2.1
  have ll3 := Xb3_1.1
  have cc4 := Xb4_1.2.1
  have ll4 := Xb4_1.1
  have lm4_0 : w.heap.size < w1.heap.size := by have := ll4; omega
  go_wp2_with fail
  refine (lspan_any (F 2) (F 3) _).mono ?_
  rintro e w2 ⟨rfl, hb2⟩
  have Xb5_2 : Box w2 (w.heap.size + 1 + 1) #[.int .u8 v0, .int .u8 v1, .int .u8 v2, .int .u8 v3] := Box.below (Box.alloc Xb5_1 _) hb2
  have Xb7_2 : Box w2 w1.heap.size #[.int .i64 (F 0), .int .i64 (F 1)] := Box.below (Box.new w1 _ _) hb2
  have hB2 : Below w.heap.size w w2 := stepB (by go_grown) hb2
  have hs2 := hB2.size
  clear hb2 hB1 hs1 Xb3_1 Xb4_1 Xb5_1 cc3 ll3 cc4 ll4 lm4_0
  have cc5 := Xb5_2.2.1
  have ll5 := Xb5_2.1
  have lm5_0 : w.heap.size < w2.heap.size := by have := ll5; omega
  have lm5_1 : w.heap.size + 1 < w2.heap.size := by have := ll5; omega
  have cc7 := Xb7_2.2.1
  have ll7 := Xb7_2.1
  go_wp2_with fail
  refine (lspan_any (F 5) (F 6) _).mono ?_
  rintro e w3 ⟨rfl, hb3⟩
  have Xb5_3 : Box w3 (w.heap.size + 1 + 1) #[.int .u8 v0, .int .u8 v1, .int .u8 v2, .int .u8 v3] := Box.below (Box.alloc Xb5_2 _) hb3
  have Xb7_3 : Box w3 w1.heap.size #[.int .i64 (F 0), .int .i64 (F 1)] := Box.below (Box.alloc Xb7_2 _) hb3
  have Xb8_3 : Box w3 w2.heap.size #[.int .i64 (F 2), .int .i64 (F 3)] := Box.below (Box.new w2 _ _) hb3
  have hB3 : Below w.heap.size w w3 := stepB (by go_grown) hb3
  have hs3 := hB3.size
  clear hb3 hB2 hs2 Xb5_2 Xb7_2 cc5 ll5 lm5_0 lm5_1 cc7 ll7
  have cc7 := Xb7_3.2.1
  have ll7 := Xb7_3.1
  have cc8 := Xb8_3.2.1
  have ll8 := Xb8_3.1
  go_wp2_with fail
  refine (HG.out _).mono ?_
  rintro e w4 ⟨rfl, hb4⟩
  have Xb5_4 : Box w4 (w.heap.size + 1 + 1) #[.int .u8 v0, .int .u8 v1, .int .u8 v2, .int .u8 v3] := Box.below (Box.alloc Xb5_3 _) hb4
  have Xb7_4 : Box w4 w1.heap.size #[.int .i64 (F 0), .int .i64 (F 1)] := Box.below (Box.alloc Xb7_3 _) hb4
  have Xb8_4 : Box w4 w2.heap.size #[.int .i64 (F 2), .int .i64 (F 3)] := Box.below (Box.alloc Xb8_3 _) hb4
  have Xb10_4 : Box w4 w3.heap.size #[.int .i64 (F 5), .int .i64 (F 6)] := Box.below (Box.new w3 _ _) hb4
  have hB4 : Below w.heap.size w w4 := stepB (by go_grown) hb4
  have hs4 := hB4.size
  clear hb4 hB3 hs3 Xb5_3 Xb7_3 Xb8_3 cc7 ll7 cc8 ll8
  have cc7 := Xb7_4.2.1
  have ll7 := Xb7_4.1
  have cc8 := Xb8_4.2.1
  have ll8 := Xb8_4.1
  have cc10 := Xb10_4.2.1
  have ll10 := Xb10_4.1
  go_wp2
  go_loopw [16] (fun i wr => ∃ k : Nat, 1 ≤ k ∧ k ≤ 51 ∧ i = .int .i64 k ∧ Box wr (w.heap.size + 1 + 1) #[.int .u8 v0, .int .u8 v1, .int .u8 v2, .int .u8 v3] ∧ Box wr w1.heap.size #[.int .i64 (F 0), .int .i64 (F 1)] ∧ Box wr w2.heap.size #[.int .i64 (F 2), .int .i64 (F 3)] ∧ Box wr w3.heap.size #[.int .i64 (F 5), .int .i64 (F 6)] ∧ Box wr w4.heap.size #[.func (.func 64) #[] #[]] ∧ Below w.heap.size w wr) (fun i _ => 51 - (intOf i).toNat)
  case atStart => exact ⟨1, by omega, by omega, rfl, (Box.alloc Xb5_4 _), (Box.alloc Xb7_4 _), (Box.alloc Xb8_4 _), (Box.alloc Xb10_4 _), (Box.new w4 _ _), by go_grown⟩
  case round =>
    clear Xb5_4 Xb7_4 Xb8_4 Xb10_4 cc7 ll7 cc8 ll8 cc10 ll10 hB4 hs4
    obtain ⟨k, hk1, hk2, rfl, X5, X7, X8, X10, X14, hBr⟩ := hrel
    have hsr := hBr.size
    by_cases hlt : k ≤ 50
    · have hsk := HN.out k (by omega) hlt
      by_cases hlt2 : k < 50
      · have hlt3 : (k : Int) < 50 := by omega
        go_wp2_with fail
        refine (good_any (F 0) (F 1) (F 2) (F 3) (F 5) (F 6) k _ _ _ _ _ (by omega) (by omega) HBD.out.1 HBD.out.2.1 HBD.out.2.2.1 HBD.out.2.2.2.1 HBD.out.2.2.2.2.1 HBD.out.2.2.2.2.2 X14 X7 X8 X10).mono ?_
        rintro e w5 ⟨rfl, hb5⟩
        have Xb5_5 : Box w5 (w.heap.size + 1 + 1) #[.int .u8 v0, .int .u8 v1, .int .u8 v2, .int .u8 v3] := Box.below X5 hb5
        have Xb7_5 : Box w5 w1.heap.size #[.int .i64 (F 0), .int .i64 (F 1)] := Box.below X7 hb5
        have Xb8_5 : Box w5 w2.heap.size #[.int .i64 (F 2), .int .i64 (F 3)] := Box.below X8 hb5
        have Xb10_5 : Box w5 w3.heap.size #[.int .i64 (F 5), .int .i64 (F 6)] := Box.below X10 hb5
        have Xb14_5 : Box w5 w4.heap.size #[.func (.func 64) #[] #[]] := Box.below X14 hb5
        have hB5 : Below w.heap.size w w5 := stepB (by go_grown) hb5
        have hs5 := hB5.size
        clear hb5 hBr hsr X5 X7 X8 X10 X14
        rw [hsk]
        go_wp2
        go_roundw
        case rel => exact ⟨k + 1, by omega, by omega, by go_num, Xb5_5, Xb7_5, Xb8_5, Xb10_5, Xb14_5, hB5⟩
        case measure => simp [intOf]; omega
      · have d1 : decide ((k : Int) < 50) = false := decide_eq_false (by omega)
        have d2 : ((k : Int) == 50) = true := by rw [beq_iff_eq]; omega
        go_wp2_with fail
        refine (good_any (F 0) (F 1) (F 2) (F 3) (F 5) (F 6) k _ _ _ _ _ (by omega) (by omega) HBD.out.1 HBD.out.2.1 HBD.out.2.2.1 HBD.out.2.2.2.1 HBD.out.2.2.2.2.1 HBD.out.2.2.2.2.2 X14 X7 X8 X10).mono ?_
        rintro e w5 ⟨rfl, hb5⟩
        have Xb5_5 : Box w5 (w.heap.size + 1 + 1) #[.int .u8 v0, .int .u8 v1, .int .u8 v2, .int .u8 v3] := Box.below X5 hb5
        have Xb7_5 : Box w5 w1.heap.size #[.int .i64 (F 0), .int .i64 (F 1)] := Box.below X7 hb5
        have Xb8_5 : Box w5 w2.heap.size #[.int .i64 (F 2), .int .i64 (F 3)] := Box.below X8 hb5
        have Xb10_5 : Box w5 w3.heap.size #[.int .i64 (F 5), .int .i64 (F 6)] := Box.below X10 hb5
        have Xb14_5 : Box w5 w4.heap.size #[.func (.func 64) #[] #[]] := Box.below X14 hb5
        have hB5 : Below w.heap.size w w5 := stepB (by go_grown) hb5
        have hs5 := hB5.size
        clear hb5 hBr hsr X5 X7 X8 X10 X14
        rw [hsk]
        go_wp2
        go_roundw
        case rel => exact ⟨k + 1, by omega, by omega, by go_num, Xb5_5, Xb7_5, Xb8_5, Xb10_5, Xb14_5, hB5⟩
        case measure => simp [intOf]; omega
    · have d1 : decide ((k : Int) < 50) = false := decide_eq_false (by omega)
      have d2 : ((k : Int) == 50) = false := by rw [beq_eq_false_iff_ne]; omega
      go_wp2_with fail
      refine (known_any _).mono ?_
      rintro e w5 ⟨rfl, hb5⟩
      have hB5 : Below w.heap.size w w5 := stepB (by go_grown) hb5
      have hs5 := hB5.size
      clear hb5 hBr hsr X5 X7 X8 X10 X14
      go_wp2
      go_returns
      exact ⟨rfl, hB5⟩
end Go.Proofs.Ytpmeahmjmpgbfaa
