/- ZoneSorted: the way with groups. Made by tools/gen_zslaw.py. -/
import Derived.Test.YtpmeahmjmpgbfaaZSo2
import Derived.Deep.DeepCutAuto
namespace Go.Proofs.Ytpmeahmjmpgbfaa
open Go.ChangeShapes Go.WideShapes Go.ChangeAt Go.RowKit
set_option linter.unusedVariables false
set_option linter.unusedSimpArgs false

theorem mod_in {x k : Int} (h : 0 ≤ x) (hk : 1 ≤ k) : x.tmod k = x % k ∧ 0 ≤ x % k ∧ x % k < k := ⟨Int.tmod_eq_emod_of_nonneg h, Int.emod_nonneg _ (by omega), Int.emod_lt_of_pos _ (by omega)⟩
set_option maxRecDepth 100000 in
set_option maxHeartbeats 16000000 in
theorem zso_some (g : Nat) (F : Nat → Int) (a0 a1 x0 x1 v0 v1 v2 v3 : Int) (A0 : IntKind.i64.wrap (a0) = a0) (A0s : IntKind.i64.wrap (1000 + a0) = F 0) (W0 : IntKind.i64.wrap (x0) = x0) (R0 : x0.tmod 300 = F 11) (R0e : x0 % 300 = F 11) (R0w : IntKind.i64.wrap (F 11) = F 11) (S1 : IntKind.i64.wrap (F 0 + F 11) = F 1) (A1 : IntKind.i64.wrap (a1) = a1) (A1s : IntKind.i64.wrap (1000 + a1) = F 2) (W1 : IntKind.i64.wrap (x1) = x1) (R1 : x1.tmod 300 = F 12) (R1e : x1 % 300 = F 12) (R1w : IntKind.i64.wrap (F 12) = F 12) (N1 : IntKind.i64.wrap (F 2 + F 12) = F 3) (D1 : IntKind.i64.wrap (F 3 - F 2) = F 3 - F 2) (Q1 : (F 3 - F 2).tdiv 2 = F 14) (Q1w : IntKind.i64.wrap (F 14) = F 14) (D2 : IntKind.i64.wrap (F 2 + F 14) = F 15) (D3 : IntKind.i64.wrap (F 15 - F 0) = F 16) (D4 : IntKind.i64.wrap (F 1 - F 0) = F 1 - F 0) (Q2 : (F 1 - F 0).tdiv 2 = F 17) (Q2w : IntKind.i64.wrap (F 17) = F 17) (D5 : IntKind.i64.wrap (F 16 - F 17) = F 4) (V0 : IntKind.i64.wrap (v0) = v0) (V1 : IntKind.i64.wrap (v1) = v1) (V2 : IntKind.i64.wrap (v2) = v2) (V3 : IntKind.i64.wrap (v3) = v3) (D6 : IntKind.i64.wrap (F 4 - v0) = F 5) (D7 : IntKind.i64.wrap (F 4 + v1) = F 6) (HBD : Hid (0 ≤ F 0 ∧ F 0 ≤ F 1 ∧ F 1 ≤ 20000000 ∧ 0 ≤ F 2 ∧ F 2 ≤ F 3 ∧ F 3 ≤ 20000000)) (HG : Hid (∀ w : World, Calls Try.prog 55 #[.agg #[.int .i64 (F 0), .int .i64 (F 1)], .agg #[.int .i64 (F 2), .int .i64 (F 3)], .agg #[.int .i64 (F 5), .int .i64 (F 6)]] w fun e w' => e = .returned (.tuple #[.int .i64 g, .int .i64 0]) ∧ Below w.heap.size w w')) (hg1 : 1 ≤ g) (hg2 : g ≤ 50) (hg3 : ¬ (g : Int) < 1) (hg4 : ¬ (50 : Int) < g) (HN : Hid (∀ k : Nat, 1 ≤ k → k < g → sortedB (F 0) (F 1) (F 2) (F 3) (F 5) (F 6) k = false)) (HY : Hid (sortedB (F 0) (F 1) (F 2) (F 3) (F 5) (F 6) g = true)) (HD : Hid (∀ w : World, Calls Try.prog 61 #[.agg #[.int .i64 (F 0), .int .i64 (F 1)], .int .i64 v2] w fun e w' => e = .returned (.int .i64 (F 7)) ∧ Below w.heap.size w w')) (H0 : Hid (¬ F 7 < gAt (F 0) (F 1) 0 g)) (H1 : Hid (F 7 < gAt (F 0) (F 1) g g)) (HV3 : Hid (0 ≤ v3)) (HS : Hid (∀ j : Nat, j < g → (gAt (F 0) (F 1) j g ≤ gAt (F 0) (F 1) (j + 1) g - 1 ∧ gAt (F 2) (F 3) j g ≤ gAt (F 2) (F 3) (j + 1) g - 1 ∧ -1000000000000 ≤ gAt (F 2) (F 3) j g ∧ gAt (F 2) (F 3) (j + 1) g - 1 ≤ 1000000000000 ∧ -1000000000 ≤ F 7 ∧ F 7 ≤ 1000000000) ∧ True ∧ F 5 ≤ gAt (F 2) (F 3) j g - (gAt (F 0) (F 1) (j + 1) g - 1) ∧ gAt (F 2) (F 3) (j + 1) g - 1 - gAt (F 0) (F 1) j g ≤ F 6)) (w : World) :
    Calls Try.prog 13 #[.agg #[.int .u8 a0, .int .u8 a1], .agg #[.int .u16 x0, .int .u16 x1], .agg #[.int .u8 v0, .int .u8 v1, .int .u8 v2, .int .u8 v3]] w fun e w' => e = .returned (.bool true) ∧ Below w.heap.size w w' := by
  go_enter Try.func13, Try.ntmps13
  go_wp2_with fail
  refine (lspan_any (F 0) (F 1) _).mono ?_
  rintro e w1 ⟨rfl, hb1⟩
  have Xb3_1 : Box w1 w.heap.size #[.int .u8 a0, .int .u8 a1] := Box.below (Box.alloc (Box.alloc (Box.new w _ _) _) _) hb1
  have Xb4_1 : Box w1 (w.heap.size + 1) #[.int .u16 x0, .int .u16 x1] := Box.below (Box.alloc (Box.newAt (w.alloc _) _ _ (by simp)) _) hb1
  have Xb5_1 : Box w1 (w.heap.size + 1 + 1) #[.int .u8 v0, .int .u8 v1, .int .u8 v2, .int .u8 v3] := Box.below (Box.newAt ((w.alloc _).alloc _) _ _ (by simp)) hb1
  have hB1 : Below w.heap.size w w1 := stepB (by go_grown) hb1
  have hs1 := hB1.size
  clear hb1
  have cc3 := Xb3_1.2.1
  have ll3 := Xb3_1.1
  have cc4 := Xb4_1.2.1
  have ll4 := Xb4_1.1
  have lm4_0 : w.heap.size < w1.heap.size := by have := ll4; omega
  go_wp2_with fail
  refine (lspan_any (F 2) (F 3) _).mono ?_
  rintro e w2 ⟨rfl, hb2⟩
  have Xb5_2 : Box w2 (w.heap.size + 1 + 1) #[.int .u8 v0, .int .u8 v1, .int .u8 v2, .int .u8 v3] := Box.below (Box.alloc Xb5_1 _) hb2
  have Xb7_2 : Box w2 w1.heap.size #[.int .i64 (F 0), .int .i64 (F 1)] := Box.below (Box.new w1 _ _) hb2
  have hB2 : Below w.heap.size w w2 := stepB (by go_grown) hb2
  have hs2 := hB2.size
  clear hb2 hB1 hs1 Xb3_1 Xb4_1 Xb5_1 cc3 ll3 cc4 ll4 lm4_0
  have cc5 := Xb5_2.2.1
  have ll5 := Xb5_2.1
  have lm5_0 : w.heap.size < w2.heap.size := by have := ll5; omega
  have lm5_1 : w.heap.size + 1 < w2.heap.size := by have := ll5; omega
  have cc7 := Xb7_2.2.1
  have ll7 := Xb7_2.1
  go_wp2_with fail
  refine (lspan_any (F 5) (F 6) _).mono ?_
  rintro e w3 ⟨rfl, hb3⟩
  have Xb5_3 : Box w3 (w.heap.size + 1 + 1) #[.int .u8 v0, .int .u8 v1, .int .u8 v2, .int .u8 v3] := Box.below (Box.alloc Xb5_2 _) hb3
  have Xb7_3 : Box w3 w1.heap.size #[.int .i64 (F 0), .int .i64 (F 1)] := Box.below (Box.alloc Xb7_2 _) hb3
  have Xb8_3 : Box w3 w2.heap.size #[.int .i64 (F 2), .int .i64 (F 3)] := Box.below (Box.new w2 _ _) hb3
  have hB3 : Below w.heap.size w w3 := stepB (by go_grown) hb3
  have hs3 := hB3.size
  clear hb3 hB2 hs2 Xb5_2 Xb7_2 cc5 ll5 lm5_0 lm5_1 cc7 ll7
  have cc7 := Xb7_3.2.1
  have ll7 := Xb7_3.1
  have cc8 := Xb8_3.2.1
  have ll8 := Xb8_3.1
  go_wp2_with fail
  refine (HG.out _).mono ?_
  rintro e w4 ⟨rfl, hb4⟩
  have Xb5_4 : Box w4 (w.heap.size + 1 + 1) #[.int .u8 v0, .int .u8 v1, .int .u8 v2, .int .u8 v3] := Box.below (Box.alloc Xb5_3 _) hb4
  have Xb7_4 : Box w4 w1.heap.size #[.int .i64 (F 0), .int .i64 (F 1)] := Box.below (Box.alloc Xb7_3 _) hb4
  have Xb8_4 : Box w4 w2.heap.size #[.int .i64 (F 2), .int .i64 (F 3)] := Box.below (Box.alloc Xb8_3 _) hb4
  have Xb10_4 : Box w4 w3.heap.size #[.int .i64 (F 5), .int .i64 (F 6)] := Box.below (Box.new w3 _ _) hb4
  have hB4 : Below w.heap.size w w4 := stepB (by go_grown) hb4
  have hs4 := hB4.size
  clear hb4 hB3 hs3 Xb5_3 Xb7_3 Xb8_3 cc7 ll7 cc8 ll8
  have cc7 := Xb7_4.2.1
  have ll7 := Xb7_4.1
  have cc8 := Xb8_4.2.1
  have ll8 := Xb8_4.1
  have cc10 := Xb10_4.2.1
  have ll10 := Xb10_4.1
  go_wp2_with fail
  refine (good_any (F 0) (F 1) (F 2) (F 3) (F 5) (F 6) g _ _ _ _ _ (by omega) (by omega) HBD.out.1 HBD.out.2.1 HBD.out.2.2.1 HBD.out.2.2.2.1 HBD.out.2.2.2.2.1 HBD.out.2.2.2.2.2 (Box.new w4 _ _) (Box.alloc Xb7_4 _) (Box.alloc Xb8_4 _) (Box.alloc Xb10_4 _)).mono ?_
  rintro e w5 ⟨rfl, hb5⟩
  have Xb5_5 : Box w5 (w.heap.size + 1 + 1) #[.int .u8 v0, .int .u8 v1, .int .u8 v2, .int .u8 v3] := Box.below (Box.alloc Xb5_4 _) hb5
  have Xb7_5 : Box w5 w1.heap.size #[.int .i64 (F 0), .int .i64 (F 1)] := Box.below (Box.alloc Xb7_4 _) hb5
  have Xb8_5 : Box w5 w2.heap.size #[.int .i64 (F 2), .int .i64 (F 3)] := Box.below (Box.alloc Xb8_4 _) hb5
  have Xb10_5 : Box w5 w3.heap.size #[.int .i64 (F 5), .int .i64 (F 6)] := Box.below (Box.alloc Xb10_4 _) hb5
  have Xb14_5 : Box w5 w4.heap.size #[.func (.func 64) #[] #[]] := Box.below (Box.new w4 _ _) hb5
  have hB5 : Below w.heap.size w w5 := stepB (by go_grown) hb5
  have hs5 := hB5.size
  clear hb5 hB4 hs4 Xb5_4 Xb7_4 Xb8_4 Xb10_4 cc7 ll7 cc8 ll8 cc10 ll10
  rw [HY.out]
  go_wp2
  go_loopw [16] (fun i wr => ∃ k : Nat, 1 ≤ k ∧ k ≤ g ∧ i = .int .i64 k ∧ Box wr (w.heap.size + 1 + 1) #[.int .u8 v0, .int .u8 v1, .int .u8 v2, .int .u8 v3] ∧ Box wr w1.heap.size #[.int .i64 (F 0), .int .i64 (F 1)] ∧ Box wr w2.heap.size #[.int .i64 (F 2), .int .i64 (F 3)] ∧ Box wr w3.heap.size #[.int .i64 (F 5), .int .i64 (F 6)] ∧ Box wr w4.heap.size #[.func (.func 64) #[] #[]] ∧ Below w.heap.size w wr) (fun i _ => g - (intOf i).toNat)
  case atStart => exact ⟨1, by omega, by omega, rfl, Xb5_5, Xb7_5, Xb8_5, Xb10_5, Xb14_5, by go_grown⟩
  case round =>
    clear Xb5_5 Xb7_5 Xb8_5 Xb10_5 Xb14_5 hB5 hs5
    obtain ⟨k, hk1, hk2, rfl, X5, X7, X8, X10, X14, hBr⟩ := hrel
    have hsr := hBr.size
    by_cases hlt : k < g
    · have hsk := HN.out k (by omega) hlt
      have hlt3 : (k : Int) < g := by omega
      go_wp2_with fail
      refine (good_any (F 0) (F 1) (F 2) (F 3) (F 5) (F 6) k _ _ _ _ _ (by omega) (by omega) HBD.out.1 HBD.out.2.1 HBD.out.2.2.1 HBD.out.2.2.2.1 HBD.out.2.2.2.2.1 HBD.out.2.2.2.2.2 X14 X7 X8 X10).mono ?_
      rintro e w6 ⟨rfl, hb6⟩
      have Xb5_6 : Box w6 (w.heap.size + 1 + 1) #[.int .u8 v0, .int .u8 v1, .int .u8 v2, .int .u8 v3] := Box.below X5 hb6
      have Xb7_6 : Box w6 w1.heap.size #[.int .i64 (F 0), .int .i64 (F 1)] := Box.below X7 hb6
      have Xb8_6 : Box w6 w2.heap.size #[.int .i64 (F 2), .int .i64 (F 3)] := Box.below X8 hb6
      have Xb10_6 : Box w6 w3.heap.size #[.int .i64 (F 5), .int .i64 (F 6)] := Box.below X10 hb6
      have Xb14_6 : Box w6 w4.heap.size #[.func (.func 64) #[] #[]] := Box.below X14 hb6
      have hB6 : Below w.heap.size w w6 := stepB (by go_grown) hb6
      have hs6 := hB6.size
      clear hb6 hBr hsr X5 X7 X8 X10 X14
      rw [hsk]
      go_wp2
      go_roundw
      case rel => exact ⟨k + 1, by omega, by omega, by go_num, Xb5_6, Xb7_6, Xb8_6, Xb10_6, Xb14_6, hB6⟩
      case measure => simp [intOf]; omega
    · have hkg : g = k := by omega
      subst hkg
      cases d2 : ((g : Int) == 50)
      · have cc5 := X5.2.1
        have ll5 := X5.1
        have lm5_0 : w.heap.size < wr.heap.size := by have := ll5; omega
        have lm5_1 : w.heap.size + 1 < wr.heap.size := by have := ll5; omega
        have cc7 := X7.2.1
        have ll7 := X7.1
        go_wp2_with fail
        refine (HD.out _).mono ?_
        rintro e w6 ⟨rfl, hb6⟩
        have Xb5_6 : Box w6 (w.heap.size + 1 + 1) #[.int .u8 v0, .int .u8 v1, .int .u8 v2, .int .u8 v3] := Box.below X5 hb6
        have Xb7_6 : Box w6 w1.heap.size #[.int .i64 (F 0), .int .i64 (F 1)] := Box.below X7 hb6
        have Xb8_6 : Box w6 w2.heap.size #[.int .i64 (F 2), .int .i64 (F 3)] := Box.below X8 hb6
        have Xb10_6 : Box w6 w3.heap.size #[.int .i64 (F 5), .int .i64 (F 6)] := Box.below X10 hb6
        have Xb14_6 : Box w6 w4.heap.size #[.func (.func 64) #[] #[]] := Box.below X14 hb6
        have hB6 : Below w.heap.size w w6 := stepB (by go_grown) hb6
        have hs6 := hB6.size
        clear hb6 hBr hsr X5 X7 X8 X10 X14 cc5 ll5 lm5_0 lm5_1 cc7 ll7
        go_wp2
        go_loopw [18, 19, 20, 21] (fun c i _ _ wr => ∃ j : Nat, j ≤ g ∧ i = .int .i64 j ∧ c = .int .i64 (if F 7 < gAt (F 0) (F 1) j g then 1 else 0) ∧ Box wr (w.heap.size + 1 + 1) #[.int .u8 v0, .int .u8 v1, .int .u8 v2, .int .u8 v3] ∧ Box wr w1.heap.size #[.int .i64 (F 0), .int .i64 (F 1)] ∧ Box wr w2.heap.size #[.int .i64 (F 2), .int .i64 (F 3)] ∧ Box wr w3.heap.size #[.int .i64 (F 5), .int .i64 (F 6)] ∧ Box wr w4.heap.size #[.func (.func 64) #[] #[]] ∧ Below w.heap.size w wr) (fun _ i _ _ _ => g - (intOf i).toNat)
        case atStart => exact ⟨0, by omega, rfl, congrArg (Value.int IntKind.i64) (by rw [if_neg (by have := H0.out; simpa using this)]), Xb5_6, Xb7_6, Xb8_6, Xb10_6, Xb14_6, hB6⟩
        case round =>
          clear Xb5_6 Xb7_6 Xb8_6 Xb10_6 Xb14_6 hB6 hs6 
          obtain ⟨j, hj, rfl, hc, Y5, Y7, Y8, Y10, Y14, hBr⟩ := hrel
          have hsr := hBr.size
          by_cases hjg : j < g
          · have hjg2 : (j : Int) < g := by omega
            have HP1' := fun (W : World) => part_any (F 0) (F 1) j g W (by omega) (by omega) (by omega) (by omega) (by have := HBD.out; omega) (by have := HBD.out; omega) (by have := HBD.out; omega) (by have := HBD.out; omega) HBD.out.2.1
            have HP2' := fun (W : World) => part_any (F 2) (F 3) j g W (by omega) (by omega) (by omega) (by omega) (by have := HBD.out; omega) (by have := HBD.out; omega) (by have := HBD.out; omega) (by have := HBD.out; omega) HBD.out.2.2.2.2.1
            unfold spanV at HP1' HP2'
            have HK := HS.out j (by omega)
            obtain ⟨A, hA⟩ : ∃ A, gAt (F 0) (F 1) j g = A := ⟨_, rfl⟩
            obtain ⟨B, hB'⟩ : ∃ B, gAt (F 0) (F 1) (j + 1) g - 1 = B := ⟨_, rfl⟩
            obtain ⟨C, hC⟩ : ∃ C, gAt (F 2) (F 3) j g = C := ⟨_, rfl⟩
            obtain ⟨D, hD⟩ : ∃ D, gAt (F 2) (F 3) (j + 1) g - 1 = D := ⟨_, rfl⟩
            rw [hA, hB'] at HP1'
            rw [hC, hD] at HP2'
            rw [hA, hB', hC, hD] at HK
            have HE : Hid (gAt (F 0) (F 1) (j + 1) g = B + 1) := Lib.hid (by omega)
            rw [hA] at hc
            have HP1 := Lib.hid HP1'
            have HP2 := Lib.hid HP2'
            clear HP1' HP2' hA hB' hC hD
            obtain ⟨kc, k1, k2, k3⟩ := HK
            cases hin : inB A B (F 7)
            · have HIN := Lib.hid hin
              have KC := Lib.hid kc
              clear k1 k2 k3 kc
              obtain ⟨cN, hcN⟩ : ∃ x : Int, (if F 7 < A then 1 else 0) = x := ⟨_, rfl⟩
              rw [hcN] at hc
              have HCN := Lib.hid hcN
              clear hcN
              subst hc
              have cc7 := Y7.2.1
              have ll7 := Y7.1
              have cc14 := Y14.2.1
              have ll14 := Y14.1
              go_wp2_with fail
              refine (HP1.out _).mono ?_
              rintro e w7 ⟨rfl, hb7⟩
              have Xb5_7 : Box w7 (w.heap.size + 1 + 1) #[.int .u8 v0, .int .u8 v1, .int .u8 v2, .int .u8 v3] := Box.below Y5 hb7
              have Xb7_7 : Box w7 w1.heap.size #[.int .i64 (F 0), .int .i64 (F 1)] := Box.below Y7 hb7
              have Xb8_7 : Box w7 w2.heap.size #[.int .i64 (F 2), .int .i64 (F 3)] := Box.below Y8 hb7
              have Xb10_7 : Box w7 w3.heap.size #[.int .i64 (F 5), .int .i64 (F 6)] := Box.below Y10 hb7
              have Xb14_7 : Box w7 w4.heap.size #[.func (.func 64) #[] #[]] := Box.below Y14 hb7
              have hB7 : Below w.heap.size w w7 := stepB (by go_grown) hb7
              have hs7 := hB7.size
              clear hb7 hBr hsr Y5 Y7 Y8 Y10 Y14 cc7 ll7 cc14 ll14
              go_wp2_with fail
              refine (lin_any _ _ _ _).mono ?_
              rintro e w8 ⟨rfl, hb8⟩
              have Xb5_8 : Box w8 (w.heap.size + 1 + 1) #[.int .u8 v0, .int .u8 v1, .int .u8 v2, .int .u8 v3] := Box.below (Box.alloc Xb5_7 _) hb8
              have Xb7_8 : Box w8 w1.heap.size #[.int .i64 (F 0), .int .i64 (F 1)] := Box.below (Box.alloc Xb7_7 _) hb8
              have Xb8_8 : Box w8 w2.heap.size #[.int .i64 (F 2), .int .i64 (F 3)] := Box.below (Box.alloc Xb8_7 _) hb8
              have Xb10_8 : Box w8 w3.heap.size #[.int .i64 (F 5), .int .i64 (F 6)] := Box.below (Box.alloc Xb10_7 _) hb8
              have Xb14_8 : Box w8 w4.heap.size #[.func (.func 64) #[] #[]] := Box.below (Box.alloc Xb14_7 _) hb8
              have Xb20_8 : Box w8 w7.heap.size #[.int .i64 A, .int .i64 B] := Box.below (Box.new w7 _ _) hb8
              have hB8 : Below w.heap.size w w8 := stepB (by go_grown) hb8
              have hs8 := hB8.size
              clear hb8 hB7 hs7 Xb5_7 Xb7_7 Xb8_7 Xb10_7 Xb14_7
              rw [hin]
              go_wp2
              go_roundw
              case rel => exact ⟨j + 1, by omega, by go_num, congrArg (Value.int IntKind.i64) (by rw [show ((j + 1 : Nat) : Int) = j + 1 by omega, HE.out, ← HCN.out]; have := KC.out; have := of_decide_eq_false (show decide (A ≤ F 7 ∧ F 7 ≤ B) = false from HIN.out); split <;> split <;> omega), Xb5_8, Xb7_8, Xb8_8, Xb10_8, Xb14_8, hB8⟩
              case measure => simp [intOf]; omega
            · have hin' := inB_true hin
              rw [if_neg (by omega)] at hc
              have HIN := Lib.hid hin'
              have HI' := fun (W : World) => inside_any C D v3 W kc.2.1 HV3.out (by have := kc.2.2; omega) (by have := kc.2.2; omega)
              obtain ⟨-, q1, q2⟩ := mod_in (x := v3) (k := D - C + 1) HV3.out (by have := kc.2.1; omega)
              obtain ⟨y, hy⟩ : ∃ y, C + v3 % (D - C + 1) = y := ⟨_, rfl⟩
              rw [hy] at HI'
              have HI := Lib.hid HI'
              have WY : IntKind.i64.wrap (y - F 7) = y - F 7 := IntWalk.i64_in _ (by have := kc.2.2; omega)
              have HL' := fun (W : World) => lin_any (y - F 7) (F 5) (F 6) W
              rw [show inB (F 5) (F 6) (y - F 7) = true by unfold inB; exact decide_eq_true (by omega)] at HL'
              have HL := Lib.hid HL'
              clear HI' HL' hin' q1 q2 k1 k2 k3 kc hy
              subst hc
              have cc7 := Y7.2.1
              have ll7 := Y7.1
              have cc14 := Y14.2.1
              have ll14 := Y14.1
              go_wp2_with fail
              refine (HP1.out _).mono ?_
              rintro e w7 ⟨rfl, hb7⟩
              have Xb5_7 : Box w7 (w.heap.size + 1 + 1) #[.int .u8 v0, .int .u8 v1, .int .u8 v2, .int .u8 v3] := Box.below Y5 hb7
              have Xb7_7 : Box w7 w1.heap.size #[.int .i64 (F 0), .int .i64 (F 1)] := Box.below Y7 hb7
              have Xb8_7 : Box w7 w2.heap.size #[.int .i64 (F 2), .int .i64 (F 3)] := Box.below Y8 hb7
              have Xb10_7 : Box w7 w3.heap.size #[.int .i64 (F 5), .int .i64 (F 6)] := Box.below Y10 hb7
              have Xb14_7 : Box w7 w4.heap.size #[.func (.func 64) #[] #[]] := Box.below Y14 hb7
              have hB7 : Below w.heap.size w w7 := stepB (by go_grown) hb7
              have hs7 := hB7.size
              clear hb7 hBr hsr Y5 Y7 Y8 Y10 Y14 cc7 ll7 cc14 ll14
              go_wp2_with fail
              refine (lin_any _ _ _ _).mono ?_
              rintro e w8 ⟨rfl, hb8⟩
              have Xb5_8 : Box w8 (w.heap.size + 1 + 1) #[.int .u8 v0, .int .u8 v1, .int .u8 v2, .int .u8 v3] := Box.below (Box.alloc Xb5_7 _) hb8
              have Xb7_8 : Box w8 w1.heap.size #[.int .i64 (F 0), .int .i64 (F 1)] := Box.below (Box.alloc Xb7_7 _) hb8
              have Xb8_8 : Box w8 w2.heap.size #[.int .i64 (F 2), .int .i64 (F 3)] := Box.below (Box.alloc Xb8_7 _) hb8
              have Xb10_8 : Box w8 w3.heap.size #[.int .i64 (F 5), .int .i64 (F 6)] := Box.below (Box.alloc Xb10_7 _) hb8
              have Xb14_8 : Box w8 w4.heap.size #[.func (.func 64) #[] #[]] := Box.below (Box.alloc Xb14_7 _) hb8
              have Xb20_8 : Box w8 w7.heap.size #[.int .i64 A, .int .i64 B] := Box.below (Box.new w7 _ _) hb8
              have hB8 : Below w.heap.size w w8 := stepB (by go_grown) hb8
              have hs8 := hB8.size
              clear hb8 hB7 hs7 Xb5_7 Xb7_7 Xb8_7 Xb10_7 Xb14_7
              have cc8 := Xb8_8.2.1
              have ll8 := Xb8_8.1
              have cc14 := Xb14_8.2.1
              have ll14 := Xb14_8.1
              rw [hin]
              go_wp2_with fail
              refine (HP2.out _).mono ?_
              rintro e w9 ⟨rfl, hb9⟩
              have Xb5_9 : Box w9 (w.heap.size + 1 + 1) #[.int .u8 v0, .int .u8 v1, .int .u8 v2, .int .u8 v3] := Box.below Xb5_8 hb9
              have Xb7_9 : Box w9 w1.heap.size #[.int .i64 (F 0), .int .i64 (F 1)] := Box.below Xb7_8 hb9
              have Xb8_9 : Box w9 w2.heap.size #[.int .i64 (F 2), .int .i64 (F 3)] := Box.below Xb8_8 hb9
              have Xb10_9 : Box w9 w3.heap.size #[.int .i64 (F 5), .int .i64 (F 6)] := Box.below Xb10_8 hb9
              have Xb14_9 : Box w9 w4.heap.size #[.func (.func 64) #[] #[]] := Box.below Xb14_8 hb9
              have Xb20_9 : Box w9 w7.heap.size #[.int .i64 A, .int .i64 B] := Box.below Xb20_8 hb9
              have hB9 : Below w.heap.size w w9 := stepB (by go_grown) hb9
              have hs9 := hB9.size
              clear hb9 hB8 hs8 Xb5_8 Xb7_8 Xb8_8 Xb10_8 Xb14_8 Xb20_8 cc8 ll8 cc14 ll14
              go_wp2
              have Yb5 : Box (w9.alloc (.cells #[.int .i64 C, .int .i64 D] 24)) (w.heap.size + 1 + 1) #[.int .u8 v0, .int .u8 v1, .int .u8 v2, .int .u8 v3] := (Box.alloc Xb5_9 _)
              have Yb7 : Box (w9.alloc (.cells #[.int .i64 C, .int .i64 D] 24)) w1.heap.size #[.int .i64 (F 0), .int .i64 (F 1)] := (Box.alloc Xb7_9 _)
              have Yb8 : Box (w9.alloc (.cells #[.int .i64 C, .int .i64 D] 24)) w2.heap.size #[.int .i64 (F 2), .int .i64 (F 3)] := (Box.alloc Xb8_9 _)
              have Yb10 : Box (w9.alloc (.cells #[.int .i64 C, .int .i64 D] 24)) w3.heap.size #[.int .i64 (F 5), .int .i64 (F 6)] := (Box.alloc Xb10_9 _)
              have Yb14 : Box (w9.alloc (.cells #[.int .i64 C, .int .i64 D] 24)) w4.heap.size #[.func (.func 64) #[] #[]] := (Box.alloc Xb14_9 _)
              have Yb20 : Box (w9.alloc (.cells #[.int .i64 C, .int .i64 D] 24)) w7.heap.size #[.int .i64 A, .int .i64 B] := (Box.alloc Xb20_9 _)
              have Yb21 : Box (w9.alloc (.cells #[.int .i64 C, .int .i64 D] 24)) w9.heap.size #[.int .i64 C, .int .i64 D] := (Box.new w9 _ _)
              have hBX : Below w.heap.size w (w9.alloc (.cells #[.int .i64 C, .int .i64 D] 24)) := by go_grown
              clear hB9 hs9 Xb5_9 Xb7_9 Xb8_9 Xb10_9 Xb14_9 Xb20_9
              generalize (w9.alloc (.cells #[.int .i64 C, .int .i64 D] 24)) = XW1 at *
              have hsX := hBX.size
              have rd5 := fun dz os => (Yb5.regrown dz os).2.1
              have rd10 := fun dz os => (Yb10.regrown dz os).2.1
              have rd21 := fun dz os => (Yb21.regrown dz os).2.1
              have kc161 := fun dz os => (HI.out (Go.Sort.grow (redrawn XW1 dz) os)).regrown_of
              have kc165 := fun dz os => (HL.out (Go.Sort.grow (redrawn XW1 dz) os)).regrown_of
              have Zb5 := Lib.hid Yb5
              have Zb7 := Lib.hid Yb7
              have Zb8 := Lib.hid Yb8
              have Zb10 := Lib.hid Yb10
              have Zb14 := Lib.hid Yb14
              have Zb20 := Lib.hid Yb20
              have Zb21 := Lib.hid Yb21
              clear Yb5 Yb7 Yb8 Yb10 Yb14 Yb20 Yb21
              refine wp_region_quiet_below (by kernel_rfl) (by kernel_rfl) ?_
              repeat ((with_reducible refine wpQuiet_step (fun K hK => ?_)); go_simp; first | ((with_reducible refine hK _ ?_); clear hK K) | (apply Exists.intro; refine ⟨fun _ => ?_, hK _ ?_⟩; (first | (go_at_call 61; with_reducible exact kc161 _ _) | (go_at_call 60; with_reducible exact kc165 _ _)); clear hK K))
              with_reducible refine wpQuiet_nil ?_
              intro w10 hw'
              obtain ⟨⟨dq, osq⟩, hw''⟩ := hw'
              have hb10 : Below XW1.heap.size XW1 w10 := by rw [hw'']; exact below_regrown XW1 dq osq
              have Xb5_10 : Box w10 (w.heap.size + 1 + 1) #[.int .u8 v0, .int .u8 v1, .int .u8 v2, .int .u8 v3] := Zb5.out.below hb10
              have Xb7_10 : Box w10 w1.heap.size #[.int .i64 (F 0), .int .i64 (F 1)] := Zb7.out.below hb10
              have Xb8_10 : Box w10 w2.heap.size #[.int .i64 (F 2), .int .i64 (F 3)] := Zb8.out.below hb10
              have Xb10_10 : Box w10 w3.heap.size #[.int .i64 (F 5), .int .i64 (F 6)] := Zb10.out.below hb10
              have Xb14_10 : Box w10 w4.heap.size #[.func (.func 64) #[] #[]] := Zb14.out.below hb10
              have Xb20_10 : Box w10 w7.heap.size #[.int .i64 A, .int .i64 B] := Zb20.out.below hb10
              have Xb21_10 : Box w10 w9.heap.size #[.int .i64 C, .int .i64 D] := Zb21.out.below hb10
              have hB10 : Below w.heap.size w w10 := stepB hBX hb10
              have hs10 := hB10.size
              clear hw'' hb10 hBX hsX rd5 rd10 rd21 kc161 kc165 Zb5 Zb7 Zb8 Zb10 Zb14 Zb20 Zb21
              go_wp2
              go_roundw
              case rel => exact ⟨j + 1, by omega, by go_num, congrArg (Value.int IntKind.i64) (by rw [show ((j + 1 : Nat) : Int) = j + 1 by omega, HE.out, if_pos (by have := HIN.out; omega)]), Xb5_10, Xb7_10, Xb8_10, Xb10_10, Xb14_10, hB10⟩
              case measure => simp [intOf]; omega
          · have hjg3 : g = j := by omega
            subst hjg3
            rw [if_pos (by have := H1.out; omega)] at hc
            subst hc
            go_wp2_with fail
            refine (known_any _).mono ?_
            rintro e w7 ⟨rfl, hb7⟩
            have hB7 : Below w.heap.size w w7 := stepB (by go_grown) hb7
            have hs7 := hB7.size
            clear hb7 hBr hsr Y5 Y7 Y8 Y10 Y14
            go_wp2
            go_returns
            exact ⟨rfl, hB7⟩
      · have cc5 := X5.2.1
        have ll5 := X5.1
        have lm5_0 : w.heap.size < wr.heap.size := by have := ll5; omega
        have lm5_1 : w.heap.size + 1 < wr.heap.size := by have := ll5; omega
        have cc7 := X7.2.1
        have ll7 := X7.1
        go_wp2_with fail
        refine (HD.out _).mono ?_
        rintro e w6 ⟨rfl, hb6⟩
        have Xb5_6 : Box w6 (w.heap.size + 1 + 1) #[.int .u8 v0, .int .u8 v1, .int .u8 v2, .int .u8 v3] := Box.below X5 hb6
        have Xb7_6 : Box w6 w1.heap.size #[.int .i64 (F 0), .int .i64 (F 1)] := Box.below X7 hb6
        have Xb8_6 : Box w6 w2.heap.size #[.int .i64 (F 2), .int .i64 (F 3)] := Box.below X8 hb6
        have Xb10_6 : Box w6 w3.heap.size #[.int .i64 (F 5), .int .i64 (F 6)] := Box.below X10 hb6
        have Xb14_6 : Box w6 w4.heap.size #[.func (.func 64) #[] #[]] := Box.below X14 hb6
        have hB6 : Below w.heap.size w w6 := stepB (by go_grown) hb6
        have hs6 := hB6.size
        clear hb6 hBr hsr X5 X7 X8 X10 X14 cc5 ll5 lm5_0 lm5_1 cc7 ll7
        go_wp2
        go_loopw [18, 19, 20, 21] (fun c i _ _ wr => ∃ j : Nat, j ≤ g ∧ i = .int .i64 j ∧ c = .int .i64 (if F 7 < gAt (F 0) (F 1) j g then 1 else 0) ∧ Box wr (w.heap.size + 1 + 1) #[.int .u8 v0, .int .u8 v1, .int .u8 v2, .int .u8 v3] ∧ Box wr w1.heap.size #[.int .i64 (F 0), .int .i64 (F 1)] ∧ Box wr w2.heap.size #[.int .i64 (F 2), .int .i64 (F 3)] ∧ Box wr w3.heap.size #[.int .i64 (F 5), .int .i64 (F 6)] ∧ Box wr w4.heap.size #[.func (.func 64) #[] #[]] ∧ Below w.heap.size w wr) (fun _ i _ _ _ => g - (intOf i).toNat)
        case atStart => exact ⟨0, by omega, rfl, congrArg (Value.int IntKind.i64) (by rw [if_neg (by have := H0.out; simpa using this)]), Xb5_6, Xb7_6, Xb8_6, Xb10_6, Xb14_6, hB6⟩
        case round =>
          clear Xb5_6 Xb7_6 Xb8_6 Xb10_6 Xb14_6 hB6 hs6 
          obtain ⟨j, hj, rfl, hc, Y5, Y7, Y8, Y10, Y14, hBr⟩ := hrel
          have hsr := hBr.size
          by_cases hjg : j < g
          · have hjg2 : (j : Int) < g := by omega
            have HP1' := fun (W : World) => part_any (F 0) (F 1) j g W (by omega) (by omega) (by omega) (by omega) (by have := HBD.out; omega) (by have := HBD.out; omega) (by have := HBD.out; omega) (by have := HBD.out; omega) HBD.out.2.1
            have HP2' := fun (W : World) => part_any (F 2) (F 3) j g W (by omega) (by omega) (by omega) (by omega) (by have := HBD.out; omega) (by have := HBD.out; omega) (by have := HBD.out; omega) (by have := HBD.out; omega) HBD.out.2.2.2.2.1
            unfold spanV at HP1' HP2'
            have HK := HS.out j (by omega)
            obtain ⟨A, hA⟩ : ∃ A, gAt (F 0) (F 1) j g = A := ⟨_, rfl⟩
            obtain ⟨B, hB'⟩ : ∃ B, gAt (F 0) (F 1) (j + 1) g - 1 = B := ⟨_, rfl⟩
            obtain ⟨C, hC⟩ : ∃ C, gAt (F 2) (F 3) j g = C := ⟨_, rfl⟩
            obtain ⟨D, hD⟩ : ∃ D, gAt (F 2) (F 3) (j + 1) g - 1 = D := ⟨_, rfl⟩
            rw [hA, hB'] at HP1'
            rw [hC, hD] at HP2'
            rw [hA, hB', hC, hD] at HK
            have HE : Hid (gAt (F 0) (F 1) (j + 1) g = B + 1) := Lib.hid (by omega)
            rw [hA] at hc
            have HP1 := Lib.hid HP1'
            have HP2 := Lib.hid HP2'
            clear HP1' HP2' hA hB' hC hD
            obtain ⟨kc, k1, k2, k3⟩ := HK
            cases hin : inB A B (F 7)
            · have HIN := Lib.hid hin
              have KC := Lib.hid kc
              clear k1 k2 k3 kc
              obtain ⟨cN, hcN⟩ : ∃ x : Int, (if F 7 < A then 1 else 0) = x := ⟨_, rfl⟩
              rw [hcN] at hc
              have HCN := Lib.hid hcN
              clear hcN
              subst hc
              have cc7 := Y7.2.1
              have ll7 := Y7.1
              have cc14 := Y14.2.1
              have ll14 := Y14.1
              go_wp2_with fail
              refine (HP1.out _).mono ?_
              rintro e w7 ⟨rfl, hb7⟩
              have Xb5_7 : Box w7 (w.heap.size + 1 + 1) #[.int .u8 v0, .int .u8 v1, .int .u8 v2, .int .u8 v3] := Box.below Y5 hb7
              have Xb7_7 : Box w7 w1.heap.size #[.int .i64 (F 0), .int .i64 (F 1)] := Box.below Y7 hb7
              have Xb8_7 : Box w7 w2.heap.size #[.int .i64 (F 2), .int .i64 (F 3)] := Box.below Y8 hb7
              have Xb10_7 : Box w7 w3.heap.size #[.int .i64 (F 5), .int .i64 (F 6)] := Box.below Y10 hb7
              have Xb14_7 : Box w7 w4.heap.size #[.func (.func 64) #[] #[]] := Box.below Y14 hb7
              have hB7 : Below w.heap.size w w7 := stepB (by go_grown) hb7
              have hs7 := hB7.size
              clear hb7 hBr hsr Y5 Y7 Y8 Y10 Y14 cc7 ll7 cc14 ll14
              go_wp2_with fail
              refine (lin_any _ _ _ _).mono ?_
              rintro e w8 ⟨rfl, hb8⟩
              have Xb5_8 : Box w8 (w.heap.size + 1 + 1) #[.int .u8 v0, .int .u8 v1, .int .u8 v2, .int .u8 v3] := Box.below (Box.alloc Xb5_7 _) hb8
              have Xb7_8 : Box w8 w1.heap.size #[.int .i64 (F 0), .int .i64 (F 1)] := Box.below (Box.alloc Xb7_7 _) hb8
              have Xb8_8 : Box w8 w2.heap.size #[.int .i64 (F 2), .int .i64 (F 3)] := Box.below (Box.alloc Xb8_7 _) hb8
              have Xb10_8 : Box w8 w3.heap.size #[.int .i64 (F 5), .int .i64 (F 6)] := Box.below (Box.alloc Xb10_7 _) hb8
              have Xb14_8 : Box w8 w4.heap.size #[.func (.func 64) #[] #[]] := Box.below (Box.alloc Xb14_7 _) hb8
              have Xb20_8 : Box w8 w7.heap.size #[.int .i64 A, .int .i64 B] := Box.below (Box.new w7 _ _) hb8
              have hB8 : Below w.heap.size w w8 := stepB (by go_grown) hb8
              have hs8 := hB8.size
              clear hb8 hB7 hs7 Xb5_7 Xb7_7 Xb8_7 Xb10_7 Xb14_7
              rw [hin]
              go_wp2
              go_roundw
              case rel => exact ⟨j + 1, by omega, by go_num, congrArg (Value.int IntKind.i64) (by rw [show ((j + 1 : Nat) : Int) = j + 1 by omega, HE.out, ← HCN.out]; have := KC.out; have := of_decide_eq_false (show decide (A ≤ F 7 ∧ F 7 ≤ B) = false from HIN.out); split <;> split <;> omega), Xb5_8, Xb7_8, Xb8_8, Xb10_8, Xb14_8, hB8⟩
              case measure => simp [intOf]; omega
            · have hin' := inB_true hin
              rw [if_neg (by omega)] at hc
              have HIN := Lib.hid hin'
              have HI' := fun (W : World) => inside_any C D v3 W kc.2.1 HV3.out (by have := kc.2.2; omega) (by have := kc.2.2; omega)
              obtain ⟨-, q1, q2⟩ := mod_in (x := v3) (k := D - C + 1) HV3.out (by have := kc.2.1; omega)
              obtain ⟨y, hy⟩ : ∃ y, C + v3 % (D - C + 1) = y := ⟨_, rfl⟩
              rw [hy] at HI'
              have HI := Lib.hid HI'
              have WY : IntKind.i64.wrap (y - F 7) = y - F 7 := IntWalk.i64_in _ (by have := kc.2.2; omega)
              have HL' := fun (W : World) => lin_any (y - F 7) (F 5) (F 6) W
              rw [show inB (F 5) (F 6) (y - F 7) = true by unfold inB; exact decide_eq_true (by omega)] at HL'
              have HL := Lib.hid HL'
              clear HI' HL' hin' q1 q2 k1 k2 k3 kc hy
              subst hc
              have cc7 := Y7.2.1
              have ll7 := Y7.1
              have cc14 := Y14.2.1
              have ll14 := Y14.1
              go_wp2_with fail
              refine (HP1.out _).mono ?_
              rintro e w7 ⟨rfl, hb7⟩
              have Xb5_7 : Box w7 (w.heap.size + 1 + 1) #[.int .u8 v0, .int .u8 v1, .int .u8 v2, .int .u8 v3] := Box.below Y5 hb7
              have Xb7_7 : Box w7 w1.heap.size #[.int .i64 (F 0), .int .i64 (F 1)] := Box.below Y7 hb7
              have Xb8_7 : Box w7 w2.heap.size #[.int .i64 (F 2), .int .i64 (F 3)] := Box.below Y8 hb7
              have Xb10_7 : Box w7 w3.heap.size #[.int .i64 (F 5), .int .i64 (F 6)] := Box.below Y10 hb7
              have Xb14_7 : Box w7 w4.heap.size #[.func (.func 64) #[] #[]] := Box.below Y14 hb7
              have hB7 : Below w.heap.size w w7 := stepB (by go_grown) hb7
              have hs7 := hB7.size
              clear hb7 hBr hsr Y5 Y7 Y8 Y10 Y14 cc7 ll7 cc14 ll14
              go_wp2_with fail
              refine (lin_any _ _ _ _).mono ?_
              rintro e w8 ⟨rfl, hb8⟩
              have Xb5_8 : Box w8 (w.heap.size + 1 + 1) #[.int .u8 v0, .int .u8 v1, .int .u8 v2, .int .u8 v3] := Box.below (Box.alloc Xb5_7 _) hb8
              have Xb7_8 : Box w8 w1.heap.size #[.int .i64 (F 0), .int .i64 (F 1)] := Box.below (Box.alloc Xb7_7 _) hb8
              have Xb8_8 : Box w8 w2.heap.size #[.int .i64 (F 2), .int .i64 (F 3)] := Box.below (Box.alloc Xb8_7 _) hb8
              have Xb10_8 : Box w8 w3.heap.size #[.int .i64 (F 5), .int .i64 (F 6)] := Box.below (Box.alloc Xb10_7 _) hb8
              have Xb14_8 : Box w8 w4.heap.size #[.func (.func 64) #[] #[]] := Box.below (Box.alloc Xb14_7 _) hb8
              have Xb20_8 : Box w8 w7.heap.size #[.int .i64 A, .int .i64 B] := Box.below (Box.new w7 _ _) hb8
              have hB8 : Below w.heap.size w w8 := stepB (by go_grown) hb8
              have hs8 := hB8.size
              clear hb8 hB7 hs7 Xb5_7 Xb7_7 Xb8_7 Xb10_7 Xb14_7
              have cc8 := Xb8_8.2.1
              have ll8 := Xb8_8.1
              have cc14 := Xb14_8.2.1
              have ll14 := Xb14_8.1
              rw [hin]
              go_wp2_with fail
              refine (HP2.out _).mono ?_
              rintro e w9 ⟨rfl, hb9⟩
              have Xb5_9 : Box w9 (w.heap.size + 1 + 1) #[.int .u8 v0, .int .u8 v1, .int .u8 v2, .int .u8 v3] := Box.below Xb5_8 hb9
              have Xb7_9 : Box w9 w1.heap.size #[.int .i64 (F 0), .int .i64 (F 1)] := Box.below Xb7_8 hb9
              have Xb8_9 : Box w9 w2.heap.size #[.int .i64 (F 2), .int .i64 (F 3)] := Box.below Xb8_8 hb9
              have Xb10_9 : Box w9 w3.heap.size #[.int .i64 (F 5), .int .i64 (F 6)] := Box.below Xb10_8 hb9
              have Xb14_9 : Box w9 w4.heap.size #[.func (.func 64) #[] #[]] := Box.below Xb14_8 hb9
              have Xb20_9 : Box w9 w7.heap.size #[.int .i64 A, .int .i64 B] := Box.below Xb20_8 hb9
              have hB9 : Below w.heap.size w w9 := stepB (by go_grown) hb9
              have hs9 := hB9.size
              clear hb9 hB8 hs8 Xb5_8 Xb7_8 Xb8_8 Xb10_8 Xb14_8 Xb20_8 cc8 ll8 cc14 ll14
              go_wp2
              have Yb5 : Box (w9.alloc (.cells #[.int .i64 C, .int .i64 D] 24)) (w.heap.size + 1 + 1) #[.int .u8 v0, .int .u8 v1, .int .u8 v2, .int .u8 v3] := (Box.alloc Xb5_9 _)
              have Yb7 : Box (w9.alloc (.cells #[.int .i64 C, .int .i64 D] 24)) w1.heap.size #[.int .i64 (F 0), .int .i64 (F 1)] := (Box.alloc Xb7_9 _)
              have Yb8 : Box (w9.alloc (.cells #[.int .i64 C, .int .i64 D] 24)) w2.heap.size #[.int .i64 (F 2), .int .i64 (F 3)] := (Box.alloc Xb8_9 _)
              have Yb10 : Box (w9.alloc (.cells #[.int .i64 C, .int .i64 D] 24)) w3.heap.size #[.int .i64 (F 5), .int .i64 (F 6)] := (Box.alloc Xb10_9 _)
              have Yb14 : Box (w9.alloc (.cells #[.int .i64 C, .int .i64 D] 24)) w4.heap.size #[.func (.func 64) #[] #[]] := (Box.alloc Xb14_9 _)
              have Yb20 : Box (w9.alloc (.cells #[.int .i64 C, .int .i64 D] 24)) w7.heap.size #[.int .i64 A, .int .i64 B] := (Box.alloc Xb20_9 _)
              have Yb21 : Box (w9.alloc (.cells #[.int .i64 C, .int .i64 D] 24)) w9.heap.size #[.int .i64 C, .int .i64 D] := (Box.new w9 _ _)
              have hBX : Below w.heap.size w (w9.alloc (.cells #[.int .i64 C, .int .i64 D] 24)) := by go_grown
              clear hB9 hs9 Xb5_9 Xb7_9 Xb8_9 Xb10_9 Xb14_9 Xb20_9
              generalize (w9.alloc (.cells #[.int .i64 C, .int .i64 D] 24)) = XW1 at *
              have hsX := hBX.size
              have rd5 := fun dz os => (Yb5.regrown dz os).2.1
              have rd10 := fun dz os => (Yb10.regrown dz os).2.1
              have rd21 := fun dz os => (Yb21.regrown dz os).2.1
              have kc161 := fun dz os => (HI.out (Go.Sort.grow (redrawn XW1 dz) os)).regrown_of
              have kc165 := fun dz os => (HL.out (Go.Sort.grow (redrawn XW1 dz) os)).regrown_of
              have Zb5 := Lib.hid Yb5
              have Zb7 := Lib.hid Yb7
              have Zb8 := Lib.hid Yb8
              have Zb10 := Lib.hid Yb10
              have Zb14 := Lib.hid Yb14
              have Zb20 := Lib.hid Yb20
              have Zb21 := Lib.hid Yb21
              clear Yb5 Yb7 Yb8 Yb10 Yb14 Yb20 Yb21
              refine wp_region_quiet_below (by kernel_rfl) (by kernel_rfl) ?_
              repeat ((with_reducible refine wpQuiet_step (fun K hK => ?_)); go_simp; first | ((with_reducible refine hK _ ?_); clear hK K) | (apply Exists.intro; refine ⟨fun _ => ?_, hK _ ?_⟩; (first | (go_at_call 61; with_reducible exact kc161 _ _) | (go_at_call 60; with_reducible exact kc165 _ _)); clear hK K))
              with_reducible refine wpQuiet_nil ?_
              intro w10 hw'
              obtain ⟨⟨dq, osq⟩, hw''⟩ := hw'
              have hb10 : Below XW1.heap.size XW1 w10 := by rw [hw'']; exact below_regrown XW1 dq osq
              have Xb5_10 : Box w10 (w.heap.size + 1 + 1) #[.int .u8 v0, .int .u8 v1, .int .u8 v2, .int .u8 v3] := Zb5.out.below hb10
              have Xb7_10 : Box w10 w1.heap.size #[.int .i64 (F 0), .int .i64 (F 1)] := Zb7.out.below hb10
              have Xb8_10 : Box w10 w2.heap.size #[.int .i64 (F 2), .int .i64 (F 3)] := Zb8.out.below hb10
              have Xb10_10 : Box w10 w3.heap.size #[.int .i64 (F 5), .int .i64 (F 6)] := Zb10.out.below hb10
              have Xb14_10 : Box w10 w4.heap.size #[.func (.func 64) #[] #[]] := Zb14.out.below hb10
              have Xb20_10 : Box w10 w7.heap.size #[.int .i64 A, .int .i64 B] := Zb20.out.below hb10
              have Xb21_10 : Box w10 w9.heap.size #[.int .i64 C, .int .i64 D] := Zb21.out.below hb10
              have hB10 : Below w.heap.size w w10 := stepB hBX hb10
              have hs10 := hB10.size
              clear hw'' hb10 hBX hsX rd5 rd10 rd21 kc161 kc165 Zb5 Zb7 Zb8 Zb10 Zb14 Zb20 Zb21
              go_wp2
              go_roundw
              case rel => exact ⟨j + 1, by omega, by go_num, congrArg (Value.int IntKind.i64) (by rw [show ((j + 1 : Nat) : Int) = j + 1 by omega, HE.out, if_pos (by have := HIN.out; omega)]), Xb5_10, Xb7_10, Xb8_10, Xb10_10, Xb14_10, hB10⟩
              case measure => simp [intOf]; omega
          · have hjg3 : g = j := by omega
            subst hjg3
            rw [if_pos (by have := H1.out; omega)] at hc
            subst hc
            go_wp2_with fail
            refine (known_any _).mono ?_
            rintro e w7 ⟨rfl, hb7⟩
            have hB7 : Below w.heap.size w w7 := stepB (by go_grown) hb7
            have hs7 := hB7.size
            clear hb7 hBr hsr Y5 Y7 Y8 Y10 Y14
            go_wp2
            go_returns
            exact ⟨rfl, hB7⟩
end Go.Proofs.Ytpmeahmjmpgbfaa
