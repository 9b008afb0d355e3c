/- ZonePlated: its ways. Made by tools/gen_zplated.py. -/
import Derived.Test.YtpmeahmjmpgbfaaZPl0
import Derived.Deep.DeepCutAuto
namespace Go.Proofs.Ytpmeahmjmpgbfaa
open Go.ChangeShapes Go.WideShapes Go.ChangeAt Go.RowKit
set_option linter.unusedVariables false
set_option linter.unusedSimpArgs false

set_option maxRecDepth 100000 in
set_option maxHeartbeats 16000000 in
theorem zpl_no0 (F : Nat → Int) (N : Nat → Bool) (z0 z1 x0 x1 v0 v1 v2 v3 bl bh : Int) (Z0 : IntKind.i64.wrap z0 = z0) (Y0 : IntKind.i64.wrap (z0 - 30000) = F 0) (Z1 : IntKind.i64.wrap z1 = z1) (R1 : z1.tmod 600 = F 11) (R1e : z1 % 600 = F 11) (R1w : IntKind.i64.wrap (F 11) = F 11) (Y1 : IntKind.i64.wrap (F 0 + F 11) = F 1) (B0 : v0.tmod 2 = F 12) (B0e : v0 % 2 = F 12) (B0w : IntKind.u8.wrap (F 12) = F 12) (BN : (F 12 == 1) = N 0) (X0 : IntKind.i64.wrap x0 = x0) (X1 : IntKind.i64.wrap x1 = x1) (R2 : x1.tmod 40 = F 13) (R2e : x1 % 40 = F 13) (R2w : IntKind.i64.wrap (F 13) = F 13) (Y2 : IntKind.i64.wrap (x0 + F 13) = F 2) (V1 : IntKind.i64.wrap v1 = v1) (R3 : v1.tmod 40 = F 14) (R3e : v1 % 40 = F 14) (R3w : IntKind.i64.wrap (F 14) = F 14) (Y3 : IntKind.i64.wrap (1 + F 14) = F 3) (V2 : IntKind.i64.wrap v2 = v2) (R4 : v2.tmod 9 = F 15) (R4e : v2 % 9 = F 15) (R4w : IntKind.i64.wrap (F 15) = F 15) (Y4 : IntKind.i64.wrap (1 + F 15) = F 4) (V3 : IntKind.i64.wrap v3 = v3) (HI1 : Hid (∀ w : World, Calls Try.prog 61 #[.agg #[.int .i64 x0, .int .i64 (F 2)], .int .i64 v3] w fun e w' => e = .returned (.int .i64 (F 5)) ∧ Below w.heap.size w w')) (HI2 : Hid (∀ w : World, Calls Try.prog 61 #[.agg #[.int .i64 (F 0), .int .i64 (F 1)], .int .i64 v2] w fun e w' => e = .returned (.int .i64 (F 6)) ∧ Below w.heap.size w w')) (HG : Hid (grw (N 0) (F 6) (F 5) (F 3) (F 4) = F 7)) (HD : Hid ((-100000000 ≤ F 6 ∧ F 6 ≤ 100000000) ∧ (0 ≤ F 5 ∧ F 5 ≤ 10000) ∧ (1 ≤ F 3 ∧ F 3 ≤ 1000) ∧ (1 ≤ F 4 ∧ F 4 ≤ 1000))) (HSP : Hid ((-100000000 ≤ F 0 ∧ F 0 ≤ 100000000) ∧ (-100000000 ≤ F 1 ∧ F 1 ≤ 100000000))) (L1 : decide (F 7 < bl * F 4) = false) (L2 : decide (bh * F 4 < F 7) = false) (LW1 : IntKind.i64.wrap (bl * F 4) = (bl * F 4)) (LW2 : IntKind.i64.wrap (bh * F 4) = (bh * F 4)) (HB : Hid (∀ w : World, Calls Try.prog 35 #[.agg #[.int .i64 (F 0), .int .i64 (F 1)], .bool (N 0), .agg #[.int .i64 x0, .int .i64 (F 2), .int .i64 (F 3), .int .i64 (F 4)]] w fun e w' => e = .returned (.tuple #[.agg #[.int .i64 0, .int .i64 0], .int .i64 9]) ∧ Below w.heap.size w w')) (HA : Hid (∀ w : World, Calls Try.prog 36 #[.agg #[.int .i64 (F 0), .int .i64 (F 1)], .bool (N 0), .agg #[.int .i64 x0, .int .i64 (F 2), .int .i64 (F 3), .int .i64 (F 4)]] w fun e w' => e = .returned (.tuple #[.agg #[.int .i64 bl, .int .i64 bh], .int .i64 0]) ∧ Below w.heap.size w w')) (Q1 : IntKind.i64.wrap (F 0 - 2000) = (F 0 - 2000)) (Q2 : IntKind.i64.wrap (F 1 + 2000) = (F 1 + 2000)) (HI3 : Hid (∀ w : World, Calls Try.prog 61 #[.agg #[.int .i64 (F 0 - 2000), .int .i64 (F 1 + 2000)], .int .i64 z0] w fun e w' => e = .returned (.int .i64 (F 8)) ∧ Below w.heap.size w w')) (HD2 : Hid ((-100000000 ≤ F 8 ∧ F 8 ≤ 100000000) ∧ (0 ≤ x0 ∧ x0 ≤ 10000) ∧ (1 ≤ F 3 ∧ F 3 ≤ 1000) ∧ (1 ≤ F 4 ∧ F 4 ≤ 1000))) (HD3 : Hid ((-100000000 ≤ F 8 ∧ F 8 ≤ 100000000) ∧ (0 ≤ F 2 ∧ F 2 ≤ 10000) ∧ (1 ≤ F 3 ∧ F 3 ≤ 1000) ∧ (1 ≤ F 4 ∧ F 4 ≤ 1000))) (HO1 : Hid (inB (F 0 * F 4) (F 1 * F 4) (grw (N 0) (F 8) x0 (F 3) (F 4)) = false)) (w : World) :
    Calls Try.prog 11 #[.agg #[.int .u16 z0, .int .u16 z1], .agg #[.int .u8 x0, .int .u8 x1], .agg #[.int .u8 v0, .int .u8 v1, .int .u8 v2, .int .u8 v3]] w fun e w' => e = .returned (.bool true) ∧ Below w.heap.size w w' := by
  have qS := eqSk
  go_enter Try.func11, Try.ntmps11
  go_wp2
  have Yb3 : Box (((w.alloc (.cells #[.int .u16 z0, .int .u16 z1] 125)).alloc (.cells #[.int .u8 x0, .int .u8 x1] 126)).alloc (.cells #[.int .u8 v0, .int .u8 v1, .int .u8 v2, .int .u8 v3] 117)) w.heap.size #[.int .u16 z0, .int .u16 z1] := (Box.alloc (Box.alloc (Box.new w _ _) _) _)
  have Yb4 : Box (((w.alloc (.cells #[.int .u16 z0, .int .u16 z1] 125)).alloc (.cells #[.int .u8 x0, .int .u8 x1] 126)).alloc (.cells #[.int .u8 v0, .int .u8 v1, .int .u8 v2, .int .u8 v3] 117)) (w.heap.size + 1) #[.int .u8 x0, .int .u8 x1] := (Box.alloc (Box.newAt (w.alloc _) _ _ (by simp)) _)
  have Yb5 : Box (((w.alloc (.cells #[.int .u16 z0, .int .u16 z1] 125)).alloc (.cells #[.int .u8 x0, .int .u8 x1] 126)).alloc (.cells #[.int .u8 v0, .int .u8 v1, .int .u8 v2, .int .u8 v3] 117)) (w.heap.size + 1 + 1) #[.int .u8 v0, .int .u8 v1, .int .u8 v2, .int .u8 v3] := (Box.newAt ((w.alloc _).alloc _) _ _ (by simp))
  have hBX : Below w.heap.size w (((w.alloc (.cells #[.int .u16 z0, .int .u16 z1] 125)).alloc (.cells #[.int .u8 x0, .int .u8 x1] 126)).alloc (.cells #[.int .u8 v0, .int .u8 v1, .int .u8 v2, .int .u8 v3] 117)) := by go_grown
  generalize (((w.alloc (.cells #[.int .u16 z0, .int .u16 z1] 125)).alloc (.cells #[.int .u8 x0, .int .u8 x1] 126)).alloc (.cells #[.int .u8 v0, .int .u8 v1, .int .u8 v2, .int .u8 v3] 117)) = XW1 at *
  have Zb3 := Lib.hid Yb3
  have Zb4 := Lib.hid Yb4
  have Zb5 := Lib.hid Yb5
  have ZBX := Lib.hid hBX
  clear hBX Yb3 Yb4 Yb5
  refine wp_region_float2s 12 8 9 #[.int .i64 0, .int .i64 0] #[.int .i64 (F 0), .int .i64 (F 1)] #[.bool false] 24 4 (fun g w => ((w.setCell ⟨g, 0, none⟩ (.int .i64 (F 0))).setCell ⟨g, 1, none⟩ (.int .i64 (F 1)))) (by kernel_rfl) (by kernel_rfl) ?A1 ?A2 ?ST ?E
  case A1 =>
    intro a w K hK
    unfold wpOp
    simp only [List.getElem?_toArray, List.getElem?_cons_succ, List.getElem?_cons_zero]
    go_simp
    exact .inl hK
  case A2 =>
    intro a w K hK
    unfold wpOp
    simp only [List.getElem?_toArray, List.getElem?_cons_succ, List.getElem?_cons_zero]
    go_simp
    exact .inl hK
  case ST =>
    intro g w hb
    exact ⟨(Box.setCell (Box.setCell hb (i := 0) (by simp) (.int .i64 (F 0))) (i := 1) (by simp) (.int .i64 (F 1))), fun X hX hg => (Below.setCell (Below.setCell hX (p := ⟨g, 0, none⟩) hg (.int .i64 (F 0))) (p := ⟨g, 1, none⟩) hg (.int .i64 (F 1))), fun h c hne hc => (Box.setOther (Box.setOther hc (g' := g) (i := 0) (Ne.symm hne) (.int .i64 (F 0))) (g' := g) (i := 1) (Ne.symm hne) (.int .i64 (F 1)))⟩
  case E =>
    apply Exists.intro
    apply And.intro
    intro X' hX
    have rd3 := fun dz os => ((Zb3.out.below hX).regrown dz os).2.1
    have rd5 := fun dz os => ((Zb5.out.below hX).regrown dz os).2.1
    have kc35 := fun dz os => (lspan_any (F 0) (F 1) (Go.Sort.grow (redrawn X' dz) os)).regrown_of
    simp only [List.take_succ_cons, List.take_zero]
    unfold InB
    repeat ((with_reducible refine wpQuiet_step (fun K hK => ?_)); go_simp; first | ((with_reducible refine hK _ ?_); clear hK K) | (apply Exists.intro; refine ⟨fun _ => ?_, hK _ ?_⟩; (first | (go_at_call 40; with_reducible exact kc35 _ _)); clear hK K))
    exact wpQuiet_nil rfl
    apply And.intro
    intro g h
    refine ⟨_, rfl, rfl, rfl, fun w hw => ?_⟩
    have c1' := hw.2.1
    have f1' := hw.2.2
    have l1' := hw.1
    simp only [execOp, Act.put, Act.eval, ptrV]
    go_simp
    intro p1_1 p2_1 u1 hb1 B1 B2 hne hg1 hg2
    have hsX := ZBX.out.size
    have c2' := B2.2.1
    have f2' := B2.2.2
    have l2' := B2.1
    have Y1 : Box _ p1_1 #[.int .i64 (F 0), .int .i64 (F 1)] := (Box.setOther B1 (g' := p2_1) (i := 0) (Ne.symm hne) (.bool (N 0)))
    have Y2 : Box _ p2_1 #[.bool (N 0)] := (Box.setCell B2 (i := 0) (by simp) (.bool (N 0)))
    have hBW := (Below.setCell hb1 (p := ⟨p2_1, 0, none⟩) hg2 (.bool (N 0)))
    have HBS := Lib.hid (And.intro Y1 (And.intro Y2 hBW))
    clear Y1 Y2 hBW B1
    simp only [List.drop_succ_cons, List.drop_zero, Act.put, ptrV]
    go_wp2
    clear B2 c2' f2' l2' hb1
    generalize (u1.setCell ⟨p2_1, 0, none⟩ (.bool (N 0))) = w1 at *
    obtain ⟨Xb8_1, Xb9_1, hb1⟩ := HBS.out
    clear HBS
    have Xb3_1 : Box w1 w.heap.size #[.int .u16 z0, .int .u16 z1] := Zb3.out.below hb1
    have Xb4_1 : Box w1 (w.heap.size + 1) #[.int .u8 x0, .int .u8 x1] := Zb4.out.below hb1
    have Xb5_1 : Box w1 (w.heap.size + 1 + 1) #[.int .u8 v0, .int .u8 v1, .int .u8 v2, .int .u8 v3] := Zb5.out.below hb1
    have hB1 : Below w.heap.size w w1 := ZBX.out.trans (hb1.mono hsX)
    have hs1 := hB1.size
    clear hb1 ZBX hsX hg1 hg2 hne Zb3 Zb4 Zb5
    go_wp2
    have Yb3 : Box w1 w.heap.size #[.int .u16 z0, .int .u16 z1] := Xb3_1
    have Yb4 : Box w1 (w.heap.size + 1) #[.int .u8 x0, .int .u8 x1] := Xb4_1
    have Yb5 : Box w1 (w.heap.size + 1 + 1) #[.int .u8 v0, .int .u8 v1, .int .u8 v2, .int .u8 v3] := Xb5_1
    have Yb8 : Box w1 p1_1 #[.int .i64 (F 0), .int .i64 (F 1)] := Xb8_1
    have Yb9 : Box w1 p2_1 #[.bool (N 0)] := Xb9_1
    have hBX : Below w.heap.size w w1 := by go_grown
    clear hB1 hs1 Xb3_1 Xb4_1 Xb5_1 Xb8_1 Xb9_1
    have Zb3 := Lib.hid Yb3
    have Zb4 := Lib.hid Yb4
    have Zb5 := Lib.hid Yb5
    have Zb8 := Lib.hid Yb8
    have Zb9 := Lib.hid Yb9
    have ZBX := Lib.hid hBX
    clear hBX Yb3 Yb4 Yb5 Yb8 Yb9
    refine wp_region_float1 24 10 #[.int .i64 0, .int .i64 0, .int .i64 0, .int .i64 0] 78 (by kernel_rfl) (by kernel_rfl) ?A1 ?E
    case A1 =>
      intro a w K hK
      unfold wpOp
      simp only [List.getElem?_toArray, List.getElem?_cons_succ, List.getElem?_cons_zero]
      go_simp
      exact .inl hK
    case E =>
      apply Exists.intro
      apply And.intro
      intro X' hX
      have rd4 := fun dz os => ((Zb4.out.below hX).regrown dz os).2.1
      have rd5 := fun dz os => ((Zb5.out.below hX).regrown dz os).2.1
      have kc51 := fun dz os => (lspan_any x0 (F 2) (Go.Sort.grow (redrawn X' dz) os)).regrown_of
      simp only [List.take_succ_cons, List.take_zero]
      unfold InB
      repeat ((with_reducible refine wpQuiet_step (fun K hK => ?_)); go_simp; first | ((with_reducible refine hK _ ?_); clear hK K) | (apply Exists.intro; refine ⟨fun _ => ?_, hK _ ?_⟩; (first | (go_at_call 40; with_reducible exact kc51 _ _)); clear hK K))
      exact wpQuiet_nil rfl
      intro p1_2 u2 hb2 B1 hg1
      have hsX := ZBX.out.size
      have c1' := B1.2.1
      have f1' := B1.2.2
      have l1' := B1.1
      have Y1 : Box _ p1_2 #[.int .i64 x0, .int .i64 (F 2), .int .i64 (F 3), .int .i64 (F 4)] := (Box.setCell (Box.setCell (Box.setCell (Box.setCell B1 (i := 0) (by simp) (.int .i64 x0)) (i := 1) (by simp) (.int .i64 (F 2))) (i := 2) (by simp) (.int .i64 (F 3))) (i := 3) (by simp) (.int .i64 (F 4)))
      have hBW := (Below.setCell (Below.setCell (Below.setCell (Below.setCell hb2 (p := ⟨p1_2, 0, none⟩) hg1 (.int .i64 x0)) (p := ⟨p1_2, 1, none⟩) hg1 (.int .i64 (F 2))) (p := ⟨p1_2, 2, none⟩) hg1 (.int .i64 (F 3))) (p := ⟨p1_2, 3, none⟩) hg1 (.int .i64 (F 4)))
      have HBS := Lib.hid (And.intro Y1 hBW)
      clear Y1 hBW
      simp only [List.drop_succ_cons, List.drop_zero, Act.put, ptrV]
      skip
      go_upto_region 4 with fail
      clear B1 c1' f1' l1' hb2
      generalize ((((u2.setCell ⟨p1_2, 0, none⟩ (.int .i64 x0)).setCell ⟨p1_2, 1, none⟩ (.int .i64 (F 2))).setCell ⟨p1_2, 2, none⟩ (.int .i64 (F 3))).setCell ⟨p1_2, 3, none⟩ (.int .i64 (F 4))) = w2 at *
      obtain ⟨Xb10_2, hb2⟩ := HBS.out
      clear HBS
      have Xb3_2 : Box w2 w.heap.size #[.int .u16 z0, .int .u16 z1] := Zb3.out.below hb2
      have Xb4_2 : Box w2 (w.heap.size + 1) #[.int .u8 x0, .int .u8 x1] := Zb4.out.below hb2
      have Xb5_2 : Box w2 (w.heap.size + 1 + 1) #[.int .u8 v0, .int .u8 v1, .int .u8 v2, .int .u8 v3] := Zb5.out.below hb2
      have Xb8_2 : Box w2 p1_1 #[.int .i64 (F 0), .int .i64 (F 1)] := Zb8.out.below hb2
      have Xb9_2 : Box w2 p2_1 #[.bool (N 0)] := Zb9.out.below hb2
      have hB2 : Below w.heap.size w w2 := ZBX.out.trans (hb2.mono hsX)
      have hs2 := hB2.size
      clear hb2 ZBX hsX hg1 Zb3 Zb4 Zb5 Zb8 Zb9
      have cc8 := Xb8_2.2.1
      have ll8 := Xb8_2.1
      have cc9 := Xb9_2.2.1
      have ll9 := Xb9_2.1
      have cc10 := Xb10_2.2.1
      have ll10 := Xb10_2.1
      go_wp2_with fail
      refine (HB.out _).mono ?_
      rintro e w3 ⟨rfl, hb3⟩
      have Xb3_3 : Box w3 w.heap.size #[.int .u16 z0, .int .u16 z1] := Box.below (Box.alloc Xb3_2 _) hb3
      have Xb4_3 : Box w3 (w.heap.size + 1) #[.int .u8 x0, .int .u8 x1] := Box.below (Box.alloc Xb4_2 _) hb3
      have Xb5_3 : Box w3 (w.heap.size + 1 + 1) #[.int .u8 v0, .int .u8 v1, .int .u8 v2, .int .u8 v3] := Box.below (Box.alloc Xb5_2 _) hb3
      have Xb8_3 : Box w3 p1_1 #[.int .i64 (F 0), .int .i64 (F 1)] := Box.below (Box.alloc Xb8_2 _) hb3
      have Xb9_3 : Box w3 p2_1 #[.bool (N 0)] := Box.below (Box.alloc Xb9_2 _) hb3
      have Xb10_3 : Box w3 p1_2 #[.int .i64 x0, .int .i64 (F 2), .int .i64 (F 3), .int .i64 (F 4)] := Box.below (Box.alloc Xb10_2 _) hb3
      have Xb11_3 : Box w3 w2.heap.size #[.func (.func 62) #[] #[.pointer (some ⟨p2_1, 0, none⟩), .pointer (some ⟨p1_2, 0, none⟩)]] := Box.below (Box.new w2 _ _) hb3
      have hB3 : Below w.heap.size w w3 := stepB (by go_grown) hb3
      have hs3 := hB3.size
      clear hb3 hB2 hs2 Xb3_2 Xb4_2 Xb5_2 Xb8_2 Xb9_2 Xb10_2 cc8 ll8 cc9 ll9 cc10 ll10
      have cc8 := Xb8_3.2.1
      have ll8 := Xb8_3.1
      have cc9 := Xb9_3.2.1
      have ll9 := Xb9_3.1
      have cc10 := Xb10_3.2.1
      have ll10 := Xb10_3.1
      go_wp2_with fail
      refine (HA.out _).mono ?_
      rintro e w4 ⟨rfl, hb4⟩
      have Xb3_4 : Box w4 w.heap.size #[.int .u16 z0, .int .u16 z1] := Box.below (Box.alloc Xb3_3 _) hb4
      have Xb4_4 : Box w4 (w.heap.size + 1) #[.int .u8 x0, .int .u8 x1] := Box.below (Box.alloc Xb4_3 _) hb4
      have Xb5_4 : Box w4 (w.heap.size + 1 + 1) #[.int .u8 v0, .int .u8 v1, .int .u8 v2, .int .u8 v3] := Box.below (Box.alloc Xb5_3 _) hb4
      have Xb8_4 : Box w4 p1_1 #[.int .i64 (F 0), .int .i64 (F 1)] := Box.below (Box.alloc Xb8_3 _) hb4
      have Xb9_4 : Box w4 p2_1 #[.bool (N 0)] := Box.below (Box.alloc Xb9_3 _) hb4
      have Xb10_4 : Box w4 p1_2 #[.int .i64 x0, .int .i64 (F 2), .int .i64 (F 3), .int .i64 (F 4)] := Box.below (Box.alloc Xb10_3 _) hb4
      have Xb11_4 : Box w4 w2.heap.size #[.func (.func 62) #[] #[.pointer (some ⟨p2_1, 0, none⟩), .pointer (some ⟨p1_2, 0, none⟩)]] := Box.below (Box.alloc Xb11_3 _) hb4
      have Xb13_4 : Box w4 w3.heap.size #[.int .i64 0, .int .i64 0] := Box.below (Box.new w3 _ _) hb4
      have hB4 : Below w.heap.size w w4 := stepB (by go_grown) hb4
      have hs4 := hB4.size
      clear hb4 hB3 hs3 Xb3_3 Xb4_3 Xb5_3 Xb8_3 Xb9_3 Xb10_3 Xb11_3 cc8 ll8 cc9 ll9 cc10 ll10
      have cc5 := Xb5_4.2.1
      have ll5 := Xb5_4.1
      have lm5_0 : w.heap.size < w4.heap.size := by have := ll5; omega
      have lm5_1 : w.heap.size + 1 < w4.heap.size := by have := ll5; omega
      have cc10 := Xb10_4.2.1
      have ll10 := Xb10_4.1
      go_wp2_with fail
      refine (HI1.out _).mono ?_
      rintro e w5 ⟨rfl, hb5⟩
      have Xb3_5 : Box w5 w.heap.size #[.int .u16 z0, .int .u16 z1] := Box.below (Box.alloc Xb3_4 _) hb5
      have Xb4_5 : Box w5 (w.heap.size + 1) #[.int .u8 x0, .int .u8 x1] := Box.below (Box.alloc Xb4_4 _) hb5
      have Xb5_5 : Box w5 (w.heap.size + 1 + 1) #[.int .u8 v0, .int .u8 v1, .int .u8 v2, .int .u8 v3] := Box.below (Box.alloc Xb5_4 _) hb5
      have Xb8_5 : Box w5 p1_1 #[.int .i64 (F 0), .int .i64 (F 1)] := Box.below (Box.alloc Xb8_4 _) hb5
      have Xb9_5 : Box w5 p2_1 #[.bool (N 0)] := Box.below (Box.alloc Xb9_4 _) hb5
      have Xb10_5 : Box w5 p1_2 #[.int .i64 x0, .int .i64 (F 2), .int .i64 (F 3), .int .i64 (F 4)] := Box.below (Box.alloc Xb10_4 _) hb5
      have Xb11_5 : Box w5 w2.heap.size #[.func (.func 62) #[] #[.pointer (some ⟨p2_1, 0, none⟩), .pointer (some ⟨p1_2, 0, none⟩)]] := Box.below (Box.alloc Xb11_4 _) hb5
      have Xb13_5 : Box w5 w3.heap.size #[.int .i64 0, .int .i64 0] := Box.below (Box.alloc Xb13_4 _) hb5
      have Xb15_5 : Box w5 w4.heap.size #[.int .i64 bl, .int .i64 bh] := Box.below (Box.new w4 _ _) hb5
      have hB5 : Below w.heap.size w w5 := stepB (by go_grown) hb5
      have hs5 := hB5.size
      clear hb5 hB4 hs4 Xb3_4 Xb4_4 Xb5_4 Xb8_4 Xb9_4 Xb10_4 Xb11_4 Xb13_4 cc5 ll5 lm5_0 lm5_1 cc10 ll10
      have cc5 := Xb5_5.2.1
      have ll5 := Xb5_5.1
      have lm5_0 : w.heap.size < w5.heap.size := by have := ll5; omega
      have lm5_1 : w.heap.size + 1 < w5.heap.size := by have := ll5; omega
      have cc8 := Xb8_5.2.1
      have ll8 := Xb8_5.1
      go_wp2_with fail
      refine (HI2.out _).mono ?_
      rintro e w6 ⟨rfl, hb6⟩
      have Xb3_6 : Box w6 w.heap.size #[.int .u16 z0, .int .u16 z1] := Box.below Xb3_5 hb6
      have Xb4_6 : Box w6 (w.heap.size + 1) #[.int .u8 x0, .int .u8 x1] := Box.below Xb4_5 hb6
      have Xb5_6 : Box w6 (w.heap.size + 1 + 1) #[.int .u8 v0, .int .u8 v1, .int .u8 v2, .int .u8 v3] := Box.below Xb5_5 hb6
      have Xb8_6 : Box w6 p1_1 #[.int .i64 (F 0), .int .i64 (F 1)] := Box.below Xb8_5 hb6
      have Xb9_6 : Box w6 p2_1 #[.bool (N 0)] := Box.below Xb9_5 hb6
      have Xb10_6 : Box w6 p1_2 #[.int .i64 x0, .int .i64 (F 2), .int .i64 (F 3), .int .i64 (F 4)] := Box.below Xb10_5 hb6
      have Xb11_6 : Box w6 w2.heap.size #[.func (.func 62) #[] #[.pointer (some ⟨p2_1, 0, none⟩), .pointer (some ⟨p1_2, 0, none⟩)]] := Box.below Xb11_5 hb6
      have Xb13_6 : Box w6 w3.heap.size #[.int .i64 0, .int .i64 0] := Box.below Xb13_5 hb6
      have Xb15_6 : Box w6 w4.heap.size #[.int .i64 bl, .int .i64 bh] := Box.below Xb15_5 hb6
      have hB6 : Below w.heap.size w w6 := stepB (by go_grown) hb6
      have hs6 := hB6.size
      clear hb6 hB5 hs5 Xb3_5 Xb4_5 Xb5_5 Xb8_5 Xb9_5 Xb10_5 Xb11_5 Xb13_5 Xb15_5 cc5 ll5 lm5_0 lm5_1 cc8 ll8
      go_wp2
      have Yb3 : Box w6 w.heap.size #[.int .u16 z0, .int .u16 z1] := Xb3_6
      have Yb4 : Box w6 (w.heap.size + 1) #[.int .u8 x0, .int .u8 x1] := Xb4_6
      have Yb5 : Box w6 (w.heap.size + 1 + 1) #[.int .u8 v0, .int .u8 v1, .int .u8 v2, .int .u8 v3] := Xb5_6
      have Yb8 : Box w6 p1_1 #[.int .i64 (F 0), .int .i64 (F 1)] := Xb8_6
      have Yb9 : Box w6 p2_1 #[.bool (N 0)] := Xb9_6
      have Yb10 : Box w6 p1_2 #[.int .i64 x0, .int .i64 (F 2), .int .i64 (F 3), .int .i64 (F 4)] := Xb10_6
      have Yb11 : Box w6 w2.heap.size #[.func (.func 62) #[] #[.pointer (some ⟨p2_1, 0, none⟩), .pointer (some ⟨p1_2, 0, none⟩)]] := Xb11_6
      have Yb13 : Box w6 w3.heap.size #[.int .i64 0, .int .i64 0] := Xb13_6
      have Yb15 : Box w6 w4.heap.size #[.int .i64 bl, .int .i64 bh] := Xb15_6
      have hBX : Below w.heap.size w w6 := by go_grown
      clear hB6 hs6 Xb3_6 Xb4_6 Xb5_6 Xb8_6 Xb9_6 Xb10_6 Xb11_6 Xb13_6 Xb15_6
      have hsX := hBX.size
      have rd10 := fun dz os => (Yb10.regrown dz os).2.1
      have rd11 := fun dz os => (Yb11.regrown dz os).2.1
      have rd15 := fun dz os => (Yb15.regrown dz os).2.1
      have kc97 := fun dz os => (plgrown_any (Go.Sort.grow (redrawn w6 dz) os) (N 0) (F 6) (F 5) x0 (F 2) (F 3) (F 4) (F 7) _ _ HG HD (Yb9.regrown dz os) (Yb10.regrown dz os)).regrown_of
      have kc110 := fun dz os => (plgrown_any (Go.Sort.grow (redrawn w6 dz) os) (N 0) (F 6) (F 5) x0 (F 2) (F 3) (F 4) (F 7) _ _ HG HD (Yb9.regrown dz os) (Yb10.regrown dz os)).regrown_of
      have Zb3 := Lib.hid Yb3
      have Zb4 := Lib.hid Yb4
      have Zb5 := Lib.hid Yb5
      have Zb8 := Lib.hid Yb8
      have Zb9 := Lib.hid Yb9
      have Zb10 := Lib.hid Yb10
      have Zb11 := Lib.hid Yb11
      have Zb13 := Lib.hid Yb13
      clear Yb3 Yb4 Yb5 Yb8 Yb9 Yb10 Yb11 Yb13 Yb15
      refine wp_region_quiet_below (by kernel_rfl) (by kernel_rfl) ?_
      repeat ((with_reducible refine wpQuiet_step (fun K hK => ?_)); go_simp; first | ((with_reducible refine hK _ ?_); clear hK K) | (apply Exists.intro; refine ⟨fun _ => ?_, hK _ ?_⟩; (first | (go_at_call 62; with_reducible exact kc97 _ _) | (go_at_call 62; with_reducible exact kc110 _ _)); clear hK K))
      with_reducible refine wpQuiet_nil ?_
      intro w7 hw'
      obtain ⟨⟨dq, osq⟩, hw''⟩ := hw'
      have hb7 : Below w6.heap.size w6 w7 := by rw [hw'']; exact below_regrown w6 dq osq
      have Xb3_7 : Box w7 w.heap.size #[.int .u16 z0, .int .u16 z1] := Zb3.out.below hb7
      have Xb4_7 : Box w7 (w.heap.size + 1) #[.int .u8 x0, .int .u8 x1] := Zb4.out.below hb7
      have Xb5_7 : Box w7 (w.heap.size + 1 + 1) #[.int .u8 v0, .int .u8 v1, .int .u8 v2, .int .u8 v3] := Zb5.out.below hb7
      have Xb8_7 : Box w7 p1_1 #[.int .i64 (F 0), .int .i64 (F 1)] := Zb8.out.below hb7
      have Xb9_7 : Box w7 p2_1 #[.bool (N 0)] := Zb9.out.below hb7
      have Xb10_7 : Box w7 p1_2 #[.int .i64 x0, .int .i64 (F 2), .int .i64 (F 3), .int .i64 (F 4)] := Zb10.out.below hb7
      have Xb11_7 : Box w7 w2.heap.size #[.func (.func 62) #[] #[.pointer (some ⟨p2_1, 0, none⟩), .pointer (some ⟨p1_2, 0, none⟩)]] := Zb11.out.below hb7
      have Xb13_7 : Box w7 w3.heap.size #[.int .i64 0, .int .i64 0] := Zb13.out.below hb7
      have hB7 : Below w.heap.size w w7 := stepB hBX hb7
      have hs7 := hB7.size
      clear hw'' hb7 hBX hsX rd10 rd11 rd15 kc97 kc110 Zb3 Zb4 Zb5 Zb8 Zb9 Zb10 Zb11 Zb13
      go_wp2
      have Yb3 : Box w7 w.heap.size #[.int .u16 z0, .int .u16 z1] := Xb3_7
      have Yb4 : Box w7 (w.heap.size + 1) #[.int .u8 x0, .int .u8 x1] := Xb4_7
      have Yb5 : Box w7 (w.heap.size + 1 + 1) #[.int .u8 v0, .int .u8 v1, .int .u8 v2, .int .u8 v3] := Xb5_7
      have Yb8 : Box w7 p1_1 #[.int .i64 (F 0), .int .i64 (F 1)] := Xb8_7
      have Yb9 : Box w7 p2_1 #[.bool (N 0)] := Xb9_7
      have Yb10 : Box w7 p1_2 #[.int .i64 x0, .int .i64 (F 2), .int .i64 (F 3), .int .i64 (F 4)] := Xb10_7
      have Yb11 : Box w7 w2.heap.size #[.func (.func 62) #[] #[.pointer (some ⟨p2_1, 0, none⟩), .pointer (some ⟨p1_2, 0, none⟩)]] := Xb11_7
      have Yb13 : Box w7 w3.heap.size #[.int .i64 0, .int .i64 0] := Xb13_7
      have hBX : Below w.heap.size w w7 := by go_grown
      clear hB7 hs7 Xb3_7 Xb4_7 Xb5_7 Xb8_7 Xb9_7 Xb10_7 Xb11_7 Xb13_7
      have hsX := hBX.size
      have rd3 := fun dz os => (Yb3.regrown dz os).2.1
      have rd8 := fun dz os => (Yb8.regrown dz os).2.1
      have kc127 := fun dz os => (lspan_any (F 0 - 2000) (F 1 + 2000) (Go.Sort.grow (redrawn w7 dz) os)).regrown_of
      have kc131 := fun dz os => (HI3.out (Go.Sort.grow (redrawn w7 dz) os)).regrown_of
      have Zb3 := Lib.hid Yb3
      have Zb4 := Lib.hid Yb4
      have Zb5 := Lib.hid Yb5
      have Zb8 := Lib.hid Yb8
      have Zb9 := Lib.hid Yb9
      have Zb10 := Lib.hid Yb10
      have Zb11 := Lib.hid Yb11
      have Zb13 := Lib.hid Yb13
      clear Yb3 Yb4 Yb5 Yb8 Yb9 Yb10 Yb11 Yb13
      refine wp_region_quiet_below (by kernel_rfl) (by kernel_rfl) ?_
      repeat ((with_reducible refine wpQuiet_step (fun K hK => ?_)); go_simp; first | ((with_reducible refine hK _ ?_); clear hK K) | (apply Exists.intro; refine ⟨fun _ => ?_, hK _ ?_⟩; (first | (go_at_call 40; with_reducible exact kc127 _ _) | (go_at_call 61; with_reducible exact kc131 _ _)); clear hK K))
      with_reducible refine wpQuiet_nil ?_
      intro w8 hw'
      obtain ⟨⟨dq, osq⟩, hw''⟩ := hw'
      have hb8 : Below w7.heap.size w7 w8 := by rw [hw'']; exact below_regrown w7 dq osq
      have Xb3_8 : Box w8 w.heap.size #[.int .u16 z0, .int .u16 z1] := Zb3.out.below hb8
      have Xb4_8 : Box w8 (w.heap.size + 1) #[.int .u8 x0, .int .u8 x1] := Zb4.out.below hb8
      have Xb5_8 : Box w8 (w.heap.size + 1 + 1) #[.int .u8 v0, .int .u8 v1, .int .u8 v2, .int .u8 v3] := Zb5.out.below hb8
      have Xb8_8 : Box w8 p1_1 #[.int .i64 (F 0), .int .i64 (F 1)] := Zb8.out.below hb8
      have Xb9_8 : Box w8 p2_1 #[.bool (N 0)] := Zb9.out.below hb8
      have Xb10_8 : Box w8 p1_2 #[.int .i64 x0, .int .i64 (F 2), .int .i64 (F 3), .int .i64 (F 4)] := Zb10.out.below hb8
      have Xb11_8 : Box w8 w2.heap.size #[.func (.func 62) #[] #[.pointer (some ⟨p2_1, 0, none⟩), .pointer (some ⟨p1_2, 0, none⟩)]] := Zb11.out.below hb8
      have Xb13_8 : Box w8 w3.heap.size #[.int .i64 0, .int .i64 0] := Zb13.out.below hb8
      have hB8 : Below w.heap.size w w8 := stepB hBX hb8
      have hs8 := hB8.size
      clear hw'' hb8 hBX hsX rd3 rd8 kc127 kc131 Zb3 Zb4 Zb5 Zb8 Zb9 Zb10 Zb11 Zb13
      have cc10 := Xb10_8.2.1
      have ll10 := Xb10_8.1
      have cc13 := Xb13_8.2.1
      have ll13 := Xb13_8.1
      go_wp2_with fail
      refine (plok_any _ (N 0) (F 8) x0 (F 0) (F 1) x0 (F 2) (F 3) (F 4) false _ _ _ _ HO1 HD2 HSP Xb11_8 Xb8_8 Xb10_8 Xb9_8).mono ?_
      rintro e w9 ⟨rfl, hb9⟩
      have Xb3_9 : Box w9 w.heap.size #[.int .u16 z0, .int .u16 z1] := Box.below Xb3_8 hb9
      have Xb4_9 : Box w9 (w.heap.size + 1) #[.int .u8 x0, .int .u8 x1] := Box.below Xb4_8 hb9
      have Xb5_9 : Box w9 (w.heap.size + 1 + 1) #[.int .u8 v0, .int .u8 v1, .int .u8 v2, .int .u8 v3] := Box.below Xb5_8 hb9
      have Xb8_9 : Box w9 p1_1 #[.int .i64 (F 0), .int .i64 (F 1)] := Box.below Xb8_8 hb9
      have Xb9_9 : Box w9 p2_1 #[.bool (N 0)] := Box.below Xb9_8 hb9
      have Xb10_9 : Box w9 p1_2 #[.int .i64 x0, .int .i64 (F 2), .int .i64 (F 3), .int .i64 (F 4)] := Box.below Xb10_8 hb9
      have Xb11_9 : Box w9 w2.heap.size #[.func (.func 62) #[] #[.pointer (some ⟨p2_1, 0, none⟩), .pointer (some ⟨p1_2, 0, none⟩)]] := Box.below Xb11_8 hb9
      have Xb13_9 : Box w9 w3.heap.size #[.int .i64 0, .int .i64 0] := Box.below Xb13_8 hb9
      have hB9 : Below w.heap.size w w9 := stepB (by go_grown) hb9
      have hs9 := hB9.size
      clear hb9 hB8 hs8 Xb3_8 Xb4_8 Xb5_8 Xb8_8 Xb9_8 Xb10_8 Xb11_8 Xb13_8 cc10 ll10 cc13 ll13
      have cc10 := Xb10_9.2.1
      have ll10 := Xb10_9.1
      go_wp2_with fail
      refine (known_any _).mono ?_
      rintro e w10 ⟨rfl, hb10⟩
      have Xb3_10 : Box w10 w.heap.size #[.int .u16 z0, .int .u16 z1] := Box.below Xb3_9 hb10
      have Xb4_10 : Box w10 (w.heap.size + 1) #[.int .u8 x0, .int .u8 x1] := Box.below Xb4_9 hb10
      have Xb5_10 : Box w10 (w.heap.size + 1 + 1) #[.int .u8 v0, .int .u8 v1, .int .u8 v2, .int .u8 v3] := Box.below Xb5_9 hb10
      have Xb8_10 : Box w10 p1_1 #[.int .i64 (F 0), .int .i64 (F 1)] := Box.below Xb8_9 hb10
      have Xb9_10 : Box w10 p2_1 #[.bool (N 0)] := Box.below Xb9_9 hb10
      have Xb10_10 : Box w10 p1_2 #[.int .i64 x0, .int .i64 (F 2), .int .i64 (F 3), .int .i64 (F 4)] := Box.below Xb10_9 hb10
      have Xb11_10 : Box w10 w2.heap.size #[.func (.func 62) #[] #[.pointer (some ⟨p2_1, 0, none⟩), .pointer (some ⟨p1_2, 0, none⟩)]] := Box.below Xb11_9 hb10
      have Xb13_10 : Box w10 w3.heap.size #[.int .i64 0, .int .i64 0] := Box.below Xb13_9 hb10
      have hB10 : Below w.heap.size w w10 := stepB (by go_grown) hb10
      have hs10 := hB10.size
      clear hb10 hB9 hs9 Xb3_9 Xb4_9 Xb5_9 Xb8_9 Xb9_9 Xb10_9 Xb11_9 Xb13_9 cc10 ll10
      go_wp2
      go_returns
      exact ⟨rfl, hB10⟩
set_option maxRecDepth 100000 in
set_option maxHeartbeats 16000000 in
theorem zpl_no1 (F : Nat → Int) (N : Nat → Bool) (z0 z1 x0 x1 v0 v1 v2 v3 bl bh : Int) (Z0 : IntKind.i64.wrap z0 = z0) (Y0 : IntKind.i64.wrap (z0 - 30000) = F 0) (Z1 : IntKind.i64.wrap z1 = z1) (R1 : z1.tmod 600 = F 11) (R1e : z1 % 600 = F 11) (R1w : IntKind.i64.wrap (F 11) = F 11) (Y1 : IntKind.i64.wrap (F 0 + F 11) = F 1) (B0 : v0.tmod 2 = F 12) (B0e : v0 % 2 = F 12) (B0w : IntKind.u8.wrap (F 12) = F 12) (BN : (F 12 == 1) = N 0) (X0 : IntKind.i64.wrap x0 = x0) (X1 : IntKind.i64.wrap x1 = x1) (R2 : x1.tmod 40 = F 13) (R2e : x1 % 40 = F 13) (R2w : IntKind.i64.wrap (F 13) = F 13) (Y2 : IntKind.i64.wrap (x0 + F 13) = F 2) (V1 : IntKind.i64.wrap v1 = v1) (R3 : v1.tmod 40 = F 14) (R3e : v1 % 40 = F 14) (R3w : IntKind.i64.wrap (F 14) = F 14) (Y3 : IntKind.i64.wrap (1 + F 14) = F 3) (V2 : IntKind.i64.wrap v2 = v2) (R4 : v2.tmod 9 = F 15) (R4e : v2 % 9 = F 15) (R4w : IntKind.i64.wrap (F 15) = F 15) (Y4 : IntKind.i64.wrap (1 + F 15) = F 4) (V3 : IntKind.i64.wrap v3 = v3) (HI1 : Hid (∀ w : World, Calls Try.prog 61 #[.agg #[.int .i64 x0, .int .i64 (F 2)], .int .i64 v3] w fun e w' => e = .returned (.int .i64 (F 5)) ∧ Below w.heap.size w w')) (HI2 : Hid (∀ w : World, Calls Try.prog 61 #[.agg #[.int .i64 (F 0), .int .i64 (F 1)], .int .i64 v2] w fun e w' => e = .returned (.int .i64 (F 6)) ∧ Below w.heap.size w w')) (HG : Hid (grw (N 0) (F 6) (F 5) (F 3) (F 4) = F 7)) (HD : Hid ((-100000000 ≤ F 6 ∧ F 6 ≤ 100000000) ∧ (0 ≤ F 5 ∧ F 5 ≤ 10000) ∧ (1 ≤ F 3 ∧ F 3 ≤ 1000) ∧ (1 ≤ F 4 ∧ F 4 ≤ 1000))) (HSP : Hid ((-100000000 ≤ F 0 ∧ F 0 ≤ 100000000) ∧ (-100000000 ≤ F 1 ∧ F 1 ≤ 100000000))) (L1 : decide (F 7 < bl * F 4) = false) (L2 : decide (bh * F 4 < F 7) = false) (LW1 : IntKind.i64.wrap (bl * F 4) = (bl * F 4)) (LW2 : IntKind.i64.wrap (bh * F 4) = (bh * F 4)) (HB : Hid (∀ w : World, Calls Try.prog 35 #[.agg #[.int .i64 (F 0), .int .i64 (F 1)], .bool (N 0), .agg #[.int .i64 x0, .int .i64 (F 2), .int .i64 (F 3), .int .i64 (F 4)]] w fun e w' => e = .returned (.tuple #[.agg #[.int .i64 0, .int .i64 0], .int .i64 9]) ∧ Below w.heap.size w w')) (HA : Hid (∀ w : World, Calls Try.prog 36 #[.agg #[.int .i64 (F 0), .int .i64 (F 1)], .bool (N 0), .agg #[.int .i64 x0, .int .i64 (F 2), .int .i64 (F 3), .int .i64 (F 4)]] w fun e w' => e = .returned (.tuple #[.agg #[.int .i64 bl, .int .i64 bh], .int .i64 0]) ∧ Below w.heap.size w w')) (Q1 : IntKind.i64.wrap (F 0 - 2000) = (F 0 - 2000)) (Q2 : IntKind.i64.wrap (F 1 + 2000) = (F 1 + 2000)) (HI3 : Hid (∀ w : World, Calls Try.prog 61 #[.agg #[.int .i64 (F 0 - 2000), .int .i64 (F 1 + 2000)], .int .i64 z0] w fun e w' => e = .returned (.int .i64 (F 8)) ∧ Below w.heap.size w w')) (HD2 : Hid ((-100000000 ≤ F 8 ∧ F 8 ≤ 100000000) ∧ (0 ≤ x0 ∧ x0 ≤ 10000) ∧ (1 ≤ F 3 ∧ F 3 ≤ 1000) ∧ (1 ≤ F 4 ∧ F 4 ≤ 1000))) (HD3 : Hid ((-100000000 ≤ F 8 ∧ F 8 ≤ 100000000) ∧ (0 ≤ F 2 ∧ F 2 ≤ 10000) ∧ (1 ≤ F 3 ∧ F 3 ≤ 1000) ∧ (1 ≤ F 4 ∧ F 4 ≤ 1000))) (HO1 : Hid (inB (F 0 * F 4) (F 1 * F 4) (grw (N 0) (F 8) x0 (F 3) (F 4)) = true)) (HO2 : Hid (inB (F 0 * F 4) (F 1 * F 4) (grw (N 0) (F 8) (F 2) (F 3) (F 4)) = false)) (w : World) :
    Calls Try.prog 11 #[.agg #[.int .u16 z0, .int .u16 z1], .agg #[.int .u8 x0, .int .u8 x1], .agg #[.int .u8 v0, .int .u8 v1, .int .u8 v2, .int .u8 v3]] w fun e w' => e = .returned (.bool true) ∧ Below w.heap.size w w' := by
  have qS := eqSk
  go_enter Try.func11, Try.ntmps11
  go_wp2
  have Yb3 : Box (((w.alloc (.cells #[.int .u16 z0, .int .u16 z1] 125)).alloc (.cells #[.int .u8 x0, .int .u8 x1] 126)).alloc (.cells #[.int .u8 v0, .int .u8 v1, .int .u8 v2, .int .u8 v3] 117)) w.heap.size #[.int .u16 z0, .int .u16 z1] := (Box.alloc (Box.alloc (Box.new w _ _) _) _)
  have Yb4 : Box (((w.alloc (.cells #[.int .u16 z0, .int .u16 z1] 125)).alloc (.cells #[.int .u8 x0, .int .u8 x1] 126)).alloc (.cells #[.int .u8 v0, .int .u8 v1, .int .u8 v2, .int .u8 v3] 117)) (w.heap.size + 1) #[.int .u8 x0, .int .u8 x1] := (Box.alloc (Box.newAt (w.alloc _) _ _ (by simp)) _)
  have Yb5 : Box (((w.alloc (.cells #[.int .u16 z0, .int .u16 z1] 125)).alloc (.cells #[.int .u8 x0, .int .u8 x1] 126)).alloc (.cells #[.int .u8 v0, .int .u8 v1, .int .u8 v2, .int .u8 v3] 117)) (w.heap.size + 1 + 1) #[.int .u8 v0, .int .u8 v1, .int .u8 v2, .int .u8 v3] := (Box.newAt ((w.alloc _).alloc _) _ _ (by simp))
  have hBX : Below w.heap.size w (((w.alloc (.cells #[.int .u16 z0, .int .u16 z1] 125)).alloc (.cells #[.int .u8 x0, .int .u8 x1] 126)).alloc (.cells #[.int .u8 v0, .int .u8 v1, .int .u8 v2, .int .u8 v3] 117)) := by go_grown
  generalize (((w.alloc (.cells #[.int .u16 z0, .int .u16 z1] 125)).alloc (.cells #[.int .u8 x0, .int .u8 x1] 126)).alloc (.cells #[.int .u8 v0, .int .u8 v1, .int .u8 v2, .int .u8 v3] 117)) = XW1 at *
  have Zb3 := Lib.hid Yb3
  have Zb4 := Lib.hid Yb4
  have Zb5 := Lib.hid Yb5
  have ZBX := Lib.hid hBX
  clear hBX Yb3 Yb4 Yb5
  refine wp_region_float2s 12 8 9 #[.int .i64 0, .int .i64 0] #[.int .i64 (F 0), .int .i64 (F 1)] #[.bool false] 24 4 (fun g w => ((w.setCell ⟨g, 0, none⟩ (.int .i64 (F 0))).setCell ⟨g, 1, none⟩ (.int .i64 (F 1)))) (by kernel_rfl) (by kernel_rfl) ?A1 ?A2 ?ST ?E
  case A1 =>
    intro a w K hK
    unfold wpOp
    simp only [List.getElem?_toArray, List.getElem?_cons_succ, List.getElem?_cons_zero]
    go_simp
    exact .inl hK
  case A2 =>
    intro a w K hK
    unfold wpOp
    simp only [List.getElem?_toArray, List.getElem?_cons_succ, List.getElem?_cons_zero]
    go_simp
    exact .inl hK
  case ST =>
    intro g w hb
    exact ⟨(Box.setCell (Box.setCell hb (i := 0) (by simp) (.int .i64 (F 0))) (i := 1) (by simp) (.int .i64 (F 1))), fun X hX hg => (Below.setCell (Below.setCell hX (p := ⟨g, 0, none⟩) hg (.int .i64 (F 0))) (p := ⟨g, 1, none⟩) hg (.int .i64 (F 1))), fun h c hne hc => (Box.setOther (Box.setOther hc (g' := g) (i := 0) (Ne.symm hne) (.int .i64 (F 0))) (g' := g) (i := 1) (Ne.symm hne) (.int .i64 (F 1)))⟩
  case E =>
    apply Exists.intro
    apply And.intro
    intro X' hX
    have rd3 := fun dz os => ((Zb3.out.below hX).regrown dz os).2.1
    have rd5 := fun dz os => ((Zb5.out.below hX).regrown dz os).2.1
    have kc35 := fun dz os => (lspan_any (F 0) (F 1) (Go.Sort.grow (redrawn X' dz) os)).regrown_of
    simp only [List.take_succ_cons, List.take_zero]
    unfold InB
    repeat ((with_reducible refine wpQuiet_step (fun K hK => ?_)); go_simp; first | ((with_reducible refine hK _ ?_); clear hK K) | (apply Exists.intro; refine ⟨fun _ => ?_, hK _ ?_⟩; (first | (go_at_call 40; with_reducible exact kc35 _ _)); clear hK K))
    exact wpQuiet_nil rfl
    apply And.intro
    intro g h
    refine ⟨_, rfl, rfl, rfl, fun w hw => ?_⟩
    have c1' := hw.2.1
    have f1' := hw.2.2
    have l1' := hw.1
    simp only [execOp, Act.put, Act.eval, ptrV]
    go_simp
    intro p1_1 p2_1 u1 hb1 B1 B2 hne hg1 hg2
    have hsX := ZBX.out.size
    have c2' := B2.2.1
    have f2' := B2.2.2
    have l2' := B2.1
    have Y1 : Box _ p1_1 #[.int .i64 (F 0), .int .i64 (F 1)] := (Box.setOther B1 (g' := p2_1) (i := 0) (Ne.symm hne) (.bool (N 0)))
    have Y2 : Box _ p2_1 #[.bool (N 0)] := (Box.setCell B2 (i := 0) (by simp) (.bool (N 0)))
    have hBW := (Below.setCell hb1 (p := ⟨p2_1, 0, none⟩) hg2 (.bool (N 0)))
    have HBS := Lib.hid (And.intro Y1 (And.intro Y2 hBW))
    clear Y1 Y2 hBW B1
    simp only [List.drop_succ_cons, List.drop_zero, Act.put, ptrV]
    go_wp2
    clear B2 c2' f2' l2' hb1
    generalize (u1.setCell ⟨p2_1, 0, none⟩ (.bool (N 0))) = w1 at *
    obtain ⟨Xb8_1, Xb9_1, hb1⟩ := HBS.out
    clear HBS
    have Xb3_1 : Box w1 w.heap.size #[.int .u16 z0, .int .u16 z1] := Zb3.out.below hb1
    have Xb4_1 : Box w1 (w.heap.size + 1) #[.int .u8 x0, .int .u8 x1] := Zb4.out.below hb1
    have Xb5_1 : Box w1 (w.heap.size + 1 + 1) #[.int .u8 v0, .int .u8 v1, .int .u8 v2, .int .u8 v3] := Zb5.out.below hb1
    have hB1 : Below w.heap.size w w1 := ZBX.out.trans (hb1.mono hsX)
    have hs1 := hB1.size
    clear hb1 ZBX hsX hg1 hg2 hne Zb3 Zb4 Zb5
    go_wp2
    have Yb3 : Box w1 w.heap.size #[.int .u16 z0, .int .u16 z1] := Xb3_1
    have Yb4 : Box w1 (w.heap.size + 1) #[.int .u8 x0, .int .u8 x1] := Xb4_1
    have Yb5 : Box w1 (w.heap.size + 1 + 1) #[.int .u8 v0, .int .u8 v1, .int .u8 v2, .int .u8 v3] := Xb5_1
    have Yb8 : Box w1 p1_1 #[.int .i64 (F 0), .int .i64 (F 1)] := Xb8_1
    have Yb9 : Box w1 p2_1 #[.bool (N 0)] := Xb9_1
    have hBX : Below w.heap.size w w1 := by go_grown
    clear hB1 hs1 Xb3_1 Xb4_1 Xb5_1 Xb8_1 Xb9_1
    have Zb3 := Lib.hid Yb3
    have Zb4 := Lib.hid Yb4
    have Zb5 := Lib.hid Yb5
    have Zb8 := Lib.hid Yb8
    have Zb9 := Lib.hid Yb9
    have ZBX := Lib.hid hBX
    clear hBX Yb3 Yb4 Yb5 Yb8 Yb9
    refine wp_region_float1 24 10 #[.int .i64 0, .int .i64 0, .int .i64 0, .int .i64 0] 78 (by kernel_rfl) (by kernel_rfl) ?A1 ?E
    case A1 =>
      intro a w K hK
      unfold wpOp
      simp only [List.getElem?_toArray, List.getElem?_cons_succ, List.getElem?_cons_zero]
      go_simp
      exact .inl hK
    case E =>
      apply Exists.intro
      apply And.intro
      intro X' hX
      have rd4 := fun dz os => ((Zb4.out.below hX).regrown dz os).2.1
      have rd5 := fun dz os => ((Zb5.out.below hX).regrown dz os).2.1
      have kc51 := fun dz os => (lspan_any x0 (F 2) (Go.Sort.grow (redrawn X' dz) os)).regrown_of
      simp only [List.take_succ_cons, List.take_zero]
      unfold InB
      repeat ((with_reducible refine wpQuiet_step (fun K hK => ?_)); go_simp; first | ((with_reducible refine hK _ ?_); clear hK K) | (apply Exists.intro; refine ⟨fun _ => ?_, hK _ ?_⟩; (first | (go_at_call 40; with_reducible exact kc51 _ _)); clear hK K))
      exact wpQuiet_nil rfl
      intro p1_2 u2 hb2 B1 hg1
      have hsX := ZBX.out.size
      have c1' := B1.2.1
      have f1' := B1.2.2
      have l1' := B1.1
      have Y1 : Box _ p1_2 #[.int .i64 x0, .int .i64 (F 2), .int .i64 (F 3), .int .i64 (F 4)] := (Box.setCell (Box.setCell (Box.setCell (Box.setCell B1 (i := 0) (by simp) (.int .i64 x0)) (i := 1) (by simp) (.int .i64 (F 2))) (i := 2) (by simp) (.int .i64 (F 3))) (i := 3) (by simp) (.int .i64 (F 4)))
      have hBW := (Below.setCell (Below.setCell (Below.setCell (Below.setCell hb2 (p := ⟨p1_2, 0, none⟩) hg1 (.int .i64 x0)) (p := ⟨p1_2, 1, none⟩) hg1 (.int .i64 (F 2))) (p := ⟨p1_2, 2, none⟩) hg1 (.int .i64 (F 3))) (p := ⟨p1_2, 3, none⟩) hg1 (.int .i64 (F 4)))
      have HBS := Lib.hid (And.intro Y1 hBW)
      clear Y1 hBW
      simp only [List.drop_succ_cons, List.drop_zero, Act.put, ptrV]
      skip
      go_upto_region 4 with fail
      clear B1 c1' f1' l1' hb2
      generalize ((((u2.setCell ⟨p1_2, 0, none⟩ (.int .i64 x0)).setCell ⟨p1_2, 1, none⟩ (.int .i64 (F 2))).setCell ⟨p1_2, 2, none⟩ (.int .i64 (F 3))).setCell ⟨p1_2, 3, none⟩ (.int .i64 (F 4))) = w2 at *
      obtain ⟨Xb10_2, hb2⟩ := HBS.out
      clear HBS
      have Xb3_2 : Box w2 w.heap.size #[.int .u16 z0, .int .u16 z1] := Zb3.out.below hb2
      have Xb4_2 : Box w2 (w.heap.size + 1) #[.int .u8 x0, .int .u8 x1] := Zb4.out.below hb2
      have Xb5_2 : Box w2 (w.heap.size + 1 + 1) #[.int .u8 v0, .int .u8 v1, .int .u8 v2, .int .u8 v3] := Zb5.out.below hb2
      have Xb8_2 : Box w2 p1_1 #[.int .i64 (F 0), .int .i64 (F 1)] := Zb8.out.below hb2
      have Xb9_2 : Box w2 p2_1 #[.bool (N 0)] := Zb9.out.below hb2
      have hB2 : Below w.heap.size w w2 := ZBX.out.trans (hb2.mono hsX)
      have hs2 := hB2.size
      clear hb2 ZBX hsX hg1 Zb3 Zb4 Zb5 Zb8 Zb9
      have cc8 := Xb8_2.2.1
      have ll8 := Xb8_2.1
      have cc9 := Xb9_2.2.1
      have ll9 := Xb9_2.1
      have cc10 := Xb10_2.2.1
      have ll10 := Xb10_2.1
      go_wp2_with fail
      refine (HB.out _).mono ?_
      rintro e w3 ⟨rfl, hb3⟩
      have Xb3_3 : Box w3 w.heap.size #[.int .u16 z0, .int .u16 z1] := Box.below (Box.alloc Xb3_2 _) hb3
      have Xb4_3 : Box w3 (w.heap.size + 1) #[.int .u8 x0, .int .u8 x1] := Box.below (Box.alloc Xb4_2 _) hb3
      have Xb5_3 : Box w3 (w.heap.size + 1 + 1) #[.int .u8 v0, .int .u8 v1, .int .u8 v2, .int .u8 v3] := Box.below (Box.alloc Xb5_2 _) hb3
      have Xb8_3 : Box w3 p1_1 #[.int .i64 (F 0), .int .i64 (F 1)] := Box.below (Box.alloc Xb8_2 _) hb3
      have Xb9_3 : Box w3 p2_1 #[.bool (N 0)] := Box.below (Box.alloc Xb9_2 _) hb3
      have Xb10_3 : Box w3 p1_2 #[.int .i64 x0, .int .i64 (F 2), .int .i64 (F 3), .int .i64 (F 4)] := Box.below (Box.alloc Xb10_2 _) hb3
      have Xb11_3 : Box w3 w2.heap.size #[.func (.func 62) #[] #[.pointer (some ⟨p2_1, 0, none⟩), .pointer (some ⟨p1_2, 0, none⟩)]] := Box.below (Box.new w2 _ _) hb3
      have hB3 : Below w.heap.size w w3 := stepB (by go_grown) hb3
      have hs3 := hB3.size
      clear hb3 hB2 hs2 Xb3_2 Xb4_2 Xb5_2 Xb8_2 Xb9_2 Xb10_2 cc8 ll8 cc9 ll9 cc10 ll10
      have cc8 := Xb8_3.2.1
      have ll8 := Xb8_3.1
      have cc9 := Xb9_3.2.1
      have ll9 := Xb9_3.1
      have cc10 := Xb10_3.2.1
      have ll10 := Xb10_3.1
      go_wp2_with fail
      refine (HA.out _).mono ?_
      rintro e w4 ⟨rfl, hb4⟩
      have Xb3_4 : Box w4 w.heap.size #[.int .u16 z0, .int .u16 z1] := Box.below (Box.alloc Xb3_3 _) hb4
      have Xb4_4 : Box w4 (w.heap.size + 1) #[.int .u8 x0, .int .u8 x1] := Box.below (Box.alloc Xb4_3 _) hb4
      have Xb5_4 : Box w4 (w.heap.size + 1 + 1) #[.int .u8 v0, .int .u8 v1, .int .u8 v2, .int .u8 v3] := Box.below (Box.alloc Xb5_3 _) hb4
      have Xb8_4 : Box w4 p1_1 #[.int .i64 (F 0), .int .i64 (F 1)] := Box.below (Box.alloc Xb8_3 _) hb4
      have Xb9_4 : Box w4 p2_1 #[.bool (N 0)] := Box.below (Box.alloc Xb9_3 _) hb4
      have Xb10_4 : Box w4 p1_2 #[.int .i64 x0, .int .i64 (F 2), .int .i64 (F 3), .int .i64 (F 4)] := Box.below (Box.alloc Xb10_3 _) hb4
      have Xb11_4 : Box w4 w2.heap.size #[.func (.func 62) #[] #[.pointer (some ⟨p2_1, 0, none⟩), .pointer (some ⟨p1_2, 0, none⟩)]] := Box.below (Box.alloc Xb11_3 _) hb4
      have Xb13_4 : Box w4 w3.heap.size #[.int .i64 0, .int .i64 0] := Box.below (Box.new w3 _ _) hb4
      have hB4 : Below w.heap.size w w4 := stepB (by go_grown) hb4
      have hs4 := hB4.size
      clear hb4 hB3 hs3 Xb3_3 Xb4_3 Xb5_3 Xb8_3 Xb9_3 Xb10_3 Xb11_3 cc8 ll8 cc9 ll9 cc10 ll10
      have cc5 := Xb5_4.2.1
      have ll5 := Xb5_4.1
      have lm5_0 : w.heap.size < w4.heap.size := by have := ll5; omega
      have lm5_1 : w.heap.size + 1 < w4.heap.size := by have := ll5; omega
      have cc10 := Xb10_4.2.1
      have ll10 := Xb10_4.1
      go_wp2_with fail
      refine (HI1.out _).mono ?_
      rintro e w5 ⟨rfl, hb5⟩
      have Xb3_5 : Box w5 w.heap.size #[.int .u16 z0, .int .u16 z1] := Box.below (Box.alloc Xb3_4 _) hb5
      have Xb4_5 : Box w5 (w.heap.size + 1) #[.int .u8 x0, .int .u8 x1] := Box.below (Box.alloc Xb4_4 _) hb5
      have Xb5_5 : Box w5 (w.heap.size + 1 + 1) #[.int .u8 v0, .int .u8 v1, .int .u8 v2, .int .u8 v3] := Box.below (Box.alloc Xb5_4 _) hb5
      have Xb8_5 : Box w5 p1_1 #[.int .i64 (F 0), .int .i64 (F 1)] := Box.below (Box.alloc Xb8_4 _) hb5
      have Xb9_5 : Box w5 p2_1 #[.bool (N 0)] := Box.below (Box.alloc Xb9_4 _) hb5
      have Xb10_5 : Box w5 p1_2 #[.int .i64 x0, .int .i64 (F 2), .int .i64 (F 3), .int .i64 (F 4)] := Box.below (Box.alloc Xb10_4 _) hb5
      have Xb11_5 : Box w5 w2.heap.size #[.func (.func 62) #[] #[.pointer (some ⟨p2_1, 0, none⟩), .pointer (some ⟨p1_2, 0, none⟩)]] := Box.below (Box.alloc Xb11_4 _) hb5
      have Xb13_5 : Box w5 w3.heap.size #[.int .i64 0, .int .i64 0] := Box.below (Box.alloc Xb13_4 _) hb5
      have Xb15_5 : Box w5 w4.heap.size #[.int .i64 bl, .int .i64 bh] := Box.below (Box.new w4 _ _) hb5
      have hB5 : Below w.heap.size w w5 := stepB (by go_grown) hb5
      have hs5 := hB5.size
      clear hb5 hB4 hs4 Xb3_4 Xb4_4 Xb5_4 Xb8_4 Xb9_4 Xb10_4 Xb11_4 Xb13_4 cc5 ll5 lm5_0 lm5_1 cc10 ll10
      have cc5 := Xb5_5.2.1
      have ll5 := Xb5_5.1
      have lm5_0 : w.heap.size < w5.heap.size := by have := ll5; omega
      have lm5_1 : w.heap.size + 1 < w5.heap.size := by have := ll5; omega
      have cc8 := Xb8_5.2.1
      have ll8 := Xb8_5.1
      go_wp2_with fail
      refine (HI2.out _).mono ?_
      rintro e w6 ⟨rfl, hb6⟩
      have Xb3_6 : Box w6 w.heap.size #[.int .u16 z0, .int .u16 z1] := Box.below Xb3_5 hb6
      have Xb4_6 : Box w6 (w.heap.size + 1) #[.int .u8 x0, .int .u8 x1] := Box.below Xb4_5 hb6
      have Xb5_6 : Box w6 (w.heap.size + 1 + 1) #[.int .u8 v0, .int .u8 v1, .int .u8 v2, .int .u8 v3] := Box.below Xb5_5 hb6
      have Xb8_6 : Box w6 p1_1 #[.int .i64 (F 0), .int .i64 (F 1)] := Box.below Xb8_5 hb6
      have Xb9_6 : Box w6 p2_1 #[.bool (N 0)] := Box.below Xb9_5 hb6
      have Xb10_6 : Box w6 p1_2 #[.int .i64 x0, .int .i64 (F 2), .int .i64 (F 3), .int .i64 (F 4)] := Box.below Xb10_5 hb6
      have Xb11_6 : Box w6 w2.heap.size #[.func (.func 62) #[] #[.pointer (some ⟨p2_1, 0, none⟩), .pointer (some ⟨p1_2, 0, none⟩)]] := Box.below Xb11_5 hb6
      have Xb13_6 : Box w6 w3.heap.size #[.int .i64 0, .int .i64 0] := Box.below Xb13_5 hb6
      have Xb15_6 : Box w6 w4.heap.size #[.int .i64 bl, .int .i64 bh] := Box.below Xb15_5 hb6
      have hB6 : Below w.heap.size w w6 := stepB (by go_grown) hb6
      have hs6 := hB6.size
      clear hb6 hB5 hs5 Xb3_5 Xb4_5 Xb5_5 Xb8_5 Xb9_5 Xb10_5 Xb11_5 Xb13_5 Xb15_5 cc5 ll5 lm5_0 lm5_1 cc8 ll8
      go_wp2
      have Yb3 : Box w6 w.heap.size #[.int .u16 z0, .int .u16 z1] := Xb3_6
      have Yb4 : Box w6 (w.heap.size + 1) #[.int .u8 x0, .int .u8 x1] := Xb4_6
      have Yb5 : Box w6 (w.heap.size + 1 + 1) #[.int .u8 v0, .int .u8 v1, .int .u8 v2, .int .u8 v3] := Xb5_6
      have Yb8 : Box w6 p1_1 #[.int .i64 (F 0), .int .i64 (F 1)] := Xb8_6
      have Yb9 : Box w6 p2_1 #[.bool (N 0)] := Xb9_6
      have Yb10 : Box w6 p1_2 #[.int .i64 x0, .int .i64 (F 2), .int .i64 (F 3), .int .i64 (F 4)] := Xb10_6
      have Yb11 : Box w6 w2.heap.size #[.func (.func 62) #[] #[.pointer (some ⟨p2_1, 0, none⟩), .pointer (some ⟨p1_2, 0, none⟩)]] := Xb11_6
      have Yb13 : Box w6 w3.heap.size #[.int .i64 0, .int .i64 0] := Xb13_6
      have Yb15 : Box w6 w4.heap.size #[.int .i64 bl, .int .i64 bh] := Xb15_6
      have hBX : Below w.heap.size w w6 := by go_grown
      clear hB6 hs6 Xb3_6 Xb4_6 Xb5_6 Xb8_6 Xb9_6 Xb10_6 Xb11_6 Xb13_6 Xb15_6
      have hsX := hBX.size
      have rd10 := fun dz os => (Yb10.regrown dz os).2.1
      have rd11 := fun dz os => (Yb11.regrown dz os).2.1
      have rd15 := fun dz os => (Yb15.regrown dz os).2.1
      have kc97 := fun dz os => (plgrown_any (Go.Sort.grow (redrawn w6 dz) os) (N 0) (F 6) (F 5) x0 (F 2) (F 3) (F 4) (F 7) _ _ HG HD (Yb9.regrown dz os) (Yb10.regrown dz os)).regrown_of
      have kc110 := fun dz os => (plgrown_any (Go.Sort.grow (redrawn w6 dz) os) (N 0) (F 6) (F 5) x0 (F 2) (F 3) (F 4) (F 7) _ _ HG HD (Yb9.regrown dz os) (Yb10.regrown dz os)).regrown_of
      have Zb3 := Lib.hid Yb3
      have Zb4 := Lib.hid Yb4
      have Zb5 := Lib.hid Yb5
      have Zb8 := Lib.hid Yb8
      have Zb9 := Lib.hid Yb9
      have Zb10 := Lib.hid Yb10
      have Zb11 := Lib.hid Yb11
      have Zb13 := Lib.hid Yb13
      clear Yb3 Yb4 Yb5 Yb8 Yb9 Yb10 Yb11 Yb13 Yb15
      refine wp_region_quiet_below (by kernel_rfl) (by kernel_rfl) ?_
      repeat ((with_reducible refine wpQuiet_step (fun K hK => ?_)); go_simp; first | ((with_reducible refine hK _ ?_); clear hK K) | (apply Exists.intro; refine ⟨fun _ => ?_, hK _ ?_⟩; (first | (go_at_call 62; with_reducible exact kc97 _ _) | (go_at_call 62; with_reducible exact kc110 _ _)); clear hK K))
      with_reducible refine wpQuiet_nil ?_
      intro w7 hw'
      obtain ⟨⟨dq, osq⟩, hw''⟩ := hw'
      have hb7 : Below w6.heap.size w6 w7 := by rw [hw'']; exact below_regrown w6 dq osq
      have Xb3_7 : Box w7 w.heap.size #[.int .u16 z0, .int .u16 z1] := Zb3.out.below hb7
      have Xb4_7 : Box w7 (w.heap.size + 1) #[.int .u8 x0, .int .u8 x1] := Zb4.out.below hb7
      have Xb5_7 : Box w7 (w.heap.size + 1 + 1) #[.int .u8 v0, .int .u8 v1, .int .u8 v2, .int .u8 v3] := Zb5.out.below hb7
      have Xb8_7 : Box w7 p1_1 #[.int .i64 (F 0), .int .i64 (F 1)] := Zb8.out.below hb7
      have Xb9_7 : Box w7 p2_1 #[.bool (N 0)] := Zb9.out.below hb7
      have Xb10_7 : Box w7 p1_2 #[.int .i64 x0, .int .i64 (F 2), .int .i64 (F 3), .int .i64 (F 4)] := Zb10.out.below hb7
      have Xb11_7 : Box w7 w2.heap.size #[.func (.func 62) #[] #[.pointer (some ⟨p2_1, 0, none⟩), .pointer (some ⟨p1_2, 0, none⟩)]] := Zb11.out.below hb7
      have Xb13_7 : Box w7 w3.heap.size #[.int .i64 0, .int .i64 0] := Zb13.out.below hb7
      have hB7 : Below w.heap.size w w7 := stepB hBX hb7
      have hs7 := hB7.size
      clear hw'' hb7 hBX hsX rd10 rd11 rd15 kc97 kc110 Zb3 Zb4 Zb5 Zb8 Zb9 Zb10 Zb11 Zb13
      go_wp2
      have Yb3 : Box w7 w.heap.size #[.int .u16 z0, .int .u16 z1] := Xb3_7
      have Yb4 : Box w7 (w.heap.size + 1) #[.int .u8 x0, .int .u8 x1] := Xb4_7
      have Yb5 : Box w7 (w.heap.size + 1 + 1) #[.int .u8 v0, .int .u8 v1, .int .u8 v2, .int .u8 v3] := Xb5_7
      have Yb8 : Box w7 p1_1 #[.int .i64 (F 0), .int .i64 (F 1)] := Xb8_7
      have Yb9 : Box w7 p2_1 #[.bool (N 0)] := Xb9_7
      have Yb10 : Box w7 p1_2 #[.int .i64 x0, .int .i64 (F 2), .int .i64 (F 3), .int .i64 (F 4)] := Xb10_7
      have Yb11 : Box w7 w2.heap.size #[.func (.func 62) #[] #[.pointer (some ⟨p2_1, 0, none⟩), .pointer (some ⟨p1_2, 0, none⟩)]] := Xb11_7
      have Yb13 : Box w7 w3.heap.size #[.int .i64 0, .int .i64 0] := Xb13_7
      have hBX : Below w.heap.size w w7 := by go_grown
      clear hB7 hs7 Xb3_7 Xb4_7 Xb5_7 Xb8_7 Xb9_7 Xb10_7 Xb11_7 Xb13_7
      have hsX := hBX.size
      have rd3 := fun dz os => (Yb3.regrown dz os).2.1
      have rd8 := fun dz os => (Yb8.regrown dz os).2.1
      have kc127 := fun dz os => (lspan_any (F 0 - 2000) (F 1 + 2000) (Go.Sort.grow (redrawn w7 dz) os)).regrown_of
      have kc131 := fun dz os => (HI3.out (Go.Sort.grow (redrawn w7 dz) os)).regrown_of
      have Zb3 := Lib.hid Yb3
      have Zb4 := Lib.hid Yb4
      have Zb5 := Lib.hid Yb5
      have Zb8 := Lib.hid Yb8
      have Zb9 := Lib.hid Yb9
      have Zb10 := Lib.hid Yb10
      have Zb11 := Lib.hid Yb11
      have Zb13 := Lib.hid Yb13
      clear Yb3 Yb4 Yb5 Yb8 Yb9 Yb10 Yb11 Yb13
      refine wp_region_quiet_below (by kernel_rfl) (by kernel_rfl) ?_
      repeat ((with_reducible refine wpQuiet_step (fun K hK => ?_)); go_simp; first | ((with_reducible refine hK _ ?_); clear hK K) | (apply Exists.intro; refine ⟨fun _ => ?_, hK _ ?_⟩; (first | (go_at_call 40; with_reducible exact kc127 _ _) | (go_at_call 61; with_reducible exact kc131 _ _)); clear hK K))
      with_reducible refine wpQuiet_nil ?_
      intro w8 hw'
      obtain ⟨⟨dq, osq⟩, hw''⟩ := hw'
      have hb8 : Below w7.heap.size w7 w8 := by rw [hw'']; exact below_regrown w7 dq osq
      have Xb3_8 : Box w8 w.heap.size #[.int .u16 z0, .int .u16 z1] := Zb3.out.below hb8
      have Xb4_8 : Box w8 (w.heap.size + 1) #[.int .u8 x0, .int .u8 x1] := Zb4.out.below hb8
      have Xb5_8 : Box w8 (w.heap.size + 1 + 1) #[.int .u8 v0, .int .u8 v1, .int .u8 v2, .int .u8 v3] := Zb5.out.below hb8
      have Xb8_8 : Box w8 p1_1 #[.int .i64 (F 0), .int .i64 (F 1)] := Zb8.out.below hb8
      have Xb9_8 : Box w8 p2_1 #[.bool (N 0)] := Zb9.out.below hb8
      have Xb10_8 : Box w8 p1_2 #[.int .i64 x0, .int .i64 (F 2), .int .i64 (F 3), .int .i64 (F 4)] := Zb10.out.below hb8
      have Xb11_8 : Box w8 w2.heap.size #[.func (.func 62) #[] #[.pointer (some ⟨p2_1, 0, none⟩), .pointer (some ⟨p1_2, 0, none⟩)]] := Zb11.out.below hb8
      have Xb13_8 : Box w8 w3.heap.size #[.int .i64 0, .int .i64 0] := Zb13.out.below hb8
      have hB8 : Below w.heap.size w w8 := stepB hBX hb8
      have hs8 := hB8.size
      clear hw'' hb8 hBX hsX rd3 rd8 kc127 kc131 Zb3 Zb4 Zb5 Zb8 Zb9 Zb10 Zb11 Zb13
      have cc10 := Xb10_8.2.1
      have ll10 := Xb10_8.1
      have cc13 := Xb13_8.2.1
      have ll13 := Xb13_8.1
      go_wp2_with fail
      refine (plok_any _ (N 0) (F 8) x0 (F 0) (F 1) x0 (F 2) (F 3) (F 4) true _ _ _ _ HO1 HD2 HSP Xb11_8 Xb8_8 Xb10_8 Xb9_8).mono ?_
      rintro e w9 ⟨rfl, hb9⟩
      have Xb3_9 : Box w9 w.heap.size #[.int .u16 z0, .int .u16 z1] := Box.below Xb3_8 hb9
      have Xb4_9 : Box w9 (w.heap.size + 1) #[.int .u8 x0, .int .u8 x1] := Box.below Xb4_8 hb9
      have Xb5_9 : Box w9 (w.heap.size + 1 + 1) #[.int .u8 v0, .int .u8 v1, .int .u8 v2, .int .u8 v3] := Box.below Xb5_8 hb9
      have Xb8_9 : Box w9 p1_1 #[.int .i64 (F 0), .int .i64 (F 1)] := Box.below Xb8_8 hb9
      have Xb9_9 : Box w9 p2_1 #[.bool (N 0)] := Box.below Xb9_8 hb9
      have Xb10_9 : Box w9 p1_2 #[.int .i64 x0, .int .i64 (F 2), .int .i64 (F 3), .int .i64 (F 4)] := Box.below Xb10_8 hb9
      have Xb11_9 : Box w9 w2.heap.size #[.func (.func 62) #[] #[.pointer (some ⟨p2_1, 0, none⟩), .pointer (some ⟨p1_2, 0, none⟩)]] := Box.below Xb11_8 hb9
      have Xb13_9 : Box w9 w3.heap.size #[.int .i64 0, .int .i64 0] := Box.below Xb13_8 hb9
      have hB9 : Below w.heap.size w w9 := stepB (by go_grown) hb9
      have hs9 := hB9.size
      clear hb9 hB8 hs8 Xb3_8 Xb4_8 Xb5_8 Xb8_8 Xb9_8 Xb10_8 Xb11_8 Xb13_8 cc10 ll10 cc13 ll13
      have cc10 := Xb10_9.2.1
      have ll10 := Xb10_9.1
      go_wp2_with fail
      refine (plok_any _ (N 0) (F 8) (F 2) (F 0) (F 1) x0 (F 2) (F 3) (F 4) false _ _ _ _ HO2 HD3 HSP Xb11_9 Xb8_9 Xb10_9 Xb9_9).mono ?_
      rintro e w10 ⟨rfl, hb10⟩
      have Xb3_10 : Box w10 w.heap.size #[.int .u16 z0, .int .u16 z1] := Box.below Xb3_9 hb10
      have Xb4_10 : Box w10 (w.heap.size + 1) #[.int .u8 x0, .int .u8 x1] := Box.below Xb4_9 hb10
      have Xb5_10 : Box w10 (w.heap.size + 1 + 1) #[.int .u8 v0, .int .u8 v1, .int .u8 v2, .int .u8 v3] := Box.below Xb5_9 hb10
      have Xb8_10 : Box w10 p1_1 #[.int .i64 (F 0), .int .i64 (F 1)] := Box.below Xb8_9 hb10
      have Xb9_10 : Box w10 p2_1 #[.bool (N 0)] := Box.below Xb9_9 hb10
      have Xb10_10 : Box w10 p1_2 #[.int .i64 x0, .int .i64 (F 2), .int .i64 (F 3), .int .i64 (F 4)] := Box.below Xb10_9 hb10
      have Xb11_10 : Box w10 w2.heap.size #[.func (.func 62) #[] #[.pointer (some ⟨p2_1, 0, none⟩), .pointer (some ⟨p1_2, 0, none⟩)]] := Box.below Xb11_9 hb10
      have Xb13_10 : Box w10 w3.heap.size #[.int .i64 0, .int .i64 0] := Box.below Xb13_9 hb10
      have hB10 : Below w.heap.size w w10 := stepB (by go_grown) hb10
      have hs10 := hB10.size
      clear hb10 hB9 hs9 Xb3_9 Xb4_9 Xb5_9 Xb8_9 Xb9_9 Xb10_9 Xb11_9 Xb13_9 cc10 ll10
      go_wp2_with fail
      refine (known_any _).mono ?_
      rintro e w11 ⟨rfl, hb11⟩
      have Xb3_11 : Box w11 w.heap.size #[.int .u16 z0, .int .u16 z1] := Box.below Xb3_10 hb11
      have Xb4_11 : Box w11 (w.heap.size + 1) #[.int .u8 x0, .int .u8 x1] := Box.below Xb4_10 hb11
      have Xb5_11 : Box w11 (w.heap.size + 1 + 1) #[.int .u8 v0, .int .u8 v1, .int .u8 v2, .int .u8 v3] := Box.below Xb5_10 hb11
      have Xb8_11 : Box w11 p1_1 #[.int .i64 (F 0), .int .i64 (F 1)] := Box.below Xb8_10 hb11
      have Xb9_11 : Box w11 p2_1 #[.bool (N 0)] := Box.below Xb9_10 hb11
      have Xb10_11 : Box w11 p1_2 #[.int .i64 x0, .int .i64 (F 2), .int .i64 (F 3), .int .i64 (F 4)] := Box.below Xb10_10 hb11
      have Xb11_11 : Box w11 w2.heap.size #[.func (.func 62) #[] #[.pointer (some ⟨p2_1, 0, none⟩), .pointer (some ⟨p1_2, 0, none⟩)]] := Box.below Xb11_10 hb11
      have Xb13_11 : Box w11 w3.heap.size #[.int .i64 0, .int .i64 0] := Box.below Xb13_10 hb11
      have hB11 : Below w.heap.size w w11 := stepB (by go_grown) hb11
      have hs11 := hB11.size
      clear hb11 hB10 hs10 Xb3_10 Xb4_10 Xb5_10 Xb8_10 Xb9_10 Xb10_10 Xb11_10 Xb13_10
      go_wp2
      go_returns
      exact ⟨rfl, hB11⟩
end Go.Proofs.Ytpmeahmjmpgbfaa
