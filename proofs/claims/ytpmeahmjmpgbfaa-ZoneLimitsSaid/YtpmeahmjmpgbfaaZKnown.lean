/- acmelaw02.known: the examples of the document hold. Made by tools/gen_zcheck.py. -/
import Derived.Test.YtpmeahmjmpgbfaaZKn0
namespace Go.Proofs.Ytpmeahmjmpgbfaa
open Go.RowKit
set_option linter.unusedVariables false
set_option linter.unusedSimpArgs false

/-- A span in memory. -/
def Seg2 (w : World) (g : Nat) : Prop := g < w.heap.size ∧ w.cell? ⟨g, 0, none⟩ = some (.int .i64 1) ∧ w.cell? ⟨g, 1, none⟩ = some (.int .i64 100000)
theorem Seg2.below {w w' : World} {g : Nat} (h : Seg2 w g) (hb : Below w.heap.size w w') : Seg2 w' g := ⟨Nat.lt_of_lt_of_le h.1 hb.size, (hb.cell (p := ⟨g, 0, none⟩) h.1).trans h.2.1, (hb.cell (p := ⟨g, 1, none⟩) h.1).trans h.2.2⟩

set_option maxRecDepth 100000 in
set_option maxHeartbeats 16000000 in
theorem known_any (w : World) : Calls Try.prog 27 #[] w fun e w' => e = .returned (.bool true) ∧ Below w.heap.size w w' := by
  have qS := eqSk
  have gS := guardSk
  have qP := eqPk
  have gP := guardPk
  go_enter Try.func27, Try.ntmps27
  go_wp2_with fail
  refine (two_any _).mono ?_
  rintro e w1 ⟨s1, g1, p1, rfl, hb1, h1⟩
  have hB1 : Below w.heap.size w w1 := stepB (by go_grown) hb1
  have hs1 := hB1.size
  clear hb1
  go_wp2_with fail
  refine (lclass_any _ _ _).mono ?_
  rintro e w2 ⟨rfl, hb2⟩
  have hB2 : Below w.heap.size w w2 := stepB (by go_grown) hb2
  have hs2 := hB2.size
  have h1_2 := (h1).below (stepB (by go_grown) hb2)
  clear hb2 h1 hB1 hs1
  go_wp2_with fail
  refine (k_lim0 s1 g1 p1 _ (h1_2.below (by go_grown))).mono ?_
  rintro e w3 ⟨rfl, hb3⟩
  clear h1_2
  have hB3 : Below w.heap.size w w3 := stepB (by go_grown) hb3
  have hs3 := hB3.size
  clear hb3 hB2 hs2
  go_wp2_with fail
  refine (two_any _).mono ?_
  rintro e w4 ⟨s2, g2, p2, rfl, hb4, h2⟩
  have Xb1_4 : Box w4 w3.heap.size #[.int .i64 59840, .int .i64 59960] := Box.below (Box.new w3 _ _) hb4
  have hB4 : Below w.heap.size w w4 := stepB (by go_grown) hb4
  have hs4 := hB4.size
  clear hb4 hB3 hs3
  go_wp2_with fail
  refine (lclass_any _ _ _).mono ?_
  rintro e w5 ⟨rfl, hb5⟩
  have Xb1_5 : Box w5 w3.heap.size #[.int .i64 59840, .int .i64 59960] := Box.below Xb1_4 hb5
  have hB5 : Below w.heap.size w w5 := stepB (by go_grown) hb5
  have hs5 := hB5.size
  have h2_5 := (h2).below (stepB (by go_grown) hb5)
  clear hb5 h2 hB4 hs4 Xb1_4
  go_wp2_with fail
  refine (k_lim1 s2 g2 p2 _ (h2_5.below (by go_grown))).mono ?_
  rintro e w6 ⟨rfl, hb6⟩
  clear h2_5
  have Xb1_6 : Box w6 w3.heap.size #[.int .i64 59840, .int .i64 59960] := Box.below Xb1_5 hb6
  have hB6 : Below w.heap.size w w6 := stepB (by go_grown) hb6
  have hs6 := hB6.size
  clear hb6 hB5 hs5 Xb1_5
  go_wp2_with fail
  refine (lspan_any _ _ _).mono ?_
  rintro e w7 ⟨rfl, hb7⟩
  have Xb1_7 : Box w7 w3.heap.size #[.int .i64 59840, .int .i64 59960] := Box.below (Box.alloc Xb1_6 _) hb7
  have Xb3_7 : Box w7 w6.heap.size #[.int .i64 60040, .int .i64 60160] := Box.below (Box.new w6 _ _) hb7
  have hB7 : Below w.heap.size w w7 := stepB (by go_grown) hb7
  have hs7 := hB7.size
  clear hb7 hB6 hs6 Xb1_6
  go_wp2
  have Yb1 : Box (w7.alloc (.cells #[.int .i64 5, .int .i64 8, .int .i64 7, .int .i64 2] 78)) w3.heap.size #[.int .i64 59840, .int .i64 59960] := (Box.alloc Xb1_7 _)
  have Yb3 : Box (w7.alloc (.cells #[.int .i64 5, .int .i64 8, .int .i64 7, .int .i64 2] 78)) w6.heap.size #[.int .i64 60040, .int .i64 60160] := (Box.alloc Xb3_7 _)
  have Yb5 : Box (w7.alloc (.cells #[.int .i64 5, .int .i64 8, .int .i64 7, .int .i64 2] 78)) w7.heap.size #[.int .i64 5, .int .i64 8, .int .i64 7, .int .i64 2] := (Box.new w7 _ _)
  have hBX : Below w.heap.size w (w7.alloc (.cells #[.int .i64 5, .int .i64 8, .int .i64 7, .int .i64 2] 78)) := by go_grown
  clear hB7 hs7 Xb1_7 Xb3_7
  generalize (w7.alloc (.cells #[.int .i64 5, .int .i64 8, .int .i64 7, .int .i64 2] 78)) = XW1 at *
  have Zb1 := Lib.hid Yb1
  have Zb3 := Lib.hid Yb3
  have Zb5 := Lib.hid Yb5
  have ZBX := Lib.hid hBX
  clear hBX Yb1 Yb3 Yb5
  refine wp_region_float1s 6 6 #[.int .i64 0, .int .i64 0] #[.int .i64 59823, .int .i64 59932] 24 (fun g w => ((w.setCell ⟨g, 0, none⟩ (.int .i64 59823)).setCell ⟨g, 1, none⟩ (.int .i64 59932))) (by kernel_rfl) (by kernel_rfl) ?A1 ?ST ?E
  case A1 =>
    intro a w K hK
    unfold wpOp
    simp only [List.getElem?_toArray, List.getElem?_cons_succ, List.getElem?_cons_zero]
    go_simp
    exact .inl hK
  case ST =>
    intro g w hb
    exact ⟨(Box.setCell (Box.setCell hb (i := 0) (by simp) (.int .i64 59823)) (i := 1) (by simp) (.int .i64 59932)), fun X hX hg => (Below.setCell (Below.setCell hX (p := ⟨g, 0, none⟩) hg (.int .i64 59823)) (p := ⟨g, 1, none⟩) hg (.int .i64 59932))⟩
  case E =>
    apply Exists.intro
    apply And.intro
    intro X' hX
    have rd5 := fun d os => ((Zb5.out.below hX).regrown d os).2.1
    have kc34 := fun d os => (lspan_any 59840 59960 (Go.Sort.grow (redrawn X' d) os)).regrown_of
    have kc36 := fun d os => (k_before (Go.Sort.grow (redrawn X' d) os)).regrown_of
    simp only [List.take_succ_cons, List.take_zero]
    unfold InB
    repeat ((with_reducible refine wpQuiet_step (fun K hK => ?_)); go_simp; first | ((with_reducible refine hK _ ?_); clear hK K) | (apply Exists.intro; refine ⟨fun _ => ?_, hK _ ?_⟩; (first | (go_at_call 40; with_reducible exact kc34 _ _) | (go_at_call 35; with_reducible exact kc36 _ _)); clear hK K))
    exact wpQuiet_nil rfl
    apply And.intro
    intro g
    refine ⟨_, rfl, rfl, rfl, fun w hw => ?_⟩
    have c1' := hw.2.1
    have f1' := hw.2.2
    have l1' := hw.1
    simp only [execOp, Act.put, Act.eval, ptrV]
    go_simp
    intro p1_8 w8 hb8 Xb6_8 hg1
    have hsX := ZBX.out.size
    have cc6 := Xb6_8.2.1
    have ll6 := Xb6_8.1
    simp only [List.drop_succ_cons, List.drop_zero, Act.put, ptrV]
    have Xb1_8 : Box w8 w3.heap.size #[.int .i64 59840, .int .i64 59960] := Zb1.out.below hb8
    have Xb3_8 : Box w8 w6.heap.size #[.int .i64 60040, .int .i64 60160] := Zb3.out.below hb8
    have hB8 : Below w.heap.size w w8 := ZBX.out.trans (hb8.mono hsX)
    have hs8 := hB8.size
    clear hb8 ZBX hsX hg1 cc6 ll6 Zb1 Zb3 Zb5
    go_wp2_with fail
    refine (lspan_any _ _ _).mono ?_
    rintro e w9 ⟨rfl, hb9⟩
    have Xb1_9 : Box w9 w3.heap.size #[.int .i64 59840, .int .i64 59960] := Box.below Xb1_8 hb9
    have Xb3_9 : Box w9 w6.heap.size #[.int .i64 60040, .int .i64 60160] := Box.below Xb3_8 hb9
    have Xb6_9 : Box w9 p1_8 #[.int .i64 59823, .int .i64 59932] := Box.below Xb6_8 hb9
    have hB9 : Below w.heap.size w w9 := stepB (by go_grown) hb9
    have hs9 := hB9.size
    clear hb9 hB8 hs8 Xb1_8 Xb3_8 Xb6_8
    go_wp2_with fail
    refine (lspan_any _ _ _).mono ?_
    rintro e w10 ⟨rfl, hb10⟩
    have Xb1_10 : Box w10 w3.heap.size #[.int .i64 59840, .int .i64 59960] := Box.below Xb1_9 hb10
    have Xb3_10 : Box w10 w6.heap.size #[.int .i64 60040, .int .i64 60160] := Box.below Xb3_9 hb10
    have Xb6_10 : Box w10 p1_8 #[.int .i64 59823, .int .i64 59932] := Box.below Xb6_9 hb10
    have hB10 : Below w.heap.size w w10 := stepB (by go_grown) hb10
    have hs10 := hB10.size
    clear hb10 hB9 hs9 Xb1_9 Xb3_9 Xb6_9
    go_wp2_with fail
    refine (k_after _).mono ?_
    rintro e w11 ⟨rfl, hb11⟩
    have Xb1_11 : Box w11 w3.heap.size #[.int .i64 59840, .int .i64 59960] := Box.below Xb1_10 hb11
    have Xb3_11 : Box w11 w6.heap.size #[.int .i64 60040, .int .i64 60160] := Box.below Xb3_10 hb11
    have Xb6_11 : Box w11 p1_8 #[.int .i64 59823, .int .i64 59932] := Box.below Xb6_10 hb11
    have hB11 : Below w.heap.size w w11 := stepB (by go_grown) hb11
    have hs11 := hB11.size
    clear hb11 hB10 hs10 Xb1_10 Xb3_10 Xb6_10
    go_wp2_with fail
    refine (two_any _).mono ?_
    rintro e w12 ⟨s3, g3, p3, rfl, hb12, h3⟩
    have Xb1_12 : Box w12 w3.heap.size #[.int .i64 59840, .int .i64 59960] := Box.below (Box.alloc Xb1_11 _) hb12
    have Xb3_12 : Box w12 w6.heap.size #[.int .i64 60040, .int .i64 60160] := Box.below (Box.alloc Xb3_11 _) hb12
    have Xb6_12 : Box w12 p1_8 #[.int .i64 59823, .int .i64 59932] := Box.below (Box.alloc Xb6_11 _) hb12
    have Xb8_12 : Box w12 w11.heap.size #[.int .i64 59840, .int .i64 59960] := Box.below (Box.new w11 _ _) hb12
    have hB12 : Below w.heap.size w w12 := stepB (by go_grown) hb12
    have hs12 := hB12.size
    clear hb12 hB11 hs11 Xb1_11 Xb3_11 Xb6_11
    go_wp2_with fail
    refine (lclass_any _ _ _).mono ?_
    rintro e w13 ⟨rfl, hb13⟩
    have Xb1_13 : Box w13 w3.heap.size #[.int .i64 59840, .int .i64 59960] := Box.below Xb1_12 hb13
    have Xb3_13 : Box w13 w6.heap.size #[.int .i64 60040, .int .i64 60160] := Box.below Xb3_12 hb13
    have Xb6_13 : Box w13 p1_8 #[.int .i64 59823, .int .i64 59932] := Box.below Xb6_12 hb13
    have Xb8_13 : Box w13 w11.heap.size #[.int .i64 59840, .int .i64 59960] := Box.below Xb8_12 hb13
    have hB13 : Below w.heap.size w w13 := stepB (by go_grown) hb13
    have hs13 := hB13.size
    have h3_13 := (h3).below (stepB (by go_grown) hb13)
    clear hb13 h3 hB12 hs12 Xb1_12 Xb3_12 Xb6_12 Xb8_12
    go_wp2_with fail
    refine (lclass_any _ _ _).mono ?_
    rintro e w14 ⟨rfl, hb14⟩
    have Xb1_14 : Box w14 w3.heap.size #[.int .i64 59840, .int .i64 59960] := Box.below Xb1_13 hb14
    have Xb3_14 : Box w14 w6.heap.size #[.int .i64 60040, .int .i64 60160] := Box.below Xb3_13 hb14
    have Xb6_14 : Box w14 p1_8 #[.int .i64 59823, .int .i64 59932] := Box.below Xb6_13 hb14
    have Xb8_14 : Box w14 w11.heap.size #[.int .i64 59840, .int .i64 59960] := Box.below Xb8_13 hb14
    have hB14 : Below w.heap.size w w14 := stepB (by go_grown) hb14
    have hs14 := hB14.size
    have h3_14 := (h3_13).below (stepB (by go_grown) hb14)
    clear hb14 h3_13 hB13 hs13 Xb1_13 Xb3_13 Xb6_13 Xb8_13
    go_wp2_with fail
    refine (lpair_any _ _ _ _ _).mono ?_
    rintro e w15 ⟨rfl, hb15⟩
    have Xb1_15 : Box w15 w3.heap.size #[.int .i64 59840, .int .i64 59960] := Box.below Xb1_14 hb15
    have Xb3_15 : Box w15 w6.heap.size #[.int .i64 60040, .int .i64 60160] := Box.below Xb3_14 hb15
    have Xb6_15 : Box w15 p1_8 #[.int .i64 59823, .int .i64 59932] := Box.below Xb6_14 hb15
    have Xb8_15 : Box w15 w11.heap.size #[.int .i64 59840, .int .i64 59960] := Box.below Xb8_14 hb15
    have hB15 : Below w.heap.size w w15 := stepB (by go_grown) hb15
    have hs15 := hB15.size
    have h3_15 := (h3_14).below (stepB (by go_grown) hb15)
    clear hb15 h3_14 hB14 hs14 Xb1_14 Xb3_14 Xb6_14 Xb8_14
    go_wp2_with fail
    refine (k_play s3 g3 p3 _ (h3_15.below (by go_grown))).mono ?_
    rintro e w16 ⟨rfl, hb16⟩
    clear h3_15
    have Xb1_16 : Box w16 w3.heap.size #[.int .i64 59840, .int .i64 59960] := Box.below Xb1_15 hb16
    have Xb3_16 : Box w16 w6.heap.size #[.int .i64 60040, .int .i64 60160] := Box.below Xb3_15 hb16
    have Xb6_16 : Box w16 p1_8 #[.int .i64 59823, .int .i64 59932] := Box.below Xb6_15 hb16
    have Xb8_16 : Box w16 w11.heap.size #[.int .i64 59840, .int .i64 59960] := Box.below Xb8_15 hb16
    have hB16 : Below w.heap.size w w16 := stepB (by go_grown) hb16
    have hs16 := hB16.size
    clear hb16 hB15 hs15 Xb1_15 Xb3_15 Xb6_15 Xb8_15
    go_wp2_with fail
    refine (two_any _).mono ?_
    rintro e w17 ⟨s4, g4, p4, rfl, hb17, h4⟩
    have Xb1_17 : Box w17 w3.heap.size #[.int .i64 59840, .int .i64 59960] := Box.below (Box.alloc Xb1_16 _) hb17
    have Xb3_17 : Box w17 w6.heap.size #[.int .i64 60040, .int .i64 60160] := Box.below (Box.alloc Xb3_16 _) hb17
    have Xb6_17 : Box w17 p1_8 #[.int .i64 59823, .int .i64 59932] := Box.below (Box.alloc Xb6_16 _) hb17
    have Xb8_17 : Box w17 w11.heap.size #[.int .i64 59840, .int .i64 59960] := Box.below (Box.alloc Xb8_16 _) hb17
    have Xb10_17 : Box w17 w16.heap.size #[.int .i64 40, .int .i64 410] := Box.below (Box.new w16 _ _) hb17
    have hB17 : Below w.heap.size w w17 := stepB (by go_grown) hb17
    have hs17 := hB17.size
    clear hb17 hB16 hs16 Xb1_16 Xb3_16 Xb6_16 Xb8_16
    go_wp2_with fail
    refine (lspan_any _ _ _).mono ?_
    rintro e w18 ⟨rfl, hb18⟩
    have Xb1_18 : Box w18 w3.heap.size #[.int .i64 59840, .int .i64 59960] := Box.below Xb1_17 hb18
    have Xb3_18 : Box w18 w6.heap.size #[.int .i64 60040, .int .i64 60160] := Box.below Xb3_17 hb18
    have Xb6_18 : Box w18 p1_8 #[.int .i64 59823, .int .i64 59932] := Box.below Xb6_17 hb18
    have Xb8_18 : Box w18 w11.heap.size #[.int .i64 59840, .int .i64 59960] := Box.below Xb8_17 hb18
    have Xb10_18 : Box w18 w16.heap.size #[.int .i64 40, .int .i64 410] := Box.below Xb10_17 hb18
    have hB18 : Below w.heap.size w w18 := stepB (by go_grown) hb18
    have hs18 := hB18.size
    have h4_18 := (h4).below (stepB (by go_grown) hb18)
    clear hb18 h4 hB17 hs17 Xb1_17 Xb3_17 Xb6_17 Xb8_17 Xb10_17
    go_wp2_with fail
    refine (k_widest s4 g4 p4 _ (h4_18.below (by go_grown))).mono ?_
    rintro e w19 ⟨rfl, hb19⟩
    clear h4_18
    have Xb1_19 : Box w19 w3.heap.size #[.int .i64 59840, .int .i64 59960] := Box.below Xb1_18 hb19
    have Xb3_19 : Box w19 w6.heap.size #[.int .i64 60040, .int .i64 60160] := Box.below Xb3_18 hb19
    have Xb6_19 : Box w19 p1_8 #[.int .i64 59823, .int .i64 59932] := Box.below Xb6_18 hb19
    have Xb8_19 : Box w19 w11.heap.size #[.int .i64 59840, .int .i64 59960] := Box.below Xb8_18 hb19
    have Xb10_19 : Box w19 w16.heap.size #[.int .i64 40, .int .i64 410] := Box.below Xb10_18 hb19
    have hB19 : Below w.heap.size w w19 := stepB (by go_grown) hb19
    have hs19 := hB19.size
    clear hb19 hB18 hs18 Xb1_18 Xb3_18 Xb6_18 Xb8_18 Xb10_18
    go_wp2_with fail
    refine (two_any _).mono ?_
    rintro e w20 ⟨s5, g5, p5, rfl, hb20, h5⟩
    have Xb1_20 : Box w20 w3.heap.size #[.int .i64 59840, .int .i64 59960] := Box.below (Box.alloc Xb1_19 _) hb20
    have Xb3_20 : Box w20 w6.heap.size #[.int .i64 60040, .int .i64 60160] := Box.below (Box.alloc Xb3_19 _) hb20
    have Xb6_20 : Box w20 p1_8 #[.int .i64 59823, .int .i64 59932] := Box.below (Box.alloc Xb6_19 _) hb20
    have Xb8_20 : Box w20 w11.heap.size #[.int .i64 59840, .int .i64 59960] := Box.below (Box.alloc Xb8_19 _) hb20
    have Xb10_20 : Box w20 w16.heap.size #[.int .i64 40, .int .i64 410] := Box.below (Box.alloc Xb10_19 _) hb20
    have Xb12_20 : Box w20 w19.heap.size #[.int .i64 0, .int .i64 0, .int .i64 1, .int .i64 0] := Box.below (Box.new w19 _ _) hb20
    have hB20 : Below w.heap.size w w20 := stepB (by go_grown) hb20
    have hs20 := hB20.size
    clear hb20 hB19 hs19 Xb1_19 Xb3_19 Xb6_19 Xb8_19 Xb10_19
    go_wp2_with fail
    refine (lclass_any _ _ _).mono ?_
    rintro e w21 ⟨rfl, hb21⟩
    have Xb1_21 : Box w21 w3.heap.size #[.int .i64 59840, .int .i64 59960] := Box.below Xb1_20 hb21
    have Xb3_21 : Box w21 w6.heap.size #[.int .i64 60040, .int .i64 60160] := Box.below Xb3_20 hb21
    have Xb6_21 : Box w21 p1_8 #[.int .i64 59823, .int .i64 59932] := Box.below Xb6_20 hb21
    have Xb8_21 : Box w21 w11.heap.size #[.int .i64 59840, .int .i64 59960] := Box.below Xb8_20 hb21
    have Xb10_21 : Box w21 w16.heap.size #[.int .i64 40, .int .i64 410] := Box.below Xb10_20 hb21
    have Xb12_21 : Box w21 w19.heap.size #[.int .i64 0, .int .i64 0, .int .i64 1, .int .i64 0] := Box.below Xb12_20 hb21
    have hB21 : Below w.heap.size w w21 := stepB (by go_grown) hb21
    have hs21 := hB21.size
    have h5_21 := (h5).below (stepB (by go_grown) hb21)
    clear hb21 h5 hB20 hs20 Xb1_20 Xb3_20 Xb6_20 Xb8_20 Xb10_20 Xb12_20
    go_wp2_with fail
    refine (lclass_any _ _ _).mono ?_
    rintro e w22 ⟨rfl, hb22⟩
    have Xb1_22 : Box w22 w3.heap.size #[.int .i64 59840, .int .i64 59960] := Box.below Xb1_21 hb22
    have Xb3_22 : Box w22 w6.heap.size #[.int .i64 60040, .int .i64 60160] := Box.below Xb3_21 hb22
    have Xb6_22 : Box w22 p1_8 #[.int .i64 59823, .int .i64 59932] := Box.below Xb6_21 hb22
    have Xb8_22 : Box w22 w11.heap.size #[.int .i64 59840, .int .i64 59960] := Box.below Xb8_21 hb22
    have Xb10_22 : Box w22 w16.heap.size #[.int .i64 40, .int .i64 410] := Box.below Xb10_21 hb22
    have Xb12_22 : Box w22 w19.heap.size #[.int .i64 0, .int .i64 0, .int .i64 1, .int .i64 0] := Box.below Xb12_21 hb22
    have hB22 : Below w.heap.size w w22 := stepB (by go_grown) hb22
    have hs22 := hB22.size
    have h5_22 := (h5_21).below (stepB (by go_grown) hb22)
    clear hb22 h5_21 hB21 hs21 Xb1_21 Xb3_21 Xb6_21 Xb8_21 Xb10_21 Xb12_21
    go_wp2_with fail
    refine (k_within s5 g5 p5 _ (h5_22.below (by go_grown))).mono ?_
    rintro e w23 ⟨gw, cw, rfl, lw, cw0, cw1, hb23⟩
    clear h5_22
    have Xb1_23 : Box w23 w3.heap.size #[.int .i64 59840, .int .i64 59960] := Box.below Xb1_22 hb23
    have Xb3_23 : Box w23 w6.heap.size #[.int .i64 60040, .int .i64 60160] := Box.below Xb3_22 hb23
    have Xb6_23 : Box w23 p1_8 #[.int .i64 59823, .int .i64 59932] := Box.below Xb6_22 hb23
    have Xb8_23 : Box w23 w11.heap.size #[.int .i64 59840, .int .i64 59960] := Box.below Xb8_22 hb23
    have Xb10_23 : Box w23 w16.heap.size #[.int .i64 40, .int .i64 410] := Box.below Xb10_22 hb23
    have Xb12_23 : Box w23 w19.heap.size #[.int .i64 0, .int .i64 0, .int .i64 1, .int .i64 0] := Box.below Xb12_22 hb23
    have hB23 : Below w.heap.size w w23 := stepB (by go_grown) hb23
    have hs23 := hB23.size
    clear hb23 hB22 hs22 Xb1_22 Xb3_22 Xb6_22 Xb8_22 Xb10_22 Xb12_22
    have hw : Seg2 w23 gw := ⟨lw, cw0, cw1⟩
    clear lw cw0 cw1
    go_wp2_with fail
    refine (lspan_any _ _ _).mono ?_
    rintro e w24 ⟨rfl, hb24⟩
    have Xb1_24 : Box w24 w3.heap.size #[.int .i64 59840, .int .i64 59960] := Box.below Xb1_23 hb24
    have Xb3_24 : Box w24 w6.heap.size #[.int .i64 60040, .int .i64 60160] := Box.below Xb3_23 hb24
    have Xb6_24 : Box w24 p1_8 #[.int .i64 59823, .int .i64 59932] := Box.below Xb6_23 hb24
    have Xb8_24 : Box w24 w11.heap.size #[.int .i64 59840, .int .i64 59960] := Box.below Xb8_23 hb24
    have Xb10_24 : Box w24 w16.heap.size #[.int .i64 40, .int .i64 410] := Box.below Xb10_23 hb24
    have Xb12_24 : Box w24 w19.heap.size #[.int .i64 0, .int .i64 0, .int .i64 1, .int .i64 0] := Box.below Xb12_23 hb24
    have hB24 : Below w.heap.size w w24 := stepB (by go_grown) hb24
    have hs24 := hB24.size
    have hw_24 := (hw).below (stepB (by go_grown) hb24)
    clear hb24 hw hB23 hs23 Xb1_23 Xb3_23 Xb6_23 Xb8_23 Xb10_23 Xb12_23
    go_wp2_with fail
    refine (lspan_any _ _ _).mono ?_
    rintro e w25 ⟨rfl, hb25⟩
    have Xb1_25 : Box w25 w3.heap.size #[.int .i64 59840, .int .i64 59960] := Box.below Xb1_24 hb25
    have Xb3_25 : Box w25 w6.heap.size #[.int .i64 60040, .int .i64 60160] := Box.below Xb3_24 hb25
    have Xb6_25 : Box w25 p1_8 #[.int .i64 59823, .int .i64 59932] := Box.below Xb6_24 hb25
    have Xb8_25 : Box w25 w11.heap.size #[.int .i64 59840, .int .i64 59960] := Box.below Xb8_24 hb25
    have Xb10_25 : Box w25 w16.heap.size #[.int .i64 40, .int .i64 410] := Box.below Xb10_24 hb25
    have Xb12_25 : Box w25 w19.heap.size #[.int .i64 0, .int .i64 0, .int .i64 1, .int .i64 0] := Box.below Xb12_24 hb25
    have hB25 : Below w.heap.size w w25 := stepB (by go_grown) hb25
    have hs25 := hB25.size
    have hw_25 := (hw_24).below (stepB (by go_grown) hb25)
    clear hb25 hw_24 hB24 hs24 Xb1_24 Xb3_24 Xb6_24 Xb8_24 Xb10_24 Xb12_24
    go_wp2_with fail
    refine (lspan_any _ _ _).mono ?_
    rintro e w26 ⟨rfl, hb26⟩
    have Xb1_26 : Box w26 w3.heap.size #[.int .i64 59840, .int .i64 59960] := Box.below Xb1_25 hb26
    have Xb3_26 : Box w26 w6.heap.size #[.int .i64 60040, .int .i64 60160] := Box.below Xb3_25 hb26
    have Xb6_26 : Box w26 p1_8 #[.int .i64 59823, .int .i64 59932] := Box.below Xb6_25 hb26
    have Xb8_26 : Box w26 w11.heap.size #[.int .i64 59840, .int .i64 59960] := Box.below Xb8_25 hb26
    have Xb10_26 : Box w26 w16.heap.size #[.int .i64 40, .int .i64 410] := Box.below Xb10_25 hb26
    have Xb12_26 : Box w26 w19.heap.size #[.int .i64 0, .int .i64 0, .int .i64 1, .int .i64 0] := Box.below Xb12_25 hb26
    have hB26 : Below w.heap.size w w26 := stepB (by go_grown) hb26
    have hs26 := hB26.size
    have hw_26 := (hw_25).below (stepB (by go_grown) hb26)
    clear hb26 hw_25 hB25 hs25 Xb1_25 Xb3_25 Xb6_25 Xb8_25 Xb10_25 Xb12_25
    go_wp2_with fail
    refine (k_groups _).mono ?_
    rintro e w27 ⟨rfl, hb27⟩
    have Xb1_27 : Box w27 w3.heap.size #[.int .i64 59840, .int .i64 59960] := Box.below Xb1_26 hb27
    have Xb3_27 : Box w27 w6.heap.size #[.int .i64 60040, .int .i64 60160] := Box.below Xb3_26 hb27
    have Xb6_27 : Box w27 p1_8 #[.int .i64 59823, .int .i64 59932] := Box.below Xb6_26 hb27
    have Xb8_27 : Box w27 w11.heap.size #[.int .i64 59840, .int .i64 59960] := Box.below Xb8_26 hb27
    have Xb10_27 : Box w27 w16.heap.size #[.int .i64 40, .int .i64 410] := Box.below Xb10_26 hb27
    have Xb12_27 : Box w27 w19.heap.size #[.int .i64 0, .int .i64 0, .int .i64 1, .int .i64 0] := Box.below Xb12_26 hb27
    have hB27 : Below w.heap.size w w27 := stepB (by go_grown) hb27
    have hs27 := hB27.size
    have hw_27 := (hw_26).below (stepB (by go_grown) hb27)
    clear hb27 hw_26 hB26 hs26 Xb1_26 Xb3_26 Xb6_26 Xb8_26 Xb10_26 Xb12_26
    go_wp2
    have Yb1 : Box w27 w3.heap.size #[.int .i64 59840, .int .i64 59960] := Xb1_27
    have Yb3 : Box w27 w6.heap.size #[.int .i64 60040, .int .i64 60160] := Xb3_27
    have Yb6 : Box w27 p1_8 #[.int .i64 59823, .int .i64 59932] := Xb6_27
    have Yb8 : Box w27 w11.heap.size #[.int .i64 59840, .int .i64 59960] := Xb8_27
    have Yb10 : Box w27 w16.heap.size #[.int .i64 40, .int .i64 410] := Xb10_27
    have Yb12 : Box w27 w19.heap.size #[.int .i64 0, .int .i64 0, .int .i64 1, .int .i64 0] := Xb12_27
    have hBX : Below w.heap.size w w27 := by go_grown
    clear hB27 hs27 Xb1_27 Xb3_27 Xb6_27 Xb8_27 Xb10_27 Xb12_27
    have hsX := hBX.size
    have rd1 := fun d os => (Yb1.regrown d os).2.1
    have rd3 := fun d os => (Yb3.regrown d os).2.1
    have rd6 := fun d os => (Yb6.regrown d os).2.1
    have rd8 := fun d os => (Yb8.regrown d os).2.1
    have rd10 := fun d os => (Yb10.regrown d os).2.1
    have rd12 := fun d os => (Yb12.regrown d os).2.1
    have kc111 := fun d os => (lspan_any 59840 59960 (Go.Sort.grow (redrawn w27 d) os)).regrown_of
    have kc115 := fun d os => (lspan_any 60040 60160 (Go.Sort.grow (redrawn w27 d) os)).regrown_of
    have kc120 := fun d os => (lspan_any 59823 59932 (Go.Sort.grow (redrawn w27 d) os)).regrown_of
    have kc125 := fun d os => (lspan_any 59840 59960 (Go.Sort.grow (redrawn w27 d) os)).regrown_of
    have kc130 := fun d os => (lspan_any 40 410 (Go.Sort.grow (redrawn w27 d) os)).regrown_of
    have kc135 := fun d os => (lclass_any 0 0 (Go.Sort.grow (redrawn w27 d) os)).regrown_of
    have kc136 := fun d os => (lclass_any 1 0 (Go.Sort.grow (redrawn w27 d) os)).regrown_of
    have kc137 := fun d os => (lpair_any 0 0 1 0 (Go.Sort.grow (redrawn w27 d) os)).regrown_of
    have kc144 := fun d os => (lspan_any 1 100000 (Go.Sort.grow (redrawn w27 d) os)).regrown_of
    clear Yb1 Yb3 Yb6 Yb8 Yb10 Yb12
    have rw0 := fun d os => (hw_27.below (below_regrown w27 d os)).2.1
    have rw1 := fun d os => (hw_27.below (below_regrown w27 d os)).2.2
    refine wp_region_quiet_below (by kernel_rfl) (by kernel_rfl) ?_
    repeat ((with_reducible refine wpQuiet_step (fun K hK => ?_)); go_simp; first | ((with_reducible refine hK _ ?_); clear hK K) | (apply Exists.intro; refine ⟨fun _ => ?_, hK _ ?_⟩; (first | (go_at_call 40; with_reducible exact kc111 _ _) | (go_at_call 40; with_reducible exact kc115 _ _) | (go_at_call 40; with_reducible exact kc120 _ _) | (go_at_call 40; with_reducible exact kc125 _ _) | (go_at_call 40; with_reducible exact kc130 _ _) | (go_at_call 31; with_reducible exact kc135 _ _) | (go_at_call 31; with_reducible exact kc136 _ _) | (go_at_call 44; with_reducible exact kc137 _ _) | (go_at_call 40; with_reducible exact kc144 _ _)); clear hK K))
    with_reducible refine wpQuiet_nil ?_
    intro w28 hw'
    obtain ⟨⟨dq, osq⟩, hw''⟩ := hw'
    have hb28 : Below w27.heap.size w27 w28 := by rw [hw'']; exact below_regrown w27 dq osq
    have hB28 : Below w.heap.size w w28 := stepB hBX hb28
    have hs28 := hB28.size
    clear hw'' hb28 hBX hsX rd1 rd3 rd6 rd8 rd10 rd12 kc111 kc115 kc120 kc125 kc130 kc135 kc136 kc137 kc144
    go_wp2
    go_returns
    exact ⟨rfl, hB28⟩

end Go.Proofs.Ytpmeahmjmpgbfaa
