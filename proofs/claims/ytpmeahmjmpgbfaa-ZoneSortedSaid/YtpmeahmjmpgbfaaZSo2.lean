/- ZoneSorted: good. Made by tools/gen_zslaw.py. -/
import Derived.Test.YtpmeahmjmpgbfaaZSo0
import Derived.Deep.DeepCutAuto
namespace Go.Proofs.Ytpmeahmjmpgbfaa
open Go.ChangeShapes Go.WideShapes Go.ChangeAt Go.RowKit
set_option linter.unusedVariables false
set_option linter.unusedSimpArgs false

set_option maxRecDepth 100000 in
set_option maxHeartbeats 16000000 in
theorem good_any (s0 s1 n0 n1 v0 v1 : Int) (g : Nat) (p14 p7 p8 p10 : Nat) (w : World) (g0 : 1 ≤ g) (g1 : g ≤ 50) (a0 : 0 ≤ s0) (a1 : s0 ≤ s1) (a2 : s1 ≤ 20000000) (b0 : 0 ≤ n0) (b1 : n0 ≤ n1) (b2 : n1 ≤ 20000000)
    (X1 : Box w p14 #[.func (.func 64) #[] #[]]) (X2 : Box w p7 #[.int .i64 s0, .int .i64 s1]) (X3 : Box w p8 #[.int .i64 n0, .int .i64 n1]) (X4 : Box w p10 #[.int .i64 v0, .int .i64 v1]) :
    Calls Try.prog 65 #[.int .i64 g, .pointer (some ⟨p14, 0, none⟩), .pointer (some ⟨p7, 0, none⟩), .pointer (some ⟨p8, 0, none⟩), .pointer (some ⟨p10, 0, none⟩)] w fun e w' => e = .returned (.bool (sortedB s0 s1 n0 n1 v0 v1 g)) ∧ Below w.heap.size w w' := by
  go_enter Try.func65, Try.ntmps65
  go_wp2
  go_loopw [7, 8, 9] (fun i _ _ wr => ∃ k : Nat, k ≤ g ∧ i = .int .i64 k ∧ Hid (∀ j, j < k → okG s0 s1 n0 n1 v0 v1 g j = true) ∧ Box wr p14 #[.func (.func 64) #[] #[]] ∧ Box wr p7 #[.int .i64 s0, .int .i64 s1] ∧ Box wr p8 #[.int .i64 n0, .int .i64 n1] ∧ Box wr p10 #[.int .i64 v0, .int .i64 v1] ∧ Below w.heap.size w wr) (fun i _ _ _ => g - (intOf i).toNat)
  case atStart => exact ⟨0, Nat.zero_le _, rfl, Lib.hid fun j hj => absurd hj (by omega), X1, X2, X3, X4, Below.refl _ _⟩
  case round =>
    clear X1 X2 X3 X4
    obtain ⟨k, hk, rfl, hin, X1, X2, X3, X4, hBr⟩ := hrel
    have hsr := hBr.size
    by_cases hki : k < g
    · have hki' : (k : Int) < g := by omega
      have G1 := fun (W : World) => part_any s0 s1 k g W (by omega) (by omega) (by omega) (by omega) (by omega) (by omega) (by omega) (by omega) a1
      have G2 := fun (W : World) => part_any n0 n1 k g W (by omega) (by omega) (by omega) (by omega) (by omega) (by omega) (by omega) (by omega) b1
      have dA := gAt_bd (lo := s0) (hi := s1) (i := k) (n := g) ⟨by omega, by omega⟩ ⟨by omega, by omega⟩ ⟨by omega, by omega⟩ (by omega)
      have dB := gAt_bd (lo := s0) (hi := s1) (i := k + 1) (n := g) ⟨by omega, by omega⟩ ⟨by omega, by omega⟩ ⟨by omega, by omega⟩ (by omega)
      have dC := gAt_bd (lo := n0) (hi := n1) (i := k) (n := g) ⟨by omega, by omega⟩ ⟨by omega, by omega⟩ ⟨by omega, by omega⟩ (by omega)
      have dD := gAt_bd (lo := n0) (hi := n1) (i := k + 1) (n := g) ⟨by omega, by omega⟩ ⟨by omega, by omega⟩ ⟨by omega, by omega⟩ (by omega)
      obtain ⟨A, hA⟩ : ∃ A, gAt s0 s1 k g = A := ⟨_, rfl⟩
      obtain ⟨B, hB'⟩ : ∃ B, gAt s0 s1 (k + 1) g - 1 = B := ⟨_, rfl⟩
      obtain ⟨C, hC⟩ : ∃ C, gAt n0 n1 k g = C := ⟨_, rfl⟩
      obtain ⟨D, hD⟩ : ∃ D, gAt n0 n1 (k + 1) g - 1 = D := ⟨_, rfl⟩
      have HOK : Hid (okG s0 s1 n0 n1 v0 v1 g k = (!decide (B < A) && !decide (D < C) && lies (C - B) (D - A) v0 v1)) := by subst hA hB' hC hD; exact Lib.hid rfl
      rw [hA, hB'] at G1
      rw [hC, hD] at G2
      unfold spanV at G1 G2
      have HG1 := Lib.hid G1
      have HG2 := Lib.hid G2
      have bA : -1000000000001 ≤ A ∧ A ≤ 1000000000001 := by omega
      have bB : -1000000000001 ≤ B ∧ B ≤ 1000000000001 := by omega
      have bC : -1000000000001 ≤ C ∧ C ≤ 1000000000001 := by omega
      have bD : -1000000000001 ≤ D ∧ D ≤ 1000000000001 := by omega
      have W1 : IntKind.i64.wrap (C - B) = C - B := IntWalk.i64_in _ (by omega)
      have W2 : IntKind.i64.wrap (D - A) = D - A := IntWalk.i64_in _ (by omega)
      clear G1 G2 hA hB' hC hD dA dB dC dD bA bB bC bD
      have HIN := Lib.hid hin
      clear hin
      cases q1 : decide (B < A)
      · cases q2 : decide (D < C)
        · cases q3 : decide (C - B < v0)
          · cases q4 : decide (v1 < D - A)
            · go_wp2
              have Yb1 : Box wr p14 #[.func (.func 64) #[] #[]] := X1
              have Yb2 : Box wr p7 #[.int .i64 s0, .int .i64 s1] := X2
              have Yb3 : Box wr p8 #[.int .i64 n0, .int .i64 n1] := X3
              have Yb4 : Box wr p10 #[.int .i64 v0, .int .i64 v1] := X4
              have hBX : Below w.heap.size w wr := by go_grown
              clear hBr hsr X1 X2 X3 X4
              have Zb1 := Lib.hid Yb1
              have Zb2 := Lib.hid Yb2
              have Zb3 := Lib.hid Yb3
              have Zb4 := Lib.hid Yb4
              have ZBX := Lib.hid hBX
              clear hBX Yb1 Yb2 Yb3 Yb4
              refine wp_region_float2 10 8 9 #[.int .i64 0, .int .i64 0] #[.int .i64 0, .int .i64 0] 24 24 (by kernel_rfl) (by kernel_rfl) ?A1 ?A2 ?E
              case A1 =>
                intro a w K hK
                unfold wpOp
                simp only [List.getElem?_toArray, List.getElem?_cons_succ, List.getElem?_cons_zero]
                go_simp
                exact .inl hK
              case A2 =>
                intro a w K hK
                unfold wpOp
                simp only [List.getElem?_toArray, List.getElem?_cons_succ, List.getElem?_cons_zero]
                go_simp
                exact .inl hK
              case E =>
                apply Exists.intro
                apply And.intro
                intro X' hX
                have rd1 := fun dz os => ((Zb1.out.below hX).regrown dz os).2.1
                have rd2 := fun dz os => ((Zb2.out.below hX).regrown dz os).2.1
                have rd3 := fun dz os => ((Zb3.out.below hX).regrown dz os).2.1
                have kc19 := fun dz os => (HG1.out (Go.Sort.grow (redrawn X' dz) os)).regrown_of
                have kc24 := fun dz os => (HG2.out (Go.Sort.grow (redrawn X' dz) os)).regrown_of
                simp only [List.take_succ_cons, List.take_zero]
                unfold InB
                repeat ((with_reducible refine wpQuiet_step (fun K hK => ?_)); go_simp; first | ((with_reducible refine hK _ ?_); clear hK K) | (apply Exists.intro; refine ⟨fun _ => ?_, hK _ ?_⟩; (first | (go_at_call 64; with_reducible exact kc19 _ _) | (go_at_call 64; with_reducible exact kc24 _ _)); clear hK K))
                exact wpQuiet_nil rfl
                intro p1 p2 u1 hb1 B1 B2 hne hg1 hg2
                have hsX := ZBX.out.size
                have c1' := B1.2.1
                have c2' := B2.2.1
                have f1' := B1.2.2
                have f2' := B2.2.2
                have l1' := B1.1
                have l2' := B2.1
                have Y1 : Box _ p1 #[.int .i64 A, .int .i64 B] := (Box.setOther (Box.setOther (Box.setCell (Box.setCell B1 (i := 0) (by simp) (.int .i64 A)) (i := 1) (by simp) (.int .i64 B)) (g' := p2) (i := 0) (Ne.symm hne) (.int .i64 C)) (g' := p2) (i := 1) (Ne.symm hne) (.int .i64 D))
                have Y2 : Box _ p2 #[.int .i64 C, .int .i64 D] := (Box.setCell (Box.setCell (Box.setOther (Box.setOther B2 (g' := p1) (i := 0) hne (.int .i64 A)) (g' := p1) (i := 1) hne (.int .i64 B)) (i := 0) (by simp) (.int .i64 C)) (i := 1) (by simp) (.int .i64 D))
                have hBW := (Below.setCell (Below.setCell (Below.setCell (Below.setCell hb1 (p := ⟨p1, 0, none⟩) hg1 (.int .i64 A)) (p := ⟨p1, 1, none⟩) hg1 (.int .i64 B)) (p := ⟨p2, 0, none⟩) hg2 (.int .i64 C)) (p := ⟨p2, 1, none⟩) hg2 (.int .i64 D))
                have HBS := Lib.hid (And.intro Y1 (And.intro Y2 hBW))
                clear Y1 Y2 hBW
                simp only [List.drop_succ_cons, List.drop_zero, Act.put, ptrV]
                go_upto_region 5 with fail
                clear B1 B2 c1' c2' f1' f2' l1' l2' hb1
                generalize ((((u1.setCell ⟨p1, 0, none⟩ (.int .i64 A)).setCell ⟨p1, 1, none⟩ (.int .i64 B)).setCell ⟨p2, 0, none⟩ (.int .i64 C)).setCell ⟨p2, 1, none⟩ (.int .i64 D)) = w1 at *
                obtain ⟨Xb8_1, Xb9_1, hb1⟩ := HBS.out
                clear HBS
                have Xb1_1 : Box w1 p14 #[.func (.func 64) #[] #[]] := Zb1.out.below hb1
                have nq1 : p2 ≠ p14 := by have := Zb1.out.1; omega
                have Xb2_1 : Box w1 p7 #[.int .i64 s0, .int .i64 s1] := Zb2.out.below hb1
                have nq2 : p2 ≠ p7 := by have := Zb2.out.1; omega
                have Xb3_1 : Box w1 p8 #[.int .i64 n0, .int .i64 n1] := Zb3.out.below hb1
                have nq3 : p2 ≠ p8 := by have := Zb3.out.1; omega
                have Xb4_1 : Box w1 p10 #[.int .i64 v0, .int .i64 v1] := Zb4.out.below hb1
                have nq4 : p2 ≠ p10 := by have := Zb4.out.1; omega
                have nq8 : p2 ≠ p1 := Ne.symm hne
                have hB1 : Below w.heap.size w w1 := ZBX.out.trans (hb1.mono hsX)
                have hs1 := hB1.size
                have hz8 : w.heap.size ≤ p1 := Nat.le_trans hsX hg1
                have hz9 : w.heap.size ≤ p2 := Nat.le_trans hsX hg2
                clear hb1 ZBX hsX hg1 hg2 hne Zb1 Zb2 Zb3 Zb4
                have cc4 := Xb4_1.2.1
                have ll4 := Xb4_1.1
                have cc8 := Xb8_1.2.1
                have ll8 := Xb8_1.1
                have cc9 := Xb9_1.2.1
                have ll9 := Xb9_1.1
                go_wp2
                go_roundw
                case rel => exact ⟨k + 1, by omega, by go_num, Lib.hid fun j hj => by
                  by_cases e : j = k
                  · subst e; rw [HOK.out]; exact (by rw [q1, q2]; unfold lies; rw [decide_eq_true (by have h3 := of_decide_eq_false q3; have h4 := of_decide_eq_false q4; omega)]; rfl)
                  · exact HIN.out.out j (by omega), Xb1_1, Xb2_1, Xb3_1, Xb4_1, hB1⟩
                case measure => simp [intOf]; omega
            · go_wp2
              have Yb1 : Box wr p14 #[.func (.func 64) #[] #[]] := X1
              have Yb2 : Box wr p7 #[.int .i64 s0, .int .i64 s1] := X2
              have Yb3 : Box wr p8 #[.int .i64 n0, .int .i64 n1] := X3
              have Yb4 : Box wr p10 #[.int .i64 v0, .int .i64 v1] := X4
              have hBX : Below w.heap.size w wr := by go_grown
              clear hBr hsr X1 X2 X3 X4
              have Zb1 := Lib.hid Yb1
              have Zb2 := Lib.hid Yb2
              have Zb3 := Lib.hid Yb3
              have Zb4 := Lib.hid Yb4
              have ZBX := Lib.hid hBX
              clear hBX Yb1 Yb2 Yb3 Yb4
              refine wp_region_float2 10 8 9 #[.int .i64 0, .int .i64 0] #[.int .i64 0, .int .i64 0] 24 24 (by kernel_rfl) (by kernel_rfl) ?A1 ?A2 ?E
              case A1 =>
                intro a w K hK
                unfold wpOp
                simp only [List.getElem?_toArray, List.getElem?_cons_succ, List.getElem?_cons_zero]
                go_simp
                exact .inl hK
              case A2 =>
                intro a w K hK
                unfold wpOp
                simp only [List.getElem?_toArray, List.getElem?_cons_succ, List.getElem?_cons_zero]
                go_simp
                exact .inl hK
              case E =>
                apply Exists.intro
                apply And.intro
                intro X' hX
                have rd1 := fun dz os => ((Zb1.out.below hX).regrown dz os).2.1
                have rd2 := fun dz os => ((Zb2.out.below hX).regrown dz os).2.1
                have rd3 := fun dz os => ((Zb3.out.below hX).regrown dz os).2.1
                have kc19 := fun dz os => (HG1.out (Go.Sort.grow (redrawn X' dz) os)).regrown_of
                have kc24 := fun dz os => (HG2.out (Go.Sort.grow (redrawn X' dz) os)).regrown_of
                simp only [List.take_succ_cons, List.take_zero]
                unfold InB
                repeat ((with_reducible refine wpQuiet_step (fun K hK => ?_)); go_simp; first | ((with_reducible refine hK _ ?_); clear hK K) | (apply Exists.intro; refine ⟨fun _ => ?_, hK _ ?_⟩; (first | (go_at_call 64; with_reducible exact kc19 _ _) | (go_at_call 64; with_reducible exact kc24 _ _)); clear hK K))
                exact wpQuiet_nil rfl
                intro p1 p2 u1 hb1 B1 B2 hne hg1 hg2
                have hsX := ZBX.out.size
                have c1' := B1.2.1
                have c2' := B2.2.1
                have f1' := B1.2.2
                have f2' := B2.2.2
                have l1' := B1.1
                have l2' := B2.1
                have Y1 : Box _ p1 #[.int .i64 A, .int .i64 B] := (Box.setOther (Box.setOther (Box.setCell (Box.setCell B1 (i := 0) (by simp) (.int .i64 A)) (i := 1) (by simp) (.int .i64 B)) (g' := p2) (i := 0) (Ne.symm hne) (.int .i64 C)) (g' := p2) (i := 1) (Ne.symm hne) (.int .i64 D))
                have Y2 : Box _ p2 #[.int .i64 C, .int .i64 D] := (Box.setCell (Box.setCell (Box.setOther (Box.setOther B2 (g' := p1) (i := 0) hne (.int .i64 A)) (g' := p1) (i := 1) hne (.int .i64 B)) (i := 0) (by simp) (.int .i64 C)) (i := 1) (by simp) (.int .i64 D))
                have hBW := (Below.setCell (Below.setCell (Below.setCell (Below.setCell hb1 (p := ⟨p1, 0, none⟩) hg1 (.int .i64 A)) (p := ⟨p1, 1, none⟩) hg1 (.int .i64 B)) (p := ⟨p2, 0, none⟩) hg2 (.int .i64 C)) (p := ⟨p2, 1, none⟩) hg2 (.int .i64 D))
                have HBS := Lib.hid (And.intro Y1 (And.intro Y2 hBW))
                clear Y1 Y2 hBW
                simp only [List.drop_succ_cons, List.drop_zero, Act.put, ptrV]
                go_upto_region 5 with fail
                clear B1 B2 c1' c2' f1' f2' l1' l2' hb1
                generalize ((((u1.setCell ⟨p1, 0, none⟩ (.int .i64 A)).setCell ⟨p1, 1, none⟩ (.int .i64 B)).setCell ⟨p2, 0, none⟩ (.int .i64 C)).setCell ⟨p2, 1, none⟩ (.int .i64 D)) = w1 at *
                obtain ⟨Xb8_1, Xb9_1, hb1⟩ := HBS.out
                clear HBS
                have Xb1_1 : Box w1 p14 #[.func (.func 64) #[] #[]] := Zb1.out.below hb1
                have nq1 : p2 ≠ p14 := by have := Zb1.out.1; omega
                have Xb2_1 : Box w1 p7 #[.int .i64 s0, .int .i64 s1] := Zb2.out.below hb1
                have nq2 : p2 ≠ p7 := by have := Zb2.out.1; omega
                have Xb3_1 : Box w1 p8 #[.int .i64 n0, .int .i64 n1] := Zb3.out.below hb1
                have nq3 : p2 ≠ p8 := by have := Zb3.out.1; omega
                have Xb4_1 : Box w1 p10 #[.int .i64 v0, .int .i64 v1] := Zb4.out.below hb1
                have nq4 : p2 ≠ p10 := by have := Zb4.out.1; omega
                have nq8 : p2 ≠ p1 := Ne.symm hne
                have hB1 : Below w.heap.size w w1 := ZBX.out.trans (hb1.mono hsX)
                have hs1 := hB1.size
                have hz8 : w.heap.size ≤ p1 := Nat.le_trans hsX hg1
                have hz9 : w.heap.size ≤ p2 := Nat.le_trans hsX hg2
                clear hb1 ZBX hsX hg1 hg2 hne Zb1 Zb2 Zb3 Zb4
                have cc4 := Xb4_1.2.1
                have ll4 := Xb4_1.1
                have cc8 := Xb8_1.2.1
                have ll8 := Xb8_1.1
                have cc9 := Xb9_1.2.1
                have ll9 := Xb9_1.1
                go_wp2
                go_returns
                exact ⟨ret_bool (sorted_no (by simpa using hki) (by rw [HOK.out]; exact (by rw [q1, q2]; unfold lies; rw [decide_eq_false (by have := of_decide_eq_true q4; omega)]; rfl))).symm, hB1⟩
          · go_wp2
            have Yb1 : Box wr p14 #[.func (.func 64) #[] #[]] := X1
            have Yb2 : Box wr p7 #[.int .i64 s0, .int .i64 s1] := X2
            have Yb3 : Box wr p8 #[.int .i64 n0, .int .i64 n1] := X3
            have Yb4 : Box wr p10 #[.int .i64 v0, .int .i64 v1] := X4
            have hBX : Below w.heap.size w wr := by go_grown
            clear hBr hsr X1 X2 X3 X4
            have Zb1 := Lib.hid Yb1
            have Zb2 := Lib.hid Yb2
            have Zb3 := Lib.hid Yb3
            have Zb4 := Lib.hid Yb4
            have ZBX := Lib.hid hBX
            clear hBX Yb1 Yb2 Yb3 Yb4
            refine wp_region_float2 10 8 9 #[.int .i64 0, .int .i64 0] #[.int .i64 0, .int .i64 0] 24 24 (by kernel_rfl) (by kernel_rfl) ?A1 ?A2 ?E
            case A1 =>
              intro a w K hK
              unfold wpOp
              simp only [List.getElem?_toArray, List.getElem?_cons_succ, List.getElem?_cons_zero]
              go_simp
              exact .inl hK
            case A2 =>
              intro a w K hK
              unfold wpOp
              simp only [List.getElem?_toArray, List.getElem?_cons_succ, List.getElem?_cons_zero]
              go_simp
              exact .inl hK
            case E =>
              apply Exists.intro
              apply And.intro
              intro X' hX
              have rd1 := fun dz os => ((Zb1.out.below hX).regrown dz os).2.1
              have rd2 := fun dz os => ((Zb2.out.below hX).regrown dz os).2.1
              have rd3 := fun dz os => ((Zb3.out.below hX).regrown dz os).2.1
              have kc19 := fun dz os => (HG1.out (Go.Sort.grow (redrawn X' dz) os)).regrown_of
              have kc24 := fun dz os => (HG2.out (Go.Sort.grow (redrawn X' dz) os)).regrown_of
              simp only [List.take_succ_cons, List.take_zero]
              unfold InB
              repeat ((with_reducible refine wpQuiet_step (fun K hK => ?_)); go_simp; first | ((with_reducible refine hK _ ?_); clear hK K) | (apply Exists.intro; refine ⟨fun _ => ?_, hK _ ?_⟩; (first | (go_at_call 64; with_reducible exact kc19 _ _) | (go_at_call 64; with_reducible exact kc24 _ _)); clear hK K))
              exact wpQuiet_nil rfl
              intro p1 p2 u1 hb1 B1 B2 hne hg1 hg2
              have hsX := ZBX.out.size
              have c1' := B1.2.1
              have c2' := B2.2.1
              have f1' := B1.2.2
              have f2' := B2.2.2
              have l1' := B1.1
              have l2' := B2.1
              have Y1 : Box _ p1 #[.int .i64 A, .int .i64 B] := (Box.setOther (Box.setOther (Box.setCell (Box.setCell B1 (i := 0) (by simp) (.int .i64 A)) (i := 1) (by simp) (.int .i64 B)) (g' := p2) (i := 0) (Ne.symm hne) (.int .i64 C)) (g' := p2) (i := 1) (Ne.symm hne) (.int .i64 D))
              have Y2 : Box _ p2 #[.int .i64 C, .int .i64 D] := (Box.setCell (Box.setCell (Box.setOther (Box.setOther B2 (g' := p1) (i := 0) hne (.int .i64 A)) (g' := p1) (i := 1) hne (.int .i64 B)) (i := 0) (by simp) (.int .i64 C)) (i := 1) (by simp) (.int .i64 D))
              have hBW := (Below.setCell (Below.setCell (Below.setCell (Below.setCell hb1 (p := ⟨p1, 0, none⟩) hg1 (.int .i64 A)) (p := ⟨p1, 1, none⟩) hg1 (.int .i64 B)) (p := ⟨p2, 0, none⟩) hg2 (.int .i64 C)) (p := ⟨p2, 1, none⟩) hg2 (.int .i64 D))
              have HBS := Lib.hid (And.intro Y1 (And.intro Y2 hBW))
              clear Y1 Y2 hBW
              simp only [List.drop_succ_cons, List.drop_zero, Act.put, ptrV]
              go_upto_region 5 with fail
              clear B1 B2 c1' c2' f1' f2' l1' l2' hb1
              generalize ((((u1.setCell ⟨p1, 0, none⟩ (.int .i64 A)).setCell ⟨p1, 1, none⟩ (.int .i64 B)).setCell ⟨p2, 0, none⟩ (.int .i64 C)).setCell ⟨p2, 1, none⟩ (.int .i64 D)) = w1 at *
              obtain ⟨Xb8_1, Xb9_1, hb1⟩ := HBS.out
              clear HBS
              have Xb1_1 : Box w1 p14 #[.func (.func 64) #[] #[]] := Zb1.out.below hb1
              have nq1 : p2 ≠ p14 := by have := Zb1.out.1; omega
              have Xb2_1 : Box w1 p7 #[.int .i64 s0, .int .i64 s1] := Zb2.out.below hb1
              have nq2 : p2 ≠ p7 := by have := Zb2.out.1; omega
              have Xb3_1 : Box w1 p8 #[.int .i64 n0, .int .i64 n1] := Zb3.out.below hb1
              have nq3 : p2 ≠ p8 := by have := Zb3.out.1; omega
              have Xb4_1 : Box w1 p10 #[.int .i64 v0, .int .i64 v1] := Zb4.out.below hb1
              have nq4 : p2 ≠ p10 := by have := Zb4.out.1; omega
              have nq8 : p2 ≠ p1 := Ne.symm hne
              have hB1 : Below w.heap.size w w1 := ZBX.out.trans (hb1.mono hsX)
              have hs1 := hB1.size
              have hz8 : w.heap.size ≤ p1 := Nat.le_trans hsX hg1
              have hz9 : w.heap.size ≤ p2 := Nat.le_trans hsX hg2
              clear hb1 ZBX hsX hg1 hg2 hne Zb1 Zb2 Zb3 Zb4
              have cc4 := Xb4_1.2.1
              have ll4 := Xb4_1.1
              have cc8 := Xb8_1.2.1
              have ll8 := Xb8_1.1
              have cc9 := Xb9_1.2.1
              have ll9 := Xb9_1.1
              go_wp2
              go_returns
              exact ⟨ret_bool (sorted_no (by simpa using hki) (by rw [HOK.out]; exact (by rw [q1, q2]; unfold lies; rw [decide_eq_false (by have := of_decide_eq_true q3; omega)]; rfl))).symm, hB1⟩
        · go_wp2
          have Yb1 : Box wr p14 #[.func (.func 64) #[] #[]] := X1
          have Yb2 : Box wr p7 #[.int .i64 s0, .int .i64 s1] := X2
          have Yb3 : Box wr p8 #[.int .i64 n0, .int .i64 n1] := X3
          have Yb4 : Box wr p10 #[.int .i64 v0, .int .i64 v1] := X4
          have hBX : Below w.heap.size w wr := by go_grown
          clear hBr hsr X1 X2 X3 X4
          have Zb1 := Lib.hid Yb1
          have Zb2 := Lib.hid Yb2
          have Zb3 := Lib.hid Yb3
          have Zb4 := Lib.hid Yb4
          have ZBX := Lib.hid hBX
          clear hBX Yb1 Yb2 Yb3 Yb4
          refine wp_region_float2 10 8 9 #[.int .i64 0, .int .i64 0] #[.int .i64 0, .int .i64 0] 24 24 (by kernel_rfl) (by kernel_rfl) ?A1 ?A2 ?E
          case A1 =>
            intro a w K hK
            unfold wpOp
            simp only [List.getElem?_toArray, List.getElem?_cons_succ, List.getElem?_cons_zero]
            go_simp
            exact .inl hK
          case A2 =>
            intro a w K hK
            unfold wpOp
            simp only [List.getElem?_toArray, List.getElem?_cons_succ, List.getElem?_cons_zero]
            go_simp
            exact .inl hK
          case E =>
            apply Exists.intro
            apply And.intro
            intro X' hX
            have rd1 := fun dz os => ((Zb1.out.below hX).regrown dz os).2.1
            have rd2 := fun dz os => ((Zb2.out.below hX).regrown dz os).2.1
            have rd3 := fun dz os => ((Zb3.out.below hX).regrown dz os).2.1
            have kc19 := fun dz os => (HG1.out (Go.Sort.grow (redrawn X' dz) os)).regrown_of
            have kc24 := fun dz os => (HG2.out (Go.Sort.grow (redrawn X' dz) os)).regrown_of
            simp only [List.take_succ_cons, List.take_zero]
            unfold InB
            repeat ((with_reducible refine wpQuiet_step (fun K hK => ?_)); go_simp; first | ((with_reducible refine hK _ ?_); clear hK K) | (apply Exists.intro; refine ⟨fun _ => ?_, hK _ ?_⟩; (first | (go_at_call 64; with_reducible exact kc19 _ _) | (go_at_call 64; with_reducible exact kc24 _ _)); clear hK K))
            exact wpQuiet_nil rfl
            intro p1 p2 u1 hb1 B1 B2 hne hg1 hg2
            have hsX := ZBX.out.size
            have c1' := B1.2.1
            have c2' := B2.2.1
            have f1' := B1.2.2
            have f2' := B2.2.2
            have l1' := B1.1
            have l2' := B2.1
            have Y1 : Box _ p1 #[.int .i64 A, .int .i64 B] := (Box.setOther (Box.setOther (Box.setCell (Box.setCell B1 (i := 0) (by simp) (.int .i64 A)) (i := 1) (by simp) (.int .i64 B)) (g' := p2) (i := 0) (Ne.symm hne) (.int .i64 C)) (g' := p2) (i := 1) (Ne.symm hne) (.int .i64 D))
            have Y2 : Box _ p2 #[.int .i64 C, .int .i64 D] := (Box.setCell (Box.setCell (Box.setOther (Box.setOther B2 (g' := p1) (i := 0) hne (.int .i64 A)) (g' := p1) (i := 1) hne (.int .i64 B)) (i := 0) (by simp) (.int .i64 C)) (i := 1) (by simp) (.int .i64 D))
            have hBW := (Below.setCell (Below.setCell (Below.setCell (Below.setCell hb1 (p := ⟨p1, 0, none⟩) hg1 (.int .i64 A)) (p := ⟨p1, 1, none⟩) hg1 (.int .i64 B)) (p := ⟨p2, 0, none⟩) hg2 (.int .i64 C)) (p := ⟨p2, 1, none⟩) hg2 (.int .i64 D))
            have HBS := Lib.hid (And.intro Y1 (And.intro Y2 hBW))
            clear Y1 Y2 hBW
            simp only [List.drop_succ_cons, List.drop_zero, Act.put, ptrV]
            go_upto_region 5 with fail
            clear B1 B2 c1' c2' f1' f2' l1' l2' hb1
            generalize ((((u1.setCell ⟨p1, 0, none⟩ (.int .i64 A)).setCell ⟨p1, 1, none⟩ (.int .i64 B)).setCell ⟨p2, 0, none⟩ (.int .i64 C)).setCell ⟨p2, 1, none⟩ (.int .i64 D)) = w1 at *
            obtain ⟨Xb8_1, Xb9_1, hb1⟩ := HBS.out
            clear HBS
            have Xb1_1 : Box w1 p14 #[.func (.func 64) #[] #[]] := Zb1.out.below hb1
            have nq1 : p2 ≠ p14 := by have := Zb1.out.1; omega
            have Xb2_1 : Box w1 p7 #[.int .i64 s0, .int .i64 s1] := Zb2.out.below hb1
            have nq2 : p2 ≠ p7 := by have := Zb2.out.1; omega
            have Xb3_1 : Box w1 p8 #[.int .i64 n0, .int .i64 n1] := Zb3.out.below hb1
            have nq3 : p2 ≠ p8 := by have := Zb3.out.1; omega
            have Xb4_1 : Box w1 p10 #[.int .i64 v0, .int .i64 v1] := Zb4.out.below hb1
            have nq4 : p2 ≠ p10 := by have := Zb4.out.1; omega
            have nq8 : p2 ≠ p1 := Ne.symm hne
            have hB1 : Below w.heap.size w w1 := ZBX.out.trans (hb1.mono hsX)
            have hs1 := hB1.size
            have hz8 : w.heap.size ≤ p1 := Nat.le_trans hsX hg1
            have hz9 : w.heap.size ≤ p2 := Nat.le_trans hsX hg2
            clear hb1 ZBX hsX hg1 hg2 hne Zb1 Zb2 Zb3 Zb4
            have cc4 := Xb4_1.2.1
            have ll4 := Xb4_1.1
            have cc8 := Xb8_1.2.1
            have ll8 := Xb8_1.1
            have cc9 := Xb9_1.2.1
            have ll9 := Xb9_1.1
            go_wp2
            go_returns
            exact ⟨ret_bool (sorted_no (by simpa using hki) (by rw [HOK.out]; exact (by rw [q1, q2]; rfl))).symm, hB1⟩
      · go_wp2
        have Yb1 : Box wr p14 #[.func (.func 64) #[] #[]] := X1
        have Yb2 : Box wr p7 #[.int .i64 s0, .int .i64 s1] := X2
        have Yb3 : Box wr p8 #[.int .i64 n0, .int .i64 n1] := X3
        have Yb4 : Box wr p10 #[.int .i64 v0, .int .i64 v1] := X4
        have hBX : Below w.heap.size w wr := by go_grown
        clear hBr hsr X1 X2 X3 X4
        have Zb1 := Lib.hid Yb1
        have Zb2 := Lib.hid Yb2
        have Zb3 := Lib.hid Yb3
        have Zb4 := Lib.hid Yb4
        have ZBX := Lib.hid hBX
        clear hBX Yb1 Yb2 Yb3 Yb4
        refine wp_region_float2 10 8 9 #[.int .i64 0, .int .i64 0] #[.int .i64 0, .int .i64 0] 24 24 (by kernel_rfl) (by kernel_rfl) ?A1 ?A2 ?E
        case A1 =>
          intro a w K hK
          unfold wpOp
          simp only [List.getElem?_toArray, List.getElem?_cons_succ, List.getElem?_cons_zero]
          go_simp
          exact .inl hK
        case A2 =>
          intro a w K hK
          unfold wpOp
          simp only [List.getElem?_toArray, List.getElem?_cons_succ, List.getElem?_cons_zero]
          go_simp
          exact .inl hK
        case E =>
          apply Exists.intro
          apply And.intro
          intro X' hX
          have rd1 := fun dz os => ((Zb1.out.below hX).regrown dz os).2.1
          have rd2 := fun dz os => ((Zb2.out.below hX).regrown dz os).2.1
          have rd3 := fun dz os => ((Zb3.out.below hX).regrown dz os).2.1
          have kc19 := fun dz os => (HG1.out (Go.Sort.grow (redrawn X' dz) os)).regrown_of
          have kc24 := fun dz os => (HG2.out (Go.Sort.grow (redrawn X' dz) os)).regrown_of
          simp only [List.take_succ_cons, List.take_zero]
          unfold InB
          repeat ((with_reducible refine wpQuiet_step (fun K hK => ?_)); go_simp; first | ((with_reducible refine hK _ ?_); clear hK K) | (apply Exists.intro; refine ⟨fun _ => ?_, hK _ ?_⟩; (first | (go_at_call 64; with_reducible exact kc19 _ _) | (go_at_call 64; with_reducible exact kc24 _ _)); clear hK K))
          exact wpQuiet_nil rfl
          intro p1 p2 u1 hb1 B1 B2 hne hg1 hg2
          have hsX := ZBX.out.size
          have c1' := B1.2.1
          have c2' := B2.2.1
          have f1' := B1.2.2
          have f2' := B2.2.2
          have l1' := B1.1
          have l2' := B2.1
          have Y1 : Box _ p1 #[.int .i64 A, .int .i64 B] := (Box.setOther (Box.setOther (Box.setCell (Box.setCell B1 (i := 0) (by simp) (.int .i64 A)) (i := 1) (by simp) (.int .i64 B)) (g' := p2) (i := 0) (Ne.symm hne) (.int .i64 C)) (g' := p2) (i := 1) (Ne.symm hne) (.int .i64 D))
          have Y2 : Box _ p2 #[.int .i64 C, .int .i64 D] := (Box.setCell (Box.setCell (Box.setOther (Box.setOther B2 (g' := p1) (i := 0) hne (.int .i64 A)) (g' := p1) (i := 1) hne (.int .i64 B)) (i := 0) (by simp) (.int .i64 C)) (i := 1) (by simp) (.int .i64 D))
          have hBW := (Below.setCell (Below.setCell (Below.setCell (Below.setCell hb1 (p := ⟨p1, 0, none⟩) hg1 (.int .i64 A)) (p := ⟨p1, 1, none⟩) hg1 (.int .i64 B)) (p := ⟨p2, 0, none⟩) hg2 (.int .i64 C)) (p := ⟨p2, 1, none⟩) hg2 (.int .i64 D))
          have HBS := Lib.hid (And.intro Y1 (And.intro Y2 hBW))
          clear Y1 Y2 hBW
          simp only [List.drop_succ_cons, List.drop_zero, Act.put, ptrV]
          go_upto_region 5 with fail
          clear B1 B2 c1' c2' f1' f2' l1' l2' hb1
          generalize ((((u1.setCell ⟨p1, 0, none⟩ (.int .i64 A)).setCell ⟨p1, 1, none⟩ (.int .i64 B)).setCell ⟨p2, 0, none⟩ (.int .i64 C)).setCell ⟨p2, 1, none⟩ (.int .i64 D)) = w1 at *
          obtain ⟨Xb8_1, Xb9_1, hb1⟩ := HBS.out
          clear HBS
          have Xb1_1 : Box w1 p14 #[.func (.func 64) #[] #[]] := Zb1.out.below hb1
          have nq1 : p2 ≠ p14 := by have := Zb1.out.1; omega
          have Xb2_1 : Box w1 p7 #[.int .i64 s0, .int .i64 s1] := Zb2.out.below hb1
          have nq2 : p2 ≠ p7 := by have := Zb2.out.1; omega
          have Xb3_1 : Box w1 p8 #[.int .i64 n0, .int .i64 n1] := Zb3.out.below hb1
          have nq3 : p2 ≠ p8 := by have := Zb3.out.1; omega
          have Xb4_1 : Box w1 p10 #[.int .i64 v0, .int .i64 v1] := Zb4.out.below hb1
          have nq4 : p2 ≠ p10 := by have := Zb4.out.1; omega
          have nq8 : p2 ≠ p1 := Ne.symm hne
          have hB1 : Below w.heap.size w w1 := ZBX.out.trans (hb1.mono hsX)
          have hs1 := hB1.size
          have hz8 : w.heap.size ≤ p1 := Nat.le_trans hsX hg1
          have hz9 : w.heap.size ≤ p2 := Nat.le_trans hsX hg2
          clear hb1 ZBX hsX hg1 hg2 hne Zb1 Zb2 Zb3 Zb4
          have cc4 := Xb4_1.2.1
          have ll4 := Xb4_1.1
          have cc8 := Xb8_1.2.1
          have ll8 := Xb8_1.1
          have cc9 := Xb9_1.2.1
          have ll9 := Xb9_1.1
          go_wp2
          go_returns
          exact ⟨ret_bool (sorted_no (by simpa using hki) (by rw [HOK.out]; exact (by rw [q1]; rfl))).symm, hB1⟩
    · have hk' : k = g := by omega
      have HK := Lib.hid hk'
      clear hk'
      go_wp2
      go_returns
      exact ⟨ret_bool (sorted_yes (fun j hj => hin.out j (by have := HK.out; omega))).symm, hBr⟩

end Go.Proofs.Ytpmeahmjmpgbfaa
