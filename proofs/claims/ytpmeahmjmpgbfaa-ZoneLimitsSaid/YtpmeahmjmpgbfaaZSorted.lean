/- Contract of zone.sortedIn. Made by tools/gen_zsorted.py. -/
import Derived.Test.YtpmeahmjmpgbfaaZGroups
import Derived.Test.YtpmeahmjmpgbfaaFloat
namespace Go.Proofs.Ytpmeahmjmpgbfaa
open Go.RowKit
set_option linter.unusedVariables false
set_option linter.unusedSimpArgs false

theorem sorted_no {s0 s1 n0 n1 w0 w1 : Int} {g k : Nat} (hk : k < g) (h : okG s0 s1 n0 n1 w0 w1 g k = false) : sortedB s0 s1 n0 n1 w0 w1 g = false := by
  unfold sortedB
  rw [Bool.eq_false_iff]
  intro hh
  have := List.all_eq_true.1 hh k (List.mem_range.2 hk)
  rw [h] at this
  cases this
theorem sorted_yes {s0 s1 n0 n1 w0 w1 : Int} {g : Nat} (h : ∀ j, j < g → okG s0 s1 n0 n1 w0 w1 g j = true) : sortedB s0 s1 n0 n1 w0 w1 g = true := by
  unfold sortedB
  rw [List.all_eq_true]
  exact fun j hj => h j (List.mem_range.1 hj)
theorem gAt_bd {lo hi i n : Int} (l : -50000000 ≤ lo ∧ lo ≤ 50000000) (h : -50000000 ≤ hi ∧ hi ≤ 50000000) (hi' : 0 ≤ i ∧ i ≤ 1001) (hn : 1 ≤ n) : -1000000000000 ≤ gAt lo hi i n ∧ gAt lo hi i n ≤ 1000000000000 := by
  have a := gmul_bd (i := i) (d := hi - lo + 1) (m := 1001) (k := 200000000) hi' ⟨by omega, by omega⟩
  have c := div_bd (x := i * (hi - lo + 1)) (d := n) (m := 1001 * 200000000) hn a
  unfold gAt
  omega

set_option maxRecDepth 100000 in
set_option maxHeartbeats 4000000 in
theorem sorted_any (s0 s1 n0 n1 w0 w1 : Int) (g : Nat) (w : World) (g0 : 1 ≤ g) (g1 : g ≤ 50) (a0 : -50000000 ≤ s0) (a1 : s0 ≤ 50000000) (b0 : -50000000 ≤ s1) (b1 : s1 ≤ 50000000) (c0 : -50000000 ≤ n0) (c1 : n0 ≤ 50000000) (d0 : -50000000 ≤ n1) (d1 : n1 ≤ 50000000) :
    Calls Try.prog 114 #[.int .i64 g, .agg #[.int .i64 s0, .int .i64 s1], .agg #[.int .i64 n0, .int .i64 n1], .agg #[.int .i64 w0, .int .i64 w1]] w fun e w' => e = .returned (.bool (sortedB s0 s1 n0 n1 w0 w1 g)) ∧ Below w.heap.size w w' := by
  go_enter Try.func114, Try.ntmps114
  go_wp2
  go_loopw [9, 10, 11, 13] (fun _ _ _ i wr => ∃ k : Nat, k ≤ g ∧ i = .int .i64 k ∧ Hid (∀ j, j < k → okG s0 s1 n0 n1 w0 w1 g j = true) ∧ Box wr w.heap.size #[.int .i64 s0, .int .i64 s1] ∧ Box wr (w.heap.size + 1) #[.int .i64 n0, .int .i64 n1] ∧ Box wr (w.heap.size + 1 + 1) #[.int .i64 w0, .int .i64 w1] ∧ Below w.heap.size w wr) (fun _ _ _ i _ => g - (intOf i).toNat)
  case atStart => exact ⟨0, Nat.zero_le _, rfl, fun j hj => absurd hj (by omega), Box.alloc (Box.alloc (Box.new w _ _) _) _, Box.alloc (Box.newAt (w.alloc _) _ _ (by simp)) _, Box.newAt ((w.alloc _).alloc _) _ _ (by simp), by go_grown⟩
  case round =>
    obtain ⟨k, hk, rfl, hin, X5, X6, X7, hB⟩ := hrel
    by_cases hlt : k < g
    · have Z7 := Lib.hid X7
      have Z5 := Lib.hid X5
      have Z6 := Lib.hid X6
      have ZB := Lib.hid hB
      clear X5 X6 X7 hB
      have G1 := fun (W : World) => group_any k s0 s1 g W (by omega) (by omega) (by omega) (by omega) a0 a1 b0 b1
      have G2 := fun (W : World) => group_any k n0 n1 g W (by omega) (by omega) (by omega) (by omega) c0 c1 d0 d1
      have dA := gAt_bd (lo := s0) (hi := s1) (i := k) (n := g) ⟨a0, a1⟩ ⟨b0, b1⟩ ⟨by omega, by omega⟩ (by omega)
      have dB := gAt_bd (lo := s0) (hi := s1) (i := k + 1) (n := g) ⟨a0, a1⟩ ⟨b0, b1⟩ ⟨by omega, by omega⟩ (by omega)
      have dC := gAt_bd (lo := n0) (hi := n1) (i := k) (n := g) ⟨c0, c1⟩ ⟨d0, d1⟩ ⟨by omega, by omega⟩ (by omega)
      have dD := gAt_bd (lo := n0) (hi := n1) (i := k + 1) (n := g) ⟨c0, c1⟩ ⟨d0, d1⟩ ⟨by omega, by omega⟩ (by omega)
      obtain ⟨A, hA⟩ : ∃ A, gAt s0 s1 k g = A := ⟨_, rfl⟩
      obtain ⟨B, hB'⟩ : ∃ B, gAt s0 s1 (k + 1) g - 1 = B := ⟨_, rfl⟩
      obtain ⟨C, hC⟩ : ∃ C, gAt n0 n1 k g = C := ⟨_, rfl⟩
      obtain ⟨D, hD⟩ : ∃ D, gAt n0 n1 (k + 1) g - 1 = D := ⟨_, rfl⟩
      have HOK : Hid (okG s0 s1 n0 n1 w0 w1 g k = (!decide (B < A) && !decide (D < C) && lies (C - B) (D - A) w0 w1)) := by subst hA hB' hC hD; exact rfl
      rw [hA, hB'] at G1
      rw [hC, hD] at G2
      unfold spanV at G1 G2
      have HG1 := Lib.hid G1
      have HG2 := Lib.hid G2
      have bA : -1000000000001 ≤ A ∧ A ≤ 1000000000001 := by omega
      have bB : -1000000000001 ≤ B ∧ B ≤ 1000000000001 := by omega
      have bC : -1000000000001 ≤ C ∧ C ≤ 1000000000001 := by omega
      have bD : -1000000000001 ≤ D ∧ D ≤ 1000000000001 := by omega
      clear G1 G2 hA hB' hC hD dA dB dC dD
      have E1' := fun (W : World) => empty_any A B W
      have E2' := fun (W : World) => empty_any C D W
      have E3' := fun (W : World) => playIn_any A B C D W (by omega) (by omega) (by omega) (by omega)
      have E4' := fun (W : World) => within_any (C - B) (D - A) w0 w1 W
      unfold spanV at E1' E2' E3' E4'
      have W1 : IntKind.i64.wrap (C - B) = C - B := IntWalk.i64_in _ (by omega)
      clear bA bB bC bD W1
      have HE := Lib.hid (And.intro E1' (And.intro E2' (And.intro E3' E4')))
      clear E1' E2' E3' E4'
      go_wp2
      refine wp_region_float2 8 10 11 #[.int .i64 0, .int .i64 0] #[.int .i64 0, .int .i64 0] 166 166 (by kernel_rfl) (by kernel_rfl) ?A1 ?A2 ?E
      case A1 =>
        intro a w K hK
        unfold wpOp
        simp only [List.getElem?_toArray, List.getElem?_cons_succ, List.getElem?_cons_zero]
        go_simp
        exact .inl hK
      case A2 =>
        intro a w K hK
        unfold wpOp
        simp only [List.getElem?_toArray, List.getElem?_cons_succ, List.getElem?_cons_zero]
        go_simp
        exact .inl hK
      case E =>
        apply Exists.intro
        apply And.intro
        intro X' hX
        have rd5 := fun d os => ((Z5.out.below hX).regrown d os).2.1
        have rd6 := fun d os => ((Z6.out.below hX).regrown d os).2.1
        have kc19 := fun d os => (HG1.out (Go.Sort.grow (redrawn X' d) os)).regrown_of
        have kc23 := fun d os => (HG2.out (Go.Sort.grow (redrawn X' d) os)).regrown_of
        simp only [List.take_succ_cons, List.take_zero]
        unfold InB
        repeat ((with_reducible refine wpQuiet_step (fun K hK => ?_)); go_simp; first | ((with_reducible refine hK _ ?_); clear hK K) | (apply Exists.intro; refine ⟨fun _ => ?_, hK _ ?_⟩; (first | (go_at_call 145; with_reducible exact kc19 _ _) | (go_at_call 145; with_reducible exact kc23 _ _)); clear hK K))
        exact wpQuiet_nil rfl
        intro p1 p2 w2 hb2 B1 B2 hne hg1 hg2
        have hB2 : Below w.heap.size w w2 := ZB.out.trans (hb2.mono ZB.out.size)
        have hs := ZB.out.size
        have hz1 : w.heap.size ≤ p1 := by omega
        have hz2 : w.heap.size ≤ p2 := by omega
        have l5 := Z5.out.1
        have l6 := Z6.out.1
        have l7 := Z7.out.1
        have c1' := B1.2.1
        have c2' := B2.2.1
        have f1' := B1.2.2
        have f2' := B2.2.2
        have Y5 := (((((Z5.out.below hb2).setOther (g' := p1) (i := 0) (by omega) (.int .i64 A)).setOther (g' := p1) (i := 1) (by omega) (.int .i64 B)).setOther (g' := p2) (i := 0) (by omega) (.int .i64 C)).setOther (g' := p2) (i := 1) (by omega) (.int .i64 D))
        have Y6 := (((((Z6.out.below hb2).setOther (g' := p1) (i := 0) (by omega) (.int .i64 A)).setOther (g' := p1) (i := 1) (by omega) (.int .i64 B)).setOther (g' := p2) (i := 0) (by omega) (.int .i64 C)).setOther (g' := p2) (i := 1) (by omega) (.int .i64 D))
        have Y7 := (((((Z7.out.below hb2).setOther (g' := p1) (i := 0) (by omega) (.int .i64 A)).setOther (g' := p1) (i := 1) (by omega) (.int .i64 B)).setOther (g' := p2) (i := 0) (by omega) (.int .i64 C)).setOther (g' := p2) (i := 1) (by omega) (.int .i64 D))
        have Y1 : Box _ p1 #[.int .i64 A, .int .i64 B] := ((((B1.setCell (i := 0) (by simp) (.int .i64 A)).setCell (i := 1) (by simp) (.int .i64 B)).setOther (g' := p2) (i := 0) (Ne.symm hne) (.int .i64 C)).setOther (g' := p2) (i := 1) (Ne.symm hne) (.int .i64 D))
        have Y2 : Box _ p2 #[.int .i64 C, .int .i64 D] := ((((B2.setOther (g' := p1) (i := 0) hne (.int .i64 A)).setOther (g' := p1) (i := 1) hne (.int .i64 B)).setCell (i := 0) (by simp) (.int .i64 C)).setCell (i := 1) (by simp) (.int .i64 D))
        have hBW := (((hB2.setCell (p := ⟨p1, 0, none⟩) hz1 (.int .i64 A)).setCell (p := ⟨p1, 1, none⟩) hz1 (.int .i64 B)).setCell (p := ⟨p2, 0, none⟩) hz2 (.int .i64 C)).setCell (p := ⟨p2, 1, none⟩) hz2 (.int .i64 D)
        simp only [List.drop_succ_cons, List.drop_zero, Act.put, ptrV]
        have HBS := Lib.hid (And.intro Y5 (And.intro Y6 (And.intro Y7 (And.intro Y1 (And.intro Y2 hBW)))))
        clear Y5 Y6 Y7 Y1 Y2 hBW
        go_wp2
        clear B1 B2 c1' c2' f1' f2' hb2 hB2
        generalize (((w2.setCell ⟨p1, 0, none⟩ (.int .i64 A)).setCell ⟨p1, 1, none⟩ (.int .i64 B)).setCell ⟨p2, 0, none⟩ (.int .i64 C)).setCell ⟨p2, 1, none⟩ (.int .i64 D) = W2 at *
        obtain ⟨Y5, Y6, Y7, Y1, Y2, hBW⟩ := HBS.out
        obtain ⟨E1', E2', E3', E4'⟩ := HE.out
        clear HBS HE Z5 Z6 Z7 ZB
        cases q1 : decide (B < A)
        · rw [q1] at E1'
          have Q1 := Lib.hid q1
          cases q2 : decide (D < C)
          · rw [q2] at E2'
            have Q2 := Lib.hid q2
            cases q3 : lies (C - B) (D - A) w0 w1
            · rw [q3] at E4'
              have Q3 := Lib.hid q3
              have E1 := Lib.hid E1'
              have E2 := Lib.hid E2'
              have E3 := Lib.hid E3'
              have E4 := Lib.hid E4'
              clear E1' E2' E3' E4' q1 q2 q3
              have kc25 := fun d os => (E1.out (Go.Sort.grow (redrawn W2 d) os)).regrown_of
              have kc28 := fun d os => (E2.out (Go.Sort.grow (redrawn W2 d) os)).regrown_of
              have kc33 := fun d os => (E3.out (Go.Sort.grow (redrawn W2 d) os)).regrown_of
              have kc35 := fun d os => (E4.out (Go.Sort.grow (redrawn W2 d) os)).regrown_of
              have rd10 := fun d os => (Y1.regrown d os).2.1
              have rd11 := fun d os => (Y2.regrown d os).2.1
              have rd7 := fun d os => (Y7.regrown d os).2.1
              have HY5 := Lib.hid Y5
              have HY6 := Lib.hid Y6
              have HY7 := Lib.hid Y7
              have HBW := Lib.hid hBW
              clear Y1 Y2 Y7 Y5 Y6 hBW
              refine wp_region_quiet_below (by kernel_rfl) (by kernel_rfl) ?_
              repeat ((with_reducible refine wpQuiet_step (fun K hK => ?_)); go_simp; first | ((with_reducible refine hK _ ?_); clear hK K) | (apply Exists.intro; refine ⟨fun _ => ?_, hK _ ?_⟩; (first | (go_at_call 104; with_reducible exact kc25 _ _) | (go_at_call 104; with_reducible exact kc28 _ _) | (go_at_call 105; with_reducible exact kc33 _ _) | (go_at_call 111; with_reducible exact kc35 _ _)); clear hK K))
              with_reducible refine wpQuiet_nil ?_
              intro w3 hw'
              obtain ⟨⟨dq, osq⟩, hw''⟩ := hw'
              have hb3 : Below W2.heap.size W2 w3 := by rw [hw'']; exact below_regrown W2 dq osq
              clear hw'' rd10 rd11 rd7 kc25 kc28 kc33 kc35
              have hB3 : Below w.heap.size w w3 := HBW.out.trans (hb3.mono HBW.out.size)
              go_wp2
              go_returns
              exact ⟨ret_bool (sorted_no (by simpa using hlt) (by rw [HOK.out, Q1.out, Q2.out, Q3.out]; simp)).symm, hB3⟩
            · rw [q3] at E4'
              have Q3 := Lib.hid q3
              have E1 := Lib.hid E1'
              have E2 := Lib.hid E2'
              have E3 := Lib.hid E3'
              have E4 := Lib.hid E4'
              clear E1' E2' E3' E4' q1 q2 q3
              have kc25 := fun d os => (E1.out (Go.Sort.grow (redrawn W2 d) os)).regrown_of
              have kc28 := fun d os => (E2.out (Go.Sort.grow (redrawn W2 d) os)).regrown_of
              have kc33 := fun d os => (E3.out (Go.Sort.grow (redrawn W2 d) os)).regrown_of
              have kc35 := fun d os => (E4.out (Go.Sort.grow (redrawn W2 d) os)).regrown_of
              have rd10 := fun d os => (Y1.regrown d os).2.1
              have rd11 := fun d os => (Y2.regrown d os).2.1
              have rd7 := fun d os => (Y7.regrown d os).2.1
              have HY5 := Lib.hid Y5
              have HY6 := Lib.hid Y6
              have HY7 := Lib.hid Y7
              have HBW := Lib.hid hBW
              clear Y1 Y2 Y7 Y5 Y6 hBW
              refine wp_region_quiet_below (by kernel_rfl) (by kernel_rfl) ?_
              repeat ((with_reducible refine wpQuiet_step (fun K hK => ?_)); go_simp; first | ((with_reducible refine hK _ ?_); clear hK K) | (apply Exists.intro; refine ⟨fun _ => ?_, hK _ ?_⟩; (first | (go_at_call 104; with_reducible exact kc25 _ _) | (go_at_call 104; with_reducible exact kc28 _ _) | (go_at_call 105; with_reducible exact kc33 _ _) | (go_at_call 111; with_reducible exact kc35 _ _)); clear hK K))
              with_reducible refine wpQuiet_nil ?_
              intro w3 hw'
              obtain ⟨⟨dq, osq⟩, hw''⟩ := hw'
              have hb3 : Below W2.heap.size W2 w3 := by rw [hw'']; exact below_regrown W2 dq osq
              clear hw'' rd10 rd11 rd7 kc25 kc28 kc33 kc35
              have hB3 : Below w.heap.size w w3 := HBW.out.trans (hb3.mono HBW.out.size)
              have Z5' := HY5.out.below hb3
              have Z6' := HY6.out.below hb3
              have Z7' := HY7.out.below hb3
              clear hb3 HY5 HY6 HY7 HBW
              go_wp2
              go_roundw
              case rel => exact ⟨k + 1, by omega, by go_num, fun j hj => by
                by_cases e : j = k
                · subst e; rw [HOK.out, Q1.out, Q2.out, Q3.out]; rfl
                · exact hin.out j (by omega), Z5', Z6', Z7', hB3⟩
              case measure => simp [intOf]; omega
          · rw [q2] at E2'
            have Q2 := Lib.hid q2
            have E1 := Lib.hid E1'
            have E2 := Lib.hid E2'
            clear E1' E2' E3' E4' q1 q2
            have kc25 := fun d os => (E1.out (Go.Sort.grow (redrawn W2 d) os)).regrown_of
            have kc28 := fun d os => (E2.out (Go.Sort.grow (redrawn W2 d) os)).regrown_of
            have rd10 := fun d os => (Y1.regrown d os).2.1
            have rd11 := fun d os => (Y2.regrown d os).2.1
            have rd7 := fun d os => (Y7.regrown d os).2.1
            have HY5 := Lib.hid Y5
            have HY6 := Lib.hid Y6
            have HY7 := Lib.hid Y7
            have HBW := Lib.hid hBW
            clear Y1 Y2 Y7 Y5 Y6 hBW
            refine wp_region_quiet_below (by kernel_rfl) (by kernel_rfl) ?_
            repeat ((with_reducible refine wpQuiet_step (fun K hK => ?_)); go_simp; first | ((with_reducible refine hK _ ?_); clear hK K) | (apply Exists.intro; refine ⟨fun _ => ?_, hK _ ?_⟩; (first | (go_at_call 104; with_reducible exact kc25 _ _) | (go_at_call 104; with_reducible exact kc28 _ _)); clear hK K))
            with_reducible refine wpQuiet_nil ?_
            intro w3 hw'
            obtain ⟨⟨dq, osq⟩, hw''⟩ := hw'
            have hb3 : Below W2.heap.size W2 w3 := by rw [hw'']; exact below_regrown W2 dq osq
            clear hw'' rd10 rd11 rd7 kc25 kc28
            have hB3 : Below w.heap.size w w3 := HBW.out.trans (hb3.mono HBW.out.size)
            go_wp2
            go_returns
            exact ⟨ret_bool (sorted_no (by simpa using hlt) (by rw [HOK.out, Q1.out, Q2.out]; simp)).symm, hB3⟩
        · rw [q1] at E1'
          have Q1 := Lib.hid q1
          have E1 := Lib.hid E1'
          clear E1' E2' E3' E4' q1
          have kc25 := fun d os => (E1.out (Go.Sort.grow (redrawn W2 d) os)).regrown_of
          have rd10 := fun d os => (Y1.regrown d os).2.1
          have rd11 := fun d os => (Y2.regrown d os).2.1
          have rd7 := fun d os => (Y7.regrown d os).2.1
          have HY5 := Lib.hid Y5
          have HY6 := Lib.hid Y6
          have HY7 := Lib.hid Y7
          have HBW := Lib.hid hBW
          clear Y1 Y2 Y7 Y5 Y6 hBW
          refine wp_region_quiet_below (by kernel_rfl) (by kernel_rfl) ?_
          repeat ((with_reducible refine wpQuiet_step (fun K hK => ?_)); go_simp; first | ((with_reducible refine hK _ ?_); clear hK K) | (apply Exists.intro; refine ⟨fun _ => ?_, hK _ ?_⟩; (first | (go_at_call 104; with_reducible exact kc25 _ _)); clear hK K))
          with_reducible refine wpQuiet_nil ?_
          intro w3 hw'
          obtain ⟨⟨dq, osq⟩, hw''⟩ := hw'
          have hb3 : Below W2.heap.size W2 w3 := by rw [hw'']; exact below_regrown W2 dq osq
          clear hw'' rd10 rd11 rd7 kc25
          have hB3 : Below w.heap.size w w3 := HBW.out.trans (hb3.mono HBW.out.size)
          go_wp2
          go_returns
          exact ⟨ret_bool (sorted_no (by simpa using hlt) (by rw [HOK.out, Q1.out]; simp)).symm, hB3⟩
    · have hk' : k = g := by omega
      have HK := Lib.hid hk'
      clear hk'
      go_wp2
      go_returns
      exact ⟨ret_bool (sorted_yes (fun j hj => hin.out j (by have := HK.out; omega))).symm, by assumption⟩
end Go.Proofs.Ytpmeahmjmpgbfaa
