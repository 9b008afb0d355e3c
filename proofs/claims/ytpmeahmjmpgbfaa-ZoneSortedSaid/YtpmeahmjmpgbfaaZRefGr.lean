/- Contracts of acmeref02.Lies, Play, Group and Groups. Made by tools/gen_zrefgr.py. -/
import Derived.Test.YtpmeahmjmpgbfaaZRef
import Derived.Test.YtpmeahmjmpgbfaaZSorted
import Derived.Test.YtpmeahmjmpgbfaaZKn0
import Derived.Test.YtpmeahmjmpgbfaaZGr2
import Derived.BigRegion
namespace Go.Proofs.Ytpmeahmjmpgbfaa
open Go.ChangeShapes Go.WideShapes Go.ChangeAt Go.RowKit
set_option linter.unusedVariables false
set_option linter.unusedSimpArgs false

set_option maxHeartbeats 1000000 in
theorem rlies_any (a b c d : Int) (w : World) :
    Calls Try.prog 110 #[.agg #[.int .i64 a, .int .i64 b], .agg #[.int .i64 c, .int .i64 d]] w fun e w' => e = .returned (.bool (lies a b c d)) ∧ Below w.heap.size w w' := by
  by_cases h1 : c ≤ a
  · by_cases h2 : b ≤ d
    · go_enter Try.func110, Try.ntmps110
      go_wp2
      go_returns
      exact ⟨ret_bool (by unfold lies; rw [decide_eq_true (by omega)]), by go_grown⟩
    · go_enter Try.func110, Try.ntmps110
      go_wp2
      go_returns
      exact ⟨ret_bool (by unfold lies; rw [decide_eq_false (by omega)]), by go_grown⟩
  · go_enter Try.func110, Try.ntmps110
    go_wp2
    go_returns
    exact ⟨ret_bool (by unfold lies; rw [decide_eq_false (by omega)]), by go_grown⟩

set_option maxHeartbeats 1000000 in
theorem rplay_any (a b c d : Int) (w : World) (ha : -1152921504606846976 ≤ a ∧ a ≤ 1152921504606846976) (hb : -1152921504606846976 ≤ b ∧ b ≤ 1152921504606846976) (hc : -1152921504606846976 ≤ c ∧ c ≤ 1152921504606846976) (hd : -1152921504606846976 ≤ d ∧ d ≤ 1152921504606846976) :
    Calls Try.prog 48 #[.agg #[.int .i64 a, .int .i64 b], .agg #[.int .i64 c, .int .i64 d]] w fun e w' => e = .returned (spanV (c - b) (d - a)) ∧ Below w.heap.size w w' := by
  obtain ⟨a0, a1⟩ := ha
  obtain ⟨b0, b1⟩ := hb
  obtain ⟨c0, c1⟩ := hc
  obtain ⟨d0, d1⟩ := hd
  go_enter Try.func48, Try.ntmps48
  go_wp2
  refine bodyPost_ret (v := spanV (c - b) (d - a)) (by simp [results, Try.results48, go_sem, spanV]) rfl ⟨rfl, by go_grown⟩

set_option maxRecDepth 100000 in
set_option maxHeartbeats 4000000 in
theorem rgroup_way (lo hi i n v u : Int) (w : World) (n0 : ¬ n = 0) (HV : (i * (hi - lo + 1)).tdiv n = v) (HU : ((i + 1) * (hi - lo + 1)).tdiv n = u)
    (w1 : IntKind.i64.wrap (hi - lo) = hi - lo) (w2 : IntKind.i64.wrap (hi - lo + 1) = hi - lo + 1) (w3 : IntKind.i64.wrap (i * (hi - lo + 1)) = i * (hi - lo + 1)) (w4 : IntKind.i64.wrap (i + 1) = i + 1) (w5 : IntKind.i64.wrap ((i + 1) * (hi - lo + 1)) = (i + 1) * (hi - lo + 1)) (w6 : IntKind.i64.wrap (lo + v) = lo + v) (w7 : IntKind.i64.wrap (lo + u) = lo + u) (w8 : IntKind.i64.wrap (lo + u - 1) = lo + u - 1) (w9 : IntKind.i64.wrap v = v) (w10 : IntKind.i64.wrap u = u) :
    Calls Try.prog 115 #[.agg #[.int .i64 lo, .int .i64 hi], .int .i64 i, .int .i64 n] w fun e w' => e = .returned (spanV (lo + v) (lo + u - 1)) ∧ Below w.heap.size w w' := by
  go_enter Try.func115, Try.ntmps115
  go_wp2_with fail
  go_region
  go_wp2
  refine bodyPost_ret (v := spanV (lo + v) (lo + u - 1)) (by simp [results, Try.results115, go_sem, spanV]) rfl ⟨rfl, by go_grown⟩

theorem rgroup_any (lo hi i n : Int) (w : World) (i0 : 0 ≤ i) (i1 : i ≤ 1000) (n0 : 1 ≤ n) (n1 : n ≤ 1000) (l0 : -50000000 ≤ lo) (l1 : lo ≤ 50000000) (h0 : -50000000 ≤ hi) (h1 : hi ≤ 50000000) (hlh : lo ≤ hi) :
    Calls Try.prog 115 #[.agg #[.int .i64 lo, .int .i64 hi], .int .i64 i, .int .i64 n] w fun e w' => e = .returned (spanV (gAt lo hi i n) (gAt lo hi (i + 1) n - 1)) ∧ Below w.heap.size w w' := by
  have a := gmul_bd (i := i) (d := hi - lo + 1) (m := 1001) (k := 200000000) ⟨i0, by omega⟩ ⟨by omega, by omega⟩
  have b := gmul_bd (i := i + 1) (d := hi - lo + 1) (m := 1001) (k := 200000000) ⟨by omega, by omega⟩ ⟨by omega, by omega⟩
  have c := div_bd (x := i * (hi - lo + 1)) (d := n) (m := 1001 * 200000000) n0 a
  have d := div_bd (x := (i + 1) * (hi - lo + 1)) (d := n) (m := 1001 * 200000000) n0 b
  have p0 : 0 ≤ i * (hi - lo + 1) := Int.mul_nonneg i0 (by omega)
  have p1 : 0 ≤ (i + 1) * (hi - lo + 1) := Int.mul_nonneg (by omega) (by omega)
  exact rgroup_way lo hi i n _ _ w (by omega) (Int.tdiv_eq_ediv_of_nonneg p0) (Int.tdiv_eq_ediv_of_nonneg p1) (IntWalk.i64_in _ (by omega)) (IntWalk.i64_in _ (by omega)) (IntWalk.i64_in _ (by omega)) (IntWalk.i64_in _ (by omega)) (IntWalk.i64_in _ (by omega)) (IntWalk.i64_in _ (by omega)) (IntWalk.i64_in _ (by omega)) (IntWalk.i64_in _ (by omega)) (IntWalk.i64_in _ (by omega)) (IntWalk.i64_in _ (by omega))

/-- The first k groups are as they should be. -/
def firstG (s0 s1 n0 n1 v0 v1 : Int) (g k : Nat) : Bool := (List.range k).all fun i => okG s0 s1 n0 n1 v0 v1 g i
theorem firstG_zero (s0 s1 n0 n1 v0 v1 : Int) (g : Nat) : firstG s0 s1 n0 n1 v0 v1 g 0 = true := rfl
theorem firstG_succ (s0 s1 n0 n1 v0 v1 : Int) (g k : Nat) : firstG s0 s1 n0 n1 v0 v1 g (k + 1) = (firstG s0 s1 n0 n1 v0 v1 g k && okG s0 s1 n0 n1 v0 v1 g k) := by
  unfold firstG
  rw [List.range_succ, List.all_append]
  simp
theorem okG_eq (s0 s1 n0 n1 v0 v1 g i : Int) : okG s0 s1 n0 n1 v0 v1 g i = (decide (gAt s0 s1 i g ≤ gAt s0 s1 (i + 1) g - 1) && decide (gAt n0 n1 i g ≤ gAt n0 n1 (i + 1) g - 1) &&
    lies (gAt n0 n1 i g - (gAt s0 s1 (i + 1) g - 1)) (gAt n0 n1 (i + 1) g - 1 - gAt s0 s1 i g) v0 v1) := by
  have e : ∀ x y : Int, (!decide (y < x)) = decide (x ≤ y) := fun x y => by rw [Bool.eq_iff_iff]; simp [Int.not_lt]
  unfold okG
  rw [e, e]

def groupsRV (s0 s1 n0 n1 v0 v1 : Int) : Value := match groupsN s0 s1 n0 n1 v0 v1 with | some n => .tuple #[.int .i64 (n : Int), .bool true] | none => .tuple #[.int .i64 0, .bool false]
set_option maxRecDepth 100000 in
set_option maxHeartbeats 8000000 in
theorem rgroups_any (s0 s1 n0 n1 v0 v1 : Int) (w : World) (a0 : 0 ≤ s0) (a1 : s0 ≤ s1) (a2 : s1 ≤ 20000000) (b0 : 0 ≤ n0) (b1 : n0 ≤ n1) (b2 : n1 ≤ 20000000) :
    Calls Try.prog 56 #[.agg #[.int .i64 s0, .int .i64 s1], .agg #[.int .i64 n0, .int .i64 n1], .agg #[.int .i64 v0, .int .i64 v1]] w fun e w' => e = .returned (groupsRV s0 s1 n0 n1 v0 v1) ∧ Below w.heap.size w w' := by
  go_enter Try.func56, Try.ntmps56
  go_wp2
  go_loopw [8, 9, 10, 11, 12] (fun n _ _ _ _ wo => ∃ g : Nat, 1 ≤ g ∧ g ≤ 51 ∧ n = .int .i64 g ∧ Hid (∀ j, j < g - 1 → sortedB s0 s1 n0 n1 v0 v1 (j + 1) = false) ∧ Box wo w.heap.size #[.int .i64 s0, .int .i64 s1] ∧ Box wo (w.heap.size + 1) #[.int .i64 n0, .int .i64 n1] ∧ Box wo (w.heap.size + 1 + 1) #[.int .i64 v0, .int .i64 v1] ∧ Below w.heap.size w wo) (fun n _ _ _ _ _ => 52 - (intOf n).toNat)
  case atStart => exact ⟨1, by omega, by omega, rfl, Lib.hid fun j hj => absurd hj (by omega), Box.alloc (Box.alloc (Box.new w _ _) _) _, Box.alloc (Box.newAt (w.alloc _) _ _ (by simp)) _, Box.newAt ((w.alloc _).alloc _) _ _ (by simp), by go_grown⟩
  case round =>
    obtain ⟨g, g0, g1, rfl, hin, X3, X4, X5, hBo⟩ := hrel
    by_cases hlt : g ≤ 50
    · have hlt' : (g : Int) ≤ 50 := by omega
      go_wp2
      go_loopw [9, 10, 11, 12] (fun o i _ _ wr => ∃ k : Nat, k ≤ g ∧ i = .int .i64 k ∧ o = .bool (firstG s0 s1 n0 n1 v0 v1 g k) ∧ Box wr w.heap.size #[.int .i64 s0, .int .i64 s1] ∧ Box wr (w.heap.size + 1) #[.int .i64 n0, .int .i64 n1] ∧ Box wr (w.heap.size + 1 + 1) #[.int .i64 v0, .int .i64 v1] ∧ Below w.heap.size w wr) (fun _ i _ _ _ => g - (intOf i).toNat)
      case atStart => exact ⟨0, by omega, rfl, rfl, X3, X4, X5, hBo⟩
      case round =>
        clear X3 X4 X5 hBo
        obtain ⟨k, hk, rfl, rfl, X3, X4, X5, hBr⟩ := hrel
        have hsr := hBr.size
        by_cases hki : k < g
        · have hki' : (k : Int) < g := by omega
          have G1 := fun (W : World) => rgroup_any s0 s1 k g W (by omega) (by omega) (by omega) (by omega) (by omega) (by omega) (by omega) (by omega) a1
          have G2 := fun (W : World) => rgroup_any n0 n1 k g W (by omega) (by omega) (by omega) (by omega) (by omega) (by omega) (by omega) (by omega) b1
          have dA := gAt_bd (lo := s0) (hi := s1) (i := k) (n := g) ⟨by omega, by omega⟩ ⟨by omega, by omega⟩ ⟨by omega, by omega⟩ (by omega)
          have dB := gAt_bd (lo := s0) (hi := s1) (i := k + 1) (n := g) ⟨by omega, by omega⟩ ⟨by omega, by omega⟩ ⟨by omega, by omega⟩ (by omega)
          have dC := gAt_bd (lo := n0) (hi := n1) (i := k) (n := g) ⟨by omega, by omega⟩ ⟨by omega, by omega⟩ ⟨by omega, by omega⟩ (by omega)
          have dD := gAt_bd (lo := n0) (hi := n1) (i := k + 1) (n := g) ⟨by omega, by omega⟩ ⟨by omega, by omega⟩ ⟨by omega, by omega⟩ (by omega)
          obtain ⟨A, hA⟩ : ∃ A, gAt s0 s1 k g = A := ⟨_, rfl⟩
          obtain ⟨B, hB'⟩ : ∃ B, gAt s0 s1 (k + 1) g - 1 = B := ⟨_, rfl⟩
          obtain ⟨C, hC⟩ : ∃ C, gAt n0 n1 k g = C := ⟨_, rfl⟩
          obtain ⟨D, hD⟩ : ∃ D, gAt n0 n1 (k + 1) g - 1 = D := ⟨_, rfl⟩
          have HOK : Hid (okG s0 s1 n0 n1 v0 v1 g k = (decide (A ≤ B) && decide (C ≤ D) && lies (C - B) (D - A) v0 v1)) := by subst hA hB' hC hD; exact Lib.hid (okG_eq _ _ _ _ _ _ _ _)
          rw [hA, hB'] at G1
          rw [hC, hD] at G2
          unfold spanV at G1 G2
          have HG1 := Lib.hid G1
          have HG2 := Lib.hid G2
          have bA : -1000000000001 ≤ A ∧ A ≤ 1000000000001 := by omega
          have bB : -1000000000001 ≤ B ∧ B ≤ 1000000000001 := by omega
          have bC : -1000000000001 ≤ C ∧ C ≤ 1000000000001 := by omega
          have bD : -1000000000001 ≤ D ∧ D ≤ 1000000000001 := by omega
          have HP' := fun (W : World) => rplay_any A B C D W (by omega) (by omega) (by omega) (by omega)
          have HL' := fun (W : World) => rlies_any (C - B) (D - A) v0 v1 W
          unfold spanV at HP'
          have HP := Lib.hid HP'
          clear G1 G2 hA hB' hC hD dA dB dC dD HP' bA bB bC bD
          have HIN := Lib.hid hin
          clear hin
          cases qF : firstG s0 s1 n0 n1 v0 v1 g k
          · have QF := Lib.hid qF
            clear qF HL'
            go_wp2
            have Yb3 : Box wr w.heap.size #[.int .i64 s0, .int .i64 s1] := X3
            have Yb4 : Box wr (w.heap.size + 1) #[.int .i64 n0, .int .i64 n1] := X4
            have Yb5 : Box wr (w.heap.size + 1 + 1) #[.int .i64 v0, .int .i64 v1] := X5
            have hBX : Below w.heap.size w wr := by go_grown
            clear hBr hsr X3 X4 X5
            have Zb3 := Lib.hid Yb3
            have Zb4 := Lib.hid Yb4
            have Zb5 := Lib.hid Yb5
            have ZBX := Lib.hid hBX
            clear hBX Yb3 Yb4 Yb5
            refine wp_region_float2 8 11 12 #[.int .i64 0, .int .i64 0] #[.int .i64 0, .int .i64 0] 24 24 (by kernel_rfl) (by kernel_rfl) ?A1 ?A2 ?E
            case A1 =>
              intro a w K hK
              unfold wpOp
              simp only [List.getElem?_toArray, List.getElem?_cons_succ, List.getElem?_cons_zero]
              go_simp
              exact .inl hK
            case A2 =>
              intro a w K hK
              unfold wpOp
              simp only [List.getElem?_toArray, List.getElem?_cons_succ, List.getElem?_cons_zero]
              go_simp
              exact .inl hK
            case E =>
              apply Exists.intro
              apply And.intro
              intro X' hX
              have rd3 := fun d os => ((Zb3.out.below hX).regrown d os).2.1
              have rd4 := fun d os => ((Zb4.out.below hX).regrown d os).2.1
              have kc25 := fun d os => (HG1.out (Go.Sort.grow (redrawn X' d) os)).regrown_of
              have kc29 := fun d os => (HG2.out (Go.Sort.grow (redrawn X' d) os)).regrown_of
              simp only [List.take_succ_cons, List.take_zero]
              unfold InB
              repeat ((with_reducible refine wpQuiet_step (fun K hK => ?_)); go_simp; first | ((with_reducible refine hK _ ?_); clear hK K) | (apply Exists.intro; refine ⟨fun _ => ?_, hK _ ?_⟩; (first | (go_at_call 115; with_reducible exact kc25 _ _) | (go_at_call 115; with_reducible exact kc29 _ _)); clear hK K))
              exact wpQuiet_nil rfl
              intro p1 p2 u1 hb1 B1 B2 hne hg1 hg2
              have hsX := ZBX.out.size
              have c1' := B1.2.1
              have c2' := B2.2.1
              have f1' := B1.2.2
              have f2' := B2.2.2
              have l1' := B1.1
              have l2' := B2.1
              have Y1 : Box _ p1 #[.int .i64 A, .int .i64 B] := (Box.setOther (Box.setOther (Box.setCell (Box.setCell B1 (i := 0) (by simp) (.int .i64 A)) (i := 1) (by simp) (.int .i64 B)) (g' := p2) (i := 0) (Ne.symm hne) (.int .i64 C)) (g' := p2) (i := 1) (Ne.symm hne) (.int .i64 D))
              have Y2 : Box _ p2 #[.int .i64 C, .int .i64 D] := (Box.setCell (Box.setCell (Box.setOther (Box.setOther B2 (g' := p1) (i := 0) hne (.int .i64 A)) (g' := p1) (i := 1) hne (.int .i64 B)) (i := 0) (by simp) (.int .i64 C)) (i := 1) (by simp) (.int .i64 D))
              have hBW := (Below.setCell (Below.setCell (Below.setCell (Below.setCell hb1 (p := ⟨p1, 0, none⟩) hg1 (.int .i64 A)) (p := ⟨p1, 1, none⟩) hg1 (.int .i64 B)) (p := ⟨p2, 0, none⟩) hg2 (.int .i64 C)) (p := ⟨p2, 1, none⟩) hg2 (.int .i64 D))
              have HBS := Lib.hid (And.intro Y1 (And.intro Y2 hBW))
              clear Y1 Y2 hBW
              simp only [List.drop_succ_cons, List.drop_zero, Act.put, ptrV]
              go_wp2
              clear B1 B2 c1' c2' f1' f2' l1' l2' hb1
              generalize ((((u1.setCell ⟨p1, 0, none⟩ (.int .i64 A)).setCell ⟨p1, 1, none⟩ (.int .i64 B)).setCell ⟨p2, 0, none⟩ (.int .i64 C)).setCell ⟨p2, 1, none⟩ (.int .i64 D)) = w1 at *
              obtain ⟨Xb11_1, Xb12_1, hb1⟩ := HBS.out
              clear HBS
              have Xb3_1 : Box w1 w.heap.size #[.int .i64 s0, .int .i64 s1] := Zb3.out.below hb1
              have nq3 : p2 ≠ w.heap.size := by have := Zb3.out.1; omega
              have Xb4_1 : Box w1 (w.heap.size + 1) #[.int .i64 n0, .int .i64 n1] := Zb4.out.below hb1
              have nq4 : p2 ≠ (w.heap.size + 1) := by have := Zb4.out.1; omega
              have Xb5_1 : Box w1 (w.heap.size + 1 + 1) #[.int .i64 v0, .int .i64 v1] := Zb5.out.below hb1
              have nq5 : p2 ≠ (w.heap.size + 1 + 1) := by have := Zb5.out.1; omega
              have nq11 : p2 ≠ p1 := Ne.symm hne
              have hB1 : Below w.heap.size w w1 := ZBX.out.trans (hb1.mono hsX)
              have hs1 := hB1.size
              have hz11 : w.heap.size ≤ p1 := Nat.le_trans hsX hg1
              have hz12 : w.heap.size ≤ p2 := Nat.le_trans hsX hg2
              clear hb1 ZBX hsX hg1 hg2 hne Zb3 Zb4 Zb5
              go_wp2
              have Yb3 : Box w1 w.heap.size #[.int .i64 s0, .int .i64 s1] := Xb3_1
              have Yb4 : Box w1 (w.heap.size + 1) #[.int .i64 n0, .int .i64 n1] := Xb4_1
              have Yb5 : Box w1 (w.heap.size + 1 + 1) #[.int .i64 v0, .int .i64 v1] := Xb5_1
              have Yb11 : Box w1 p1 #[.int .i64 A, .int .i64 B] := Xb11_1
              have Yb12 : Box w1 p2 #[.int .i64 C, .int .i64 D] := Xb12_1
              have hBX : Below w.heap.size w w1 := by go_grown
              clear hB1 hs1 Xb3_1 Xb4_1 Xb5_1 Xb11_1 Xb12_1
              have hsX := hBX.size
              have rd5 := fun d os => (Yb5.regrown d os).2.1
              have rd11 := fun d os => (Yb11.regrown d os).2.1
              have rd12 := fun d os => (Yb12.regrown d os).2.1
              have Zb3 := Lib.hid Yb3
              have Zb4 := Lib.hid Yb4
              have Zb5 := Lib.hid Yb5
              have Zb11 := Lib.hid Yb11
              have Zb12 := Lib.hid Yb12
              clear Yb3 Yb4 Yb5 Yb11 Yb12
              refine wp_region_quiet_below (by kernel_rfl) (by kernel_rfl) ?_
              repeat ((with_reducible refine wpQuiet_step (fun K hK => ?_)); go_simp; first | ((with_reducible refine hK _ ?_); clear hK K) | (apply Exists.intro; refine ⟨fun _ => ?_, hK _ ?_⟩; fail; clear hK K))
              with_reducible refine wpQuiet_nil ?_
              intro w2 hw'
              obtain ⟨⟨dq, osq⟩, hw''⟩ := hw'
              have hb2 : Below w1.heap.size w1 w2 := by rw [hw'']; exact below_regrown w1 dq osq
              have Xb3_2 : Box w2 w.heap.size #[.int .i64 s0, .int .i64 s1] := Zb3.out.below hb2
              have Xb4_2 : Box w2 (w.heap.size + 1) #[.int .i64 n0, .int .i64 n1] := Zb4.out.below hb2
              have Xb5_2 : Box w2 (w.heap.size + 1 + 1) #[.int .i64 v0, .int .i64 v1] := Zb5.out.below hb2
              have Xb11_2 : Box w2 p1 #[.int .i64 A, .int .i64 B] := Zb11.out.below hb2
              have Xb12_2 : Box w2 p2 #[.int .i64 C, .int .i64 D] := Zb12.out.below hb2
              have hB2 : Below w.heap.size w w2 := stepB hBX hb2
              have hs2 := hB2.size
              clear hw'' hb2 hBX hsX rd5 rd11 rd12 Zb3 Zb4 Zb5 Zb11 Zb12
              go_wp2
              go_roundw
              case rel => exact ⟨k + 1, by omega, by go_num, congrArg Value.bool (by rw [firstG_succ, QF.out]; rfl), Xb3_2, Xb4_2, Xb5_2, hB2⟩
              case measure => simp [intOf]; omega
          · have QF := Lib.hid qF
            clear qF
            cases q1 : decide (A ≤ B)
            · have Q1 := Lib.hid q1
              clear HL'
              go_wp2
              have Yb3 : Box wr w.heap.size #[.int .i64 s0, .int .i64 s1] := X3
              have Yb4 : Box wr (w.heap.size + 1) #[.int .i64 n0, .int .i64 n1] := X4
              have Yb5 : Box wr (w.heap.size + 1 + 1) #[.int .i64 v0, .int .i64 v1] := X5
              have hBX : Below w.heap.size w wr := by go_grown
              clear hBr hsr X3 X4 X5
              have Zb3 := Lib.hid Yb3
              have Zb4 := Lib.hid Yb4
              have Zb5 := Lib.hid Yb5
              have ZBX := Lib.hid hBX
              clear hBX Yb3 Yb4 Yb5
              refine wp_region_float2 8 11 12 #[.int .i64 0, .int .i64 0] #[.int .i64 0, .int .i64 0] 24 24 (by kernel_rfl) (by kernel_rfl) ?A1 ?A2 ?E
              case A1 =>
                intro a w K hK
                unfold wpOp
                simp only [List.getElem?_toArray, List.getElem?_cons_succ, List.getElem?_cons_zero]
                go_simp
                exact .inl hK
              case A2 =>
                intro a w K hK
                unfold wpOp
                simp only [List.getElem?_toArray, List.getElem?_cons_succ, List.getElem?_cons_zero]
                go_simp
                exact .inl hK
              case E =>
                apply Exists.intro
                apply And.intro
                intro X' hX
                have rd3 := fun d os => ((Zb3.out.below hX).regrown d os).2.1
                have rd4 := fun d os => ((Zb4.out.below hX).regrown d os).2.1
                have kc25 := fun d os => (HG1.out (Go.Sort.grow (redrawn X' d) os)).regrown_of
                have kc29 := fun d os => (HG2.out (Go.Sort.grow (redrawn X' d) os)).regrown_of
                simp only [List.take_succ_cons, List.take_zero]
                unfold InB
                repeat ((with_reducible refine wpQuiet_step (fun K hK => ?_)); go_simp; first | ((with_reducible refine hK _ ?_); clear hK K) | (apply Exists.intro; refine ⟨fun _ => ?_, hK _ ?_⟩; (first | (go_at_call 115; with_reducible exact kc25 _ _) | (go_at_call 115; with_reducible exact kc29 _ _)); clear hK K))
                exact wpQuiet_nil rfl
                intro p1 p2 u1 hb1 B1 B2 hne hg1 hg2
                have hsX := ZBX.out.size
                have c1' := B1.2.1
                have c2' := B2.2.1
                have f1' := B1.2.2
                have f2' := B2.2.2
                have l1' := B1.1
                have l2' := B2.1
                have Y1 : Box _ p1 #[.int .i64 A, .int .i64 B] := (Box.setOther (Box.setOther (Box.setCell (Box.setCell B1 (i := 0) (by simp) (.int .i64 A)) (i := 1) (by simp) (.int .i64 B)) (g' := p2) (i := 0) (Ne.symm hne) (.int .i64 C)) (g' := p2) (i := 1) (Ne.symm hne) (.int .i64 D))
                have Y2 : Box _ p2 #[.int .i64 C, .int .i64 D] := (Box.setCell (Box.setCell (Box.setOther (Box.setOther B2 (g' := p1) (i := 0) hne (.int .i64 A)) (g' := p1) (i := 1) hne (.int .i64 B)) (i := 0) (by simp) (.int .i64 C)) (i := 1) (by simp) (.int .i64 D))
                have hBW := (Below.setCell (Below.setCell (Below.setCell (Below.setCell hb1 (p := ⟨p1, 0, none⟩) hg1 (.int .i64 A)) (p := ⟨p1, 1, none⟩) hg1 (.int .i64 B)) (p := ⟨p2, 0, none⟩) hg2 (.int .i64 C)) (p := ⟨p2, 1, none⟩) hg2 (.int .i64 D))
                have HBS := Lib.hid (And.intro Y1 (And.intro Y2 hBW))
                clear Y1 Y2 hBW
                simp only [List.drop_succ_cons, List.drop_zero, Act.put, ptrV]
                go_wp2
                clear B1 B2 c1' c2' f1' f2' l1' l2' hb1
                generalize ((((u1.setCell ⟨p1, 0, none⟩ (.int .i64 A)).setCell ⟨p1, 1, none⟩ (.int .i64 B)).setCell ⟨p2, 0, none⟩ (.int .i64 C)).setCell ⟨p2, 1, none⟩ (.int .i64 D)) = w1 at *
                obtain ⟨Xb11_1, Xb12_1, hb1⟩ := HBS.out
                clear HBS
                have Xb3_1 : Box w1 w.heap.size #[.int .i64 s0, .int .i64 s1] := Zb3.out.below hb1
                have nq3 : p2 ≠ w.heap.size := by have := Zb3.out.1; omega
                have Xb4_1 : Box w1 (w.heap.size + 1) #[.int .i64 n0, .int .i64 n1] := Zb4.out.below hb1
                have nq4 : p2 ≠ (w.heap.size + 1) := by have := Zb4.out.1; omega
                have Xb5_1 : Box w1 (w.heap.size + 1 + 1) #[.int .i64 v0, .int .i64 v1] := Zb5.out.below hb1
                have nq5 : p2 ≠ (w.heap.size + 1 + 1) := by have := Zb5.out.1; omega
                have nq11 : p2 ≠ p1 := Ne.symm hne
                have hB1 : Below w.heap.size w w1 := ZBX.out.trans (hb1.mono hsX)
                have hs1 := hB1.size
                have hz11 : w.heap.size ≤ p1 := Nat.le_trans hsX hg1
                have hz12 : w.heap.size ≤ p2 := Nat.le_trans hsX hg2
                clear hb1 ZBX hsX hg1 hg2 hne Zb3 Zb4 Zb5
                go_wp2
                have Yb3 : Box w1 w.heap.size #[.int .i64 s0, .int .i64 s1] := Xb3_1
                have Yb4 : Box w1 (w.heap.size + 1) #[.int .i64 n0, .int .i64 n1] := Xb4_1
                have Yb5 : Box w1 (w.heap.size + 1 + 1) #[.int .i64 v0, .int .i64 v1] := Xb5_1
                have Yb11 : Box w1 p1 #[.int .i64 A, .int .i64 B] := Xb11_1
                have Yb12 : Box w1 p2 #[.int .i64 C, .int .i64 D] := Xb12_1
                have hBX : Below w.heap.size w w1 := by go_grown
                clear hB1 hs1 Xb3_1 Xb4_1 Xb5_1 Xb11_1 Xb12_1
                have hsX := hBX.size
                have rd5 := fun d os => (Yb5.regrown d os).2.1
                have rd11 := fun d os => (Yb11.regrown d os).2.1
                have rd12 := fun d os => (Yb12.regrown d os).2.1
                have Zb3 := Lib.hid Yb3
                have Zb4 := Lib.hid Yb4
                have Zb5 := Lib.hid Yb5
                have Zb11 := Lib.hid Yb11
                have Zb12 := Lib.hid Yb12
                clear Yb3 Yb4 Yb5 Yb11 Yb12
                refine wp_region_quiet_below (by kernel_rfl) (by kernel_rfl) ?_
                repeat ((with_reducible refine wpQuiet_step (fun K hK => ?_)); go_simp; first | ((with_reducible refine hK _ ?_); clear hK K) | (apply Exists.intro; refine ⟨fun _ => ?_, hK _ ?_⟩; fail; clear hK K))
                with_reducible refine wpQuiet_nil ?_
                intro w2 hw'
                obtain ⟨⟨dq, osq⟩, hw''⟩ := hw'
                have hb2 : Below w1.heap.size w1 w2 := by rw [hw'']; exact below_regrown w1 dq osq
                have Xb3_2 : Box w2 w.heap.size #[.int .i64 s0, .int .i64 s1] := Zb3.out.below hb2
                have Xb4_2 : Box w2 (w.heap.size + 1) #[.int .i64 n0, .int .i64 n1] := Zb4.out.below hb2
                have Xb5_2 : Box w2 (w.heap.size + 1 + 1) #[.int .i64 v0, .int .i64 v1] := Zb5.out.below hb2
                have Xb11_2 : Box w2 p1 #[.int .i64 A, .int .i64 B] := Zb11.out.below hb2
                have Xb12_2 : Box w2 p2 #[.int .i64 C, .int .i64 D] := Zb12.out.below hb2
                have hB2 : Below w.heap.size w w2 := stepB hBX hb2
                have hs2 := hB2.size
                clear hw'' hb2 hBX hsX rd5 rd11 rd12 Zb3 Zb4 Zb5 Zb11 Zb12
                go_wp2
                go_roundw
                case rel => exact ⟨k + 1, by omega, by go_num, congrArg Value.bool (by rw [firstG_succ, QF.out, HOK.out, Q1.out]; rfl), Xb3_2, Xb4_2, Xb5_2, hB2⟩
                case measure => simp [intOf]; omega
            · have Q1 := Lib.hid q1
              cases q2 : decide (C ≤ D)
              · have Q2 := Lib.hid q2
                clear HL'
                go_wp2
                have Yb3 : Box wr w.heap.size #[.int .i64 s0, .int .i64 s1] := X3
                have Yb4 : Box wr (w.heap.size + 1) #[.int .i64 n0, .int .i64 n1] := X4
                have Yb5 : Box wr (w.heap.size + 1 + 1) #[.int .i64 v0, .int .i64 v1] := X5
                have hBX : Below w.heap.size w wr := by go_grown
                clear hBr hsr X3 X4 X5
                have Zb3 := Lib.hid Yb3
                have Zb4 := Lib.hid Yb4
                have Zb5 := Lib.hid Yb5
                have ZBX := Lib.hid hBX
                clear hBX Yb3 Yb4 Yb5
                refine wp_region_float2 8 11 12 #[.int .i64 0, .int .i64 0] #[.int .i64 0, .int .i64 0] 24 24 (by kernel_rfl) (by kernel_rfl) ?A1 ?A2 ?E
                case A1 =>
                  intro a w K hK
                  unfold wpOp
                  simp only [List.getElem?_toArray, List.getElem?_cons_succ, List.getElem?_cons_zero]
                  go_simp
                  exact .inl hK
                case A2 =>
                  intro a w K hK
                  unfold wpOp
                  simp only [List.getElem?_toArray, List.getElem?_cons_succ, List.getElem?_cons_zero]
                  go_simp
                  exact .inl hK
                case E =>
                  apply Exists.intro
                  apply And.intro
                  intro X' hX
                  have rd3 := fun d os => ((Zb3.out.below hX).regrown d os).2.1
                  have rd4 := fun d os => ((Zb4.out.below hX).regrown d os).2.1
                  have kc25 := fun d os => (HG1.out (Go.Sort.grow (redrawn X' d) os)).regrown_of
                  have kc29 := fun d os => (HG2.out (Go.Sort.grow (redrawn X' d) os)).regrown_of
                  simp only [List.take_succ_cons, List.take_zero]
                  unfold InB
                  repeat ((with_reducible refine wpQuiet_step (fun K hK => ?_)); go_simp; first | ((with_reducible refine hK _ ?_); clear hK K) | (apply Exists.intro; refine ⟨fun _ => ?_, hK _ ?_⟩; (first | (go_at_call 115; with_reducible exact kc25 _ _) | (go_at_call 115; with_reducible exact kc29 _ _)); clear hK K))
                  exact wpQuiet_nil rfl
                  intro p1 p2 u1 hb1 B1 B2 hne hg1 hg2
                  have hsX := ZBX.out.size
                  have c1' := B1.2.1
                  have c2' := B2.2.1
                  have f1' := B1.2.2
                  have f2' := B2.2.2
                  have l1' := B1.1
                  have l2' := B2.1
                  have Y1 : Box _ p1 #[.int .i64 A, .int .i64 B] := (Box.setOther (Box.setOther (Box.setCell (Box.setCell B1 (i := 0) (by simp) (.int .i64 A)) (i := 1) (by simp) (.int .i64 B)) (g' := p2) (i := 0) (Ne.symm hne) (.int .i64 C)) (g' := p2) (i := 1) (Ne.symm hne) (.int .i64 D))
                  have Y2 : Box _ p2 #[.int .i64 C, .int .i64 D] := (Box.setCell (Box.setCell (Box.setOther (Box.setOther B2 (g' := p1) (i := 0) hne (.int .i64 A)) (g' := p1) (i := 1) hne (.int .i64 B)) (i := 0) (by simp) (.int .i64 C)) (i := 1) (by simp) (.int .i64 D))
                  have hBW := (Below.setCell (Below.setCell (Below.setCell (Below.setCell hb1 (p := ⟨p1, 0, none⟩) hg1 (.int .i64 A)) (p := ⟨p1, 1, none⟩) hg1 (.int .i64 B)) (p := ⟨p2, 0, none⟩) hg2 (.int .i64 C)) (p := ⟨p2, 1, none⟩) hg2 (.int .i64 D))
                  have HBS := Lib.hid (And.intro Y1 (And.intro Y2 hBW))
                  clear Y1 Y2 hBW
                  simp only [List.drop_succ_cons, List.drop_zero, Act.put, ptrV]
                  go_wp2
                  clear B1 B2 c1' c2' f1' f2' l1' l2' hb1
                  generalize ((((u1.setCell ⟨p1, 0, none⟩ (.int .i64 A)).setCell ⟨p1, 1, none⟩ (.int .i64 B)).setCell ⟨p2, 0, none⟩ (.int .i64 C)).setCell ⟨p2, 1, none⟩ (.int .i64 D)) = w1 at *
                  obtain ⟨Xb11_1, Xb12_1, hb1⟩ := HBS.out
                  clear HBS
                  have Xb3_1 : Box w1 w.heap.size #[.int .i64 s0, .int .i64 s1] := Zb3.out.below hb1
                  have nq3 : p2 ≠ w.heap.size := by have := Zb3.out.1; omega
                  have Xb4_1 : Box w1 (w.heap.size + 1) #[.int .i64 n0, .int .i64 n1] := Zb4.out.below hb1
                  have nq4 : p2 ≠ (w.heap.size + 1) := by have := Zb4.out.1; omega
                  have Xb5_1 : Box w1 (w.heap.size + 1 + 1) #[.int .i64 v0, .int .i64 v1] := Zb5.out.below hb1
                  have nq5 : p2 ≠ (w.heap.size + 1 + 1) := by have := Zb5.out.1; omega
                  have nq11 : p2 ≠ p1 := Ne.symm hne
                  have hB1 : Below w.heap.size w w1 := ZBX.out.trans (hb1.mono hsX)
                  have hs1 := hB1.size
                  have hz11 : w.heap.size ≤ p1 := Nat.le_trans hsX hg1
                  have hz12 : w.heap.size ≤ p2 := Nat.le_trans hsX hg2
                  clear hb1 ZBX hsX hg1 hg2 hne Zb3 Zb4 Zb5
                  go_wp2
                  have Yb3 : Box w1 w.heap.size #[.int .i64 s0, .int .i64 s1] := Xb3_1
                  have Yb4 : Box w1 (w.heap.size + 1) #[.int .i64 n0, .int .i64 n1] := Xb4_1
                  have Yb5 : Box w1 (w.heap.size + 1 + 1) #[.int .i64 v0, .int .i64 v1] := Xb5_1
                  have Yb11 : Box w1 p1 #[.int .i64 A, .int .i64 B] := Xb11_1
                  have Yb12 : Box w1 p2 #[.int .i64 C, .int .i64 D] := Xb12_1
                  have hBX : Below w.heap.size w w1 := by go_grown
                  clear hB1 hs1 Xb3_1 Xb4_1 Xb5_1 Xb11_1 Xb12_1
                  have hsX := hBX.size
                  have rd5 := fun d os => (Yb5.regrown d os).2.1
                  have rd11 := fun d os => (Yb11.regrown d os).2.1
                  have rd12 := fun d os => (Yb12.regrown d os).2.1
                  have Zb3 := Lib.hid Yb3
                  have Zb4 := Lib.hid Yb4
                  have Zb5 := Lib.hid Yb5
                  have Zb11 := Lib.hid Yb11
                  have Zb12 := Lib.hid Yb12
                  clear Yb3 Yb4 Yb5 Yb11 Yb12
                  refine wp_region_quiet_below (by kernel_rfl) (by kernel_rfl) ?_
                  repeat ((with_reducible refine wpQuiet_step (fun K hK => ?_)); go_simp; first | ((with_reducible refine hK _ ?_); clear hK K) | (apply Exists.intro; refine ⟨fun _ => ?_, hK _ ?_⟩; fail; clear hK K))
                  with_reducible refine wpQuiet_nil ?_
                  intro w2 hw'
                  obtain ⟨⟨dq, osq⟩, hw''⟩ := hw'
                  have hb2 : Below w1.heap.size w1 w2 := by rw [hw'']; exact below_regrown w1 dq osq
                  have Xb3_2 : Box w2 w.heap.size #[.int .i64 s0, .int .i64 s1] := Zb3.out.below hb2
                  have Xb4_2 : Box w2 (w.heap.size + 1) #[.int .i64 n0, .int .i64 n1] := Zb4.out.below hb2
                  have Xb5_2 : Box w2 (w.heap.size + 1 + 1) #[.int .i64 v0, .int .i64 v1] := Zb5.out.below hb2
                  have Xb11_2 : Box w2 p1 #[.int .i64 A, .int .i64 B] := Zb11.out.below hb2
                  have Xb12_2 : Box w2 p2 #[.int .i64 C, .int .i64 D] := Zb12.out.below hb2
                  have hB2 : Below w.heap.size w w2 := stepB hBX hb2
                  have hs2 := hB2.size
                  clear hw'' hb2 hBX hsX rd5 rd11 rd12 Zb3 Zb4 Zb5 Zb11 Zb12
                  go_wp2
                  go_roundw
                  case rel => exact ⟨k + 1, by omega, by go_num, congrArg Value.bool (by rw [firstG_succ, QF.out, HOK.out, Q1.out, Q2.out]; rfl), Xb3_2, Xb4_2, Xb5_2, hB2⟩
                  case measure => simp [intOf]; omega
              · have Q2 := Lib.hid q2
                have HL := Lib.hid HL'
                clear HL'
                go_wp2
                have Yb3 : Box wr w.heap.size #[.int .i64 s0, .int .i64 s1] := X3
                have Yb4 : Box wr (w.heap.size + 1) #[.int .i64 n0, .int .i64 n1] := X4
                have Yb5 : Box wr (w.heap.size + 1 + 1) #[.int .i64 v0, .int .i64 v1] := X5
                have hBX : Below w.heap.size w wr := by go_grown
                clear hBr hsr X3 X4 X5
                have Zb3 := Lib.hid Yb3
                have Zb4 := Lib.hid Yb4
                have Zb5 := Lib.hid Yb5
                have ZBX := Lib.hid hBX
                clear hBX Yb3 Yb4 Yb5
                refine wp_region_float2 8 11 12 #[.int .i64 0, .int .i64 0] #[.int .i64 0, .int .i64 0] 24 24 (by kernel_rfl) (by kernel_rfl) ?A1 ?A2 ?E
                case A1 =>
                  intro a w K hK
                  unfold wpOp
                  simp only [List.getElem?_toArray, List.getElem?_cons_succ, List.getElem?_cons_zero]
                  go_simp
                  exact .inl hK
                case A2 =>
                  intro a w K hK
                  unfold wpOp
                  simp only [List.getElem?_toArray, List.getElem?_cons_succ, List.getElem?_cons_zero]
                  go_simp
                  exact .inl hK
                case E =>
                  apply Exists.intro
                  apply And.intro
                  intro X' hX
                  have rd3 := fun d os => ((Zb3.out.below hX).regrown d os).2.1
                  have rd4 := fun d os => ((Zb4.out.below hX).regrown d os).2.1
                  have kc25 := fun d os => (HG1.out (Go.Sort.grow (redrawn X' d) os)).regrown_of
                  have kc29 := fun d os => (HG2.out (Go.Sort.grow (redrawn X' d) os)).regrown_of
                  simp only [List.take_succ_cons, List.take_zero]
                  unfold InB
                  repeat ((with_reducible refine wpQuiet_step (fun K hK => ?_)); go_simp; first | ((with_reducible refine hK _ ?_); clear hK K) | (apply Exists.intro; refine ⟨fun _ => ?_, hK _ ?_⟩; (first | (go_at_call 115; with_reducible exact kc25 _ _) | (go_at_call 115; with_reducible exact kc29 _ _)); clear hK K))
                  exact wpQuiet_nil rfl
                  intro p1 p2 u1 hb1 B1 B2 hne hg1 hg2
                  have hsX := ZBX.out.size
                  have c1' := B1.2.1
                  have c2' := B2.2.1
                  have f1' := B1.2.2
                  have f2' := B2.2.2
                  have l1' := B1.1
                  have l2' := B2.1
                  have Y1 : Box _ p1 #[.int .i64 A, .int .i64 B] := (Box.setOther (Box.setOther (Box.setCell (Box.setCell B1 (i := 0) (by simp) (.int .i64 A)) (i := 1) (by simp) (.int .i64 B)) (g' := p2) (i := 0) (Ne.symm hne) (.int .i64 C)) (g' := p2) (i := 1) (Ne.symm hne) (.int .i64 D))
                  have Y2 : Box _ p2 #[.int .i64 C, .int .i64 D] := (Box.setCell (Box.setCell (Box.setOther (Box.setOther B2 (g' := p1) (i := 0) hne (.int .i64 A)) (g' := p1) (i := 1) hne (.int .i64 B)) (i := 0) (by simp) (.int .i64 C)) (i := 1) (by simp) (.int .i64 D))
                  have hBW := (Below.setCell (Below.setCell (Below.setCell (Below.setCell hb1 (p := ⟨p1, 0, none⟩) hg1 (.int .i64 A)) (p := ⟨p1, 1, none⟩) hg1 (.int .i64 B)) (p := ⟨p2, 0, none⟩) hg2 (.int .i64 C)) (p := ⟨p2, 1, none⟩) hg2 (.int .i64 D))
                  have HBS := Lib.hid (And.intro Y1 (And.intro Y2 hBW))
                  clear Y1 Y2 hBW
                  simp only [List.drop_succ_cons, List.drop_zero, Act.put, ptrV]
                  go_wp2
                  clear B1 B2 c1' c2' f1' f2' l1' l2' hb1
                  generalize ((((u1.setCell ⟨p1, 0, none⟩ (.int .i64 A)).setCell ⟨p1, 1, none⟩ (.int .i64 B)).setCell ⟨p2, 0, none⟩ (.int .i64 C)).setCell ⟨p2, 1, none⟩ (.int .i64 D)) = w1 at *
                  obtain ⟨Xb11_1, Xb12_1, hb1⟩ := HBS.out
                  clear HBS
                  have Xb3_1 : Box w1 w.heap.size #[.int .i64 s0, .int .i64 s1] := Zb3.out.below hb1
                  have nq3 : p2 ≠ w.heap.size := by have := Zb3.out.1; omega
                  have Xb4_1 : Box w1 (w.heap.size + 1) #[.int .i64 n0, .int .i64 n1] := Zb4.out.below hb1
                  have nq4 : p2 ≠ (w.heap.size + 1) := by have := Zb4.out.1; omega
                  have Xb5_1 : Box w1 (w.heap.size + 1 + 1) #[.int .i64 v0, .int .i64 v1] := Zb5.out.below hb1
                  have nq5 : p2 ≠ (w.heap.size + 1 + 1) := by have := Zb5.out.1; omega
                  have nq11 : p2 ≠ p1 := Ne.symm hne
                  have hB1 : Below w.heap.size w w1 := ZBX.out.trans (hb1.mono hsX)
                  have hs1 := hB1.size
                  have hz11 : w.heap.size ≤ p1 := Nat.le_trans hsX hg1
                  have hz12 : w.heap.size ≤ p2 := Nat.le_trans hsX hg2
                  clear hb1 ZBX hsX hg1 hg2 hne Zb3 Zb4 Zb5
                  go_wp2
                  have Yb3 : Box w1 w.heap.size #[.int .i64 s0, .int .i64 s1] := Xb3_1
                  have Yb4 : Box w1 (w.heap.size + 1) #[.int .i64 n0, .int .i64 n1] := Xb4_1
                  have Yb5 : Box w1 (w.heap.size + 1 + 1) #[.int .i64 v0, .int .i64 v1] := Xb5_1
                  have Yb11 : Box w1 p1 #[.int .i64 A, .int .i64 B] := Xb11_1
                  have Yb12 : Box w1 p2 #[.int .i64 C, .int .i64 D] := Xb12_1
                  have hBX : Below w.heap.size w w1 := by go_grown
                  clear hB1 hs1 Xb3_1 Xb4_1 Xb5_1 Xb11_1 Xb12_1
                  have hsX := hBX.size
                  have rd5 := fun d os => (Yb5.regrown d os).2.1
                  have rd11 := fun d os => (Yb11.regrown d os).2.1
                  have rd12 := fun d os => (Yb12.regrown d os).2.1
                  have kc48 := fun d os => (HP.out (Go.Sort.grow (redrawn w1 d) os)).regrown_of
                  have kc50 := fun d os => (HL.out (Go.Sort.grow (redrawn w1 d) os)).regrown_of
                  have Zb3 := Lib.hid Yb3
                  have Zb4 := Lib.hid Yb4
                  have Zb5 := Lib.hid Yb5
                  have Zb11 := Lib.hid Yb11
                  have Zb12 := Lib.hid Yb12
                  clear Yb3 Yb4 Yb5 Yb11 Yb12
                  refine wp_region_quiet_below (by kernel_rfl) (by kernel_rfl) ?_
                  repeat ((with_reducible refine wpQuiet_step (fun K hK => ?_)); go_simp; first | ((with_reducible refine hK _ ?_); clear hK K) | (apply Exists.intro; refine ⟨fun _ => ?_, hK _ ?_⟩; (first | (go_at_call 48; with_reducible exact kc48 _ _) | (go_at_call 110; with_reducible exact kc50 _ _)); clear hK K))
                  with_reducible refine wpQuiet_nil ?_
                  intro w2 hw'
                  obtain ⟨⟨dq, osq⟩, hw''⟩ := hw'
                  have hb2 : Below w1.heap.size w1 w2 := by rw [hw'']; exact below_regrown w1 dq osq
                  have Xb3_2 : Box w2 w.heap.size #[.int .i64 s0, .int .i64 s1] := Zb3.out.below hb2
                  have Xb4_2 : Box w2 (w.heap.size + 1) #[.int .i64 n0, .int .i64 n1] := Zb4.out.below hb2
                  have Xb5_2 : Box w2 (w.heap.size + 1 + 1) #[.int .i64 v0, .int .i64 v1] := Zb5.out.below hb2
                  have Xb11_2 : Box w2 p1 #[.int .i64 A, .int .i64 B] := Zb11.out.below hb2
                  have Xb12_2 : Box w2 p2 #[.int .i64 C, .int .i64 D] := Zb12.out.below hb2
                  have hB2 : Below w.heap.size w w2 := stepB hBX hb2
                  have hs2 := hB2.size
                  clear hw'' hb2 hBX hsX rd5 rd11 rd12 kc48 kc50 Zb3 Zb4 Zb5 Zb11 Zb12
                  go_wp2
                  go_roundw
                  case rel => exact ⟨k + 1, by omega, by go_num, congrArg Value.bool (by rw [firstG_succ, QF.out, HOK.out, Q1.out, Q2.out]; rfl), Xb3_2, Xb4_2, Xb5_2, hB2⟩
                  case measure => simp [intOf]; omega
        · have hk' : k = g := by omega
          subst hk'
          have hs' : firstG s0 s1 n0 n1 v0 v1 k k = sortedB s0 s1 n0 n1 v0 v1 k := rfl
          cases qS : sortedB s0 s1 n0 n1 v0 v1 k
          · rw [qS] at hs'
            rw [hs']
            have QS := Lib.hid qS
            clear qS hs'
            have HIN := Lib.hid hin
            clear hin
            go_wp2
            go_roundw
            case rel => exact ⟨k + 1, by omega, by omega, by go_num, Lib.hid fun j hj => by
              by_cases e : j = k - 1
              · subst e; rw [show k - 1 + 1 = k by omega]; exact QS.out
              · exact HIN.out.out j (by omega), X3, X4, X5, hBr⟩
            case measure => simp [intOf]; omega
          · rw [qS] at hs'
            rw [hs']
            have HF : Hid (groupsN s0 s1 n0 n1 v0 v1 = some k) := Lib.hid (by
              unfold groupsN
              rw [find_at (k := k - 1) (by omega) (by rw [show k - 1 + 1 = k by omega]; exact qS) (fun j hj => hin.out j (by omega))]
              show some (k - 1 + 1) = some k
              rw [show k - 1 + 1 = k by omega])
            clear qS hs'
            go_wp2
            go_returns
            exact ⟨by unfold groupsRV; rw [HF.out]; rfl, hBr⟩
    · have hg : g = 51 := by omega
      subst hg
      have HF : Hid (groupsN s0 s1 n0 n1 v0 v1 = none) := Lib.hid (by
        unfold groupsN
        rw [find_no (fun j hj => hin.out j (by omega))]
        rfl)
      clear hin
      go_wp2
      go_returns
      exact ⟨by unfold groupsRV; rw [HF.out]; rfl, hBo⟩

end Go.Proofs.Ytpmeahmjmpgbfaa
