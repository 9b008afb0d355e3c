/- Contract of acmeref02.Check. Made by tools/gen_zrchk.py. -/
import Derived.Test.YtpmeahmjmpgbfaaZRTab
import Derived.Test.YtpmeahmjmpgbfaaZCheck4
import Derived.LoopNIn
namespace Go.Proofs.Ytpmeahmjmpgbfaa
open Go.ChangeShapes Go.WideShapes Go.ChangeAt Go.RowKit
set_option linter.unusedVariables false
set_option linter.unusedSimpArgs false

set_option maxRecDepth 100000 in
set_option maxHeartbeats 4000000 in
theorem rck_l1 (w : World) (ss : List Int) (gs ps : List (List Int)) (sa ga pa : Option Addr) (sc gc pc : Nat) (m1 : ss.length ≤ 4611686018427387904) (m2 : gs.length ≤ 4611686018427387904) (m3 : ps.length ≤ 4611686018427387904) (l1 : decide ((20 : Int) < ss.length) = true) :
    Calls Try.prog 34 #[.agg #[.slice sa ss.length sc, .slice ga gs.length gc, .slice pa ps.length pc]] w fun e w' => e = .returned (.int .i64 5) ∧ Below w.heap.size w w' := by
  go_enter Try.func34, Try.ntmps34
  go_wp2
  go_returns
  exact ⟨rfl, (by go_grown)⟩

set_option maxRecDepth 100000 in
set_option maxHeartbeats 4000000 in
theorem rck_l2 (w : World) (ss : List Int) (gs ps : List (List Int)) (sa ga pa : Option Addr) (sc gc pc : Nat) (m1 : ss.length ≤ 4611686018427387904) (m2 : gs.length ≤ 4611686018427387904) (m3 : ps.length ≤ 4611686018427387904) (l1 : decide ((20 : Int) < ss.length) = false) (l2 : decide ((12 : Int) < gs.length) = true) :
    Calls Try.prog 34 #[.agg #[.slice sa ss.length sc, .slice ga gs.length gc, .slice pa ps.length pc]] w fun e w' => e = .returned (.int .i64 5) ∧ Below w.heap.size w w' := by
  go_enter Try.func34, Try.ntmps34
  go_wp2
  go_returns
  exact ⟨rfl, (by go_grown)⟩

set_option maxRecDepth 100000 in
set_option maxHeartbeats 4000000 in
theorem rck_l3 (w : World) (ss : List Int) (gs ps : List (List Int)) (sa ga pa : Option Addr) (sc gc pc : Nat) (m1 : ss.length ≤ 4611686018427387904) (m2 : gs.length ≤ 4611686018427387904) (m3 : ps.length ≤ 4611686018427387904) (l1 : decide ((20 : Int) < ss.length) = false) (l2 : decide ((12 : Int) < gs.length) = false) (l3 : decide ((12 : Int) < ps.length) = true) :
    Calls Try.prog 34 #[.agg #[.slice sa ss.length sc, .slice ga gs.length gc, .slice pa ps.length pc]] w fun e w' => e = .returned (.int .i64 5) ∧ Below w.heap.size w w' := by
  go_enter Try.func34, Try.ntmps34
  go_wp2
  go_returns
  exact ⟨rfl, (by go_grown)⟩

set_option maxRecDepth 100000 in
set_option maxHeartbeats 4000000 in
theorem rck_f1 (w : World) (ss : List Int) (gs ps : List (List Int)) (sa ga pa : Option Addr) (sc gc pc : Nat) (m1 : ss.length ≤ 4611686018427387904) (m2 : gs.length ≤ 4611686018427387904) (m3 : ps.length ≤ 4611686018427387904) (l1 : decide ((20 : Int) < ss.length) = false) (l2 : decide ((12 : Int) < gs.length) = false) (l3 : decide ((12 : Int) < ps.length) = false) (HR1 : Hid (∀ W : World, Below w.heap.size w W → Calls Try.prog 99 #[.slice ga gs.length gc, .int .i64 ss.length, .int .i64 0, .bool true] W fun e w' => e = .returned (.int .i64 4) ∧ W = w')) :
    Calls Try.prog 34 #[.agg #[.slice sa ss.length sc, .slice ga gs.length gc, .slice pa ps.length pc]] w fun e w' => e = .returned (.int .i64 4) ∧ Below w.heap.size w w' := by
  go_enter Try.func34, Try.ntmps34
  go_wp2_with fail
  refine (HR1.out _ (by go_grown)).mono ?_
  rintro e w9 ⟨rfl, rfl⟩
  go_wp2
  go_returns
  exact ⟨rfl, (by go_grown)⟩

set_option maxRecDepth 100000 in
set_option maxHeartbeats 4000000 in
theorem rck_f2 (w : World) (ss : List Int) (gs ps : List (List Int)) (sa ga pa : Option Addr) (sc gc pc : Nat) (m1 : ss.length ≤ 4611686018427387904) (m2 : gs.length ≤ 4611686018427387904) (m3 : ps.length ≤ 4611686018427387904) (l1 : decide ((20 : Int) < ss.length) = false) (l2 : decide ((12 : Int) < gs.length) = false) (l3 : decide ((12 : Int) < ps.length) = false) (HR1 : Hid (∀ W : World, Below w.heap.size w W → Calls Try.prog 99 #[.slice ga gs.length gc, .int .i64 ss.length, .int .i64 0, .bool true] W fun e w' => e = .returned (.int .i64 0) ∧ W = w')) (HR2 : Hid (∀ W : World, Below w.heap.size w W → Calls Try.prog 99 #[.slice pa ps.length pc, .int .i64 ss.length, .int .i64 0, .bool true] W fun e w' => e = .returned (.int .i64 4) ∧ W = w')) :
    Calls Try.prog 34 #[.agg #[.slice sa ss.length sc, .slice ga gs.length gc, .slice pa ps.length pc]] w fun e w' => e = .returned (.int .i64 4) ∧ Below w.heap.size w w' := by
  go_enter Try.func34, Try.ntmps34
  go_wp2_with fail
  refine (HR1.out _ (by go_grown)).mono ?_
  rintro e w9 ⟨rfl, rfl⟩
  go_wp2_with fail
  refine (HR2.out _ (by go_grown)).mono ?_
  rintro e w9 ⟨rfl, rfl⟩
  go_wp2
  go_returns
  exact ⟨rfl, (by go_grown)⟩

/-- The error of a table's numbers. -/
def stepsR (ss : List Int) (gs ps : List (List Int)) : Int := if (stepsB ss && rowsB gs ps) = false then 2 else 0
theorem bad_step {l x : Int} (h1 : ¬ (1 ≤ x ∧ x ≤ 10000000)) (h2 : 0 ≤ l) : (decide (l < x) && decide (x ≤ 10000000)) = false := by
  rw [Bool.eq_false_iff]
  intro h
  simp only [Bool.and_eq_true, decide_eq_true_eq] at h
  omega
theorem last_nonneg {ss : List Int} {k : Nat} (h : stepsFrom 0 (ss.take k) = true) : 0 ≤ lastOf 0 ss k := by
  unfold lastOf
  split
  · omega
  · rename_i h0
    cases hx : ss[k - 1]? with
    | none => simp
    | some s =>
      have hm : s ∈ ss.take k := by
        refine List.mem_of_getElem? (i := k - 1) ?_
        rw [List.getElem?_take_of_lt (by omega)]
        exact hx
      have := stepsFrom_gt _ _ h s hm
      simp
      omega
set_option maxRecDepth 100000 in
set_option maxHeartbeats 16000000 in
theorem rck_way (w : World) (ss : List Int) (gs ps : List (List Int)) (sa ga pa : Option Addr) (sc gc pc : Nat) (m1 : ss.length ≤ 4611686018427387904) (m2 : gs.length ≤ 4611686018427387904) (m3 : ps.length ≤ 4611686018427387904) (hs : SlA IntE w sa ss) (l1 : decide ((20 : Int) < ss.length) = false) (l2 : decide ((12 : Int) < gs.length) = false) (l3 : decide ((12 : Int) < ps.length) = false) (HR1 : Hid (∀ W : World, Below w.heap.size w W → Calls Try.prog 99 #[.slice ga gs.length gc, .int .i64 ss.length, .int .i64 0, .bool true] W fun e w' => e = .returned (.int .i64 0) ∧ W = w')) (HR2 : Hid (∀ W : World, Below w.heap.size w W → Calls Try.prog 99 #[.slice pa ps.length pc, .int .i64 ss.length, .int .i64 0, .bool true] W fun e w' => e = .returned (.int .i64 0) ∧ W = w')) (HG3 : Hid (((decide (0 < gs.length) && gs.all (allB 0 100000)) = false → Hid (∀ W : World, Below w.heap.size w W → Calls Try.prog 99 #[.slice ga gs.length gc, .int .i64 0, .int .i64 0, .bool false] W fun e w' => e = .returned (.int .i64 2) ∧ W = w')) ∧ ((decide (0 < gs.length) && gs.all (allB 0 100000)) = true → Hid (∀ W : World, Below w.heap.size w W → Calls Try.prog 99 #[.slice ga gs.length gc, .int .i64 0, .int .i64 0, .bool false] W fun e w' => e = .returned (.int .i64 0) ∧ W = w')))) (HG4 : Hid (((decide (0 < ps.length) && ps.all (allB (-100000) 100000)) = false → Hid (∀ W : World, Below w.heap.size w W → Calls Try.prog 99 #[.slice pa ps.length pc, .int .i64 0, .int .i64 (-100000), .bool false] W fun e w' => e = .returned (.int .i64 2) ∧ W = w')) ∧ ((decide (0 < ps.length) && ps.all (allB (-100000) 100000)) = true → Hid (∀ W : World, Below w.heap.size w W → Calls Try.prog 99 #[.slice pa ps.length pc, .int .i64 0, .int .i64 (-100000), .bool false] W fun e w' => e = .returned (.int .i64 0) ∧ W = w')))) :
    Calls Try.prog 34 #[.agg #[.slice sa ss.length sc, .slice ga gs.length gc, .slice pa ps.length pc]] w fun e w' => e = .returned (.int .i64 (stepsR ss gs ps)) ∧ Below w.heap.size w w' := by
  go_enter Try.func34, Try.ntmps34
  go_wp2_with fail
  refine (HR1.out _ (by go_grown)).mono ?_
  rintro e w9 ⟨rfl, rfl⟩
  go_wp2_with fail
  refine (HR2.out _ (by go_grown)).mono ?_
  rintro e w9 ⟨rfl, rfl⟩
  go_wp2
  go_loopw [3] (fun i wr => ∃ k : Nat, k ≤ ss.length ∧ i = .int .i64 k ∧ Hid (stepsFrom 0 (ss.take k) = true) ∧ Box wr w.heap.size #[.slice sa ss.length sc, .slice ga gs.length gc, .slice pa ps.length pc] ∧ Below w.heap.size w wr) (fun i _ => ss.length - (intOf i).toNat)
  case atStart => exact ⟨0, Nat.zero_le _, rfl, rfl, (Box.new w _ _), by go_grown⟩
  case round =>
    obtain ⟨k, hk, rfl, hin, X1, hBr⟩ := hrel
    have hsr := hBr.size
    by_cases hlt : k < ss.length
    · rcases hs with h0 | ⟨b, off, rfl, hb, hc⟩
      · subst h0; exact absurd hlt (by simp)
      have hzx : ss[k]? = some ss[k] := List.getElem?_eq_getElem hlt
      obtain ⟨u, hcz, hzu⟩ := hc k _ hzx
      obtain ⟨x, hz⟩ : ∃ z, ss[k] = z := ⟨_, rfl⟩
      rw [hz] at hzx hzu
      unfold IntE at hzu
      subst hzu
      have hz1 : b < wr.heap.size := Nat.lt_of_lt_of_le hb hBr.size
      have q1 := fun dz os => ((below_regrown wr dz os).cell (p := ⟨b, off + k, none⟩) hz1).trans ((hBr.cell (p := ⟨b, off + k, none⟩) hb).trans hcz)
      have HSP := Lib.hid (stepsFrom_split 0 ss k x hzx hin.out)
      have hpos : Hid (0 ≤ lastOf 0 ss k) := Lib.hid (last_nonneg hin.out)
      have HX := Lib.hid hzx
      clear hzx hz hcz
      cases hq : inB 1 10000000 x
      · have HIN : Hid (∀ W : World, Calls Try.prog 100 #[.int .i64 x, .int .i64 1, .int .i64 10000000] W fun e w' => e = .returned (.bool false) ∧ W = w') := by rw [← hq]; exact Lib.hid fun W => zin_any x 1 10000000 W
        have HQ := Lib.hid hq
        have cc1 := X1.2.1
        have ll1 := X1.1
        go_wp2
        have Yb1 : Box wr w.heap.size #[.slice (some ⟨b, off, none⟩) ss.length sc, .slice ga gs.length gc, .slice pa ps.length pc] := X1
        have hBX : Below w.heap.size w wr := by go_grown
        clear hBr hsr X1 cc1 ll1
        have hsX := hBX.size
        have rd1 := fun dz os => (Yb1.regrown dz os).2.1
        have kc48 := fun dz os => (below_of_same (HIN.out (Go.Sort.grow (redrawn wr dz) os))).regrown_of
        have Zb1 := Lib.hid Yb1
        clear Yb1
        refine wp_region_quiet_below (by kernel_rfl) (by kernel_rfl) ?_
        repeat ((with_reducible refine wpQuiet_step (fun K hK => ?_)); go_simp; first | ((with_reducible refine hK _ ?_); clear hK K) | (apply Exists.intro; refine ⟨fun _ => ?_, hK _ ?_⟩; (first | (go_at_call 100; with_reducible exact kc48 _ _)); clear hK K) | (refine ite_skip (fun h => ?_) (hK _ ?_); (have h2 : (none : Option Bool) = some true := h); cases h2; clear hK K))
        with_reducible refine wpQuiet_nil ?_
        intro w1 hw'
        obtain ⟨⟨dq, osq⟩, hw''⟩ := hw'
        have hb1 : Below wr.heap.size wr w1 := by rw [hw'']; exact below_regrown wr dq osq
        have Xb1_1 : Box w1 w.heap.size #[.slice (some ⟨b, off, none⟩) ss.length sc, .slice ga gs.length gc, .slice pa ps.length pc] := Zb1.out.below hb1
        have hB1 : Below w.heap.size w w1 := stepB hBX hb1
        have hs1 := hB1.size
        clear hw'' hb1 hBX hsX rd1 kc48 Zb1
        go_wp2
        go_returns
        exact ⟨ret_int (show (2 : Int) = stepsR ss gs ps by unfold stepsR stepsB; rw [HSP.out, bad_step (of_decide_eq_false HQ.out) hpos.out]; rfl), hB1⟩
      · rcases Nat.eq_zero_or_pos k with h0 | h0
        · skip
          subst h0
          simp only [Nat.add_zero] at q1
          have HN := Lib.hid (stepsFrom_snoc 0 ss 0 x HX.out hin.out (by have := inB_true hq; rw [show lastOf 0 ss 0 = 0 from rfl]; omega) (by have := inB_true hq; omega))
          have HIN : Hid (∀ W : World, Calls Try.prog 100 #[.int .i64 x, .int .i64 1, .int .i64 10000000] W fun e w' => e = .returned (.bool true) ∧ W = w') := by rw [← hq]; exact Lib.hid fun W => zin_any x 1 10000000 W
          have cc1 := X1.2.1
          have ll1 := X1.1
          go_wp2
          have Yb1 : Box wr w.heap.size #[.slice (some ⟨b, off, none⟩) ss.length sc, .slice ga gs.length gc, .slice pa ps.length pc] := X1
          have hBX : Below w.heap.size w wr := by go_grown
          clear hBr hsr X1 cc1 ll1
          have hsX := hBX.size
          have rd1 := fun dz os => (Yb1.regrown dz os).2.1
          have kc48 := fun dz os => (below_of_same (HIN.out (Go.Sort.grow (redrawn wr dz) os))).regrown_of
          have Zb1 := Lib.hid Yb1
          clear Yb1
          refine wp_region_quiet_below (by kernel_rfl) (by kernel_rfl) ?_
          repeat ((with_reducible refine wpQuiet_step (fun K hK => ?_)); go_simp; first | ((with_reducible refine hK _ ?_); clear hK K) | (apply Exists.intro; refine ⟨fun _ => ?_, hK _ ?_⟩; (first | (go_at_call 100; with_reducible exact kc48 _ _)); clear hK K) | (refine ite_skip (fun h => ?_) (hK _ ?_); (have h2 : (none : Option Bool) = some true := h); cases h2; clear hK K))
          with_reducible refine wpQuiet_nil ?_
          intro w1 hw'
          obtain ⟨⟨dq, osq⟩, hw''⟩ := hw'
          have hb1 : Below wr.heap.size wr w1 := by rw [hw'']; exact below_regrown wr dq osq
          have Xb1_1 : Box w1 w.heap.size #[.slice (some ⟨b, off, none⟩) ss.length sc, .slice ga gs.length gc, .slice pa ps.length pc] := Zb1.out.below hb1
          have hB1 : Below w.heap.size w w1 := stepB hBX hb1
          have hs1 := hB1.size
          clear hw'' hb1 hBX hsX rd1 kc48 Zb1
          go_wp2
          go_roundw
          case rel => exact ⟨1, by omega, by go_num, HN, Xb1_1, hB1⟩
          case measure => simp [intOf]; omega
        · obtain ⟨m, hkm⟩ : ∃ m, k = m + 1 := ⟨k - 1, by omega⟩
          have hpx : ss[m]? = some ss[m] := List.getElem?_eq_getElem (by omega)
          obtain ⟨u, hcp, hpu⟩ := hc m _ hpx
          obtain ⟨p, hz⟩ : ∃ z, ss[m] = z := ⟨_, rfl⟩
          rw [hz] at hpx hpu
          unfold IntE at hpu
          subst hpu
          have hL : lastOf 0 ss k = p := by subst hkm; unfold lastOf; simp [hpx]
          rw [hL] at HSP
          have q2 := fun dz os => ((below_regrown wr dz os).cell (p := ⟨b, off + m, none⟩) hz1).trans ((hBr.cell (p := ⟨b, off + m, none⟩) hb).trans hcp)
          have d0 : decide ((0 : Int) < (k : Int)) = true := decide_eq_true (by omega)
          have WM : IntKind.i64.wrap ((k : Int) - 1) = (m : Int) := (IntWalk.i64_in _ (by omega)).trans (by omega)
          have hml : m < ss.length := by omega
          clear hpx hz hkm
          cases hle : decide (x ≤ p)
          · have HN := Lib.hid (stepsFrom_snoc 0 ss k x HX.out hin.out (by rw [hL]; have := of_decide_eq_false hle; omega) (by have := inB_true hq; omega))
            have HIN : Hid (∀ W : World, Calls Try.prog 100 #[.int .i64 x, .int .i64 1, .int .i64 10000000] W fun e w' => e = .returned (.bool true) ∧ W = w') := by rw [← hq]; exact Lib.hid fun W => zin_any x 1 10000000 W
            clear hcp hL
            have cc1 := X1.2.1
            have ll1 := X1.1
            go_wp2
            have Yb1 : Box wr w.heap.size #[.slice (some ⟨b, off, none⟩) ss.length sc, .slice ga gs.length gc, .slice pa ps.length pc] := X1
            have hBX : Below w.heap.size w wr := by go_grown
            clear hBr hsr X1 cc1 ll1
            have hsX := hBX.size
            have rd1 := fun dz os => (Yb1.regrown dz os).2.1
            have kc48 := fun dz os => (below_of_same (HIN.out (Go.Sort.grow (redrawn wr dz) os))).regrown_of
            have Zb1 := Lib.hid Yb1
            clear Yb1
            refine wp_region_quiet_below (by kernel_rfl) (by kernel_rfl) ?_
            repeat ((with_reducible refine wpQuiet_step (fun K hK => ?_)); go_simp; first | ((with_reducible refine hK _ ?_); clear hK K) | (apply Exists.intro; refine ⟨fun _ => ?_, hK _ ?_⟩; (first | (go_at_call 100; with_reducible exact kc48 _ _)); clear hK K) | (refine ite_skip (fun h => ?_) (hK _ ?_); (have h2 : (none : Option Bool) = some true := h); cases h2; clear hK K))
            with_reducible refine wpQuiet_nil ?_
            intro w1 hw'
            obtain ⟨⟨dq, osq⟩, hw''⟩ := hw'
            have hb1 : Below wr.heap.size wr w1 := by rw [hw'']; exact below_regrown wr dq osq
            have Xb1_1 : Box w1 w.heap.size #[.slice (some ⟨b, off, none⟩) ss.length sc, .slice ga gs.length gc, .slice pa ps.length pc] := Zb1.out.below hb1
            have hB1 : Below w.heap.size w w1 := stepB hBX hb1
            have hs1 := hB1.size
            clear hw'' hb1 hBX hsX rd1 kc48 Zb1
            go_wp2
            go_roundw
            case rel => exact ⟨k + 1, by omega, by go_num, HN, Xb1_1, hB1⟩
            case measure => simp [intOf]; omega
          · have HLE := Lib.hid hle
            have HIN : Hid (∀ W : World, Calls Try.prog 100 #[.int .i64 x, .int .i64 1, .int .i64 10000000] W fun e w' => e = .returned (.bool true) ∧ W = w') := by rw [← hq]; exact Lib.hid fun W => zin_any x 1 10000000 W
            clear hcp hL
            have cc1 := X1.2.1
            have ll1 := X1.1
            go_wp2
            have Yb1 : Box wr w.heap.size #[.slice (some ⟨b, off, none⟩) ss.length sc, .slice ga gs.length gc, .slice pa ps.length pc] := X1
            have hBX : Below w.heap.size w wr := by go_grown
            clear hBr hsr X1 cc1 ll1
            have hsX := hBX.size
            have rd1 := fun dz os => (Yb1.regrown dz os).2.1
            have kc48 := fun dz os => (below_of_same (HIN.out (Go.Sort.grow (redrawn wr dz) os))).regrown_of
            have Zb1 := Lib.hid Yb1
            clear Yb1
            refine wp_region_quiet_below (by kernel_rfl) (by kernel_rfl) ?_
            repeat ((with_reducible refine wpQuiet_step (fun K hK => ?_)); go_simp; first | ((with_reducible refine hK _ ?_); clear hK K) | (apply Exists.intro; refine ⟨fun _ => ?_, hK _ ?_⟩; (first | (go_at_call 100; with_reducible exact kc48 _ _)); clear hK K) | (refine ite_skip (fun h => ?_) (hK _ ?_); (have h2 : (none : Option Bool) = some true := h); cases h2; clear hK K))
            with_reducible refine wpQuiet_nil ?_
            intro w1 hw'
            obtain ⟨⟨dq, osq⟩, hw''⟩ := hw'
            have hb1 : Below wr.heap.size wr w1 := by rw [hw'']; exact below_regrown wr dq osq
            have Xb1_1 : Box w1 w.heap.size #[.slice (some ⟨b, off, none⟩) ss.length sc, .slice ga gs.length gc, .slice pa ps.length pc] := Zb1.out.below hb1
            have hB1 : Below w.heap.size w w1 := stepB hBX hb1
            have hs1 := hB1.size
            clear hw'' hb1 hBX hsX rd1 kc48 Zb1
            go_wp2
            go_returns
            exact ⟨ret_int (show (2 : Int) = stepsR ss gs ps by unfold stepsR stepsB; rw [HSP.out, decide_eq_false (show ¬ p < x by have := of_decide_eq_true HLE.out; omega)]; rfl), hB1⟩
    · have hk' : k = ss.length := by omega
      have HSF : Hid (stepsFrom 0 ss = true) := by have := hin.out; rw [hk', List.take_of_length_le (Nat.le_refl _)] at this; exact Lib.hid this
      have HK := Lib.hid hk'
      have dk : decide ((k : Int) < ss.length) = false := decide_eq_false (by omega)
      clear hk'
      by_cases h0 : 0 < ss.length
      · have e0 : ((ss.length : Int) == 0) = false := by rw [beq_eq_false_iff_ne]; omega
        have H0 : Hid (stepsB ss = true) := Lib.hid (by unfold stepsB; rw [HSF.out, decide_eq_true h0]; rfl)
        clear h0
        cases h3 : (decide (0 < gs.length) && gs.all (allB 0 100000))
        · have H3 := Lib.hid h3
          have HR3 := HG3.out.1 h3
          clear h3
          have cc1 := X1.2.1
          have ll1 := X1.1
          go_wp2_with fail
          refine (HR3.out _ (by go_grown)).mono ?_
          rintro e w9 ⟨rfl, rfl⟩
          go_wp2
          go_returns
          exact ⟨ret_int (show (2 : Int) = stepsR ss gs ps by unfold stepsR rowsB; rw [H0.out, H3.out]; rfl), hBr⟩
        · have H3 := Lib.hid h3
          have HR3 := HG3.out.2 h3
          clear h3
          cases h4 : (decide (0 < ps.length) && ps.all (allB (-100000) 100000))
          · have H4 := Lib.hid h4
            have HR4 := HG4.out.1 h4
            clear h4
            have cc1 := X1.2.1
            have ll1 := X1.1
            go_wp2_with fail
            refine (HR3.out _ (by go_grown)).mono ?_
            rintro e w9 ⟨rfl, rfl⟩
            go_wp2_with fail
            refine (HR4.out _ (by go_grown)).mono ?_
            rintro e w9 ⟨rfl, rfl⟩
            go_wp2
            go_returns
            exact ⟨ret_int (show (2 : Int) = stepsR ss gs ps by unfold stepsR rowsB; rw [H0.out, H3.out, H4.out]; rfl), hBr⟩
          · have H4 := Lib.hid h4
            have HR4 := HG4.out.2 h4
            clear h4
            have cc1 := X1.2.1
            have ll1 := X1.1
            go_wp2_with fail
            refine (HR3.out _ (by go_grown)).mono ?_
            rintro e w9 ⟨rfl, rfl⟩
            go_wp2_with fail
            refine (HR4.out _ (by go_grown)).mono ?_
            rintro e w9 ⟨rfl, rfl⟩
            go_wp2
            go_returns
            exact ⟨ret_int (show (0 : Int) = stepsR ss gs ps by unfold stepsR rowsB; rw [H0.out, H3.out, H4.out]; rfl), hBr⟩
      · have e0 : ((ss.length : Int) == 0) = true := by rw [beq_iff_eq]; omega
        have H0 : Hid (stepsB ss = false) := Lib.hid (by unfold stepsB; rw [decide_eq_false h0, Bool.and_false])
        clear h0
        have cc1 := X1.2.1
        have ll1 := X1.1
        go_wp2
        go_returns
        exact ⟨ret_int (show (2 : Int) = stepsR ss gs ps by unfold stepsR; rw [H0.out]; rfl), hBr⟩

theorem rcheck_any (w : World) (ss : List Int) (gs ps : List (List Int)) (sa ga pa : Option Addr) (sc gc pc : Nat) (m1 : ss.length ≤ 4611686018427387904) (m2 : gs.length ≤ 4611686018427387904) (m3 : ps.length ≤ 4611686018427387904) (hs : SlA IntE w sa ss) (hg : SlA IntsAt w ga gs) (hp : SlA IntsAt w pa ps) :
    Calls Try.prog 34 #[.agg #[.slice sa ss.length sc, .slice ga gs.length gc, .slice pa ps.length pc]] w fun e w' => e = .returned (.int .i64 (checkN ss gs ps)) ∧ Below w.heap.size w w' := by
  have a1 := fun (W : World) (h : Below w.heap.size w W) => rows_form gs ss.length 0 ga gc W m2 (hg.below ints_stable h)
  have a2 := fun (W : World) (h : Below w.heap.size w W) => rows_form ps ss.length 0 pa pc W m3 (hp.below ints_stable h)
  have a3 := fun (W : World) (h : Below w.heap.size w W) => rows_num gs 0 0 ga gc W m2 (hg.below ints_stable h)
  have a4 := fun (W : World) (h : Below w.heap.size w W) => rows_num ps 0 (-100000) pa pc W m3 (hp.below ints_stable h)
  have ef : ∀ ls : List (List Int), ls.all (fun r => decide ((r.length : Int) = ss.length)) = ls.all (lenB ss) := fun ls => by
    congr 1
    funext r
    unfold lenB
    rw [Bool.eq_iff_iff]
    simp only [decide_eq_true_eq]
    omega
  unfold rowsF at a1 a2
  rw [ef] at a1 a2
  unfold checkN
  by_cases g1 : (20 : Int) < ss.length
  · rw [if_pos (by unfold longB; simp; omega)]
    exact rck_l1 w ss gs ps sa ga pa sc gc pc m1 m2 m3 (decide_eq_true g1)
  by_cases g2 : (12 : Int) < gs.length
  · rw [if_pos (by unfold longB; simp; omega)]
    exact rck_l2 w ss gs ps sa ga pa sc gc pc m1 m2 m3 (decide_eq_false g1) (decide_eq_true g2)
  by_cases g3 : (12 : Int) < ps.length
  · rw [if_pos (by unfold longB; simp; omega)]
    exact rck_l3 w ss gs ps sa ga pa sc gc pc m1 m2 m3 (decide_eq_false g1) (decide_eq_false g2) (decide_eq_true g3)
  rw [if_neg (by unfold longB; simp; omega)]
  unfold fullB
  cases h1 : gs.all (lenB ss)
  · rw [if_neg (by rw [h1]; simp)] at a1
    rw [if_pos (by rfl)]
    exact rck_f1 w ss gs ps sa ga pa sc gc pc m1 m2 m3 (decide_eq_false g1) (decide_eq_false g2) (decide_eq_false g3) (Lib.hid a1)
  rw [if_pos h1] at a1
  cases h2 : ps.all (lenB ss)
  · rw [if_neg (by rw [h2]; simp)] at a2
    rw [if_pos (by rfl)]
    exact rck_f2 w ss gs ps sa ga pa sc gc pc m1 m2 m3 (decide_eq_false g1) (decide_eq_false g2) (decide_eq_false g3) (Lib.hid a1) (Lib.hid a2)
  rw [if_pos h2] at a2
  rw [if_neg (by simp)]
  unfold rowsN at a3 a4
  exact rck_way w ss gs ps sa ga pa sc gc pc m1 m2 m3 hs (decide_eq_false g1) (decide_eq_false g2) (decide_eq_false g3) (Lib.hid a1) (Lib.hid a2)
    (Lib.hid ⟨fun h => Lib.hid (by rw [if_neg (by rw [h]; simp)] at a3; exact a3), fun h => Lib.hid (by rw [if_pos h] at a3; exact a3)⟩)
    (Lib.hid ⟨fun h => Lib.hid (by rw [if_neg (by rw [h]; simp)] at a4; exact a4), fun h => Lib.hid (by rw [if_pos h] at a4; exact a4)⟩)

end Go.Proofs.Ytpmeahmjmpgbfaa
