/- ZoneCoats holds: the limits before any plating, and what can be after it, or the errors, are what the document says, for all spans, coats and both kinds; no condition besides the statement's own. Made by tools/gen_zcoats.py. -/
import Derived.Test.YtpmeahmjmpgbfaaZCoats0
import Derived.Test.YtpmeahmjmpgbfaaOpenZ
namespace Go.Proofs.Ytpmeahmjmpgbfaa
open Go.ChangeShapes Go.WideShapes Go.ChangeAt Go.RowKit
set_option linter.unusedVariables false
set_option linter.unusedSimpArgs false

theorem plat_coat (s0 s1 t0 t1 n d : Int) : platB s0 s1 t0 t1 n d = (vspan s0 s1 (-20000000) 20000000 && coatB t0 t1 n d) := by
  unfold platB coatB
  simp [allB, Bool.and_assoc]
theorem upTo_le {n d x : Int} (hd : 1 ≤ d) : upTo n d ≤ x ↔ n ≤ x * d := by
  unfold upTo
  rw [← Int.lt_add_one_iff, Int.ediv_lt_iff_lt_mul (by omega), Int.add_mul]
  omega
theorem le_div {n d x : Int} (hd : 1 ≤ d) : x ≤ n / d ↔ x * d ≤ n := Int.le_ediv_iff_mul_le (by omega)
theorem upTo_add {k n d : Int} (hd : 1 ≤ d) : upTo (k * d + n) d = k + upTo n d := by
  unfold upTo
  rw [show k * d + n + d - 1 = n + d - 1 + k * d by omega, Int.add_mul_ediv_right _ _ (by omega)]
  omega
theorem div_add {k n d : Int} (hd : 1 ≤ d) : (k * d + n) / d = k + n / d := by
  rw [Int.add_comm, Int.add_mul_ediv_right _ _ (by omega)]
  omega
theorem right_iff {x s0 s1 t0 t1 n d : Int} {nut : Bool} (ht : t0 ≤ t1) (hn : 1 ≤ n) (hd : 1 ≤ d) :
    rightB x s0 s1 nut t0 t1 n d = decide (befLo nut s0 t0 t1 n d ≤ x ∧ x ≤ befHi nut s1 t0 t1 n d) := by
  have hP : t0 * n ≤ t1 * n := Int.mul_le_mul_of_nonneg_right ht (by omega)
  unfold rightB befLo befHi chLo chHi grw inB
  rw [Bool.eq_iff_iff]
  simp only [Bool.and_eq_true, decide_eq_true_eq]
  cases nut
  · rw [if_neg (by decide), if_neg (by decide), if_neg (by decide), if_neg (by decide)]
    have h1 : s0 - t0 * n / d ≤ x ↔ (s0 - x) * d ≤ t0 * n := by rw [← le_div hd]; omega
    have h2 : x ≤ s1 - upTo (t1 * n) d ↔ t1 * n ≤ (s1 - x) * d := by rw [← upTo_le hd]; omega
    rw [h1, h2, Int.sub_mul, Int.sub_mul]
    omega
  · rw [if_pos rfl, if_pos rfl, if_pos rfl, if_pos rfl]
    have h1 : s0 - -upTo (t1 * n) d ≤ x ↔ t1 * n ≤ (x - s0) * d := by rw [← upTo_le hd]; omega
    have h2 : x ≤ s1 - -(t0 * n / d) ↔ (x - s1) * d ≤ t0 * n := by rw [← le_div hd]; omega
    rw [h1, h2, Int.sub_mul, Int.sub_mul]
    omega
set_option maxRecDepth 100000 in
set_option maxHeartbeats 4000000 in
theorem coats_walk (s0 s1 t0 t1 n d : Int) (nut : Bool) (w : World) (ws0 : (Lit.int .i64 s0).wf = true) (ws1 : (Lit.int .i64 s1).wf = true) (wt0 : (Lit.int .i64 t0).wf = true) (wt1 : (Lit.int .i64 t1).wf = true) (wn : (Lit.int .i64 n).wf = true) (wd : (Lit.int .i64 d).wf = true) :
    Calls Try.prog 6 #[.agg #[.int .i64 s0, .int .i64 s1], .agg #[.int .i64 t0, .int .i64 t1, .int .i64 n, .int .i64 d], .bool nut] w fun e w' => e = .returned (.bool true) ∧ Below w.heap.size w w' := by
  have HB := fun w => before_any nut s0 s1 t0 t1 n d w
  have HA := fun w => after_any nut s0 s1 t0 t1 n d w
  have HS := fun w => zspan_any s0 s1 (-20000000) 20000000 w
  have HC := fun w => zcoat_any t0 t1 n d w
  have hpc := plat_coat s0 s1 t0 t1 n d
  have bad : platB s0 s1 t0 t1 n d = false → befV nut s0 s1 t0 t1 n d = .tuple #[.agg #[.int .i64 0, .int .i64 0], .int .i64 2] ∧ aftV nut s0 s1 t0 t1 n d = .tuple #[.agg #[.int .i64 0, .int .i64 0], .int .i64 2] := fun hp => ⟨by unfold befV; rw [hp]; rfl, by unfold aftV; rw [hp]; rfl⟩
  cases h1 : vspan s0 s1 (-20000000) 20000000
  · rw [h1] at HS hpc
    obtain ⟨e1, e2⟩ := bad (by rw [hpc]; rfl)
    rw [e1] at HB
    rw [e2] at HA
    exact coats_bad1 s0 s1 t0 t1 n d nut (Lib.hid HB) (Lib.hid HA) (Lib.hid HS) w
  cases h2 : coatB t0 t1 n d
  · rw [h1] at HS
    rw [h2] at HC
    obtain ⟨e1, e2⟩ := bad (by rw [hpc, h1, h2]; rfl)
    rw [e1] at HB
    rw [e2] at HA
    exact coats_bad2 s0 s1 t0 t1 n d nut (Lib.hid HB) (Lib.hid HA) (Lib.hid HS) (Lib.hid HC) w
  have hp : platB s0 s1 t0 t1 n d = true := by rw [hpc, h1, h2]; rfl
  rw [h1] at HS
  rw [h2] at HC
  clear h1 h2 hpc bad
  obtain ⟨⟨a1, a2, a3⟩, ⟨c1, c2, c3⟩, ⟨n1, n2⟩, d1, d2⟩ := (plat_iff s0 s1 t0 t1 n d).1 hp
  cases nut
  · obtain ⟨b1, b2, b3, b4⟩ := grw_bd (nut := false) (x := s0) (th := t0) (n := n) (d := d) (by omega) (by omega) (by omega) (by omega)
    obtain ⟨b5, b6, b7, b8⟩ := grw_bd (nut := false) (x := s1) (th := t1) (n := n) (d := d) (by omega) (by omega) (by omega) (by omega)
    have bp0 := prod_bd (t := t0) (n := n) (by omega) (by omega)
    have bp1 := prod_bd (t := t1) (n := n) (by omega) (by omega)
    have bq0 := div_bd (x := t0 * n) (d := d) (m := 10000000) (by omega) (by omega)
    have bq1 := upTo_bd (n := t1 * n) (d := d) (m := 10000000) (by omega) (by omega)
    have cb : -10000000 ≤ chLo false t0 t1 n d ∧ chLo false t0 t1 n d ≤ 10000000 ∧ -10000000 ≤ chHi false t0 t1 n d ∧ chHi false t0 t1 n d ≤ 10000000 := by unfold chLo chHi; simp only [if_neg (show ¬ (false = true) by decide)]; omega
    have bl : befLo false s0 t0 t1 n d = s0 - chLo false t0 t1 n d := rfl
    have bh : befHi false s1 t0 t1 n d = s1 - chHi false t0 t1 n d := rfl
    have hdn := fun w => below_of_same (zdown_any (grw false s0 t0 n d) d w (by omega) (by omega))
    have hup := fun w => below_of_same (zup_any (grw false s1 t1 n d) d w (by omega) (by omega))
    rw [show grw false s0 t0 n d / d = s0 + chLo false t0 t1 n d from (by unfold grw chLo; rw [if_neg (by decide), if_neg (by decide), div_add (by omega)])] at hdn
    rw [show upTo (grw false s1 t1 n d) d = s1 + chHi false t0 t1 n d from (by unfold grw chHi; rw [if_neg (by decide), if_neg (by decide), upTo_add (by omega)])] at hup
    have e2 : aftV false s0 s1 t0 t1 n d = .tuple #[spanV (s0 + chLo false t0 t1 n d) (s1 + chHi false t0 t1 n d), .int .i64 0] := by unfold aftV; rw [hp]; rfl
    rw [e2] at HA
    by_cases he : befHi false s1 t0 t1 n d < befLo false s0 t0 t1 n d
    · have e1 : befV false s0 s1 t0 t1 n d = .tuple #[.agg #[.int .i64 0, .int .i64 0], .int .i64 9] := by unfold befV; rw [hp, if_pos rfl, if_pos he]
      rw [e1] at HB
      have hx : s0 - t0 * n / d = befLo false s0 t0 t1 n d := by unfold befLo chLo; simp only [if_neg (show ¬ (false = true) by decide)]
      have r4 : rightB (s0 - t0 * n / d) s0 s1 false t0 t1 n d = false := by rw [right_iff (by omega) (by omega) (by omega)]; exact decide_eq_false (by omega)
      have hr4 := fun w => right_any (s0 - t0 * n / d) s0 s1 false t0 t1 n d w (by omega) (by omega) (by omega) (by omega) (by omega) (by omega) (by omega)
      rw [r4] at hr4
      exact coats_no0 s0 s1 t0 t1 n d 0 0 (s0 + chLo false t0 t1 n d) (s1 + chHi false t0 t1 n d) _ _ 0 0 _ 0 (Lib.hid HB) (Lib.hid HA) (Lib.hid HS) (Lib.hid HC) (Lib.hid fun w => grown_any false s0 t0 t0 t1 n d w (by omega) (by omega) (by omega) (by omega)) (Lib.hid fun w => grown_any false s1 t1 t0 t1 n d w (by omega) (by omega) (by omega) (by omega)) (Lib.hid hdn) (Lib.hid hup) (Lib.hid fun w => below_of_same (zdown_any (t0 * n) d w (by omega) (by omega))) (Lib.hid hr4) (IntWalk.i64_in _ (by omega)) (IntWalk.i64_in _ (by omega)) w
    · have e1 : befV false s0 s1 t0 t1 n d = .tuple #[spanV (befLo false s0 t0 t1 n d) (befHi false s1 t0 t1 n d), .int .i64 0] := by unfold befV; rw [hp, if_pos rfl, if_neg he]
      rw [e1] at HB
      have r0 : rightB (befLo false s0 t0 t1 n d) s0 s1 false t0 t1 n d = true := by rw [right_iff (by omega) (by omega) (by omega)]; exact decide_eq_true (by omega)
      have hr0 := fun w => right_any (befLo false s0 t0 t1 n d) s0 s1 false t0 t1 n d w (by omega) (by omega) (by omega) (by omega) (by omega) (by omega) (by omega)
      rw [r0] at hr0
      have r1 : rightB (befHi false s1 t0 t1 n d) s0 s1 false t0 t1 n d = true := by rw [right_iff (by omega) (by omega) (by omega)]; exact decide_eq_true (by omega)
      have hr1 := fun w => right_any (befHi false s1 t0 t1 n d) s0 s1 false t0 t1 n d w (by omega) (by omega) (by omega) (by omega) (by omega) (by omega) (by omega)
      rw [r1] at hr1
      have r2 : rightB (befLo false s0 t0 t1 n d - 1) s0 s1 false t0 t1 n d = false := by rw [right_iff (by omega) (by omega) (by omega)]; exact decide_eq_false (by omega)
      have hr2 := fun w => right_any (befLo false s0 t0 t1 n d - 1) s0 s1 false t0 t1 n d w (by omega) (by omega) (by omega) (by omega) (by omega) (by omega) (by omega)
      rw [r2] at hr2
      have r3 : rightB (befHi false s1 t0 t1 n d + 1) s0 s1 false t0 t1 n d = false := by rw [right_iff (by omega) (by omega) (by omega)]; exact decide_eq_false (by omega)
      have hr3 := fun w => right_any (befHi false s1 t0 t1 n d + 1) s0 s1 false t0 t1 n d w (by omega) (by omega) (by omega) (by omega) (by omega) (by omega) (by omega)
      rw [r3] at hr3
      exact coats_ok0 s0 s1 t0 t1 n d (befLo false s0 t0 t1 n d) (befHi false s1 t0 t1 n d) (s0 + chLo false t0 t1 n d) (s1 + chHi false t0 t1 n d) _ _ 0 0 (Lib.hid HB) (Lib.hid HA) (Lib.hid HS) (Lib.hid HC) (Lib.hid fun w => grown_any false s0 t0 t0 t1 n d w (by omega) (by omega) (by omega) (by omega)) (Lib.hid fun w => grown_any false s1 t1 t0 t1 n d w (by omega) (by omega) (by omega) (by omega)) (Lib.hid hdn) (Lib.hid hup) (Lib.hid hr0) (Lib.hid hr1) (Lib.hid hr2) (Lib.hid hr3) (by omega) (IntWalk.i64_in _ (by omega)) (IntWalk.i64_in _ (by omega)) w
  · obtain ⟨b1, b2, b3, b4⟩ := grw_bd (nut := true) (x := s0) (th := t1) (n := n) (d := d) (by omega) (by omega) (by omega) (by omega)
    obtain ⟨b5, b6, b7, b8⟩ := grw_bd (nut := true) (x := s1) (th := t0) (n := n) (d := d) (by omega) (by omega) (by omega) (by omega)
    have bp0 := prod_bd (t := t0) (n := n) (by omega) (by omega)
    have bp1 := prod_bd (t := t1) (n := n) (by omega) (by omega)
    have bq0 := div_bd (x := t0 * n) (d := d) (m := 10000000) (by omega) (by omega)
    have bq1 := upTo_bd (n := t1 * n) (d := d) (m := 10000000) (by omega) (by omega)
    have cb : -10000000 ≤ chLo true t0 t1 n d ∧ chLo true t0 t1 n d ≤ 10000000 ∧ -10000000 ≤ chHi true t0 t1 n d ∧ chHi true t0 t1 n d ≤ 10000000 := by unfold chLo chHi; simp only [if_pos]; omega
    have bl : befLo true s0 t0 t1 n d = s0 - chLo true t0 t1 n d := rfl
    have bh : befHi true s1 t0 t1 n d = s1 - chHi true t0 t1 n d := rfl
    have hdn := fun w => below_of_same (zdown_any (grw true s0 t1 n d) d w (by omega) (by omega))
    have hup := fun w => below_of_same (zup_any (grw true s1 t0 n d) d w (by omega) (by omega))
    rw [show grw true s0 t1 n d / d = s0 + chLo true t0 t1 n d from (by unfold grw chLo; rw [if_pos rfl, if_pos rfl, Int.sub_eq_add_neg, div_add (by omega), ← down_eq (by omega), Int.neg_neg])] at hdn
    rw [show upTo (grw true s1 t0 n d) d = s1 + chHi true t0 t1 n d from (by unfold grw chHi; rw [if_pos rfl, if_pos rfl, Int.sub_eq_add_neg, upTo_add (by omega), ← down_eq (by omega), Int.neg_neg])] at hup
    have e2 : aftV true s0 s1 t0 t1 n d = .tuple #[spanV (s0 + chLo true t0 t1 n d) (s1 + chHi true t0 t1 n d), .int .i64 0] := by unfold aftV; rw [hp]; rfl
    rw [e2] at HA
    by_cases he : befHi true s1 t0 t1 n d < befLo true s0 t0 t1 n d
    · have e1 : befV true s0 s1 t0 t1 n d = .tuple #[.agg #[.int .i64 0, .int .i64 0], .int .i64 9] := by unfold befV; rw [hp, if_pos rfl, if_pos he]
      rw [e1] at HB
      have hx : s0 + upTo (t1 * n) d = befLo true s0 t0 t1 n d := by unfold befLo chLo; simp only [if_pos]; omega
      have r4 : rightB (s0 + upTo (t1 * n) d) s0 s1 true t0 t1 n d = false := by rw [right_iff (by omega) (by omega) (by omega)]; exact decide_eq_false (by omega)
      have hr4 := fun w => right_any (s0 + upTo (t1 * n) d) s0 s1 true t0 t1 n d w (by omega) (by omega) (by omega) (by omega) (by omega) (by omega) (by omega)
      rw [r4] at hr4
      exact coats_no1 s0 s1 t0 t1 n d 0 0 (s0 + chLo true t0 t1 n d) (s1 + chHi true t0 t1 n d) _ _ _ _ _ _ (Lib.hid HB) (Lib.hid HA) (Lib.hid HS) (Lib.hid HC) (Lib.hid fun w => grown_any true s0 t0 t0 t1 n d w (by omega) (by omega) (by omega) (by omega)) (Lib.hid fun w => grown_any true s1 t1 t0 t1 n d w (by omega) (by omega) (by omega) (by omega)) (Lib.hid fun w => grown_any true s0 t1 t0 t1 n d w (by omega) (by omega) (by omega) (by omega)) (Lib.hid fun w => grown_any true s1 t0 t0 t1 n d w (by omega) (by omega) (by omega) (by omega)) (Lib.hid hdn) (Lib.hid hup) (Lib.hid fun w => below_of_same (zdown_any (t0 * n) d w (by omega) (by omega))) (Lib.hid hr4) (IntWalk.i64_in _ (by omega)) (IntWalk.i64_in _ (by omega)) (Lib.hid fun w => below_of_same (zup_any (t1 * n) d w (by omega) (by omega))) (IntWalk.i64_in _ (by omega)) (IntWalk.i64_in _ (by omega)) w
    · have e1 : befV true s0 s1 t0 t1 n d = .tuple #[spanV (befLo true s0 t0 t1 n d) (befHi true s1 t0 t1 n d), .int .i64 0] := by unfold befV; rw [hp, if_pos rfl, if_neg he]
      rw [e1] at HB
      have r0 : rightB (befLo true s0 t0 t1 n d) s0 s1 true t0 t1 n d = true := by rw [right_iff (by omega) (by omega) (by omega)]; exact decide_eq_true (by omega)
      have hr0 := fun w => right_any (befLo true s0 t0 t1 n d) s0 s1 true t0 t1 n d w (by omega) (by omega) (by omega) (by omega) (by omega) (by omega) (by omega)
      rw [r0] at hr0
      have r1 : rightB (befHi true s1 t0 t1 n d) s0 s1 true t0 t1 n d = true := by rw [right_iff (by omega) (by omega) (by omega)]; exact decide_eq_true (by omega)
      have hr1 := fun w => right_any (befHi true s1 t0 t1 n d) s0 s1 true t0 t1 n d w (by omega) (by omega) (by omega) (by omega) (by omega) (by omega) (by omega)
      rw [r1] at hr1
      have r2 : rightB (befLo true s0 t0 t1 n d - 1) s0 s1 true t0 t1 n d = false := by rw [right_iff (by omega) (by omega) (by omega)]; exact decide_eq_false (by omega)
      have hr2 := fun w => right_any (befLo true s0 t0 t1 n d - 1) s0 s1 true t0 t1 n d w (by omega) (by omega) (by omega) (by omega) (by omega) (by omega) (by omega)
      rw [r2] at hr2
      have r3 : rightB (befHi true s1 t0 t1 n d + 1) s0 s1 true t0 t1 n d = false := by rw [right_iff (by omega) (by omega) (by omega)]; exact decide_eq_false (by omega)
      have hr3 := fun w => right_any (befHi true s1 t0 t1 n d + 1) s0 s1 true t0 t1 n d w (by omega) (by omega) (by omega) (by omega) (by omega) (by omega) (by omega)
      rw [r3] at hr3
      exact coats_ok1 s0 s1 t0 t1 n d (befLo true s0 t0 t1 n d) (befHi true s1 t0 t1 n d) (s0 + chLo true t0 t1 n d) (s1 + chHi true t0 t1 n d) _ _ _ _ (Lib.hid HB) (Lib.hid HA) (Lib.hid HS) (Lib.hid HC) (Lib.hid fun w => grown_any true s0 t0 t0 t1 n d w (by omega) (by omega) (by omega) (by omega)) (Lib.hid fun w => grown_any true s1 t1 t0 t1 n d w (by omega) (by omega) (by omega) (by omega)) (Lib.hid fun w => grown_any true s0 t1 t0 t1 n d w (by omega) (by omega) (by omega) (by omega)) (Lib.hid fun w => grown_any true s1 t0 t0 t1 n d w (by omega) (by omega) (by omega) (by omega)) (Lib.hid hdn) (Lib.hid hup) (Lib.hid hr0) (Lib.hid hr1) (Lib.hid hr2) (Lib.hid hr3) (by omega) (IntWalk.i64_in _ (by omega)) (IntWalk.i64_in _ (by omega)) w

theorem coats_own : ownKnob Try.prog.godebug = none := by kernel_rfl
theorem coats_laidOut : laidOutB Try.prog = true := by kernel_rfl

set_option maxRecDepth 100000 in
theorem coats_lifted (os : Os) (started : os.Started) (H : Type) (enc : TypeId × Value → H) :
    ReturnsInHanded {} Try.checked os 6 .any (Rows.zoneCoatsSpec.pre6 enc Try.prog Try.f6 Rows.zoneCoatsRow.domain false) (Rows.zoneCoatsSpec.post enc Try.prog Try.f6 false true false false) := by
  refine returnsInHanded_of_change (C := Try.checked) coats_own started (by kernel_rfl) Try.func6
    (ChangeSpec.witness6 (enc := enc) (C := Try.checked) false ⟨#[], #[.agg #[.int .i64 0, .int .i64 0], .agg #[.int .i64 0, .int .i64 0, .int .i64 0, .int .i64 0], .bool false], []⟩ 8 (by kernel_rfl) (by kernel_rfl) (by kernel_rfl) (by kernel_rfl)) ?_
  intro W base args ds gs before hval0 hW hcnd _
  have hval : ∀ (j : Nat) t v, Try.f6.params[j]? = some t → args[j]? = some v → Value.okWide Try.prog W .any base t v := hval0
  have hW' := hW
  obtain ⟨p, q, hA0, hV, rfl, hfz, hnd⟩ := hW
  have hA : DataW.TrodAll enc Try.prog W 0 (fun _ => true) true Try.f6.params.toList args.toList ds p := hA0
  rw [Try.params6] at hA hval
  obtain ⟨v0, vs0, d0, ds0, p0, q0, hargs, rfl, rfl, h0, r0⟩ := trodAll_cons hA
  obtain ⟨v1, vs1, d1, ds1, p1, q1, rfl, rfl, rfl, h1, r1⟩ := trodAll_cons r0
  obtain ⟨v2, vs2, d2, ds2, p2, q2, rfl, rfl, rfl, h2, r2⟩ := trodAll_cons r1
  obtain ⟨rfl, rfl, rfl⟩ := trodAll_nil r2
  obtain rfl : args = #[v0, v1, v2] := by cases args; simp_all
  obtain ⟨rfl, rfl⟩ := trodVars_none hV
  have k0 := h0
  have lt0 : ∀ x ∈ p0, x.block < W.heap.size := by obtain ⟨m, hm⟩ := k0; exact DataW.trod_lt m _ _ _ hm
  have k1 := h1
  have lt1 : ∀ x ∈ p1, x.block < W.heap.size := by obtain ⟨m, hm⟩ := k1; exact DataW.trod_lt m _ _ _ hm
  have k2 := h2
  have lt2 : ∀ x ∈ p2, x.block < W.heap.size := by obtain ⟨m, hm⟩ := k2; exact DataW.trod_lt m _ _ _ hm
  obtain ⟨s0, s1, rfl, ws0, ws1⟩ := open_span (hval 0 24 v0 rfl rfl) h0
  obtain ⟨t0, t1, n, d, rfl, wt0, wt1, wn, wd⟩ := open_coat (hval 1 78 v1 rfl rfl) h1
  obtain ⟨nut, rfl, rfl, rfl⟩ := open_bool Try.underlying4 (hval 2 4 v2 rfl rfl) h2
  clear hA0 hval0
  refine (coats_walk s0 s1 t0 t1 n d nut W ws0 ws1 wt0 wt1 wn wd).mono fun e W' ⟨he, bel⟩ => ?_
  subst he
  exact ⟨_, rfl, _, _, _, [], _, [], hW', trodAll_mk1 (shut_bool Try.underlying4 _), (trodAll_cons_mk (Below.trod coats_laidOut (by kernel_rfl) (of_decide_eq_true (by kernel_rfl)) k0 bel lt0) (trodAll_cons_mk (Below.trod coats_laidOut (by kernel_rfl) (of_decide_eq_true (by kernel_rfl)) k1 bel lt1) (trodAll_cons_mk (Below.trod coats_laidOut (by kernel_rfl) (of_decide_eq_true (by kernel_rfl)) k2 bel lt2) trodAll_mk0))), rfl, bel.frame _, fun h => by cases h⟩

theorem coats_over : Rows.zoneCoatsRow.holds Try.pinned (OpenSpec.ofChange Rows.zoneCoatsSpec) :=
  OpenClaim.holds_of_wide 6 Try.f6 rfl rfl rfl rfl rfl rfl rfl ⟨rfl, rfl, rfl, rfl, rfl⟩ rfl rfl rfl rfl rfl (by kernel_rfl) Try.func6 (by kernel_rfl)
    (of_decide_eq_true (by kernel_rfl)) (by unfold Func.isWrapper; rw [if_neg (of_decide_eq_false (by kernel_rfl))]; exact ⟨rfl, rfl⟩)
    (fun os started H enc _ => coats_lifted os started H enc)

theorem coats_proved : Rows.ZoneCoatsSaid := coats_over
#print axioms coats_proved
end Go.Proofs.Ytpmeahmjmpgbfaa
