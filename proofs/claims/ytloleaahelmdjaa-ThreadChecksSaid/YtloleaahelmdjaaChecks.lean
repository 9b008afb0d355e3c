/- ThreadChecks: the statement. Made by tools/gen_checks.py. -/
import Derived.Test.YtloleaahelmdjaaChecks0
namespace Go.Proofs.Ytloleaahelmdjaa
open Go.ChangeShapes Go.WideShapes Go.ChangeAt Go.RowKit
set_option linter.unusedVariables false
set_option linter.unusedSimpArgs false

theorem checks_walk (p l r a b s t : Int) (h : Bool) (y : Int) (w : World) (wp : (Lit.int .i64 p).wf = true) (wl : (Lit.int .i64 l).wf = true) (wr : (Lit.int .i64 r).wf = true) (wa : (Lit.int .i64 a).wf = true) (wb : (Lit.int .i64 b).wf = true) (ws : (Lit.int .i64 s).wf = true) (wt : (Lit.int .i64 t).wf = true) (wy : (Lit.int .i64 y).wf = true) :
    Calls Try.prog 3 #[.agg #[.int .i64 p, .int .i64 l, .int .i64 r, .int .i64 a, .int .i64 b, .int .i64 s, .bool h, .int .i64 t], .int .i64 y] w fun e w' => e = .returned (.bool true) ∧ Below w.heap.size w w' := by
  have iy : -9223372036854775808 ≤ y ∧ y ≤ 9223372036854775807 := wf_bd wy
  obtain ⟨Y0, Y1⟩ := iy
  cases hok : okB ⟨p, l, r, a, b, s, h, t⟩
  · exact checks_bad p l r a b s t h y (Lib.hid (fun w => check_bad' p l r a b s t h w hok)) (Lib.hid (fun w => width_bad p l r a b s t h y w hok)) (Lib.hid (fun w => sharp_bad p l r a b s t h w hok)) (Lib.hid (fun w => refForm_bad p l r a b s t h w hok)) w
  · obtain ⟨⟨p0, p1⟩, ⟨l0, l1⟩, ⟨r0, r1⟩, ⟨a0, a1⟩, ⟨b0, b1⟩, ⟨s0, s1⟩, t0, t1⟩ := lim_iff.1 (ok_lim hok)
    simp only at p0 p1 l0 l1 r0 r1 a0 a1 b0 b1 s0 s1 t0 t1
    have HC := Lib.hid (fun w => check_good' p l r a b s t h w hok)
    have HF := Lib.hid (fun w => refForm_good p l r a b s t h w hok)
    cases hy : inB (-b) a y
    · have hy' : ¬(-b ≤ y ∧ y ≤ a) := of_decide_eq_false hy
      have HW := Lib.hid (fun w => width_range p l r a b s t h y w hok hy')
      by_cases hn : l + r = 0
      · exact checks_out0 p l r a b s t h y Y0 Y1 p0 p1 l0 l1 r0 r1 a0 a1 b0 b1 HC HF hy HW (by simpa using hn) (Lib.hid (fun w => sharp_none p l r a b s t h w hok hn)) w
      · obtain ⟨q2, e2, g2, v2, -⟩ := ratV_cut (500 * p) (l + r) (by omega)
        exact checks_out1 p l r a b s t h y Y0 Y1 p0 p1 l0 l1 r0 r1 a0 a1 b0 b1 HC HF hy HW q2 e2 (by simpa using hn) (Lib.hid (fun w => v2 ▸ sharp_good p l r a b s t h w hok hn)) (Lib.hid (fun w => v2 ▸ lowest_any (500 * p) (l + r) w (by omega) (by omega) (by omega) (by omega))) w
    · obtain ⟨y0, y1⟩ := inB_true hy
      have m1 := mul_bd (x := y) (y := l + r) (A := 200000) (B := 6000) (by omega) (by omega) (by omega) (by omega)
      obtain ⟨q1, e1, g1, v1, -⟩ := ratV_cut (500 * p - y * (l + r)) 1000 (by omega)
      have HW := Lib.hid (fun w => v1 ▸ width_good p l r a b s t h y w hok ⟨y0, y1⟩)
      have HV := Lib.hid (fun w => refWidth_any p l r a b s t h y w (by omega) (by omega) (by omega) (by omega))
      have v3 : ratV (1000 * p - 2 * y * (l + r)) 2000 = .agg #[.int .i64 q1, .int .i64 e1] := by
        rw [← v1, ← ratV_two _ 1000 (by omega)]
        have : 2 * y * (l + r) = 2 * (y * (l + r)) := Int.mul_assoc _ _ _
        rw [this, show 1000 * p - 2 * (y * (l + r)) = 2 * (500 * p - y * (l + r)) by omega]
        rfl
      have m2 : 2 * y * (l + r) = 2 * (y * (l + r)) := Int.mul_assoc _ _ _
      have HL := Lib.hid (fun w => v3 ▸ lowest_any (1000 * p - 2 * y * (l + r)) 2000 w (by omega) (by omega) (by omega) (by omega))
      by_cases hn : l + r = 0
      · exact checks_in0 p l r a b s t h y Y0 Y1 p0 p1 l0 l1 r0 r1 a0 a1 b0 b1 HC HF q1 e1 _ hy HW HV HL (by simpa using hn) (Lib.hid (fun w => sharp_none p l r a b s t h w hok hn)) w
      · obtain ⟨q2, e2, g2, v2, -⟩ := ratV_cut (500 * p) (l + r) (by omega)
        exact checks_in1 p l r a b s t h y Y0 Y1 p0 p1 l0 l1 r0 r1 a0 a1 b0 b1 HC HF q1 e1 _ hy HW HV HL q2 e2 (by simpa using hn) (Lib.hid (fun w => v2 ▸ sharp_good p l r a b s t h w hok hn)) (Lib.hid (fun w => v2 ▸ lowest_any (500 * p) (l + r) w (by omega) (by omega) (by omega) (by omega))) w

theorem checks_own : ownKnob Try.prog.godebug = none := by kernel_rfl
theorem checks_laidOut : laidOutB Try.prog = true := by kernel_rfl

set_option maxRecDepth 100000 in
theorem checks_lifted (os : Os) (started : os.Started) (H : Type) (enc : TypeId × Value → H) :
    ReturnsInHanded {} Try.checked os 3 .any (Rows.threadChecksSpec.pre6 enc Try.prog Try.f3 Rows.threadChecksRow.domain false) (Rows.threadChecksSpec.post enc Try.prog Try.f3 false true false false) := by
  refine returnsInHanded_of_change (C := Try.checked) checks_own started (by kernel_rfl) Try.func3
    (ChangeSpec.witness6 (enc := enc) (C := Try.checked) false ⟨#[], #[.agg #[.int .i64 0, .int .i64 0, .int .i64 0, .int .i64 0, .int .i64 0, .int .i64 0, .bool false, .int .i64 0], .int .i64 0], []⟩ 8 (by kernel_rfl) (by kernel_rfl) (by kernel_rfl) (by kernel_rfl)) ?_
  intro W base args ds gs before hval0 hW hcnd _
  have hval : ∀ (j : Nat) t v, Try.f3.params[j]? = some t → args[j]? = some v → Value.okWide Try.prog W .any base t v := hval0
  have hW' := hW
  obtain ⟨p, q, hA0, hV, rfl, hfz, hnd⟩ := hW
  have hA : DataW.TrodAll enc Try.prog W 0 (fun _ => true) true Try.f3.params.toList args.toList ds p := hA0
  rw [Try.params3] at hA hval
  obtain ⟨v0, vs0, d0, ds0, p0, q0, hargs, rfl, rfl, h0, r0⟩ := trodAll_cons hA
  obtain ⟨v1, vs1, d1, ds1, p1, q1, rfl, rfl, rfl, h1, r1⟩ := trodAll_cons r0
  obtain ⟨rfl, rfl, rfl⟩ := trodAll_nil r1
  obtain rfl : args = #[v0, v1] := by cases args; simp_all
  obtain ⟨rfl, rfl⟩ := trodVars_none hV
  have k0 := h0
  have lt0 : ∀ x ∈ p0, x.block < W.heap.size := by obtain ⟨m, hm⟩ := k0; exact DataW.trod_lt m _ _ _ hm
  have k1 := h1
  have lt1 : ∀ x ∈ p1, x.block < W.heap.size := by obtain ⟨m, hm⟩ := k1; exact DataW.trod_lt m _ _ _ hm
  obtain ⟨p, l, r, a, b, s, h, t, rfl, wp, wl, wr, wa, wb, ws, wt⟩ := open_form (hval 0 23 v0 rfl rfl) h0
  obtain ⟨y, rfl, rfl, rfl, wy⟩ := open_int Try.underlying3 (hval 1 3 v1 rfl rfl) h1
  clear hA0 hval0
  refine (checks_walk p l r a b s t h y W wp wl wr wa wb ws wt wy).mono fun e W' ⟨he, bel⟩ => ?_
  subst he
  exact ⟨_, rfl, _, _, _, [], _, [], hW', trodAll_mk1 (shut_bool Try.underlying4 _), (trodAll_cons_mk (Below.trod checks_laidOut (by kernel_rfl) (of_decide_eq_true (by kernel_rfl)) k0 bel lt0) (trodAll_cons_mk (Below.trod checks_laidOut (by kernel_rfl) (of_decide_eq_true (by kernel_rfl)) k1 bel lt1) trodAll_mk0)), rfl, bel.frame _, fun h => by cases h⟩

theorem checks_over : Rows.threadChecksRow.holds Try.pinned (OpenSpec.ofChange Rows.threadChecksSpec) :=
  OpenClaim.holds_of_wide 3 Try.f3 rfl rfl rfl rfl rfl rfl rfl ⟨rfl, rfl, rfl, rfl, rfl⟩ rfl rfl rfl rfl rfl (by kernel_rfl) Try.func3 (by kernel_rfl)
    (of_decide_eq_true (by kernel_rfl)) (by unfold Func.isWrapper; rw [if_neg (of_decide_eq_false (by kernel_rfl))]; exact ⟨rfl, rfl⟩)
    (fun os started H enc _ => checks_lifted os started H enc)

theorem checks_proved : Rows.ThreadChecksSaid := checks_over
#print axioms checks_proved
end Go.Proofs.Ytloleaahelmdjaa
