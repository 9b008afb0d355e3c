/- ThreadAreas: the statement. Made by tools/gen_checks.py. -/
import Derived.Test.YtloleaahelmdjaaAreas0
namespace Go.Proofs.Ytloleaahelmdjaa
open Go.ChangeShapes Go.WideShapes Go.ChangeAt Go.RowKit
set_option linter.unusedVariables false
set_option linter.unusedSimpArgs false

theorem areas_walk (p l r a b s t : Int) (h : Bool) (y z : Int) (w : World) (wp : (Lit.int .i64 p).wf = true) (wl : (Lit.int .i64 l).wf = true) (wr : (Lit.int .i64 r).wf = true) (wa : (Lit.int .i64 a).wf = true) (wb : (Lit.int .i64 b).wf = true) (ws : (Lit.int .i64 s).wf = true) (wt : (Lit.int .i64 t).wf = true) (wy : (Lit.int .i64 y).wf = true) (wz : (Lit.int .i64 z).wf = true) :
    Calls Try.prog 4 #[.agg #[.int .i64 p, .int .i64 l, .int .i64 r, .int .i64 a, .int .i64 b, .int .i64 s, .bool h, .int .i64 t], .int .i64 y, .int .i64 z] w fun e w' => e = .returned (.bool true) ∧ Below w.heap.size w w' := by
  cases hok : okB ⟨p, l, r, a, b, s, h, t⟩
  · exact areas_bad p l r a b s t h y z (Lib.hid (fun w => area_bad p l r a b s t h y z w hok)) (Lib.hid (fun w => refForm_bad p l r a b s t h w hok)) w
  · obtain ⟨⟨p0, p1⟩, ⟨l0, l1⟩, ⟨r0, r1⟩, ⟨a0, a1⟩, ⟨b0, b1⟩, ⟨s0, s1⟩, t0, t1⟩ := lim_iff.1 (ok_lim hok)
    simp only at p0 p1 l0 l1 r0 r1 a0 a1 b0 b1 s0 s1 t0 t1
    have HF := Lib.hid (fun w => refForm_good p l r a b s t h w hok)
    cases hy : inB (-b) a y
    · have hv : vspan y z (-b) a = false := by have := of_decide_eq_false hy; unfold vspan; exact decide_eq_false (by omega)
      exact areas_r1 p l r a b s t h y z p0 p1 l0 l1 r0 r1 a0 a1 b0 b1 (Lib.hid (fun w => area_range p l r a b s t h y z w hok hv)) HF hy w
    obtain ⟨y0, y1⟩ := inB_true hy
    cases hz : inB (-b) a z
    · have hv : vspan y z (-b) a = false := by have := of_decide_eq_false hz; unfold vspan; exact decide_eq_false (by omega)
      exact areas_r2 p l r a b s t h y z p0 p1 l0 l1 r0 r1 a0 a1 b0 b1 (Lib.hid (fun w => area_range p l r a b s t h y z w hok hv)) HF hy hz w
    obtain ⟨z0, z1⟩ := inB_true hz
    by_cases hyz : z < y
    · have hv : vspan y z (-b) a = false := by unfold vspan; exact decide_eq_false (by omega)
      exact areas_r3 p l r a b s t h y z p0 p1 l0 l1 r0 r1 a0 a1 b0 b1 (Lib.hid (fun w => area_range p l r a b s t h y z w hok hv)) HF hy hz hyz w
    · have hv : vspan y z (-b) a = true := by unfold vspan; exact decide_eq_true (by omega)
      obtain ⟨q1, e1, g1, v1, -⟩ := ratV_cut ((z - y) * p * 1000 - (z * z - y * y) * (l + r)) 2000 (by omega)
      have eN : 1000 * (z - y) * p - (z * z - y * y) * (l + r) = (z - y) * p * 1000 - (z * z - y * y) * (l + r) := by
        have : 1000 * (z - y) * p = (z - y) * p * 1000 := by rw [Int.mul_assoc, Int.mul_comm]
        omega
      have m1 := mul_bd (x := z - y) (y := p) (A := 400000) (B := 200000) (by omega) (by omega) (by omega) (by omega)
      have m2 := mul_bd (x := z) (y := z) (A := 200000) (B := 200000) (by omega) (by omega) (by omega) (by omega)
      have m3 := mul_bd (x := y) (y := y) (A := 200000) (B := 200000) (by omega) (by omega) (by omega) (by omega)
      have m4 := mul_bd (x := z * z - y * y) (y := l + r) (A := 80000000000) (B := 6000) (by omega) (by omega) (by omega) (by omega)
      have e1' : 1000 * (z - y) * p = 1000 * ((z - y) * p) := Int.mul_assoc _ _ _
      have HL := fun w => lowest_any (1000 * (z - y) * p - (z * z - y * y) * (l + r)) 2000 w (by omega) (by omega) (by omega) (by omega)
      rw [eN, v1] at HL
      rw [← eN] at HL
      exact areas_good p l r a b s t h y z p0 p1 l0 l1 r0 r1 a0 a1 b0 b1 q1 e1 hy hz (by omega) (IntWalk.i64_in _ (by omega)) (IntWalk.i64_in _ (by omega)) (IntWalk.i64_in _ (by omega)) (IntWalk.i64_in _ (by omega)) (IntWalk.i64_in _ (by omega)) (IntWalk.i64_in _ (by omega)) (IntWalk.i64_in _ (by omega)) (IntWalk.i64_in _ (by omega)) (IntWalk.i64_in _ (by omega)) (Lib.hid (fun w => v1 ▸ area_good p l r a b s t h y z w hok hv)) HF (Lib.hid HL) w

theorem areas_own : ownKnob Try.prog.godebug = none := by kernel_rfl
theorem areas_laidOut : laidOutB Try.prog = true := by kernel_rfl

set_option maxRecDepth 100000 in
theorem areas_lifted (os : Os) (started : os.Started) (H : Type) (enc : TypeId × Value → H) :
    ReturnsInHanded {} Try.checked os 4 .any (Rows.threadAreasSpec.pre6 enc Try.prog Try.f4 Rows.threadAreasRow.domain false) (Rows.threadAreasSpec.post enc Try.prog Try.f4 false true false false) := by
  refine returnsInHanded_of_change (C := Try.checked) areas_own started (by kernel_rfl) Try.func4
    (ChangeSpec.witness6 (enc := enc) (C := Try.checked) false ⟨#[], #[.agg #[.int .i64 0, .int .i64 0, .int .i64 0, .int .i64 0, .int .i64 0, .int .i64 0, .bool false, .int .i64 0], .int .i64 0, .int .i64 0], []⟩ 8 (by kernel_rfl) (by kernel_rfl) (by kernel_rfl) (by kernel_rfl)) ?_
  intro W base args ds gs before hval0 hW hcnd _
  have hval : ∀ (j : Nat) t v, Try.f4.params[j]? = some t → args[j]? = some v → Value.okWide Try.prog W .any base t v := hval0
  have hW' := hW
  obtain ⟨p, q, hA0, hV, rfl, hfz, hnd⟩ := hW
  have hA : DataW.TrodAll enc Try.prog W 0 (fun _ => true) true Try.f4.params.toList args.toList ds p := hA0
  rw [Try.params4] at hA hval
  obtain ⟨v0, vs0, d0, ds0, p0, q0, hargs, rfl, rfl, h0, r0⟩ := trodAll_cons hA
  obtain ⟨v1, vs1, d1, ds1, p1, q1, rfl, rfl, rfl, h1, r1⟩ := trodAll_cons r0
  obtain ⟨v2, vs2, d2, ds2, p2, q2, rfl, rfl, rfl, h2, r2⟩ := trodAll_cons r1
  obtain ⟨rfl, rfl, rfl⟩ := trodAll_nil r2
  obtain rfl : args = #[v0, v1, v2] := by cases args; simp_all
  obtain ⟨rfl, rfl⟩ := trodVars_none hV
  have k0 := h0
  have lt0 : ∀ x ∈ p0, x.block < W.heap.size := by obtain ⟨m, hm⟩ := k0; exact DataW.trod_lt m _ _ _ hm
  have k1 := h1
  have lt1 : ∀ x ∈ p1, x.block < W.heap.size := by obtain ⟨m, hm⟩ := k1; exact DataW.trod_lt m _ _ _ hm
  have k2 := h2
  have lt2 : ∀ x ∈ p2, x.block < W.heap.size := by obtain ⟨m, hm⟩ := k2; exact DataW.trod_lt m _ _ _ hm
  obtain ⟨p, l, r, a, b, s, h, t, rfl, wp, wl, wr, wa, wb, ws, wt⟩ := open_form (hval 0 23 v0 rfl rfl) h0
  obtain ⟨y, rfl, rfl, rfl, wy⟩ := open_int Try.underlying3 (hval 1 3 v1 rfl rfl) h1
  obtain ⟨z, rfl, rfl, rfl, wz⟩ := open_int Try.underlying3 (hval 2 3 v2 rfl rfl) h2
  clear hA0 hval0
  refine (areas_walk p l r a b s t h y z W wp wl wr wa wb ws wt wy wz).mono fun e W' ⟨he, bel⟩ => ?_
  subst he
  exact ⟨_, rfl, _, _, _, [], _, [], hW', trodAll_mk1 (shut_bool Try.underlying4 _), (trodAll_cons_mk (Below.trod areas_laidOut (by kernel_rfl) (of_decide_eq_true (by kernel_rfl)) k0 bel lt0) (trodAll_cons_mk (Below.trod areas_laidOut (by kernel_rfl) (of_decide_eq_true (by kernel_rfl)) k1 bel lt1) (trodAll_cons_mk (Below.trod areas_laidOut (by kernel_rfl) (of_decide_eq_true (by kernel_rfl)) k2 bel lt2) trodAll_mk0))), rfl, bel.frame _, fun h => by cases h⟩

theorem areas_over : Rows.threadAreasRow.holds Try.pinned (OpenSpec.ofChange Rows.threadAreasSpec) :=
  OpenClaim.holds_of_wide 4 Try.f4 rfl rfl rfl rfl rfl rfl rfl ⟨rfl, rfl, rfl, rfl, rfl⟩ rfl rfl rfl rfl rfl (by kernel_rfl) Try.func4 (by kernel_rfl)
    (of_decide_eq_true (by kernel_rfl)) (by unfold Func.isWrapper; rw [if_neg (of_decide_eq_false (by kernel_rfl))]; exact ⟨rfl, rfl⟩)
    (fun os started H enc _ => areas_lifted os started H enc)

theorem areas_proved : Rows.ThreadAreasSaid := areas_over
#print axioms areas_proved
end Go.Proofs.Ytloleaahelmdjaa
