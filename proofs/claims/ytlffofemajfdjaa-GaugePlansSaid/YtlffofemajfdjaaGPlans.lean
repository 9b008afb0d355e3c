/- GaugePlans holds, for all inputs: by the evaluator at symbols. Made by tools/cxlaw.py. -/
import Derived.Test.YtlffofemajfdjaaGPlanT
import Derived.Test.YtlffofemajfdjaaCxKn04
import Derived.Test.YtlffofemajfdjaaCxOpen
set_option linter.unusedVariables false
set_option linter.unusedSimpArgs false
namespace Go.Proofs.Ytlffofemajfdjaa
open Go.ChangeShapes Go.WideShapes Go.ChangeAt Go.RowKit
open Cx (Env IE BE DT KnownB)

set_option maxRecDepth 100000 in
theorem gplans_open1 {H : Type} {enc : TypeId × Value → H} {w : World} {base : Nat} {spare : Nat → Bool} {held : Bool} {r : Reach} {b0 : Nat} {v : Value} {d : DataW H} {p : List MemPlace} (hval : Value.okWide Try.prog w r b0 23 v) (h : DataW.Trod enc Try.prog w base spare held 23 v d p) :
    ∃ (x0 : Int) (x1 : Int), v = .agg #[.int .i64 x0, .int .i64 x1] ∧ (Lit.int .i64 x0).wf = true ∧ (Lit.int .i64 x1).wf = true := by
  obtain ⟨cs, rfl, hsz⟩ := okWide_struct Try.underlying23 hval
  obtain ⟨l⟩ := cs
  obtain ⟨fuel, hf⟩ := h
  have hl : l.length = 2 := hsz.trans (by kernel_rfl)
  obtain ⟨n0, y0, t0⟩ := trodS Try.underlying23 hf 0 _ rfl (o := 0) (c := 1) (ty := 3) rfl rfl (by kernel_rfl)
  obtain ⟨x0, g0, w0⟩ := leafI Try.underlying3 t0
  obtain ⟨n1, y1, t1⟩ := trodS Try.underlying23 hf 1 _ rfl (o := 1) (c := 1) (ty := 3) rfl rfl (by kernel_rfl)
  obtain ⟨x1, g1, w1⟩ := leafI Try.underlying3 t1
  refine ⟨x0, x1, ?_, w0, w1⟩
  clear hval hsz hf t0 t1
  match l, hl with
  | [c0, c1], _ =>
    simp [Value.cells] at g0 g1
    subst g0 g1
    rfl

set_option maxRecDepth 100000 in
theorem gplans_open2 {H : Type} {enc : TypeId × Value → H} {w : World} {base : Nat} {spare : Nat → Bool} {held : Bool} {r : Reach} {b0 : Nat} {v : Value} {d : DataW H} {p : List MemPlace} (hval : Value.okWide Try.prog w r b0 66 v) (h : DataW.Trod enc Try.prog w base spare held 66 v d p) :
    ∃ (x0 : Int) (x1 : Int) (x2 : Int), v = .agg #[.int .i64 x0, .int .i64 x1, .int .i64 x2] ∧ (Lit.int .i64 x0).wf = true ∧ (Lit.int .i64 x1).wf = true ∧ (Lit.int .i64 x2).wf = true := by
  obtain ⟨cs, rfl, hsz⟩ := okWide_struct Try.underlying66 hval
  obtain ⟨l⟩ := cs
  obtain ⟨fuel, hf⟩ := h
  have hl : l.length = 3 := hsz.trans (by kernel_rfl)
  obtain ⟨n0, y0, t0⟩ := trodS Try.underlying66 hf 0 _ rfl (o := 0) (c := 1) (ty := 3) rfl rfl (by kernel_rfl)
  obtain ⟨x0, g0, w0⟩ := leafI Try.underlying3 t0
  obtain ⟨n1, y1, t1⟩ := trodS Try.underlying66 hf 1 _ rfl (o := 1) (c := 1) (ty := 3) rfl rfl (by kernel_rfl)
  obtain ⟨x1, g1, w1⟩ := leafI Try.underlying3 t1
  obtain ⟨n2, y2, t2⟩ := trodS Try.underlying66 hf 2 _ rfl (o := 2) (c := 1) (ty := 3) rfl rfl (by kernel_rfl)
  obtain ⟨x2, g2, w2⟩ := leafI Try.underlying3 t2
  refine ⟨x0, x1, x2, ?_, w0, w1, w2⟩
  clear hval hsz hf t0 t1 t2
  match l, hl with
  | [c0, c1, c2], _ =>
    simp [Value.cells] at g0 g1 g2
    subst g0 g1 g2
    rfl

noncomputable def gplans_C : Cx.Ctx := Cx.ctxOf Try.prog (Cx.memoB [16])

set_option maxRecDepth 100000 in
theorem gplans_ok : DT.ok (Cx.runOf gplans_C 1000 7 [.bool (.v 0), .agg [.int .i64 (.v 0), .int .i64 (.v 1)], .agg [.int .i64 (.v 2), .int .i64 (.v 3), .int .i64 (.v 4)]]) Cx.gpTree [] [] = true := by kernel_rfl

theorem gplans_walk (b0 : Bool) (x0 : Int) (x1 : Int) (x2 : Int) (x3 : Int) (x4 : Int) (w : World) (wx0 : (Lit.int .i64 x0).wf = true) (wx1 : (Lit.int .i64 x1).wf = true) (wx2 : (Lit.int .i64 x2).wf = true) (wx3 : (Lit.int .i64 x3).wf = true) (wx4 : (Lit.int .i64 x4).wf = true) :
    Calls Try.prog 7 #[.bool b0, .agg #[.int .i64 x0, .int .i64 x1], .agg #[.int .i64 x2, .int .i64 x3, .int .i64 x4]] w fun e w' => e = .returned (.bool true) ∧ Below w.heap.size w w' := by
  have hM : ∀ f ∈ [16], KnownB Try.prog f := fun f hf => by
    simp only [List.mem_cons, List.not_mem_nil, or_false] at hf
    subst hf
    · exact Cx.CxKn04_known
  exact Cx.law_of (ρ := (⟨fun i => ([x0, x1, x2, x3, x4] : List Int).getD i 0, fun i => ([b0] : List Bool).getD i false⟩ : Env)) (Cx.ctxOf_ok Cx.try_ok _) (Cx.memoB_ok hM) gplans_ok (DT.good_of _ _ (Cx.gp_good)) (.cons (.bool (.v 0)) (.cons (.agg (.cons (.int .i64 (.v 0)) (.cons (.int .i64 (.v 1)) .nil))) (.cons (.agg (.cons (.int .i64 (.v 2)) (.cons (.int .i64 (.v 3)) (.cons (.int .i64 (.v 4)) .nil)))) .nil))) w

theorem gplans_own : ownKnob Try.prog.godebug = none := by kernel_rfl
theorem gplans_laidOut : laidOutB Try.prog = true := by kernel_rfl

set_option maxRecDepth 100000 in
theorem gplans_lifted (os : Os) (started : os.Started) (H : Type) (enc : TypeId × Value → H) :
    ReturnsInHanded {} Try.checked os 7 .any (Rows.gaugePlansSpec.pre6 enc Try.prog Try.f7 Rows.gaugePlansRow.domain false) (Rows.gaugePlansSpec.post enc Try.prog Try.f7 false true false false) := by
  refine returnsInHanded_of_change (C := Try.checked) gplans_own started (by kernel_rfl) Try.func7
    (ChangeSpec.witness6 (enc := enc) (C := Try.checked) false ⟨#[], #[.bool false, .agg #[.int .i64 0, .int .i64 0], .agg #[.int .i64 0, .int .i64 0, .int .i64 0]], []⟩ 8 (by kernel_rfl) (by kernel_rfl) (by kernel_rfl) (by kernel_rfl)) ?_
  intro W base args ds gs before hval0 hW hcnd _
  have hval : ∀ (j : Nat) t v, Try.f7.params[j]? = some t → args[j]? = some v → Value.okWide Try.prog W .any base t v := hval0
  have hW' := hW
  obtain ⟨p, q, hA0, hV, rfl, hfz, hnd⟩ := hW
  have hA : DataW.TrodAll enc Try.prog W 0 (fun _ => true) true Try.f7.params.toList args.toList ds p := hA0
  rw [Try.params7] at hA hval
  obtain ⟨v0, vs0, d0, ds0, p0, q0, hargs, rfl, rfl, h0, r0⟩ := trodAll_cons hA
  obtain ⟨v1, vs1, d1, ds1, p1, q1, rfl, rfl, rfl, h1, r1⟩ := trodAll_cons r0
  obtain ⟨v2, vs2, d2, ds2, p2, q2, rfl, rfl, rfl, h2, r2⟩ := trodAll_cons r1
  obtain ⟨rfl, rfl, rfl⟩ := trodAll_nil r2
  obtain rfl : args = #[v0, v1, v2] := by cases args; simp_all
  obtain ⟨rfl, rfl⟩ := trodVars_none hV
  have k0 := h0
  have lt0 : ∀ x ∈ p0, x.block < W.heap.size := by obtain ⟨m, hm⟩ := k0; exact DataW.trod_lt m _ _ _ hm
  have k1 := h1
  have lt1 : ∀ x ∈ p1, x.block < W.heap.size := by obtain ⟨m, hm⟩ := k1; exact DataW.trod_lt m _ _ _ hm
  have k2 := h2
  have lt2 : ∀ x ∈ p2, x.block < W.heap.size := by obtain ⟨m, hm⟩ := k2; exact DataW.trod_lt m _ _ _ hm
  obtain ⟨b0, rfl, rfl, rfl⟩ := open_bool Try.underlying4 (hval 0 4 v0 rfl rfl) h0
  obtain ⟨x0, x1, rfl, wx0, wx1⟩ := gplans_open1 (hval 1 23 v1 rfl rfl) h1
  obtain ⟨x2, x3, x4, rfl, wx2, wx3, wx4⟩ := gplans_open2 (hval 2 66 v2 rfl rfl) h2
  clear hA0 hval0
  refine (gplans_walk b0 x0 x1 x2 x3 x4 W wx0 wx1 wx2 wx3 wx4).mono fun e W' ⟨he, bel⟩ => ?_
  subst he
  exact ⟨_, rfl, _, _, _, [], _, [], hW', trodAll_mk1 (shut_bool Try.underlying4 _), (trodAll_cons_mk (Below.trod gplans_laidOut (by kernel_rfl) (of_decide_eq_true (by kernel_rfl)) k0 bel lt0) (trodAll_cons_mk (Below.trod gplans_laidOut (by kernel_rfl) (of_decide_eq_true (by kernel_rfl)) k1 bel lt1) (trodAll_cons_mk (Below.trod gplans_laidOut (by kernel_rfl) (of_decide_eq_true (by kernel_rfl)) k2 bel lt2) trodAll_mk0))), rfl, bel.frame _, fun h => by cases h⟩

theorem gplans_over : Rows.gaugePlansRow.holds Try.pinned (OpenSpec.ofChange Rows.gaugePlansSpec) :=
  OpenClaim.holds_of_wide 7 Try.f7 rfl rfl rfl rfl rfl rfl rfl ⟨rfl, rfl, rfl, rfl, rfl⟩ rfl rfl rfl rfl rfl (by kernel_rfl) Try.func7 (by kernel_rfl)
    (of_decide_eq_true (by kernel_rfl)) (by unfold Func.isWrapper; rw [if_neg (of_decide_eq_false (by kernel_rfl))]; exact ⟨rfl, rfl⟩)
    (fun os started H enc _ => gplans_lifted os started H enc)

theorem gplans_proved : Rows.GaugePlansSaid := gplans_over
#print axioms gplans_proved

end Go.Proofs.Ytlffofemajfdjaa
