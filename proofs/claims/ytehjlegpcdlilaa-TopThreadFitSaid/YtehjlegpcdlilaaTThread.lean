/- TopThreadFit holds, for all inputs: by the evaluator at symbols. Made by tools/cxlaw.py. -/
import Derived.Test.YtehjlegpcdlilaaTThreadTG
import Derived.Test.YtehjlegpcdlilaaTThreadK
import Derived.Test.YtehjlegpcdlilaaCxKnAT
import Derived.Test.YtehjlegpcdlilaaCxKnAF
import Derived.Test.YtehjlegpcdlilaaCxOpen
import Derived.Test.YtehjlegpcdlilaaCxRat
set_option linter.unusedVariables false
set_option linter.unusedSimpArgs false
namespace Go.Proofs.Ytehjlegpcdlilaa
open Go.ChangeShapes Go.WideShapes Go.ChangeAt Go.RowKit
open Cx (Env IE BE DT KnownB)

set_option maxRecDepth 100000 in
theorem tthread_open0 {H : Type} {enc : TypeId × Value → H} {w : World} {base : Nat} {spare : Nat → Bool} {held : Bool} {r : Reach} {b0 : Nat} {v : Value} {d : DataW H} {p : List MemPlace} (hval : Value.okWide Try.prog w r b0 26 v) (h : DataW.Trod enc Try.prog w base spare held 26 v d p) :
    ∃ (x0 : Int) (x1 : Int) (x2 : Int) (x3 : Int) (x4 : Int), v = .agg #[.int .u16 x0, .int .u16 x1, .int .u16 x2, .int .i8 x3, .int .i8 x4] ∧ (Lit.int .u16 x0).wf = true ∧ (Lit.int .u16 x1).wf = true ∧ (Lit.int .u16 x2).wf = true ∧ (Lit.int .i8 x3).wf = true ∧ (Lit.int .i8 x4).wf = true := by
  obtain ⟨cs, rfl, hsz⟩ := okWide_struct Try.underlying26 hval
  obtain ⟨l⟩ := cs
  obtain ⟨fuel, hf⟩ := h
  have hl : l.length = 5 := hsz.trans (by kernel_rfl)
  obtain ⟨nA3, yA3, tA3⟩ := trodS Try.underlying26 hf 3 _ rfl (o := 3) (c := 2) (ty := 24) rfl rfl (by kernel_rfl)
  obtain ⟨n0, y0, t0⟩ := trodS Try.underlying26 hf 0 _ rfl (o := 0) (c := 1) (ty := 22) rfl rfl (by kernel_rfl)
  obtain ⟨x0, g0, w0⟩ := leafI Try.underlying22 t0
  obtain ⟨n1, y1, t1⟩ := trodS Try.underlying26 hf 1 _ rfl (o := 1) (c := 1) (ty := 22) rfl rfl (by kernel_rfl)
  obtain ⟨x1, g1, w1⟩ := leafI Try.underlying22 t1
  obtain ⟨n2, y2, t2⟩ := trodS Try.underlying26 hf 2 _ rfl (o := 2) (c := 1) (ty := 22) rfl rfl (by kernel_rfl)
  obtain ⟨x2, g2, w2⟩ := leafI Try.underlying22 t2
  obtain ⟨n3, y3, t3⟩ := trodE Try.underlying24 tA3 0 (by decide) (o := 0) (c := 1) (by kernel_rfl) rfl
  rw [sub_of (s := 3) rfl (by decide)] at t3
  obtain ⟨x3, g3, w3⟩ := leafI Try.underlying23 t3
  obtain ⟨n4, y4, t4⟩ := trodE Try.underlying24 tA3 1 (by decide) (o := 1) (c := 1) (by kernel_rfl) rfl
  rw [sub_of (s := 4) rfl (by decide)] at t4
  obtain ⟨x4, g4, w4⟩ := leafI Try.underlying23 t4
  refine ⟨x0, x1, x2, x3, x4, ?_, w0, w1, w2, w3, w4⟩
  clear hval hsz hf t0 t1 t2 t3 t4
  match l, hl with
  | [c0, c1, c2, c3, c4], _ =>
    simp [Value.cells] at g0 g1 g2 g3 g4
    subst g0 g1 g2 g3 g4
    rfl

set_option maxRecDepth 100000 in
theorem tthread_open1 {H : Type} {enc : TypeId × Value → H} {w : World} {base : Nat} {spare : Nat → Bool} {held : Bool} {r : Reach} {b0 : Nat} {v : Value} {d : DataW H} {p : List MemPlace} (hval : Value.okWide Try.prog w r b0 27 v) (h : DataW.Trod enc Try.prog w base spare held 27 v d p) :
    ∃ (x0 : Int) (x1 : Int), v = .agg #[.int .u16 x0, .int .u16 x1] ∧ (Lit.int .u16 x0).wf = true ∧ (Lit.int .u16 x1).wf = true := by
  obtain ⟨cs, rfl, hsz⟩ := okWide_arr Try.underlying27 hval
  obtain ⟨l⟩ := cs
  obtain ⟨fuel, hf⟩ := h
  have hl : l.length = 2 := hsz.trans (by kernel_rfl)
  obtain ⟨n0, y0, t0⟩ := trodE Try.underlying27 hf 0 (by decide) (o := 0) (c := 1) (by kernel_rfl) rfl
  obtain ⟨x0, g0, w0⟩ := leafI Try.underlying22 t0
  obtain ⟨n1, y1, t1⟩ := trodE Try.underlying27 hf 1 (by decide) (o := 1) (c := 1) (by kernel_rfl) rfl
  obtain ⟨x1, g1, w1⟩ := leafI Try.underlying22 t1
  refine ⟨x0, x1, ?_, w0, w1⟩
  clear hval hsz hf t0 t1
  match l, hl with
  | [c0, c1], _ =>
    simp [Value.cells] at g0 g1
    subst g0 g1
    rfl



theorem tthread_walk (x0 : Int) (x1 : Int) (x2 : Int) (x3 : Int) (x4 : Int) (x5 : Int) (x6 : Int) (x7 : Int) (w : World) (wx0 : (Lit.int .u16 x0).wf = true) (wx1 : (Lit.int .u16 x1).wf = true) (wx2 : (Lit.int .u16 x2).wf = true) (wx3 : (Lit.int .i8 x3).wf = true) (wx4 : (Lit.int .i8 x4).wf = true) (wx5 : (Lit.int .u16 x5).wf = true) (wx6 : (Lit.int .u16 x6).wf = true) (wx7 : (Lit.int .u8 x7).wf = true) :
    Calls Try.prog 3 #[.agg #[.int .u16 x0, .int .u16 x1, .int .u16 x2, .int .i8 x3, .int .i8 x4], .agg #[.int .u16 x5, .int .u16 x6], .int .u8 x7] w fun e w' => e = .returned (.bool true) ∧ Below w.heap.size w w' := by
  have hM : ∀ f ∈ [10, 11], KnownB Try.prog f := fun f hf => by
    simp only [List.mem_cons, List.not_mem_nil, or_false] at hf
    rcases hf with rfl | rfl
    · exact Cx.CxKnAT_known
    · exact Cx.CxKnAF_known
  exact Cx.law_of (ρ := (⟨fun i => ([x0, x1, x2, x3, x4, x5, x6, x7] : List Int).getD i 0, fun i => ([] : List Bool).getD i false⟩ : Env)) (Cx.ctxOf_ok Cx.try_ok _) (Cx.memoR_ok Cx.ratio_known (Cx.memo2_ok Cx.hand_known (Cx.memoB_ok hM))) Cx.tthread_ok (DT.good_of _ _ (Cx.tt_goal ⟨rfl⟩ (rng_u16 wx0) ⟨rfl⟩ (rng_u16 wx1) ⟨rfl⟩ (rng_u16 wx2) ⟨rfl⟩ (rng_i8 wx3) ⟨rfl⟩ (rng_i8 wx4) ⟨rfl⟩ (rng_u16 wx5) ⟨rfl⟩ (rng_u16 wx6) ⟨rfl⟩ (rng_u8 wx7))) (.cons (.agg (.cons (.int .u16 (.v 0)) (.cons (.int .u16 (.v 1)) (.cons (.int .u16 (.v 2)) (.cons (.int .i8 (.v 3)) (.cons (.int .i8 (.v 4)) .nil)))))) (.cons (.agg (.cons (.int .u16 (.v 5)) (.cons (.int .u16 (.v 6)) .nil))) (.cons (.int .u8 (.v 7)) .nil))) w

theorem tthread_own : ownKnob Try.prog.godebug = none := by kernel_rfl
theorem tthread_laidOut : laidOutB Try.prog = true := by kernel_rfl

set_option maxRecDepth 100000 in
theorem tthread_lifted (os : Os) (started : os.Started) (H : Type) (enc : TypeId × Value → H) :
    ReturnsInHanded {} Try.checked os 3 .any (Rows.topThreadFitSpec.pre6 enc Try.prog Try.f3 Rows.topThreadFitRow.domain false) (Rows.topThreadFitSpec.post enc Try.prog Try.f3 false true false false) := by
  refine returnsInHanded_of_change (C := Try.checked) tthread_own started (by kernel_rfl) Try.func3
    (ChangeSpec.witness6 (enc := enc) (C := Try.checked) false ⟨#[], #[.agg #[.int .u16 0, .int .u16 0, .int .u16 0, .int .i8 0, .int .i8 0], .agg #[.int .u16 0, .int .u16 0], .int .u8 0], []⟩ 8 (by kernel_rfl) (by kernel_rfl) (by kernel_rfl) (by kernel_rfl)) ?_
  intro W base args ds gs before hval0 hW hcnd _
  have hval : ∀ (j : Nat) t v, Try.f3.params[j]? = some t → args[j]? = some v → Value.okWide Try.prog W .any base t v := hval0
  have hW' := hW
  obtain ⟨p, q, hA0, hV, rfl, hfz, hnd⟩ := hW
  have hA : DataW.TrodAll enc Try.prog W 0 (fun _ => true) true Try.f3.params.toList args.toList ds p := hA0
  rw [Try.params3] at hA hval
  obtain ⟨v0, vs0, d0, ds0, p0, q0, hargs, rfl, rfl, h0, r0⟩ := trodAll_cons hA
  obtain ⟨v1, vs1, d1, ds1, p1, q1, rfl, rfl, rfl, h1, r1⟩ := trodAll_cons r0
  obtain ⟨v2, vs2, d2, ds2, p2, q2, rfl, rfl, rfl, h2, r2⟩ := trodAll_cons r1
  obtain ⟨rfl, rfl, rfl⟩ := trodAll_nil r2
  obtain rfl : args = #[v0, v1, v2] := by cases args; simp_all
  obtain ⟨rfl, rfl⟩ := trodVars_none hV
  have k0 := h0
  have lt0 : ∀ x ∈ p0, x.block < W.heap.size := by obtain ⟨m, hm⟩ := k0; exact DataW.trod_lt m _ _ _ hm
  have k1 := h1
  have lt1 : ∀ x ∈ p1, x.block < W.heap.size := by obtain ⟨m, hm⟩ := k1; exact DataW.trod_lt m _ _ _ hm
  have k2 := h2
  have lt2 : ∀ x ∈ p2, x.block < W.heap.size := by obtain ⟨m, hm⟩ := k2; exact DataW.trod_lt m _ _ _ hm
  obtain ⟨x0, x1, x2, x3, x4, rfl, wx0, wx1, wx2, wx3, wx4⟩ := tthread_open0 (hval 0 26 v0 rfl rfl) h0
  obtain ⟨x5, x6, rfl, wx5, wx6⟩ := tthread_open1 (hval 1 27 v1 rfl rfl) h1
  obtain ⟨x7, rfl, rfl, rfl, wx7⟩ := open_int Try.underlying5 (hval 2 5 v2 rfl rfl) h2
  clear hA0 hval0
  refine (tthread_walk x0 x1 x2 x3 x4 x5 x6 x7 W wx0 wx1 wx2 wx3 wx4 wx5 wx6 wx7).mono fun e W' ⟨he, bel⟩ => ?_
  subst he
  exact ⟨_, rfl, _, _, _, [], _, [], hW', trodAll_mk1 (shut_bool Try.underlying4 _), (trodAll_cons_mk (Below.trod tthread_laidOut (by kernel_rfl) (of_decide_eq_true (by kernel_rfl)) k0 bel lt0) (trodAll_cons_mk (Below.trod tthread_laidOut (by kernel_rfl) (of_decide_eq_true (by kernel_rfl)) k1 bel lt1) (trodAll_cons_mk (Below.trod tthread_laidOut (by kernel_rfl) (of_decide_eq_true (by kernel_rfl)) k2 bel lt2) trodAll_mk0))), rfl, bel.frame _, fun h => by cases h⟩

theorem tthread_over : Rows.topThreadFitRow.holds Try.pinned (OpenSpec.ofChange Rows.topThreadFitSpec) :=
  OpenClaim.holds_of_wide 3 Try.f3 rfl rfl rfl rfl rfl rfl rfl ⟨rfl, rfl, rfl, rfl, rfl⟩ rfl rfl rfl rfl rfl (by kernel_rfl) Try.func3 (by kernel_rfl)
    (of_decide_eq_true (by kernel_rfl)) (by unfold Func.isWrapper; rw [if_neg (of_decide_eq_false (by kernel_rfl))]; exact ⟨rfl, rfl⟩)
    (fun os started H enc _ => tthread_lifted os started H enc)

theorem tthread_proved : Rows.TopThreadFitSaid := tthread_over
#print axioms tthread_proved

end Go.Proofs.Ytehjlegpcdlilaa
