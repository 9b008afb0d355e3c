/- TopBoltThread holds, for all inputs: by the evaluator at symbols. Made by tools/cxlaw.py. -/
import Derived.Test.YtknphpihipkdpaaBThreadTG
import Derived.Test.YtknphpihipkdpaaCxKnAT
import Derived.Test.YtknphpihipkdpaaCxKnAB
import Derived.Test.YtknphpihipkdpaaCxOpen
import Derived.Test.YtknphpihipkdpaaCxRat
import Derived.Test.YtknphpihipkdpaaCxUp
set_option linter.unusedVariables false
set_option linter.unusedSimpArgs false
namespace Go.Proofs.Ytknphpihipkdpaa
open Go.ChangeShapes Go.WideShapes Go.ChangeAt Go.RowKit
open Cx (Env IE BE DT KnownB)

set_option maxRecDepth 100000 in
theorem bthread_open0 {H : Type} {enc : TypeId × Value → H} {w : World} {base : Nat} {spare : Nat → Bool} {held : Bool} {r : Reach} {b0 : Nat} {vv : Value} {d : DataW H} {p : List MemPlace} (hval : Value.okWide Try.prog w r b0 96 vv) (h : DataW.Trod enc Try.prog w base spare held 96 vv d p) :
    ∃ (x0 : Int) (x1 : Int) (x2 : Int) (x3 : Int) (x4 : Int) (x5 : Int) (x6 : Int) (x7 : Int) (x8 : Int), vv = .agg #[.int .u8 x0, .int .u8 x1, .int .u8 x2, .int .u8 x3, .int .u8 x4, .int .u8 x5, .int .u8 x6, .int .u8 x7, .int .u8 x8] ∧ (Lit.int .u8 x0).wf = true ∧ (Lit.int .u8 x1).wf = true ∧ (Lit.int .u8 x2).wf = true ∧ (Lit.int .u8 x3).wf = true ∧ (Lit.int .u8 x4).wf = true ∧ (Lit.int .u8 x5).wf = true ∧ (Lit.int .u8 x6).wf = true ∧ (Lit.int .u8 x7).wf = true ∧ (Lit.int .u8 x8).wf = true := by
  obtain ⟨cs, rfl, hsz⟩ := okWide_struct Try.underlying96 hval
  obtain ⟨l⟩ := cs
  obtain ⟨fuel, hf⟩ := h
  have hl : l.length = 9 := hsz.trans (by kernel_rfl)
  obtain ⟨nA0, yA0, tA0⟩ := trodS Try.underlying96 hf 0 _ rfl (o := 0) (c := 3) (ty := 62) rfl rfl (by kernel_rfl)
  obtain ⟨nA1, yA1, tA1⟩ := trodS Try.underlying96 hf 1 _ rfl (o := 3) (c := 4) (ty := 63) rfl rfl (by kernel_rfl)
  obtain ⟨nA2, yA2, tA2⟩ := trodS Try.underlying96 hf 2 _ rfl (o := 7) (c := 2) (ty := 70) rfl rfl (by kernel_rfl)
  obtain ⟨n0, y0, t0⟩ := trodE Try.underlying62 tA0 0 (by decide) (o := 0) (c := 1) (by kernel_rfl) rfl
  rw [sub_of (s := 0) rfl (by decide)] at t0
  obtain ⟨x0, g0, w0⟩ := leafI Try.underlying5 t0
  obtain ⟨n1, y1, t1⟩ := trodE Try.underlying62 tA0 1 (by decide) (o := 1) (c := 1) (by kernel_rfl) rfl
  rw [sub_of (s := 1) rfl (by decide)] at t1
  obtain ⟨x1, g1, w1⟩ := leafI Try.underlying5 t1
  obtain ⟨n2, y2, t2⟩ := trodE Try.underlying62 tA0 2 (by decide) (o := 2) (c := 1) (by kernel_rfl) rfl
  rw [sub_of (s := 2) rfl (by decide)] at t2
  obtain ⟨x2, g2, w2⟩ := leafI Try.underlying5 t2
  obtain ⟨n3, y3, t3⟩ := trodE Try.underlying63 tA1 0 (by decide) (o := 0) (c := 1) (by kernel_rfl) rfl
  rw [sub_of (s := 3) rfl (by decide)] at t3
  obtain ⟨x3, g3, w3⟩ := leafI Try.underlying5 t3
  obtain ⟨n4, y4, t4⟩ := trodE Try.underlying63 tA1 1 (by decide) (o := 1) (c := 1) (by kernel_rfl) rfl
  rw [sub_of (s := 4) rfl (by decide)] at t4
  obtain ⟨x4, g4, w4⟩ := leafI Try.underlying5 t4
  obtain ⟨n5, y5, t5⟩ := trodE Try.underlying63 tA1 2 (by decide) (o := 2) (c := 1) (by kernel_rfl) rfl
  rw [sub_of (s := 5) rfl (by decide)] at t5
  obtain ⟨x5, g5, w5⟩ := leafI Try.underlying5 t5
  obtain ⟨n6, y6, t6⟩ := trodE Try.underlying63 tA1 3 (by decide) (o := 3) (c := 1) (by kernel_rfl) rfl
  rw [sub_of (s := 6) rfl (by decide)] at t6
  obtain ⟨x6, g6, w6⟩ := leafI Try.underlying5 t6
  obtain ⟨n7, y7, t7⟩ := trodE Try.underlying70 tA2 0 (by decide) (o := 0) (c := 1) (by kernel_rfl) rfl
  rw [sub_of (s := 7) rfl (by decide)] at t7
  obtain ⟨x7, g7, w7⟩ := leafI Try.underlying5 t7
  obtain ⟨n8, y8, t8⟩ := trodE Try.underlying70 tA2 1 (by decide) (o := 1) (c := 1) (by kernel_rfl) rfl
  rw [sub_of (s := 8) rfl (by decide)] at t8
  obtain ⟨x8, g8, w8⟩ := leafI Try.underlying5 t8
  refine ⟨x0, x1, x2, x3, x4, x5, x6, x7, x8, ?_, w0, w1, w2, w3, w4, w5, w6, w7, w8⟩
  clear hval hsz hf t0 t1 t2 t3 t4 t5 t6 t7 t8
  match l, hl with
  | [k0, k1, k2, k3, k4, k5, k6, k7, k8], _ =>
    simp [Value.cells] at g0 g1 g2 g3 g4 g5 g6 g7 g8
    subst g0 g1 g2 g3 g4 g5 g6 g7 g8
    rfl

set_option maxRecDepth 100000 in
theorem bthread_open1 {H : Type} {enc : TypeId × Value → H} {w : World} {base : Nat} {spare : Nat → Bool} {held : Bool} {r : Reach} {b0 : Nat} {vv : Value} {d : DataW H} {p : List MemPlace} (hval : Value.okWide Try.prog w r b0 100 vv) (h : DataW.Trod enc Try.prog w base spare held 100 vv d p) :
    ∃ (x0 : Int) (x1 : Int) (x2 : Int) (x3 : Int) (x4 : Int), vv = .agg #[.int .u16 x0, .int .u16 x1, .int .u16 x2, .int .i8 x3, .int .i8 x4] ∧ (Lit.int .u16 x0).wf = true ∧ (Lit.int .u16 x1).wf = true ∧ (Lit.int .u16 x2).wf = true ∧ (Lit.int .i8 x3).wf = true ∧ (Lit.int .i8 x4).wf = true := by
  obtain ⟨cs, rfl, hsz⟩ := okWide_struct Try.underlying100 hval
  obtain ⟨l⟩ := cs
  obtain ⟨fuel, hf⟩ := h
  have hl : l.length = 5 := hsz.trans (by kernel_rfl)
  obtain ⟨nA3, yA3, tA3⟩ := trodS Try.underlying100 hf 3 _ rfl (o := 3) (c := 2) (ty := 98) rfl rfl (by kernel_rfl)
  obtain ⟨n0, y0, t0⟩ := trodS Try.underlying100 hf 0 _ rfl (o := 0) (c := 1) (ty := 65) rfl rfl (by kernel_rfl)
  obtain ⟨x0, g0, w0⟩ := leafI Try.underlying65 t0
  obtain ⟨n1, y1, t1⟩ := trodS Try.underlying100 hf 1 _ rfl (o := 1) (c := 1) (ty := 65) rfl rfl (by kernel_rfl)
  obtain ⟨x1, g1, w1⟩ := leafI Try.underlying65 t1
  obtain ⟨n2, y2, t2⟩ := trodS Try.underlying100 hf 2 _ rfl (o := 2) (c := 1) (ty := 65) rfl rfl (by kernel_rfl)
  obtain ⟨x2, g2, w2⟩ := leafI Try.underlying65 t2
  obtain ⟨n3, y3, t3⟩ := trodE Try.underlying98 tA3 0 (by decide) (o := 0) (c := 1) (by kernel_rfl) rfl
  rw [sub_of (s := 3) rfl (by decide)] at t3
  obtain ⟨x3, g3, w3⟩ := leafI Try.underlying97 t3
  obtain ⟨n4, y4, t4⟩ := trodE Try.underlying98 tA3 1 (by decide) (o := 1) (c := 1) (by kernel_rfl) rfl
  rw [sub_of (s := 4) rfl (by decide)] at t4
  obtain ⟨x4, g4, w4⟩ := leafI Try.underlying97 t4
  refine ⟨x0, x1, x2, x3, x4, ?_, w0, w1, w2, w3, w4⟩
  clear hval hsz hf t0 t1 t2 t3 t4
  match l, hl with
  | [k0, k1, k2, k3, k4], _ =>
    simp [Value.cells] at g0 g1 g2 g3 g4
    subst g0 g1 g2 g3 g4
    rfl

noncomputable def bthread_C : Cx.Ctx := Cx.ctxOf Try.prog (Cx.memoU 102 (Cx.memoR 87 (Cx.memo2 113 2 1 (Cx.memoB [47, 48]))))

set_option maxRecDepth 100000 in
theorem bthread_ok : DT.ok (Cx.runOf bthread_C 1000 12 [.agg [.int .u8 (.v 0), .int .u8 (.v 1), .int .u8 (.v 2), .int .u8 (.v 3), .int .u8 (.v 4), .int .u8 (.v 5), .int .u8 (.v 6), .int .u8 (.v 7), .int .u8 (.v 8)], .agg [.int .u16 (.v 9), .int .u16 (.v 10), .int .u16 (.v 11), .int .i8 (.v 12), .int .i8 (.v 13)], .int .u16 (.v 14)]) Cx.bhTree [] [] = true := by kernel_rfl

theorem bthread_walk (x0 : Int) (x1 : Int) (x2 : Int) (x3 : Int) (x4 : Int) (x5 : Int) (x6 : Int) (x7 : Int) (x8 : Int) (x9 : Int) (x10 : Int) (x11 : Int) (x12 : Int) (x13 : Int) (x14 : Int) (w : World) (wx0 : (Lit.int .u8 x0).wf = true) (wx1 : (Lit.int .u8 x1).wf = true) (wx2 : (Lit.int .u8 x2).wf = true) (wx3 : (Lit.int .u8 x3).wf = true) (wx4 : (Lit.int .u8 x4).wf = true) (wx5 : (Lit.int .u8 x5).wf = true) (wx6 : (Lit.int .u8 x6).wf = true) (wx7 : (Lit.int .u8 x7).wf = true) (wx8 : (Lit.int .u8 x8).wf = true) (wx9 : (Lit.int .u16 x9).wf = true) (wx10 : (Lit.int .u16 x10).wf = true) (wx11 : (Lit.int .u16 x11).wf = true) (wx12 : (Lit.int .i8 x12).wf = true) (wx13 : (Lit.int .i8 x13).wf = true) (wx14 : (Lit.int .u16 x14).wf = true) :
    Calls Try.prog 12 #[.agg #[.int .u8 x0, .int .u8 x1, .int .u8 x2, .int .u8 x3, .int .u8 x4, .int .u8 x5, .int .u8 x6, .int .u8 x7, .int .u8 x8], .agg #[.int .u16 x9, .int .u16 x10, .int .u16 x11, .int .i8 x12, .int .i8 x13], .int .u16 x14] w fun e w' => e = .returned (.bool true) ∧ Below w.heap.size w w' := by
  have hM : ∀ f ∈ [47, 48], KnownB Try.prog f := fun f hf => by
    simp only [List.mem_cons, List.not_mem_nil, or_false] at hf
    rcases hf with rfl | rfl
    · exact Cx.CxKnAT_known
    · exact Cx.CxKnAB_known
  exact Cx.law_of (ρ := (⟨fun i => ([x0, x1, x2, x3, x4, x5, x6, x7, x8, x9, x10, x11, x12, x13, x14] : List Int).getD i 0, fun i => ([] : List Bool).getD i false⟩ : Env)) (Cx.ctxOf_ok Cx.try_ok _) (Cx.memoU_ok Cx.up_known (Cx.memoR_ok Cx.ratio_known (Cx.memo2_ok Cx.hand_known (Cx.memoB_ok hM)))) bthread_ok (DT.good_of _ _ (Cx.bh_goal ⟨rfl⟩ (rng_u8 wx0) ⟨rfl⟩ (rng_u8 wx1) ⟨rfl⟩ (rng_u8 wx2) ⟨rfl⟩ (rng_u8 wx3) ⟨rfl⟩ (rng_u8 wx4) ⟨rfl⟩ (rng_u8 wx5) ⟨rfl⟩ (rng_u8 wx6) ⟨rfl⟩ (rng_u8 wx7) ⟨rfl⟩ (rng_u8 wx8) ⟨rfl⟩ (rng_u16 wx9) ⟨rfl⟩ (rng_u16 wx10) ⟨rfl⟩ (rng_u16 wx11) ⟨rfl⟩ (rng_i8 wx12) ⟨rfl⟩ (rng_i8 wx13) ⟨rfl⟩ (rng_u16 wx14))) (.cons (.agg (.cons (.int .u8 (.v 0)) (.cons (.int .u8 (.v 1)) (.cons (.int .u8 (.v 2)) (.cons (.int .u8 (.v 3)) (.cons (.int .u8 (.v 4)) (.cons (.int .u8 (.v 5)) (.cons (.int .u8 (.v 6)) (.cons (.int .u8 (.v 7)) (.cons (.int .u8 (.v 8)) .nil)))))))))) (.cons (.agg (.cons (.int .u16 (.v 9)) (.cons (.int .u16 (.v 10)) (.cons (.int .u16 (.v 11)) (.cons (.int .i8 (.v 12)) (.cons (.int .i8 (.v 13)) .nil)))))) (.cons (.int .u16 (.v 14)) .nil))) w

theorem bthread_own : ownKnob Try.prog.godebug = none := by kernel_rfl
theorem bthread_laidOut : laidOutB Try.prog = true := by kernel_rfl

set_option maxRecDepth 100000 in
theorem bthread_lifted (os : Os) (started : os.Started) (H : Type) (enc : TypeId × Value → H) :
    ReturnsInHanded {} Try.checked os 12 .any (Rows.topBoltThreadSpec.pre6 enc Try.prog Try.f12 Rows.topBoltThreadRow.domain false) (Rows.topBoltThreadSpec.post enc Try.prog Try.f12 false true false false) := by
  refine returnsInHanded_of_change (C := Try.checked) bthread_own started (by kernel_rfl) Try.func12
    (ChangeSpec.witness6 (enc := enc) (C := Try.checked) false ⟨#[], #[.agg #[.int .u8 0, .int .u8 0, .int .u8 0, .int .u8 0, .int .u8 0, .int .u8 0, .int .u8 0, .int .u8 0, .int .u8 0], .agg #[.int .u16 0, .int .u16 0, .int .u16 0, .int .i8 0, .int .i8 0], .int .u16 0], []⟩ 8 (by kernel_rfl) (by kernel_rfl) (by kernel_rfl) (by kernel_rfl)) ?_
  intro W base args ds gs before hval0 hW hcnd _
  have hval : ∀ (j : Nat) t v, Try.f12.params[j]? = some t → args[j]? = some v → Value.okWide Try.prog W .any base t v := hval0
  have hW' := hW
  obtain ⟨p, q, hA0, hV, rfl, hfz, hnd⟩ := hW
  have hA : DataW.TrodAll enc Try.prog W 0 (fun _ => true) true Try.f12.params.toList args.toList ds p := hA0
  rw [Try.params12] at hA hval
  obtain ⟨v0, vs0, d0, ds0, p0, q0, hargs, rfl, rfl, h0, r0⟩ := trodAll_cons hA
  obtain ⟨v1, vs1, d1, ds1, p1, q1, rfl, rfl, rfl, h1, r1⟩ := trodAll_cons r0
  obtain ⟨v2, vs2, d2, ds2, p2, q2, rfl, rfl, rfl, h2, r2⟩ := trodAll_cons r1
  obtain ⟨rfl, rfl, rfl⟩ := trodAll_nil r2
  obtain rfl : args = #[v0, v1, v2] := by cases args; simp_all
  obtain ⟨rfl, rfl⟩ := trodVars_none hV
  have k0 := h0
  have lt0 : ∀ x ∈ p0, x.block < W.heap.size := by obtain ⟨m, hm⟩ := k0; exact DataW.trod_lt m _ _ _ hm
  have k1 := h1
  have lt1 : ∀ x ∈ p1, x.block < W.heap.size := by obtain ⟨m, hm⟩ := k1; exact DataW.trod_lt m _ _ _ hm
  have k2 := h2
  have lt2 : ∀ x ∈ p2, x.block < W.heap.size := by obtain ⟨m, hm⟩ := k2; exact DataW.trod_lt m _ _ _ hm
  obtain ⟨x0, x1, x2, x3, x4, x5, x6, x7, x8, rfl, wx0, wx1, wx2, wx3, wx4, wx5, wx6, wx7, wx8⟩ := bthread_open0 (hval 0 96 v0 rfl rfl) h0
  obtain ⟨x9, x10, x11, x12, x13, rfl, wx9, wx10, wx11, wx12, wx13⟩ := bthread_open1 (hval 1 100 v1 rfl rfl) h1
  obtain ⟨x14, rfl, rfl, rfl, wx14⟩ := open_int Try.underlying65 (hval 2 65 v2 rfl rfl) h2
  clear hA0 hval0
  refine (bthread_walk x0 x1 x2 x3 x4 x5 x6 x7 x8 x9 x10 x11 x12 x13 x14 W wx0 wx1 wx2 wx3 wx4 wx5 wx6 wx7 wx8 wx9 wx10 wx11 wx12 wx13 wx14).mono fun e W' ⟨he, bel⟩ => ?_
  subst he
  exact ⟨_, rfl, _, _, _, [], _, [], hW', trodAll_mk1 (shut_bool Try.underlying4 _), (trodAll_cons_mk (Below.trod bthread_laidOut (by kernel_rfl) (of_decide_eq_true (by kernel_rfl)) k0 bel lt0) (trodAll_cons_mk (Below.trod bthread_laidOut (by kernel_rfl) (of_decide_eq_true (by kernel_rfl)) k1 bel lt1) (trodAll_cons_mk (Below.trod bthread_laidOut (by kernel_rfl) (of_decide_eq_true (by kernel_rfl)) k2 bel lt2) trodAll_mk0))), rfl, bel.frame _, fun h => by cases h⟩

theorem bthread_over : Rows.topBoltThreadRow.holds Try.pinned (OpenSpec.ofChange Rows.topBoltThreadSpec) :=
  OpenClaim.holds_of_wide 12 Try.f12 rfl rfl rfl rfl rfl rfl rfl ⟨rfl, rfl, rfl, rfl, rfl⟩ rfl rfl rfl rfl rfl (by kernel_rfl) Try.func12 (by kernel_rfl)
    (of_decide_eq_true (by kernel_rfl)) (by unfold Func.isWrapper; rw [if_neg (of_decide_eq_false (by kernel_rfl))]; exact ⟨rfl, rfl⟩)
    (fun os started H enc _ => bthread_lifted os started H enc)

theorem bthread_proved : Rows.TopBoltThreadSaid := bthread_over
#print axioms bthread_proved

end Go.Proofs.Ytknphpihipkdpaa
