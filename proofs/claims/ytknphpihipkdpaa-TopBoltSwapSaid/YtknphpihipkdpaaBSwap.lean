/- TopBoltSwap holds, for all inputs: by the evaluator at symbols. Made by tools/cxlaw.py. -/
import Derived.Test.YtknphpihipkdpaaBSwapTG
import Derived.Test.YtknphpihipkdpaaCxKnAS
import Derived.Test.YtknphpihipkdpaaCxKnAB
import Derived.Test.YtknphpihipkdpaaCxOpen
import Derived.Test.YtknphpihipkdpaaCxRat
import Derived.Test.YtknphpihipkdpaaCxUp
set_option linter.unusedVariables false
set_option linter.unusedSimpArgs false
namespace Go.Proofs.Ytknphpihipkdpaa
open Go.ChangeShapes Go.WideShapes Go.ChangeAt Go.RowKit
open Cx (Env IE BE DT KnownB)

set_option maxRecDepth 100000 in
theorem bswap_open0 {H : Type} {enc : TypeId × Value → H} {w : World} {base : Nat} {spare : Nat → Bool} {held : Bool} {r : Reach} {b0 : Nat} {vv : Value} {d : DataW H} {p : List MemPlace} (hval : Value.okWide Try.prog w r b0 96 vv) (h : DataW.Trod enc Try.prog w base spare held 96 vv d p) :
    ∃ (x0 : Int) (x1 : Int) (x2 : Int) (x3 : Int) (x4 : Int) (x5 : Int) (x6 : Int) (x7 : Int) (x8 : Int), vv = .agg #[.int .u8 x0, .int .u8 x1, .int .u8 x2, .int .u8 x3, .int .u8 x4, .int .u8 x5, .int .u8 x6, .int .u8 x7, .int .u8 x8] ∧ (Lit.int .u8 x0).wf = true ∧ (Lit.int .u8 x1).wf = true ∧ (Lit.int .u8 x2).wf = true ∧ (Lit.int .u8 x3).wf = true ∧ (Lit.int .u8 x4).wf = true ∧ (Lit.int .u8 x5).wf = true ∧ (Lit.int .u8 x6).wf = true ∧ (Lit.int .u8 x7).wf = true ∧ (Lit.int .u8 x8).wf = true := by
  obtain ⟨cs, rfl, hsz⟩ := okWide_struct Try.underlying96 hval
  obtain ⟨l⟩ := cs
  obtain ⟨fuel, hf⟩ := h
  have hl : l.length = 9 := hsz.trans (by kernel_rfl)
  obtain ⟨nA0, yA0, tA0⟩ := trodS Try.underlying96 hf 0 _ rfl (o := 0) (c := 3) (ty := 62) rfl rfl (by kernel_rfl)
  obtain ⟨nA1, yA1, tA1⟩ := trodS Try.underlying96 hf 1 _ rfl (o := 3) (c := 4) (ty := 63) rfl rfl (by kernel_rfl)
  obtain ⟨nA2, yA2, tA2⟩ := trodS Try.underlying96 hf 2 _ rfl (o := 7) (c := 2) (ty := 70) rfl rfl (by kernel_rfl)
  obtain ⟨n0, y0, t0⟩ := trodE Try.underlying62 tA0 0 (by decide) (o := 0) (c := 1) (by kernel_rfl) rfl
  rw [sub_of (s := 0) rfl (by decide)] at t0
  obtain ⟨x0, g0, w0⟩ := leafI Try.underlying5 t0
  obtain ⟨n1, y1, t1⟩ := trodE Try.underlying62 tA0 1 (by decide) (o := 1) (c := 1) (by kernel_rfl) rfl
  rw [sub_of (s := 1) rfl (by decide)] at t1
  obtain ⟨x1, g1, w1⟩ := leafI Try.underlying5 t1
  obtain ⟨n2, y2, t2⟩ := trodE Try.underlying62 tA0 2 (by decide) (o := 2) (c := 1) (by kernel_rfl) rfl
  rw [sub_of (s := 2) rfl (by decide)] at t2
  obtain ⟨x2, g2, w2⟩ := leafI Try.underlying5 t2
  obtain ⟨n3, y3, t3⟩ := trodE Try.underlying63 tA1 0 (by decide) (o := 0) (c := 1) (by kernel_rfl) rfl
  rw [sub_of (s := 3) rfl (by decide)] at t3
  obtain ⟨x3, g3, w3⟩ := leafI Try.underlying5 t3
  obtain ⟨n4, y4, t4⟩ := trodE Try.underlying63 tA1 1 (by decide) (o := 1) (c := 1) (by kernel_rfl) rfl
  rw [sub_of (s := 4) rfl (by decide)] at t4
  obtain ⟨x4, g4, w4⟩ := leafI Try.underlying5 t4
  obtain ⟨n5, y5, t5⟩ := trodE Try.underlying63 tA1 2 (by decide) (o := 2) (c := 1) (by kernel_rfl) rfl
  rw [sub_of (s := 5) rfl (by decide)] at t5
  obtain ⟨x5, g5, w5⟩ := leafI Try.underlying5 t5
  obtain ⟨n6, y6, t6⟩ := trodE Try.underlying63 tA1 3 (by decide) (o := 3) (c := 1) (by kernel_rfl) rfl
  rw [sub_of (s := 6) rfl (by decide)] at t6
  obtain ⟨x6, g6, w6⟩ := leafI Try.underlying5 t6
  obtain ⟨n7, y7, t7⟩ := trodE Try.underlying70 tA2 0 (by decide) (o := 0) (c := 1) (by kernel_rfl) rfl
  rw [sub_of (s := 7) rfl (by decide)] at t7
  obtain ⟨x7, g7, w7⟩ := leafI Try.underlying5 t7
  obtain ⟨n8, y8, t8⟩ := trodE Try.underlying70 tA2 1 (by decide) (o := 1) (c := 1) (by kernel_rfl) rfl
  rw [sub_of (s := 8) rfl (by decide)] at t8
  obtain ⟨x8, g8, w8⟩ := leafI Try.underlying5 t8
  refine ⟨x0, x1, x2, x3, x4, x5, x6, x7, x8, ?_, w0, w1, w2, w3, w4, w5, w6, w7, w8⟩
  clear hval hsz hf t0 t1 t2 t3 t4 t5 t6 t7 t8
  match l, hl with
  | [k0, k1, k2, k3, k4, k5, k6, k7, k8], _ =>
    simp [Value.cells] at g0 g1 g2 g3 g4 g5 g6 g7 g8
    subst g0 g1 g2 g3 g4 g5 g6 g7 g8
    rfl

set_option maxRecDepth 100000 in
theorem bswap_open1 {H : Type} {enc : TypeId × Value → H} {w : World} {base : Nat} {spare : Nat → Bool} {held : Bool} {r : Reach} {b0 : Nat} {vv : Value} {d : DataW H} {p : List MemPlace} (hval : Value.okWide Try.prog w r b0 63 vv) (h : DataW.Trod enc Try.prog w base spare held 63 vv d p) :
    ∃ (x0 : Int) (x1 : Int) (x2 : Int) (x3 : Int), vv = .agg #[.int .u8 x0, .int .u8 x1, .int .u8 x2, .int .u8 x3] ∧ (Lit.int .u8 x0).wf = true ∧ (Lit.int .u8 x1).wf = true ∧ (Lit.int .u8 x2).wf = true ∧ (Lit.int .u8 x3).wf = true := by
  obtain ⟨cs, rfl, hsz⟩ := okWide_arr Try.underlying63 hval
  obtain ⟨l⟩ := cs
  obtain ⟨fuel, hf⟩ := h
  have hl : l.length = 4 := hsz.trans (by kernel_rfl)
  obtain ⟨n0, y0, t0⟩ := trodE Try.underlying63 hf 0 (by decide) (o := 0) (c := 1) (by kernel_rfl) rfl
  obtain ⟨x0, g0, w0⟩ := leafI Try.underlying5 t0
  obtain ⟨n1, y1, t1⟩ := trodE Try.underlying63 hf 1 (by decide) (o := 1) (c := 1) (by kernel_rfl) rfl
  obtain ⟨x1, g1, w1⟩ := leafI Try.underlying5 t1
  obtain ⟨n2, y2, t2⟩ := trodE Try.underlying63 hf 2 (by decide) (o := 2) (c := 1) (by kernel_rfl) rfl
  obtain ⟨x2, g2, w2⟩ := leafI Try.underlying5 t2
  obtain ⟨n3, y3, t3⟩ := trodE Try.underlying63 hf 3 (by decide) (o := 3) (c := 1) (by kernel_rfl) rfl
  obtain ⟨x3, g3, w3⟩ := leafI Try.underlying5 t3
  refine ⟨x0, x1, x2, x3, ?_, w0, w1, w2, w3⟩
  clear hval hsz hf t0 t1 t2 t3
  match l, hl with
  | [k0, k1, k2, k3], _ =>
    simp [Value.cells] at g0 g1 g2 g3
    subst g0 g1 g2 g3
    rfl

noncomputable def bswap_C : Cx.Ctx := Cx.ctxOf Try.prog (Cx.memoU 102 (Cx.memoR 87 (Cx.memo2 113 2 1 (Cx.memoB [51, 48]))))

set_option maxRecDepth 100000 in
theorem bswap_ok : DT.ok (Cx.runOf bswap_C 1000 13 [.agg [.int .u8 (.v 0), .int .u8 (.v 1), .int .u8 (.v 2), .int .u8 (.v 3), .int .u8 (.v 4), .int .u8 (.v 5), .int .u8 (.v 6), .int .u8 (.v 7), .int .u8 (.v 8)], .agg [.int .u8 (.v 9), .int .u8 (.v 10), .int .u8 (.v 11), .int .u8 (.v 12)]]) Cx.bsTree [] [] = true := by kernel_rfl

theorem bswap_walk (x0 : Int) (x1 : Int) (x2 : Int) (x3 : Int) (x4 : Int) (x5 : Int) (x6 : Int) (x7 : Int) (x8 : Int) (x9 : Int) (x10 : Int) (x11 : Int) (x12 : Int) (w : World) (wx0 : (Lit.int .u8 x0).wf = true) (wx1 : (Lit.int .u8 x1).wf = true) (wx2 : (Lit.int .u8 x2).wf = true) (wx3 : (Lit.int .u8 x3).wf = true) (wx4 : (Lit.int .u8 x4).wf = true) (wx5 : (Lit.int .u8 x5).wf = true) (wx6 : (Lit.int .u8 x6).wf = true) (wx7 : (Lit.int .u8 x7).wf = true) (wx8 : (Lit.int .u8 x8).wf = true) (wx9 : (Lit.int .u8 x9).wf = true) (wx10 : (Lit.int .u8 x10).wf = true) (wx11 : (Lit.int .u8 x11).wf = true) (wx12 : (Lit.int .u8 x12).wf = true) :
    Calls Try.prog 13 #[.agg #[.int .u8 x0, .int .u8 x1, .int .u8 x2, .int .u8 x3, .int .u8 x4, .int .u8 x5, .int .u8 x6, .int .u8 x7, .int .u8 x8], .agg #[.int .u8 x9, .int .u8 x10, .int .u8 x11, .int .u8 x12]] w fun e w' => e = .returned (.bool true) ∧ Below w.heap.size w w' := by
  have hM : ∀ f ∈ [51, 48], KnownB Try.prog f := fun f hf => by
    simp only [List.mem_cons, List.not_mem_nil, or_false] at hf
    rcases hf with rfl | rfl
    · exact Cx.CxKnAS_known
    · exact Cx.CxKnAB_known
  exact Cx.law_of (ρ := (⟨fun i => ([x0, x1, x2, x3, x4, x5, x6, x7, x8, x9, x10, x11, x12] : List Int).getD i 0, fun i => ([] : List Bool).getD i false⟩ : Env)) (Cx.ctxOf_ok Cx.try_ok _) (Cx.memoU_ok Cx.up_known (Cx.memoR_ok Cx.ratio_known (Cx.memo2_ok Cx.hand_known (Cx.memoB_ok hM)))) bswap_ok (DT.good_of _ _ (Cx.bs_goal ⟨rfl⟩ (rng_u8 wx0) ⟨rfl⟩ (rng_u8 wx1) ⟨rfl⟩ (rng_u8 wx2) ⟨rfl⟩ (rng_u8 wx3) ⟨rfl⟩ (rng_u8 wx4) ⟨rfl⟩ (rng_u8 wx5) ⟨rfl⟩ (rng_u8 wx6) ⟨rfl⟩ (rng_u8 wx7) ⟨rfl⟩ (rng_u8 wx8) ⟨rfl⟩ (rng_u8 wx9) ⟨rfl⟩ (rng_u8 wx10) ⟨rfl⟩ (rng_u8 wx11) ⟨rfl⟩ (rng_u8 wx12))) (.cons (.agg (.cons (.int .u8 (.v 0)) (.cons (.int .u8 (.v 1)) (.cons (.int .u8 (.v 2)) (.cons (.int .u8 (.v 3)) (.cons (.int .u8 (.v 4)) (.cons (.int .u8 (.v 5)) (.cons (.int .u8 (.v 6)) (.cons (.int .u8 (.v 7)) (.cons (.int .u8 (.v 8)) .nil)))))))))) (.cons (.agg (.cons (.int .u8 (.v 9)) (.cons (.int .u8 (.v 10)) (.cons (.int .u8 (.v 11)) (.cons (.int .u8 (.v 12)) .nil))))) .nil)) w

theorem bswap_own : ownKnob Try.prog.godebug = none := by kernel_rfl
theorem bswap_laidOut : laidOutB Try.prog = true := by kernel_rfl

set_option maxRecDepth 100000 in
theorem bswap_lifted (os : Os) (started : os.Started) (H : Type) (enc : TypeId × Value → H) :
    ReturnsInHanded {} Try.checked os 13 .any (Rows.topBoltSwapSpec.pre6 enc Try.prog Try.f13 Rows.topBoltSwapRow.domain false) (Rows.topBoltSwapSpec.post enc Try.prog Try.f13 false true false false) := by
  refine returnsInHanded_of_change (C := Try.checked) bswap_own started (by kernel_rfl) Try.func13
    (ChangeSpec.witness6 (enc := enc) (C := Try.checked) false ⟨#[], #[.agg #[.int .u8 0, .int .u8 0, .int .u8 0, .int .u8 0, .int .u8 0, .int .u8 0, .int .u8 0, .int .u8 0, .int .u8 0], .agg #[.int .u8 0, .int .u8 0, .int .u8 0, .int .u8 0]], []⟩ 8 (by kernel_rfl) (by kernel_rfl) (by kernel_rfl) (by kernel_rfl)) ?_
  intro W base args ds gs before hval0 hW hcnd _
  have hval : ∀ (j : Nat) t v, Try.f13.params[j]? = some t → args[j]? = some v → Value.okWide Try.prog W .any base t v := hval0
  have hW' := hW
  obtain ⟨p, q, hA0, hV, rfl, hfz, hnd⟩ := hW
  have hA : DataW.TrodAll enc Try.prog W 0 (fun _ => true) true Try.f13.params.toList args.toList ds p := hA0
  rw [Try.params13] at hA hval
  obtain ⟨v0, vs0, d0, ds0, p0, q0, hargs, rfl, rfl, h0, r0⟩ := trodAll_cons hA
  obtain ⟨v1, vs1, d1, ds1, p1, q1, rfl, rfl, rfl, h1, r1⟩ := trodAll_cons r0
  obtain ⟨rfl, rfl, rfl⟩ := trodAll_nil r1
  obtain rfl : args = #[v0, v1] := by cases args; simp_all
  obtain ⟨rfl, rfl⟩ := trodVars_none hV
  have k0 := h0
  have lt0 : ∀ x ∈ p0, x.block < W.heap.size := by obtain ⟨m, hm⟩ := k0; exact DataW.trod_lt m _ _ _ hm
  have k1 := h1
  have lt1 : ∀ x ∈ p1, x.block < W.heap.size := by obtain ⟨m, hm⟩ := k1; exact DataW.trod_lt m _ _ _ hm
  obtain ⟨x0, x1, x2, x3, x4, x5, x6, x7, x8, rfl, wx0, wx1, wx2, wx3, wx4, wx5, wx6, wx7, wx8⟩ := bswap_open0 (hval 0 96 v0 rfl rfl) h0
  obtain ⟨x9, x10, x11, x12, rfl, wx9, wx10, wx11, wx12⟩ := bswap_open1 (hval 1 63 v1 rfl rfl) h1
  clear hA0 hval0
  refine (bswap_walk x0 x1 x2 x3 x4 x5 x6 x7 x8 x9 x10 x11 x12 W wx0 wx1 wx2 wx3 wx4 wx5 wx6 wx7 wx8 wx9 wx10 wx11 wx12).mono fun e W' ⟨he, bel⟩ => ?_
  subst he
  exact ⟨_, rfl, _, _, _, [], _, [], hW', trodAll_mk1 (shut_bool Try.underlying4 _), (trodAll_cons_mk (Below.trod bswap_laidOut (by kernel_rfl) (of_decide_eq_true (by kernel_rfl)) k0 bel lt0) (trodAll_cons_mk (Below.trod bswap_laidOut (by kernel_rfl) (of_decide_eq_true (by kernel_rfl)) k1 bel lt1) trodAll_mk0)), rfl, bel.frame _, fun h => by cases h⟩

theorem bswap_over : Rows.topBoltSwapRow.holds Try.pinned (OpenSpec.ofChange Rows.topBoltSwapSpec) :=
  OpenClaim.holds_of_wide 13 Try.f13 rfl rfl rfl rfl rfl rfl rfl ⟨rfl, rfl, rfl, rfl, rfl⟩ rfl rfl rfl rfl rfl (by kernel_rfl) Try.func13 (by kernel_rfl)
    (of_decide_eq_true (by kernel_rfl)) (by unfold Func.isWrapper; rw [if_neg (of_decide_eq_false (by kernel_rfl))]; exact ⟨rfl, rfl⟩)
    (fun os started H enc _ => bswap_lifted os started H enc)

theorem bswap_proved : Rows.TopBoltSwapSaid := bswap_over
#print axioms bswap_proved

end Go.Proofs.Ytknphpihipkdpaa
