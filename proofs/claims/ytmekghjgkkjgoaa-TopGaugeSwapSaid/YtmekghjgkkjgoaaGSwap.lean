/- TopGaugeSwap holds, for all inputs: by the evaluator at symbols. Made by tools/cxlaw.py. -/
import Derived.Test.YtmekghjgkkjgoaaGSwapTG
import Derived.Test.YtmekghjgkkjgoaaCxKnPG
import Derived.Test.YtmekghjgkkjgoaaCxKnPS
import Derived.Test.YtmekghjgkkjgoaaCxOpen
import Derived.Test.YtmekghjgkkjgoaaCxRat
import Derived.Test.YtmekghjgkkjgoaaCxUp
set_option linter.unusedVariables false
set_option linter.unusedSimpArgs false
namespace Go.Proofs.Ytmekghjgkkjgoaa
open Go.ChangeShapes Go.WideShapes Go.ChangeAt Go.RowKit
open Cx (Env IE BE DT KnownB)

set_option maxRecDepth 100000 in
theorem gswap_open0 {H : Type} {enc : TypeId × Value → H} {w : World} {base : Nat} {spare : Nat → Bool} {held : Bool} {r : Reach} {b0 : Nat} {vv : Value} {d : DataW H} {p : List MemPlace} (hval : Value.okWide Try.prog w r b0 47 vv) (h : DataW.Trod enc Try.prog w base spare held 47 vv d p) :
    ∃ (x0 : Int) (x1 : Int) (x2 : Int) (x3 : Int), vv = .agg #[.int .u8 x0, .int .u8 x1, .int .u8 x2, .int .u8 x3] ∧ (Lit.int .u8 x0).wf = true ∧ (Lit.int .u8 x1).wf = true ∧ (Lit.int .u8 x2).wf = true ∧ (Lit.int .u8 x3).wf = true := by
  obtain ⟨cs, rfl, hsz⟩ := okWide_arr Try.underlying47 hval
  obtain ⟨l⟩ := cs
  obtain ⟨fuel, hf⟩ := h
  have hl : l.length = 4 := hsz.trans (by kernel_rfl)
  obtain ⟨n0, y0, t0⟩ := trodE Try.underlying47 hf 0 (by decide) (o := 0) (c := 1) (by kernel_rfl) rfl
  obtain ⟨x0, g0, w0⟩ := leafI Try.underlying5 t0
  obtain ⟨n1, y1, t1⟩ := trodE Try.underlying47 hf 1 (by decide) (o := 1) (c := 1) (by kernel_rfl) rfl
  obtain ⟨x1, g1, w1⟩ := leafI Try.underlying5 t1
  obtain ⟨n2, y2, t2⟩ := trodE Try.underlying47 hf 2 (by decide) (o := 2) (c := 1) (by kernel_rfl) rfl
  obtain ⟨x2, g2, w2⟩ := leafI Try.underlying5 t2
  obtain ⟨n3, y3, t3⟩ := trodE Try.underlying47 hf 3 (by decide) (o := 3) (c := 1) (by kernel_rfl) rfl
  obtain ⟨x3, g3, w3⟩ := leafI Try.underlying5 t3
  refine ⟨x0, x1, x2, x3, ?_, w0, w1, w2, w3⟩
  clear hval hsz hf t0 t1 t2 t3
  match l, hl with
  | [k0, k1, k2, k3], _ =>
    simp [Value.cells] at g0 g1 g2 g3
    subst g0 g1 g2 g3
    rfl

set_option maxRecDepth 100000 in
theorem gswap_open1 {H : Type} {enc : TypeId × Value → H} {w : World} {base : Nat} {spare : Nat → Bool} {held : Bool} {r : Reach} {b0 : Nat} {vv : Value} {d : DataW H} {p : List MemPlace} (hval : Value.okWide Try.prog w r b0 91 vv) (h : DataW.Trod enc Try.prog w base spare held 91 vv d p) :
    ∃ (x0 : Int) (x1 : Int) (x2 : Int), vv = .agg #[.int .u8 x0, .int .u8 x1, .int .u8 x2] ∧ (Lit.int .u8 x0).wf = true ∧ (Lit.int .u8 x1).wf = true ∧ (Lit.int .u8 x2).wf = true := by
  obtain ⟨cs, rfl, hsz⟩ := okWide_arr Try.underlying91 hval
  obtain ⟨l⟩ := cs
  obtain ⟨fuel, hf⟩ := h
  have hl : l.length = 3 := hsz.trans (by kernel_rfl)
  obtain ⟨n0, y0, t0⟩ := trodE Try.underlying91 hf 0 (by decide) (o := 0) (c := 1) (by kernel_rfl) rfl
  obtain ⟨x0, g0, w0⟩ := leafI Try.underlying5 t0
  obtain ⟨n1, y1, t1⟩ := trodE Try.underlying91 hf 1 (by decide) (o := 1) (c := 1) (by kernel_rfl) rfl
  obtain ⟨x1, g1, w1⟩ := leafI Try.underlying5 t1
  obtain ⟨n2, y2, t2⟩ := trodE Try.underlying91 hf 2 (by decide) (o := 2) (c := 1) (by kernel_rfl) rfl
  obtain ⟨x2, g2, w2⟩ := leafI Try.underlying5 t2
  refine ⟨x0, x1, x2, ?_, w0, w1, w2⟩
  clear hval hsz hf t0 t1 t2
  match l, hl with
  | [k0, k1, k2], _ =>
    simp [Value.cells] at g0 g1 g2
    subst g0 g1 g2
    rfl

set_option maxRecDepth 100000 in
theorem gswap_open2 {H : Type} {enc : TypeId × Value → H} {w : World} {base : Nat} {spare : Nat → Bool} {held : Bool} {r : Reach} {b0 : Nat} {vv : Value} {d : DataW H} {p : List MemPlace} (hval : Value.okWide Try.prog w r b0 48 vv) (h : DataW.Trod enc Try.prog w base spare held 48 vv d p) :
    ∃ (x0 : Int) (x1 : Int), vv = .agg #[.int .u8 x0, .int .u8 x1] ∧ (Lit.int .u8 x0).wf = true ∧ (Lit.int .u8 x1).wf = true := by
  obtain ⟨cs, rfl, hsz⟩ := okWide_arr Try.underlying48 hval
  obtain ⟨l⟩ := cs
  obtain ⟨fuel, hf⟩ := h
  have hl : l.length = 2 := hsz.trans (by kernel_rfl)
  obtain ⟨n0, y0, t0⟩ := trodE Try.underlying48 hf 0 (by decide) (o := 0) (c := 1) (by kernel_rfl) rfl
  obtain ⟨x0, g0, w0⟩ := leafI Try.underlying5 t0
  obtain ⟨n1, y1, t1⟩ := trodE Try.underlying48 hf 1 (by decide) (o := 1) (c := 1) (by kernel_rfl) rfl
  obtain ⟨x1, g1, w1⟩ := leafI Try.underlying5 t1
  refine ⟨x0, x1, ?_, w0, w1⟩
  clear hval hsz hf t0 t1
  match l, hl with
  | [k0, k1], _ =>
    simp [Value.cells] at g0 g1
    subst g0 g1
    rfl

noncomputable def gswap_C : Cx.Ctx := Cx.ctxOf Try.prog (Cx.memoU 73 (Cx.memoR 137 (Cx.memo2 136 2 1 (Cx.memoB [47, 32]))))

set_option maxRecDepth 100000 in
theorem gswap_ok : DT.ok (Cx.runOf gswap_C 1000 10 [.agg [.int .u8 (.v 0), .int .u8 (.v 1), .int .u8 (.v 2), .int .u8 (.v 3)], .agg [.int .u8 (.v 4), .int .u8 (.v 5), .int .u8 (.v 6)], .agg [.int .u8 (.v 7), .int .u8 (.v 8)]]) Cx.gwTree [] [] = true := by kernel_rfl

theorem gswap_walk (x0 : Int) (x1 : Int) (x2 : Int) (x3 : Int) (x4 : Int) (x5 : Int) (x6 : Int) (x7 : Int) (x8 : Int) (w : World) (wx0 : (Lit.int .u8 x0).wf = true) (wx1 : (Lit.int .u8 x1).wf = true) (wx2 : (Lit.int .u8 x2).wf = true) (wx3 : (Lit.int .u8 x3).wf = true) (wx4 : (Lit.int .u8 x4).wf = true) (wx5 : (Lit.int .u8 x5).wf = true) (wx6 : (Lit.int .u8 x6).wf = true) (wx7 : (Lit.int .u8 x7).wf = true) (wx8 : (Lit.int .u8 x8).wf = true) :
    Calls Try.prog 10 #[.agg #[.int .u8 x0, .int .u8 x1, .int .u8 x2, .int .u8 x3], .agg #[.int .u8 x4, .int .u8 x5, .int .u8 x6], .agg #[.int .u8 x7, .int .u8 x8]] w fun e w' => e = .returned (.bool true) ∧ Below w.heap.size w w' := by
  have hM : ∀ f ∈ [47, 32], KnownB Try.prog f := fun f hf => by
    simp only [List.mem_cons, List.not_mem_nil, or_false] at hf
    rcases hf with rfl | rfl
    · exact Cx.CxKnPG_known
    · exact Cx.CxKnPS_known
  exact Cx.law_of (ρ := (⟨fun i => ([x0, x1, x2, x3, x4, x5, x6, x7, x8] : List Int).getD i 0, fun i => ([] : List Bool).getD i false⟩ : Env)) (Cx.ctxOf_ok Cx.try_ok _) (Cx.memoU_ok Cx.up_known (Cx.memoR_ok Cx.ratio_known (Cx.memo2_ok Cx.hand_known (Cx.memoB_ok hM)))) gswap_ok (DT.good_of _ _ (Cx.gw_goal ⟨rfl⟩ (rng_u8 wx0) ⟨rfl⟩ (rng_u8 wx1) ⟨rfl⟩ (rng_u8 wx2) ⟨rfl⟩ (rng_u8 wx3) ⟨rfl⟩ (rng_u8 wx4) ⟨rfl⟩ (rng_u8 wx5) ⟨rfl⟩ (rng_u8 wx6) ⟨rfl⟩ (rng_u8 wx7) ⟨rfl⟩ (rng_u8 wx8))) (.cons (.agg (.cons (.int .u8 (.v 0)) (.cons (.int .u8 (.v 1)) (.cons (.int .u8 (.v 2)) (.cons (.int .u8 (.v 3)) .nil))))) (.cons (.agg (.cons (.int .u8 (.v 4)) (.cons (.int .u8 (.v 5)) (.cons (.int .u8 (.v 6)) .nil)))) (.cons (.agg (.cons (.int .u8 (.v 7)) (.cons (.int .u8 (.v 8)) .nil))) .nil))) w

theorem gswap_own : ownKnob Try.prog.godebug = none := by kernel_rfl
theorem gswap_laidOut : laidOutB Try.prog = true := by kernel_rfl

set_option maxRecDepth 100000 in
theorem gswap_lifted (os : Os) (started : os.Started) (H : Type) (enc : TypeId × Value → H) :
    ReturnsInHanded {} Try.checked os 10 .any (Rows.topGaugeSwapSpec.pre6 enc Try.prog Try.f10 Rows.topGaugeSwapRow.domain false) (Rows.topGaugeSwapSpec.post enc Try.prog Try.f10 false true false false) := by
  refine returnsInHanded_of_change (C := Try.checked) gswap_own started (by kernel_rfl) Try.func10
    (ChangeSpec.witness6 (enc := enc) (C := Try.checked) false ⟨#[], #[.agg #[.int .u8 0, .int .u8 0, .int .u8 0, .int .u8 0], .agg #[.int .u8 0, .int .u8 0, .int .u8 0], .agg #[.int .u8 0, .int .u8 0]], []⟩ 8 (by kernel_rfl) (by kernel_rfl) (by kernel_rfl) (by kernel_rfl)) ?_
  intro W base args ds gs before hval0 hW hcnd _
  have hval : ∀ (j : Nat) t v, Try.f10.params[j]? = some t → args[j]? = some v → Value.okWide Try.prog W .any base t v := hval0
  have hW' := hW
  obtain ⟨p, q, hA0, hV, rfl, hfz, hnd⟩ := hW
  have hA : DataW.TrodAll enc Try.prog W 0 (fun _ => true) true Try.f10.params.toList args.toList ds p := hA0
  rw [Try.params10] at hA hval
  obtain ⟨v0, vs0, d0, ds0, p0, q0, hargs, rfl, rfl, h0, r0⟩ := trodAll_cons hA
  obtain ⟨v1, vs1, d1, ds1, p1, q1, rfl, rfl, rfl, h1, r1⟩ := trodAll_cons r0
  obtain ⟨v2, vs2, d2, ds2, p2, q2, rfl, rfl, rfl, h2, r2⟩ := trodAll_cons r1
  obtain ⟨rfl, rfl, rfl⟩ := trodAll_nil r2
  obtain rfl : args = #[v0, v1, v2] := by cases args; simp_all
  obtain ⟨rfl, rfl⟩ := trodVars_none hV
  have k0 := h0
  have lt0 : ∀ x ∈ p0, x.block < W.heap.size := by obtain ⟨m, hm⟩ := k0; exact DataW.trod_lt m _ _ _ hm
  have k1 := h1
  have lt1 : ∀ x ∈ p1, x.block < W.heap.size := by obtain ⟨m, hm⟩ := k1; exact DataW.trod_lt m _ _ _ hm
  have k2 := h2
  have lt2 : ∀ x ∈ p2, x.block < W.heap.size := by obtain ⟨m, hm⟩ := k2; exact DataW.trod_lt m _ _ _ hm
  obtain ⟨x0, x1, x2, x3, rfl, wx0, wx1, wx2, wx3⟩ := gswap_open0 (hval 0 47 v0 rfl rfl) h0
  obtain ⟨x4, x5, x6, rfl, wx4, wx5, wx6⟩ := gswap_open1 (hval 1 91 v1 rfl rfl) h1
  obtain ⟨x7, x8, rfl, wx7, wx8⟩ := gswap_open2 (hval 2 48 v2 rfl rfl) h2
  clear hA0 hval0
  refine (gswap_walk x0 x1 x2 x3 x4 x5 x6 x7 x8 W wx0 wx1 wx2 wx3 wx4 wx5 wx6 wx7 wx8).mono fun e W' ⟨he, bel⟩ => ?_
  subst he
  exact ⟨_, rfl, _, _, _, [], _, [], hW', trodAll_mk1 (shut_bool Try.underlying4 _), (trodAll_cons_mk (Below.trod gswap_laidOut (by kernel_rfl) (of_decide_eq_true (by kernel_rfl)) k0 bel lt0) (trodAll_cons_mk (Below.trod gswap_laidOut (by kernel_rfl) (of_decide_eq_true (by kernel_rfl)) k1 bel lt1) (trodAll_cons_mk (Below.trod gswap_laidOut (by kernel_rfl) (of_decide_eq_true (by kernel_rfl)) k2 bel lt2) trodAll_mk0))), rfl, bel.frame _, fun h => by cases h⟩

theorem gswap_over : Rows.topGaugeSwapRow.holds Try.pinned (OpenSpec.ofChange Rows.topGaugeSwapSpec) :=
  OpenClaim.holds_of_wide 10 Try.f10 rfl rfl rfl rfl rfl rfl rfl ⟨rfl, rfl, rfl, rfl, rfl⟩ rfl rfl rfl rfl rfl (by kernel_rfl) Try.func10 (by kernel_rfl)
    (of_decide_eq_true (by kernel_rfl)) (by unfold Func.isWrapper; rw [if_neg (of_decide_eq_false (by kernel_rfl))]; exact ⟨rfl, rfl⟩)
    (fun os started H enc _ => gswap_lifted os started H enc)

theorem gswap_proved : Rows.TopGaugeSwapSaid := gswap_over
#print axioms gswap_proved

end Go.Proofs.Ytmekghjgkkjgoaa
