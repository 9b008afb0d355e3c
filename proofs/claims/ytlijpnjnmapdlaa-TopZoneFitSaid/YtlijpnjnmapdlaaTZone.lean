/- TopZoneFit holds, for all inputs: by the evaluator at symbols. Made by tools/cxlaw.py. -/
import Derived.Test.YtlijpnjnmapdlaaTZoneTG
import Derived.Test.YtlijpnjnmapdlaaTZoneK
import Derived.Test.YtlijpnjnmapdlaaCxKnAZ
import Derived.Test.YtlijpnjnmapdlaaCxKnAF0
import Derived.Test.YtlijpnjnmapdlaaCxOpen
import Derived.Test.YtlijpnjnmapdlaaCxUp
set_option linter.unusedVariables false
set_option linter.unusedSimpArgs false
namespace Go.Proofs.Ytlijpnjnmapdlaa
open Go.ChangeShapes Go.WideShapes Go.ChangeAt Go.RowKit
open Cx (Env IE BE DT KnownB)

set_option maxRecDepth 100000 in
theorem tzone_open0 {H : Type} {enc : TypeId × Value → H} {w : World} {base : Nat} {spare : Nat → Bool} {held : Bool} {r : Reach} {b0 : Nat} {v : Value} {d : DataW H} {p : List MemPlace} (hval : Value.okWide Try.prog w r b0 26 v) (h : DataW.Trod enc Try.prog w base spare held 26 v d p) :
    ∃ (x0 : Int) (x1 : Int) (x2 : Int) (x3 : Int) (x4 : Int), v = .agg #[.int .u16 x0, .int .u16 x1, .int .u16 x2, .int .i8 x3, .int .i8 x4] ∧ (Lit.int .u16 x0).wf = true ∧ (Lit.int .u16 x1).wf = true ∧ (Lit.int .u16 x2).wf = true ∧ (Lit.int .i8 x3).wf = true ∧ (Lit.int .i8 x4).wf = true := by
  obtain ⟨cs, rfl, hsz⟩ := okWide_struct Try.underlying26 hval
  obtain ⟨l⟩ := cs
  obtain ⟨fuel, hf⟩ := h
  have hl : l.length = 5 := hsz.trans (by kernel_rfl)
  obtain ⟨nA3, yA3, tA3⟩ := trodS Try.underlying26 hf 3 _ rfl (o := 3) (c := 2) (ty := 24) rfl rfl (by kernel_rfl)
  obtain ⟨n0, y0, t0⟩ := trodS Try.underlying26 hf 0 _ rfl (o := 0) (c := 1) (ty := 22) rfl rfl (by kernel_rfl)
  obtain ⟨x0, g0, w0⟩ := leafI Try.underlying22 t0
  obtain ⟨n1, y1, t1⟩ := trodS Try.underlying26 hf 1 _ rfl (o := 1) (c := 1) (ty := 22) rfl rfl (by kernel_rfl)
  obtain ⟨x1, g1, w1⟩ := leafI Try.underlying22 t1
  obtain ⟨n2, y2, t2⟩ := trodS Try.underlying26 hf 2 _ rfl (o := 2) (c := 1) (ty := 22) rfl rfl (by kernel_rfl)
  obtain ⟨x2, g2, w2⟩ := leafI Try.underlying22 t2
  obtain ⟨n3, y3, t3⟩ := trodE Try.underlying24 tA3 0 (by decide) (o := 0) (c := 1) (by kernel_rfl) rfl
  rw [sub_of (s := 3) rfl (by decide)] at t3
  obtain ⟨x3, g3, w3⟩ := leafI Try.underlying23 t3
  obtain ⟨n4, y4, t4⟩ := trodE Try.underlying24 tA3 1 (by decide) (o := 1) (c := 1) (by kernel_rfl) rfl
  rw [sub_of (s := 4) rfl (by decide)] at t4
  obtain ⟨x4, g4, w4⟩ := leafI Try.underlying23 t4
  refine ⟨x0, x1, x2, x3, x4, ?_, w0, w1, w2, w3, w4⟩
  clear hval hsz hf t0 t1 t2 t3 t4
  match l, hl with
  | [c0, c1, c2, c3, c4], _ =>
    simp [Value.cells] at g0 g1 g2 g3 g4
    subst g0 g1 g2 g3 g4
    rfl

set_option maxRecDepth 100000 in
theorem tzone_open1 {H : Type} {enc : TypeId × Value → H} {w : World} {base : Nat} {spare : Nat → Bool} {held : Bool} {r : Reach} {b0 : Nat} {v : Value} {d : DataW H} {p : List MemPlace} (hval : Value.okWide Try.prog w r b0 27 v) (h : DataW.Trod enc Try.prog w base spare held 27 v d p) :
    ∃ (x0 : Int) (x1 : Int) (x2 : Int) (x3 : Int), v = .agg #[.int .u8 x0, .int .u8 x1, .int .u8 x2, .int .u8 x3] ∧ (Lit.int .u8 x0).wf = true ∧ (Lit.int .u8 x1).wf = true ∧ (Lit.int .u8 x2).wf = true ∧ (Lit.int .u8 x3).wf = true := by
  obtain ⟨cs, rfl, hsz⟩ := okWide_arr Try.underlying27 hval
  obtain ⟨l⟩ := cs
  obtain ⟨fuel, hf⟩ := h
  have hl : l.length = 4 := hsz.trans (by kernel_rfl)
  obtain ⟨n0, y0, t0⟩ := trodE Try.underlying27 hf 0 (by decide) (o := 0) (c := 1) (by kernel_rfl) rfl
  obtain ⟨x0, g0, w0⟩ := leafI Try.underlying5 t0
  obtain ⟨n1, y1, t1⟩ := trodE Try.underlying27 hf 1 (by decide) (o := 1) (c := 1) (by kernel_rfl) rfl
  obtain ⟨x1, g1, w1⟩ := leafI Try.underlying5 t1
  obtain ⟨n2, y2, t2⟩ := trodE Try.underlying27 hf 2 (by decide) (o := 2) (c := 1) (by kernel_rfl) rfl
  obtain ⟨x2, g2, w2⟩ := leafI Try.underlying5 t2
  obtain ⟨n3, y3, t3⟩ := trodE Try.underlying27 hf 3 (by decide) (o := 3) (c := 1) (by kernel_rfl) rfl
  obtain ⟨x3, g3, w3⟩ := leafI Try.underlying5 t3
  refine ⟨x0, x1, x2, x3, ?_, w0, w1, w2, w3⟩
  clear hval hsz hf t0 t1 t2 t3
  match l, hl with
  | [c0, c1, c2, c3], _ =>
    simp [Value.cells] at g0 g1 g2 g3
    subst g0 g1 g2 g3
    rfl

set_option maxRecDepth 100000 in
theorem tzone_open2 {H : Type} {enc : TypeId × Value → H} {w : World} {base : Nat} {spare : Nat → Bool} {held : Bool} {r : Reach} {b0 : Nat} {v : Value} {d : DataW H} {p : List MemPlace} (hval : Value.okWide Try.prog w r b0 28 v) (h : DataW.Trod enc Try.prog w base spare held 28 v d p) :
    ∃ (x0 : Int) (x1 : Int) (x2 : Int), v = .agg #[.int .u8 x0, .int .u8 x1, .int .u8 x2] ∧ (Lit.int .u8 x0).wf = true ∧ (Lit.int .u8 x1).wf = true ∧ (Lit.int .u8 x2).wf = true := by
  obtain ⟨cs, rfl, hsz⟩ := okWide_arr Try.underlying28 hval
  obtain ⟨l⟩ := cs
  obtain ⟨fuel, hf⟩ := h
  have hl : l.length = 3 := hsz.trans (by kernel_rfl)
  obtain ⟨n0, y0, t0⟩ := trodE Try.underlying28 hf 0 (by decide) (o := 0) (c := 1) (by kernel_rfl) rfl
  obtain ⟨x0, g0, w0⟩ := leafI Try.underlying5 t0
  obtain ⟨n1, y1, t1⟩ := trodE Try.underlying28 hf 1 (by decide) (o := 1) (c := 1) (by kernel_rfl) rfl
  obtain ⟨x1, g1, w1⟩ := leafI Try.underlying5 t1
  obtain ⟨n2, y2, t2⟩ := trodE Try.underlying28 hf 2 (by decide) (o := 2) (c := 1) (by kernel_rfl) rfl
  obtain ⟨x2, g2, w2⟩ := leafI Try.underlying5 t2
  refine ⟨x0, x1, x2, ?_, w0, w1, w2⟩
  clear hval hsz hf t0 t1 t2
  match l, hl with
  | [c0, c1, c2], _ =>
    simp [Value.cells] at g0 g1 g2
    subst g0 g1 g2
    rfl



theorem tzone_walk (x0 : Int) (x1 : Int) (x2 : Int) (x3 : Int) (x4 : Int) (x5 : Int) (x6 : Int) (x7 : Int) (x8 : Int) (x9 : Int) (x10 : Int) (x11 : Int) (w : World) (wx0 : (Lit.int .u16 x0).wf = true) (wx1 : (Lit.int .u16 x1).wf = true) (wx2 : (Lit.int .u16 x2).wf = true) (wx3 : (Lit.int .i8 x3).wf = true) (wx4 : (Lit.int .i8 x4).wf = true) (wx5 : (Lit.int .u8 x5).wf = true) (wx6 : (Lit.int .u8 x6).wf = true) (wx7 : (Lit.int .u8 x7).wf = true) (wx8 : (Lit.int .u8 x8).wf = true) (wx9 : (Lit.int .u8 x9).wf = true) (wx10 : (Lit.int .u8 x10).wf = true) (wx11 : (Lit.int .u8 x11).wf = true) :
    Calls Try.prog 3 #[.agg #[.int .u16 x0, .int .u16 x1, .int .u16 x2, .int .i8 x3, .int .i8 x4], .agg #[.int .u8 x5, .int .u8 x6, .int .u8 x7, .int .u8 x8], .agg #[.int .u8 x9, .int .u8 x10, .int .u8 x11]] w fun e w' => e = .returned (.bool true) ∧ Below w.heap.size w w' := by
  have hM : ∀ f ∈ [10, 11], KnownB Try.prog f := fun f hf => by
    simp only [List.mem_cons, List.not_mem_nil, or_false] at hf
    rcases hf with rfl | rfl
    · exact Cx.CxKnAZ_known
    · exact Cx.CxKnAF0_known
  exact Cx.law_of (ρ := (⟨fun i => ([x0, x1, x2, x3, x4, x5, x6, x7, x8, x9, x10, x11] : List Int).getD i 0, fun i => ([] : List Bool).getD i false⟩ : Env)) (Cx.ctxOf_ok Cx.try_ok _) (Cx.memoU_ok Cx.up_known (Cx.memoB_ok hM)) Cx.tzone_ok (DT.good_of _ _ (Cx.tz_goal ⟨rfl⟩ (rng_u16 wx0) ⟨rfl⟩ (rng_u16 wx1) ⟨rfl⟩ (rng_u16 wx2) ⟨rfl⟩ (rng_i8 wx3) ⟨rfl⟩ (rng_i8 wx4) ⟨rfl⟩ (rng_u8 wx5) ⟨rfl⟩ (rng_u8 wx6) ⟨rfl⟩ (rng_u8 wx7) ⟨rfl⟩ (rng_u8 wx8) ⟨rfl⟩ (rng_u8 wx9) ⟨rfl⟩ (rng_u8 wx10) ⟨rfl⟩ (rng_u8 wx11))) (.cons (.agg (.cons (.int .u16 (.v 0)) (.cons (.int .u16 (.v 1)) (.cons (.int .u16 (.v 2)) (.cons (.int .i8 (.v 3)) (.cons (.int .i8 (.v 4)) .nil)))))) (.cons (.agg (.cons (.int .u8 (.v 5)) (.cons (.int .u8 (.v 6)) (.cons (.int .u8 (.v 7)) (.cons (.int .u8 (.v 8)) .nil))))) (.cons (.agg (.cons (.int .u8 (.v 9)) (.cons (.int .u8 (.v 10)) (.cons (.int .u8 (.v 11)) .nil)))) .nil))) w

theorem tzone_own : ownKnob Try.prog.godebug = none := by kernel_rfl
theorem tzone_laidOut : laidOutB Try.prog = true := by kernel_rfl

set_option maxRecDepth 100000 in
theorem tzone_lifted (os : Os) (started : os.Started) (H : Type) (enc : TypeId × Value → H) :
    ReturnsInHanded {} Try.checked os 3 .any (Rows.topZoneFitSpec.pre6 enc Try.prog Try.f3 Rows.topZoneFitRow.domain false) (Rows.topZoneFitSpec.post enc Try.prog Try.f3 false true false false) := by
  refine returnsInHanded_of_change (C := Try.checked) tzone_own started (by kernel_rfl) Try.func3
    (ChangeSpec.witness6 (enc := enc) (C := Try.checked) false ⟨#[], #[.agg #[.int .u16 0, .int .u16 0, .int .u16 0, .int .i8 0, .int .i8 0], .agg #[.int .u8 0, .int .u8 0, .int .u8 0, .int .u8 0], .agg #[.int .u8 0, .int .u8 0, .int .u8 0]], []⟩ 8 (by kernel_rfl) (by kernel_rfl) (by kernel_rfl) (by kernel_rfl)) ?_
  intro W base args ds gs before hval0 hW hcnd _
  have hval : ∀ (j : Nat) t v, Try.f3.params[j]? = some t → args[j]? = some v → Value.okWide Try.prog W .any base t v := hval0
  have hW' := hW
  obtain ⟨p, q, hA0, hV, rfl, hfz, hnd⟩ := hW
  have hA : DataW.TrodAll enc Try.prog W 0 (fun _ => true) true Try.f3.params.toList args.toList ds p := hA0
  rw [Try.params3] at hA hval
  obtain ⟨v0, vs0, d0, ds0, p0, q0, hargs, rfl, rfl, h0, r0⟩ := trodAll_cons hA
  obtain ⟨v1, vs1, d1, ds1, p1, q1, rfl, rfl, rfl, h1, r1⟩ := trodAll_cons r0
  obtain ⟨v2, vs2, d2, ds2, p2, q2, rfl, rfl, rfl, h2, r2⟩ := trodAll_cons r1
  obtain ⟨rfl, rfl, rfl⟩ := trodAll_nil r2
  obtain rfl : args = #[v0, v1, v2] := by cases args; simp_all
  obtain ⟨rfl, rfl⟩ := trodVars_none hV
  have k0 := h0
  have lt0 : ∀ x ∈ p0, x.block < W.heap.size := by obtain ⟨m, hm⟩ := k0; exact DataW.trod_lt m _ _ _ hm
  have k1 := h1
  have lt1 : ∀ x ∈ p1, x.block < W.heap.size := by obtain ⟨m, hm⟩ := k1; exact DataW.trod_lt m _ _ _ hm
  have k2 := h2
  have lt2 : ∀ x ∈ p2, x.block < W.heap.size := by obtain ⟨m, hm⟩ := k2; exact DataW.trod_lt m _ _ _ hm
  obtain ⟨x0, x1, x2, x3, x4, rfl, wx0, wx1, wx2, wx3, wx4⟩ := tzone_open0 (hval 0 26 v0 rfl rfl) h0
  obtain ⟨x5, x6, x7, x8, rfl, wx5, wx6, wx7, wx8⟩ := tzone_open1 (hval 1 27 v1 rfl rfl) h1
  obtain ⟨x9, x10, x11, rfl, wx9, wx10, wx11⟩ := tzone_open2 (hval 2 28 v2 rfl rfl) h2
  clear hA0 hval0
  refine (tzone_walk x0 x1 x2 x3 x4 x5 x6 x7 x8 x9 x10 x11 W wx0 wx1 wx2 wx3 wx4 wx5 wx6 wx7 wx8 wx9 wx10 wx11).mono fun e W' ⟨he, bel⟩ => ?_
  subst he
  exact ⟨_, rfl, _, _, _, [], _, [], hW', trodAll_mk1 (shut_bool Try.underlying4 _), (trodAll_cons_mk (Below.trod tzone_laidOut (by kernel_rfl) (of_decide_eq_true (by kernel_rfl)) k0 bel lt0) (trodAll_cons_mk (Below.trod tzone_laidOut (by kernel_rfl) (of_decide_eq_true (by kernel_rfl)) k1 bel lt1) (trodAll_cons_mk (Below.trod tzone_laidOut (by kernel_rfl) (of_decide_eq_true (by kernel_rfl)) k2 bel lt2) trodAll_mk0))), rfl, bel.frame _, fun h => by cases h⟩

theorem tzone_over : Rows.topZoneFitRow.holds Try.pinned (OpenSpec.ofChange Rows.topZoneFitSpec) :=
  OpenClaim.holds_of_wide 3 Try.f3 rfl rfl rfl rfl rfl rfl rfl ⟨rfl, rfl, rfl, rfl, rfl⟩ rfl rfl rfl rfl rfl (by kernel_rfl) Try.func3 (by kernel_rfl)
    (of_decide_eq_true (by kernel_rfl)) (by unfold Func.isWrapper; rw [if_neg (of_decide_eq_false (by kernel_rfl))]; exact ⟨rfl, rfl⟩)
    (fun os started H enc _ => tzone_lifted os started H enc)

theorem tzone_proved : Rows.TopZoneFitSaid := tzone_over
#print axioms tzone_proved

end Go.Proofs.Ytlijpnjnmapdlaa
