/- FitWitness holds, for all inputs: by the evaluator at symbols. Made by tools/cxlaw.py. -/
import Derived.Test.YtbgmkhcjghmncaaFWitnessTG
import Derived.Test.YtbgmkhcjghmncaaFWitnessK
import Derived.Test.YtbgmkhcjghmncaaCxKn03
import Derived.Test.YtbgmkhcjghmncaaCxOpen
import Derived.Test.YtbgmkhcjghmncaaCxUp
set_option linter.unusedVariables false
set_option linter.unusedSimpArgs false
namespace Go.Proofs.Ytbgmkhcjghmncaa
open Go.ChangeShapes Go.WideShapes Go.ChangeAt Go.RowKit
open Cx (Env IE BE DT KnownB)

set_option maxRecDepth 100000 in
theorem fwitness_open0 {H : Type} {enc : TypeId × Value → H} {w : World} {base : Nat} {spare : Nat → Bool} {held : Bool} {r : Reach} {b0 : Nat} {v : Value} {d : DataW H} {p : List MemPlace} (hval : Value.okWide Try.prog w r b0 27 v) (h : DataW.Trod enc Try.prog w base spare held 27 v d p) :
    ∃ (x0 : Int) (x1 : Int) (x2 : Int) (a3 : Option Addr) (n3 c3 : Nat) (x4 : Int) (x5 : Int), v = .agg #[.int .u16 x0, .int .u16 x1, .int .u16 x2, .slice a3 n3 c3, .int .i8 x4, .int .i8 x5] ∧ (Lit.int .u16 x0).wf = true ∧ (Lit.int .u16 x1).wf = true ∧ (Lit.int .u16 x2).wf = true ∧ n3 ≤ 9223372036854775807 ∧ (Lit.int .i8 x4).wf = true ∧ (Lit.int .i8 x5).wf = true := by
  obtain ⟨cs, rfl, hsz⟩ := okWide_struct Try.underlying27 hval
  obtain ⟨l⟩ := cs
  obtain ⟨fuel, hf⟩ := h
  have hl : l.length = 6 := hsz.trans (by kernel_rfl)
  obtain ⟨nA4, yA4, tA4⟩ := trodS Try.underlying27 hf 4 _ rfl (o := 4) (c := 2) (ty := 25) rfl rfl (by kernel_rfl)
  obtain ⟨n0, y0, t0⟩ := trodS Try.underlying27 hf 0 _ rfl (o := 0) (c := 1) (ty := 22) rfl rfl (by kernel_rfl)
  obtain ⟨x0, g0, w0⟩ := leafI Try.underlying22 t0
  obtain ⟨n1, y1, t1⟩ := trodS Try.underlying27 hf 1 _ rfl (o := 1) (c := 1) (ty := 22) rfl rfl (by kernel_rfl)
  obtain ⟨x1, g1, w1⟩ := leafI Try.underlying22 t1
  obtain ⟨n2, y2, t2⟩ := trodS Try.underlying27 hf 2 _ rfl (o := 2) (c := 1) (ty := 22) rfl rfl (by kernel_rfl)
  obtain ⟨x2, g2, w2⟩ := leafI Try.underlying22 t2
  obtain ⟨n3, y3, t3⟩ := trodS Try.underlying27 hf 3 _ rfl (o := 3) (c := 1) (ty := 23) rfl rfl (by kernel_rfl)
  obtain ⟨a3, n3, c3, g3, w3⟩ := leafL Try.underlying23 t3
  obtain ⟨n4, y4, t4⟩ := trodE Try.underlying25 tA4 0 (by decide) (o := 0) (c := 1) (by kernel_rfl) rfl
  rw [sub_of (s := 4) rfl (by decide)] at t4
  obtain ⟨x4, g4, w4⟩ := leafI Try.underlying24 t4
  obtain ⟨n5, y5, t5⟩ := trodE Try.underlying25 tA4 1 (by decide) (o := 1) (c := 1) (by kernel_rfl) rfl
  rw [sub_of (s := 5) rfl (by decide)] at t5
  obtain ⟨x5, g5, w5⟩ := leafI Try.underlying24 t5
  refine ⟨x0, x1, x2, a3, n3, c3, x4, x5, ?_, w0, w1, w2, w3, w4, w5⟩
  clear hval hsz hf t0 t1 t2 t3 t4 t5
  match l, hl with
  | [k0, k1, k2, k3, k4, k5], _ =>
    simp [Value.cells] at g0 g1 g2 g3 g4 g5
    subst g0 g1 g2 g3 g4 g5
    rfl

set_option maxRecDepth 100000 in
theorem fwitness_open1 {H : Type} {enc : TypeId × Value → H} {w : World} {base : Nat} {spare : Nat → Bool} {held : Bool} {r : Reach} {b0 : Nat} {v : Value} {d : DataW H} {p : List MemPlace} (hval : Value.okWide Try.prog w r b0 29 v) (h : DataW.Trod enc Try.prog w base spare held 29 v d p) :
    ∃ (x0 : Int) (x1 : Int), v = .agg #[.int .i16 x0, .int .i16 x1] ∧ (Lit.int .i16 x0).wf = true ∧ (Lit.int .i16 x1).wf = true := by
  obtain ⟨cs, rfl, hsz⟩ := okWide_arr Try.underlying29 hval
  obtain ⟨l⟩ := cs
  obtain ⟨fuel, hf⟩ := h
  have hl : l.length = 2 := hsz.trans (by kernel_rfl)
  obtain ⟨n0, y0, t0⟩ := trodE Try.underlying29 hf 0 (by decide) (o := 0) (c := 1) (by kernel_rfl) rfl
  obtain ⟨x0, g0, w0⟩ := leafI Try.underlying28 t0
  obtain ⟨n1, y1, t1⟩ := trodE Try.underlying29 hf 1 (by decide) (o := 1) (c := 1) (by kernel_rfl) rfl
  obtain ⟨x1, g1, w1⟩ := leafI Try.underlying28 t1
  refine ⟨x0, x1, ?_, w0, w1⟩
  clear hval hsz hf t0 t1
  match l, hl with
  | [k0, k1], _ =>
    simp [Value.cells] at g0 g1
    subst g0 g1
    rfl

set_option maxRecDepth 100000 in
theorem fwitness_open2 {H : Type} {enc : TypeId × Value → H} {w : World} {base : Nat} {spare : Nat → Bool} {held : Bool} {r : Reach} {b0 : Nat} {v : Value} {d : DataW H} {p : List MemPlace} (hval : Value.okWide Try.prog w r b0 25 v) (h : DataW.Trod enc Try.prog w base spare held 25 v d p) :
    ∃ (x0 : Int) (x1 : Int), v = .agg #[.int .i8 x0, .int .i8 x1] ∧ (Lit.int .i8 x0).wf = true ∧ (Lit.int .i8 x1).wf = true := by
  obtain ⟨cs, rfl, hsz⟩ := okWide_arr Try.underlying25 hval
  obtain ⟨l⟩ := cs
  obtain ⟨fuel, hf⟩ := h
  have hl : l.length = 2 := hsz.trans (by kernel_rfl)
  obtain ⟨n0, y0, t0⟩ := trodE Try.underlying25 hf 0 (by decide) (o := 0) (c := 1) (by kernel_rfl) rfl
  obtain ⟨x0, g0, w0⟩ := leafI Try.underlying24 t0
  obtain ⟨n1, y1, t1⟩ := trodE Try.underlying25 hf 1 (by decide) (o := 1) (c := 1) (by kernel_rfl) rfl
  obtain ⟨x1, g1, w1⟩ := leafI Try.underlying24 t1
  refine ⟨x0, x1, ?_, w0, w1⟩
  clear hval hsz hf t0 t1
  match l, hl with
  | [k0, k1], _ =>
    simp [Value.cells] at g0 g1
    subst g0 g1
    rfl



theorem fwitness_walk (x0 : Int) (x1 : Int) (x2 : Int) (a3 : Option Addr) (n3 c3 : Nat) (x4 : Int) (x5 : Int) (x6 : Int) (x7 : Int) (x8 : Int) (x9 : Int) (w : World) (wx0 : (Lit.int .u16 x0).wf = true) (wx1 : (Lit.int .u16 x1).wf = true) (wx2 : (Lit.int .u16 x2).wf = true) (wx3 : n3 ≤ 9223372036854775807) (wx4 : (Lit.int .i8 x4).wf = true) (wx5 : (Lit.int .i8 x5).wf = true) (wx6 : (Lit.int .i16 x6).wf = true) (wx7 : (Lit.int .i16 x7).wf = true) (wx8 : (Lit.int .i8 x8).wf = true) (wx9 : (Lit.int .i8 x9).wf = true) :
    Calls Try.prog 3 #[.agg #[.int .u16 x0, .int .u16 x1, .int .u16 x2, .slice a3 n3 c3, .int .i8 x4, .int .i8 x5], .agg #[.int .i16 x6, .int .i16 x7], .agg #[.int .i8 x8, .int .i8 x9]] w fun e w' => e = .returned (.bool true) ∧ Below w.heap.size w w' := by
  have hM : ∀ f ∈ [8], KnownB Try.prog f := fun f hf => by
    simp only [List.mem_cons, List.not_mem_nil, or_false] at hf
    subst hf
    · exact Cx.CxKn03_known
  exact Cx.law_of (ρ := (⟨fun i => ([x0, x1, x2, (n3 : Int), x4, x5, x6, x7, x8, x9] : List Int).getD i 0, fun i => ([] : List Bool).getD i false⟩ : Env)) (Cx.ctxOf_ok Cx.try_ok _) (Cx.memoU_ok Cx.up_known (Cx.memoB_ok hM)) Cx.fwitness_ok (DT.good_of _ _ (Cx.fw_goal ⟨rfl⟩ (rng_u16 wx0) ⟨rfl⟩ (rng_u16 wx1) ⟨rfl⟩ (rng_u16 wx2) ⟨rfl⟩ (rng_len wx3) ⟨rfl⟩ (rng_i8 wx4) ⟨rfl⟩ (rng_i8 wx5) ⟨rfl⟩ (rng_i16 wx6) ⟨rfl⟩ (rng_i16 wx7) ⟨rfl⟩ (rng_i8 wx8) ⟨rfl⟩ (rng_i8 wx9))) (.cons (.agg (.cons (.int .u16 (.v 0)) (.cons (.int .u16 (.v 1)) (.cons (.int .u16 (.v 2)) (.cons (.sln a3 c3 rfl) (.cons (.int .i8 (.v 4)) (.cons (.int .i8 (.v 5)) .nil))))))) (.cons (.agg (.cons (.int .i16 (.v 6)) (.cons (.int .i16 (.v 7)) .nil))) (.cons (.agg (.cons (.int .i8 (.v 8)) (.cons (.int .i8 (.v 9)) .nil))) .nil))) w

theorem fwitness_own : ownKnob Try.prog.godebug = none := by kernel_rfl
theorem fwitness_laidOut : laidOutB Try.prog = true := by kernel_rfl

set_option maxRecDepth 100000 in
theorem fwitness_lifted (os : Os) (started : os.Started) (H : Type) (enc : TypeId × Value → H) :
    ReturnsInHanded {} Try.checked os 3 .any (Rows.fitWitnessSpec.pre6 enc Try.prog Try.f3 Rows.fitWitnessRow.domain false) (Rows.fitWitnessSpec.post enc Try.prog Try.f3 false true false false) := by
  refine returnsInHanded_of_change (C := Try.checked) fwitness_own started (by kernel_rfl) Try.func3
    (ChangeSpec.witness6 (enc := enc) (C := Try.checked) false ⟨#[], #[.agg #[.int .u16 0, .int .u16 0, .int .u16 0, .slice none 0 0, .int .i8 0, .int .i8 0], .agg #[.int .i16 0, .int .i16 0], .agg #[.int .i8 0, .int .i8 0]], []⟩ 8 (by kernel_rfl) (by kernel_rfl) (by kernel_rfl) (by kernel_rfl)) ?_
  intro W base args ds gs before hval0 hW hcnd _
  have hval : ∀ (j : Nat) t v, Try.f3.params[j]? = some t → args[j]? = some v → Value.okWide Try.prog W .any base t v := hval0
  have hW' := hW
  obtain ⟨p, q, hA0, hV, rfl, hfz, hnd⟩ := hW
  have hA : DataW.TrodAll enc Try.prog W 0 (fun _ => true) true Try.f3.params.toList args.toList ds p := hA0
  rw [Try.params3] at hA hval
  obtain ⟨v0, vs0, d0, ds0, p0, q0, hargs, rfl, rfl, h0, r0⟩ := trodAll_cons hA
  obtain ⟨v1, vs1, d1, ds1, p1, q1, rfl, rfl, rfl, h1, r1⟩ := trodAll_cons r0
  obtain ⟨v2, vs2, d2, ds2, p2, q2, rfl, rfl, rfl, h2, r2⟩ := trodAll_cons r1
  obtain ⟨rfl, rfl, rfl⟩ := trodAll_nil r2
  obtain rfl : args = #[v0, v1, v2] := by cases args; simp_all
  obtain ⟨rfl, rfl⟩ := trodVars_none hV
  have k0 := h0
  have lt0 : ∀ x ∈ p0, x.block < W.heap.size := by obtain ⟨m, hm⟩ := k0; exact DataW.trod_lt m _ _ _ hm
  have k1 := h1
  have lt1 : ∀ x ∈ p1, x.block < W.heap.size := by obtain ⟨m, hm⟩ := k1; exact DataW.trod_lt m _ _ _ hm
  have k2 := h2
  have lt2 : ∀ x ∈ p2, x.block < W.heap.size := by obtain ⟨m, hm⟩ := k2; exact DataW.trod_lt m _ _ _ hm
  obtain ⟨x0, x1, x2, a3, n3, c3, x4, x5, rfl, wx0, wx1, wx2, wx3, wx4, wx5⟩ := fwitness_open0 (hval 0 27 v0 rfl rfl) h0
  obtain ⟨x6, x7, rfl, wx6, wx7⟩ := fwitness_open1 (hval 1 29 v1 rfl rfl) h1
  obtain ⟨x8, x9, rfl, wx8, wx9⟩ := fwitness_open2 (hval 2 25 v2 rfl rfl) h2
  clear hA0 hval0
  refine (fwitness_walk x0 x1 x2 a3 n3 c3 x4 x5 x6 x7 x8 x9 W wx0 wx1 wx2 wx3 wx4 wx5 wx6 wx7 wx8 wx9).mono fun e W' ⟨he, bel⟩ => ?_
  subst he
  exact ⟨_, rfl, _, _, _, [], _, [], hW', trodAll_mk1 (shut_bool Try.underlying4 _), (trodAll_cons_mk (Below.trod fwitness_laidOut (by kernel_rfl) (of_decide_eq_true (by kernel_rfl)) k0 bel lt0) (trodAll_cons_mk (Below.trod fwitness_laidOut (by kernel_rfl) (of_decide_eq_true (by kernel_rfl)) k1 bel lt1) (trodAll_cons_mk (Below.trod fwitness_laidOut (by kernel_rfl) (of_decide_eq_true (by kernel_rfl)) k2 bel lt2) trodAll_mk0))), rfl, bel.frame _, fun h => by cases h⟩

theorem fwitness_over : Rows.fitWitnessRow.holds Try.pinned (OpenSpec.ofChange Rows.fitWitnessSpec) :=
  OpenClaim.holds_of_wide 3 Try.f3 rfl rfl rfl rfl rfl rfl rfl ⟨rfl, rfl, rfl, rfl, rfl⟩ rfl rfl rfl rfl rfl (by kernel_rfl) Try.func3 (by kernel_rfl)
    (of_decide_eq_true (by kernel_rfl)) (by unfold Func.isWrapper; rw [if_neg (of_decide_eq_false (by kernel_rfl))]; exact ⟨rfl, rfl⟩)
    (fun os started H enc _ => fwitness_lifted os started H enc)

theorem fwitness_proved : Rows.FitWitnessSaid := fwitness_over
#print axioms fwitness_proved

end Go.Proofs.Ytbgmkhcjghmncaa
