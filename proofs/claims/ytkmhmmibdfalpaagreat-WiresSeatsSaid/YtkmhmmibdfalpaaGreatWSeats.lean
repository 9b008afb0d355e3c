/- WiresSeats holds, for all inputs: by the evaluator at symbols. Made by tools/cxlaw.py. -/
import Derived.Test.YtkmhmmibdfalpaaGreatWSeatsTG
import Derived.Test.YtkmhmmibdfalpaaGreatCxKn05
import Derived.Test.YtkmhmmibdfalpaaGreatCxOpen
import Derived.Test.YtkmhmmibdfalpaaGreatCxLow
set_option linter.unusedVariables false
set_option linter.unusedSimpArgs false
namespace Go.Proofs.YtkmhmmibdfalpaaGreat
open Go.ChangeShapes Go.WideShapes Go.ChangeAt Go.RowKit
open Cx (Env IE BE DT KnownB)

set_option maxRecDepth 100000 in
theorem wseats_open0 {H : Type} {enc : TypeId × Value → H} {w : World} {base : Nat} {spare : Nat → Bool} {held : Bool} {r : Reach} {b0 : Nat} {v : Value} {d : DataW H} {p : List MemPlace} (hval : Value.okWide Tryz.prog w r b0 55 v) (h : DataW.Trod enc Tryz.prog w base spare held 55 v d p) :
    ∃ (x0 : Int) (x1 : Int) (x2 : Int) (x3 : Int) (x4 : Int) (x5 : Int) (x6 : Bool) (x7 : Int), v = .agg #[.int .i64 x0, .int .i64 x1, .int .i64 x2, .int .i64 x3, .int .i64 x4, .int .i64 x5, .bool x6, .int .i64 x7] ∧ (Lit.int .i64 x0).wf = true ∧ (Lit.int .i64 x1).wf = true ∧ (Lit.int .i64 x2).wf = true ∧ (Lit.int .i64 x3).wf = true ∧ (Lit.int .i64 x4).wf = true ∧ (Lit.int .i64 x5).wf = true ∧ (Lit.int .i64 x7).wf = true := by
  obtain ⟨cs, rfl, hsz⟩ := okWide_struct Tryz.underlying55 hval
  obtain ⟨l⟩ := cs
  obtain ⟨fuel, hf⟩ := h
  have hl : l.length = 8 := hsz.trans (by kernel_rfl)
  obtain ⟨n0, y0, t0⟩ := trodS Tryz.underlying55 hf 0 _ rfl (o := 0) (c := 1) (ty := 3) rfl rfl (by kernel_rfl)
  obtain ⟨x0, g0, w0⟩ := leafI Tryz.underlying3 t0
  obtain ⟨n1, y1, t1⟩ := trodS Tryz.underlying55 hf 1 _ rfl (o := 1) (c := 1) (ty := 3) rfl rfl (by kernel_rfl)
  obtain ⟨x1, g1, w1⟩ := leafI Tryz.underlying3 t1
  obtain ⟨n2, y2, t2⟩ := trodS Tryz.underlying55 hf 2 _ rfl (o := 2) (c := 1) (ty := 3) rfl rfl (by kernel_rfl)
  obtain ⟨x2, g2, w2⟩ := leafI Tryz.underlying3 t2
  obtain ⟨n3, y3, t3⟩ := trodS Tryz.underlying55 hf 3 _ rfl (o := 3) (c := 1) (ty := 3) rfl rfl (by kernel_rfl)
  obtain ⟨x3, g3, w3⟩ := leafI Tryz.underlying3 t3
  obtain ⟨n4, y4, t4⟩ := trodS Tryz.underlying55 hf 4 _ rfl (o := 4) (c := 1) (ty := 3) rfl rfl (by kernel_rfl)
  obtain ⟨x4, g4, w4⟩ := leafI Tryz.underlying3 t4
  obtain ⟨n5, y5, t5⟩ := trodS Tryz.underlying55 hf 5 _ rfl (o := 5) (c := 1) (ty := 3) rfl rfl (by kernel_rfl)
  obtain ⟨x5, g5, w5⟩ := leafI Tryz.underlying3 t5
  obtain ⟨n6, y6, t6⟩ := trodS Tryz.underlying55 hf 6 _ rfl (o := 6) (c := 1) (ty := 4) rfl rfl (by kernel_rfl)
  obtain ⟨x6, g6⟩ := leafB Tryz.underlying4 t6
  obtain ⟨n7, y7, t7⟩ := trodS Tryz.underlying55 hf 7 _ rfl (o := 7) (c := 1) (ty := 3) rfl rfl (by kernel_rfl)
  obtain ⟨x7, g7, w7⟩ := leafI Tryz.underlying3 t7
  refine ⟨x0, x1, x2, x3, x4, x5, x6, x7, ?_, w0, w1, w2, w3, w4, w5, w7⟩
  clear hval hsz hf t0 t1 t2 t3 t4 t5 t6 t7
  match l, hl with
  | [c0, c1, c2, c3, c4, c5, c6, c7], _ =>
    simp [Value.cells] at g0 g1 g2 g3 g4 g5 g6 g7
    subst g0 g1 g2 g3 g4 g5 g6 g7
    rfl

set_option maxRecDepth 100000 in
theorem wseats_open1 {H : Type} {enc : TypeId × Value → H} {w : World} {base : Nat} {spare : Nat → Bool} {held : Bool} {r : Reach} {b0 : Nat} {v : Value} {d : DataW H} {p : List MemPlace} (hval : Value.okWide Tryz.prog w r b0 45 v) (h : DataW.Trod enc Tryz.prog w base spare held 45 v d p) :
    ∃ (x0 : Int) (x1 : Int), v = .agg #[.int .i64 x0, .int .i64 x1] ∧ (Lit.int .i64 x0).wf = true ∧ (Lit.int .i64 x1).wf = true := by
  obtain ⟨cs, rfl, hsz⟩ := okWide_struct Tryz.underlying45 hval
  obtain ⟨l⟩ := cs
  obtain ⟨fuel, hf⟩ := h
  have hl : l.length = 2 := hsz.trans (by kernel_rfl)
  obtain ⟨n0, y0, t0⟩ := trodS Tryz.underlying45 hf 0 _ rfl (o := 0) (c := 1) (ty := 3) rfl rfl (by kernel_rfl)
  obtain ⟨x0, g0, w0⟩ := leafI Tryz.underlying3 t0
  obtain ⟨n1, y1, t1⟩ := trodS Tryz.underlying45 hf 1 _ rfl (o := 1) (c := 1) (ty := 3) rfl rfl (by kernel_rfl)
  obtain ⟨x1, g1, w1⟩ := leafI Tryz.underlying3 t1
  refine ⟨x0, x1, ?_, w0, w1⟩
  clear hval hsz hf t0 t1
  match l, hl with
  | [c0, c1], _ =>
    simp [Value.cells] at g0 g1
    subst g0 g1
    rfl

noncomputable def wseats_C : Cx.Ctx := Cx.ctxOf Tryz.prog (Cx.memoR 38 (Cx.memoR 34 (Cx.memoB [6])))

set_option maxRecDepth 100000 in
theorem wseats_ok : DT.ok (Cx.runOf wseats_C 1000 5 [.agg [.int .i64 (.v 0), .int .i64 (.v 1), .int .i64 (.v 2), .int .i64 (.v 3), .int .i64 (.v 4), .int .i64 (.v 5), .bool (.v 0), .int .i64 (.v 6)], .agg [.int .i64 (.v 7), .int .i64 (.v 8)], .int .i64 (.v 9)]) Cx.wsTree [] [] = true := by kernel_rfl

theorem wseats_walk (x0 : Int) (x1 : Int) (x2 : Int) (x3 : Int) (x4 : Int) (x5 : Int) (b0 : Bool) (x6 : Int) (x7 : Int) (x8 : Int) (x9 : Int) (w : World) (wx0 : (Lit.int .i64 x0).wf = true) (wx1 : (Lit.int .i64 x1).wf = true) (wx2 : (Lit.int .i64 x2).wf = true) (wx3 : (Lit.int .i64 x3).wf = true) (wx4 : (Lit.int .i64 x4).wf = true) (wx5 : (Lit.int .i64 x5).wf = true) (wx6 : (Lit.int .i64 x6).wf = true) (wx7 : (Lit.int .i64 x7).wf = true) (wx8 : (Lit.int .i64 x8).wf = true) (wx9 : (Lit.int .i64 x9).wf = true) :
    Calls Tryz.prog 5 #[.agg #[.int .i64 x0, .int .i64 x1, .int .i64 x2, .int .i64 x3, .int .i64 x4, .int .i64 x5, .bool b0, .int .i64 x6], .agg #[.int .i64 x7, .int .i64 x8], .int .i64 x9] w fun e w' => e = .returned (.bool true) ∧ Below w.heap.size w w' := by
  have hM : ∀ f ∈ [6], KnownB Tryz.prog f := fun f hf => by
    simp only [List.mem_cons, List.not_mem_nil, or_false] at hf
    subst hf
    · exact Cx.CxKn05_known
  exact Cx.law_of (ρ := (⟨fun i => ([x0, x1, x2, x3, x4, x5, x6, x7, x8, x9] : List Int).getD i 0, fun i => ([b0] : List Bool).getD i false⟩ : Env)) (Cx.ctxOf_ok Cx.try_ok _) (Cx.memoR_ok Cx.lowest_known (Cx.memoR_ok Cx.ratio_known (Cx.memoB_ok hM))) wseats_ok (DT.good_of _ _ (Cx.ws_goal ⟨rfl⟩ (rng_i64 wx0) ⟨rfl⟩ (rng_i64 wx1) ⟨rfl⟩ (rng_i64 wx2) ⟨rfl⟩ (rng_i64 wx3) ⟨rfl⟩ (rng_i64 wx4) ⟨rfl⟩ (rng_i64 wx5) ⟨rfl⟩ (rng_i64 wx6) ⟨rfl⟩ (rng_i64 wx7) ⟨rfl⟩ (rng_i64 wx8) ⟨rfl⟩ (rng_i64 wx9))) (.cons (.agg (.cons (.int .i64 (.v 0)) (.cons (.int .i64 (.v 1)) (.cons (.int .i64 (.v 2)) (.cons (.int .i64 (.v 3)) (.cons (.int .i64 (.v 4)) (.cons (.int .i64 (.v 5)) (.cons (.bool (.v 0)) (.cons (.int .i64 (.v 6)) .nil))))))))) (.cons (.agg (.cons (.int .i64 (.v 7)) (.cons (.int .i64 (.v 8)) .nil))) (.cons (.int .i64 (.v 9)) .nil))) w

theorem wseats_own : ownKnob Tryz.prog.godebug = none := by kernel_rfl
theorem wseats_laidOut : laidOutB Tryz.prog = true := by kernel_rfl

set_option maxRecDepth 100000 in
theorem wseats_lifted (os : Os) (started : os.Started) (H : Type) (enc : TypeId × Value → H) :
    ReturnsInHanded {} Tryz.checked os 5 .any (Rows.wiresSeatsSpec.pre6 enc Tryz.prog Tryz.f5 Rows.wiresSeatsRow.domain false) (Rows.wiresSeatsSpec.post enc Tryz.prog Tryz.f5 false true false false) := by
  refine returnsInHanded_of_change (C := Tryz.checked) wseats_own started (by kernel_rfl) Tryz.func5
    (ChangeSpec.witness6 (enc := enc) (C := Tryz.checked) false ⟨#[], #[.agg #[.int .i64 0, .int .i64 0, .int .i64 0, .int .i64 0, .int .i64 0, .int .i64 0, .bool false, .int .i64 0], .agg #[.int .i64 0, .int .i64 0], .int .i64 0], []⟩ 8 (by kernel_rfl) (by kernel_rfl) (by kernel_rfl) (by kernel_rfl)) ?_
  intro W base args ds gs before hval0 hW hcnd _
  have hval : ∀ (j : Nat) t v, Tryz.f5.params[j]? = some t → args[j]? = some v → Value.okWide Tryz.prog W .any base t v := hval0
  have hW' := hW
  obtain ⟨p, q, hA0, hV, rfl, hfz, hnd⟩ := hW
  have hA : DataW.TrodAll enc Tryz.prog W 0 (fun _ => true) true Tryz.f5.params.toList args.toList ds p := hA0
  rw [Tryz.params5] at hA hval
  obtain ⟨v0, vs0, d0, ds0, p0, q0, hargs, rfl, rfl, h0, r0⟩ := trodAll_cons hA
  obtain ⟨v1, vs1, d1, ds1, p1, q1, rfl, rfl, rfl, h1, r1⟩ := trodAll_cons r0
  obtain ⟨v2, vs2, d2, ds2, p2, q2, rfl, rfl, rfl, h2, r2⟩ := trodAll_cons r1
  obtain ⟨rfl, rfl, rfl⟩ := trodAll_nil r2
  obtain rfl : args = #[v0, v1, v2] := by cases args; simp_all
  obtain ⟨rfl, rfl⟩ := trodVars_none hV
  have k0 := h0
  have lt0 : ∀ x ∈ p0, x.block < W.heap.size := by obtain ⟨m, hm⟩ := k0; exact DataW.trod_lt m _ _ _ hm
  have k1 := h1
  have lt1 : ∀ x ∈ p1, x.block < W.heap.size := by obtain ⟨m, hm⟩ := k1; exact DataW.trod_lt m _ _ _ hm
  have k2 := h2
  have lt2 : ∀ x ∈ p2, x.block < W.heap.size := by obtain ⟨m, hm⟩ := k2; exact DataW.trod_lt m _ _ _ hm
  obtain ⟨x0, x1, x2, x3, x4, x5, b0, x6, rfl, wx0, wx1, wx2, wx3, wx4, wx5, wx6⟩ := wseats_open0 (hval 0 55 v0 rfl rfl) h0
  obtain ⟨x7, x8, rfl, wx7, wx8⟩ := wseats_open1 (hval 1 45 v1 rfl rfl) h1
  obtain ⟨x9, rfl, rfl, rfl, wx9⟩ := open_int Tryz.underlying3 (hval 2 3 v2 rfl rfl) h2
  clear hA0 hval0
  refine (wseats_walk x0 x1 x2 x3 x4 x5 b0 x6 x7 x8 x9 W wx0 wx1 wx2 wx3 wx4 wx5 wx6 wx7 wx8 wx9).mono fun e W' ⟨he, bel⟩ => ?_
  subst he
  exact ⟨_, rfl, _, _, _, [], _, [], hW', trodAll_mk1 (shut_bool Tryz.underlying4 _), (trodAll_cons_mk (Below.trod wseats_laidOut (by kernel_rfl) (of_decide_eq_true (by kernel_rfl)) k0 bel lt0) (trodAll_cons_mk (Below.trod wseats_laidOut (by kernel_rfl) (of_decide_eq_true (by kernel_rfl)) k1 bel lt1) (trodAll_cons_mk (Below.trod wseats_laidOut (by kernel_rfl) (of_decide_eq_true (by kernel_rfl)) k2 bel lt2) trodAll_mk0))), rfl, bel.frame _, fun h => by cases h⟩

theorem wseats_over : Rows.wiresSeatsRow.holds Tryz.pinned (OpenSpec.ofChange Rows.wiresSeatsSpec) :=
  OpenClaim.holds_of_wide 5 Tryz.f5 rfl rfl rfl rfl rfl rfl rfl ⟨rfl, rfl, rfl, rfl, rfl⟩ rfl rfl rfl rfl rfl (by kernel_rfl) Tryz.func5 (by kernel_rfl)
    (of_decide_eq_true (by kernel_rfl)) (by unfold Func.isWrapper; rw [if_neg (of_decide_eq_false (by kernel_rfl))]; exact ⟨rfl, rfl⟩)
    (fun os started H enc _ => wseats_lifted os started H enc)

theorem wseats_proved : Rows.WiresSeatsSaid := wseats_over
#print axioms wseats_proved

end Go.Proofs.YtkmhmmibdfalpaaGreat
