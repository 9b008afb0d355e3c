/- DieJudges holds, for all inputs: by its automaton. Made by tools/cxlaws.py. -/
import Derived.Test.YthagjhadjpangaaPkDJudges7

namespace Go.Proofs.Ythagjhadjpangaa
set_option linter.unusedVariables false
set_option linter.unusedSimpArgs false
open Go.ChangeShapes Go.WideShapes Go.ChangeAt Go.RowKit
open Cx (Env IE BE DT KnownB)
set_option maxRecDepth 100000 in
theorem djudges_open0 {H : Type} {enc : TypeId × Value → H} {w : World} {base : Nat} {spare : Nat → Bool} {held : Bool} {r : Reach} {b0 : Nat} {vv : Value} {d : DataW H} {p : List MemPlace} (hval : Value.okWide Try.prog w r b0 26 vv) (h : DataW.Trod enc Try.prog w base spare held 26 vv d p) :
    ∃ y0 : Cx.RowW, vv = .agg #[.bool (y0.g 0), .int .i64 (y0.c 1), .int .i64 (y0.c 2), .int .i64 (y0.c 3), .int .i64 (y0.c 4), y0.s 5] ∧ Cx.okW w [.bool, .int .i64, .int .i64, .int .i64, .int .i64, .tab [some .i64, some .i64]] y0 :=
  Cx.open_agg (ks := [.bool, .int .i64, .int .i64, .int .i64, .int .i64, .tab [some .i64, some .i64]]) (dp := 12) (by kernel_rfl) (.inl ⟨_, Try.underlying26⟩) hval h
set_option maxRecDepth 100000 in
theorem djudges_open2 {H : Type} {enc : TypeId × Value → H} {w : World} {base : Nat} {spare : Nat → Bool} {held : Bool} {r : Reach} {b0 : Nat} {vv : Value} {d : DataW H} {p : List MemPlace} (hval : Value.okWide Try.prog w r b0 54 vv) (h : DataW.Trod enc Try.prog w base spare held 54 vv d p) :
    ∃ y2 : Cx.RowW, vv = .agg #[y2.s 0, y2.s 1] ∧ Cx.okW w [.tab [some .i64, some .i64], .tab [some .i64]] y2 :=
  Cx.open_agg (ks := [.tab [some .i64, some .i64], .tab [some .i64]]) (dp := 12) (by kernel_rfl) (.inl ⟨_, Try.underlying54⟩) hval h
theorem djudges_walk (y0 : Cx.RowW) (v1 : Value) (y1 : List Cx.RowV) (y2 : Cx.RowW) (w : World) (g0 : Cx.okW w [.bool, .int .i64, .int .i64, .int .i64, .int .i64, .tab [some .i64, some .i64]] y0) (g1 : Cx.SlT [some .i64, some .i64, some .i64, some .i64] w v1 y1) (g2 : Cx.okW w [.tab [some .i64, some .i64], .tab [some .i64]] y2) :
    Calls Try.prog 6 #[.agg #[.bool (y0.g 0), .int .i64 (y0.c 1), .int .i64 (y0.c 2), .int .i64 (y0.c 3), .int .i64 (y0.c 4), y0.s 5], v1, .agg #[y2.s 0, y2.s 1]] w fun e w' => e = .returned (.bool true) ∧ Below w.heap.size w w' := by
  have hLw : Cx.Laid w := fun _ h => by cases h
  obtain ⟨n, v, hv, hp⟩ := Cx.dlj_run (y0.g 0) (y0.c 1) (y0.c 2) (y0.c 3) (y0.c 4) (Cx.tabV (y0.t 5)).n ((Cx.tabV (y0.t 5)).c 0) ((Cx.tabV (y0.t 5)).c 1) (Cx.tabV y1).n ((Cx.tabV y1).c 0) ((Cx.tabV y1).c 1) ((Cx.tabV y1).c 2) ((Cx.tabV y1).c 3) (Cx.tabV (y2.t 0)).n ((Cx.tabV (y2.t 0)).c 0) ((Cx.tabV (y2.t 0)).c 1) (Cx.tabV (y2.t 1)).n ((Cx.tabV (y2.t 1)).c 0) (rng_i64 (g0.1 1 .i64 rfl)) (rng_i64 (g0.1 2 .i64 rfl)) (rng_i64 (g0.1 3 .i64 rfl)) (rng_i64 (g0.1 4 .i64 rfl)) (Cx.SlT.len (g0.2 5 _ rfl)) (fun i => rng_i64 (Cx.SlT.wf (g0.2 5 _ rfl) 0 .i64 rfl rfl i)) (fun i => rng_i64 (Cx.SlT.wf (g0.2 5 _ rfl) 1 .i64 rfl rfl i)) (Cx.SlT.len g1) (fun i => rng_i64 (Cx.SlT.wf g1 0 .i64 rfl rfl i)) (fun i => rng_i64 (Cx.SlT.wf g1 1 .i64 rfl rfl i)) (fun i => rng_i64 (Cx.SlT.wf g1 2 .i64 rfl rfl i)) (fun i => rng_i64 (Cx.SlT.wf g1 3 .i64 rfl rfl i)) (Cx.SlT.len (g2.2 0 _ rfl)) (fun i => rng_i64 (Cx.SlT.wf (g2.2 0 _ rfl) 0 .i64 rfl rfl i)) (fun i => rng_i64 (Cx.SlT.wf (g2.2 0 _ rfl) 1 .i64 rfl rfl i)) (Cx.SlT.len (g2.2 1 _ rfl)) (fun i => rng_i64 (Cx.SlT.wf (g2.2 1 _ rfl) 0 .i64 rfl rfl i))
  have hS : ∀ s ∈ ([⟨(y0.s 5), [some .i64, some .i64], (y0.t 5)⟩, ⟨v1, [some .i64, some .i64, some .i64, some .i64], y1⟩, ⟨(y2.s 0), [some .i64, some .i64], (y2.t 0)⟩, ⟨(y2.s 1), [some .i64], (y2.t 1)⟩] : List Cx.SlV), Cx.SlT s.ks w s.v s.xs := fun s hs => by
    simp only [List.mem_cons, List.not_mem_nil, or_false] at hs
    rcases hs with rfl | rfl | rfl | rfl
    · exact (g0.2 5 _ rfl)
    · exact g1
    · exact (g2.2 0 _ rfl)
    · exact (g2.2 1 _ rfl)
  exact Cx.Ctr.law (ρ := ⟨fun _ => 0, fun _ => false⟩) (σ := Cx.sigV w ([⟨(y0.s 5), [some .i64, some .i64], (y0.t 5)⟩, ⟨v1, [some .i64, some .i64, some .i64, some .i64], y1⟩, ⟨(y2.s 0), [some .i64, some .i64], (y2.t 0)⟩, ⟨(y2.s 1), [some .i64], (y2.t 1)⟩] : List Cx.SlV)) (e := .x v) (Cx.dljctr (y0.g 0) (y0.c 1) (y0.c 2) (y0.c 3) (y0.c 4) (Cx.tabV (y0.t 5)).n ((Cx.tabV (y0.t 5)).c 0) ((Cx.tabV (y0.t 5)).c 1) (Cx.tabV y1).n ((Cx.tabV y1).c 0) ((Cx.tabV y1).c 1) ((Cx.tabV y1).c 2) ((Cx.tabV y1).c 3) (Cx.tabV (y2.t 0)).n ((Cx.tabV (y2.t 0)).c 0) ((Cx.tabV (y2.t 0)).c 1) (Cx.tabV (y2.t 1)).n ((Cx.tabV (y2.t 1)).c 0) Cx.dljmem hv) hp (.cons (.agg (.cons (.bool (.x (y0.g 0))) (.cons (.int .i64 (.x (y0.c 1))) (.cons (.int .i64 (.x (y0.c 2))) (.cons (.int .i64 (.x (y0.c 3))) (.cons (.int .i64 (.x (y0.c 4))) (.cons (Cx.SlT.rel (S := ([⟨(y0.s 5), [some .i64, some .i64], (y0.t 5)⟩, ⟨v1, [some .i64, some .i64, some .i64, some .i64], y1⟩, ⟨(y2.s 0), [some .i64, some .i64], (y2.t 0)⟩, ⟨(y2.s 1), [some .i64], (y2.t 1)⟩] : List Cx.SlV)) 0 rfl (g0.2 5 _ rfl)) .nil))))))) (.cons (Cx.SlT.rel (S := ([⟨(y0.s 5), [some .i64, some .i64], (y0.t 5)⟩, ⟨v1, [some .i64, some .i64, some .i64, some .i64], y1⟩, ⟨(y2.s 0), [some .i64, some .i64], (y2.t 0)⟩, ⟨(y2.s 1), [some .i64], (y2.t 1)⟩] : List Cx.SlV)) 1 rfl g1) (.cons (.agg (.cons (Cx.SlT.rel (S := ([⟨(y0.s 5), [some .i64, some .i64], (y0.t 5)⟩, ⟨v1, [some .i64, some .i64, some .i64, some .i64], y1⟩, ⟨(y2.s 0), [some .i64, some .i64], (y2.t 0)⟩, ⟨(y2.s 1), [some .i64], (y2.t 1)⟩] : List Cx.SlV)) 2 rfl (g2.2 0 _ rfl)) (.cons (Cx.SlT.rel (S := ([⟨(y0.s 5), [some .i64, some .i64], (y0.t 5)⟩, ⟨v1, [some .i64, some .i64, some .i64, some .i64], y1⟩, ⟨(y2.s 0), [some .i64, some .i64], (y2.t 0)⟩, ⟨(y2.s 1), [some .i64], (y2.t 1)⟩] : List Cx.SlV)) 3 rfl (g2.2 1 _ rfl)) .nil))) .nil))) (Cx.argsV ([⟨(y0.s 5), [some .i64, some .i64], (y0.t 5)⟩, ⟨v1, [some .i64, some .i64, some .i64, some .i64], y1⟩, ⟨(y2.s 0), [some .i64, some .i64], (y2.t 0)⟩, ⟨(y2.s 1), [some .i64], (y2.t 1)⟩] : List Cx.SlV) _ hS hLw) (fun b hb => Cx.sigV_none hb)
theorem djudges_own : ownKnob Try.prog.godebug = none := by kernel_rfl
theorem djudges_laidOut : laidOutB Try.prog = true := by kernel_rfl
set_option maxRecDepth 100000 in
theorem djudges_lifted (os : Os) (started : os.Started) (H : Type) (enc : TypeId × Value → H) :
    ReturnsInHanded {} Try.checked os 6 .any (Rows.dieJudgesSpec.pre6 enc Try.prog Try.f6 Rows.dieJudgesRow.domain false) (Rows.dieJudgesSpec.post enc Try.prog Try.f6 false true false false) := by
  refine returnsInHanded_of_change (C := Try.checked) djudges_own started (by kernel_rfl) Try.func6
    (ChangeSpec.witness6 (enc := enc) (C := Try.checked) false ⟨#[], #[.agg #[.bool false, .int .i64 0, .int .i64 0, .int .i64 0, .int .i64 0, .slice none 0 0], .slice none 0 0, .agg #[.slice none 0 0, .slice none 0 0]], []⟩ 8 (by kernel_rfl) (by kernel_rfl) (by kernel_rfl) (by kernel_rfl)) ?_
  intro W base args ds gs before hval0 hW hcnd _
  have hval : ∀ (j : Nat) t v, Try.f6.params[j]? = some t → args[j]? = some v → Value.okWide Try.prog W .any base t v := hval0
  have hW' := hW
  obtain ⟨p, q, hA0, hV, rfl, hfz, hnd⟩ := hW
  have hA : DataW.TrodAll enc Try.prog W 0 (fun _ => true) true Try.f6.params.toList args.toList ds p := hA0
  rw [Try.params6] at hA hval
  obtain ⟨v0, vs0, d0, ds0, p0, q0, hargs, rfl, rfl, h0, r0⟩ := trodAll_cons hA
  obtain ⟨v1, vs1, d1, ds1, p1, q1, rfl, rfl, rfl, h1, r1⟩ := trodAll_cons r0
  obtain ⟨v2, vs2, d2, ds2, p2, q2, rfl, rfl, rfl, h2, r2⟩ := trodAll_cons r1
  obtain ⟨rfl, rfl, rfl⟩ := trodAll_nil r2
  obtain rfl : args = #[v0, v1, v2] := by cases args; simp_all
  obtain ⟨rfl, rfl⟩ := trodVars_none hV
  have k0 := h0
  have lt0 : ∀ x ∈ p0, x.block < W.heap.size := by obtain ⟨m, hm⟩ := k0; exact DataW.trod_lt m _ _ _ hm
  have k1 := h1
  have lt1 : ∀ x ∈ p1, x.block < W.heap.size := by obtain ⟨m, hm⟩ := k1; exact DataW.trod_lt m _ _ _ hm
  have k2 := h2
  have lt2 : ∀ x ∈ p2, x.block < W.heap.size := by obtain ⟨m, hm⟩ := k2; exact DataW.trod_lt m _ _ _ hm
  obtain ⟨y0, rfl, g0⟩ := djudges_open0 (hval 0 26 v0 rfl rfl) h0
  obtain ⟨y1, g1⟩ := Cx.open_slT (l := [some .i64, some .i64, some .i64, some .i64]) (dp := 12) (by kernel_rfl) Try.underlying27 (hval 1 27 v1 rfl rfl) h1
  obtain ⟨y2, rfl, g2⟩ := djudges_open2 (hval 2 54 v2 rfl rfl) h2
  clear hA0 hval0
  refine (djudges_walk y0 v1 y1 y2 W g0 g1 g2).mono fun e W' ⟨he, bel⟩ => ?_
  subst he
  exact ⟨_, rfl, _, _, _, [], _, [], hW', trodAll_mk1 (shut_bool Try.underlying4 _), (trodAll_cons_mk (Below.trod djudges_laidOut (by kernel_rfl) (of_decide_eq_true (by kernel_rfl)) k0 bel lt0) (trodAll_cons_mk (Below.trod djudges_laidOut (by kernel_rfl) (of_decide_eq_true (by kernel_rfl)) k1 bel lt1) (trodAll_cons_mk (Below.trod djudges_laidOut (by kernel_rfl) (of_decide_eq_true (by kernel_rfl)) k2 bel lt2) trodAll_mk0))), rfl, bel.frame _, fun h => by cases h⟩
theorem djudges_over : Rows.dieJudgesRow.holds Try.pinned (OpenSpec.ofChange Rows.dieJudgesSpec) :=
  OpenClaim.holds_of_wide 6 Try.f6 rfl rfl rfl rfl rfl rfl rfl ⟨rfl, rfl, rfl, rfl, rfl⟩ rfl rfl rfl rfl rfl (by kernel_rfl) Try.func6 (by kernel_rfl)
    (of_decide_eq_true (by kernel_rfl)) (by unfold Func.isWrapper; rw [if_neg (of_decide_eq_false (by kernel_rfl))]; exact ⟨rfl, rfl⟩)
    (fun os started H enc _ => djudges_lifted os started H enc)
theorem djudges_proved : Rows.DieJudgesSaid := djudges_over
#print axioms djudges_proved
end Go.Proofs.Ythagjhadjpangaa

