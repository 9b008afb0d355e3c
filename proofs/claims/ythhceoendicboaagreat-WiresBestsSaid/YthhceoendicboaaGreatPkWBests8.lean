/- WiresBests holds, for all inputs: by its automaton. Made by tools/cxlaws.py. -/
import Derived.Test.YthhceoendicboaaGreatPkWBests7

namespace Go.Proofs.YthhceoendicboaaGreat
set_option linter.unusedVariables false
set_option linter.unusedSimpArgs false
open Go.ChangeShapes Go.WideShapes Go.ChangeAt Go.RowKit
open Cx (Env IE BE DT KnownB)

set_option maxRecDepth 100000 in
theorem wbests_open0 {H : Type} {enc : TypeId × Value → H} {w : World} {base : Nat} {spare : Nat → Bool} {held : Bool} {r : Reach} {b0 : Nat} {vv : Value} {d : DataW H} {p : List MemPlace} (hval : Value.okWide Tryz.prog w r b0 26 vv) (h : DataW.Trod enc Tryz.prog w base spare held 26 vv d p) :
    ∃ y0 : Cx.RowW, vv = .agg #[y0.s 0, .int .i64 (y0.c 1), .int .i64 (y0.c 2), .int .i64 (y0.c 3), .int .i64 (y0.c 4), .int .i64 (y0.c 5), .int .i64 (y0.c 6)] ∧ Cx.okW w [.tab [some .i64, some .i64], .int .i64, .int .i64, .int .i64, .int .i64, .int .i64, .int .i64] y0 :=
  Cx.open_agg (ks := [.tab [some .i64, some .i64], .int .i64, .int .i64, .int .i64, .int .i64, .int .i64, .int .i64]) (dp := 12) (by kernel_rfl) (.inl ⟨_, Tryz.underlying26⟩) hval h

theorem wbests_walk (y0 : Cx.RowW) (v1 : Value) (y1 : List Cx.RowV) (w : World) (g0 : Cx.okW w [.tab [some .i64, some .i64], .int .i64, .int .i64, .int .i64, .int .i64, .int .i64, .int .i64] y0) (g1 : Cx.SlT [some .i64, some .i64, some .i64, some .i64, some .i64, some .i64] w v1 y1) :
    Calls Tryz.prog 4 #[.agg #[y0.s 0, .int .i64 (y0.c 1), .int .i64 (y0.c 2), .int .i64 (y0.c 3), .int .i64 (y0.c 4), .int .i64 (y0.c 5), .int .i64 (y0.c 6)], v1] w fun e w' => e = .returned (.bool true) ∧ Below w.heap.size w w' := by
  have hLw : Cx.Laid w := fun _ h => by cases h
  obtain ⟨n, v, hv, hp⟩ := Cx.wlb_run (Cx.tabV (y0.t 0)).n ((Cx.tabV (y0.t 0)).c 0) ((Cx.tabV (y0.t 0)).c 1) (y0.c 1) (y0.c 2) (y0.c 3) (y0.c 4) (y0.c 5) (y0.c 6) (Cx.tabV y1).n ((Cx.tabV y1).c 0) ((Cx.tabV y1).c 1) ((Cx.tabV y1).c 2) ((Cx.tabV y1).c 3) ((Cx.tabV y1).c 4) ((Cx.tabV y1).c 5) (Cx.SlT.len (g0.2 0 _ rfl)) (fun i => rng_i64 (Cx.SlT.wf (g0.2 0 _ rfl) 0 .i64 rfl rfl i)) (fun i => rng_i64 (Cx.SlT.wf (g0.2 0 _ rfl) 1 .i64 rfl rfl i)) (rng_i64 (g0.1 1 .i64 rfl)) (rng_i64 (g0.1 2 .i64 rfl)) (rng_i64 (g0.1 3 .i64 rfl)) (rng_i64 (g0.1 4 .i64 rfl)) (rng_i64 (g0.1 5 .i64 rfl)) (rng_i64 (g0.1 6 .i64 rfl)) (Cx.SlT.len g1) (fun i => rng_i64 (Cx.SlT.wf g1 0 .i64 rfl rfl i)) (fun i => rng_i64 (Cx.SlT.wf g1 1 .i64 rfl rfl i)) (fun i => rng_i64 (Cx.SlT.wf g1 2 .i64 rfl rfl i)) (fun i => rng_i64 (Cx.SlT.wf g1 3 .i64 rfl rfl i)) (fun i => rng_i64 (Cx.SlT.wf g1 4 .i64 rfl rfl i)) (fun i => rng_i64 (Cx.SlT.wf g1 5 .i64 rfl rfl i))
  have hS : ∀ s ∈ ([⟨(y0.s 0), [some .i64, some .i64], (y0.t 0)⟩, ⟨v1, [some .i64, some .i64, some .i64, some .i64, some .i64, some .i64], y1⟩] : List Cx.SlV), Cx.SlT s.ks w s.v s.xs := fun s hs => by
    simp only [List.mem_cons, List.not_mem_nil, or_false] at hs
    rcases hs with rfl | rfl
    · exact (g0.2 0 _ rfl)
    · exact g1
  exact Cx.Ctr.law (ρ := ⟨fun _ => 0, fun _ => false⟩) (σ := Cx.sigV w ([⟨(y0.s 0), [some .i64, some .i64], (y0.t 0)⟩, ⟨v1, [some .i64, some .i64, some .i64, some .i64, some .i64, some .i64], y1⟩] : List Cx.SlV)) (e := .x v) (Cx.wlbctr (Cx.tabV (y0.t 0)).n ((Cx.tabV (y0.t 0)).c 0) ((Cx.tabV (y0.t 0)).c 1) (y0.c 1) (y0.c 2) (y0.c 3) (y0.c 4) (y0.c 5) (y0.c 6) (Cx.tabV y1).n ((Cx.tabV y1).c 0) ((Cx.tabV y1).c 1) ((Cx.tabV y1).c 2) ((Cx.tabV y1).c 3) ((Cx.tabV y1).c 4) ((Cx.tabV y1).c 5) Cx.wlbmem hv) hp (.cons (.agg (.cons (Cx.SlT.rel (S := ([⟨(y0.s 0), [some .i64, some .i64], (y0.t 0)⟩, ⟨v1, [some .i64, some .i64, some .i64, some .i64, some .i64, some .i64], y1⟩] : List Cx.SlV)) 0 rfl (g0.2 0 _ rfl)) (.cons (.int .i64 (.x (y0.c 1))) (.cons (.int .i64 (.x (y0.c 2))) (.cons (.int .i64 (.x (y0.c 3))) (.cons (.int .i64 (.x (y0.c 4))) (.cons (.int .i64 (.x (y0.c 5))) (.cons (.int .i64 (.x (y0.c 6))) .nil)))))))) (.cons (Cx.SlT.rel (S := ([⟨(y0.s 0), [some .i64, some .i64], (y0.t 0)⟩, ⟨v1, [some .i64, some .i64, some .i64, some .i64, some .i64, some .i64], y1⟩] : List Cx.SlV)) 1 rfl g1) .nil)) (Cx.argsV ([⟨(y0.s 0), [some .i64, some .i64], (y0.t 0)⟩, ⟨v1, [some .i64, some .i64, some .i64, some .i64, some .i64, some .i64], y1⟩] : List Cx.SlV) _ hS hLw) (fun b hb => Cx.sigV_none hb)

theorem wbests_own : ownKnob Tryz.prog.godebug = none := by kernel_rfl
theorem wbests_laidOut : laidOutB Tryz.prog = true := by kernel_rfl

set_option maxRecDepth 100000 in
theorem wbests_lifted (os : Os) (started : os.Started) (H : Type) (enc : TypeId × Value → H) :
    ReturnsInHanded {} Tryz.checked os 4 .any (Rows.wiresBestsSpec.pre6 enc Tryz.prog Tryz.f4 Rows.wiresBestsRow.domain false) (Rows.wiresBestsSpec.post enc Tryz.prog Tryz.f4 false true false false) := by
  refine returnsInHanded_of_change (C := Tryz.checked) wbests_own started (by kernel_rfl) Tryz.func4
    (ChangeSpec.witness6 (enc := enc) (C := Tryz.checked) false ⟨#[], #[.agg #[.slice none 0 0, .int .i64 0, .int .i64 0, .int .i64 0, .int .i64 0, .int .i64 0, .int .i64 0], .slice none 0 0], []⟩ 8 (by kernel_rfl) (by kernel_rfl) (by kernel_rfl) (by kernel_rfl)) ?_
  intro W base args ds gs before hval0 hW hcnd _
  have hval : ∀ (j : Nat) t v, Tryz.f4.params[j]? = some t → args[j]? = some v → Value.okWide Tryz.prog W .any base t v := hval0
  have hW' := hW
  obtain ⟨p, q, hA0, hV, rfl, hfz, hnd⟩ := hW
  have hA : DataW.TrodAll enc Tryz.prog W 0 (fun _ => true) true Tryz.f4.params.toList args.toList ds p := hA0
  rw [Tryz.params4] at hA hval
  obtain ⟨v0, vs0, d0, ds0, p0, q0, hargs, rfl, rfl, h0, r0⟩ := trodAll_cons hA
  obtain ⟨v1, vs1, d1, ds1, p1, q1, rfl, rfl, rfl, h1, r1⟩ := trodAll_cons r0
  obtain ⟨rfl, rfl, rfl⟩ := trodAll_nil r1
  obtain rfl : args = #[v0, v1] := by cases args; simp_all
  obtain ⟨rfl, rfl⟩ := trodVars_none hV
  have k0 := h0
  have lt0 : ∀ x ∈ p0, x.block < W.heap.size := by obtain ⟨m, hm⟩ := k0; exact DataW.trod_lt m _ _ _ hm
  have k1 := h1
  have lt1 : ∀ x ∈ p1, x.block < W.heap.size := by obtain ⟨m, hm⟩ := k1; exact DataW.trod_lt m _ _ _ hm
  obtain ⟨y0, rfl, g0⟩ := wbests_open0 (hval 0 26 v0 rfl rfl) h0
  obtain ⟨y1, g1⟩ := Cx.open_slT (l := [some .i64, some .i64, some .i64, some .i64, some .i64, some .i64]) (dp := 12) (by kernel_rfl) Tryz.underlying37 (hval 1 37 v1 rfl rfl) h1
  clear hA0 hval0
  refine (wbests_walk y0 v1 y1 W g0 g1).mono fun e W' ⟨he, bel⟩ => ?_
  subst he
  exact ⟨_, rfl, _, _, _, [], _, [], hW', trodAll_mk1 (shut_bool Tryz.underlying4 _), (trodAll_cons_mk (Below.trod wbests_laidOut (by kernel_rfl) (of_decide_eq_true (by kernel_rfl)) k0 bel lt0) (trodAll_cons_mk (Below.trod wbests_laidOut (by kernel_rfl) (of_decide_eq_true (by kernel_rfl)) k1 bel lt1) trodAll_mk0)), rfl, bel.frame _, fun h => by cases h⟩

theorem wbests_over : Rows.wiresBestsRow.holds Tryz.pinned (OpenSpec.ofChange Rows.wiresBestsSpec) :=
  OpenClaim.holds_of_wide 4 Tryz.f4 rfl rfl rfl rfl rfl rfl rfl ⟨rfl, rfl, rfl, rfl, rfl⟩ rfl rfl rfl rfl rfl (by kernel_rfl) Tryz.func4 (by kernel_rfl)
    (of_decide_eq_true (by kernel_rfl)) (by unfold Func.isWrapper; rw [if_neg (of_decide_eq_false (by kernel_rfl))]; exact ⟨rfl, rfl⟩)
    (fun os started H enc _ => wbests_lifted os started H enc)

theorem wbests_proved : Rows.WiresBestsSaid := wbests_over
#print axioms wbests_proved

end Go.Proofs.YthhceoendicboaaGreat

