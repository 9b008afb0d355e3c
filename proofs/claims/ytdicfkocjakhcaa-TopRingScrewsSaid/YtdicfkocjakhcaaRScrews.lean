/- TopRingScrews holds, for all inputs: by the evaluator at symbols. Made by tools/cxlaw.py. -/
import Derived.Test.YtdicfkocjakhcaaRScrewsTG
import Derived.Test.YtdicfkocjakhcaaRScrewsK
import Derived.Test.YtdicfkocjakhcaaCxKnPF
import Derived.Test.YtdicfkocjakhcaaCxKnPG
import Derived.Test.YtdicfkocjakhcaaCxOpen
import Derived.Test.YtdicfkocjakhcaaCxUp
import Derived.Test.YtdicfkocjakhcaaCxRow
set_option linter.unusedVariables false
set_option linter.unusedSimpArgs false
namespace Go.Proofs.Ytdicfkocjakhcaa
open Go.ChangeShapes Go.WideShapes Go.ChangeAt Go.RowKit
open Cx (Env IE BE DT KnownB)

set_option maxRecDepth 100000 in
theorem rscrews_open0 {H : Type} {enc : TypeId × Value → H} {w : World} {base : Nat} {spare : Nat → Bool} {held : Bool} {r : Reach} {b0 : Nat} {vv : Value} {d : DataW H} {p : List MemPlace} (hval : Value.okWide Try.prog w r b0 62 vv) (h : DataW.Trod enc Try.prog w base spare held 62 vv d p) :
    ∃ (x0 : Int) (x1 : Int) (x2 : Int) (x3 : Int), vv = .agg #[.int .u8 x0, .int .u8 x1, .int .u8 x2, .int .u8 x3] ∧ (Lit.int .u8 x0).wf = true ∧ (Lit.int .u8 x1).wf = true ∧ (Lit.int .u8 x2).wf = true ∧ (Lit.int .u8 x3).wf = true := by
  obtain ⟨cs, rfl, hsz⟩ := okWide_arr Try.underlying62 hval
  obtain ⟨l⟩ := cs
  obtain ⟨fuel, hf⟩ := h
  have hl : l.length = 4 := hsz.trans (by kernel_rfl)
  obtain ⟨n0, y0, t0⟩ := trodE Try.underlying62 hf 0 (by decide) (o := 0) (c := 1) (by kernel_rfl) rfl
  obtain ⟨x0, g0, w0⟩ := leafI Try.underlying5 t0
  obtain ⟨n1, y1, t1⟩ := trodE Try.underlying62 hf 1 (by decide) (o := 1) (c := 1) (by kernel_rfl) rfl
  obtain ⟨x1, g1, w1⟩ := leafI Try.underlying5 t1
  obtain ⟨n2, y2, t2⟩ := trodE Try.underlying62 hf 2 (by decide) (o := 2) (c := 1) (by kernel_rfl) rfl
  obtain ⟨x2, g2, w2⟩ := leafI Try.underlying5 t2
  obtain ⟨n3, y3, t3⟩ := trodE Try.underlying62 hf 3 (by decide) (o := 3) (c := 1) (by kernel_rfl) rfl
  obtain ⟨x3, g3, w3⟩ := leafI Try.underlying5 t3
  refine ⟨x0, x1, x2, x3, ?_, w0, w1, w2, w3⟩
  clear hval hsz hf t0 t1 t2 t3
  match l, hl with
  | [k0, k1, k2, k3], _ =>
    simp [Value.cells] at g0 g1 g2 g3
    subst g0 g1 g2 g3
    rfl



theorem rscrews_walk (x0 : Int) (x1 : Int) (x2 : Int) (x3 : Int) (sx4 : Value) (xs4 : List (Nat → Int)) (sx5 : Value) (xs5 : List (Nat → Int)) (w : World) (wx0 : (Lit.int .u8 x0).wf = true) (wx1 : (Lit.int .u8 x1).wf = true) (wx2 : (Lit.int .u8 x2).wf = true) (wx3 : (Lit.int .u8 x3).wf = true) (wx4 : Cx.SlR (Cx.enR (List.replicate 2 .u8)) 2 w sx4 xs4 ∧ ∀ x ∈ xs4, Cx.okR (List.replicate 2 .u8) x) (wx5 : Cx.SlR (Cx.enR (List.replicate 2 .u8)) 2 w sx5 xs5 ∧ ∀ x ∈ xs5, Cx.okR (List.replicate 2 .u8) x) :
    Calls Try.prog 6 #[.agg #[.int .u8 x0, .int .u8 x1, .int .u8 x2, .int .u8 x3], sx4, sx5] w fun e w' => e = .returned (.bool true) ∧ Below w.heap.size w w' := by
  have hM : ∀ f ∈ [22, 23], KnownB Try.prog f := fun f hf => by
    simp only [List.mem_cons, List.not_mem_nil, or_false] at hf
    rcases hf with rfl | rfl
    · exact Cx.CxKnPF_known
    · exact Cx.CxKnPG_known
  have r4 : Cx.VR (⟨Cx.envOf [x0, x1, x2, x3, (xs4.length : Int), (xs5.length : Int)] [⟨6, (List.replicate 2 .u8), sx4, xs4⟩, ⟨6, (List.replicate 2 .u8), sx5, xs5⟩], fun i => ([] : List Bool).getD i false⟩ : Env) (Cx.sigOf w [⟨6, (List.replicate 2 .u8), sx4, xs4⟩, ⟨6, (List.replicate 2 .u8), sx5, xs5⟩]) (.slr 0 2 6 (.v 4)) sx4 := Cx.SlR.slr (ks := (List.replicate 2 .u8)) wx4.1 rfl (fun i h => by rw [Nat.zero_add]; exact Cx.sig_here h)
  have r5 : Cx.VR (⟨Cx.envOf [x0, x1, x2, x3, (xs4.length : Int), (xs5.length : Int)] [⟨6, (List.replicate 2 .u8), sx4, xs4⟩, ⟨6, (List.replicate 2 .u8), sx5, xs5⟩], fun i => ([] : List Bool).getD i false⟩ : Env) (Cx.sigOf w [⟨6, (List.replicate 2 .u8), sx4, xs4⟩, ⟨6, (List.replicate 2 .u8), sx5, xs5⟩]) (.slr 6 2 6 (.v 5)) sx5 := Cx.SlR.slr (ks := (List.replicate 2 .u8)) wx5.1 rfl (fun i h => by rw [show 6 + i = 6 + i by omega]; rw [Cx.sig_skip rfl]; exact Cx.sig_here h)
  have hS : ∀ s ∈ ([⟨6, (List.replicate 2 .u8), sx4, xs4⟩, ⟨6, (List.replicate 2 .u8), sx5, xs5⟩] : List Cx.Sl), Cx.SlR (Cx.enR s.ks) s.ks.length w s.v s.xs ∧ 1 ≤ s.ks.length := fun s hs => by
    simp only [List.mem_cons, List.not_mem_nil, or_false] at hs
    rcases hs with rfl | rfl
    · exact ⟨wx4.1, Nat.le_of_ble_eq_true rfl⟩
    · exact ⟨wx5.1, Nat.le_of_ble_eq_true rfl⟩
  exact Cx.law_of2 (ρ := (⟨Cx.envOf [x0, x1, x2, x3, (xs4.length : Int), (xs5.length : Int)] [⟨6, (List.replicate 2 .u8), sx4, xs4⟩, ⟨6, (List.replicate 2 .u8), sx5, xs5⟩], fun i => ([] : List Bool).getD i false⟩ : Env)) (σ := Cx.sigOf w [⟨6, (List.replicate 2 .u8), sx4, xs4⟩, ⟨6, (List.replicate 2 .u8), sx5, xs5⟩]) (Cx.ctxOf_ok Cx.try_ok _) (Cx.memoU_ok Cx.up_known (Cx.memoB_ok hM)) Cx.rscrews_ok (DT.good_of _ _ (Cx.rs_goal (ρ := (⟨Cx.envOf [x0, x1, x2, x3, (xs4.length : Int), (xs5.length : Int)] [⟨6, (List.replicate 2 .u8), sx4, xs4⟩, ⟨6, (List.replicate 2 .u8), sx5, xs5⟩], fun i => ([] : List Bool).getD i false⟩ : Env)) (x0 := x0) ⟨rfl⟩ (rng_u8 wx0) (x1 := x1) ⟨rfl⟩ (rng_u8 wx1) (x2 := x2) ⟨rfl⟩ (rng_u8 wx2) (x3 := x3) ⟨rfl⟩ (rng_u8 wx3) (x4 := (xs4.length : Int)) ⟨rfl⟩ (Cx.SlR.len wx4.1) (x5 := (xs5.length : Int)) ⟨rfl⟩ (Cx.SlR.len wx5.1)
    (x6 := (xs4.getD 0 (fun _ => 0)) 0) ⟨by kernel_rfl⟩ (rng_u8 (Cx.okR_wf wx4.2 0 0 .u8 rfl rfl))
    (x7 := (xs4.getD 0 (fun _ => 0)) 1) ⟨by kernel_rfl⟩ (rng_u8 (Cx.okR_wf wx4.2 0 1 .u8 rfl rfl))
    (x8 := (xs4.getD 1 (fun _ => 0)) 0) ⟨by kernel_rfl⟩ (rng_u8 (Cx.okR_wf wx4.2 1 0 .u8 rfl rfl))
    (x9 := (xs4.getD 1 (fun _ => 0)) 1) ⟨by kernel_rfl⟩ (rng_u8 (Cx.okR_wf wx4.2 1 1 .u8 rfl rfl))
    (x10 := (xs4.getD 2 (fun _ => 0)) 0) ⟨by kernel_rfl⟩ (rng_u8 (Cx.okR_wf wx4.2 2 0 .u8 rfl rfl))
    (x11 := (xs4.getD 2 (fun _ => 0)) 1) ⟨by kernel_rfl⟩ (rng_u8 (Cx.okR_wf wx4.2 2 1 .u8 rfl rfl))
    (x12 := (xs4.getD 3 (fun _ => 0)) 0) ⟨by kernel_rfl⟩ (rng_u8 (Cx.okR_wf wx4.2 3 0 .u8 rfl rfl))
    (x13 := (xs4.getD 3 (fun _ => 0)) 1) ⟨by kernel_rfl⟩ (rng_u8 (Cx.okR_wf wx4.2 3 1 .u8 rfl rfl))
    (x14 := (xs4.getD 4 (fun _ => 0)) 0) ⟨by kernel_rfl⟩ (rng_u8 (Cx.okR_wf wx4.2 4 0 .u8 rfl rfl))
    (x15 := (xs4.getD 4 (fun _ => 0)) 1) ⟨by kernel_rfl⟩ (rng_u8 (Cx.okR_wf wx4.2 4 1 .u8 rfl rfl))
    (x16 := (xs4.getD 5 (fun _ => 0)) 0) ⟨by kernel_rfl⟩ (rng_u8 (Cx.okR_wf wx4.2 5 0 .u8 rfl rfl))
    (x17 := (xs4.getD 5 (fun _ => 0)) 1) ⟨by kernel_rfl⟩ (rng_u8 (Cx.okR_wf wx4.2 5 1 .u8 rfl rfl))
    (x18 := (xs5.getD 0 (fun _ => 0)) 0) ⟨by kernel_rfl⟩ (rng_u8 (Cx.okR_wf wx5.2 0 0 .u8 rfl rfl))
    (x19 := (xs5.getD 0 (fun _ => 0)) 1) ⟨by kernel_rfl⟩ (rng_u8 (Cx.okR_wf wx5.2 0 1 .u8 rfl rfl))
    (x20 := (xs5.getD 1 (fun _ => 0)) 0) ⟨by kernel_rfl⟩ (rng_u8 (Cx.okR_wf wx5.2 1 0 .u8 rfl rfl))
    (x21 := (xs5.getD 1 (fun _ => 0)) 1) ⟨by kernel_rfl⟩ (rng_u8 (Cx.okR_wf wx5.2 1 1 .u8 rfl rfl))
    (x22 := (xs5.getD 2 (fun _ => 0)) 0) ⟨by kernel_rfl⟩ (rng_u8 (Cx.okR_wf wx5.2 2 0 .u8 rfl rfl))
    (x23 := (xs5.getD 2 (fun _ => 0)) 1) ⟨by kernel_rfl⟩ (rng_u8 (Cx.okR_wf wx5.2 2 1 .u8 rfl rfl))
    (x24 := (xs5.getD 3 (fun _ => 0)) 0) ⟨by kernel_rfl⟩ (rng_u8 (Cx.okR_wf wx5.2 3 0 .u8 rfl rfl))
    (x25 := (xs5.getD 3 (fun _ => 0)) 1) ⟨by kernel_rfl⟩ (rng_u8 (Cx.okR_wf wx5.2 3 1 .u8 rfl rfl))
    (x26 := (xs5.getD 4 (fun _ => 0)) 0) ⟨by kernel_rfl⟩ (rng_u8 (Cx.okR_wf wx5.2 4 0 .u8 rfl rfl))
    (x27 := (xs5.getD 4 (fun _ => 0)) 1) ⟨by kernel_rfl⟩ (rng_u8 (Cx.okR_wf wx5.2 4 1 .u8 rfl rfl))
    (x28 := (xs5.getD 5 (fun _ => 0)) 0) ⟨by kernel_rfl⟩ (rng_u8 (Cx.okR_wf wx5.2 5 0 .u8 rfl rfl))
    (x29 := (xs5.getD 5 (fun _ => 0)) 1) ⟨by kernel_rfl⟩ (rng_u8 (Cx.okR_wf wx5.2 5 1 .u8 rfl rfl)))) (.cons (.agg (.cons (.int .u8 (.v 0)) (.cons (.int .u8 (.v 1)) (.cons (.int .u8 (.v 2)) (.cons (.int .u8 (.v 3)) .nil))))) (.cons r4 (.cons r5 .nil))) (Cx.args_HR [x0, x1, x2, x3, (xs4.length : Int), (xs5.length : Int)] [⟨6, (List.replicate 2 .u8), sx4, xs4⟩, ⟨6, (List.replicate 2 .u8), sx5, xs5⟩] rfl hS) (fun b hb => Cx.sig_none _ b hb)

theorem rscrews_own : ownKnob Try.prog.godebug = none := by kernel_rfl
theorem rscrews_laidOut : laidOutB Try.prog = true := by kernel_rfl

set_option maxRecDepth 100000 in
theorem rscrews_lifted (os : Os) (started : os.Started) (H : Type) (enc : TypeId × Value → H) :
    ReturnsInHanded {} Try.checked os 6 .any (Rows.topRingScrewsSpec.pre6 enc Try.prog Try.f6 Rows.topRingScrewsRow.domain false) (Rows.topRingScrewsSpec.post enc Try.prog Try.f6 false true false false) := by
  refine returnsInHanded_of_change (C := Try.checked) rscrews_own started (by kernel_rfl) Try.func6
    (ChangeSpec.witness6 (enc := enc) (C := Try.checked) false ⟨#[], #[.agg #[.int .u8 0, .int .u8 0, .int .u8 0, .int .u8 0], .slice none 0 0, .slice none 0 0], []⟩ 8 (by kernel_rfl) (by kernel_rfl) (by kernel_rfl) (by kernel_rfl)) ?_
  intro W base args ds gs before hval0 hW hcnd _
  have hval : ∀ (j : Nat) t v, Try.f6.params[j]? = some t → args[j]? = some v → Value.okWide Try.prog W .any base t v := hval0
  have hW' := hW
  obtain ⟨p, q, hA0, hV, rfl, hfz, hnd⟩ := hW
  have hA : DataW.TrodAll enc Try.prog W 0 (fun _ => true) true Try.f6.params.toList args.toList ds p := hA0
  rw [Try.params6] at hA hval
  obtain ⟨v0, vs0, d0, ds0, p0, q0, hargs, rfl, rfl, h0, r0⟩ := trodAll_cons hA
  obtain ⟨v1, vs1, d1, ds1, p1, q1, rfl, rfl, rfl, h1, r1⟩ := trodAll_cons r0
  obtain ⟨v2, vs2, d2, ds2, p2, q2, rfl, rfl, rfl, h2, r2⟩ := trodAll_cons r1
  obtain ⟨rfl, rfl, rfl⟩ := trodAll_nil r2
  obtain rfl : args = #[v0, v1, v2] := by cases args; simp_all
  obtain ⟨rfl, rfl⟩ := trodVars_none hV
  have k0 := h0
  have lt0 : ∀ x ∈ p0, x.block < W.heap.size := by obtain ⟨m, hm⟩ := k0; exact DataW.trod_lt m _ _ _ hm
  have k1 := h1
  have lt1 : ∀ x ∈ p1, x.block < W.heap.size := by obtain ⟨m, hm⟩ := k1; exact DataW.trod_lt m _ _ _ hm
  have k2 := h2
  have lt2 : ∀ x ∈ p2, x.block < W.heap.size := by obtain ⟨m, hm⟩ := k2; exact DataW.trod_lt m _ _ _ hm
  obtain ⟨x0, x1, x2, x3, rfl, wx0, wx1, wx2, wx3⟩ := rscrews_open0 (hval 0 62 v0 rfl rfl) h0
  obtain ⟨xs4, wx4⟩ := Cx.open_rows (ks := (List.replicate 2 .u8)) Try.underlying63 (by decide) (by kernel_rfl) (Cx.row_arr Try.underlying116 Try.underlying5 (by kernel_rfl)) (hval 1 63 v1 rfl rfl) h1
  obtain ⟨xs5, wx5⟩ := Cx.open_rows (ks := (List.replicate 2 .u8)) Try.underlying63 (by decide) (by kernel_rfl) (Cx.row_arr Try.underlying116 Try.underlying5 (by kernel_rfl)) (hval 2 63 v2 rfl rfl) h2
  clear hA0 hval0
  refine (rscrews_walk x0 x1 x2 x3 v1 xs4 v2 xs5 W wx0 wx1 wx2 wx3 wx4 wx5).mono fun e W' ⟨he, bel⟩ => ?_
  subst he
  exact ⟨_, rfl, _, _, _, [], _, [], hW', trodAll_mk1 (shut_bool Try.underlying4 _), (trodAll_cons_mk (Below.trod rscrews_laidOut (by kernel_rfl) (of_decide_eq_true (by kernel_rfl)) k0 bel lt0) (trodAll_cons_mk (Below.trod rscrews_laidOut (by kernel_rfl) (of_decide_eq_true (by kernel_rfl)) k1 bel lt1) (trodAll_cons_mk (Below.trod rscrews_laidOut (by kernel_rfl) (of_decide_eq_true (by kernel_rfl)) k2 bel lt2) trodAll_mk0))), rfl, bel.frame _, fun h => by cases h⟩

theorem rscrews_over : Rows.topRingScrewsRow.holds Try.pinned (OpenSpec.ofChange Rows.topRingScrewsSpec) :=
  OpenClaim.holds_of_wide 6 Try.f6 rfl rfl rfl rfl rfl rfl rfl ⟨rfl, rfl, rfl, rfl, rfl⟩ rfl rfl rfl rfl rfl (by kernel_rfl) Try.func6 (by kernel_rfl)
    (of_decide_eq_true (by kernel_rfl)) (by unfold Func.isWrapper; rw [if_neg (of_decide_eq_false (by kernel_rfl))]; exact ⟨rfl, rfl⟩)
    (fun os started H enc _ => rscrews_lifted os started H enc)

theorem rscrews_proved : Rows.TopRingScrewsSaid := rscrews_over
#print axioms rscrews_proved

end Go.Proofs.Ytdicfkocjakhcaa
