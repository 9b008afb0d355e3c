/- What the rows' premise on package-level variables says of memory. Made by tools/gen_laid.py. -/
import Derived.Test.YtbnnackoakhmdaaDoorRows
import Derived.ProofKit
import Derived.LaidMore
import Derived.OpenShut
import Derived.Stop.Joined
import Derived.Test.YtbnnackoakhmdaaDoorCards
import Derived.Test.YtbnnackoakhmdaaDoorTie
import Derived.SevenTiedAt
import Derived.Test.YtbnnackoakhmdaaDoorPkLWalks5

namespace Go.Proofs.YtbnnackoakhmdaaDoor
set_option linter.unusedVariables false
set_option maxRecDepth 100000
open Go.ChangeShapes Go.WideShapes Go.ChangeAt Go.RowKit

theorem arr_cells {H : Type} {enc : TypeId × Value → H} {P : Program} {w : World} {sp : Nat → Bool} {held : Bool} {fuel n : Nat} {t e : TypeId} {cs : List Value} {ks : List Int} {k : IntKind} {p : List MemPlace} (ht : P.underlying t = some (.array n e)) (he : P.underlying e = some (.int k)) (hc : P.cellsOf e = 1) (hn : ks.length = n) (hcs : P.cellsOf t = n)
    (h : DataW.trod enc P w 0 sp held fuel t cs = some (.agg (ks.map fun x => .lit (.int k x)), p)) : cs = ks.map fun x => .int k x := by
  obtain ⟨xs, m, rfl, hx, hl, hlen, hel⟩ := DataW.trod_array ht h
  simp only [Prod.mk.injEq, DataW.agg.injEq] at hx
  apply List.ext_getElem?
  intro i
  by_cases hi : i < n
  · have h1 := hel i hi
    rw [hc, Nat.mul_one, List.getElem?_eq_getElem (by omega)] at h1
    obtain ⟨v, e1, e2, _⟩ := DataW.trod_int he h1
    have h2 : (xs.map (·.1))[i]? = (ks.map fun x => DataW.lit (.int k x))[i]? := by rw [hx.1]
    rw [List.getElem?_map, List.getElem?_map, List.getElem?_eq_getElem (show i < xs.length by omega), List.getElem?_eq_getElem (show i < ks.length by omega), e2] at h2
    simp only [Option.map_some, Option.some.injEq, DataW.lit.injEq, Lit.int.injEq, true_and] at h2
    have h3 : (((cs.drop i).take 1))[0]? = some (.int k v) := by rw [e1]; rfl
    rw [List.getElem?_take_of_lt (by decide), List.getElem?_drop, Nat.add_zero] at h3
    rw [h3, List.getElem?_map, List.getElem?_eq_getElem (show i < ks.length by omega), h2]
    rfl
  · rw [List.getElem?_eq_none (by omega), List.getElem?_eq_none (by simp; omega)]

theorem laid_cell {P : Program} {w : World} {nm : String} {g : Nat} {cs : Array Value} {vs : List Value} (hg : P.globalNamed nm = some g) (hv : w.var? P nm = some cs) (hcs : cs.toList = vs) (hf : ∃ c t, w.heap[g]? = some (.cells c t (0, 0))) : ∃ t, w.heap[g]? = some (.cells vs.toArray t (0, 0)) := by
  obtain ⟨c, t, h⟩ := hf
  simp only [World.var?, hg, Option.bind_some, h, Option.some.injEq] at hv
  subst hv
  rw [← hcs]
  exact ⟨t, h⟩

theorem place_here {g n : Nat} (h : 0 < n) : MemPlace.cell g 0 ∈ MemPlace.row ⟨g, 0, none⟩ n := List.mem_map.2 ⟨0, List.mem_range.2 h, rfl⟩

def lk0 : List Int := [0, 1, 28, 2, 29, 14, 24, 3, 30, 22, 20, 15, 25, 17, 4, 8, 31, 27, 13, 23, 21, 19, 16, 7, 26, 12, 18, 6, 11, 5, 10, 9]
theorem lg0 : Tryd.prog.globalNamed "math/bits.deBruijn32tab" = some 0 := by kernel_rfl
theorem lt0 : (Tryd.prog.globals[0]?).map (·.type) = some 133 := by kernel_rfl
theorem ld0 {H : Type} : (Rows.laid_math_bits_deBruijn32tab : DataW H) = .agg (lk0.map fun x => .lit (.int .u8 x)) := by rfl

def lk1 : List Int := [0, 1, 56, 2, 57, 49, 28, 3, 61, 58, 42, 50, 38, 29, 17, 4, 62, 47, 59, 36, 45, 43, 51, 22, 53, 39, 33, 30, 24, 18, 12, 5, 63, 55, 48, 27, 60, 41, 37, 16, 46, 35, 44, 21, 52, 32, 23, 11, 54, 26, 40, 15, 34, 20, 31, 10, 25, 14, 19, 9, 13, 8, 7, 6]
theorem lg1 : Tryd.prog.globalNamed "math/bits.deBruijn64tab" = some 1 := by kernel_rfl
theorem lt1 : (Tryd.prog.globals[1]?).map (·.type) = some 134 := by kernel_rfl
theorem ld1 {H : Type} : (Rows.laid_math_bits_deBruijn64tab : DataW H) = .agg (lk1.map fun x => .lit (.int .u8 x)) := by rfl

abbrev laidL : List (String × DataW Unit) := [("math/bits.deBruijn32tab", Rows.laid_math_bits_deBruijn32tab), ("math/bits.deBruijn64tab", Rows.laid_math_bits_deBruijn64tab)]

/-- The program's own start meets it. -/
theorem door_met (os : Os) (args : Array Value) : laidMetH Tryd.prog laidL ((World.doorLaid Tryd.prog 400 os).forCall (fun _ _ => 0) ⟨#[], args, []⟩).memory :=
  laidMetH_of_parts3 (fuel := 8) (laidMet_of_run' 8 (by kernel_rfl) (by kernel_rfl)) (by kernel_rfl) (by kernel_rfl)

theorem of_laid {W : World} (h : laidMetH Tryd.prog laidL W) : Cx.Laid W := by
  rw [MakeChecks.laidMetH_plain _ _ _ (by kernel_rfl)] at h
  obtain ⟨ps, ⟨g0, t0, cs0, fu0, p0, q0, hg0, ht0, hv0, hd0, ⟨g1, t1, cs1, fu1, p1, q1, hg1, ht1, hv1, hd1, hr, e1⟩, e0⟩, _, hc⟩ := h
  obtain rfl := Option.some.inj (lg0.symm.trans hg0)
  obtain rfl := Option.some.inj (lt0.symm.trans ht0)
  have c0 := arr_cells (ks := lk0) Tryd.underlying133 Tryd.underlying5 (by kernel_rfl) (by rfl) (by kernel_rfl) (hd0.trans (by rw [ld0]))
  have s0 : 0 < cs0.size := by have := congrArg List.length c0; rw [Array.length_toList, List.length_map] at this; rw [this]; decide
  obtain rfl := Option.some.inj (lg1.symm.trans hg1)
  obtain rfl := Option.some.inj (lt1.symm.trans ht1)
  have c1 := arr_cells (ks := lk1) Tryd.underlying134 Tryd.underlying5 (by kernel_rfl) (by rfl) (by kernel_rfl) (hd1.trans (by rw [ld1]))
  have s1 : 0 < cs1.size := by have := congrArg List.length c1; rw [Array.length_toList, List.length_map] at this; rw [this]; decide
  intro x hx
  rcases List.mem_cons.1 hx with rfl | hx
  · exact laid_cell lg0 hv0 c0 (hc 0 0 (by rw [e0]; exact List.mem_append_left _ (List.mem_append_left _ (place_here s0)))).1
  rcases List.mem_cons.1 hx with rfl | hx
  · exact laid_cell lg1 hv1 c1 (hc 1 0 (by rw [e0]; exact List.mem_append_right _ (by rw [e1]; exact List.mem_append_left _ (List.mem_append_left _ (place_here s1))))).1
  cases hx

end Go.Proofs.YtbnnackoakhmdaaDoor

/- LotWalks holds, for all inputs: by its automaton. Made by tools/cxlaws.py. -/
namespace Go.Proofs.YtbnnackoakhmdaaDoor
set_option linter.unusedVariables false
set_option linter.unusedSimpArgs false
open Go.ChangeShapes Go.WideShapes Go.ChangeAt Go.RowKit
open Cx (Env IE BE DT KnownB)

theorem lwalks_walk (v0 : Value) (y0 : List Cx.RowV) (v1 : Value) (y1 : List Cx.RowV) (w : World) (hLw : Cx.Laid w) (g0 : Cx.SlT [some .i64, some .i64, some .i64, some .i64] w v0 y0) (g1 : Cx.SlT [none] w v1 y1) :
    Calls Tryd.prog 3 #[v0, v1] w fun e w' => e = .returned (.bool true) ∧ Below w.heap.size w w' := by
  obtain ⟨n, v, hv, hp⟩ := Cx.llw_run (Cx.tabV y0).n ((Cx.tabV y0).c 0) ((Cx.tabV y0).c 1) ((Cx.tabV y0).c 2) ((Cx.tabV y0).c 3) (Cx.tabV y1).n ((Cx.tabV y1).g 0) (Cx.SlT.len g0) (fun i => rng_i64 (Cx.SlT.wf g0 0 .i64 rfl rfl i)) (fun i => rng_i64 (Cx.SlT.wf g0 1 .i64 rfl rfl i)) (fun i => rng_i64 (Cx.SlT.wf g0 2 .i64 rfl rfl i)) (fun i => rng_i64 (Cx.SlT.wf g0 3 .i64 rfl rfl i)) (Cx.SlT.len g1)
  have hS : ∀ s ∈ ([⟨v0, [some .i64, some .i64, some .i64, some .i64], y0⟩, ⟨v1, [none], y1⟩] : List Cx.SlV), Cx.SlT s.ks w s.v s.xs := fun s hs => by
    simp only [List.mem_cons, List.not_mem_nil, or_false] at hs
    rcases hs with rfl | rfl
    · exact g0
    · exact g1
  exact Cx.Ctr.law (ρ := ⟨fun _ => 0, fun _ => false⟩) (σ := Cx.sigV w ([⟨v0, [some .i64, some .i64, some .i64, some .i64], y0⟩, ⟨v1, [none], y1⟩] : List Cx.SlV)) (e := .x v) (Cx.llwctr (Cx.lwY 600) (Cx.tabV y0).n ((Cx.tabV y0).c 0) ((Cx.tabV y0).c 1) ((Cx.tabV y0).c 2) ((Cx.tabV y0).c 3) (Cx.tabV y1).n ((Cx.tabV y1).g 0) Cx.lw_mem hv) hp (.cons (Cx.SlT.rel (S := ([⟨v0, [some .i64, some .i64, some .i64, some .i64], y0⟩, ⟨v1, [none], y1⟩] : List Cx.SlV)) 0 rfl g0) (.cons (Cx.SlT.rel (S := ([⟨v0, [some .i64, some .i64, some .i64, some .i64], y0⟩, ⟨v1, [none], y1⟩] : List Cx.SlV)) 1 rfl g1) .nil)) (Cx.argsV ([⟨v0, [some .i64, some .i64, some .i64, some .i64], y0⟩, ⟨v1, [none], y1⟩] : List Cx.SlV) _ hS hLw) (fun b hb => Cx.sigV_none hb)

theorem lwalks_own : ownKnob Tryd.prog.godebug = none := by kernel_rfl
theorem lwalks_laidOut : laidOutB Tryd.prog = true := by kernel_rfl

set_option maxRecDepth 100000 in
theorem lwalks_lifted (os : Os) (started : os.Started) (H : Type) (enc : TypeId × Value → H) :
    ReturnsInHanded {} Tryd.checked os 3 .any (fun w args => (Rows.lotWalksSpec.pre enc Tryd.prog Tryd.f3 [] false w args ∧ laidMetH Tryd.prog laidL w) ∧ sizedMet enc Tryd.prog Tryd.f3 (OpenSpec.ofChange Rows.lotWalksSpec) false w args)
      (Rows.lotWalksSpec.post enc Tryd.prog Tryd.f3 false true false false) := by
  refine returnsInHanded_of_change_and (C := Tryd.checked) (X := fun w _ => laidMetH Tryd.prog laidL w) (fun _ _ _ hh h => h.of_heap hh) lwalks_own started (by kernel_rfl) Tryd.func3
    (ChangeSpec.witness_shaped (enc := enc) (C := Tryd.checked) (os := os) (X := fun w _ => laidMetH Tryd.prog laidL w) false (World.doorLaid Tryd.prog 400 os) #[.slice none 0 0, .slice none 0 0] 8 rfl (World.shaped_of_RefB (by kernel_rfl) (by kernel_rfl)) (by kernel_rfl) (by kernel_rfl) (by kernel_rfl) (door_met os _)) ?_
  intro W base args ds gs before hval0 hW _ _ hLd _
  have hval : ∀ (j : Nat) t v, Tryd.f3.params[j]? = some t → args[j]? = some v → Value.okWide Tryd.prog W .any base t v := hval0
  have hW' := hW
  obtain ⟨p, q, hA0, hV, rfl, hfz, hnd⟩ := hW
  have hA : DataW.TrodAll enc Tryd.prog W 0 (fun _ => true) true Tryd.f3.params.toList args.toList ds p := hA0
  rw [Tryd.params3] at hA hval
  obtain ⟨v0, vs0, d0, ds0, p0, q0, hargs, rfl, rfl, h0, r0⟩ := trodAll_cons hA
  obtain ⟨v1, vs1, d1, ds1, p1, q1, rfl, rfl, rfl, h1, r1⟩ := trodAll_cons r0
  obtain ⟨rfl, rfl, rfl⟩ := trodAll_nil r1
  obtain rfl : args = #[v0, v1] := by cases args; simp_all
  obtain ⟨rfl, rfl⟩ := trodVars_none hV
  have k0 := h0
  have lt0 : ∀ x ∈ p0, x.block < W.heap.size := by obtain ⟨m, hm⟩ := k0; exact DataW.trod_lt m _ _ _ hm
  have k1 := h1
  have lt1 : ∀ x ∈ p1, x.block < W.heap.size := by obtain ⟨m, hm⟩ := k1; exact DataW.trod_lt m _ _ _ hm
  obtain ⟨y0, g0⟩ := Cx.open_slT (l := [some .i64, some .i64, some .i64, some .i64]) (dp := 12) (by kernel_rfl) Tryd.underlying22 (hval 0 22 v0 rfl rfl) h0
  obtain ⟨y1, g1⟩ := Cx.open_slT (l := [none]) (dp := 12) (by kernel_rfl) Tryd.underlying23 (hval 1 23 v1 rfl rfl) h1
  clear hA0 hval0
  refine (lwalks_walk v0 y0 v1 y1 W (of_laid hLd) g0 g1).mono fun e W' ⟨he, bel⟩ => ?_
  subst he
  exact ⟨_, rfl, _, _, _, [], _, [], hW', trodAll_mk1 (shut_bool Tryd.underlying4 _), (trodAll_cons_mk (Below.trod lwalks_laidOut (by kernel_rfl) (of_decide_eq_true (by kernel_rfl)) k0 bel lt0) (trodAll_cons_mk (Below.trod lwalks_laidOut (by kernel_rfl) (of_decide_eq_true (by kernel_rfl)) k1 bel lt1) trodAll_mk0)), rfl, bel.frame _, fun h => by cases h⟩

theorem lwalks_over : Rows.lotWalksRow.holds Tryd.pinned (OpenSpec.ofChange Rows.lotWalksSpec) :=
  OpenClaim.holds_of_wide 3 Tryd.f3 rfl rfl rfl rfl rfl rfl rfl ⟨rfl, rfl, rfl, rfl, rfl⟩ rfl rfl rfl rfl rfl (by kernel_rfl) Tryd.func3 (by kernel_rfl)
    (of_decide_eq_true (by kernel_rfl)) (by unfold Func.isWrapper; rw [if_neg (of_decide_eq_false (by kernel_rfl))]; exact ⟨rfl, rfl⟩)
    (fun os started H enc _ => lwalks_lifted os started H enc)

theorem lwalks_proved : Rows.LotWalksCardSaid :=
  Claim7.holds_tied_plain_at .later [] [.data, .data] true (true, "47dced046262eae215c9f68c1b852eb7ec86e117a87f24054dab096dfd65c1e2") false
    lwalks_over (fun _ h => by cases h) (by kernel_rfl) (fun _ h => by cases h) lotWalks_row_tie rfl ⟨rfl, rfl⟩ (by kernel_rfl) rfl
    (fun f fn hf hfn => by
      obtain rfl : f = 3 := Option.some.inj ((show Tryd.prog.funcNamed "acme/acmelaw11.LotWalks" = some 3 by kernel_rfl).symm.trans hf) |>.symm
      obtain rfl : fn = Tryd.f3 := (Option.some.inj (Tryd.func3.symm.trans hfn)).symm
      exact ⟨by kernel_rfl, fun j t ht => by
        rw [Tryd.params3] at ht
        have hm : t ∈ [22, 23] := by simpa using Array.mem_of_getElem? ht
        have hall : ([22, 23].all fun u => !Tryd.prog.wantsStandIn u) = true := by kernel_rfl
        exact (show Tryd.prog.wantsStandIn t = false by simpa using List.all_eq_true.1 hall t hm)⟩)
    (by kernel_rfl)
#print axioms lwalks_proved

end Go.Proofs.YtbnnackoakhmdaaDoor
