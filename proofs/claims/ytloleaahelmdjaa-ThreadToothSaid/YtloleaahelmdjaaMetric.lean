/- The document's example form, and what the examples say of it: the contracts at these values. -/
import Derived.Test.YtloleaahelmdjaaEq
namespace Go.Proofs.Ytloleaahelmdjaa
open Go.RowKit

def metF : Form := ⟨10000, 577, 577, 3000, 3000, 1, false, 0⟩
def nearF : Form := ⟨10100, 577, 577, 3000, 3000, 1, false, 0⟩
def wideF : Form := ⟨10000, 600, 600, 3000, 3000, 1, false, 0⟩
def coneF : Form := ⟨10000, 577, 577, 3000, 3000, 1, false, 50⟩

theorem metric_any (w : World) : Calls Try.prog 48 #[] w fun e w' => e = .returned (.agg #[.int .i64 10000, .int .i64 577, .int .i64 577, .int .i64 3000, .int .i64 3000, .int .i64 1, .bool false, .int .i64 0]) ∧ Below w.heap.size w w' := by
  go_enter Try.func48, Try.ntmps48
  go_wp2
  go_returns
  exact ⟨rfl, by go_grown⟩

theorem all_any (w : World) : Calls Try.prog 49 #[] w fun e w' => e = .returned (.agg #[.int .i64 0, .int .i64 10000000, .int .i64 0, .int .i64 10000000, .int .i64 0, .int .i64 10000000, .int .i64 0, .int .i64 10000000, .int .i64 0, .int .i64 10000000, .int .i64 0, .int .i64 10000000, .int .i64 0, .int .i64 10000000, .int .i64 0]) ∧ Below w.heap.size w w' := by
  go_enter Try.func49, Try.ntmps49
  go_wp2
  go_returns
  exact ⟨rfl, by go_grown⟩

/-- A ratio at values. -/
theorem ratV_at {n d g a b : Int} (hg : (Int.gcd n d : Int) = g) (ha : n / g = a) (hb : d / g = b) : ratV n d = .agg #[.int .i64 a, .int .i64 b] := by
  unfold ratV
  rw [hg, ha, hb]

theorem ok_met : okB ⟨10000, 577, 577, 3000, 3000, 1, false, 0⟩ = true := by decide
theorem ok_cone : okB ⟨10000, 577, 577, 3000, 3000, 1, false, 50⟩ = true := by decide
theorem ok_wide : okB ⟨10000, 600, 600, 3000, 3000, 1, false, 0⟩ = true := by decide
theorem ok_near : okB ⟨10100, 577, 577, 3000, 3000, 1, false, 0⟩ = true := by decide

theorem known_width (w : World) : Calls Try.prog 15 #[.agg #[.int .i64 10000, .int .i64 577, .int .i64 577, .int .i64 3000, .int .i64 3000, .int .i64 1, .bool false, .int .i64 0], .int .i64 3000] w fun e w' => e = .returned (.tuple #[.agg #[.int .i64 1538, .int .i64 1], .int .i64 0]) ∧ Below w.heap.size w w' := by
  have h := width_good 10000 577 577 3000 3000 1 0 false 3000 w ok_met (by decide)
  rw [ratV_at (g := 1000) (a := 1538) (b := 1) (by decide +kernel) (by decide) (by decide)] at h
  exact h

theorem known_sharp (w : World) : Calls Try.prog 16 #[.agg #[.int .i64 10000, .int .i64 577, .int .i64 577, .int .i64 3000, .int .i64 3000, .int .i64 1, .bool false, .int .i64 0]] w fun e w' => e = .returned (.tuple #[.agg #[.int .i64 2500000, .int .i64 577], .int .i64 0]) ∧ Below w.heap.size w w' := by
  have h := sharp_good 10000 577 577 3000 3000 1 0 false w ok_met (by decide)
  rw [ratV_at (g := 2) (a := 2500000) (b := 577) (by decide +kernel) (by decide) (by decide)] at h
  exact h

theorem known_area (w : World) : Calls Try.prog 22 #[.agg #[.int .i64 10000, .int .i64 577, .int .i64 577, .int .i64 3000, .int .i64 3000, .int .i64 1, .bool false, .int .i64 0], .int .i64 0, .int .i64 3000] w fun e w' => e = .returned (.tuple #[.agg #[.int .i64 9807000, .int .i64 1], .int .i64 0]) ∧ Below w.heap.size w w' := by
  have h := area_good 10000 577 577 3000 3000 1 0 false 0 3000 w ok_met (by decide)
  rw [ratV_at (g := 2000) (a := 9807000) (b := 1) (by decide +kernel) (by decide) (by decide)] at h
  exact h

theorem known_advance (w : World) : Calls Try.prog 23 #[.agg #[.int .i64 10000, .int .i64 577, .int .i64 577, .int .i64 3000, .int .i64 3000, .int .i64 1, .bool false, .int .i64 0], .int .i64 250000] w fun e w' => e = .returned (.tuple #[.agg #[.int .i64 2500, .int .i64 1], .int .i64 0]) ∧ Below w.heap.size w w' := by
  have h := advance_right 10000 577 577 3000 3000 1 0 false 250000 w ok_met rfl (by decide)
  rw [ratV_at (g := 1000000) (a := 2500) (b := 1) (by decide +kernel) (by decide) (by decide)] at h
  exact h

theorem known_diameter (w : World) : Calls Try.prog 25 #[.agg #[.int .i64 10000, .int .i64 577, .int .i64 577, .int .i64 3000, .int .i64 3000, .int .i64 1, .bool false, .int .i64 50], .int .i64 100000, .int .i64 10000] w fun e w' => e = .returned (.tuple #[.agg #[.int .i64 101000, .int .i64 1], .int .i64 0]) ∧ Below w.heap.size w w' := by
  have h := diameter_good 10000 577 577 3000 3000 1 50 false 100000 10000 w ok_cone (by decide) (by decide)
  rw [ratV_at (g := 1000) (a := 101000) (b := 1) (by decide +kernel) (by decide) (by decide)] at h
  exact h

theorem known_meets (w : World) : Calls Try.prog 26 #[.agg #[.int .i64 10000, .int .i64 577, .int .i64 577, .int .i64 3000, .int .i64 3000, .int .i64 1, .bool false, .int .i64 50], .int .i64 100000, .int .i64 100500] w fun e w' => e = .returned (.tuple #[.agg #[.int .i64 1, .int .i64 2], .int .i64 0]) ∧ Below w.heap.size w w' := by
  have h := meets_good 10000 577 577 3000 3000 1 50 false 100000 100500 w ok_cone (by decide) (by decide)
  rw [ratV_at (g := 250000) (a := 1) (b := 2) (by decide +kernel) (by decide) (by decide)] at h
  exact h

theorem known_perinch (w : World) : Calls Try.prog 24 #[.agg #[.int .i64 10000, .int .i64 577, .int .i64 577, .int .i64 3000, .int .i64 3000, .int .i64 1, .bool false, .int .i64 0]] w fun e w' => e = .returned (.tuple #[.agg #[.int .i64 127, .int .i64 5], .int .i64 0]) ∧ Below w.heap.size w w' := by
  have h := perinch_good 10000 577 577 3000 3000 1 0 false w ok_met
  rw [ratV_at (g := 2000) (a := 127) (b := 5) (by decide +kernel) (by decide) (by decide)] at h
  exact h

theorem known_room (w : World) : Calls Try.prog 27 #[.agg #[.int .i64 10000, .int .i64 577, .int .i64 577, .int .i64 3000, .int .i64 3000, .int .i64 1, .bool false, .int .i64 0], .agg #[.int .i64 10000, .int .i64 600, .int .i64 600, .int .i64 3000, .int .i64 3000, .int .i64 1, .bool false, .int .i64 0], .agg #[.int .i64 (-3000), .int .i64 3000]] w fun e w' => e = .returned (.tuple #[.int .i64 120, .int .i64 0]) ∧ Below w.heap.size w w' := by
  have h := room_good 10000 577 577 3000 3000 1 0 false 10000 600 600 3000 3000 1 0 false (-3000) 3000 w ok_met ok_wide rfl rfl (by decide) (by decide) (by decide)
  rw [show upTo (ovl (-3000) 3000 577 600 + ovl (-3000) 3000 577 600) (577 + 577) = 120 by decide] at h
  exact h

/-- The three forms of the examples' table. -/
def tab3 : List Form := [metF, nearF, wideF]
theorem tab3_ok : tabN tab3 = 0 := by decide
theorem tab3_alike : sortP (prL tab3 60 5 0 3) = [(0, 1)] := by
  have h : prL tab3 60 5 0 3 = [(0, 1)] := by decide
  rw [h]
  exact List.mergeSort_singleton _
def seenK : Seen := ⟨10040, 10160, 0, 10000000, 0, 10000000, 0, 10000000, 0, 10000000, 0, 10000000, 0, 10000000, 0⟩
theorem seenK_ok : seenB seenK = true := by decide
theorem tab3_agree : agL tab3 seenK 3 = [1] := by decide

theorem known_alike (v : Value) (w : World) (hF : FormsAt w v tab3) : Calls Try.prog 31 #[v, .agg #[.int .i64 60, .int .i64 5, .int .i64 0]] w fun e w' => Below w.heap.size w w' ∧ ∃ g cap, e = .returned (.tuple #[.slice (some ⟨g, 0, none⟩) 1 cap, .int .i64 0]) ∧ w.heap.size ≤ g ∧ g < w'.heap.size ∧ w'.cell? ⟨g, 0, none⟩ = some (.int .i64 0) ∧ w'.cell? ⟨g, 1, none⟩ = some (.int .i64 1) := by
  refine (alike_calls tab3 v 60 5 0 w hF (by decide)).mono ?_
  rintro e w' ⟨hB, h | h | h⟩
  · exact absurd tab3_ok h.1
  · exact absurd h.2.1 (by decide)
  · obtain ⟨_, _, lv, rfl, hP⟩ := h
    rw [show tab3.length = 3 from rfl, tab3_alike] at hP
    rcases hP with ⟨_, h⟩ | ⟨g, cap, rfl, h1, h2, hc⟩
    · exact absurd h (by decide)
    · have := hc 0 (by decide)
      exact ⟨hB, g, cap, rfl, h1, h2, this.1, this.2⟩

theorem known_agree (v : Value) (w : World) (hF : FormsAt w v tab3) : Calls Try.prog 30 #[v, .agg #[.int .i64 10040, .int .i64 10160, .int .i64 0, .int .i64 10000000, .int .i64 0, .int .i64 10000000, .int .i64 0, .int .i64 10000000, .int .i64 0, .int .i64 10000000, .int .i64 0, .int .i64 10000000, .int .i64 0, .int .i64 10000000, .int .i64 0]] w fun e w' => Below w.heap.size w w' ∧ ∃ g cap, e = .returned (.tuple #[.slice (some ⟨g, 0, none⟩) 1 cap, .int .i64 0]) ∧ w.heap.size ≤ g ∧ g < w'.heap.size ∧ w'.cell? ⟨g, 0, none⟩ = some (.int .i64 1) := by
  refine (agree_any tab3 v seenK w hF (by decide)).mono ?_
  rintro e w' ⟨hB, h | h | h⟩
  · exact absurd tab3_ok h.1
  · exact absurd h.2.1 (by decide)
  · obtain ⟨_, _, lv, rfl, hP⟩ := h
    rw [show tab3.length = 3 from rfl, tab3_agree] at hP
    rcases hP.2 with ⟨_, h⟩ | ⟨g, cap, cur, rfl, h3, h4, h5, h6, h7, h8⟩
    · exact absurd h (by decide)
    · have hc : cur[0]? = some (.int .i64 1) := by
        have h9 := congrArg (fun l => l[0]?) h8
        simpa [natsV, List.getElem?_take] using h9
      exact ⟨hB, g, cap, rfl, h3, (Array.getElem?_eq_some_iff.1 h4).1, (cell_at h4 0).trans hc⟩

theorem forms_tab3 {w : World} {b : Nat} (h : Box w b #[.int .i64 10000, .int .i64 577, .int .i64 577, .int .i64 3000, .int .i64 3000, .int .i64 1, .bool false, .int .i64 0,
    .int .i64 10100, .int .i64 577, .int .i64 577, .int .i64 3000, .int .i64 3000, .int .i64 1, .bool false, .int .i64 0,
    .int .i64 10000, .int .i64 600, .int .i64 600, .int .i64 3000, .int .i64 3000, .int .i64 1, .bool false, .int .i64 0]) : FormsAt w (.slice (some ⟨b, 0, none⟩) 3 3) tab3 := by
  refine .inr ⟨b, 0, 3, rfl, h.1, fun i hi j hj => ?_⟩
  rw [h.2.1]
  have hi' : i < 3 := hi
  rcases (by omega : i = 0 ∨ i = 1 ∨ i = 2) with rfl | rfl | rfl <;> rcases (by omega : j = 0 ∨ j = 1 ∨ j = 2 ∨ j = 3 ∨ j = 4 ∨ j = 5 ∨ j = 6 ∨ j = 7) with rfl | rfl | rfl | rfl | rfl | rfl | rfl | rfl <;> rfl

/-- Two blocks of an elder world, later. -/
theorem keepC {W w' : World} {g1 g2 : Nat} {c1 c2 : Array Value} (hB : Below W.heap.size W w') (l1 : g1 < W.heap.size) (l2 : g2 < W.heap.size) (h1 : ∀ i, W.cell? ⟨g1, i, none⟩ = c1[i]?) (h2 : ∀ i, W.cell? ⟨g2, i, none⟩ = c2[i]?) :
    Below W.heap.size W w' ∧ (∀ i, w'.cell? ⟨g1, i, none⟩ = c1[i]?) ∧ (∀ i, w'.cell? ⟨g2, i, none⟩ = c2[i]?) :=
  ⟨hB, fun i => (hB.cell (p := ⟨g1, i, none⟩) l1).trans (h1 i), fun i => (hB.cell (p := ⟨g2, i, none⟩) l2).trans (h2 i)⟩
theorem below_grow {W w' : World} (h : Below W.heap.size W w') (o : Obj) : Below W.heap.size W (w'.alloc o) := h.alloc h.size o
theorem keepC3 {W w' : World} {g1 g2 g3 : Nat} {c1 c2 c3 : Array Value} (hB : Below W.heap.size W w') (l1 : g1 < W.heap.size) (l2 : g2 < W.heap.size) (l3 : g3 < W.heap.size) (h1 : ∀ i, W.cell? ⟨g1, i, none⟩ = c1[i]?) (h2 : ∀ i, W.cell? ⟨g2, i, none⟩ = c2[i]?) (h3 : ∀ i, W.cell? ⟨g3, i, none⟩ = c3[i]?) :
    Below W.heap.size W w' ∧ (∀ i, w'.cell? ⟨g1, i, none⟩ = c1[i]?) ∧ (∀ i, w'.cell? ⟨g2, i, none⟩ = c2[i]?) ∧ (∀ i, w'.cell? ⟨g3, i, none⟩ = c3[i]?) :=
  ⟨hB, fun i => (hB.cell (p := ⟨g1, i, none⟩) l1).trans (h1 i), fun i => (hB.cell (p := ⟨g2, i, none⟩) l2).trans (h2 i), fun i => (hB.cell (p := ⟨g3, i, none⟩) l3).trans (h3 i)⟩

/-- The first cells of a block. -/
def Seg (w : World) (g : Nat) (l : List Value) : Prop := g < w.heap.size ∧ ∀ i (h : i < l.length), w.cell? ⟨g, i, none⟩ = some l[i]
theorem Seg.below {w w' : World} {g : Nat} {l : List Value} (h : Seg w g l) (hb : Below w.heap.size w w') : Seg w' g l :=
  ⟨Nat.lt_of_lt_of_le h.1 hb.size, fun i hi => (hb.cell (p := ⟨g, i, none⟩) h.1).trans (h.2 i hi)⟩
theorem Seg.one {w : World} {g : Nat} {x : Value} (hg : g < w.heap.size) (h : w.cell? ⟨g, 0, none⟩ = some x) : Seg w g [x] :=
  ⟨hg, fun i hi => by obtain rfl : i = 0 := by simpa using hi
                      exact h⟩
theorem Seg.two {w : World} {g : Nat} {x y : Value} (hg : g < w.heap.size) (h : w.cell? ⟨g, 0, none⟩ = some x) (h1 : w.cell? ⟨g, 1, none⟩ = some y) : Seg w g [x, y] :=
  ⟨hg, fun i hi => by
    have hi' : i < 2 := hi
    rcases (by omega : i = 0 ∨ i = 1) with rfl | rfl
    · exact h
    · exact h1⟩
end Go.Proofs.Ytloleaahelmdjaa
