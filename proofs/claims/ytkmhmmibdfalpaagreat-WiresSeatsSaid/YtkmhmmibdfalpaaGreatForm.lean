/- Contracts of thread.Check, shapeOf and what they call: whether a form is valid, and its shape. -/
import Derived.Test.YtkmhmmibdfalpaaGreatAll
namespace Go.Proofs.YtkmhmmibdfalpaaGreat
open Go.RowKit

/-- A form, as values: pitch, leans, above, below, starts, hand, taper. -/
structure Form where
  p : Int
  l : Int
  r : Int
  a : Int
  b : Int
  s : Int
  h : Bool
  t : Int

def Form.cells (f : Form) : Array Value := #[.int .i64 f.p, .int .i64 f.l, .int .i64 f.r, .int .i64 f.a, .int .i64 f.b, .int .i64 f.s, .bool f.h, .int .i64 f.t]

def limB (f : Form) : Bool := allB 100 200000 [f.p] && allB 0 3000 [f.l, f.r] && allB 0 200000 [f.a, f.b] && allB 1 8 [f.s] && allB 0 100 [f.t]

set_option maxHeartbeats 1000000 in
theorem inLimits_0 (p l r a b s t : Int) (h : Bool) (w : World) (h1 : allB 100 200000 [p] = false) :
    Calls Tryz.prog 63 #[.agg #[.int .i64 p, .int .i64 l, .int .i64 r, .int .i64 a, .int .i64 b, .int .i64 s, .bool h, .int .i64 t]] w fun e w' => e = .returned (.bool false) ∧ Below w.heap.size w w' := by
    go_enter Tryz.func63, Tryz.ntmps63
    go_wp2_with fail
    refine (allFrom1 _ _ p _ _ _ (by simp) (by go_cell)).mono ?_
    rintro e w1 ⟨rfl, hb1⟩
    have B1 : Box w1 w.heap.size #[.int .i64 p, .int .i64 l, .int .i64 r, .int .i64 a, .int .i64 b, .int .i64 s, .bool h, .int .i64 t] := (Box.alloc (Box.new w _ _) _).below hb1
    have c1 := B1.2.1
    have hB1 : Below w.heap.size w w1 := Below.trans (by go_grown) (hb1.mono (by go_size))
    have hz1 : w.heap.size < w1.heap.size := B1.1
    clear hb1
    go_wp2
    go_returns
    exact ⟨rfl, by go_grown⟩

set_option maxHeartbeats 1000000 in
theorem inLimits_1 (p l r a b s t : Int) (h : Bool) (w : World) (h1 : allB 100 200000 [p] = true) (h2 : allB 0 3000 [l, r] = false) :
    Calls Tryz.prog 63 #[.agg #[.int .i64 p, .int .i64 l, .int .i64 r, .int .i64 a, .int .i64 b, .int .i64 s, .bool h, .int .i64 t]] w fun e w' => e = .returned (.bool false) ∧ Below w.heap.size w w' := by
    go_enter Tryz.func63, Tryz.ntmps63
    go_wp2_with fail
    refine (allFrom1 _ _ p _ _ _ (by simp) (by go_cell)).mono ?_
    rintro e w1 ⟨rfl, hb1⟩
    have B1 : Box w1 w.heap.size #[.int .i64 p, .int .i64 l, .int .i64 r, .int .i64 a, .int .i64 b, .int .i64 s, .bool h, .int .i64 t] := (Box.alloc (Box.new w _ _) _).below hb1
    have c1 := B1.2.1
    have hB1 : Below w.heap.size w w1 := Below.trans (by go_grown) (hb1.mono (by go_size))
    have hz1 : w.heap.size < w1.heap.size := B1.1
    clear hb1
    go_wp2_with fail
    refine (allFrom2 _ _ l r _ _ _ (by simp) (by go_cell) (by go_cell)).mono ?_
    rintro e w2 ⟨rfl, hb2⟩
    have B2 : Box w2 w.heap.size #[.int .i64 p, .int .i64 l, .int .i64 r, .int .i64 a, .int .i64 b, .int .i64 s, .bool h, .int .i64 t] := (Box.alloc B1 _).below hb2
    have c2 := B2.2.1
    have hB2 : Below w.heap.size w w2 := Below.trans (by go_grown) (hb2.mono (by go_size))
    have hz2 : w.heap.size < w2.heap.size := B2.1
    clear hb2 c1 hB1 hz1
    go_wp2
    go_returns
    exact ⟨rfl, by go_grown⟩

set_option maxHeartbeats 1000000 in
theorem inLimits_2 (p l r a b s t : Int) (h : Bool) (w : World) (h1 : allB 100 200000 [p] = true) (h2 : allB 0 3000 [l, r] = true) (h3 : allB 0 200000 [a, b] = false) :
    Calls Tryz.prog 63 #[.agg #[.int .i64 p, .int .i64 l, .int .i64 r, .int .i64 a, .int .i64 b, .int .i64 s, .bool h, .int .i64 t]] w fun e w' => e = .returned (.bool false) ∧ Below w.heap.size w w' := by
    go_enter Tryz.func63, Tryz.ntmps63
    go_wp2_with fail
    refine (allFrom1 _ _ p _ _ _ (by simp) (by go_cell)).mono ?_
    rintro e w1 ⟨rfl, hb1⟩
    have B1 : Box w1 w.heap.size #[.int .i64 p, .int .i64 l, .int .i64 r, .int .i64 a, .int .i64 b, .int .i64 s, .bool h, .int .i64 t] := (Box.alloc (Box.new w _ _) _).below hb1
    have c1 := B1.2.1
    have hB1 : Below w.heap.size w w1 := Below.trans (by go_grown) (hb1.mono (by go_size))
    have hz1 : w.heap.size < w1.heap.size := B1.1
    clear hb1
    go_wp2_with fail
    refine (allFrom2 _ _ l r _ _ _ (by simp) (by go_cell) (by go_cell)).mono ?_
    rintro e w2 ⟨rfl, hb2⟩
    have B2 : Box w2 w.heap.size #[.int .i64 p, .int .i64 l, .int .i64 r, .int .i64 a, .int .i64 b, .int .i64 s, .bool h, .int .i64 t] := (Box.alloc B1 _).below hb2
    have c2 := B2.2.1
    have hB2 : Below w.heap.size w w2 := Below.trans (by go_grown) (hb2.mono (by go_size))
    have hz2 : w.heap.size < w2.heap.size := B2.1
    clear hb2 c1 hB1 hz1
    go_wp2_with fail
    refine (allFrom2 _ _ a b _ _ _ (by simp) (by go_cell) (by go_cell)).mono ?_
    rintro e w3 ⟨rfl, hb3⟩
    have B3 : Box w3 w.heap.size #[.int .i64 p, .int .i64 l, .int .i64 r, .int .i64 a, .int .i64 b, .int .i64 s, .bool h, .int .i64 t] := (Box.alloc B2 _).below hb3
    have c3 := B3.2.1
    have hB3 : Below w.heap.size w w3 := Below.trans (by go_grown) (hb3.mono (by go_size))
    have hz3 : w.heap.size < w3.heap.size := B3.1
    clear hb3 c2 hB2 hz2
    go_wp2
    go_returns
    exact ⟨rfl, by go_grown⟩

set_option maxHeartbeats 1000000 in
theorem inLimits_3 (p l r a b s t : Int) (h : Bool) (w : World) (h1 : allB 100 200000 [p] = true) (h2 : allB 0 3000 [l, r] = true) (h3 : allB 0 200000 [a, b] = true) (h4 : allB 1 8 [s] = false) :
    Calls Tryz.prog 63 #[.agg #[.int .i64 p, .int .i64 l, .int .i64 r, .int .i64 a, .int .i64 b, .int .i64 s, .bool h, .int .i64 t]] w fun e w' => e = .returned (.bool false) ∧ Below w.heap.size w w' := by
    go_enter Tryz.func63, Tryz.ntmps63
    go_wp2_with fail
    refine (allFrom1 _ _ p _ _ _ (by simp) (by go_cell)).mono ?_
    rintro e w1 ⟨rfl, hb1⟩
    have B1 : Box w1 w.heap.size #[.int .i64 p, .int .i64 l, .int .i64 r, .int .i64 a, .int .i64 b, .int .i64 s, .bool h, .int .i64 t] := (Box.alloc (Box.new w _ _) _).below hb1
    have c1 := B1.2.1
    have hB1 : Below w.heap.size w w1 := Below.trans (by go_grown) (hb1.mono (by go_size))
    have hz1 : w.heap.size < w1.heap.size := B1.1
    clear hb1
    go_wp2_with fail
    refine (allFrom2 _ _ l r _ _ _ (by simp) (by go_cell) (by go_cell)).mono ?_
    rintro e w2 ⟨rfl, hb2⟩
    have B2 : Box w2 w.heap.size #[.int .i64 p, .int .i64 l, .int .i64 r, .int .i64 a, .int .i64 b, .int .i64 s, .bool h, .int .i64 t] := (Box.alloc B1 _).below hb2
    have c2 := B2.2.1
    have hB2 : Below w.heap.size w w2 := Below.trans (by go_grown) (hb2.mono (by go_size))
    have hz2 : w.heap.size < w2.heap.size := B2.1
    clear hb2 c1 hB1 hz1
    go_wp2_with fail
    refine (allFrom2 _ _ a b _ _ _ (by simp) (by go_cell) (by go_cell)).mono ?_
    rintro e w3 ⟨rfl, hb3⟩
    have B3 : Box w3 w.heap.size #[.int .i64 p, .int .i64 l, .int .i64 r, .int .i64 a, .int .i64 b, .int .i64 s, .bool h, .int .i64 t] := (Box.alloc B2 _).below hb3
    have c3 := B3.2.1
    have hB3 : Below w.heap.size w w3 := Below.trans (by go_grown) (hb3.mono (by go_size))
    have hz3 : w.heap.size < w3.heap.size := B3.1
    clear hb3 c2 hB2 hz2
    go_wp2_with fail
    refine (allFrom1 _ _ s _ _ _ (by simp) (by go_cell)).mono ?_
    rintro e w4 ⟨rfl, hb4⟩
    have B4 : Box w4 w.heap.size #[.int .i64 p, .int .i64 l, .int .i64 r, .int .i64 a, .int .i64 b, .int .i64 s, .bool h, .int .i64 t] := (Box.alloc B3 _).below hb4
    have c4 := B4.2.1
    have hB4 : Below w.heap.size w w4 := Below.trans (by go_grown) (hb4.mono (by go_size))
    have hz4 : w.heap.size < w4.heap.size := B4.1
    clear hb4 c3 hB3 hz3
    go_wp2
    go_returns
    exact ⟨rfl, by go_grown⟩

set_option maxHeartbeats 1000000 in
theorem inLimits_4 (p l r a b s t : Int) (h : Bool) (w : World) (h1 : allB 100 200000 [p] = true) (h2 : allB 0 3000 [l, r] = true) (h3 : allB 0 200000 [a, b] = true) (h4 : allB 1 8 [s] = true) (h5 : allB 0 100 [t] = false) :
    Calls Tryz.prog 63 #[.agg #[.int .i64 p, .int .i64 l, .int .i64 r, .int .i64 a, .int .i64 b, .int .i64 s, .bool h, .int .i64 t]] w fun e w' => e = .returned (.bool false) ∧ Below w.heap.size w w' := by
    go_enter Tryz.func63, Tryz.ntmps63
    go_wp2_with fail
    refine (allFrom1 _ _ p _ _ _ (by simp) (by go_cell)).mono ?_
    rintro e w1 ⟨rfl, hb1⟩
    have B1 : Box w1 w.heap.size #[.int .i64 p, .int .i64 l, .int .i64 r, .int .i64 a, .int .i64 b, .int .i64 s, .bool h, .int .i64 t] := (Box.alloc (Box.new w _ _) _).below hb1
    have c1 := B1.2.1
    have hB1 : Below w.heap.size w w1 := Below.trans (by go_grown) (hb1.mono (by go_size))
    have hz1 : w.heap.size < w1.heap.size := B1.1
    clear hb1
    go_wp2_with fail
    refine (allFrom2 _ _ l r _ _ _ (by simp) (by go_cell) (by go_cell)).mono ?_
    rintro e w2 ⟨rfl, hb2⟩
    have B2 : Box w2 w.heap.size #[.int .i64 p, .int .i64 l, .int .i64 r, .int .i64 a, .int .i64 b, .int .i64 s, .bool h, .int .i64 t] := (Box.alloc B1 _).below hb2
    have c2 := B2.2.1
    have hB2 : Below w.heap.size w w2 := Below.trans (by go_grown) (hb2.mono (by go_size))
    have hz2 : w.heap.size < w2.heap.size := B2.1
    clear hb2 c1 hB1 hz1
    go_wp2_with fail
    refine (allFrom2 _ _ a b _ _ _ (by simp) (by go_cell) (by go_cell)).mono ?_
    rintro e w3 ⟨rfl, hb3⟩
    have B3 : Box w3 w.heap.size #[.int .i64 p, .int .i64 l, .int .i64 r, .int .i64 a, .int .i64 b, .int .i64 s, .bool h, .int .i64 t] := (Box.alloc B2 _).below hb3
    have c3 := B3.2.1
    have hB3 : Below w.heap.size w w3 := Below.trans (by go_grown) (hb3.mono (by go_size))
    have hz3 : w.heap.size < w3.heap.size := B3.1
    clear hb3 c2 hB2 hz2
    go_wp2_with fail
    refine (allFrom1 _ _ s _ _ _ (by simp) (by go_cell)).mono ?_
    rintro e w4 ⟨rfl, hb4⟩
    have B4 : Box w4 w.heap.size #[.int .i64 p, .int .i64 l, .int .i64 r, .int .i64 a, .int .i64 b, .int .i64 s, .bool h, .int .i64 t] := (Box.alloc B3 _).below hb4
    have c4 := B4.2.1
    have hB4 : Below w.heap.size w w4 := Below.trans (by go_grown) (hb4.mono (by go_size))
    have hz4 : w.heap.size < w4.heap.size := B4.1
    clear hb4 c3 hB3 hz3
    go_wp2_with fail
    refine (allFrom1 _ _ t _ _ _ (by simp) (by go_cell)).mono ?_
    rintro e w5 ⟨rfl, hb5⟩
    have B5 : Box w5 w.heap.size #[.int .i64 p, .int .i64 l, .int .i64 r, .int .i64 a, .int .i64 b, .int .i64 s, .bool h, .int .i64 t] := (Box.alloc B4 _).below hb5
    have c5 := B5.2.1
    have hB5 : Below w.heap.size w w5 := Below.trans (by go_grown) (hb5.mono (by go_size))
    have hz5 : w.heap.size < w5.heap.size := B5.1
    clear hb5 c4 hB4 hz4
    go_wp2
    go_returns
    exact ⟨rfl, by go_grown⟩

set_option maxHeartbeats 1000000 in
theorem inLimits_5 (p l r a b s t : Int) (h : Bool) (w : World) (h1 : allB 100 200000 [p] = true) (h2 : allB 0 3000 [l, r] = true) (h3 : allB 0 200000 [a, b] = true) (h4 : allB 1 8 [s] = true) (h5 : allB 0 100 [t] = true) :
    Calls Tryz.prog 63 #[.agg #[.int .i64 p, .int .i64 l, .int .i64 r, .int .i64 a, .int .i64 b, .int .i64 s, .bool h, .int .i64 t]] w fun e w' => e = .returned (.bool true) ∧ Below w.heap.size w w' := by
    go_enter Tryz.func63, Tryz.ntmps63
    go_wp2_with fail
    refine (allFrom1 _ _ p _ _ _ (by simp) (by go_cell)).mono ?_
    rintro e w1 ⟨rfl, hb1⟩
    have B1 : Box w1 w.heap.size #[.int .i64 p, .int .i64 l, .int .i64 r, .int .i64 a, .int .i64 b, .int .i64 s, .bool h, .int .i64 t] := (Box.alloc (Box.new w _ _) _).below hb1
    have c1 := B1.2.1
    have hB1 : Below w.heap.size w w1 := Below.trans (by go_grown) (hb1.mono (by go_size))
    have hz1 : w.heap.size < w1.heap.size := B1.1
    clear hb1
    go_wp2_with fail
    refine (allFrom2 _ _ l r _ _ _ (by simp) (by go_cell) (by go_cell)).mono ?_
    rintro e w2 ⟨rfl, hb2⟩
    have B2 : Box w2 w.heap.size #[.int .i64 p, .int .i64 l, .int .i64 r, .int .i64 a, .int .i64 b, .int .i64 s, .bool h, .int .i64 t] := (Box.alloc B1 _).below hb2
    have c2 := B2.2.1
    have hB2 : Below w.heap.size w w2 := Below.trans (by go_grown) (hb2.mono (by go_size))
    have hz2 : w.heap.size < w2.heap.size := B2.1
    clear hb2 c1 hB1 hz1
    go_wp2_with fail
    refine (allFrom2 _ _ a b _ _ _ (by simp) (by go_cell) (by go_cell)).mono ?_
    rintro e w3 ⟨rfl, hb3⟩
    have B3 : Box w3 w.heap.size #[.int .i64 p, .int .i64 l, .int .i64 r, .int .i64 a, .int .i64 b, .int .i64 s, .bool h, .int .i64 t] := (Box.alloc B2 _).below hb3
    have c3 := B3.2.1
    have hB3 : Below w.heap.size w w3 := Below.trans (by go_grown) (hb3.mono (by go_size))
    have hz3 : w.heap.size < w3.heap.size := B3.1
    clear hb3 c2 hB2 hz2
    go_wp2_with fail
    refine (allFrom1 _ _ s _ _ _ (by simp) (by go_cell)).mono ?_
    rintro e w4 ⟨rfl, hb4⟩
    have B4 : Box w4 w.heap.size #[.int .i64 p, .int .i64 l, .int .i64 r, .int .i64 a, .int .i64 b, .int .i64 s, .bool h, .int .i64 t] := (Box.alloc B3 _).below hb4
    have c4 := B4.2.1
    have hB4 : Below w.heap.size w w4 := Below.trans (by go_grown) (hb4.mono (by go_size))
    have hz4 : w.heap.size < w4.heap.size := B4.1
    clear hb4 c3 hB3 hz3
    go_wp2_with fail
    refine (allFrom1 _ _ t _ _ _ (by simp) (by go_cell)).mono ?_
    rintro e w5 ⟨rfl, hb5⟩
    have B5 : Box w5 w.heap.size #[.int .i64 p, .int .i64 l, .int .i64 r, .int .i64 a, .int .i64 b, .int .i64 s, .bool h, .int .i64 t] := (Box.alloc B4 _).below hb5
    have c5 := B5.2.1
    have hB5 : Below w.heap.size w w5 := Below.trans (by go_grown) (hb5.mono (by go_size))
    have hz5 : w.heap.size < w5.heap.size := B5.1
    clear hb5 c4 hB4 hz4
    go_wp2
    go_returns
    exact ⟨rfl, by go_grown⟩

theorem inLimits_any (p l r a b s t : Int) (h : Bool) (w : World) :
    Calls Tryz.prog 63 #[.agg #[.int .i64 p, .int .i64 l, .int .i64 r, .int .i64 a, .int .i64 b, .int .i64 s, .bool h, .int .i64 t]] w fun e w' => e = .returned (.bool (limB ⟨p, l, r, a, b, s, h, t⟩)) ∧ Below w.heap.size w w' := by
  unfold limB
  cases h1 : allB 100 200000 [p]
  · exact inLimits_0 p l r a b s t h w h1
  cases h2 : allB 0 3000 [l, r]
  · exact inLimits_1 p l r a b s t h w h1 h2
  cases h3 : allB 0 200000 [a, b]
  · exact inLimits_2 p l r a b s t h w h1 h2 h3
  cases h4 : allB 1 8 [s]
  · exact inLimits_3 p l r a b s t h w h1 h2 h3 h4
  cases h5 : allB 0 100 [t]
  · exact inLimits_4 p l r a b s t h w h1 h2 h3 h4 h5
  · exact inLimits_5 p l r a b s t h w h1 h2 h3 h4 h5

/-- What the limits of a form say. -/
theorem lim_iff {f : Form} : limB f = true ↔ (100 ≤ f.p ∧ f.p ≤ 200000) ∧ (0 ≤ f.l ∧ f.l ≤ 3000) ∧ (0 ≤ f.r ∧ f.r ≤ 3000) ∧ (0 ≤ f.a ∧ f.a ≤ 200000) ∧ (0 ≤ f.b ∧ f.b ≤ 200000) ∧ (1 ≤ f.s ∧ f.s ≤ 8) ∧ (0 ≤ f.t ∧ f.t ≤ 100) := by
  simp [limB, allB, inB]
  omega

end Go.Proofs.YtkmhmmibdfalpaaGreat
