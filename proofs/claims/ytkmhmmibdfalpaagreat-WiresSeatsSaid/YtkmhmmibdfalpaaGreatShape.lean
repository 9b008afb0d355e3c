/- Contracts of thread.Check and shapeOf: whether a form is valid, and its shape. -/
import Derived.Test.YtkmhmmibdfalpaaGreatForm
import Derived.Test.YtkmhmmibdfalpaaGreatTail
namespace Go.Proofs.YtkmhmmibdfalpaaGreat
open Go.RowKit

def openB (f : Form) : Bool := decide (max f.a f.b * (f.l + f.r) ≤ 500 * f.p)

set_option maxHeartbeats 1000000 in
theorem staysOpen_any (p l r a b s t : Int) (h : Bool) (w : World) (hl : limB ⟨p, l, r, a, b, s, h, t⟩ = true) :
    Calls Tryz.prog 64 #[.agg #[.int .i64 p, .int .i64 l, .int .i64 r, .int .i64 a, .int .i64 b, .int .i64 s, .bool h, .int .i64 t]] w fun e w' => e = .returned (.bool (openB ⟨p, l, r, a, b, s, h, t⟩)) ∧ Below w.heap.size w w' := by
  obtain ⟨⟨p0, p1⟩, ⟨l0, l1⟩, ⟨r0, r1⟩, ⟨a0, a1⟩, ⟨b0, b1⟩, _, _⟩ := lim_iff.1 hl
  clear hl
  simp only at p0 p1 l0 l1 r0 r1 a0 a1 b0 b1
  have m1 : 0 ≤ a * (l + r) := Int.mul_nonneg a0 (by omega)
  have m2 : a * (l + r) ≤ 200000 * 6000 := Int.mul_le_mul a1 (by omega) (by omega) (by omega)
  have m3 : 0 ≤ b * (l + r) := Int.mul_nonneg b0 (by omega)
  have m4 : b * (l + r) ≤ 200000 * 6000 := Int.mul_le_mul b1 (by omega) (by omega) (by omega)
  rcases Int.le_total b a with hab | hab
  · by_cases hc : a * (l + r) ≤ 500 * p
    · go_enter Tryz.func64, Tryz.ntmps64
      go_wp2
      all_goals go_returns
      all_goals exact ⟨ret_bool (by unfold openB; simp only; rw [Int.max_eq_left hab, decide_eq_true hc]), by go_grown⟩
    · go_enter Tryz.func64, Tryz.ntmps64
      go_wp2
      all_goals go_returns
      all_goals exact ⟨ret_bool (by unfold openB; simp only; rw [Int.max_eq_left hab, decide_eq_false (by omega)]), by go_grown⟩
  · by_cases he : a = b
    · subst he
      by_cases hc : a * (l + r) ≤ 500 * p
      · go_enter Tryz.func64, Tryz.ntmps64
        go_wp2
        all_goals go_returns
        all_goals exact ⟨ret_bool (by unfold openB; simp only; rw [Int.max_eq_left hab, decide_eq_true hc]), by go_grown⟩
      · go_enter Tryz.func64, Tryz.ntmps64
        go_wp2
        all_goals go_returns
        all_goals exact ⟨ret_bool (by unfold openB; simp only; rw [Int.max_eq_left hab, decide_eq_false (by omega)]), by go_grown⟩
    have hlt : ¬ b ≤ a := by omega
    by_cases hc : b * (l + r) ≤ 500 * p
    · go_enter Tryz.func64, Tryz.ntmps64
      go_wp2
      all_goals go_returns
      all_goals exact ⟨ret_bool (by unfold openB; simp only; rw [Int.max_eq_right hab, decide_eq_true hc]), by go_grown⟩
    · go_enter Tryz.func64, Tryz.ntmps64
      go_wp2
      all_goals go_returns
      all_goals exact ⟨ret_bool (by unfold openB; simp only; rw [Int.max_eq_right hab, decide_eq_false (by omega)]), by go_grown⟩

def okB (f : Form) : Bool := limB f && decide (1 ≤ f.a + f.b) && openB f
/-- The error of Check. -/
def errN (f : Form) : Int := if okB f then 0 else 2

def FBox (w : World) (g : Nat) (p l r a b s t : Int) (h : Bool) : Prop := Box w g #[.int .i64 p, .int .i64 l, .int .i64 r, .int .i64 a, .int .i64 b, .int .i64 s, .bool h, .int .i64 t]

set_option maxHeartbeats 1000000 in
theorem check_any (p l r a b s t : Int) (h : Bool) (w : World) :
    Calls Tryz.prog 41 #[.agg #[.int .i64 p, .int .i64 l, .int .i64 r, .int .i64 a, .int .i64 b, .int .i64 s, .bool h, .int .i64 t]] w fun e w' => e = .returned (.int .i64 (errN ⟨p, l, r, a, b, s, h, t⟩)) ∧ Below w.heap.size w w' := by
  cases h1 : limB ⟨p, l, r, a, b, s, h, t⟩
  · have he : errN ⟨p, l, r, a, b, s, h, t⟩ = 2 := by unfold errN okB; rw [h1]; rfl
    go_enter Tryz.func41, Tryz.ntmps41
    go_wp2_with fail
    refine (inLimits_any p l r a b s t h _).mono ?_
    rintro e w1 ⟨rfl, hb1⟩
    have B1 : Box w1 w.heap.size _ := (Box.new w _ _).below hb1
    have c1 := B1.2.1
    have hB1 : Below w.heap.size w w1 := Below.trans (by go_grown) (hb1.mono (by go_size))
    have hz1 := B1.1
    clear hb1
    go_wp2
    go_returns
    exact ⟨ret_int he.symm, by go_grown⟩
  · have hbd := lim_iff.1 h1
    simp only at hbd
    obtain ⟨_, _, _, ⟨a0, a1⟩, ⟨b0, b1⟩, _, _⟩ := hbd
    by_cases h2 : a + b < 1
    · have he : errN ⟨p, l, r, a, b, s, h, t⟩ = 2 := by unfold errN okB; rw [h1]; simp; omega
      go_enter Tryz.func41, Tryz.ntmps41
      go_wp2_with fail
      refine (inLimits_any p l r a b s t h _).mono ?_
      rintro e w1 ⟨rfl, hb1⟩
      have B1 : Box w1 w.heap.size _ := (Box.new w _ _).below hb1
      have c1 := B1.2.1
      have hB1 : Below w.heap.size w w1 := Below.trans (by go_grown) (hb1.mono (by go_size))
      have hz1 := B1.1
      clear hb1
      go_wp2
      go_returns
      exact ⟨ret_int he.symm, by go_grown⟩
    · have HS := Lib.hid (staysOpen_any p l r a b s t h)
      have he : errN ⟨p, l, r, a, b, s, h, t⟩ = if openB ⟨p, l, r, a, b, s, h, t⟩ = true then 0 else 2 := by
        unfold errN okB; rw [h1, decide_eq_true (show 1 ≤ (Form.mk p l r a b s h t).a + (Form.mk p l r a b s h t).b by simp only; omega)]; simp
      cases h3 : openB ⟨p, l, r, a, b, s, h, t⟩
      all_goals
        rw [h3] at he
        simp at he
        go_enter Tryz.func41, Tryz.ntmps41
        go_wp2_with fail
        refine (inLimits_any p l r a b s t h _).mono ?_
        rintro e w1 ⟨rfl, hb1⟩
        have B1 : Box w1 w.heap.size _ := (Box.new w _ _).below hb1
        have c1 := B1.2.1
        have hB1 : Below w.heap.size w w1 := Below.trans (by go_grown) (hb1.mono (by go_size))
        have hz1 := B1.1
        clear hb1
        go_wp2_with fail
        refine (HS.out _ h1).mono ?_
        rintro e w2 ⟨rfl, hb2⟩
        have hB2 : Below w.heap.size w w2 := hB1.trans (hb2.mono (by omega))
        clear hb2
        go_wp2
        go_returns
        exact ⟨ret_int he.symm, by go_grown⟩

/-- A shape's cells: the form, both leans together, how far a whole turn moves a nut, the hand. -/
def shapeV (p l r a b s t : Int) (h : Bool) : Value := .agg #[.int .i64 p, .int .i64 l, .int .i64 r, .int .i64 a, .int .i64 b, .int .i64 s, .bool h, .int .i64 t, .int .i64 (l + r), .int .i64 (p * s), .int .i64 (handN h)]
def shape0 : Value := .agg #[.int .i64 0, .int .i64 0, .int .i64 0, .int .i64 0, .int .i64 0, .int .i64 0, .bool false, .int .i64 0, .int .i64 0, .int .i64 0, .int .i64 0]

/-- A block, in every world of the class. -/
theorem Box.regrown {w : World} {g : Nat} {cs : Array Value} (h : Box w g cs) (d : Nat) (os : Array Obj) : Box (Go.Sort.grow (redrawn w d) os) g cs := h.below (below_regrown w d os)

end Go.Proofs.YtkmhmmibdfalpaaGreat
