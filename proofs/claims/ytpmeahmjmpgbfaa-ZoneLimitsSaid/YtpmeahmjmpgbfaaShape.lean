/- Contracts of thread.Check and shapeOf: whether a form is valid, and its shape. -/
import Derived.Test.YtpmeahmjmpgbfaaForm
import Derived.Test.YtpmeahmjmpgbfaaTail
namespace Go.Proofs.Ytpmeahmjmpgbfaa
open Go.RowKit

def openB (f : Form) : Bool := decide (max f.a f.b * (f.l + f.r) ≤ 500 * f.p)

set_option maxHeartbeats 1000000 in
theorem staysOpen_any (p l r a b s t : Int) (h : Bool) (w : World) (hl : limB ⟨p, l, r, a, b, s, h, t⟩ = true) :
    Calls Try.prog 171 #[.agg #[.int .i64 p, .int .i64 l, .int .i64 r, .int .i64 a, .int .i64 b, .int .i64 s, .bool h, .int .i64 t]] w fun e w' => e = .returned (.bool (openB ⟨p, l, r, a, b, s, h, t⟩)) ∧ Below w.heap.size w w' := by
  obtain ⟨⟨p0, p1⟩, ⟨l0, l1⟩, ⟨r0, r1⟩, ⟨a0, a1⟩, ⟨b0, b1⟩, _, _⟩ := lim_iff.1 hl
  clear hl
  simp only at p0 p1 l0 l1 r0 r1 a0 a1 b0 b1
  have m1 : 0 ≤ a * (l + r) := Int.mul_nonneg a0 (by omega)
  have m2 : a * (l + r) ≤ 200000 * 6000 := Int.mul_le_mul a1 (by omega) (by omega) (by omega)
  have m3 : 0 ≤ b * (l + r) := Int.mul_nonneg b0 (by omega)
  have m4 : b * (l + r) ≤ 200000 * 6000 := Int.mul_le_mul b1 (by omega) (by omega) (by omega)
  rcases Int.le_total b a with hab | hab
  · by_cases hc : a * (l + r) ≤ 500 * p
    · go_enter Try.func171, Try.ntmps171
      go_wp2
      all_goals go_returns
      all_goals exact ⟨ret_bool (by unfold openB; simp only; rw [Int.max_eq_left hab, decide_eq_true hc]), by go_grown⟩
    · go_enter Try.func171, Try.ntmps171
      go_wp2
      all_goals go_returns
      all_goals exact ⟨ret_bool (by unfold openB; simp only; rw [Int.max_eq_left hab, decide_eq_false (by omega)]), by go_grown⟩
  · by_cases he : a = b
    · subst he
      by_cases hc : a * (l + r) ≤ 500 * p
      · go_enter Try.func171, Try.ntmps171
        go_wp2
        all_goals go_returns
        all_goals exact ⟨ret_bool (by unfold openB; simp only; rw [Int.max_eq_left hab, decide_eq_true hc]), by go_grown⟩
      · go_enter Try.func171, Try.ntmps171
        go_wp2
        all_goals go_returns
        all_goals exact ⟨ret_bool (by unfold openB; simp only; rw [Int.max_eq_left hab, decide_eq_false (by omega)]), by go_grown⟩
    have hlt : ¬ b ≤ a := by omega
    by_cases hc : b * (l + r) ≤ 500 * p
    · go_enter Try.func171, Try.ntmps171
      go_wp2
      all_goals go_returns
      all_goals exact ⟨ret_bool (by unfold openB; simp only; rw [Int.max_eq_right hab, decide_eq_true hc]), by go_grown⟩
    · go_enter Try.func171, Try.ntmps171
      go_wp2
      all_goals go_returns
      all_goals exact ⟨ret_bool (by unfold openB; simp only; rw [Int.max_eq_right hab, decide_eq_false (by omega)]), by go_grown⟩

def okB (f : Form) : Bool := limB f && decide (1 ≤ f.a + f.b) && openB f
/-- The error of Check. -/
def errN (f : Form) : Int := if okB f then 0 else 2

def FBox (w : World) (g : Nat) (p l r a b s t : Int) (h : Bool) : Prop := Box w g #[.int .i64 p, .int .i64 l, .int .i64 r, .int .i64 a, .int .i64 b, .int .i64 s, .bool h, .int .i64 t]

set_option maxHeartbeats 1000000 in
theorem check_any (p l r a b s t : Int) (h : Bool) (w : World) :
    Calls Try.prog 146 #[.agg #[.int .i64 p, .int .i64 l, .int .i64 r, .int .i64 a, .int .i64 b, .int .i64 s, .bool h, .int .i64 t]] w fun e w' => e = .returned (.int .i64 (errN ⟨p, l, r, a, b, s, h, t⟩)) ∧ Below w.heap.size w w' := by
  cases h1 : limB ⟨p, l, r, a, b, s, h, t⟩
  · have he : errN ⟨p, l, r, a, b, s, h, t⟩ = 2 := by unfold errN okB; rw [h1]; rfl
    go_enter Try.func146, Try.ntmps146
    go_wp2_with fail
    refine (inLimits_any p l r a b s t h _).mono ?_
    rintro e w1 ⟨rfl, hb1⟩
    have B1 : Box w1 w.heap.size _ := (Box.new w _ _).below hb1
    have c1 := B1.2.1
    have hB1 : Below w.heap.size w w1 := Below.trans (by go_grown) (hb1.mono (by go_size))
    have hz1 := B1.1
    clear hb1
    go_wp2
    go_returns
    exact ⟨ret_int he.symm, by go_grown⟩
  · have hbd := lim_iff.1 h1
    simp only at hbd
    obtain ⟨_, _, _, ⟨a0, a1⟩, ⟨b0, b1⟩, _, _⟩ := hbd
    by_cases h2 : a + b < 1
    · have he : errN ⟨p, l, r, a, b, s, h, t⟩ = 2 := by unfold errN okB; rw [h1]; simp; omega
      go_enter Try.func146, Try.ntmps146
      go_wp2_with fail
      refine (inLimits_any p l r a b s t h _).mono ?_
      rintro e w1 ⟨rfl, hb1⟩
      have B1 : Box w1 w.heap.size _ := (Box.new w _ _).below hb1
      have c1 := B1.2.1
      have hB1 : Below w.heap.size w w1 := Below.trans (by go_grown) (hb1.mono (by go_size))
      have hz1 := B1.1
      clear hb1
      go_wp2
      go_returns
      exact ⟨ret_int he.symm, by go_grown⟩
    · have HS := Lib.hid (staysOpen_any p l r a b s t h)
      have he : errN ⟨p, l, r, a, b, s, h, t⟩ = if openB ⟨p, l, r, a, b, s, h, t⟩ = true then 0 else 2 := by
        unfold errN okB; rw [h1, decide_eq_true (show 1 ≤ (Form.mk p l r a b s h t).a + (Form.mk p l r a b s h t).b by simp only; omega)]; simp
      cases h3 : openB ⟨p, l, r, a, b, s, h, t⟩
      all_goals
        rw [h3] at he
        simp at he
        go_enter Try.func146, Try.ntmps146
        go_wp2_with fail
        refine (inLimits_any p l r a b s t h _).mono ?_
        rintro e w1 ⟨rfl, hb1⟩
        have B1 : Box w1 w.heap.size _ := (Box.new w _ _).below hb1
        have c1 := B1.2.1
        have hB1 : Below w.heap.size w w1 := Below.trans (by go_grown) (hb1.mono (by go_size))
        have hz1 := B1.1
        clear hb1
        go_wp2_with fail
        refine (HS.out _ h1).mono ?_
        rintro e w2 ⟨rfl, hb2⟩
        have hB2 : Below w.heap.size w w2 := hB1.trans (hb2.mono (by omega))
        clear hb2
        go_wp2
        go_returns
        exact ⟨ret_int he.symm, by go_grown⟩

/-- A shape's cells: the form, both leans together, how far a whole turn moves a nut, the hand. -/
def shapeV (p l r a b s t : Int) (h : Bool) : Value := .agg #[.int .i64 p, .int .i64 l, .int .i64 r, .int .i64 a, .int .i64 b, .int .i64 s, .bool h, .int .i64 t, .int .i64 (l + r), .int .i64 (p * s), .int .i64 (handN h)]
def shape0 : Value := .agg #[.int .i64 0, .int .i64 0, .int .i64 0, .int .i64 0, .int .i64 0, .int .i64 0, .bool false, .int .i64 0, .int .i64 0, .int .i64 0, .int .i64 0]

set_option maxHeartbeats 1000000 in
theorem shapeOf_bad (p l r a b s t : Int) (h : Bool) (w : World) (hk : okB ⟨p, l, r, a, b, s, h, t⟩ = false) :
    Calls Try.prog 116 #[.agg #[.int .i64 p, .int .i64 l, .int .i64 r, .int .i64 a, .int .i64 b, .int .i64 s, .bool h, .int .i64 t]] w fun e w' => e = .returned (.tuple #[shape0, .int .i64 2]) ∧ Below w.heap.size w w' := by
  have he : errN ⟨p, l, r, a, b, s, h, t⟩ = 2 := by unfold errN; rw [hk]; rfl
  go_enter Try.func116, Try.ntmps116
  go_wp2_with fail
  refine (check_any p l r a b s t h _).mono ?_
  rintro e w1 ⟨rfl, hb1⟩
  have B1 : Box w1 w.heap.size _ := ((Box.new w _ _).alloc _).below hb1
  have C1 : Box w1 (w.heap.size + 1) _ := (Box.newAt (w.alloc _) _ _ (by simp)).below hb1
  have c1 := B1.2.1
  have hB1 : Below w.heap.size w w1 := Below.trans (by go_grown) (hb1.mono (by go_size))
  have hz1 := B1.1
  obtain ⟨_, d1, f1⟩ := C1
  clear hb1
  go_wp2
  refine bodyPost_ret (v := .tuple #[shape0, .int .i64 2]) (by simp [results, Try.results116, go_sem, d1, shape0]) rfl ⟨rfl, by go_grown⟩

/-- A block, in every world of the class. -/
theorem Box.regrown {w : World} {g : Nat} {cs : Array Value} (h : Box w g cs) (d : Nat) (os : Array Obj) : Box (Go.Sort.grow (redrawn w d) os) g cs := h.below (below_regrown w d os)

set_option maxHeartbeats 2000000 in
theorem shapeOf_good (p l r a b s t : Int) (h : Bool) (w : World) (hk : okB ⟨p, l, r, a, b, s, h, t⟩ = true) :
    Calls Try.prog 116 #[.agg #[.int .i64 p, .int .i64 l, .int .i64 r, .int .i64 a, .int .i64 b, .int .i64 s, .bool h, .int .i64 t]] w fun e w' => e = .returned (.tuple #[shapeV p l r a b s t h, .int .i64 0]) ∧ Below w.heap.size w w' := by
  have he : errN ⟨p, l, r, a, b, s, h, t⟩ = 0 := by unfold errN; rw [hk]; rfl
  have hl : limB ⟨p, l, r, a, b, s, h, t⟩ = true := by unfold okB at hk; simp at hk; exact hk.1.1
  obtain ⟨⟨p0, p1⟩, ⟨l0, l1⟩, ⟨r0, r1⟩, ⟨a0, a1⟩, ⟨b0, b1⟩, ⟨s0, s1⟩, _⟩ := lim_iff.1 hl
  simp only at p0 p1 l0 l1 r0 r1 a0 a1 b0 b1 s0 s1
  have m1 : 0 ≤ p * s := Int.mul_nonneg (by omega) (by omega)
  have m2 : p * s ≤ 200000 * 8 := Int.mul_le_mul p1 s1 (by omega) (by omega)
  clear hl a0 a1 b0 b1
  go_enter Try.func116, Try.ntmps116
  go_wp2_with fail
  refine (check_any p l r a b s t h _).mono ?_
  rintro e w1 ⟨rfl, hb1⟩
  have B1 : Box w1 w.heap.size _ := ((Box.new w _ _).alloc _).below hb1
  have C1 : Box w1 (w.heap.size + 1) _ := (Box.newAt (w.alloc _) _ _ (by simp)).below hb1
  have hB1 : Below w.heap.size w w1 := Below.trans (by go_grown) (hb1.mono (by go_size))
  have cR := fun d os => (B1.regrown d os).2.1
  have hand := fun d os => (hand_any h (Go.Sort.grow (redrawn w1 d) os)).regrown_of
  have HC1 := Lib.hid C1
  have hz1 := B1.1
  clear C1 hb1 B1
  go_wp2
  refine wp_region_quiet_tail (C := fun w' => ∃ p : Regrown, w' = Go.Sort.grow (redrawn w1 p.d) p.os) 15 (by kernel_rfl) (by kernel_rfl) (InB.start w1) ?_
  simp only [List.take_succ_cons, List.take_zero, List.drop_succ_cons, List.drop_zero]
  repeat (quiet_step (first | exact hand _ _))
  refine wpQuiet_nil ?_
  intro w2 hw'
  obtain ⟨⟨dq, osq⟩, hw''⟩ := hw'
  have hb2 : Below w1.heap.size w1 w2 := by rw [hw'']; exact below_regrown w1 dq osq
  obtain ⟨hz2, d2, f2⟩ := HC1.out.below hb2
  have hB2 : Below w.heap.size w w2 := hB1.trans (hb2.mono (by omega))
  clear hw'' hb2 cR hand HC1 hB1 hz1
  rw [IntWalk.i64_in (l + r) (by omega), IntWalk.i64_in (p * s) (by omega)]
  go_wp2
  refine bodyPost_ret (v := .tuple #[shapeV p l r a b s t h, .int .i64 0]) (by simp [results, Try.results116, go_sem, d2, shapeV]) rfl ⟨rfl, by go_grown⟩
end Go.Proofs.Ytpmeahmjmpgbfaa
