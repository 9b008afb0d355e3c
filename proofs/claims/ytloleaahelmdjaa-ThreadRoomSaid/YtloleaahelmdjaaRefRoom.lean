/- Contracts of package acmeref01's Mates, Out, Goes and Room. Made by tools/gen_refroom.py. -/
import Derived.Test.YtloleaahelmdjaaRoom2
import Derived.Test.YtloleaahelmdjaaRef
namespace Go.Proofs.Ytloleaahelmdjaa
open Go.RowKit
set_option linter.unusedVariables false
set_option linter.unusedSimpArgs false

set_option maxHeartbeats 1000000 in
theorem mates_0 (p l r a b s t : Int) (h : Bool) (p' l' r' a' b' s' t' : Int) (h' : Bool) (w : World) (h1 : (p == p') = false) :
    Calls Try.prog 28 #[.agg #[.int .i64 p, .int .i64 l, .int .i64 r, .int .i64 a, .int .i64 b, .int .i64 s, .bool h, .int .i64 t], .agg #[.int .i64 p', .int .i64 l', .int .i64 r', .int .i64 a', .int .i64 b', .int .i64 s', .bool h', .int .i64 t']] w fun e w' => e = .returned (.bool false) ∧ Below w.heap.size w w' := by
  go_enter Try.func28, Try.ntmps28
  go_wp2
  go_returns
  exact ⟨rfl, by go_grown⟩

set_option maxHeartbeats 1000000 in
theorem mates_1 (p l r a b s t : Int) (h : Bool) (p' l' r' a' b' s' t' : Int) (h' : Bool) (w : World) (h1 : (p == p') = true) (h2 : (s == s') = false) :
    Calls Try.prog 28 #[.agg #[.int .i64 p, .int .i64 l, .int .i64 r, .int .i64 a, .int .i64 b, .int .i64 s, .bool h, .int .i64 t], .agg #[.int .i64 p', .int .i64 l', .int .i64 r', .int .i64 a', .int .i64 b', .int .i64 s', .bool h', .int .i64 t']] w fun e w' => e = .returned (.bool false) ∧ Below w.heap.size w w' := by
  go_enter Try.func28, Try.ntmps28
  go_wp2
  go_returns
  exact ⟨rfl, by go_grown⟩

set_option maxHeartbeats 1000000 in
theorem mates_2 (p l r a b s t : Int) (h : Bool) (p' l' r' a' b' s' t' : Int) (h' : Bool) (w : World) (h1 : (p == p') = true) (h2 : (s == s') = true) (h3 : (h == h') = false) :
    Calls Try.prog 28 #[.agg #[.int .i64 p, .int .i64 l, .int .i64 r, .int .i64 a, .int .i64 b, .int .i64 s, .bool h, .int .i64 t], .agg #[.int .i64 p', .int .i64 l', .int .i64 r', .int .i64 a', .int .i64 b', .int .i64 s', .bool h', .int .i64 t']] w fun e w' => e = .returned (.bool false) ∧ Below w.heap.size w w' := by
  go_enter Try.func28, Try.ntmps28
  go_wp2
  go_returns
  exact ⟨rfl, by go_grown⟩

set_option maxHeartbeats 1000000 in
theorem mates_3 (p l r a b s t : Int) (h : Bool) (p' l' r' a' b' s' t' : Int) (h' : Bool) (w : World) (h1 : (p == p') = true) (h2 : (s == s') = true) (h3 : (h == h') = true) (h4 : (t == t') = false) :
    Calls Try.prog 28 #[.agg #[.int .i64 p, .int .i64 l, .int .i64 r, .int .i64 a, .int .i64 b, .int .i64 s, .bool h, .int .i64 t], .agg #[.int .i64 p', .int .i64 l', .int .i64 r', .int .i64 a', .int .i64 b', .int .i64 s', .bool h', .int .i64 t']] w fun e w' => e = .returned (.bool false) ∧ Below w.heap.size w w' := by
  go_enter Try.func28, Try.ntmps28
  go_wp2
  go_returns
  exact ⟨rfl, by go_grown⟩

set_option maxHeartbeats 1000000 in
theorem mates_4 (p l r a b s t : Int) (h : Bool) (p' l' r' a' b' s' t' : Int) (h' : Bool) (w : World) (h1 : (p == p') = true) (h2 : (s == s') = true) (h3 : (h == h') = true) (h4 : (t == t') = true) :
    Calls Try.prog 28 #[.agg #[.int .i64 p, .int .i64 l, .int .i64 r, .int .i64 a, .int .i64 b, .int .i64 s, .bool h, .int .i64 t], .agg #[.int .i64 p', .int .i64 l', .int .i64 r', .int .i64 a', .int .i64 b', .int .i64 s', .bool h', .int .i64 t']] w fun e w' => e = .returned (.bool true) ∧ Below w.heap.size w w' := by
  go_enter Try.func28, Try.ntmps28
  go_wp2
  go_returns
  exact ⟨rfl, by go_grown⟩

theorem mates_any (p l r a b s t : Int) (h : Bool) (p' l' r' a' b' s' t' : Int) (h' : Bool) (w : World) :
    Calls Try.prog 28 #[.agg #[.int .i64 p, .int .i64 l, .int .i64 r, .int .i64 a, .int .i64 b, .int .i64 s, .bool h, .int .i64 t], .agg #[.int .i64 p', .int .i64 l', .int .i64 r', .int .i64 a', .int .i64 b', .int .i64 s', .bool h', .int .i64 t']] w fun e w' => e = .returned (.bool (decide (p = p') && tlB s t h s' t' h')) ∧ Below w.heap.size w w' := by
  unfold tlB
  rw [show decide (p = p') = (p == p') from rfl, show decide (s = s') = (s == s') from rfl, show decide (t = t') = (t == t') from rfl]
  cases h1 : (p == p')
  · exact mates_0 p l r a b s t h p' l' r' a' b' s' t' h' w h1
  cases h2 : (s == s')
  · exact mates_1 p l r a b s t h p' l' r' a' b' s' t' h' w h1 h2
  cases h3 : (h == h')
  · exact mates_2 p l r a b s t h p' l' r' a' b' s' t' h' w h1 h2 h3
  cases h4 : (t == t')
  · exact mates_3 p l r a b s t h p' l' r' a' b' s' t' h' w h1 h2 h3 h4
  · exact mates_4 p l r a b s t h p' l' r' a' b' s' t' h' w h1 h2 h3 h4

/-- By how much the flanks stick out: the left one at the height x, the right one at y. -/
def outN (l r l' r' c x y : Int) : Int := x * l' - (x + c) * l - ((y + c) * r - y * r')
theorem outN_eq (l r l' r' c x y : Int) : outN l r l' r' c x y = x * (l' - l) + y * (r' - r) - c * (l + r) := by
  unfold outN
  simp only [Int.mul_sub, Int.add_mul, Int.mul_add]
  omega

set_option maxHeartbeats 1000000 in
theorem refOut_any (p l r a b s t : Int) (h : Bool) (p' l' r' a' b' s' t' : Int) (h' : Bool) (c x y : Int) (w : World) (hl : 0 ≤ l ∧ l ≤ 3000) (hr : 0 ≤ r ∧ r ≤ 3000) (hl' : 0 ≤ l' ∧ l' ≤ 3000) (hr' : 0 ≤ r' ∧ r' ≤ 3000) (hc : 0 ≤ c ∧ c ≤ 1200000000) (hx : -200000 ≤ x ∧ x ≤ 200000) (hy : -200000 ≤ y ∧ y ≤ 200000) :
    Calls Try.prog 68 #[.agg #[.int .i64 p, .int .i64 l, .int .i64 r, .int .i64 a, .int .i64 b, .int .i64 s, .bool h, .int .i64 t], .agg #[.int .i64 p', .int .i64 l', .int .i64 r', .int .i64 a', .int .i64 b', .int .i64 s', .bool h', .int .i64 t'], .int .i64 c, .int .i64 x, .int .i64 y] w fun e w' => e = .returned (.int .i64 (outN l r l' r' c x y)) ∧ Below w.heap.size w w' := by
  have m1 := mul_bd (x := x) (y := l') (A := 200000) (B := 3000) (by omega) (by omega) (by omega) (by omega)
  have m2 := mul_bd (x := x + c) (y := l) (A := 1300000000) (B := 3000) (by omega) (by omega) (by omega) (by omega)
  have m3 := mul_bd (x := y + c) (y := r) (A := 1300000000) (B := 3000) (by omega) (by omega) (by omega) (by omega)
  have m4 := mul_bd (x := y) (y := r') (A := 200000) (B := 3000) (by omega) (by omega) (by omega) (by omega)
  have e1 : IntKind.i64.wrap (x * l') = x * l' := IntWalk.i64_in _ (by omega)
  have e2 : IntKind.i64.wrap (x + c) = x + c := IntWalk.i64_in _ (by omega)
  have e3 : IntKind.i64.wrap ((x + c) * l) = (x + c) * l := IntWalk.i64_in _ (by omega)
  have e4 : IntKind.i64.wrap (x * l' - (x + c) * l) = x * l' - (x + c) * l := IntWalk.i64_in _ (by omega)
  have e5 : IntKind.i64.wrap (y + c) = y + c := IntWalk.i64_in _ (by omega)
  have e6 : IntKind.i64.wrap ((y + c) * r) = (y + c) * r := IntWalk.i64_in _ (by omega)
  have e7 : IntKind.i64.wrap (y * r') = y * r' := IntWalk.i64_in _ (by omega)
  have e8 : IntKind.i64.wrap ((y + c) * r - y * r') = (y + c) * r - y * r' := IntWalk.i64_in _ (by omega)
  have e9 : IntKind.i64.wrap (x * l' - (x + c) * l - ((y + c) * r - y * r')) = x * l' - (x + c) * l - ((y + c) * r - y * r') := IntWalk.i64_in _ (by omega)
  clear hl hr hl' hr' hc hx hy m1 m2 m3 m4
  go_enter Try.func68, Try.ntmps68
  go_wp2
  go_returns
  exact ⟨rfl, by go_grown⟩

/-- Whether a screw that is smaller by c goes in. -/
def goesB (l r l' r' lo hi c : Int) : Bool := decide (ovl lo hi l l' + ovl lo hi r r' ≤ c * (l + r))
theorem goes_iff (l r l' r' lo hi c : Int) : goesB l r l' r' lo hi c = (decide (outN l r l' r' c lo lo ≤ 0) && decide (outN l r l' r' c lo hi ≤ 0) && decide (outN l r l' r' c hi lo ≤ 0) && decide (outN l r l' r' c hi hi ≤ 0)) := by
  unfold goesB ovl
  rw [outN_eq, outN_eq, outN_eq, outN_eq, Bool.eq_iff_iff]
  simp only [Bool.and_eq_true, decide_eq_true_eq]
  omega
end Go.Proofs.Ytloleaahelmdjaa
