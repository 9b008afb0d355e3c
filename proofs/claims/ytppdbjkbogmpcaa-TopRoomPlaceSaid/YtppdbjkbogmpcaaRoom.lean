/- Contract of thread.Room, and of what it calls: whether two shapes turn alike, and how far a flank is in the way. -/
import Derived.Test.YtppdbjkbogmpcaaRatios
namespace Go.Proofs.Ytppdbjkbogmpcaa
open Go.RowKit

/-- Whether two shapes turn alike. -/
def tlB (s t : Int) (h : Bool) (s' t' : Int) (h' : Bool) : Bool := decide (s = s') && (h == h') && decide (t = t')

theorem turnsLike_any (p l r a b s t x1 x2 : Int) (h : Bool) (p' l' r' a' b' s' t' x1' x2' : Int) (h' : Bool) (w : World) :
    Calls Try.prog 123 #[.agg #[.int .i64 p, .int .i64 l, .int .i64 r, .int .i64 a, .int .i64 b, .int .i64 s, .bool h, .int .i64 t, .int .i64 x1, .int .i64 x2, .int .i64 (handN h)],
      .agg #[.int .i64 p', .int .i64 l', .int .i64 r', .int .i64 a', .int .i64 b', .int .i64 s', .bool h', .int .i64 t', .int .i64 x1', .int .i64 x2', .int .i64 (handN h')]] w fun e w' => e = .returned (.bool (tlB s t h s' t' h')) ∧ Below w.heap.size w w' := by
  obtain ⟨z, hz⟩ : ∃ z, tlB s t h s' t' h' = z := ⟨_, rfl⟩
  rw [hz]
  unfold tlB at hz
  by_cases e1 : s = s'
  · by_cases e2 : h = h'
    · by_cases e3 : t = t'
      · have q1 : (s == s') = true := by simpa using e1
        have q2 : (handN h == handN h') = true := by rw [e2]; simp
        have q3 : (t == t') = true := by simpa using e3
        have hz2 : z = true := by rw [← hz, decide_eq_true e1, decide_eq_true e3, e2]; simp
        clear hz e1 e2 e3
        subst hz2
        go_enter Try.func123, Try.ntmps123
        go_wp2
        go_returns
        exact ⟨rfl, by go_grown⟩
      · have q1 : (s == s') = true := by simpa using e1
        have q2 : (handN h == handN h') = true := by rw [e2]; simp
        have q3 : (t == t') = false := by simpa using e3
        have hz2 : z = false := by rw [← hz, decide_eq_false e3]; simp
        clear hz e1 e2 e3
        subst hz2
        go_enter Try.func123, Try.ntmps123
        go_wp2
        go_returns
        exact ⟨rfl, by go_grown⟩
    · have q1 : (s == s') = true := by simpa using e1
      have q2 : (handN h == handN h') = false := by revert e2; cases h <;> cases h' <;> simp [handN]
      have hz2 : z = false := by rw [← hz]; simp [e2]
      clear hz e1 e2
      subst hz2
      go_enter Try.func123, Try.ntmps123
      go_wp2
      go_returns
      exact ⟨rfl, by go_grown⟩
  · have q1 : (s == s') = false := by simpa using e1
    have hz2 : z = false := by rw [← hz, decide_eq_false e1]; simp
    clear hz e1
    subst hz2
    go_enter Try.func123, Try.ntmps123
    go_wp2
    go_returns
    exact ⟨rfl, by go_grown⟩

/-- How far a flank is in the way. -/
def ovl (lo hi x y : Int) : Int := max (lo * (y - x)) (hi * (y - x))

theorem overlap_any (x y lo hi : Int) (g : Nat) (w : World) (h0 : w.cell? ⟨g, 0, none⟩ = some (.int .i64 lo)) (h1 : w.cell? ⟨g, 1, none⟩ = some (.int .i64 hi))
    (hx : 0 ≤ x ∧ x ≤ 3000) (hy : 0 ≤ y ∧ y ≤ 3000) (hl : -200000 ≤ lo ∧ lo ≤ 200000) (hh : -200000 ≤ hi ∧ hi ≤ 200000) :
    Calls Try.prog 124 #[.int .i64 x, .int .i64 y, .pointer (some ⟨g, 0, none⟩)] w fun e w' => e = .returned (.int .i64 (ovl lo hi x y)) ∧ w' = w := by
  obtain ⟨m1, m2⟩ := mul_bd hl.1 hl.2 (show -3000 ≤ y - x by omega) (show y - x ≤ 3000 by omega)
  obtain ⟨m3, m4⟩ := mul_bd hh.1 hh.2 (show -3000 ≤ y - x by omega) (show y - x ≤ 3000 by omega)
  obtain ⟨hx0, hx1⟩ := hx
  obtain ⟨hy0, hy1⟩ := hy
  clear hl hh
  by_cases hc : hi * (y - x) ≤ lo * (y - x)
  · have he : ovl lo hi x y = lo * (y - x) := Int.max_eq_left hc
    have HE := Lib.hid he
    clear he
    go_enter Try.func124, Try.ntmps124
    go_wp2
    go_returns
    exact ⟨ret_int HE.out.symm, rfl⟩
  · have he : ovl lo hi x y = hi * (y - x) := Int.max_eq_right (by omega)
    have HE := Lib.hid he
    clear he
    go_enter Try.func124, Try.ntmps124
    go_wp2
    go_returns
    exact ⟨ret_int HE.out.symm, rfl⟩

theorem ovl_bd {lo hi x y : Int} (hx : 0 ≤ x ∧ x ≤ 3000) (hy : 0 ≤ y ∧ y ≤ 3000) (hl : -200000 ≤ lo ∧ lo ≤ 200000) (hh : -200000 ≤ hi ∧ hi ≤ 200000) : -600000000 ≤ ovl lo hi x y ∧ ovl lo hi x y ≤ 600000000 := by
  obtain ⟨m1, m2⟩ := mul_bd hl.1 hl.2 (show -3000 ≤ y - x by omega) (show y - x ≤ 3000 by omega)
  obtain ⟨m3, m4⟩ := mul_bd hh.1 hh.2 (show -3000 ≤ y - x by omega) (show y - x ≤ 3000 by omega)
  unfold ovl
  omega
end Go.Proofs.Ytppdbjkbogmpcaa
