/- The contract of acmeref01.Room: by halving. Made by tools/gen_refroom.py. -/
import Derived.Test.YtloleaahelmdjaaGoes
namespace Go.Proofs.Ytloleaahelmdjaa
open Go.RowKit
set_option linter.unusedVariables false
set_option linter.unusedSimpArgs false

theorem halve_end {need n u v : Int} (hn : 1 ≤ n) (h1 : u * n < need) (h2 : need ≤ v * n) (h3 : v - u ≤ 1) (h4 : u < v) : v = upTo need n := by
  have hv : v = u + 1 := by omega
  have e1 := Int.mul_ediv_add_emod (need + n - 1) n
  have e2 := Int.emod_nonneg (need + n - 1) (b := n) (by omega)
  have e3 := Int.emod_lt_of_pos (need + n - 1) (b := n) (by omega)
  unfold upTo
  generalize (need + n - 1) / n = z at *
  have e4 : v * n = u * n + n := by rw [hv, Int.add_mul, Int.one_mul]
  rw [Int.mul_comm] at e1
  rcases Int.lt_trichotomy v z with h | h | h
  · have : (v + 1) * n ≤ z * n := Int.mul_le_mul_of_nonneg_right (by omega) (by omega)
    rw [Int.add_mul, Int.one_mul] at this
    omega
  · exact h
  · have : (z + 1) * n ≤ v * n := Int.mul_le_mul_of_nonneg_right (by omega) (by omega)
    rw [Int.add_mul, Int.one_mul] at this
    omega

set_option maxHeartbeats 2000000 in
theorem refRoom_zero (p l r a b s t : Int) (h : Bool) (p' l' r' a' b' s' t' : Int) (h' : Bool) (lo hi need : Int) (w : World) (HG : Hid (∀ (c : Int) (w : World), 0 ≤ c → c ≤ 1200000000 → Calls Try.prog 54 #[.agg #[.int .i64 p, .int .i64 l, .int .i64 r, .int .i64 a, .int .i64 b, .int .i64 s, .bool h, .int .i64 t], .agg #[.int .i64 p', .int .i64 l', .int .i64 r', .int .i64 a', .int .i64 b', .int .i64 s', .bool h', .int .i64 t'], .agg #[.int .i64 lo, .int .i64 hi], .int .i64 c] w fun e w' => e = .returned (.bool (decide (need ≤ c * (l + r)))) ∧ Below w.heap.size w w')) (hn : need ≤ 0) :
    Calls Try.prog 29 #[.agg #[.int .i64 p, .int .i64 l, .int .i64 r, .int .i64 a, .int .i64 b, .int .i64 s, .bool h, .int .i64 t], .agg #[.int .i64 p', .int .i64 l', .int .i64 r', .int .i64 a', .int .i64 b', .int .i64 s', .bool h', .int .i64 t'], .agg #[.int .i64 lo, .int .i64 hi]] w fun e w' => e = .returned (.tuple #[.int .i64 0, .bool true]) ∧ Below w.heap.size w w' := by
  have hd : decide (need ≤ 0 * (l + r)) = true := decide_eq_true (by rw [Int.zero_mul]; omega)
  go_enter Try.func29, Try.ntmps29
  go_wp2_with fail
  refine (HG.out 0 _ (by omega) (by omega)).mono ?_
  rintro e w1 ⟨rfl, hb1⟩
  rw [hd]
  have Z1 : Box w1 w.heap.size #[.int .i64 p, .int .i64 l, .int .i64 r, .int .i64 a, .int .i64 b, .int .i64 s, .bool h, .int .i64 t] := Box.below (Box.alloc (Box.alloc (Box.new w _ _) _) _) hb1
  have Z2 : Box w1 (w.heap.size + 1) #[.int .i64 p', .int .i64 l', .int .i64 r', .int .i64 a', .int .i64 b', .int .i64 s', .bool h', .int .i64 t'] := Box.below (Box.alloc (Box.newAt (w.alloc _) _ _ (by simp)) _) hb1
  have Z3 : Box w1 (w.heap.size + 1 + 1) #[.int .i64 lo, .int .i64 hi] := Box.below (Box.newAt ((w.alloc _).alloc _) _ _ (by simp)) hb1
  have hB1 : Below w.heap.size w w1 := stepB (by go_grown) hb1
  have hs1 := hB1.size
  clear hb1 hd
  go_wp2
  go_returns
  exact ⟨rfl, hB1⟩

set_option maxHeartbeats 2000000 in
theorem refRoom_none (p l r a b s t : Int) (h : Bool) (p' l' r' a' b' s' t' : Int) (h' : Bool) (lo hi need : Int) (w : World) (HG : Hid (∀ (c : Int) (w : World), 0 ≤ c → c ≤ 1200000000 → Calls Try.prog 54 #[.agg #[.int .i64 p, .int .i64 l, .int .i64 r, .int .i64 a, .int .i64 b, .int .i64 s, .bool h, .int .i64 t], .agg #[.int .i64 p', .int .i64 l', .int .i64 r', .int .i64 a', .int .i64 b', .int .i64 s', .bool h', .int .i64 t'], .agg #[.int .i64 lo, .int .i64 hi], .int .i64 c] w fun e w' => e = .returned (.bool (decide (need ≤ c * (l + r)))) ∧ Below w.heap.size w w')) (l0 : 0 ≤ l) (l1 : l ≤ 3000) (r0 : 0 ≤ r) (r1 : r ≤ 3000) (hn : 1 ≤ need) (hs : (l + r == 0) = true) :
    Calls Try.prog 29 #[.agg #[.int .i64 p, .int .i64 l, .int .i64 r, .int .i64 a, .int .i64 b, .int .i64 s, .bool h, .int .i64 t], .agg #[.int .i64 p', .int .i64 l', .int .i64 r', .int .i64 a', .int .i64 b', .int .i64 s', .bool h', .int .i64 t'], .agg #[.int .i64 lo, .int .i64 hi]] w fun e w' => e = .returned (.tuple #[.int .i64 0, .bool false]) ∧ Below w.heap.size w w' := by
  have hd : decide (need ≤ 0 * (l + r)) = false := decide_eq_false (by rw [Int.zero_mul]; omega)
  go_enter Try.func29, Try.ntmps29
  go_wp2_with fail
  refine (HG.out 0 _ (by omega) (by omega)).mono ?_
  rintro e w1 ⟨rfl, hb1⟩
  rw [hd]
  have Z1 : Box w1 w.heap.size #[.int .i64 p, .int .i64 l, .int .i64 r, .int .i64 a, .int .i64 b, .int .i64 s, .bool h, .int .i64 t] := Box.below (Box.alloc (Box.alloc (Box.new w _ _) _) _) hb1
  have Z2 : Box w1 (w.heap.size + 1) #[.int .i64 p', .int .i64 l', .int .i64 r', .int .i64 a', .int .i64 b', .int .i64 s', .bool h', .int .i64 t'] := Box.below (Box.alloc (Box.newAt (w.alloc _) _ _ (by simp)) _) hb1
  have Z3 : Box w1 (w.heap.size + 1 + 1) #[.int .i64 lo, .int .i64 hi] := Box.below (Box.newAt ((w.alloc _).alloc _) _ _ (by simp)) hb1
  have hB1 : Below w.heap.size w w1 := stepB (by go_grown) hb1
  have hs1 := hB1.size
  clear hb1 hd
  have c1 := Z1.2.1
  go_wp2
  go_returns
  exact ⟨rfl, hB1⟩

set_option maxHeartbeats 4000000 in
theorem refRoom_good (p l r a b s t : Int) (h : Bool) (p' l' r' a' b' s' t' : Int) (h' : Bool) (lo hi need : Int) (w : World) (HG : Hid (∀ (c : Int) (w : World), 0 ≤ c → c ≤ 1200000000 → Calls Try.prog 54 #[.agg #[.int .i64 p, .int .i64 l, .int .i64 r, .int .i64 a, .int .i64 b, .int .i64 s, .bool h, .int .i64 t], .agg #[.int .i64 p', .int .i64 l', .int .i64 r', .int .i64 a', .int .i64 b', .int .i64 s', .bool h', .int .i64 t'], .agg #[.int .i64 lo, .int .i64 hi], .int .i64 c] w fun e w' => e = .returned (.bool (decide (need ≤ c * (l + r)))) ∧ Below w.heap.size w w')) (l0 : 0 ≤ l) (l1 : l ≤ 3000) (r0 : 0 ≤ r) (r1 : r ≤ 3000) (hn : 1 ≤ need) (hn2 : need ≤ 1200000000) (hs : (l + r == 0) = false) (hs1 : 1 ≤ l + r) :
    Calls Try.prog 29 #[.agg #[.int .i64 p, .int .i64 l, .int .i64 r, .int .i64 a, .int .i64 b, .int .i64 s, .bool h, .int .i64 t], .agg #[.int .i64 p', .int .i64 l', .int .i64 r', .int .i64 a', .int .i64 b', .int .i64 s', .bool h', .int .i64 t'], .agg #[.int .i64 lo, .int .i64 hi]] w fun e w' => e = .returned (.tuple #[.int .i64 (upTo need (l + r)), .bool true]) ∧ Below w.heap.size w w' := by
  have hd : decide (need ≤ 0 * (l + r)) = false := decide_eq_false (by rw [Int.zero_mul]; omega)
  have hst : Hid (0 * (l + r) < need ∧ need ≤ 1200000000 * (l + r)) := by
    have : 1200000000 * 1 ≤ 1200000000 * (l + r) := Int.mul_le_mul_of_nonneg_left hs1 (by omega)
    exact Lib.hid ⟨by rw [Int.zero_mul]; omega, by omega⟩
  go_enter Try.func29, Try.ntmps29
  go_wp2_with fail
  refine (HG.out 0 _ (by omega) (by omega)).mono ?_
  rintro e w1 ⟨rfl, hb1⟩
  rw [hd]
  have Z1 : Box w1 w.heap.size #[.int .i64 p, .int .i64 l, .int .i64 r, .int .i64 a, .int .i64 b, .int .i64 s, .bool h, .int .i64 t] := Box.below (Box.alloc (Box.alloc (Box.new w _ _) _) _) hb1
  have Z2 : Box w1 (w.heap.size + 1) #[.int .i64 p', .int .i64 l', .int .i64 r', .int .i64 a', .int .i64 b', .int .i64 s', .bool h', .int .i64 t'] := Box.below (Box.alloc (Box.newAt (w.alloc _) _ _ (by simp)) _) hb1
  have Z3 : Box w1 (w.heap.size + 1 + 1) #[.int .i64 lo, .int .i64 hi] := Box.below (Box.newAt ((w.alloc _).alloc _) _ _ (by simp)) hb1
  have hB1 : Below w.heap.size w w1 := stepB (by go_grown) hb1
  have hs1 := hB1.size
  clear hb1 hd
  have HZ : Hid (Box w1 w.heap.size #[.int .i64 p, .int .i64 l, .int .i64 r, .int .i64 a, .int .i64 b, .int .i64 s, .bool h, .int .i64 t] ∧ Box w1 (w.heap.size + 1) #[.int .i64 p', .int .i64 l', .int .i64 r', .int .i64 a', .int .i64 b', .int .i64 s', .bool h', .int .i64 t'] ∧ Box w1 (w.heap.size + 1 + 1) #[.int .i64 lo, .int .i64 hi] ∧ Below w.heap.size w w1) := Lib.hid ⟨Z1, Z2, Z3, hB1⟩
  have c1 := Z1.2.1
  clear Z2 Z3 hB1 hs1
  go_wp2
  clear c1 Z1
  go_loopw [8, 9] (fun x y wr => ∃ u v : Int, x = .int .i64 u ∧ y = .int .i64 v ∧ 0 ≤ u ∧ u < v ∧ v ≤ 1200000000 ∧ Hid (u * (l + r) < need ∧ need ≤ v * (l + r)) ∧ Hid (Box wr w.heap.size #[.int .i64 p, .int .i64 l, .int .i64 r, .int .i64 a, .int .i64 b, .int .i64 s, .bool h, .int .i64 t] ∧ Box wr (w.heap.size + 1) #[.int .i64 p', .int .i64 l', .int .i64 r', .int .i64 a', .int .i64 b', .int .i64 s', .bool h', .int .i64 t'] ∧ Box wr (w.heap.size + 1 + 1) #[.int .i64 lo, .int .i64 hi] ∧ Below w.heap.size w wr)) (fun x y _ => (intOf y - intOf x).toNat)
  case atStart => exact ⟨0, 1200000000, rfl, rfl, by omega, by omega, by omega, hst, HZ⟩
  case round =>
    clear hst HZ
    obtain ⟨u, v, rfl, rfl, u0, uv, v1, huv, hw1⟩ := hrel
    by_cases hend : v - u ≤ 1
    · have hv : Hid (v = upTo need (l + r)) := halve_end (by omega) huv.out.1 huv.out.2 hend uv
      go_wp2
      go_returns
      refine ⟨?_, hw1.out.2.2.2⟩
      show Ending.returned (.tuple #[.int .i64 v, .bool true]) = _
      rw [← hv.out]
    · have x0 : 0 ≤ u + v := by omega
      obtain ⟨m, hm⟩ : ∃ m, (u + v) / 2 = m := ⟨_, rfl⟩
      have m0 : u < m := by omega
      have m1 : m < v := by omega
      obtain ⟨Z1, Z2, Z3, hB⟩ := hw1.out
      have c1 := Z1.2.1
      have c2 := Z2.2.1
      have c3 := Z3.2.1
      have l3 := Z3.1
      have hm' : (u + v).tdiv 2 = m := by rw [Int.tdiv_eq_ediv_of_nonneg x0]; exact hm
      by_cases hg : need ≤ m * (l + r)
      · have hgd : decide (need ≤ m * (l + r)) = true := decide_eq_true hg
        go_wp2_with fail
        refine (HG.out m _ (by omega) (by omega)).mono ?_
        rintro e w2 ⟨rfl, hb2⟩
        rw [hgd]
        have HW : Hid (Box w2 w.heap.size #[.int .i64 p, .int .i64 l, .int .i64 r, .int .i64 a, .int .i64 b, .int .i64 s, .bool h, .int .i64 t] ∧ Box w2 (w.heap.size + 1) #[.int .i64 p', .int .i64 l', .int .i64 r', .int .i64 a', .int .i64 b', .int .i64 s', .bool h', .int .i64 t'] ∧ Box w2 (w.heap.size + 1 + 1) #[.int .i64 lo, .int .i64 hi] ∧ Below w.heap.size w w2) := Lib.hid ⟨Z1.below hb2, Z2.below hb2, Z3.below hb2, stepB hB hb2⟩
        clear hb2 hB Z1 Z2 Z3 c1 c2 c3 l3 hw1
        have HN : Hid (u * (l + r) < need ∧ need ≤ m * (l + r)) := Lib.hid ⟨huv.out.1, of_decide_eq_true hgd⟩
        clear hg hgd
        go_wp2
        go_roundw
        case rel => exact ⟨u, m, rfl, rfl, u0, m0, by omega, HN, HW⟩
        case measure => simp [intOf]; omega
      · have hgd : decide (need ≤ m * (l + r)) = false := decide_eq_false hg
        go_wp2_with fail
        refine (HG.out m _ (by omega) (by omega)).mono ?_
        rintro e w2 ⟨rfl, hb2⟩
        rw [hgd]
        have HW : Hid (Box w2 w.heap.size #[.int .i64 p, .int .i64 l, .int .i64 r, .int .i64 a, .int .i64 b, .int .i64 s, .bool h, .int .i64 t] ∧ Box w2 (w.heap.size + 1) #[.int .i64 p', .int .i64 l', .int .i64 r', .int .i64 a', .int .i64 b', .int .i64 s', .bool h', .int .i64 t'] ∧ Box w2 (w.heap.size + 1 + 1) #[.int .i64 lo, .int .i64 hi] ∧ Below w.heap.size w w2) := Lib.hid ⟨Z1.below hb2, Z2.below hb2, Z3.below hb2, stepB hB hb2⟩
        clear hb2 hB Z1 Z2 Z3 c1 c2 c3 l3 hw1
        have HN : Hid (m * (l + r) < need ∧ need ≤ v * (l + r)) := Lib.hid ⟨by have := of_decide_eq_false hgd; omega, huv.out.2⟩
        clear hg hgd
        go_wp2
        go_roundw
        case rel => exact ⟨m, v, rfl, rfl, by omega, m1, v1, HN, HW⟩
        case measure => simp [intOf]; omega
end Go.Proofs.Ytloleaahelmdjaa
