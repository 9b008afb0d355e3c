/- Contracts of package zone's spans and of plating: rounding, spanOf, empty, playIn, within, validPlating, changeBy, Before, After. -/
import Derived.Test.YtpmeahmjmpgbfaaAll
namespace Go.Proofs.Ytpmeahmjmpgbfaa
open Go.RowKit

theorem upTo_neg {n d : Int} (hd : 1 ≤ d) (h : n ≤ 0) : n.tdiv d = upTo n d ∧ ¬ 0 < n.tmod d := by
  obtain ⟨m, rfl⟩ : ∃ m : Int, n = -m := ⟨-n, by omega⟩
  have hm : 0 ≤ m := by omega
  rw [Int.neg_tdiv, Int.neg_tmod, Int.tdiv_eq_ediv_of_nonneg hm, Int.tmod_eq_emod_of_nonneg hm]
  have h0 := Int.emod_nonneg m (b := d) (by omega)
  have h1 := Int.emod_lt_of_pos m (b := d) (by omega)
  have e := Int.mul_ediv_add_emod m d
  refine ⟨?_, by omega⟩
  unfold upTo
  have e2 : -m + d - 1 = (d - 1 - m % d) + (-(m / d)) * d := by
    rw [Int.neg_mul, Int.mul_comm (m / d)]; omega
  have hz : (d - 1 - m % d) / d = 0 := Int.ediv_eq_zero_of_lt (by omega) (by omega)
  rw [e2, Int.add_mul_ediv_right _ _ (by omega), hz]
  omega

theorem upTo_bd {n d m : Int} (hd : 1 ≤ d) (h : -m ≤ n ∧ n ≤ m) : -m ≤ upTo n d ∧ upTo n d ≤ m := by
  unfold upTo
  constructor
  · exact (Int.le_ediv_iff_mul_le (by omega)).2 (by
      have : -m * d ≤ -m := by have := Int.mul_le_mul_of_nonneg_left hd (show 0 ≤ m by omega); simp at this; rw [Int.neg_mul]; omega
      omega)
  · have : (n + d - 1) / d < m + 1 := Int.ediv_lt_of_lt_mul (by omega) (by
      have := Int.mul_le_mul_of_nonneg_left hd (show 0 ≤ m by omega)
      rw [Int.add_mul]; omega)
    omega

theorem roundUp_all (n d : Int) (w : World) (hn : -4611686018427387904 ≤ n) (hn2 : n ≤ 4611686018427387904) (hd : 1 ≤ d) (hd2 : d ≤ 9223372036854775807) :
    Calls Try.prog 120 #[.int .i64 n, .int .i64 d] w fun e w' => e = .returned (.int .i64 (upTo n d)) ∧ w = w' := by
  by_cases h : 1 ≤ n
  · exact (roundUp_any n d w h hn2 hd hd2).mono fun _ _ ⟨a, b⟩ => ⟨a, b.symm⟩
  · obtain ⟨h1, h2⟩ := upTo_neg (n := n) hd (by omega)
    have H1 := Lib.hid h1
    clear h1
    go_enter Try.func120, Try.ntmps120
    go_wp2
    go_returns
    exact ⟨ret_int H1.out, rfl⟩

theorem down_eq {n d : Int} (hd : 1 ≤ d) : -upTo (-n) d = n / d := by
  have h0 := Int.emod_nonneg n (b := d) (by omega)
  have h1 := Int.emod_lt_of_pos n (b := d) (by omega)
  have e := Int.mul_ediv_add_emod n d
  unfold upTo
  have e2 : -n + d - 1 = (d - 1 - n % d) + (-(n / d)) * d := by
    rw [Int.neg_mul, Int.mul_comm (n / d)]; omega
  have hz : (d - 1 - n % d) / d = 0 := Int.ediv_eq_zero_of_lt (by omega) (by omega)
  rw [e2, Int.add_mul_ediv_right _ _ (by omega), hz]
  omega

theorem roundDown_all (n d : Int) (w : World) (hn : -4611686018427387904 ≤ n) (hn2 : n ≤ 4611686018427387904) (hd : 1 ≤ d) (hd2 : d ≤ 9223372036854775807) :
    Calls Try.prog 143 #[.int .i64 n, .int .i64 d] w fun e w' => e = .returned (.int .i64 (n / d)) ∧ w = w' := by
  have hb := upTo_bd (n := -n) (d := d) (m := 4611686018427387904) hd ⟨by omega, by omega⟩
  have HE := Lib.hid (down_eq (n := n) hd)
  generalize hu : upTo (-n) d = u at *
  have HU := Lib.hid hu
  clear hu
  go_enter Try.func143, Try.ntmps143
  go_wp2_with fail
  refine (roundUp_all (-n) d _ (by omega) (by omega) hd hd2).mono ?_
  rintro e w' ⟨rfl, rfl⟩
  rw [HU.out]
  go_wp2
  go_returns
  exact ⟨ret_int HE.out, rfl⟩

theorem spanOf_any (lo hi : Int) (w : World) :
    Calls Try.prog 103 #[.int .i64 lo, .int .i64 hi] w fun e w' => e = .returned (spanV lo hi) ∧ Below w.heap.size w w' := by
  go_enter Try.func103, Try.ntmps103
  go_wp2
  refine bodyPost_ret (v := spanV lo hi) (by simp [results, Try.results103, go_sem, spanV]) rfl ⟨rfl, by go_grown⟩

theorem empty_any (lo hi : Int) (w : World) :
    Calls Try.prog 104 #[spanV lo hi] w fun e w' => e = .returned (.bool (decide (hi < lo))) ∧ Below w.heap.size w w' := by
  unfold spanV
  go_enter Try.func104, Try.ntmps104
  go_wp2
  go_returns
  exact ⟨rfl, by go_grown⟩

theorem playIn_any (a b c d : Int) (w : World) (ha : -1152921504606846976 ≤ a ∧ a ≤ 1152921504606846976) (hb : -1152921504606846976 ≤ b ∧ b ≤ 1152921504606846976) (hc : -1152921504606846976 ≤ c ∧ c ≤ 1152921504606846976) (hd : -1152921504606846976 ≤ d ∧ d ≤ 1152921504606846976) :
    Calls Try.prog 105 #[spanV a b, spanV c d] w fun e w' => e = .returned (spanV (c - b) (d - a)) ∧ Below w.heap.size w w' := by
  obtain ⟨a0, a1⟩ := ha
  obtain ⟨b0, b1⟩ := hb
  obtain ⟨c0, c1⟩ := hc
  obtain ⟨d0, d1⟩ := hd
  unfold spanV
  go_enter Try.func105, Try.ntmps105
  go_wp2_with fail
  refine (spanOf_any _ _ _).mono ?_
  rintro e w1 ⟨rfl, hb1⟩
  have B1 : Box w1 (w.heap.size + 2) _ := (Box.newAt ((w.alloc _).alloc _) _ _ (by simp)).below hb1
  obtain ⟨hz1, c1', f1⟩ := B1
  have hB1 : Below w.heap.size w w1 := stepB (by go_grown) hb1
  clear hb1
  unfold spanV
  go_wp2
  refine bodyPost_ret (v := spanV (c - b) (d - a)) (by simp [results, Try.results105, go_sem, c1', spanV]) rfl ⟨rfl, by go_grown⟩

def lies (a b c d : Int) : Bool := decide (c ≤ a ∧ b ≤ d)

theorem within_any (a b c d : Int) (w : World) :
    Calls Try.prog 111 #[spanV a b, spanV c d] w fun e w' => e = .returned (.bool (lies a b c d)) ∧ Below w.heap.size w w' := by
  unfold spanV
  by_cases h1 : c ≤ a
  · go_enter Try.func111, Try.ntmps111
    go_wp2
    go_returns
    exact ⟨ret_bool (by unfold lies; simp [h1]), by go_grown⟩
  · go_enter Try.func111, Try.ntmps111
    go_wp2
    go_returns
    exact ⟨ret_bool (by unfold lies; rw [decide_eq_false (by omega)]), by go_grown⟩
end Go.Proofs.Ytpmeahmjmpgbfaa
