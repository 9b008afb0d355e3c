/- Contracts of cmp.Compare, of slices.Compare at two pairs, and of the comparison that Alike sorts by. -/
import Derived.Test.YtloleaahelmdjaaAgree
import Derived.Test.YtloleaahelmdjaaShelf
namespace Go.Proofs.Ytloleaahelmdjaa
open Go.RowKit Go.Shelf Go.Sort

/-- -1, 0 or 1. -/
def cmpI (x y : Int) : Int := if x < y then -1 else if y < x then 1 else 0
def cmpP (x y : Int × Int) : Int := if x.1 < y.1 then -1 else if y.1 < x.1 then 1 else cmpI x.2 y.2

set_option maxHeartbeats 400000 in
theorem compare_any (x y : Int) (w : World) : Calls Try.prog 74 #[.int .i64 x, .int .i64 y] w fun e w' => e = .returned (.int .i64 (cmpI x y)) ∧ w = w' := by
  by_cases h1 : x < y
  · have he : cmpI x y = -1 := if_pos h1
    have HE := Lib.hid he
    have n1 : (x != x) = false := by simp
    have n2 : (y != y) = false := by simp
    clear he
    go_enter Try.func74, Try.ntmps74
    go_wp2
    go_returns
    exact ⟨ret_int HE.out.symm, rfl⟩
  · by_cases h2 : y < x
    · have he : cmpI x y = 1 := by unfold cmpI; rw [if_neg h1, if_pos h2]
      have HE := Lib.hid he
      have n1 : (x != x) = false := by simp
      have n2 : (y != y) = false := by simp
      clear he
      go_enter Try.func74, Try.ntmps74
      go_wp2
      go_returns
      exact ⟨ret_int HE.out.symm, rfl⟩
    · have he : cmpI x y = 0 := by unfold cmpI; rw [if_neg h1, if_neg h2]
      have HE := Lib.hid he
      have n1 : (x != x) = false := by simp
      have n2 : (y != y) = false := by simp
      clear he
      go_enter Try.func74, Try.ntmps74
      go_wp2
      go_returns
      exact ⟨ret_int HE.out.symm, rfl⟩

set_option maxHeartbeats 1000000 in
theorem compares_any (x0 x1 y0 y1 : Int) (g g' : Nat) (w : World) (h0 : w.cell? ⟨g, 0, none⟩ = some (.int .i64 x0)) (h1 : w.cell? ⟨g, 1, none⟩ = some (.int .i64 x1))
    (k0 : w.cell? ⟨g', 0, none⟩ = some (.int .i64 y0)) (k1 : w.cell? ⟨g', 1, none⟩ = some (.int .i64 y1)) :
    Calls Try.prog 61 #[.slice (some ⟨g, 0, none⟩) 2 2, .slice (some ⟨g', 0, none⟩) 2 2] w fun e w' => e = .returned (.int .i64 (cmpP (x0, x1) (y0, y1))) ∧ w' = w := by
  by_cases c0 : cmpI x0 y0 = 0
  · have hE : x0 = y0 := by
      unfold cmpI at c0
      by_cases h : x0 < y0
      · rw [if_pos h] at c0; exact absurd c0 (by decide)
      · by_cases h' : y0 < x0
        · rw [if_neg h, if_pos h'] at c0; exact absurd c0 (by decide)
        · omega
    have hP : cmpP (x0, x1) (y0, y1) = cmpI x1 y1 := by unfold cmpP; simp only; rw [if_neg (by omega), if_neg (by omega)]
    have HP := Lib.hid hP
    have C0 := Lib.hid c0
    clear hE hP c0
    by_cases c1 : cmpI x1 y1 = 0
    · have C1 := Lib.hid c1
      clear c1
      go_enter Try.func61, Try.ntmps61
      go_wp2
      refine wp_loop_rounds 3 ?_
      rw [rounds_succ]
      go_wp2_with fail
      refine (compare_any x0 y0 w).mono ?_
      rintro e w' ⟨rfl, rfl⟩
      rw [C0.out]
      go_wp2
      rw [rounds_succ]
      go_wp2_with fail
      refine (compare_any x1 y1 w).mono ?_
      rintro e w' ⟨rfl, rfl⟩
      rw [C1.out]
      go_wp2
      rw [rounds_succ]
      go_wp2
      go_returns
      exact ⟨ret_int (by rw [HP.out, C1.out]), rfl⟩
    · have q1 : (cmpI x1 y1 == 0) = false := by simpa using c1
      have q2 : (cmpI x1 y1 != 0) = true := by simpa using c1
      clear c1
      go_enter Try.func61, Try.ntmps61
      go_wp2
      refine wp_loop_rounds 3 ?_
      rw [rounds_succ]
      go_wp2_with fail
      refine (compare_any x0 y0 w).mono ?_
      rintro e w' ⟨rfl, rfl⟩
      rw [C0.out]
      go_wp2
      rw [rounds_succ]
      go_wp2_with fail
      refine (compare_any x1 y1 w).mono ?_
      rintro e w' ⟨rfl, rfl⟩
      go_wp2
      go_returns
      exact ⟨ret_int HP.out.symm, rfl⟩
  · have hP : cmpP (x0, x1) (y0, y1) = cmpI x0 y0 := by
      unfold cmpI at c0 ⊢
      unfold cmpP
      simp only
      by_cases h : x0 < y0
      · rw [if_pos h, if_pos h]
      · by_cases h' : y0 < x0
        · rw [if_neg h, if_pos h', if_neg h, if_pos h']
        · rw [if_neg h, if_neg h'] at c0; exact absurd rfl c0
    have HP := Lib.hid hP
    have q1 : (cmpI x0 y0 == 0) = false := by simpa using c0
    have q2 : (cmpI x0 y0 != 0) = true := by simpa using c0
    clear hP c0
    go_enter Try.func61, Try.ntmps61
    go_wp2
    refine wp_loop_rounds 3 ?_
    rw [rounds_succ]
    go_wp2_with fail
    refine (compare_any x0 y0 w).mono ?_
    rintro e w' ⟨rfl, rfl⟩
    go_wp2
    go_returns
    exact ⟨ret_int HP.out.symm, rfl⟩

def encP (x : Int × Int) : List Value := [.int .i64 x.1, .int .i64 x.2]

set_option maxHeartbeats 1000000 in
theorem cmpPair_any (x y : Int × Int) (W : World) :
    Calls Try.prog 60 #[.agg #[.int .i64 x.1, .int .i64 x.2], .agg #[.int .i64 y.1, .int .i64 y.2]] W fun e w' => e = .returned (.int .i64 (cmpP x y)) ∧ ∃ q os', w' = grow (W.drewN q) os' := by
  have HC := fun n => Lib.hid (compares_any x.1 x.2 y.1 y.2 W.heap.size (W.heap.size + 1) (((W.alloc (.cells #[.int .i64 x.1, .int .i64 x.2] 67)).alloc (.cells #[.int .i64 y.1, .int .i64 y.2] 67)).drewN n) (by go_cell) (by go_cell) (by go_cell) (by go_cell))
  go_enter Try.func60, Try.ntmps60
  go_wp2
  go_quiet (first | (go_at_call 61; exact Calls.quiet_of_same ((HC _).out)))
  go_wp2
  go_returns
  refine ⟨rfl, nq, #[.cells #[.int .i64 x.1, .int .i64 x.2] 67, .cells #[.int .i64 y.1, .int .i64 y.2] 67], ?_⟩
  rw [alloc_eq_grow, alloc_eq_grow, grow_grow]
  rfl
end Go.Proofs.Ytloleaahelmdjaa
