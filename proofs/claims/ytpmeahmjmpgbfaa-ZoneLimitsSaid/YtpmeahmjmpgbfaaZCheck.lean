/- Contracts of zone.Check and what it calls. -/
import Derived.Test.YtpmeahmjmpgbfaaContains
namespace Go.Proofs.Ytpmeahmjmpgbfaa
open Go.RowKit
set_option linter.unusedVariables false
set_option linter.unusedSimpArgs false

theorem Box.cell0 {w : World} {g : Nat} {v : Value} {l : List Value} (h : Box w g (v :: l).toArray) : w.cell? ⟨g, 0, none⟩ = some v := by rw [h.2.1]; simp

theorem not_all_eq_any (lo hi : Int) (zs : List Int) : zs.any (outB lo hi) = !allB lo hi zs := by
  unfold allB
  induction zs with
  | nil => rfl
  | cons z l ih => simp only [List.any_cons, List.all_cons, ih, outB_eq]; cases inB lo hi z <;> simp

/-- exact.AllFrom over any slice, the empty one included. -/
theorem allFrom_at (lo hi : Int) (zs : List Int) (a : Option Addr) (cap : Nat) (w : World) (hm : zs.length ≤ 4611686018427387904) (hS : SlA IntE w a zs) :
    Calls Try.prog 79 #[.int .i64 lo, .int .i64 hi, .slice a zs.length cap] w fun e w' => e = .returned (.bool (allB lo hi zs)) ∧ Below w.heap.size w w' := by
  have HS := Lib.hid hS
  have HQ := Lib.hid (not_all_eq_any lo hi zs)
  clear hS
  go_enter Try.func79, Try.ntmps79
  go_wp2_with fail
  refine (allf_contains IntE (outB lo hi) _ _ zs a cap _ intE_stable hm (HS.out.below intE_stable (by go_grown)) ?_).mono ?_
  · intro W u x hB hu _
    subst hu
    have h1 := (hB.cell (p := ⟨w.heap.size, 0, none⟩) (by simp; try omega)).trans (by go_cell : _ = some (.int .i64 lo))
    have h2 := (hB.cell (p := ⟨w.heap.size + 1, 0, none⟩) (by simp)).trans (by go_cell : _ = some (.int .i64 hi))
    refine (out_any x lo hi _ _ W h1 h2).mono ?_
    rintro e w' ⟨rfl, rfl⟩
    exact ⟨rfl, Below.refl _ _⟩
  rintro e w1 ⟨rfl, hb1⟩
  rw [HQ.out]
  have hB : Below w.heap.size w w1 := stepB (by go_grown) hb1
  clear hb1
  go_wp2
  go_returns
  exact ⟨ret_bool (by simp), hB⟩

theorem longer1_cl (m : Int) (zs : List Int) (a : Option Addr) (cap p : Nat) (w : World) (hp : w.cell? ⟨p, 0, none⟩ = some (.int .i64 m)) :
    Calls Try.prog 131 #[.slice a zs.length cap, .pointer (some ⟨p, 0, none⟩)] w fun e w' => e = .returned (.bool (decide (m < zs.length))) ∧ Below w.heap.size w w' := by
  go_enter Try.func131, Try.ntmps131
  go_wp2
  go_returns
  exact ⟨rfl, Below.refl _ _⟩

theorem longer2_cl (m : Int) (zs : List (List Int)) (a : Option Addr) (cap p : Nat) (w : World) (hp : w.cell? ⟨p, 0, none⟩ = some (.int .i64 m)) :
    Calls Try.prog 133 #[.slice a zs.length cap, .pointer (some ⟨p, 0, none⟩)] w fun e w' => e = .returned (.bool (decide (m < zs.length))) ∧ Below w.heap.size w w' := by
  go_enter Try.func133, Try.ntmps133
  go_wp2
  go_returns
  exact ⟨rfl, Below.refl _ _⟩

theorem longer1_any (m : Int) (xs : List (List Int)) (a : Option Addr) (cap : Nat) (w : World) (hm : xs.length ≤ 4611686018427387904) (hS : SlA IntsAt w a xs) :
    Calls Try.prog 89 #[.int .i64 m, .slice a xs.length cap] w fun e w' => e = .returned (.bool (xs.any fun zs => decide (m < zs.length))) ∧ Below w.heap.size w w' := by
  have HS := Lib.hid hS
  clear hS
  obtain ⟨y, hy⟩ : ∃ y, (xs.any fun zs => decide (m < zs.length)) = y := ⟨_, rfl⟩
  rw [hy]
  have HY := Lib.hid hy
  clear hy
  go_enter Try.func89, Try.ntmps89
  go_wp2_with fail
  refine (longer1_contains IntsAt (fun zs => decide (m < zs.length)) _ xs a cap _ ints_stable hm (HS.out.below ints_stable (by go_grown)) ?_).mono ?_
  · rintro W u x hB ⟨a', cap', rfl, _, _⟩ _
    have h1 := (hB.cell (p := ⟨w.heap.size, 0, none⟩) (by simp; try omega)).trans (by go_cell : _ = some (.int .i64 m))
    exact longer1_cl m x a' cap' _ W h1
  rintro e w1 ⟨rfl, hb1⟩
  have hB : Below w.heap.size w w1 := stepB (by go_grown) hb1
  clear hb1
  rw [HY.out]
  go_wp2
  go_returns
  exact ⟨rfl, hB⟩

theorem longer2_any (m : Int) (xs : List (List (List Int))) (a : Option Addr) (cap : Nat) (w : World) (hm : xs.length ≤ 4611686018427387904) (hS : SlA RowsAt w a xs) :
    Calls Try.prog 90 #[.int .i64 m, .slice a xs.length cap] w fun e w' => e = .returned (.bool (xs.any fun zs => decide (m < zs.length))) ∧ Below w.heap.size w w' := by
  have HS := Lib.hid hS
  clear hS
  obtain ⟨y, hy⟩ : ∃ y, (xs.any fun zs => decide (m < zs.length)) = y := ⟨_, rfl⟩
  rw [hy]
  have HY := Lib.hid hy
  clear hy
  go_enter Try.func90, Try.ntmps90
  go_wp2_with fail
  refine (longer2_contains RowsAt (fun zs => decide (m < zs.length)) _ xs a cap _ rows_stable hm (HS.out.below rows_stable (by go_grown)) ?_).mono ?_
  · rintro W u x hB ⟨a', cap', rfl, _, _⟩ _
    have h1 := (hB.cell (p := ⟨w.heap.size, 0, none⟩) (by simp; try omega)).trans (by go_cell : _ = some (.int .i64 m))
    exact longer2_cl m x a' cap' _ W h1
  rintro e w1 ⟨rfl, hb1⟩
  have hB : Below w.heap.size w w1 := stepB (by go_grown) hb1
  clear hb1
  rw [HY.out]
  go_wp2
  go_returns
  exact ⟨rfl, hB⟩

/-- Strictly ascending steps from 1 to the greatest length. -/
def stepsFrom : Int → List Int → Bool
  | _, [] => true
  | b, s :: l => decide (b < s) && decide (s ≤ 10000000) && stepsFrom s l
def stepsB (ss : List Int) : Bool := stepsFrom 0 ss && decide (0 < ss.length)
def lastOf (b : Int) (ss : List Int) (k : Nat) : Int := if k = 0 then b else ss[k - 1]?.getD 0

theorem stepsFrom_split (b : Int) : ∀ (ss : List Int) (k : Nat) (s : Int), ss[k]? = some s → stepsFrom b (ss.take k) = true →
    stepsFrom b ss = (decide (lastOf b ss k < s) && decide (s ≤ 10000000) && stepsFrom s (ss.drop (k + 1))) := by
  intro ss
  induction ss generalizing b with
  | nil => intro k s h; simp at h
  | cons x l ih =>
    intro k s h ht
    cases k with
    | zero =>
      simp at h
      subst h
      simp [lastOf, stepsFrom]
    | succ k =>
      simp only [List.take_succ_cons, stepsFrom, Bool.and_eq_true, decide_eq_true_eq] at ht
      have h' : l[k]? = some s := by simpa using h
      have := ih x k s h' ht.2
      simp only [stepsFrom, List.drop_succ_cons]
      rw [this, decide_eq_true ht.1.1, decide_eq_true ht.1.2]
      have e : lastOf x l k = lastOf b (x :: l) (k + 1) := by
        unfold lastOf
        cases k with
        | zero => simp
        | succ k => simp
      rw [e]
      simp

theorem stepsFrom_snoc (b : Int) : ∀ (ss : List Int) (k : Nat) (s : Int), ss[k]? = some s → stepsFrom b (ss.take k) = true → lastOf b ss k < s → s ≤ 10000000 → stepsFrom b (ss.take (k + 1)) = true := by
  intro ss k s h ht h1 h2
  have hlt : k < ss.length := by
    rcases Nat.lt_or_ge k ss.length with h' | h'
    · exact h'
    · rw [List.getElem?_eq_none h'] at h; cases h
  have := stepsFrom_split b (ss.take (k + 1)) k s (by rw [List.getElem?_take_of_lt (by omega)]; exact h) (by rw [List.take_take, Nat.min_eq_left (by omega)]; exact ht)
  rw [this]
  have e : lastOf b (ss.take (k + 1)) k = lastOf b ss k := by
    unfold lastOf
    split
    · rfl
    · rw [List.getElem?_take_of_lt (by omega)]
  rw [e, decide_eq_true h1, decide_eq_true h2, List.drop_of_length_le (by simp; omega)]
  rfl

set_option maxHeartbeats 1000000 in
theorem validSteps_any (ss : List Int) (a : Option Addr) (cap : Nat) (w : World) (hm : ss.length ≤ 4611686018427387904) (hS : SlA IntE w a ss) :
    Calls Try.prog 92 #[.slice a ss.length cap] w fun e w' => e = .returned (.bool (stepsB ss)) ∧ Below w.heap.size w w' := by
  rcases hS with rfl | ⟨b, off, rfl, hb, hc⟩
  · go_enter Try.func92, Try.ntmps92
    go_wp2
    go_rounds 1
    go_returns
    exact ⟨rfl, Below.refl _ _⟩
  have HZ := Lib.hid hc
  clear hc
  go_enter Try.func92, Try.ntmps92
  go_wp2
  go_loop [3, 5, 8] (fun bf _ i => ∃ k : Nat, k ≤ ss.length ∧ i = .int .i64 k ∧ bf = .int .i64 (lastOf 0 ss k) ∧ Hid (stepsFrom 0 (ss.take k) = true)) (fun _ _ i => ss.length - (intOf i).toNat)
  case atStart => exact ⟨0, Nat.zero_le _, rfl, rfl, rfl⟩
  case round =>
    obtain ⟨k, hk, rfl, rfl, hin⟩ := hrel
    by_cases hlt : k < ss.length
    · obtain ⟨x, hx⟩ : ∃ x, ss[k] = x := ⟨_, rfl⟩
      have hx' : ss[k]? = some x := by rw [List.getElem?_eq_getElem hlt, hx]
      obtain ⟨u, hcu, rfl⟩ := HZ.out k x hx'
      have HX := Lib.hid hx'
      have HL : Hid (lastOf 0 ss (k + 1) = x) := by show _ = _; unfold lastOf; simp [hx']
      have HS := Lib.hid (stepsFrom_split 0 ss k x hx' hin.out)
      clear hx hx'
      generalize hl : lastOf 0 ss k = l at *
      have HLl := Lib.hid hl
      clear hl
      by_cases h1 : x ≤ l
      · go_wp2
        go_returns
        refine ⟨ret_bool ?_, Below.refl _ _⟩
        unfold stepsB
        rw [HS.out, decide_eq_false (by omega)]
        rfl
      · by_cases h2 : 10000000 < x
        · go_wp2
          go_returns
          refine ⟨ret_bool ?_, Below.refl _ _⟩
          unfold stepsB
          rw [HS.out, decide_eq_false (show ¬ x ≤ 10000000 by omega)]
          simp
        · have HN := Lib.hid (stepsFrom_snoc 0 ss k x HX.out hin.out (by rw [HLl.out]; omega) (by omega))
          go_wp2
          go_round
          case rel => exact ⟨k + 1, by omega, by go_num, by rw [HL.out], HN⟩
          case measure => simp [intOf]; omega
    · have hk' : k = ss.length := by omega
      have HK := Lib.hid hk'
      clear hk'
      go_wp2
      go_returns
      refine ⟨ret_bool ?_, Below.refl _ _⟩
      unfold stepsB
      have := hin.out
      rw [HK.out, List.take_of_length_le (Nat.le_refl _)] at this
      rw [this]
      simp
end Go.Proofs.Ytpmeahmjmpgbfaa
