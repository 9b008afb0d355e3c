/- Contracts of plating. Made by tools/gen_zone.py. -/
import Derived.Test.YtpmeahmjmpgbfaaZone0
namespace Go.Proofs.Ytpmeahmjmpgbfaa
open Go.RowKit
set_option linter.unusedVariables false
set_option linter.unusedSimpArgs false

/-- Whether a span and a coat are valid. -/
def platB (s0 s1 t0 t1 n d : Int) : Bool := vspan s0 s1 (-20000000) 20000000 && vspan t0 t1 0 10000 && allB 1 1000 [n, d]

set_option maxRecDepth 100000 in
set_option maxHeartbeats 2000000 in
theorem plat_0 (s0 s1 t0 t1 n d : Int) (h1 : vspan s0 s1 (-20000000) 20000000 = false) (w : World) :
    Calls Try.prog 101 #[.agg #[.int .i64 s0, .int .i64 s1], .agg #[.int .i64 t0, .int .i64 t1, .int .i64 n, .int .i64 d]] w fun e w' => e = .returned (.bool false) ∧ Below w.heap.size w w' := by
  go_enter Try.func101, Try.ntmps101
  go_wp2_with fail
  refine (validSpan_any _ _ _ _ _).mono ?_
  rintro e w1 ⟨rfl, hb1⟩
  have Xb3_1 : Box w1 (w.heap.size + 1) #[.int .i64 t0, .int .i64 t1, .int .i64 n, .int .i64 d] := Box.below (Box.newAt (w.alloc _) _ _ (by simp)) hb1
  have hB1 : Below w.heap.size w w1 := stepB (by go_grown) hb1
  have hs1 := hB1.size
  clear hb1
  have cc3 := Xb3_1.2.1
  have ll3 := Xb3_1.1
  have lm3_0 : w.heap.size < w1.heap.size := by have := ll3; omega
  rw [h1]
  go_wp2
  go_returns
  exact ⟨rfl, hB1⟩

set_option maxRecDepth 100000 in
set_option maxHeartbeats 2000000 in
theorem plat_1 (s0 s1 t0 t1 n d : Int) (h1 : vspan s0 s1 (-20000000) 20000000 = true) (h2 : vspan t0 t1 0 10000 = false) (w : World) :
    Calls Try.prog 101 #[.agg #[.int .i64 s0, .int .i64 s1], .agg #[.int .i64 t0, .int .i64 t1, .int .i64 n, .int .i64 d]] w fun e w' => e = .returned (.bool false) ∧ Below w.heap.size w w' := by
  go_enter Try.func101, Try.ntmps101
  go_wp2_with fail
  refine (validSpan_any _ _ _ _ _).mono ?_
  rintro e w1 ⟨rfl, hb1⟩
  have Xb3_1 : Box w1 (w.heap.size + 1) #[.int .i64 t0, .int .i64 t1, .int .i64 n, .int .i64 d] := Box.below (Box.newAt (w.alloc _) _ _ (by simp)) hb1
  have hB1 : Below w.heap.size w w1 := stepB (by go_grown) hb1
  have hs1 := hB1.size
  clear hb1
  have cc3 := Xb3_1.2.1
  have ll3 := Xb3_1.1
  have lm3_0 : w.heap.size < w1.heap.size := by have := ll3; omega
  rw [h1]
  go_wp2_with fail
  refine (validSpan_any _ _ _ _ _).mono ?_
  rintro e w2 ⟨rfl, hb2⟩
  have Xb3_2 : Box w2 (w.heap.size + 1) #[.int .i64 t0, .int .i64 t1, .int .i64 n, .int .i64 d] := Box.below Xb3_1 hb2
  have hB2 : Below w.heap.size w w2 := stepB (by go_grown) hb2
  have hs2 := hB2.size
  clear hb2 hB1 hs1 Xb3_1 cc3 ll3 lm3_0
  have cc3 := Xb3_2.2.1
  have ll3 := Xb3_2.1
  have lm3_0 : w.heap.size < w2.heap.size := by have := ll3; omega
  rw [h2]
  go_wp2
  go_returns
  exact ⟨rfl, hB2⟩

set_option maxRecDepth 100000 in
set_option maxHeartbeats 2000000 in
theorem plat_2 (s0 s1 t0 t1 n d : Int) (h1 : vspan s0 s1 (-20000000) 20000000 = true) (h2 : vspan t0 t1 0 10000 = true) (h3 : allB 1 1000 [n, d] = false) (w : World) :
    Calls Try.prog 101 #[.agg #[.int .i64 s0, .int .i64 s1], .agg #[.int .i64 t0, .int .i64 t1, .int .i64 n, .int .i64 d]] w fun e w' => e = .returned (.bool false) ∧ Below w.heap.size w w' := by
  go_enter Try.func101, Try.ntmps101
  go_wp2_with fail
  refine (validSpan_any _ _ _ _ _).mono ?_
  rintro e w1 ⟨rfl, hb1⟩
  have Xb3_1 : Box w1 (w.heap.size + 1) #[.int .i64 t0, .int .i64 t1, .int .i64 n, .int .i64 d] := Box.below (Box.newAt (w.alloc _) _ _ (by simp)) hb1
  have hB1 : Below w.heap.size w w1 := stepB (by go_grown) hb1
  have hs1 := hB1.size
  clear hb1
  have cc3 := Xb3_1.2.1
  have ll3 := Xb3_1.1
  have lm3_0 : w.heap.size < w1.heap.size := by have := ll3; omega
  rw [h1]
  go_wp2_with fail
  refine (validSpan_any _ _ _ _ _).mono ?_
  rintro e w2 ⟨rfl, hb2⟩
  have Xb3_2 : Box w2 (w.heap.size + 1) #[.int .i64 t0, .int .i64 t1, .int .i64 n, .int .i64 d] := Box.below Xb3_1 hb2
  have hB2 : Below w.heap.size w w2 := stepB (by go_grown) hb2
  have hs2 := hB2.size
  clear hb2 hB1 hs1 Xb3_1 cc3 ll3 lm3_0
  have cc3 := Xb3_2.2.1
  have ll3 := Xb3_2.1
  have lm3_0 : w.heap.size < w2.heap.size := by have := ll3; omega
  rw [h2]
  go_wp2_with fail
  refine (allFrom2 _ _ n d _ _ _ (by simp) (by go_cell) (by go_cell)).mono ?_
  rintro e w3 ⟨rfl, hb3⟩
  have hB3 : Below w.heap.size w w3 := stepB (by go_grown) hb3
  have hs3 := hB3.size
  clear hb3 hB2 hs2 Xb3_2 cc3 ll3 lm3_0
  rw [h3]
  go_wp2
  go_returns
  exact ⟨rfl, hB3⟩

set_option maxRecDepth 100000 in
set_option maxHeartbeats 2000000 in
theorem plat_3 (s0 s1 t0 t1 n d : Int) (h1 : vspan s0 s1 (-20000000) 20000000 = true) (h2 : vspan t0 t1 0 10000 = true) (h3 : allB 1 1000 [n, d] = true) (w : World) :
    Calls Try.prog 101 #[.agg #[.int .i64 s0, .int .i64 s1], .agg #[.int .i64 t0, .int .i64 t1, .int .i64 n, .int .i64 d]] w fun e w' => e = .returned (.bool true) ∧ Below w.heap.size w w' := by
  go_enter Try.func101, Try.ntmps101
  go_wp2_with fail
  refine (validSpan_any _ _ _ _ _).mono ?_
  rintro e w1 ⟨rfl, hb1⟩
  have Xb3_1 : Box w1 (w.heap.size + 1) #[.int .i64 t0, .int .i64 t1, .int .i64 n, .int .i64 d] := Box.below (Box.newAt (w.alloc _) _ _ (by simp)) hb1
  have hB1 : Below w.heap.size w w1 := stepB (by go_grown) hb1
  have hs1 := hB1.size
  clear hb1
  have cc3 := Xb3_1.2.1
  have ll3 := Xb3_1.1
  have lm3_0 : w.heap.size < w1.heap.size := by have := ll3; omega
  rw [h1]
  go_wp2_with fail
  refine (validSpan_any _ _ _ _ _).mono ?_
  rintro e w2 ⟨rfl, hb2⟩
  have Xb3_2 : Box w2 (w.heap.size + 1) #[.int .i64 t0, .int .i64 t1, .int .i64 n, .int .i64 d] := Box.below Xb3_1 hb2
  have hB2 : Below w.heap.size w w2 := stepB (by go_grown) hb2
  have hs2 := hB2.size
  clear hb2 hB1 hs1 Xb3_1 cc3 ll3 lm3_0
  have cc3 := Xb3_2.2.1
  have ll3 := Xb3_2.1
  have lm3_0 : w.heap.size < w2.heap.size := by have := ll3; omega
  rw [h2]
  go_wp2_with fail
  refine (allFrom2 _ _ n d _ _ _ (by simp) (by go_cell) (by go_cell)).mono ?_
  rintro e w3 ⟨rfl, hb3⟩
  have hB3 : Below w.heap.size w w3 := stepB (by go_grown) hb3
  have hs3 := hB3.size
  clear hb3 hB2 hs2 Xb3_2 cc3 ll3 lm3_0
  rw [h3]
  go_wp2
  go_returns
  exact ⟨rfl, hB3⟩

theorem plat_any (s0 s1 t0 t1 n d : Int) (w : World) :
    Calls Try.prog 101 #[.agg #[.int .i64 s0, .int .i64 s1], .agg #[.int .i64 t0, .int .i64 t1, .int .i64 n, .int .i64 d]] w fun e w' => e = .returned (.bool (platB s0 s1 t0 t1 n d)) ∧ Below w.heap.size w w' := by
  unfold platB
  cases h1 : vspan s0 s1 (-20000000) 20000000
  · exact plat_0 s0 s1 t0 t1 n d h1 w
  cases h2 : vspan t0 t1 0 10000
  · exact plat_1 s0 s1 t0 t1 n d h1 h2 w
  cases h3 : allB 1 1000 [n, d]
  · exact plat_2 s0 s1 t0 t1 n d h1 h2 h3 w
  · exact plat_3 s0 s1 t0 t1 n d h1 h2 h3 w

theorem plat_iff (s0 s1 t0 t1 n d : Int) : platB s0 s1 t0 t1 n d = true ↔ (-20000000 ≤ s0 ∧ s0 ≤ s1 ∧ s1 ≤ 20000000) ∧ (0 ≤ t0 ∧ t0 ≤ t1 ∧ t1 ≤ 10000) ∧ (1 ≤ n ∧ n ≤ 1000) ∧ (1 ≤ d ∧ d ≤ 1000) := by
  simp [platB, vspan, allB, inB]
  omega

set_option maxRecDepth 100000 in
set_option maxHeartbeats 2000000 in
theorem change_1 (t0 t1 n d lo hi : Int) (a0 : 0 ≤ t0 * n) (a1 : t0 * n ≤ 10000000) (b0 : 0 ≤ t1 * n) (b1 : t1 * n ≤ 10000000) (l0 : -10000000 ≤ lo) (l1 : lo ≤ 10000000) (g0 : -10000000 ≤ hi) (g1 : hi ≤ 10000000) (HD : Hid (∀ w : World, Calls Try.prog 143 #[.int .i64 (t0 * n), .int .i64 (d)] w fun e w' => e = .returned (.int .i64 lo) ∧ w = w')) (HU : Hid (∀ w : World, Calls Try.prog 120 #[.int .i64 (t1 * n), .int .i64 (d)] w fun e w' => e = .returned (.int .i64 hi) ∧ w = w')) (w : World) :
    Calls Try.prog 102 #[.agg #[.int .i64 t0, .int .i64 t1, .int .i64 n, .int .i64 d], .bool true] w fun e w' => e = .returned (spanV (-hi) (-lo)) ∧ Below w.heap.size w w' := by
  go_enter Try.func102, Try.ntmps102
  go_wp2_with fail
  refine (HD.out _).mono ?_
  rintro e w9 ⟨rfl, rfl⟩
  go_wp2_with fail
  refine (HU.out _).mono ?_
  rintro e w9 ⟨rfl, rfl⟩
  go_wp2_with fail
  refine (spanOf_any _ _ _).mono ?_
  rintro e w1 ⟨rfl, hb1⟩
  have Xb4_1 : Box w1 (w.heap.size + 1) #[.int .i64 0, .int .i64 0] := Box.below (Box.newAt (w.alloc _) _ _ (by simp)) hb1
  have hB1 : Below w.heap.size w w1 := stepB (by go_grown) hb1
  have hs1 := hB1.size
  clear hb1
  have cc4 := Xb4_1.2.1
  have ll4 := Xb4_1.1
  have ff4 := Xb4_1.2.2
  have lm4_0 : w.heap.size < w1.heap.size := by have := ll4; omega
  unfold spanV
  go_wp2
  refine bodyPost_ret (v := spanV (-hi) (-lo)) (by simp [results, Try.results102, go_sem, spanV, cc4]) rfl ⟨rfl, by go_grown⟩

set_option maxRecDepth 100000 in
set_option maxHeartbeats 2000000 in
theorem change_0 (t0 t1 n d lo hi : Int) (a0 : 0 ≤ t0 * n) (a1 : t0 * n ≤ 10000000) (b0 : 0 ≤ t1 * n) (b1 : t1 * n ≤ 10000000) (l0 : -10000000 ≤ lo) (l1 : lo ≤ 10000000) (g0 : -10000000 ≤ hi) (g1 : hi ≤ 10000000) (HD : Hid (∀ w : World, Calls Try.prog 143 #[.int .i64 (t0 * n), .int .i64 (d)] w fun e w' => e = .returned (.int .i64 lo) ∧ w = w')) (HU : Hid (∀ w : World, Calls Try.prog 120 #[.int .i64 (t1 * n), .int .i64 (d)] w fun e w' => e = .returned (.int .i64 hi) ∧ w = w')) (w : World) :
    Calls Try.prog 102 #[.agg #[.int .i64 t0, .int .i64 t1, .int .i64 n, .int .i64 d], .bool false] w fun e w' => e = .returned (spanV lo hi) ∧ Below w.heap.size w w' := by
  go_enter Try.func102, Try.ntmps102
  go_wp2_with fail
  refine (HD.out _).mono ?_
  rintro e w9 ⟨rfl, rfl⟩
  go_wp2_with fail
  refine (HU.out _).mono ?_
  rintro e w9 ⟨rfl, rfl⟩
  go_wp2_with fail
  refine (spanOf_any _ _ _).mono ?_
  rintro e w1 ⟨rfl, hb1⟩
  have Xb4_1 : Box w1 (w.heap.size + 1) #[.int .i64 0, .int .i64 0] := Box.below (Box.newAt (w.alloc _) _ _ (by simp)) hb1
  have hB1 : Below w.heap.size w w1 := stepB (by go_grown) hb1
  have hs1 := hB1.size
  clear hb1
  have cc4 := Xb4_1.2.1
  have ll4 := Xb4_1.1
  have ff4 := Xb4_1.2.2
  have lm4_0 : w.heap.size < w1.heap.size := by have := ll4; omega
  unfold spanV
  go_wp2
  refine bodyPost_ret (v := spanV lo hi) (by simp [results, Try.results102, go_sem, spanV, cc4]) rfl ⟨rfl, by go_grown⟩

/-- What a coat adds to a diameter, as a span of integers. -/
def chLo (nut : Bool) (t0 t1 n d : Int) : Int := if nut then -upTo (t1 * n) d else t0 * n / d
def chHi (nut : Bool) (t0 t1 n d : Int) : Int := if nut then -(t0 * n / d) else upTo (t1 * n) d

theorem prod_bd {t n : Int} (h : 0 ≤ t ∧ t ≤ 10000) (hn : 1 ≤ n ∧ n ≤ 1000) : 0 ≤ t * n ∧ t * n ≤ 10000000 :=
  ⟨Int.mul_nonneg h.1 (by omega), Int.le_trans (Int.mul_le_mul h.2 hn.2 (by omega) (by omega)) (by omega)⟩

theorem div_bd {x d m : Int} (hd : 1 ≤ d) (h : -m ≤ x ∧ x ≤ m) : -m ≤ x / d ∧ x / d ≤ m := by
  have := upTo_bd (n := -x) (d := d) (m := m) hd ⟨by omega, by omega⟩
  have e := down_eq (n := x) hd
  omega

theorem change_bd {nut : Bool} {t0 t1 n d : Int} (h0 : 0 ≤ t0 ∧ t0 ≤ 10000) (h1 : 0 ≤ t1 ∧ t1 ≤ 10000) (hn : 1 ≤ n ∧ n ≤ 1000) (hd : 1 ≤ d) :
    (-10000000 ≤ chLo nut t0 t1 n d ∧ chLo nut t0 t1 n d ≤ 10000000) ∧ (-10000000 ≤ chHi nut t0 t1 n d ∧ chHi nut t0 t1 n d ≤ 10000000) := by
  have p0 := prod_bd h0 hn
  have p1 := prod_bd h1 hn
  have q0 := div_bd (m := 10000000) hd ⟨by omega, p0.2⟩
  have q1 := upTo_bd (m := 10000000) hd ⟨by omega, p1.2⟩
  unfold chLo chHi
  cases nut <;> simp <;> omega

theorem change_any (nut : Bool) (t0 t1 n d : Int) (w : World) (h0 : 0 ≤ t0 ∧ t0 ≤ 10000) (h1 : 0 ≤ t1 ∧ t1 ≤ 10000) (hn : 1 ≤ n ∧ n ≤ 1000) (hd : 1 ≤ d ∧ d ≤ 1000) :
    Calls Try.prog 102 #[.agg #[.int .i64 t0, .int .i64 t1, .int .i64 n, .int .i64 d], .bool nut] w fun e w' => e = .returned (spanV (chLo nut t0 t1 n d) (chHi nut t0 t1 n d)) ∧ Below w.heap.size w w' := by
  have p0 := prod_bd h0 hn
  have p1 := prod_bd h1 hn
  have q0 := div_bd (m := 10000000) hd.1 ⟨by omega, p0.2⟩
  have q1 := upTo_bd (m := 10000000) hd.1 ⟨by omega, p1.2⟩
  have HD := Lib.hid (fun w => roundDown_all (t0 * n) d w (by omega) (by omega) (by omega) (by omega))
  have HU := Lib.hid (fun w => roundUp_all (t1 * n) d w (by omega) (by omega) (by omega) (by omega))
  cases nut
  · exact change_0 t0 t1 n d _ _ p0.1 p0.2 p1.1 p1.2 q0.1 q0.2 q1.1 q1.2 HD HU w
  · exact change_1 t0 t1 n d _ _ p0.1 p0.2 p1.1 p1.2 q0.1 q0.2 q1.1 q1.2 HD HU w

set_option maxRecDepth 100000 in
set_option maxHeartbeats 2000000 in
theorem before_bad (nut : Bool) (s0 s1 t0 t1 n d : Int) (HP : Hid (∀ w : World, Calls Try.prog 101 #[.agg #[.int .i64 s0, .int .i64 s1], .agg #[.int .i64 t0, .int .i64 t1, .int .i64 n, .int .i64 d]] w fun e w' => e = .returned (.bool false) ∧ Below w.heap.size w w')) (w : World) :
    Calls Try.prog 35 #[.agg #[.int .i64 s0, .int .i64 s1], .bool nut, .agg #[.int .i64 t0, .int .i64 t1, .int .i64 n, .int .i64 d]] w fun e w' => e = .returned (.tuple #[.agg #[.int .i64 0, .int .i64 0], .int .i64 2]) ∧ Below w.heap.size w w' := by
  go_enter Try.func35, Try.ntmps35
  go_wp2_with fail
  refine (HP.out _).mono ?_
  rintro e w1 ⟨rfl, hb1⟩
  have Xb6_1 : Box w1 (w.heap.size + 1 + 1) #[.int .i64 0, .int .i64 0] := Box.below (Box.newAt ((w.alloc _).alloc _) _ _ (by simp)) hb1
  have hB1 : Below w.heap.size w w1 := stepB (by go_grown) hb1
  have hs1 := hB1.size
  clear hb1
  have cc6 := Xb6_1.2.1
  have ll6 := Xb6_1.1
  have ff6 := Xb6_1.2.2
  have lm6_0 : w.heap.size < w1.heap.size := by have := ll6; omega
  have lm6_1 : w.heap.size + 1 < w1.heap.size := by have := ll6; omega
  go_wp2
  refine bodyPost_ret (v := .tuple #[.agg #[.int .i64 0, .int .i64 0], .int .i64 2]) (by simp [results, Try.results35, go_sem, spanV, cc6]) rfl ⟨rfl, by go_grown⟩

set_option maxRecDepth 100000 in
set_option maxHeartbeats 2000000 in
theorem after_bad (nut : Bool) (s0 s1 t0 t1 n d : Int) (HP : Hid (∀ w : World, Calls Try.prog 101 #[.agg #[.int .i64 s0, .int .i64 s1], .agg #[.int .i64 t0, .int .i64 t1, .int .i64 n, .int .i64 d]] w fun e w' => e = .returned (.bool false) ∧ Below w.heap.size w w')) (w : World) :
    Calls Try.prog 36 #[.agg #[.int .i64 s0, .int .i64 s1], .bool nut, .agg #[.int .i64 t0, .int .i64 t1, .int .i64 n, .int .i64 d]] w fun e w' => e = .returned (.tuple #[.agg #[.int .i64 0, .int .i64 0], .int .i64 2]) ∧ Below w.heap.size w w' := by
  go_enter Try.func36, Try.ntmps36
  go_wp2_with fail
  refine (HP.out _).mono ?_
  rintro e w1 ⟨rfl, hb1⟩
  have Xb6_1 : Box w1 (w.heap.size + 1 + 1) #[.int .i64 0, .int .i64 0] := Box.below (Box.newAt ((w.alloc _).alloc _) _ _ (by simp)) hb1
  have hB1 : Below w.heap.size w w1 := stepB (by go_grown) hb1
  have hs1 := hB1.size
  clear hb1
  have cc6 := Xb6_1.2.1
  have ll6 := Xb6_1.1
  have ff6 := Xb6_1.2.2
  have lm6_0 : w.heap.size < w1.heap.size := by have := ll6; omega
  have lm6_1 : w.heap.size + 1 < w1.heap.size := by have := ll6; omega
  go_wp2
  refine bodyPost_ret (v := .tuple #[.agg #[.int .i64 0, .int .i64 0], .int .i64 2]) (by simp [results, Try.results36, go_sem, spanV, cc6]) rfl ⟨rfl, by go_grown⟩

set_option maxRecDepth 100000 in
set_option maxHeartbeats 2000000 in
theorem before_0 (nut : Bool) (s0 s1 t0 t1 n d : Int) (lo hi : Int) (l0 : -10000000 ≤ lo) (l1 : lo ≤ 10000000) (g0 : -10000000 ≤ hi) (g1 : hi ≤ 10000000) (a0 : -20000000 ≤ s0) (a1 : s0 ≤ 20000000) (b0 : -20000000 ≤ s1) (b1 : s1 ≤ 20000000) (he : decide (s1 - hi < s0 - lo) = false) (HP : Hid (∀ w : World, Calls Try.prog 101 #[.agg #[.int .i64 s0, .int .i64 s1], .agg #[.int .i64 t0, .int .i64 t1, .int .i64 n, .int .i64 d]] w fun e w' => e = .returned (.bool true) ∧ Below w.heap.size w w')) (HC : Hid (∀ w : World, Calls Try.prog 102 #[.agg #[.int .i64 t0, .int .i64 t1, .int .i64 n, .int .i64 d], .bool nut] w fun e w' => e = .returned (spanV lo hi) ∧ Below w.heap.size w w')) (w : World) :
    Calls Try.prog 35 #[.agg #[.int .i64 s0, .int .i64 s1], .bool nut, .agg #[.int .i64 t0, .int .i64 t1, .int .i64 n, .int .i64 d]] w fun e w' => e = .returned (.tuple #[spanV (s0 - lo) (s1 - hi), .int .i64 0]) ∧ Below w.heap.size w w' := by
  go_enter Try.func35, Try.ntmps35
  go_wp2_with fail
  refine (HP.out _).mono ?_
  rintro e w1 ⟨rfl, hb1⟩
  have Xb3_1 : Box w1 w.heap.size #[.int .i64 s0, .int .i64 s1] := Box.below (Box.alloc (Box.alloc (Box.new w _ _) _) _) hb1
  have Xb5_1 : Box w1 (w.heap.size + 1) #[.int .i64 t0, .int .i64 t1, .int .i64 n, .int .i64 d] := Box.below (Box.alloc (Box.newAt (w.alloc _) _ _ (by simp)) _) hb1
  have Xb6_1 : Box w1 (w.heap.size + 1 + 1) #[.int .i64 0, .int .i64 0] := Box.below (Box.newAt ((w.alloc _).alloc _) _ _ (by simp)) hb1
  have hB1 : Below w.heap.size w w1 := stepB (by go_grown) hb1
  have hs1 := hB1.size
  clear hb1
  have cc5 := Xb5_1.2.1
  have ll5 := Xb5_1.1
  have lm5_0 : w.heap.size < w1.heap.size := by have := ll5; omega
  go_wp2_with fail
  refine (HC.out _).mono ?_
  rintro e w2 ⟨rfl, hb2⟩
  have Xb3_2 : Box w2 w.heap.size #[.int .i64 s0, .int .i64 s1] := Box.below Xb3_1 hb2
  have Xb6_2 : Box w2 (w.heap.size + 1 + 1) #[.int .i64 0, .int .i64 0] := Box.below Xb6_1 hb2
  have hB2 : Below w.heap.size w w2 := stepB (by go_grown) hb2
  have hs2 := hB2.size
  clear hb2 hB1 hs1 Xb3_1 Xb5_1 Xb6_1 cc5 ll5 lm5_0
  have cc3 := Xb3_2.2.1
  have ll3 := Xb3_2.1
  unfold spanV
  go_wp2_with fail
  refine (spanOf_any _ _ _).mono ?_
  rintro e w3 ⟨rfl, hb3⟩
  have Xb6_3 : Box w3 (w.heap.size + 1 + 1) #[.int .i64 0, .int .i64 0] := Box.below (Box.alloc Xb6_2 _) hb3
  have hB3 : Below w.heap.size w w3 := stepB (by go_grown) hb3
  have hs3 := hB3.size
  clear hb3 hB2 hs2 Xb3_2 Xb6_2 cc3 ll3
  unfold spanV
  go_wp2_with fail
  refine (empty_any _ _ _).mono ?_
  rintro e w4 ⟨rfl, hb4⟩
  have Xb6_4 : Box w4 (w.heap.size + 1 + 1) #[.int .i64 0, .int .i64 0] := Box.below (Box.alloc Xb6_3 _) hb4
  have Xb9_4 : Box w4 w3.heap.size #[.int .i64 (s0 - lo), .int .i64 (s1 - hi)] := Box.below (Box.new w3 _ _) hb4
  have hB4 : Below w.heap.size w w4 := stepB (by go_grown) hb4
  have hs4 := hB4.size
  clear hb4 hB3 hs3 Xb6_3
  have cc6 := Xb6_4.2.1
  have ll6 := Xb6_4.1
  have ff6 := Xb6_4.2.2
  have lm6_0 : w.heap.size < w4.heap.size := by have := ll6; omega
  have lm6_1 : w.heap.size + 1 < w4.heap.size := by have := ll6; omega
  have cc9 := Xb9_4.2.1
  have ll9 := Xb9_4.1
  rw [he]
  go_wp2
  refine bodyPost_ret (v := .tuple #[spanV (s0 - lo) (s1 - hi), .int .i64 0]) (by simp [results, Try.results35, go_sem, spanV, cc6, cc9]) rfl ⟨rfl, by go_grown⟩

set_option maxRecDepth 100000 in
set_option maxHeartbeats 2000000 in
theorem before_1 (nut : Bool) (s0 s1 t0 t1 n d : Int) (lo hi : Int) (l0 : -10000000 ≤ lo) (l1 : lo ≤ 10000000) (g0 : -10000000 ≤ hi) (g1 : hi ≤ 10000000) (a0 : -20000000 ≤ s0) (a1 : s0 ≤ 20000000) (b0 : -20000000 ≤ s1) (b1 : s1 ≤ 20000000) (he : decide (s1 - hi < s0 - lo) = true) (HP : Hid (∀ w : World, Calls Try.prog 101 #[.agg #[.int .i64 s0, .int .i64 s1], .agg #[.int .i64 t0, .int .i64 t1, .int .i64 n, .int .i64 d]] w fun e w' => e = .returned (.bool true) ∧ Below w.heap.size w w')) (HC : Hid (∀ w : World, Calls Try.prog 102 #[.agg #[.int .i64 t0, .int .i64 t1, .int .i64 n, .int .i64 d], .bool nut] w fun e w' => e = .returned (spanV lo hi) ∧ Below w.heap.size w w')) (w : World) :
    Calls Try.prog 35 #[.agg #[.int .i64 s0, .int .i64 s1], .bool nut, .agg #[.int .i64 t0, .int .i64 t1, .int .i64 n, .int .i64 d]] w fun e w' => e = .returned (.tuple #[.agg #[.int .i64 0, .int .i64 0], .int .i64 9]) ∧ Below w.heap.size w w' := by
  go_enter Try.func35, Try.ntmps35
  go_wp2_with fail
  refine (HP.out _).mono ?_
  rintro e w1 ⟨rfl, hb1⟩
  have Xb3_1 : Box w1 w.heap.size #[.int .i64 s0, .int .i64 s1] := Box.below (Box.alloc (Box.alloc (Box.new w _ _) _) _) hb1
  have Xb5_1 : Box w1 (w.heap.size + 1) #[.int .i64 t0, .int .i64 t1, .int .i64 n, .int .i64 d] := Box.below (Box.alloc (Box.newAt (w.alloc _) _ _ (by simp)) _) hb1
  have Xb6_1 : Box w1 (w.heap.size + 1 + 1) #[.int .i64 0, .int .i64 0] := Box.below (Box.newAt ((w.alloc _).alloc _) _ _ (by simp)) hb1
  have hB1 : Below w.heap.size w w1 := stepB (by go_grown) hb1
  have hs1 := hB1.size
  clear hb1
  have cc5 := Xb5_1.2.1
  have ll5 := Xb5_1.1
  have lm5_0 : w.heap.size < w1.heap.size := by have := ll5; omega
  go_wp2_with fail
  refine (HC.out _).mono ?_
  rintro e w2 ⟨rfl, hb2⟩
  have Xb3_2 : Box w2 w.heap.size #[.int .i64 s0, .int .i64 s1] := Box.below Xb3_1 hb2
  have Xb6_2 : Box w2 (w.heap.size + 1 + 1) #[.int .i64 0, .int .i64 0] := Box.below Xb6_1 hb2
  have hB2 : Below w.heap.size w w2 := stepB (by go_grown) hb2
  have hs2 := hB2.size
  clear hb2 hB1 hs1 Xb3_1 Xb5_1 Xb6_1 cc5 ll5 lm5_0
  have cc3 := Xb3_2.2.1
  have ll3 := Xb3_2.1
  unfold spanV
  go_wp2_with fail
  refine (spanOf_any _ _ _).mono ?_
  rintro e w3 ⟨rfl, hb3⟩
  have Xb6_3 : Box w3 (w.heap.size + 1 + 1) #[.int .i64 0, .int .i64 0] := Box.below (Box.alloc Xb6_2 _) hb3
  have hB3 : Below w.heap.size w w3 := stepB (by go_grown) hb3
  have hs3 := hB3.size
  clear hb3 hB2 hs2 Xb3_2 Xb6_2 cc3 ll3
  unfold spanV
  go_wp2_with fail
  refine (empty_any _ _ _).mono ?_
  rintro e w4 ⟨rfl, hb4⟩
  have Xb6_4 : Box w4 (w.heap.size + 1 + 1) #[.int .i64 0, .int .i64 0] := Box.below (Box.alloc Xb6_3 _) hb4
  have hB4 : Below w.heap.size w w4 := stepB (by go_grown) hb4
  have hs4 := hB4.size
  clear hb4 hB3 hs3 Xb6_3
  have cc6 := Xb6_4.2.1
  have ll6 := Xb6_4.1
  have ff6 := Xb6_4.2.2
  have lm6_0 : w.heap.size < w4.heap.size := by have := ll6; omega
  have lm6_1 : w.heap.size + 1 < w4.heap.size := by have := ll6; omega
  rw [he]
  go_wp2
  refine bodyPost_ret (v := .tuple #[.agg #[.int .i64 0, .int .i64 0], .int .i64 9]) (by simp [results, Try.results35, go_sem, spanV, cc6]) rfl ⟨rfl, by go_grown⟩

set_option maxRecDepth 100000 in
set_option maxHeartbeats 2000000 in
theorem after_0 (nut : Bool) (s0 s1 t0 t1 n d : Int) (lo hi : Int) (l0 : -10000000 ≤ lo) (l1 : lo ≤ 10000000) (g0 : -10000000 ≤ hi) (g1 : hi ≤ 10000000) (a0 : -20000000 ≤ s0) (a1 : s0 ≤ 20000000) (b0 : -20000000 ≤ s1) (b1 : s1 ≤ 20000000) (HP : Hid (∀ w : World, Calls Try.prog 101 #[.agg #[.int .i64 s0, .int .i64 s1], .agg #[.int .i64 t0, .int .i64 t1, .int .i64 n, .int .i64 d]] w fun e w' => e = .returned (.bool true) ∧ Below w.heap.size w w')) (HC : Hid (∀ w : World, Calls Try.prog 102 #[.agg #[.int .i64 t0, .int .i64 t1, .int .i64 n, .int .i64 d], .bool nut] w fun e w' => e = .returned (spanV lo hi) ∧ Below w.heap.size w w')) (w : World) :
    Calls Try.prog 36 #[.agg #[.int .i64 s0, .int .i64 s1], .bool nut, .agg #[.int .i64 t0, .int .i64 t1, .int .i64 n, .int .i64 d]] w fun e w' => e = .returned (.tuple #[spanV (s0 + lo) (s1 + hi), .int .i64 0]) ∧ Below w.heap.size w w' := by
  go_enter Try.func36, Try.ntmps36
  go_wp2_with fail
  refine (HP.out _).mono ?_
  rintro e w1 ⟨rfl, hb1⟩
  have Xb3_1 : Box w1 w.heap.size #[.int .i64 s0, .int .i64 s1] := Box.below (Box.alloc (Box.alloc (Box.new w _ _) _) _) hb1
  have Xb5_1 : Box w1 (w.heap.size + 1) #[.int .i64 t0, .int .i64 t1, .int .i64 n, .int .i64 d] := Box.below (Box.alloc (Box.newAt (w.alloc _) _ _ (by simp)) _) hb1
  have Xb6_1 : Box w1 (w.heap.size + 1 + 1) #[.int .i64 0, .int .i64 0] := Box.below (Box.newAt ((w.alloc _).alloc _) _ _ (by simp)) hb1
  have hB1 : Below w.heap.size w w1 := stepB (by go_grown) hb1
  have hs1 := hB1.size
  clear hb1
  have cc5 := Xb5_1.2.1
  have ll5 := Xb5_1.1
  have lm5_0 : w.heap.size < w1.heap.size := by have := ll5; omega
  go_wp2_with fail
  refine (HC.out _).mono ?_
  rintro e w2 ⟨rfl, hb2⟩
  have Xb3_2 : Box w2 w.heap.size #[.int .i64 s0, .int .i64 s1] := Box.below Xb3_1 hb2
  have Xb6_2 : Box w2 (w.heap.size + 1 + 1) #[.int .i64 0, .int .i64 0] := Box.below Xb6_1 hb2
  have hB2 : Below w.heap.size w w2 := stepB (by go_grown) hb2
  have hs2 := hB2.size
  clear hb2 hB1 hs1 Xb3_1 Xb5_1 Xb6_1 cc5 ll5 lm5_0
  have cc3 := Xb3_2.2.1
  have ll3 := Xb3_2.1
  unfold spanV
  go_wp2_with fail
  refine (spanOf_any _ _ _).mono ?_
  rintro e w3 ⟨rfl, hb3⟩
  have Xb6_3 : Box w3 (w.heap.size + 1 + 1) #[.int .i64 0, .int .i64 0] := Box.below (Box.alloc Xb6_2 _) hb3
  have hB3 : Below w.heap.size w w3 := stepB (by go_grown) hb3
  have hs3 := hB3.size
  clear hb3 hB2 hs2 Xb3_2 Xb6_2 cc3 ll3
  have cc6 := Xb6_3.2.1
  have ll6 := Xb6_3.1
  have ff6 := Xb6_3.2.2
  have lm6_0 : w.heap.size < w3.heap.size := by have := ll6; omega
  have lm6_1 : w.heap.size + 1 < w3.heap.size := by have := ll6; omega
  unfold spanV
  have hfd : ∀ w : World, (Instr.field 166 (.agg #[.int .i64 (s0 + lo), .int .i64 (s1 + hi)]) 0).run Try.prog w = .ok (.agg #[.int .i64 (s0 + lo), .int .i64 (s1 + hi)]) w := fun _ => by kernel_rfl
  go_wp2
  refine bodyPost_ret (v := .tuple #[spanV (s0 + lo) (s1 + hi), .int .i64 0]) (by simp [results, Try.results36, go_sem, spanV, cc6]) rfl ⟨rfl, by go_grown⟩

def befLo (nut : Bool) (s0 t0 t1 n d : Int) : Int := s0 - chLo nut t0 t1 n d
def befHi (nut : Bool) (s1 t0 t1 n d : Int) : Int := s1 - chHi nut t0 t1 n d

/-- What Before returns. -/
def befV (nut : Bool) (s0 s1 t0 t1 n d : Int) : Value :=
  if platB s0 s1 t0 t1 n d then (if befHi nut s1 t0 t1 n d < befLo nut s0 t0 t1 n d then .tuple #[.agg #[.int .i64 0, .int .i64 0], .int .i64 9] else .tuple #[spanV (befLo nut s0 t0 t1 n d) (befHi nut s1 t0 t1 n d), .int .i64 0]) else .tuple #[.agg #[.int .i64 0, .int .i64 0], .int .i64 2]
/-- What After returns. -/
def aftV (nut : Bool) (s0 s1 t0 t1 n d : Int) : Value :=
  if platB s0 s1 t0 t1 n d then .tuple #[spanV (s0 + chLo nut t0 t1 n d) (s1 + chHi nut t0 t1 n d), .int .i64 0] else .tuple #[.agg #[.int .i64 0, .int .i64 0], .int .i64 2]

theorem before_any (nut : Bool) (s0 s1 t0 t1 n d : Int) (w : World) :
    Calls Try.prog 35 #[.agg #[.int .i64 s0, .int .i64 s1], .bool nut, .agg #[.int .i64 t0, .int .i64 t1, .int .i64 n, .int .i64 d]] w fun e w' => e = .returned (befV nut s0 s1 t0 t1 n d) ∧ Below w.heap.size w w' := by
  have HP := fun w => plat_any s0 s1 t0 t1 n d w
  unfold befV
  cases hp : platB s0 s1 t0 t1 n d
  · rw [hp] at HP
    exact before_bad nut s0 s1 t0 t1 n d (Lib.hid HP) w
  · rw [hp] at HP
    obtain ⟨⟨a1, a2, a3⟩, ⟨b1, b2, b3⟩, ⟨c1, c2⟩, d1, d2⟩ := (plat_iff s0 s1 t0 t1 n d).1 hp
    obtain ⟨⟨e1, e2⟩, e3, e4⟩ := change_bd (nut := nut) (t0 := t0) (t1 := t1) (n := n) (d := d) ⟨b1, by omega⟩ ⟨by omega, b3⟩ ⟨c1, c2⟩ d1
    have HC := fun w => change_any nut t0 t1 n d w ⟨b1, by omega⟩ ⟨by omega, b3⟩ ⟨c1, c2⟩ ⟨d1, d2⟩
    by_cases he : befHi nut s1 t0 t1 n d < befLo nut s0 t0 t1 n d
    · rw [if_pos rfl, if_pos he]
      exact before_1 nut s0 s1 t0 t1 n d _ _ e1 e2 e3 e4 a1 (by omega) (by omega) a3 (decide_eq_true he) (Lib.hid HP) (Lib.hid HC) w
    · rw [if_pos rfl, if_neg he]
      exact before_0 nut s0 s1 t0 t1 n d _ _ e1 e2 e3 e4 a1 (by omega) (by omega) a3 (decide_eq_false he) (Lib.hid HP) (Lib.hid HC) w

theorem after_any (nut : Bool) (s0 s1 t0 t1 n d : Int) (w : World) :
    Calls Try.prog 36 #[.agg #[.int .i64 s0, .int .i64 s1], .bool nut, .agg #[.int .i64 t0, .int .i64 t1, .int .i64 n, .int .i64 d]] w fun e w' => e = .returned (aftV nut s0 s1 t0 t1 n d) ∧ Below w.heap.size w w' := by
  have HP := fun w => plat_any s0 s1 t0 t1 n d w
  unfold aftV
  cases hp : platB s0 s1 t0 t1 n d
  · rw [hp] at HP
    exact after_bad nut s0 s1 t0 t1 n d (Lib.hid HP) w
  · rw [hp] at HP
    obtain ⟨⟨a1, a2, a3⟩, ⟨b1, b2, b3⟩, ⟨c1, c2⟩, d1, d2⟩ := (plat_iff s0 s1 t0 t1 n d).1 hp
    obtain ⟨⟨e1, e2⟩, e3, e4⟩ := change_bd (nut := nut) (t0 := t0) (t1 := t1) (n := n) (d := d) ⟨b1, by omega⟩ ⟨by omega, b3⟩ ⟨c1, c2⟩ d1
    have HC := fun w => change_any nut t0 t1 n d w ⟨b1, by omega⟩ ⟨by omega, b3⟩ ⟨c1, c2⟩ ⟨d1, d2⟩
    exact after_0 nut s0 s1 t0 t1 n d _ _ e1 e2 e3 e4 a1 (by omega) (by omega) a3 (Lib.hid HP) (Lib.hid HC) w

end Go.Proofs.Ytpmeahmjmpgbfaa
