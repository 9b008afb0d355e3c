/- The contract of acmeref01.Form: whether a form is valid. -/
import Derived.Test.YtloleaahelmdjaaRef
namespace Go.Proofs.Ytloleaahelmdjaa
open Go.RowKit
set_option linter.unusedVariables false
set_option linter.unusedSimpArgs false

set_option maxHeartbeats 1200000 in
theorem refForm_out (p l r a b s t : Int) (h : Bool) (w : World) (hk : (limB ⟨p, l, r, a, b, s, h, t⟩ && decide (1 ≤ a + b)) = false) :
    Calls Try.prog 17 #[.agg #[.int .i64 p, .int .i64 l, .int .i64 r, .int .i64 a, .int .i64 b, .int .i64 s, .bool h, .int .i64 t]] w fun e w' => e = .returned (.bool false) ∧ Below w.heap.size w w' := by
  go_enter Try.func17, Try.ntmps17
  go_wp2_with fail
  refine (in_any _ _ _ _).mono ?_
  rintro e w9 ⟨rfl, rfl⟩
  cases h1 : inB 100 200000 p
  · go_wp2
    go_returns
    exact ⟨rfl, by go_grown⟩
  go_wp2_with fail
  refine (in_any _ _ _ _).mono ?_
  rintro e w9 ⟨rfl, rfl⟩
  cases h2 : inB 0 3000 l
  · go_wp2
    go_returns
    exact ⟨rfl, by go_grown⟩
  go_wp2_with fail
  refine (in_any _ _ _ _).mono ?_
  rintro e w9 ⟨rfl, rfl⟩
  cases h3 : inB 0 3000 r
  · go_wp2
    go_returns
    exact ⟨rfl, by go_grown⟩
  go_wp2_with fail
  refine (in_any _ _ _ _).mono ?_
  rintro e w9 ⟨rfl, rfl⟩
  cases h4 : inB 0 200000 a
  · go_wp2
    go_returns
    exact ⟨rfl, by go_grown⟩
  go_wp2_with fail
  refine (in_any _ _ _ _).mono ?_
  rintro e w9 ⟨rfl, rfl⟩
  cases h5 : inB 0 200000 b
  · go_wp2
    go_returns
    exact ⟨rfl, by go_grown⟩
  obtain ⟨a0, a1⟩ := inB_true h4
  obtain ⟨b0, b1⟩ := inB_true h5
  by_cases hs : a + b = 0
  · have hs' : ((a + b : Int) == 0) = true := by simpa using hs
    clear hs
    go_wp2
    go_returns
    exact ⟨rfl, by go_grown⟩
  have hs' : ((a + b : Int) == 0) = false := by simpa using hs
  have hs1 : 1 ≤ a + b := by omega
  clear hs
  go_wp2_with fail
  refine (in_any _ _ _ _).mono ?_
  rintro e w9 ⟨rfl, rfl⟩
  cases h6 : inB 1 8 s
  · go_wp2
    go_returns
    exact ⟨rfl, by go_grown⟩
  go_wp2_with fail
  refine (in_any _ _ _ _).mono ?_
  rintro e w9 ⟨rfl, rfl⟩
  cases h7 : inB 0 100 t
  · go_wp2
    go_returns
    exact ⟨rfl, by go_grown⟩
  exfalso
  simp [limB, allB, h1, h2, h3, h4, h5, h6, h7] at hk
  omega

set_option maxHeartbeats 1200000 in
theorem refForm_tt (p l r a b s t : Int) (h : Bool) (w : World) (h1 : inB 100 200000 p = true) (h2 : inB 0 3000 l = true) (h3 : inB 0 3000 r = true) (h4 : inB 0 200000 a = true) (h5 : inB 0 200000 b = true) (h6 : inB 1 8 s = true) (h7 : inB 0 100 t = true) (hs1 : 1 ≤ a + b) (h8 : 2 * a * (l + r) ≤ 1000 * p) (h9 : 1000 * p + 2 * b * (l + r) ≤ 2000 * p) :
    Calls Try.prog 17 #[.agg #[.int .i64 p, .int .i64 l, .int .i64 r, .int .i64 a, .int .i64 b, .int .i64 s, .bool h, .int .i64 t]] w fun e w' => e = .returned (.bool true) ∧ Below w.heap.size w w' := by
  obtain ⟨p0, p1⟩ := inB_true h1
  obtain ⟨l0, l1⟩ := inB_true h2
  obtain ⟨r0, r1⟩ := inB_true h3
  obtain ⟨a0, a1⟩ := inB_true h4
  obtain ⟨b0, b1⟩ := inB_true h5
  have hs' : ((a + b : Int) == 0) = false := by simp; omega
  go_enter Try.func17, Try.ntmps17
  go_wp2_with fail
  refine (in_any _ _ _ _).mono ?_
  rintro e w9 ⟨rfl, rfl⟩
  rw [h1]
  go_wp2_with fail
  refine (in_any _ _ _ _).mono ?_
  rintro e w9 ⟨rfl, rfl⟩
  rw [h2]
  go_wp2_with fail
  refine (in_any _ _ _ _).mono ?_
  rintro e w9 ⟨rfl, rfl⟩
  rw [h3]
  go_wp2_with fail
  refine (in_any _ _ _ _).mono ?_
  rintro e w9 ⟨rfl, rfl⟩
  rw [h4]
  go_wp2_with fail
  refine (in_any _ _ _ _).mono ?_
  rintro e w9 ⟨rfl, rfl⟩
  rw [h5]
  go_wp2_with fail
  refine (in_any _ _ _ _).mono ?_
  rintro e w9 ⟨rfl, rfl⟩
  rw [h6]
  go_wp2_with fail
  refine (in_any _ _ _ _).mono ?_
  rintro e w9 ⟨rfl, rfl⟩
  rw [h7]
  clear h1 h2 h3 h4 h5 h6 h7 hs' hs1
  go_wp2
  have Y1 : Box (w.alloc (.cells #[.int .i64 p, .int .i64 l, .int .i64 r, .int .i64 a, .int .i64 b, .int .i64 s, .bool h, .int .i64 t] 23)) w.heap.size #[.int .i64 p, .int .i64 l, .int .i64 r, .int .i64 a, .int .i64 b, .int .i64 s, .bool h, .int .i64 t] := Box.new w _ _
  have hBX : Below w.heap.size w (w.alloc (.cells #[.int .i64 p, .int .i64 l, .int .i64 r, .int .i64 a, .int .i64 b, .int .i64 s, .bool h, .int .i64 t] 23)) := by go_grown
  generalize (w.alloc (.cells #[.int .i64 p, .int .i64 l, .int .i64 r, .int .i64 a, .int .i64 b, .int .i64 s, .bool h, .int .i64 t] 23)) = X at *
  have q1 := fun d os => (Y1.regrown d os).2.1
  have hsX := hBX.size
  clear Y1
  have m1 := mul_bd (x := 2 * a) (y := l + r) (A := 400000) (B := 6000) (by omega) (by omega) (by omega) (by omega)
  have m2 := mul_bd (x := 2 * -b) (y := l + r) (A := 400000) (B := 6000) (by omega) (by omega) (by omega) (by omega)
  have e3 : 2 * -b * (l + r) = -(2 * b * (l + r)) := by rw [Int.mul_neg, Int.neg_mul]
  have k1 := fun d os => (refWidth_any p l r a b s t h a (Go.Sort.grow (redrawn X d) os) (by omega) (by omega) (by omega) (by omega)).regrown_of
  have k2 := fun d os => (refWidth_any p l r a b s t h (-b) (Go.Sort.grow (redrawn X d) os) (by omega) (by omega) (by omega) (by omega)).regrown_of
  have e4 : 1000 * p - 2 * -b * (l + r) = 1000 * p + 2 * b * (l + r) := by rw [e3]; omega
  rw [e4] at k2
  clear e3 e4
  have W1 : IntKind.i64.wrap (-b) = -b := IntWalk.i64_in _ (by omega)
  have W2 : IntKind.i64.wrap (2000 * p) = 2000 * p := IntWalk.i64_in _ (by omega)
  have d8 : decide (2 * a * (l + r) ≤ 1000 * p) = true := decide_eq_true h8
  have g8 : decide (0 ≤ 1000 * p - 2 * a * (l + r)) = true := decide_eq_true (by omega)
  have d9 : decide (1000 * p + 2 * b * (l + r) ≤ 2000 * p) = true := decide_eq_true h9
  refine wp_region_quiet_below (by kernel_rfl) (by kernel_rfl) ?_
  repeat ((with_reducible refine wpQuiet_step (fun K hK => ?_)); go_simp; first | ((with_reducible refine hK _ ?_); clear hK K) | (apply Exists.intro; refine ⟨fun _ => ?_, hK _ ?_⟩; (first | (go_at_call 21; first | with_reducible exact k1 _ _ | with_reducible exact k2 _ _)); clear hK K))
  with_reducible refine wpQuiet_nil ?_
  intro w8 hw'
  obtain ⟨⟨dq, osq⟩, hw''⟩ := hw'
  have hb8 : Below X.heap.size X w8 := by rw [hw'']; exact below_regrown X dq osq
  have hB8 : Below w.heap.size w w8 := stepB hBX hb8
  clear hw'' hb8 q1 k1 k2
  go_wp2
  go_returns
  exact ⟨rfl, hB8⟩

set_option maxHeartbeats 1200000 in
theorem refForm_tf (p l r a b s t : Int) (h : Bool) (w : World) (h1 : inB 100 200000 p = true) (h2 : inB 0 3000 l = true) (h3 : inB 0 3000 r = true) (h4 : inB 0 200000 a = true) (h5 : inB 0 200000 b = true) (h6 : inB 1 8 s = true) (h7 : inB 0 100 t = true) (hs1 : 1 ≤ a + b) (h8 : 2 * a * (l + r) ≤ 1000 * p) (h9 : ¬ 1000 * p + 2 * b * (l + r) ≤ 2000 * p) :
    Calls Try.prog 17 #[.agg #[.int .i64 p, .int .i64 l, .int .i64 r, .int .i64 a, .int .i64 b, .int .i64 s, .bool h, .int .i64 t]] w fun e w' => e = .returned (.bool false) ∧ Below w.heap.size w w' := by
  obtain ⟨p0, p1⟩ := inB_true h1
  obtain ⟨l0, l1⟩ := inB_true h2
  obtain ⟨r0, r1⟩ := inB_true h3
  obtain ⟨a0, a1⟩ := inB_true h4
  obtain ⟨b0, b1⟩ := inB_true h5
  have hs' : ((a + b : Int) == 0) = false := by simp; omega
  go_enter Try.func17, Try.ntmps17
  go_wp2_with fail
  refine (in_any _ _ _ _).mono ?_
  rintro e w9 ⟨rfl, rfl⟩
  rw [h1]
  go_wp2_with fail
  refine (in_any _ _ _ _).mono ?_
  rintro e w9 ⟨rfl, rfl⟩
  rw [h2]
  go_wp2_with fail
  refine (in_any _ _ _ _).mono ?_
  rintro e w9 ⟨rfl, rfl⟩
  rw [h3]
  go_wp2_with fail
  refine (in_any _ _ _ _).mono ?_
  rintro e w9 ⟨rfl, rfl⟩
  rw [h4]
  go_wp2_with fail
  refine (in_any _ _ _ _).mono ?_
  rintro e w9 ⟨rfl, rfl⟩
  rw [h5]
  go_wp2_with fail
  refine (in_any _ _ _ _).mono ?_
  rintro e w9 ⟨rfl, rfl⟩
  rw [h6]
  go_wp2_with fail
  refine (in_any _ _ _ _).mono ?_
  rintro e w9 ⟨rfl, rfl⟩
  rw [h7]
  clear h1 h2 h3 h4 h5 h6 h7 hs' hs1
  go_wp2
  have Y1 : Box (w.alloc (.cells #[.int .i64 p, .int .i64 l, .int .i64 r, .int .i64 a, .int .i64 b, .int .i64 s, .bool h, .int .i64 t] 23)) w.heap.size #[.int .i64 p, .int .i64 l, .int .i64 r, .int .i64 a, .int .i64 b, .int .i64 s, .bool h, .int .i64 t] := Box.new w _ _
  have hBX : Below w.heap.size w (w.alloc (.cells #[.int .i64 p, .int .i64 l, .int .i64 r, .int .i64 a, .int .i64 b, .int .i64 s, .bool h, .int .i64 t] 23)) := by go_grown
  generalize (w.alloc (.cells #[.int .i64 p, .int .i64 l, .int .i64 r, .int .i64 a, .int .i64 b, .int .i64 s, .bool h, .int .i64 t] 23)) = X at *
  have q1 := fun d os => (Y1.regrown d os).2.1
  have hsX := hBX.size
  clear Y1
  have m1 := mul_bd (x := 2 * a) (y := l + r) (A := 400000) (B := 6000) (by omega) (by omega) (by omega) (by omega)
  have m2 := mul_bd (x := 2 * -b) (y := l + r) (A := 400000) (B := 6000) (by omega) (by omega) (by omega) (by omega)
  have e3 : 2 * -b * (l + r) = -(2 * b * (l + r)) := by rw [Int.mul_neg, Int.neg_mul]
  have k1 := fun d os => (refWidth_any p l r a b s t h a (Go.Sort.grow (redrawn X d) os) (by omega) (by omega) (by omega) (by omega)).regrown_of
  have k2 := fun d os => (refWidth_any p l r a b s t h (-b) (Go.Sort.grow (redrawn X d) os) (by omega) (by omega) (by omega) (by omega)).regrown_of
  have e4 : 1000 * p - 2 * -b * (l + r) = 1000 * p + 2 * b * (l + r) := by rw [e3]; omega
  rw [e4] at k2
  clear e3 e4
  have W1 : IntKind.i64.wrap (-b) = -b := IntWalk.i64_in _ (by omega)
  have W2 : IntKind.i64.wrap (2000 * p) = 2000 * p := IntWalk.i64_in _ (by omega)
  have d8 : decide (2 * a * (l + r) ≤ 1000 * p) = true := decide_eq_true h8
  have g8 : decide (0 ≤ 1000 * p - 2 * a * (l + r)) = true := decide_eq_true (by omega)
  have d9 : decide (1000 * p + 2 * b * (l + r) ≤ 2000 * p) = false := decide_eq_false (by omega)
  refine wp_region_quiet_below (by kernel_rfl) (by kernel_rfl) ?_
  repeat ((with_reducible refine wpQuiet_step (fun K hK => ?_)); go_simp; first | ((with_reducible refine hK _ ?_); clear hK K) | (apply Exists.intro; refine ⟨fun _ => ?_, hK _ ?_⟩; (first | (go_at_call 21; first | with_reducible exact k1 _ _ | with_reducible exact k2 _ _)); clear hK K))
  with_reducible refine wpQuiet_nil ?_
  intro w8 hw'
  obtain ⟨⟨dq, osq⟩, hw''⟩ := hw'
  have hb8 : Below X.heap.size X w8 := by rw [hw'']; exact below_regrown X dq osq
  have hB8 : Below w.heap.size w w8 := stepB hBX hb8
  clear hw'' hb8 q1 k1 k2
  go_wp2
  go_returns
  exact ⟨rfl, hB8⟩

set_option maxHeartbeats 1200000 in
theorem refForm_f (p l r a b s t : Int) (h : Bool) (w : World) (h1 : inB 100 200000 p = true) (h2 : inB 0 3000 l = true) (h3 : inB 0 3000 r = true) (h4 : inB 0 200000 a = true) (h5 : inB 0 200000 b = true) (h6 : inB 1 8 s = true) (h7 : inB 0 100 t = true) (hs1 : 1 ≤ a + b) (h8 : ¬ 2 * a * (l + r) ≤ 1000 * p) :
    Calls Try.prog 17 #[.agg #[.int .i64 p, .int .i64 l, .int .i64 r, .int .i64 a, .int .i64 b, .int .i64 s, .bool h, .int .i64 t]] w fun e w' => e = .returned (.bool false) ∧ Below w.heap.size w w' := by
  obtain ⟨p0, p1⟩ := inB_true h1
  obtain ⟨l0, l1⟩ := inB_true h2
  obtain ⟨r0, r1⟩ := inB_true h3
  obtain ⟨a0, a1⟩ := inB_true h4
  obtain ⟨b0, b1⟩ := inB_true h5
  have hs' : ((a + b : Int) == 0) = false := by simp; omega
  go_enter Try.func17, Try.ntmps17
  go_wp2_with fail
  refine (in_any _ _ _ _).mono ?_
  rintro e w9 ⟨rfl, rfl⟩
  rw [h1]
  go_wp2_with fail
  refine (in_any _ _ _ _).mono ?_
  rintro e w9 ⟨rfl, rfl⟩
  rw [h2]
  go_wp2_with fail
  refine (in_any _ _ _ _).mono ?_
  rintro e w9 ⟨rfl, rfl⟩
  rw [h3]
  go_wp2_with fail
  refine (in_any _ _ _ _).mono ?_
  rintro e w9 ⟨rfl, rfl⟩
  rw [h4]
  go_wp2_with fail
  refine (in_any _ _ _ _).mono ?_
  rintro e w9 ⟨rfl, rfl⟩
  rw [h5]
  go_wp2_with fail
  refine (in_any _ _ _ _).mono ?_
  rintro e w9 ⟨rfl, rfl⟩
  rw [h6]
  go_wp2_with fail
  refine (in_any _ _ _ _).mono ?_
  rintro e w9 ⟨rfl, rfl⟩
  rw [h7]
  clear h1 h2 h3 h4 h5 h6 h7 hs' hs1
  go_wp2
  have Y1 : Box (w.alloc (.cells #[.int .i64 p, .int .i64 l, .int .i64 r, .int .i64 a, .int .i64 b, .int .i64 s, .bool h, .int .i64 t] 23)) w.heap.size #[.int .i64 p, .int .i64 l, .int .i64 r, .int .i64 a, .int .i64 b, .int .i64 s, .bool h, .int .i64 t] := Box.new w _ _
  have hBX : Below w.heap.size w (w.alloc (.cells #[.int .i64 p, .int .i64 l, .int .i64 r, .int .i64 a, .int .i64 b, .int .i64 s, .bool h, .int .i64 t] 23)) := by go_grown
  generalize (w.alloc (.cells #[.int .i64 p, .int .i64 l, .int .i64 r, .int .i64 a, .int .i64 b, .int .i64 s, .bool h, .int .i64 t] 23)) = X at *
  have q1 := fun d os => (Y1.regrown d os).2.1
  have hsX := hBX.size
  clear Y1
  have m1 := mul_bd (x := 2 * a) (y := l + r) (A := 400000) (B := 6000) (by omega) (by omega) (by omega) (by omega)
  have m2 := mul_bd (x := 2 * -b) (y := l + r) (A := 400000) (B := 6000) (by omega) (by omega) (by omega) (by omega)
  have e3 : 2 * -b * (l + r) = -(2 * b * (l + r)) := by rw [Int.mul_neg, Int.neg_mul]
  have k1 := fun d os => (refWidth_any p l r a b s t h a (Go.Sort.grow (redrawn X d) os) (by omega) (by omega) (by omega) (by omega)).regrown_of
  have k2 := fun d os => (refWidth_any p l r a b s t h (-b) (Go.Sort.grow (redrawn X d) os) (by omega) (by omega) (by omega) (by omega)).regrown_of
  have e4 : 1000 * p - 2 * -b * (l + r) = 1000 * p + 2 * b * (l + r) := by rw [e3]; omega
  rw [e4] at k2
  clear e3 e4
  have W1 : IntKind.i64.wrap (-b) = -b := IntWalk.i64_in _ (by omega)
  have W2 : IntKind.i64.wrap (2000 * p) = 2000 * p := IntWalk.i64_in _ (by omega)
  have d8 : decide (2 * a * (l + r) ≤ 1000 * p) = false := decide_eq_false (by omega)
  have g8 : decide (0 ≤ 1000 * p - 2 * a * (l + r)) = false := decide_eq_false (by omega)
  refine wp_region_quiet_below (by kernel_rfl) (by kernel_rfl) ?_
  repeat ((with_reducible refine wpQuiet_step (fun K hK => ?_)); go_simp; first | ((with_reducible refine hK _ ?_); clear hK K) | (apply Exists.intro; refine ⟨fun _ => ?_, hK _ ?_⟩; (first | (go_at_call 21; first | with_reducible exact k1 _ _ | with_reducible exact k2 _ _)); clear hK K))
  with_reducible refine wpQuiet_nil ?_
  intro w8 hw'
  obtain ⟨⟨dq, osq⟩, hw''⟩ := hw'
  have hb8 : Below X.heap.size X w8 := by rw [hw'']; exact below_regrown X dq osq
  have hB8 : Below w.heap.size w w8 := stepB hBX hb8
  clear hw'' hb8 q1 k1 k2
  go_wp2
  go_returns
  exact ⟨rfl, hB8⟩

theorem refForm_any (p l r a b s t : Int) (h : Bool) (w : World) :
    Calls Try.prog 17 #[.agg #[.int .i64 p, .int .i64 l, .int .i64 r, .int .i64 a, .int .i64 b, .int .i64 s, .bool h, .int .i64 t]] w fun e w' => e = .returned (.bool (okB ⟨p, l, r, a, b, s, h, t⟩)) ∧ Below w.heap.size w w' := by
  cases hk : limB ⟨p, l, r, a, b, s, h, t⟩ && decide (1 ≤ a + b)
  · have : okB ⟨p, l, r, a, b, s, h, t⟩ = false := by unfold okB; rw [hk]; rfl
    rw [this]
    exact refForm_out p l r a b s t h w hk
  · have h0 := hk
    simp only [limB, allB, List.all_cons, List.all_nil, Bool.and_true, Bool.and_eq_true, decide_eq_true_eq] at h0
    obtain ⟨⟨⟨⟨⟨h1, h2, h3⟩, h4, h5⟩, h6⟩, h7⟩, hs1⟩ := h0
    obtain ⟨l0, l1⟩ := inB_true h2
    obtain ⟨r0, r1⟩ := inB_true h3
    have HOK : okB ⟨p, l, r, a, b, s, h, t⟩ = (decide (2 * a * (l + r) ≤ 1000 * p) && decide (1000 * p + 2 * b * (l + r) ≤ 2000 * p)) := by
      have e1 : 2 * a * (l + r) = 2 * (a * (l + r)) := Int.mul_assoc _ _ _
      have e2 : 2 * b * (l + r) = 2 * (b * (l + r)) := Int.mul_assoc _ _ _
      unfold okB openB
      rw [hk, e1, e2, Bool.eq_iff_iff]
      simp only [Bool.true_and, Bool.and_eq_true, decide_eq_true_eq]
      rcases Int.le_total a b with h9 | h9
      · rw [Int.max_eq_right h9]
        have := Int.mul_le_mul_of_nonneg_right h9 (by omega : 0 ≤ l + r)
        omega
      · rw [Int.max_eq_left h9]
        have := Int.mul_le_mul_of_nonneg_right h9 (by omega : 0 ≤ l + r)
        omega
    rw [HOK]
    by_cases h8 : 2 * a * (l + r) ≤ 1000 * p
    · by_cases h9 : 1000 * p + 2 * b * (l + r) ≤ 2000 * p
      · rw [decide_eq_true h8, decide_eq_true h9]
        exact refForm_tt p l r a b s t h w h1 h2 h3 h4 h5 h6 h7 hs1 h8 h9
      · rw [decide_eq_true h8, decide_eq_false h9]
        exact refForm_tf p l r a b s t h w h1 h2 h3 h4 h5 h6 h7 hs1 h8 h9
    · rw [decide_eq_false h8]
      exact refForm_f p l r a b s t h w h1 h2 h3 h4 h5 h6 h7 hs1 h8
end Go.Proofs.Ytloleaahelmdjaa
