/- The contract of acmelaw01.lies: whether a tooth lies in a groove at both ends of a depth. Made by tools/gen_lies.py. -/
import Derived.Test.YtloleaahelmdjaaRefRoom
namespace Go.Proofs.Ytloleaahelmdjaa
open Go.RowKit
set_option linter.unusedVariables false
set_option linter.unusedSimpArgs false

set_option maxHeartbeats 4000000 in
theorem lies_core (p l r a b s t : Int) (h : Bool) (p' l' r' a' b' s' t' : Int) (h' : Bool) (lo hi c : Int) (w : World) (A1 A2 B1 B2 : Int) (G : Bool) (HG : Hid (decide (max A1 A2 ≤ min B1 B2) = G)) (HW1 : Hid (IntKind.i64.wrap (lo * l') = lo * l' ∧ IntKind.i64.wrap (lo + c) = lo + c ∧ IntKind.i64.wrap ((lo + c) * l) = (lo + c) * l ∧ IntKind.i64.wrap (lo * l' - (lo + c) * l) = A1 ∧ IntKind.i64.wrap ((lo + c) * r) = (lo + c) * r ∧ IntKind.i64.wrap (lo * r') = lo * r' ∧ IntKind.i64.wrap ((lo + c) * r - lo * r') = B1)) (HW2 : Hid (IntKind.i64.wrap (hi * l') = hi * l' ∧ IntKind.i64.wrap (hi + c) = hi + c ∧ IntKind.i64.wrap ((hi + c) * l) = (hi + c) * l ∧ IntKind.i64.wrap (hi * l' - (hi + c) * l) = A2 ∧ IntKind.i64.wrap ((hi + c) * r) = (hi + c) * r ∧ IntKind.i64.wrap (hi * r') = hi * r' ∧ IntKind.i64.wrap ((hi + c) * r - hi * r') = B2)) :
    Calls Try.prog 40 #[.agg #[.int .i64 p, .int .i64 l, .int .i64 r, .int .i64 a, .int .i64 b, .int .i64 s, .bool h, .int .i64 t], .agg #[.int .i64 p', .int .i64 l', .int .i64 r', .int .i64 a', .int .i64 b', .int .i64 s', .bool h', .int .i64 t'], .agg #[.int .i64 lo, .int .i64 hi], .int .i64 c] w fun e w' => e = .returned (.bool G) ∧ Below w.heap.size w w' := by
  have i0 : ∀ w, (Instr.index 67 (.agg #[.int .i64 lo, .int .i64 hi]) (.int .i64 0)).run Try.prog w = .ok (.int .i64 lo) w := fun _ => by kernel_rfl
  have i1 : ∀ w, (Instr.index 67 (.agg #[.int .i64 lo, .int .i64 hi]) (.int .i64 1)).run Try.prog w = .ok (.int .i64 hi) w := fun _ => by kernel_rfl
  go_enter Try.func40, Try.ntmps40
  go_wp2
  go_loopw [9, 10, 11] (fun x y i wr => ∃ n u v : Int, i = .int .i64 n ∧ x = .int .i64 u ∧ y = .int .i64 v ∧ (n = 0 ∨ n = 1 ∨ n = 2) ∧ Hid ((n = 1 → u = A1 ∧ v = B1) ∧ (n = 2 → u = max A1 A2 ∧ v = min B1 B2)) ∧ Hid (Box wr w.heap.size #[.int .i64 p, .int .i64 l, .int .i64 r, .int .i64 a, .int .i64 b, .int .i64 s, .bool h, .int .i64 t] ∧ Box wr (w.heap.size + 1) #[.int .i64 p', .int .i64 l', .int .i64 r', .int .i64 a', .int .i64 b', .int .i64 s', .bool h', .int .i64 t'] ∧ Box wr (w.heap.size + 1 + 1) #[.int .i64 lo, .int .i64 hi] ∧ Below w.heap.size w wr)) (fun _ _ i _ => 2 - (intOf i).toNat)
  case atStart => exact ⟨0, 0, 0, rfl, rfl, rfl, by omega, Lib.hid ⟨fun h => absurd h (by omega), fun h => absurd h (by omega)⟩, Lib.hid ⟨Box.alloc (Box.alloc (Box.new w _ _) _) _, Box.alloc (Box.newAt (w.alloc _) _ _ (by simp)) _, Box.newAt ((w.alloc _).alloc _) _ _ (by simp), by go_grown⟩⟩
  case round =>
    obtain ⟨n, u, v, rfl, rfl, rfl, hn, huv, hw1⟩ := hrel
    rcases hn with rfl | rfl | rfl
    · clear huv
      obtain ⟨Z1, Z2, Z3, hB⟩ := hw1.out
      have c3 := Z3.2.1
      have l3 := Z3.1
      go_wp2
      clear c3 l3
      have q1 := fun d os => (Z1.regrown d os).2.1
      have q2 := fun d os => (Z2.regrown d os).2.1
      have hsX := hB.size
      have HZ := hw1
      clear hw1 Z1 Z2 Z3
      obtain ⟨e1, e2, e3, e4, e5, e6, e7⟩ := HW1.out
      refine wp_region_quiet_below (by kernel_rfl) (by kernel_rfl) ?_
      repeat ((with_reducible refine wpQuiet_step (fun K hK => ?_)); go_simp; first | ((with_reducible refine hK _ ?_); clear hK K) | fail)
      with_reducible refine wpQuiet_nil ?_
      intro w9 hw'
      obtain ⟨⟨dq, osq⟩, hw''⟩ := hw'
      have hb9 : Below wr.heap.size wr w9 := by rw [hw'']; exact below_regrown wr dq osq
      have HWx : Hid (Box w9 w.heap.size #[.int .i64 p, .int .i64 l, .int .i64 r, .int .i64 a, .int .i64 b, .int .i64 s, .bool h, .int .i64 t] ∧ Box w9 (w.heap.size + 1) #[.int .i64 p', .int .i64 l', .int .i64 r', .int .i64 a', .int .i64 b', .int .i64 s', .bool h', .int .i64 t'] ∧ Box w9 (w.heap.size + 1 + 1) #[.int .i64 lo, .int .i64 hi] ∧ Below w.heap.size w w9) := Lib.hid ⟨HZ.out.1.below hb9, HZ.out.2.1.below hb9, HZ.out.2.2.1.below hb9, stepB hB hb9⟩
      clear hw'' hb9 q1 q2 hB hsX HZ e1 e2 e3 e4 e5 e6 e7
      go_wp2
      go_roundw
      case rel => exact ⟨1, A1, B1, rfl, rfl, rfl, by omega, Lib.hid ⟨fun _ => ⟨rfl, rfl⟩, fun h => absurd h (by omega)⟩, HWx⟩
      case measure => simp [intOf]
    · obtain ⟨rfl, rfl⟩ := huv.out.1 rfl
      clear huv
      by_cases ha : u < A2
      · by_cases hb : B2 < v
        · 
          obtain ⟨Z1, Z2, Z3, hB⟩ := hw1.out
          have c3 := Z3.2.1
          have l3 := Z3.1
          go_wp2
          clear c3 l3
          have q1 := fun d os => (Z1.regrown d os).2.1
          have q2 := fun d os => (Z2.regrown d os).2.1
          have hsX := hB.size
          have HZ := hw1
          clear hw1 Z1 Z2 Z3
          obtain ⟨e1, e2, e3, e4, e5, e6, e7⟩ := HW2.out
          refine wp_region_quiet_below (by kernel_rfl) (by kernel_rfl) ?_
          repeat ((with_reducible refine wpQuiet_step (fun K hK => ?_)); go_simp; first | ((with_reducible refine hK _ ?_); clear hK K) | fail)
          with_reducible refine wpQuiet_nil ?_
          intro w9 hw'
          obtain ⟨⟨dq, osq⟩, hw''⟩ := hw'
          have hb9 : Below wr.heap.size wr w9 := by rw [hw'']; exact below_regrown wr dq osq
          have HWx : Hid (Box w9 w.heap.size #[.int .i64 p, .int .i64 l, .int .i64 r, .int .i64 a, .int .i64 b, .int .i64 s, .bool h, .int .i64 t] ∧ Box w9 (w.heap.size + 1) #[.int .i64 p', .int .i64 l', .int .i64 r', .int .i64 a', .int .i64 b', .int .i64 s', .bool h', .int .i64 t'] ∧ Box w9 (w.heap.size + 1 + 1) #[.int .i64 lo, .int .i64 hi] ∧ Below w.heap.size w w9) := Lib.hid ⟨HZ.out.1.below hb9, HZ.out.2.1.below hb9, HZ.out.2.2.1.below hb9, stepB hB hb9⟩
          clear hw'' hb9 q1 q2 hB hsX HZ e1 e2 e3 e4 e5 e6 e7
          have d1 : decide (u < A2) = true := decide_eq_true ha
          have d2 : decide (B2 < v) = true := decide_eq_true hb
          go_wp2
          go_roundw
          case rel => exact ⟨2, A2, B2, rfl, rfl, rfl, by omega, Lib.hid ⟨fun h => absurd h (by omega), fun _ => ⟨(Int.max_eq_right (by omega) : max u A2 = _).symm, (Int.min_eq_right (by omega) : min v B2 = _).symm⟩⟩, HWx⟩
          case measure => simp [intOf]
        · 
          obtain ⟨Z1, Z2, Z3, hB⟩ := hw1.out
          have c3 := Z3.2.1
          have l3 := Z3.1
          go_wp2
          clear c3 l3
          have q1 := fun d os => (Z1.regrown d os).2.1
          have q2 := fun d os => (Z2.regrown d os).2.1
          have hsX := hB.size
          have HZ := hw1
          clear hw1 Z1 Z2 Z3
          obtain ⟨e1, e2, e3, e4, e5, e6, e7⟩ := HW2.out
          refine wp_region_quiet_below (by kernel_rfl) (by kernel_rfl) ?_
          repeat ((with_reducible refine wpQuiet_step (fun K hK => ?_)); go_simp; first | ((with_reducible refine hK _ ?_); clear hK K) | fail)
          with_reducible refine wpQuiet_nil ?_
          intro w9 hw'
          obtain ⟨⟨dq, osq⟩, hw''⟩ := hw'
          have hb9 : Below wr.heap.size wr w9 := by rw [hw'']; exact below_regrown wr dq osq
          have HWx : Hid (Box w9 w.heap.size #[.int .i64 p, .int .i64 l, .int .i64 r, .int .i64 a, .int .i64 b, .int .i64 s, .bool h, .int .i64 t] ∧ Box w9 (w.heap.size + 1) #[.int .i64 p', .int .i64 l', .int .i64 r', .int .i64 a', .int .i64 b', .int .i64 s', .bool h', .int .i64 t'] ∧ Box w9 (w.heap.size + 1 + 1) #[.int .i64 lo, .int .i64 hi] ∧ Below w.heap.size w w9) := Lib.hid ⟨HZ.out.1.below hb9, HZ.out.2.1.below hb9, HZ.out.2.2.1.below hb9, stepB hB hb9⟩
          clear hw'' hb9 q1 q2 hB hsX HZ e1 e2 e3 e4 e5 e6 e7
          have d1 : decide (u < A2) = true := decide_eq_true ha
          have d2 : decide (B2 < v) = false := decide_eq_false (by omega)
          go_wp2
          go_roundw
          case rel => exact ⟨2, A2, v, rfl, rfl, rfl, by omega, Lib.hid ⟨fun h => absurd h (by omega), fun _ => ⟨(Int.max_eq_right (by omega) : max u A2 = _).symm, (Int.min_eq_left (by omega) : min v B2 = _).symm⟩⟩, HWx⟩
          case measure => simp [intOf]
      · by_cases hb : B2 < v
        · 
          obtain ⟨Z1, Z2, Z3, hB⟩ := hw1.out
          have c3 := Z3.2.1
          have l3 := Z3.1
          go_wp2
          clear c3 l3
          have q1 := fun d os => (Z1.regrown d os).2.1
          have q2 := fun d os => (Z2.regrown d os).2.1
          have hsX := hB.size
          have HZ := hw1
          clear hw1 Z1 Z2 Z3
          obtain ⟨e1, e2, e3, e4, e5, e6, e7⟩ := HW2.out
          refine wp_region_quiet_below (by kernel_rfl) (by kernel_rfl) ?_
          repeat ((with_reducible refine wpQuiet_step (fun K hK => ?_)); go_simp; first | ((with_reducible refine hK _ ?_); clear hK K) | fail)
          with_reducible refine wpQuiet_nil ?_
          intro w9 hw'
          obtain ⟨⟨dq, osq⟩, hw''⟩ := hw'
          have hb9 : Below wr.heap.size wr w9 := by rw [hw'']; exact below_regrown wr dq osq
          have HWx : Hid (Box w9 w.heap.size #[.int .i64 p, .int .i64 l, .int .i64 r, .int .i64 a, .int .i64 b, .int .i64 s, .bool h, .int .i64 t] ∧ Box w9 (w.heap.size + 1) #[.int .i64 p', .int .i64 l', .int .i64 r', .int .i64 a', .int .i64 b', .int .i64 s', .bool h', .int .i64 t'] ∧ Box w9 (w.heap.size + 1 + 1) #[.int .i64 lo, .int .i64 hi] ∧ Below w.heap.size w w9) := Lib.hid ⟨HZ.out.1.below hb9, HZ.out.2.1.below hb9, HZ.out.2.2.1.below hb9, stepB hB hb9⟩
          clear hw'' hb9 q1 q2 hB hsX HZ e1 e2 e3 e4 e5 e6 e7
          have d1 : decide (u < A2) = false := decide_eq_false (by omega)
          have d2 : decide (B2 < v) = true := decide_eq_true hb
          go_wp2
          go_roundw
          case rel => exact ⟨2, u, B2, rfl, rfl, rfl, by omega, Lib.hid ⟨fun h => absurd h (by omega), fun _ => ⟨(Int.max_eq_left (by omega) : max u A2 = _).symm, (Int.min_eq_right (by omega) : min v B2 = _).symm⟩⟩, HWx⟩
          case measure => simp [intOf]
        · 
          obtain ⟨Z1, Z2, Z3, hB⟩ := hw1.out
          have c3 := Z3.2.1
          have l3 := Z3.1
          go_wp2
          clear c3 l3
          have q1 := fun d os => (Z1.regrown d os).2.1
          have q2 := fun d os => (Z2.regrown d os).2.1
          have hsX := hB.size
          have HZ := hw1
          clear hw1 Z1 Z2 Z3
          obtain ⟨e1, e2, e3, e4, e5, e6, e7⟩ := HW2.out
          refine wp_region_quiet_below (by kernel_rfl) (by kernel_rfl) ?_
          repeat ((with_reducible refine wpQuiet_step (fun K hK => ?_)); go_simp; first | ((with_reducible refine hK _ ?_); clear hK K) | fail)
          with_reducible refine wpQuiet_nil ?_
          intro w9 hw'
          obtain ⟨⟨dq, osq⟩, hw''⟩ := hw'
          have hb9 : Below wr.heap.size wr w9 := by rw [hw'']; exact below_regrown wr dq osq
          have HWx : Hid (Box w9 w.heap.size #[.int .i64 p, .int .i64 l, .int .i64 r, .int .i64 a, .int .i64 b, .int .i64 s, .bool h, .int .i64 t] ∧ Box w9 (w.heap.size + 1) #[.int .i64 p', .int .i64 l', .int .i64 r', .int .i64 a', .int .i64 b', .int .i64 s', .bool h', .int .i64 t'] ∧ Box w9 (w.heap.size + 1 + 1) #[.int .i64 lo, .int .i64 hi] ∧ Below w.heap.size w w9) := Lib.hid ⟨HZ.out.1.below hb9, HZ.out.2.1.below hb9, HZ.out.2.2.1.below hb9, stepB hB hb9⟩
          clear hw'' hb9 q1 q2 hB hsX HZ e1 e2 e3 e4 e5 e6 e7
          have d1 : decide (u < A2) = false := decide_eq_false (by omega)
          have d2 : decide (B2 < v) = false := decide_eq_false (by omega)
          go_wp2
          go_roundw
          case rel => exact ⟨2, u, v, rfl, rfl, rfl, by omega, Lib.hid ⟨fun h => absurd h (by omega), fun _ => ⟨(Int.max_eq_left (by omega) : max u A2 = _).symm, (Int.min_eq_left (by omega) : min v B2 = _).symm⟩⟩, HWx⟩
          case measure => simp [intOf]
    · have hg : Hid (decide (u ≤ v) = G) := by
        obtain ⟨h1, h2⟩ := huv.out.2 rfl
        rw [h1, h2]
        exact HG
      clear huv
      by_cases hm : u ≤ v
      · have d1 : decide (u ≤ v) = true := decide_eq_true hm
        go_wp2
        go_returns
        exact ⟨ret_bool (by rw [← hg.out, d1]), hw1.out.2.2.2⟩
      · have d1 : decide (u ≤ v) = false := decide_eq_false hm
        go_wp2
        go_returns
        exact ⟨ret_bool (by rw [← hg.out, d1]), hw1.out.2.2.2⟩

theorem lies_any (p l r a b s t : Int) (h : Bool) (p' l' r' a' b' s' t' : Int) (h' : Bool) (lo hi c : Int) (w : World) (hl : 0 ≤ l ∧ l ≤ 3000) (hr : 0 ≤ r ∧ r ≤ 3000) (hl' : 0 ≤ l' ∧ l' ≤ 3000) (hr' : 0 ≤ r' ∧ r' ≤ 3000) (hc : 0 ≤ c ∧ c ≤ 1200000000) (hlo : -200000 ≤ lo ∧ lo ≤ 200000) (hhi : -200000 ≤ hi ∧ hi ≤ 200000) :
    Calls Try.prog 40 #[.agg #[.int .i64 p, .int .i64 l, .int .i64 r, .int .i64 a, .int .i64 b, .int .i64 s, .bool h, .int .i64 t], .agg #[.int .i64 p', .int .i64 l', .int .i64 r', .int .i64 a', .int .i64 b', .int .i64 s', .bool h', .int .i64 t'], .agg #[.int .i64 lo, .int .i64 hi], .int .i64 c] w fun e w' => e = .returned (.bool (goesB l r l' r' lo hi c)) ∧ Below w.heap.size w w' := by
  have key : ∀ y : Int, -200000 ≤ y ∧ y ≤ 200000 → (IntKind.i64.wrap (y * l') = y * l' ∧ IntKind.i64.wrap (y + c) = y + c ∧ IntKind.i64.wrap ((y + c) * l) = (y + c) * l ∧ IntKind.i64.wrap (y * l' - (y + c) * l) = y * l' - (y + c) * l ∧ IntKind.i64.wrap ((y + c) * r) = (y + c) * r ∧ IntKind.i64.wrap (y * r') = y * r' ∧ IntKind.i64.wrap ((y + c) * r - y * r') = (y + c) * r - y * r') := by
    intro y hy
    have m1 := mul_bd (x := y) (y := l') (A := 200000) (B := 3000) (by omega) (by omega) (by omega) (by omega)
    have m2 := mul_bd (x := y + c) (y := l) (A := 1300000000) (B := 3000) (by omega) (by omega) (by omega) (by omega)
    have m3 := mul_bd (x := y + c) (y := r) (A := 1300000000) (B := 3000) (by omega) (by omega) (by omega) (by omega)
    have m4 := mul_bd (x := y) (y := r') (A := 200000) (B := 3000) (by omega) (by omega) (by omega) (by omega)
    exact ⟨IntWalk.i64_in _ (by omega), IntWalk.i64_in _ (by omega), IntWalk.i64_in _ (by omega), IntWalk.i64_in _ (by omega), IntWalk.i64_in _ (by omega), IntWalk.i64_in _ (by omega), IntWalk.i64_in _ (by omega)⟩
  refine lies_core p l r a b s t h p' l' r' a' b' s' t' h' lo hi c w _ _ _ _ _ (Lib.hid ?_) (Lib.hid (key lo hlo)) (Lib.hid (key hi hhi))
  rw [goes_iff]
  unfold outN
  rw [Bool.eq_iff_iff]
  simp only [Bool.and_eq_true, decide_eq_true_eq]
  omega
end Go.Proofs.Ytloleaahelmdjaa
