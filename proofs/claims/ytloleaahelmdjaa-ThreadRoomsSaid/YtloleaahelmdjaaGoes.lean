/- The contract of acmeref01.Goes: whether a screw goes into a nut. Made by tools/gen_refroom.py. -/
import Derived.Test.YtloleaahelmdjaaRefRoom
namespace Go.Proofs.Ytloleaahelmdjaa
open Go.RowKit
set_option linter.unusedVariables false
set_option linter.unusedSimpArgs false

set_option maxHeartbeats 4000000 in
theorem goes_core (p l r a b s t : Int) (h : Bool) (p' l' r' a' b' s' t' : Int) (h' : Bool) (lo hi c : Int) (w : World) (o1 o2 o3 o4 : Int) (G : Bool) (HG : Hid ((decide (o1 ≤ 0) && decide (o2 ≤ 0) && decide (o3 ≤ 0) && decide (o4 ≤ 0)) = G))
    (K1 : Hid (∀ w : World, Calls Try.prog 68 #[.agg #[.int .i64 p, .int .i64 l, .int .i64 r, .int .i64 a, .int .i64 b, .int .i64 s, .bool h, .int .i64 t], .agg #[.int .i64 p', .int .i64 l', .int .i64 r', .int .i64 a', .int .i64 b', .int .i64 s', .bool h', .int .i64 t'], .int .i64 c, .int .i64 lo, .int .i64 lo] w fun e w' => e = .returned (.int .i64 o1) ∧ Below w.heap.size w w')) (K2 : Hid (∀ w : World, Calls Try.prog 68 #[.agg #[.int .i64 p, .int .i64 l, .int .i64 r, .int .i64 a, .int .i64 b, .int .i64 s, .bool h, .int .i64 t], .agg #[.int .i64 p', .int .i64 l', .int .i64 r', .int .i64 a', .int .i64 b', .int .i64 s', .bool h', .int .i64 t'], .int .i64 c, .int .i64 lo, .int .i64 hi] w fun e w' => e = .returned (.int .i64 o2) ∧ Below w.heap.size w w')) (K3 : Hid (∀ w : World, Calls Try.prog 68 #[.agg #[.int .i64 p, .int .i64 l, .int .i64 r, .int .i64 a, .int .i64 b, .int .i64 s, .bool h, .int .i64 t], .agg #[.int .i64 p', .int .i64 l', .int .i64 r', .int .i64 a', .int .i64 b', .int .i64 s', .bool h', .int .i64 t'], .int .i64 c, .int .i64 hi, .int .i64 lo] w fun e w' => e = .returned (.int .i64 o3) ∧ Below w.heap.size w w')) (K4 : Hid (∀ w : World, Calls Try.prog 68 #[.agg #[.int .i64 p, .int .i64 l, .int .i64 r, .int .i64 a, .int .i64 b, .int .i64 s, .bool h, .int .i64 t], .agg #[.int .i64 p', .int .i64 l', .int .i64 r', .int .i64 a', .int .i64 b', .int .i64 s', .bool h', .int .i64 t'], .int .i64 c, .int .i64 hi, .int .i64 hi] w fun e w' => e = .returned (.int .i64 o4) ∧ Below w.heap.size w w')) :
    Calls Try.prog 54 #[.agg #[.int .i64 p, .int .i64 l, .int .i64 r, .int .i64 a, .int .i64 b, .int .i64 s, .bool h, .int .i64 t], .agg #[.int .i64 p', .int .i64 l', .int .i64 r', .int .i64 a', .int .i64 b', .int .i64 s', .bool h', .int .i64 t'], .agg #[.int .i64 lo, .int .i64 hi], .int .i64 c] w fun e w' => e = .returned (.bool G) ∧ Below w.heap.size w w' := by
  go_enter Try.func54, Try.ntmps54
  go_wp2
  go_loopw [10] (fun i wr => ∃ n : Int, i = .int .i64 n ∧ (n = 0 ∨ n = 1 ∨ n = 2) ∧ Hid ((n ≠ 0 → o1 ≤ 0 ∧ o2 ≤ 0) ∧ (n = 2 → o3 ≤ 0 ∧ o4 ≤ 0)) ∧ Hid (Box wr w.heap.size #[.int .i64 p, .int .i64 l, .int .i64 r, .int .i64 a, .int .i64 b, .int .i64 s, .bool h, .int .i64 t] ∧ Box wr (w.heap.size + 1) #[.int .i64 p', .int .i64 l', .int .i64 r', .int .i64 a', .int .i64 b', .int .i64 s', .bool h', .int .i64 t'] ∧ Box wr (w.heap.size + 1 + 1 + 1) #[.int .i64 lo, .int .i64 hi] ∧ Below w.heap.size w wr)) (fun i _ => 2 - (intOf i).toNat)
  case atStart => exact ⟨0, rfl, by omega, Lib.hid ⟨fun h => absurd rfl h, fun h => absurd h (by omega)⟩, Lib.hid ⟨Box.alloc (Box.alloc (Box.alloc (Box.new w _ _) _) _) _, Box.alloc (Box.alloc (Box.newAt (w.alloc _) _ _ (by simp)) _) _, Box.newAt (((w.alloc _).alloc _).alloc _) _ _ (by simp), by go_grown⟩⟩
  case round =>
    obtain ⟨n, rfl, hn, hn2, hw1⟩ := hrel
    rcases hn with rfl | rfl | rfl
    · clear hn2
      obtain ⟨Z1, Z2, Z3, hB⟩ := hw1.out
      have c1 := Z1.2.1
      have c2 := Z2.2.1
      have c3 := Z3.2.1
      have l3 := Z3.1
      clear Z1 Z2 Z3 hB
      go_wp2
      clear c1 c2 c3 l3
      obtain ⟨wo, hwo⟩ : ∃ wo : World, wo = wr := ⟨_, rfl⟩
      subst hwo
      go_loopw [11] (fun k wr => ∃ m : Int, k = .int .i64 m ∧ (m = 0 ∨ m = 1 ∨ m = 2) ∧ Hid ((m ≠ 0 → o1 ≤ 0) ∧ (m = 2 → o2 ≤ 0)) ∧ Hid (Box wr w.heap.size #[.int .i64 p, .int .i64 l, .int .i64 r, .int .i64 a, .int .i64 b, .int .i64 s, .bool h, .int .i64 t] ∧ Box wr (w.heap.size + 1) #[.int .i64 p', .int .i64 l', .int .i64 r', .int .i64 a', .int .i64 b', .int .i64 s', .bool h', .int .i64 t'] ∧ Box wr (w.heap.size + 1 + 1 + 1) #[.int .i64 lo, .int .i64 hi] ∧ Below w.heap.size w wr)) (fun k _ => 2 - (intOf k).toNat)
      case atStart => exact ⟨0, rfl, by omega, Lib.hid ⟨fun h => absurd rfl h, fun h => absurd h (by omega)⟩, hw1⟩
      case round =>
        obtain ⟨m, rfl, hm, hm2, hw2⟩ := hrel
        rcases hm with rfl | rfl | rfl
        · clear hm2
          by_cases ho : o1 ≤ 0
          · have d1 : decide (0 < o1) = false := decide_eq_false (by omega)
            obtain ⟨Z1, Z2, Z3, hB⟩ := hw2.out
            have q1 := fun d os => (Z1.regrown d os).2.1
            have q2 := fun d os => (Z2.regrown d os).2.1
            have q3 := fun d os => (Z3.regrown d os).2.1
            have kc := fun d os => (K1.out (Go.Sort.grow (redrawn wr d) os)).regrown_of
            have hsX := hB.size
            have HZ := hw2
            clear hw2 Z1 Z2 Z3
            go_wp2
            refine wp_region_quiet_below (by kernel_rfl) (by kernel_rfl) ?_
            repeat ((with_reducible refine wpQuiet_step (fun K hK => ?_)); go_simp; first | ((with_reducible refine hK _ ?_); clear hK K) | (apply Exists.intro; refine ⟨fun _ => ?_, hK _ ?_⟩; (go_at_call 68; with_reducible exact kc _ _); clear hK K))
            with_reducible refine wpQuiet_nil ?_
            intro w9 hw'
            obtain ⟨⟨dq, osq⟩, hw''⟩ := hw'
            have hb9 : Below wr.heap.size wr w9 := by rw [hw'']; exact below_regrown wr dq osq
            have HW : Hid (Box w9 w.heap.size #[.int .i64 p, .int .i64 l, .int .i64 r, .int .i64 a, .int .i64 b, .int .i64 s, .bool h, .int .i64 t] ∧ Box w9 (w.heap.size + 1) #[.int .i64 p', .int .i64 l', .int .i64 r', .int .i64 a', .int .i64 b', .int .i64 s', .bool h', .int .i64 t'] ∧ Box w9 (w.heap.size + 1 + 1 + 1) #[.int .i64 lo, .int .i64 hi] ∧ Below w.heap.size w w9) := Lib.hid ⟨HZ.out.1.below hb9, HZ.out.2.1.below hb9, HZ.out.2.2.1.below hb9, stepB hB hb9⟩
            clear hw'' hb9 q1 q2 q3 kc hB hsX HZ
            go_wp2
            go_roundw
            case rel => exact ⟨1, rfl, by omega, Lib.hid ⟨fun _ => ho, fun h => absurd h (by omega)⟩, HW⟩
            case measure => simp [intOf]
          · have d1 : decide (0 < o1) = true := decide_eq_true (by omega)
            obtain ⟨Z1, Z2, Z3, hB⟩ := hw2.out
            have q1 := fun d os => (Z1.regrown d os).2.1
            have q2 := fun d os => (Z2.regrown d os).2.1
            have q3 := fun d os => (Z3.regrown d os).2.1
            have kc := fun d os => (K1.out (Go.Sort.grow (redrawn wr d) os)).regrown_of
            have hsX := hB.size
            have HZ := hw2
            clear hw2 Z1 Z2 Z3
            go_wp2
            refine wp_region_quiet_below (by kernel_rfl) (by kernel_rfl) ?_
            repeat ((with_reducible refine wpQuiet_step (fun K hK => ?_)); go_simp; first | ((with_reducible refine hK _ ?_); clear hK K) | (apply Exists.intro; refine ⟨fun _ => ?_, hK _ ?_⟩; (go_at_call 68; with_reducible exact kc _ _); clear hK K))
            with_reducible refine wpQuiet_nil ?_
            intro w9 hw'
            obtain ⟨⟨dq, osq⟩, hw''⟩ := hw'
            have hb9 : Below wr.heap.size wr w9 := by rw [hw'']; exact below_regrown wr dq osq
            have HW : Hid (Box w9 w.heap.size #[.int .i64 p, .int .i64 l, .int .i64 r, .int .i64 a, .int .i64 b, .int .i64 s, .bool h, .int .i64 t] ∧ Box w9 (w.heap.size + 1) #[.int .i64 p', .int .i64 l', .int .i64 r', .int .i64 a', .int .i64 b', .int .i64 s', .bool h', .int .i64 t'] ∧ Box w9 (w.heap.size + 1 + 1 + 1) #[.int .i64 lo, .int .i64 hi] ∧ Below w.heap.size w w9) := Lib.hid ⟨HZ.out.1.below hb9, HZ.out.2.1.below hb9, HZ.out.2.2.1.below hb9, stepB hB hb9⟩
            clear hw'' hb9 q1 q2 q3 kc hB hsX HZ
            go_wp2
            go_returns
            exact ⟨ret_bool (by have := HG.out; rw [decide_eq_false (show ¬ o1 ≤ 0 by omega)] at this; simpa using this.symm), HW.out.2.2.2⟩
        · have PA := hm2.out.1 (by omega)
          clear hm2
          by_cases ho : o2 ≤ 0
          · have d1 : decide (0 < o2) = false := decide_eq_false (by omega)
            obtain ⟨Z1, Z2, Z3, hB⟩ := hw2.out
            have q1 := fun d os => (Z1.regrown d os).2.1
            have q2 := fun d os => (Z2.regrown d os).2.1
            have q3 := fun d os => (Z3.regrown d os).2.1
            have kc := fun d os => (K2.out (Go.Sort.grow (redrawn wr d) os)).regrown_of
            have hsX := hB.size
            have HZ := hw2
            clear hw2 Z1 Z2 Z3
            go_wp2
            refine wp_region_quiet_below (by kernel_rfl) (by kernel_rfl) ?_
            repeat ((with_reducible refine wpQuiet_step (fun K hK => ?_)); go_simp; first | ((with_reducible refine hK _ ?_); clear hK K) | (apply Exists.intro; refine ⟨fun _ => ?_, hK _ ?_⟩; (go_at_call 68; with_reducible exact kc _ _); clear hK K))
            with_reducible refine wpQuiet_nil ?_
            intro w9 hw'
            obtain ⟨⟨dq, osq⟩, hw''⟩ := hw'
            have hb9 : Below wr.heap.size wr w9 := by rw [hw'']; exact below_regrown wr dq osq
            have HW : Hid (Box w9 w.heap.size #[.int .i64 p, .int .i64 l, .int .i64 r, .int .i64 a, .int .i64 b, .int .i64 s, .bool h, .int .i64 t] ∧ Box w9 (w.heap.size + 1) #[.int .i64 p', .int .i64 l', .int .i64 r', .int .i64 a', .int .i64 b', .int .i64 s', .bool h', .int .i64 t'] ∧ Box w9 (w.heap.size + 1 + 1 + 1) #[.int .i64 lo, .int .i64 hi] ∧ Below w.heap.size w w9) := Lib.hid ⟨HZ.out.1.below hb9, HZ.out.2.1.below hb9, HZ.out.2.2.1.below hb9, stepB hB hb9⟩
            clear hw'' hb9 q1 q2 q3 kc hB hsX HZ
            go_wp2
            go_roundw
            case rel => exact ⟨2, rfl, by omega, Lib.hid ⟨fun _ => PA, fun _ => ho⟩, HW⟩
            case measure => simp [intOf]
          · have d1 : decide (0 < o2) = true := decide_eq_true (by omega)
            obtain ⟨Z1, Z2, Z3, hB⟩ := hw2.out
            have q1 := fun d os => (Z1.regrown d os).2.1
            have q2 := fun d os => (Z2.regrown d os).2.1
            have q3 := fun d os => (Z3.regrown d os).2.1
            have kc := fun d os => (K2.out (Go.Sort.grow (redrawn wr d) os)).regrown_of
            have hsX := hB.size
            have HZ := hw2
            clear hw2 Z1 Z2 Z3
            go_wp2
            refine wp_region_quiet_below (by kernel_rfl) (by kernel_rfl) ?_
            repeat ((with_reducible refine wpQuiet_step (fun K hK => ?_)); go_simp; first | ((with_reducible refine hK _ ?_); clear hK K) | (apply Exists.intro; refine ⟨fun _ => ?_, hK _ ?_⟩; (go_at_call 68; with_reducible exact kc _ _); clear hK K))
            with_reducible refine wpQuiet_nil ?_
            intro w9 hw'
            obtain ⟨⟨dq, osq⟩, hw''⟩ := hw'
            have hb9 : Below wr.heap.size wr w9 := by rw [hw'']; exact below_regrown wr dq osq
            have HW : Hid (Box w9 w.heap.size #[.int .i64 p, .int .i64 l, .int .i64 r, .int .i64 a, .int .i64 b, .int .i64 s, .bool h, .int .i64 t] ∧ Box w9 (w.heap.size + 1) #[.int .i64 p', .int .i64 l', .int .i64 r', .int .i64 a', .int .i64 b', .int .i64 s', .bool h', .int .i64 t'] ∧ Box w9 (w.heap.size + 1 + 1 + 1) #[.int .i64 lo, .int .i64 hi] ∧ Below w.heap.size w w9) := Lib.hid ⟨HZ.out.1.below hb9, HZ.out.2.1.below hb9, HZ.out.2.2.1.below hb9, stepB hB hb9⟩
            clear hw'' hb9 q1 q2 q3 kc hB hsX HZ
            go_wp2
            go_returns
            exact ⟨ret_bool (by have := HG.out; rw [decide_eq_false (show ¬ o2 ≤ 0 by omega)] at this; simpa using this.symm), HW.out.2.2.2⟩
        · go_wp2
          go_roundw
          case rel => exact ⟨1, rfl, by omega, Lib.hid ⟨fun _ => ⟨(hm2.out.1 (by omega)), (hm2.out.2 (by omega))⟩, fun h => absurd h (by omega)⟩, hw2⟩
          case measure => simp [intOf]
    · 
      obtain ⟨Z1, Z2, Z3, hB⟩ := hw1.out
      have c1 := Z1.2.1
      have c2 := Z2.2.1
      have c3 := Z3.2.1
      have l3 := Z3.1
      clear Z1 Z2 Z3 hB
      go_wp2
      clear c1 c2 c3 l3
      obtain ⟨wo, hwo⟩ : ∃ wo : World, wo = wr := ⟨_, rfl⟩
      subst hwo
      go_loopw [11] (fun k wr => ∃ m : Int, k = .int .i64 m ∧ (m = 0 ∨ m = 1 ∨ m = 2) ∧ Hid ((m ≠ 0 → o3 ≤ 0) ∧ (m = 2 → o4 ≤ 0)) ∧ Hid (Box wr w.heap.size #[.int .i64 p, .int .i64 l, .int .i64 r, .int .i64 a, .int .i64 b, .int .i64 s, .bool h, .int .i64 t] ∧ Box wr (w.heap.size + 1) #[.int .i64 p', .int .i64 l', .int .i64 r', .int .i64 a', .int .i64 b', .int .i64 s', .bool h', .int .i64 t'] ∧ Box wr (w.heap.size + 1 + 1 + 1) #[.int .i64 lo, .int .i64 hi] ∧ Below w.heap.size w wr)) (fun k _ => 2 - (intOf k).toNat)
      case atStart => exact ⟨0, rfl, by omega, Lib.hid ⟨fun h => absurd rfl h, fun h => absurd h (by omega)⟩, hw1⟩
      case round =>
        obtain ⟨m, rfl, hm, hm2, hw2⟩ := hrel
        rcases hm with rfl | rfl | rfl
        · clear hm2
          by_cases ho : o3 ≤ 0
          · have d1 : decide (0 < o3) = false := decide_eq_false (by omega)
            obtain ⟨Z1, Z2, Z3, hB⟩ := hw2.out
            have q1 := fun d os => (Z1.regrown d os).2.1
            have q2 := fun d os => (Z2.regrown d os).2.1
            have q3 := fun d os => (Z3.regrown d os).2.1
            have kc := fun d os => (K3.out (Go.Sort.grow (redrawn wr d) os)).regrown_of
            have hsX := hB.size
            have HZ := hw2
            clear hw2 Z1 Z2 Z3
            go_wp2
            refine wp_region_quiet_below (by kernel_rfl) (by kernel_rfl) ?_
            repeat ((with_reducible refine wpQuiet_step (fun K hK => ?_)); go_simp; first | ((with_reducible refine hK _ ?_); clear hK K) | (apply Exists.intro; refine ⟨fun _ => ?_, hK _ ?_⟩; (go_at_call 68; with_reducible exact kc _ _); clear hK K))
            with_reducible refine wpQuiet_nil ?_
            intro w9 hw'
            obtain ⟨⟨dq, osq⟩, hw''⟩ := hw'
            have hb9 : Below wr.heap.size wr w9 := by rw [hw'']; exact below_regrown wr dq osq
            have HW : Hid (Box w9 w.heap.size #[.int .i64 p, .int .i64 l, .int .i64 r, .int .i64 a, .int .i64 b, .int .i64 s, .bool h, .int .i64 t] ∧ Box w9 (w.heap.size + 1) #[.int .i64 p', .int .i64 l', .int .i64 r', .int .i64 a', .int .i64 b', .int .i64 s', .bool h', .int .i64 t'] ∧ Box w9 (w.heap.size + 1 + 1 + 1) #[.int .i64 lo, .int .i64 hi] ∧ Below w.heap.size w w9) := Lib.hid ⟨HZ.out.1.below hb9, HZ.out.2.1.below hb9, HZ.out.2.2.1.below hb9, stepB hB hb9⟩
            clear hw'' hb9 q1 q2 q3 kc hB hsX HZ
            go_wp2
            go_roundw
            case rel => exact ⟨1, rfl, by omega, Lib.hid ⟨fun _ => ho, fun h => absurd h (by omega)⟩, HW⟩
            case measure => simp [intOf]
          · have d1 : decide (0 < o3) = true := decide_eq_true (by omega)
            obtain ⟨Z1, Z2, Z3, hB⟩ := hw2.out
            have q1 := fun d os => (Z1.regrown d os).2.1
            have q2 := fun d os => (Z2.regrown d os).2.1
            have q3 := fun d os => (Z3.regrown d os).2.1
            have kc := fun d os => (K3.out (Go.Sort.grow (redrawn wr d) os)).regrown_of
            have hsX := hB.size
            have HZ := hw2
            clear hw2 Z1 Z2 Z3
            go_wp2
            refine wp_region_quiet_below (by kernel_rfl) (by kernel_rfl) ?_
            repeat ((with_reducible refine wpQuiet_step (fun K hK => ?_)); go_simp; first | ((with_reducible refine hK _ ?_); clear hK K) | (apply Exists.intro; refine ⟨fun _ => ?_, hK _ ?_⟩; (go_at_call 68; with_reducible exact kc _ _); clear hK K))
            with_reducible refine wpQuiet_nil ?_
            intro w9 hw'
            obtain ⟨⟨dq, osq⟩, hw''⟩ := hw'
            have hb9 : Below wr.heap.size wr w9 := by rw [hw'']; exact below_regrown wr dq osq
            have HW : Hid (Box w9 w.heap.size #[.int .i64 p, .int .i64 l, .int .i64 r, .int .i64 a, .int .i64 b, .int .i64 s, .bool h, .int .i64 t] ∧ Box w9 (w.heap.size + 1) #[.int .i64 p', .int .i64 l', .int .i64 r', .int .i64 a', .int .i64 b', .int .i64 s', .bool h', .int .i64 t'] ∧ Box w9 (w.heap.size + 1 + 1 + 1) #[.int .i64 lo, .int .i64 hi] ∧ Below w.heap.size w w9) := Lib.hid ⟨HZ.out.1.below hb9, HZ.out.2.1.below hb9, HZ.out.2.2.1.below hb9, stepB hB hb9⟩
            clear hw'' hb9 q1 q2 q3 kc hB hsX HZ
            go_wp2
            go_returns
            exact ⟨ret_bool (by have := HG.out; rw [decide_eq_false (show ¬ o3 ≤ 0 by omega)] at this; simpa using this.symm), HW.out.2.2.2⟩
        · have PA := hm2.out.1 (by omega)
          clear hm2
          by_cases ho : o4 ≤ 0
          · have d1 : decide (0 < o4) = false := decide_eq_false (by omega)
            obtain ⟨Z1, Z2, Z3, hB⟩ := hw2.out
            have q1 := fun d os => (Z1.regrown d os).2.1
            have q2 := fun d os => (Z2.regrown d os).2.1
            have q3 := fun d os => (Z3.regrown d os).2.1
            have kc := fun d os => (K4.out (Go.Sort.grow (redrawn wr d) os)).regrown_of
            have hsX := hB.size
            have HZ := hw2
            clear hw2 Z1 Z2 Z3
            go_wp2
            refine wp_region_quiet_below (by kernel_rfl) (by kernel_rfl) ?_
            repeat ((with_reducible refine wpQuiet_step (fun K hK => ?_)); go_simp; first | ((with_reducible refine hK _ ?_); clear hK K) | (apply Exists.intro; refine ⟨fun _ => ?_, hK _ ?_⟩; (go_at_call 68; with_reducible exact kc _ _); clear hK K))
            with_reducible refine wpQuiet_nil ?_
            intro w9 hw'
            obtain ⟨⟨dq, osq⟩, hw''⟩ := hw'
            have hb9 : Below wr.heap.size wr w9 := by rw [hw'']; exact below_regrown wr dq osq
            have HW : Hid (Box w9 w.heap.size #[.int .i64 p, .int .i64 l, .int .i64 r, .int .i64 a, .int .i64 b, .int .i64 s, .bool h, .int .i64 t] ∧ Box w9 (w.heap.size + 1) #[.int .i64 p', .int .i64 l', .int .i64 r', .int .i64 a', .int .i64 b', .int .i64 s', .bool h', .int .i64 t'] ∧ Box w9 (w.heap.size + 1 + 1 + 1) #[.int .i64 lo, .int .i64 hi] ∧ Below w.heap.size w w9) := Lib.hid ⟨HZ.out.1.below hb9, HZ.out.2.1.below hb9, HZ.out.2.2.1.below hb9, stepB hB hb9⟩
            clear hw'' hb9 q1 q2 q3 kc hB hsX HZ
            go_wp2
            go_roundw
            case rel => exact ⟨2, rfl, by omega, Lib.hid ⟨fun _ => PA, fun _ => ho⟩, HW⟩
            case measure => simp [intOf]
          · have d1 : decide (0 < o4) = true := decide_eq_true (by omega)
            obtain ⟨Z1, Z2, Z3, hB⟩ := hw2.out
            have q1 := fun d os => (Z1.regrown d os).2.1
            have q2 := fun d os => (Z2.regrown d os).2.1
            have q3 := fun d os => (Z3.regrown d os).2.1
            have kc := fun d os => (K4.out (Go.Sort.grow (redrawn wr d) os)).regrown_of
            have hsX := hB.size
            have HZ := hw2
            clear hw2 Z1 Z2 Z3
            go_wp2
            refine wp_region_quiet_below (by kernel_rfl) (by kernel_rfl) ?_
            repeat ((with_reducible refine wpQuiet_step (fun K hK => ?_)); go_simp; first | ((with_reducible refine hK _ ?_); clear hK K) | (apply Exists.intro; refine ⟨fun _ => ?_, hK _ ?_⟩; (go_at_call 68; with_reducible exact kc _ _); clear hK K))
            with_reducible refine wpQuiet_nil ?_
            intro w9 hw'
            obtain ⟨⟨dq, osq⟩, hw''⟩ := hw'
            have hb9 : Below wr.heap.size wr w9 := by rw [hw'']; exact below_regrown wr dq osq
            have HW : Hid (Box w9 w.heap.size #[.int .i64 p, .int .i64 l, .int .i64 r, .int .i64 a, .int .i64 b, .int .i64 s, .bool h, .int .i64 t] ∧ Box w9 (w.heap.size + 1) #[.int .i64 p', .int .i64 l', .int .i64 r', .int .i64 a', .int .i64 b', .int .i64 s', .bool h', .int .i64 t'] ∧ Box w9 (w.heap.size + 1 + 1 + 1) #[.int .i64 lo, .int .i64 hi] ∧ Below w.heap.size w w9) := Lib.hid ⟨HZ.out.1.below hb9, HZ.out.2.1.below hb9, HZ.out.2.2.1.below hb9, stepB hB hb9⟩
            clear hw'' hb9 q1 q2 q3 kc hB hsX HZ
            go_wp2
            go_returns
            exact ⟨ret_bool (by have := HG.out; rw [decide_eq_false (show ¬ o4 ≤ 0 by omega)] at this; simpa using this.symm), HW.out.2.2.2⟩
        · go_wp2
          go_roundw
          case rel => exact ⟨2, rfl, by omega, Lib.hid ⟨fun _ => (hn2.out.1 (by omega)), fun _ => ⟨(hm2.out.1 (by omega)), (hm2.out.2 (by omega))⟩⟩, hw2⟩
          case measure => simp [intOf]
    · obtain ⟨p1, p2⟩ := hn2.out
      obtain ⟨x1, x2⟩ := p1 (by omega)
      obtain ⟨x3, x4⟩ := p2 rfl
      have HT : Hid (G = true) := by have := HG.out; rw [decide_eq_true x1, decide_eq_true x2, decide_eq_true x3, decide_eq_true x4] at this; exact Lib.hid (by simpa using this.symm)
      clear p1 p2 x1 x2 x3 x4 hn2
      go_wp2
      go_returns
      exact ⟨ret_bool HT.out.symm, hw1.out.2.2.2⟩

theorem goes_any (p l r a b s t : Int) (h : Bool) (p' l' r' a' b' s' t' : Int) (h' : Bool) (lo hi c : Int) (w : World) (hl : 0 ≤ l ∧ l ≤ 3000) (hr : 0 ≤ r ∧ r ≤ 3000) (hl' : 0 ≤ l' ∧ l' ≤ 3000) (hr' : 0 ≤ r' ∧ r' ≤ 3000) (hc : 0 ≤ c ∧ c ≤ 1200000000) (hlo : -200000 ≤ lo ∧ lo ≤ 200000) (hhi : -200000 ≤ hi ∧ hi ≤ 200000) :
    Calls Try.prog 54 #[.agg #[.int .i64 p, .int .i64 l, .int .i64 r, .int .i64 a, .int .i64 b, .int .i64 s, .bool h, .int .i64 t], .agg #[.int .i64 p', .int .i64 l', .int .i64 r', .int .i64 a', .int .i64 b', .int .i64 s', .bool h', .int .i64 t'], .agg #[.int .i64 lo, .int .i64 hi], .int .i64 c] w fun e w' => e = .returned (.bool (goesB l r l' r' lo hi c)) ∧ Below w.heap.size w w' :=
  goes_core p l r a b s t h p' l' r' a' b' s' t' h' lo hi c w _ _ _ _ _ (Lib.hid (goes_iff l r l' r' lo hi c).symm) (Lib.hid (fun w => refOut_any p l r a b s t h p' l' r' a' b' s' t' h' c lo lo w hl hr hl' hr' hc hlo hlo)) (Lib.hid (fun w => refOut_any p l r a b s t h p' l' r' a' b' s' t' h' c lo hi w hl hr hl' hr' hc hlo hhi)) (Lib.hid (fun w => refOut_any p l r a b s t h p' l' r' a' b' s' t' h' c hi lo w hl hr hl' hr' hc hhi hlo)) (Lib.hid (fun w => refOut_any p l r a b s t h p' l' r' a' b' s' t' h' c hi hi w hl hr hl' hr' hc hhi hhi))
end Go.Proofs.Ytloleaahelmdjaa
