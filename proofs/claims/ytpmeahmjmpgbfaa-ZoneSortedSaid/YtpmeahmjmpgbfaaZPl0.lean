/- ZonePlated: inside and the closures. Made by tools/gen_zplated.py. -/
import Derived.Test.YtpmeahmjmpgbfaaZKnown
import Derived.Test.YtpmeahmjmpgbfaaZRef
import Derived.Test.YtpmeahmjmpgbfaaOpenZ
import Derived.Test.YtpmeahmjmpgbfaaFloat1
import Derived.Test.YtpmeahmjmpgbfaaFloat2s
namespace Go.Proofs.Ytpmeahmjmpgbfaa
open Go.ChangeShapes Go.WideShapes Go.ChangeAt Go.RowKit
set_option linter.unusedVariables false
set_option linter.unusedSimpArgs false

set_option maxRecDepth 100000 in
set_option maxHeartbeats 4000000 in
theorem inside_way (F : Nat → Int) (lo hi n : Int) (T1 : n.tmod (hi - lo + 1) = F 0) (T2 : n % (hi - lo + 1) = F 0) (D : ¬ hi - lo + 1 = 0) (W1 : IntKind.i64.wrap (hi - lo) = hi - lo) (W2 : IntKind.i64.wrap (hi - lo + 1) = hi - lo + 1) (W3 : IntKind.i64.wrap (F 0) = F 0) (W4 : IntKind.i64.wrap (lo + F 0) = lo + F 0) (w : World) :
    Calls Try.prog 61 #[.agg #[.int .i64 lo, .int .i64 hi], .int .i64 n] w fun e w' => e = .returned (.int .i64 (lo + F 0)) ∧ Below w.heap.size w w' := by
  go_enter Try.func61, Try.ntmps61
  go_wp2
  have Yb2 : Box (w.alloc (.cells #[.int .i64 lo, .int .i64 hi] 24)) w.heap.size #[.int .i64 lo, .int .i64 hi] := (Box.new w _ _)
  have hBX : Below w.heap.size w (w.alloc (.cells #[.int .i64 lo, .int .i64 hi] 24)) := by go_grown
  generalize (w.alloc (.cells #[.int .i64 lo, .int .i64 hi] 24)) = XW1 at *
  have hsX := hBX.size
  have rd2 := fun dz os => (Yb2.regrown dz os).2.1
  clear Yb2
  refine wp_region_quiet_below (by kernel_rfl) (by kernel_rfl) ?_
  repeat ((with_reducible refine wpQuiet_step (fun K hK => ?_)); go_simp; first | ((with_reducible refine hK _ ?_); clear hK K) | (apply Exists.intro; refine ⟨fun _ => ?_, hK _ ?_⟩; fail; clear hK K))
  with_reducible refine wpQuiet_nil ?_
  intro w1 hw'
  obtain ⟨⟨dq, osq⟩, hw''⟩ := hw'
  have hb1 : Below XW1.heap.size XW1 w1 := by rw [hw'']; exact below_regrown XW1 dq osq
  have hB1 : Below w.heap.size w w1 := stepB hBX hb1
  have hs1 := hB1.size
  clear hw'' hb1 hBX hsX rd2
  go_wp2
  go_returns
  exact ⟨rfl, hB1⟩

theorem inside_any (lo hi n : Int) (w : World) (h : lo ≤ hi) (n0 : 0 ≤ n) (b0 : -1000000000000 ≤ lo) (b1 : hi ≤ 1000000000000) :
    Calls Try.prog 61 #[.agg #[.int .i64 lo, .int .i64 hi], .int .i64 n] w fun e w' => e = .returned (.int .i64 (lo + n % (hi - lo + 1))) ∧ Below w.heap.size w w' := by
  have m0 := Int.emod_nonneg n (b := hi - lo + 1) (by omega)
  have m1 := Int.emod_lt_of_pos n (b := hi - lo + 1) (by omega)
  exact inside_way (fun _ => n % (hi - lo + 1)) lo hi n (Int.tmod_eq_emod_of_nonneg n0) rfl (by omega) (IntWalk.i64_in _ (by omega)) (IntWalk.i64_in _ (by omega)) (IntWalk.i64_in _ (by omega)) (IntWalk.i64_in _ (by omega)) w

set_option maxRecDepth 100000 in
set_option maxHeartbeats 4000000 in
theorem plgrown_0 (x t t0 t1 n d : Int) (p q : Nat) (W1 : IntKind.i64.wrap (x * d) = x * d) (W2 : IntKind.i64.wrap (t * n) = t * n) (W3 : IntKind.i64.wrap (x * d + t * n) = x * d + t * n) (w : World) (X1 : Box w p #[.bool false]) (X2 : Box w q #[.int .i64 t0, .int .i64 t1, .int .i64 n, .int .i64 d]) :
    Calls Try.prog 62 #[.int .i64 x, .int .i64 t, .pointer (some ⟨p, 0, none⟩), .pointer (some ⟨q, 0, none⟩)] w fun e w' => e = .returned (.int .i64 (x * d + t * n)) ∧ Below w.heap.size w w' := by
  have cc2 := X1.2.1
  have ll2 := X1.1
  have cc3 := X2.2.1
  have ll3 := X2.1
  go_enter Try.func62, Try.ntmps62
  go_wp2
  go_returns
  exact ⟨rfl, (by go_grown)⟩

set_option maxRecDepth 100000 in
set_option maxHeartbeats 4000000 in
theorem plgrown_1 (x t t0 t1 n d : Int) (p q : Nat) (W1 : IntKind.i64.wrap (x * d) = x * d) (W2 : IntKind.i64.wrap (t * n) = t * n) (W3 : IntKind.i64.wrap (x * d - t * n) = x * d - t * n) (w : World) (X1 : Box w p #[.bool true]) (X2 : Box w q #[.int .i64 t0, .int .i64 t1, .int .i64 n, .int .i64 d]) :
    Calls Try.prog 62 #[.int .i64 x, .int .i64 t, .pointer (some ⟨p, 0, none⟩), .pointer (some ⟨q, 0, none⟩)] w fun e w' => e = .returned (.int .i64 (x * d - t * n)) ∧ Below w.heap.size w w' := by
  have cc2 := X1.2.1
  have ll2 := X1.1
  have cc3 := X2.2.1
  have ll3 := X2.1
  go_enter Try.func62, Try.ntmps62
  go_wp2
  go_returns
  exact ⟨rfl, (by go_grown)⟩

theorem plgrown_any (w : World) (nut : Bool) (x t t0 t1 n d g : Int) (p q : Nat) (HG : Hid (grw nut x t n d = g)) (HD : Hid ((-100000000 ≤ x ∧ x ≤ 100000000) ∧ (0 ≤ t ∧ t ≤ 10000) ∧ (1 ≤ n ∧ n ≤ 1000) ∧ (1 ≤ d ∧ d ≤ 1000))) (X1 : Box w p #[.bool nut]) (X2 : Box w q #[.int .i64 t0, .int .i64 t1, .int .i64 n, .int .i64 d]) :
    Calls Try.prog 62 #[.int .i64 x, .int .i64 t, .pointer (some ⟨p, 0, none⟩), .pointer (some ⟨q, 0, none⟩)] w fun e w' => e = .returned (.int .i64 g) ∧ Below w.heap.size w w' := by
  obtain ⟨h1, h2, h3, h4⟩ := HD.out
  obtain ⟨m1, m2, m3⟩ := grw_bd (nut := nut) h1 h2 h3 h4
  rw [← HG.out]
  unfold grw at m3 ⊢
  cases nut
  · rw [if_neg (by decide)] at m3 ⊢
    exact plgrown_0 x t t0 t1 n d p q (IntWalk.i64_in _ (by omega)) (IntWalk.i64_in _ (by omega)) (IntWalk.i64_in _ (by omega)) w X1 X2
  · rw [if_pos rfl] at m3 ⊢
    exact plgrown_1 x t t0 t1 n d p q (IntWalk.i64_in _ (by omega)) (IntWalk.i64_in _ (by omega)) (IntWalk.i64_in _ (by omega)) w X1 X2

set_option maxRecDepth 100000 in
set_option maxHeartbeats 4000000 in
theorem plok_0 (nut : Bool) (x t s0 s1 t0 t1 n d g : Int) (p8 p9 p10 p11 : Nat) (HG : Hid (grw nut x t n d = g)) (HD : Hid ((-100000000 ≤ x ∧ x ≤ 100000000) ∧ (0 ≤ t ∧ t ≤ 10000) ∧ (1 ≤ n ∧ n ≤ 1000) ∧ (1 ≤ d ∧ d ≤ 1000))) (W1 : IntKind.i64.wrap (s0 * d) = s0 * d) (W2 : IntKind.i64.wrap (s1 * d) = s1 * d) (h1 : decide (s0 * d ≤ g) = false) (w : World) (X11 : Box w p11 #[.func (.func 62) #[] #[.pointer (some ⟨p9, 0, none⟩), .pointer (some ⟨p10, 0, none⟩)]]) (X8 : Box w p8 #[.int .i64 s0, .int .i64 s1]) (X10 : Box w p10 #[.int .i64 t0, .int .i64 t1, .int .i64 n, .int .i64 d]) (X9 : Box w p9 #[.bool nut]) :
    Calls Try.prog 63 #[.int .i64 x, .int .i64 t, .pointer (some ⟨p11, 0, none⟩), .pointer (some ⟨p8, 0, none⟩), .pointer (some ⟨p10, 0, none⟩)] w fun e w' => e = .returned (.bool false) ∧ Below w.heap.size w w' := by
  go_enter Try.func63, Try.ntmps63
  go_wp2
  have Yb2 : Box w p11 #[.func (.func 62) #[] #[.pointer (some ⟨p9, 0, none⟩), .pointer (some ⟨p10, 0, none⟩)]] := X11
  have Yb3 : Box w p8 #[.int .i64 s0, .int .i64 s1] := X8
  have Yb4 : Box w p10 #[.int .i64 t0, .int .i64 t1, .int .i64 n, .int .i64 d] := X10
  have Yb9 : Box w p9 #[.bool nut] := X9
  have hBX : Below w.heap.size w w := by go_grown
  clear X11 X8 X10 X9
  have hsX := hBX.size
  have rd2 := fun dz os => (Yb2.regrown dz os).2.1
  have rd3 := fun dz os => (Yb3.regrown dz os).2.1
  have rd4 := fun dz os => (Yb4.regrown dz os).2.1
  have rd9 := fun dz os => (Yb9.regrown dz os).2.1
  have kc11 := fun dz os => (plgrown_any (Go.Sort.grow (redrawn w dz) os) nut x t t0 t1 n d g p9 p10 HG HD (Yb9.regrown dz os) (Yb4.regrown dz os)).regrown_of
  have Zb4 := Lib.hid Yb4
  have Zb9 := Lib.hid Yb9
  clear Yb2 Yb3 Yb4 Yb9
  refine wp_region_quiet_below (by kernel_rfl) (by kernel_rfl) ?_
  repeat ((with_reducible refine wpQuiet_step (fun K hK => ?_)); go_simp; first | ((with_reducible refine hK _ ?_); clear hK K) | (apply Exists.intro; refine ⟨fun _ => ?_, hK _ ?_⟩; (first | (go_at_call 62; with_reducible exact kc11 _ _)); clear hK K))
  with_reducible refine wpQuiet_nil ?_
  intro w1 hw'
  obtain ⟨⟨dq, osq⟩, hw''⟩ := hw'
  have hb1 : Below w.heap.size w w1 := by rw [hw'']; exact below_regrown w dq osq
  have Xb4_1 : Box w1 p10 #[.int .i64 t0, .int .i64 t1, .int .i64 n, .int .i64 d] := Zb4.out.below hb1
  have Xb9_1 : Box w1 p9 #[.bool nut] := Zb9.out.below hb1
  have hB1 : Below w.heap.size w w1 := stepB hBX hb1
  have hs1 := hB1.size
  clear hw'' hb1 hBX hsX rd2 rd3 rd4 rd9 kc11 Zb4 Zb9
  go_wp2
  go_returns
  exact ⟨rfl, hB1⟩

set_option maxRecDepth 100000 in
set_option maxHeartbeats 4000000 in
theorem plok_1 (nut : Bool) (x t s0 s1 t0 t1 n d g : Int) (p8 p9 p10 p11 : Nat) (HG : Hid (grw nut x t n d = g)) (HD : Hid ((-100000000 ≤ x ∧ x ≤ 100000000) ∧ (0 ≤ t ∧ t ≤ 10000) ∧ (1 ≤ n ∧ n ≤ 1000) ∧ (1 ≤ d ∧ d ≤ 1000))) (W1 : IntKind.i64.wrap (s0 * d) = s0 * d) (W2 : IntKind.i64.wrap (s1 * d) = s1 * d) (h1 : decide (s0 * d ≤ g) = true) (w : World) (X11 : Box w p11 #[.func (.func 62) #[] #[.pointer (some ⟨p9, 0, none⟩), .pointer (some ⟨p10, 0, none⟩)]]) (X8 : Box w p8 #[.int .i64 s0, .int .i64 s1]) (X10 : Box w p10 #[.int .i64 t0, .int .i64 t1, .int .i64 n, .int .i64 d]) (X9 : Box w p9 #[.bool nut]) :
    Calls Try.prog 63 #[.int .i64 x, .int .i64 t, .pointer (some ⟨p11, 0, none⟩), .pointer (some ⟨p8, 0, none⟩), .pointer (some ⟨p10, 0, none⟩)] w fun e w' => e = .returned (.bool (decide (g ≤ s1 * d))) ∧ Below w.heap.size w w' := by
  go_enter Try.func63, Try.ntmps63
  go_wp2
  have Yb2 : Box w p11 #[.func (.func 62) #[] #[.pointer (some ⟨p9, 0, none⟩), .pointer (some ⟨p10, 0, none⟩)]] := X11
  have Yb3 : Box w p8 #[.int .i64 s0, .int .i64 s1] := X8
  have Yb4 : Box w p10 #[.int .i64 t0, .int .i64 t1, .int .i64 n, .int .i64 d] := X10
  have Yb9 : Box w p9 #[.bool nut] := X9
  have hBX : Below w.heap.size w w := by go_grown
  clear X11 X8 X10 X9
  have hsX := hBX.size
  have rd2 := fun dz os => (Yb2.regrown dz os).2.1
  have rd3 := fun dz os => (Yb3.regrown dz os).2.1
  have rd4 := fun dz os => (Yb4.regrown dz os).2.1
  have rd9 := fun dz os => (Yb9.regrown dz os).2.1
  have kc11 := fun dz os => (plgrown_any (Go.Sort.grow (redrawn w dz) os) nut x t t0 t1 n d g p9 p10 HG HD (Yb9.regrown dz os) (Yb4.regrown dz os)).regrown_of
  have kc23 := fun dz os => (plgrown_any (Go.Sort.grow (redrawn w dz) os) nut x t t0 t1 n d g p9 p10 HG HD (Yb9.regrown dz os) (Yb4.regrown dz os)).regrown_of
  have Zb4 := Lib.hid Yb4
  have Zb9 := Lib.hid Yb9
  clear Yb2 Yb3 Yb4 Yb9
  refine wp_region_quiet_below (by kernel_rfl) (by kernel_rfl) ?_
  repeat ((with_reducible refine wpQuiet_step (fun K hK => ?_)); go_simp; first | ((with_reducible refine hK _ ?_); clear hK K) | (apply Exists.intro; refine ⟨fun _ => ?_, hK _ ?_⟩; (first | (go_at_call 62; with_reducible exact kc11 _ _) | (go_at_call 62; with_reducible exact kc23 _ _)); clear hK K))
  with_reducible refine wpQuiet_nil ?_
  intro w1 hw'
  obtain ⟨⟨dq, osq⟩, hw''⟩ := hw'
  have hb1 : Below w.heap.size w w1 := by rw [hw'']; exact below_regrown w dq osq
  have Xb4_1 : Box w1 p10 #[.int .i64 t0, .int .i64 t1, .int .i64 n, .int .i64 d] := Zb4.out.below hb1
  have Xb9_1 : Box w1 p9 #[.bool nut] := Zb9.out.below hb1
  have hB1 : Below w.heap.size w w1 := stepB hBX hb1
  have hs1 := hB1.size
  clear hw'' hb1 hBX hsX rd2 rd3 rd4 rd9 kc11 kc23 Zb4 Zb9
  go_wp2
  go_returns
  exact ⟨rfl, hB1⟩

theorem plok_any (w : World) (nut : Bool) (x t s0 s1 t0 t1 n d : Int) (b : Bool) (p8 p9 p10 p11 : Nat) (HB : Hid (inB (s0 * d) (s1 * d) (grw nut x t n d) = b)) (HD : Hid ((-100000000 ≤ x ∧ x ≤ 100000000) ∧ (0 ≤ t ∧ t ≤ 10000) ∧ (1 ≤ n ∧ n ≤ 1000) ∧ (1 ≤ d ∧ d ≤ 1000))) (HS : Hid ((-100000000 ≤ s0 ∧ s0 ≤ 100000000) ∧ (-100000000 ≤ s1 ∧ s1 ≤ 100000000)))
    (X11 : Box w p11 #[.func (.func 62) #[] #[.pointer (some ⟨p9, 0, none⟩), .pointer (some ⟨p10, 0, none⟩)]]) (X8 : Box w p8 #[.int .i64 s0, .int .i64 s1]) (X10 : Box w p10 #[.int .i64 t0, .int .i64 t1, .int .i64 n, .int .i64 d]) (X9 : Box w p9 #[.bool nut]) :
    Calls Try.prog 63 #[.int .i64 x, .int .i64 t, .pointer (some ⟨p11, 0, none⟩), .pointer (some ⟨p8, 0, none⟩), .pointer (some ⟨p10, 0, none⟩)] w fun e w' => e = .returned (.bool b) ∧ Below w.heap.size w w' := by
  obtain ⟨h1, h2, h3, h4⟩ := HD.out
  obtain ⟨k1, k2⟩ := HS.out
  have m1 := mul_bd (x := s0) (y := d) (A := 100000000) (B := 1000) (by omega) (by omega) (by omega) (by omega)
  have m2 := mul_bd (x := s1) (y := d) (A := 100000000) (B := 1000) (by omega) (by omega) (by omega) (by omega)
  have W1 : IntKind.i64.wrap (s0 * d) = s0 * d := IntWalk.i64_in _ (by omega)
  have W2 : IntKind.i64.wrap (s1 * d) = s1 * d := IntWalk.i64_in _ (by omega)
  rw [← HB.out]
  unfold inB
  obtain ⟨g, hg⟩ : ∃ g, grw nut x t n d = g := ⟨_, rfl⟩
  rw [hg]
  cases q1 : decide (s0 * d ≤ g)
  · rw [show decide (s0 * d ≤ g ∧ g ≤ s1 * d) = false from decide_eq_false fun h => by have := of_decide_eq_false q1; exact this h.1]
    exact plok_0 nut x t s0 s1 t0 t1 n d g p8 p9 p10 p11 (Lib.hid hg) HD W1 W2 q1 w X11 X8 X10 X9
  · rw [show decide (s0 * d ≤ g ∧ g ≤ s1 * d) = decide (g ≤ s1 * d) by rw [Bool.eq_iff_iff]; simp only [decide_eq_true_eq]; exact ⟨fun h => h.2, fun h => ⟨of_decide_eq_true q1, h⟩⟩]
    exact plok_1 nut x t s0 s1 t0 t1 n d g p8 p9 p10 p11 (Lib.hid hg) HD W1 W2 q1 w X11 X8 X10 X9

end Go.Proofs.Ytpmeahmjmpgbfaa
