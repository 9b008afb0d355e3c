/- Contracts of acmeref02's arithmetic: In, Span, Coat, Grown, Down, Up, Right. Made by tools/gen_zref.py. -/
import Derived.Test.YtpmeahmjmpgbfaaZone0
import Derived.Test.YtpmeahmjmpgbfaaSame
import Derived.Test.YtpmeahmjmpgbfaaRatios
import Derived.Lib.QuietBelow
namespace Go.Proofs.Ytpmeahmjmpgbfaa
open Go.RowKit
set_option linter.unusedVariables false
set_option linter.unusedSimpArgs false

set_option maxHeartbeats 400000 in
theorem zin_any (n lo hi : Int) (w : World) :
    Calls Try.prog 100 #[.int .i64 n, .int .i64 lo, .int .i64 hi] w fun e w' => e = .returned (.bool (inB lo hi n)) ∧ w = w' := by
  by_cases a : lo ≤ n
  · by_cases b : n ≤ hi
    · go_enter Try.func100, Try.ntmps100
      go_wp2
      go_returns
      exact ⟨ret_bool (by unfold inB; rw [decide_eq_true (by omega)]), rfl⟩
    · go_enter Try.func100, Try.ntmps100
      go_wp2
      go_returns
      exact ⟨ret_bool (by unfold inB; rw [decide_eq_false (by omega)]), rfl⟩
  · go_enter Try.func100, Try.ntmps100
    go_wp2
    go_returns
    exact ⟨ret_bool (by unfold inB; rw [decide_eq_false (by omega)]), rfl⟩

set_option maxHeartbeats 1000000 in
theorem zspan_any (s0 s1 a b : Int) (w : World) :
    Calls Try.prog 37 #[.agg #[.int .i64 s0, .int .i64 s1], .int .i64 a, .int .i64 b] w fun e w' => e = .returned (.bool (vspan s0 s1 a b)) ∧ Below w.heap.size w w' := by
  cases h1 : inB a s1 s0
  · go_enter Try.func37, Try.ntmps37
    go_wp2_with fail
    refine (zin_any _ _ _ _).mono ?_
    rintro e w1 ⟨rfl, rfl⟩
    rw [h1]
    go_wp2
    go_returns
    have h1' : ¬(a ≤ s0 ∧ s0 ≤ s1) := of_decide_eq_false h1
    exact ⟨ret_bool (by unfold vspan; rw [decide_eq_false (by omega)]), by go_grown⟩
  · have h1' := inB_true h1
    by_cases h2 : s1 ≤ b
    · go_enter Try.func37, Try.ntmps37
      go_wp2_with fail
      refine (zin_any _ _ _ _).mono ?_
      rintro e w1 ⟨rfl, rfl⟩
      rw [h1]
      go_wp2
      go_returns
      exact ⟨ret_bool (by unfold vspan; rw [decide_eq_true (by omega)]), by go_grown⟩
    · go_enter Try.func37, Try.ntmps37
      go_wp2_with fail
      refine (zin_any _ _ _ _).mono ?_
      rintro e w1 ⟨rfl, rfl⟩
      rw [h1]
      go_wp2
      go_returns
      exact ⟨ret_bool (by unfold vspan; first | (rw [decide_eq_false (by omega)]; done) | rw [decide_eq_false (by omega), decide_eq_false (by omega)]), by go_grown⟩

/-- A coat that is as it must be. -/
def coatB (t0 t1 n d : Int) : Bool := vspan t0 t1 0 10000 && (inB 1 1000 n && inB 1 1000 d)
set_option maxHeartbeats 2000000 in
theorem zcoat_0 (t0 t1 n d : Int) (h1 : vspan t0 t1 0 10000 = false) (w : World) :
    Calls Try.prog 38 #[.agg #[.int .i64 t0, .int .i64 t1, .int .i64 n, .int .i64 d]] w fun e w' => e = .returned (.bool false) ∧ Below w.heap.size w w' := by
  go_enter Try.func38, Try.ntmps38
  go_wp2_with fail
  refine (zspan_any _ _ _ _ _).mono ?_
  rintro e w1 ⟨rfl, hb1⟩
  have Xb : Box w1 w.heap.size #[.int .i64 t0, .int .i64 t1, .int .i64 n, .int .i64 d] := Box.below (Box.new w _ _) hb1
  have hB1 : Below w.heap.size w w1 := stepB (by go_grown) hb1
  have cc := Xb.2.1
  have ll := Xb.1
  clear hb1 Xb
  rw [h1]
  go_wp2
  go_returns
  exact ⟨rfl, hB1⟩

set_option maxHeartbeats 2000000 in
theorem zcoat_1 (t0 t1 n d : Int) (h1 : vspan t0 t1 0 10000 = true) (h2 : inB 1 1000 n = false) (w : World) :
    Calls Try.prog 38 #[.agg #[.int .i64 t0, .int .i64 t1, .int .i64 n, .int .i64 d]] w fun e w' => e = .returned (.bool false) ∧ Below w.heap.size w w' := by
  go_enter Try.func38, Try.ntmps38
  go_wp2_with fail
  refine (zspan_any _ _ _ _ _).mono ?_
  rintro e w1 ⟨rfl, hb1⟩
  have Xb : Box w1 w.heap.size #[.int .i64 t0, .int .i64 t1, .int .i64 n, .int .i64 d] := Box.below (Box.new w _ _) hb1
  have hB1 : Below w.heap.size w w1 := stepB (by go_grown) hb1
  have cc := Xb.2.1
  have ll := Xb.1
  clear hb1 Xb
  rw [h1]
  go_wp2_with fail
  refine (zin_any _ _ _ _).mono ?_
  rintro e w2 ⟨rfl, rfl⟩
  rw [h2]
  go_wp2
  go_returns
  exact ⟨rfl, hB1⟩

set_option maxHeartbeats 2000000 in
theorem zcoat_2 (t0 t1 n d : Int) (h1 : vspan t0 t1 0 10000 = true) (h2 : inB 1 1000 n = true) (h3 : inB 1 1000 d = false) (w : World) :
    Calls Try.prog 38 #[.agg #[.int .i64 t0, .int .i64 t1, .int .i64 n, .int .i64 d]] w fun e w' => e = .returned (.bool false) ∧ Below w.heap.size w w' := by
  go_enter Try.func38, Try.ntmps38
  go_wp2_with fail
  refine (zspan_any _ _ _ _ _).mono ?_
  rintro e w1 ⟨rfl, hb1⟩
  have Xb : Box w1 w.heap.size #[.int .i64 t0, .int .i64 t1, .int .i64 n, .int .i64 d] := Box.below (Box.new w _ _) hb1
  have hB1 : Below w.heap.size w w1 := stepB (by go_grown) hb1
  have cc := Xb.2.1
  have ll := Xb.1
  clear hb1 Xb
  rw [h1]
  go_wp2_with fail
  refine (zin_any _ _ _ _).mono ?_
  rintro e w2 ⟨rfl, rfl⟩
  rw [h2]
  go_wp2_with fail
  refine (zin_any _ _ _ _).mono ?_
  rintro e w3 ⟨rfl, rfl⟩
  rw [h3]
  go_wp2
  go_returns
  exact ⟨rfl, hB1⟩

set_option maxHeartbeats 2000000 in
theorem zcoat_3 (t0 t1 n d : Int) (h1 : vspan t0 t1 0 10000 = true) (h2 : inB 1 1000 n = true) (h3 : inB 1 1000 d = true) (w : World) :
    Calls Try.prog 38 #[.agg #[.int .i64 t0, .int .i64 t1, .int .i64 n, .int .i64 d]] w fun e w' => e = .returned (.bool true) ∧ Below w.heap.size w w' := by
  go_enter Try.func38, Try.ntmps38
  go_wp2_with fail
  refine (zspan_any _ _ _ _ _).mono ?_
  rintro e w1 ⟨rfl, hb1⟩
  have Xb : Box w1 w.heap.size #[.int .i64 t0, .int .i64 t1, .int .i64 n, .int .i64 d] := Box.below (Box.new w _ _) hb1
  have hB1 : Below w.heap.size w w1 := stepB (by go_grown) hb1
  have cc := Xb.2.1
  have ll := Xb.1
  clear hb1 Xb
  rw [h1]
  go_wp2_with fail
  refine (zin_any _ _ _ _).mono ?_
  rintro e w2 ⟨rfl, rfl⟩
  rw [h2]
  go_wp2_with fail
  refine (zin_any _ _ _ _).mono ?_
  rintro e w3 ⟨rfl, rfl⟩
  rw [h3]
  go_wp2
  go_returns
  exact ⟨rfl, hB1⟩

theorem zcoat_any (t0 t1 n d : Int) (w : World) :
    Calls Try.prog 38 #[.agg #[.int .i64 t0, .int .i64 t1, .int .i64 n, .int .i64 d]] w fun e w' => e = .returned (.bool (coatB t0 t1 n d)) ∧ Below w.heap.size w w' := by
  unfold coatB
  cases h1 : vspan t0 t1 0 10000
  · exact zcoat_0 t0 t1 n d h1 w
  · cases h2 : inB 1 1000 n
    · exact zcoat_1 t0 t1 n d h1 h2 w
    · cases h3 : inB 1 1000 d
      · exact zcoat_2 t0 t1 n d h1 h2 h3 w
      · exact zcoat_3 t0 t1 n d h1 h2 h3 w

/-- A diameter after plating, times the divisor. -/
def grw (nut : Bool) (x th n d : Int) : Int := if nut then x * d - th * n else x * d + th * n
theorem grw_bd {nut : Bool} {x th n d : Int} (hx : -100000000 ≤ x ∧ x ≤ 100000000) (ht : 0 ≤ th ∧ th ≤ 10000) (hn : 1 ≤ n ∧ n ≤ 1000) (hd : 1 ≤ d ∧ d ≤ 1000) :
    (-100000000000 ≤ x * d ∧ x * d ≤ 100000000000) ∧ (-10000000 ≤ th * n ∧ th * n ≤ 10000000) ∧ -200000000000 ≤ grw nut x th n d ∧ grw nut x th n d ≤ 200000000000 := by
  have m1 := mul_bd (x := x) (y := d) (A := 100000000) (B := 1000) (by omega) (by omega) (by omega) (by omega)
  have m2 := mul_bd (x := th) (y := n) (A := 10000) (B := 1000) (by omega) (by omega) (by omega) (by omega)
  unfold grw
  cases nut
  · rw [if_neg (by decide)]; omega
  · rw [if_pos rfl]; omega
set_option maxHeartbeats 1000000 in
theorem grown_any (nut : Bool) (x th t0 t1 n d : Int) (w : World) (hx : -100000000 ≤ x ∧ x ≤ 100000000) (ht : 0 ≤ th ∧ th ≤ 10000) (hn : 1 ≤ n ∧ n ≤ 1000) (hd : 1 ≤ d ∧ d ≤ 1000) :
    Calls Try.prog 39 #[.int .i64 x, .bool nut, .int .i64 th, .agg #[.int .i64 t0, .int .i64 t1, .int .i64 n, .int .i64 d]] w fun e w' => e = .returned (.int .i64 (grw nut x th n d)) ∧ Below w.heap.size w w' := by
  obtain ⟨m1, m2, m3⟩ := grw_bd (nut := nut) hx ht hn hd
  obtain ⟨x0, x1⟩ := hx
  obtain ⟨th0, th1⟩ := ht
  obtain ⟨n0, n1⟩ := hn
  obtain ⟨d0, d1⟩ := hd
  obtain ⟨a0, a1⟩ := m1
  obtain ⟨b0, b1⟩ := m2
  clear m3
  cases nut
  · go_enter Try.func39, Try.ntmps39
    go_wp2
    go_returns
    exact ⟨rfl, by go_grown⟩
  · go_enter Try.func39, Try.ntmps39
    go_wp2
    go_returns
    exact ⟨rfl, by go_grown⟩

theorem tdiv_down {n d : Int} (hd : 1 ≤ d) : (n.tdiv d * d ≤ n ∧ n.tdiv d = n / d) ∨ (n < n.tdiv d * d ∧ n.tdiv d - 1 = n / d) := by
  have h0 := Int.emod_nonneg n (b := d) (by omega)
  have h1 := Int.emod_lt_of_pos n (b := d) (by omega)
  have e := Int.mul_ediv_add_emod n d
  have em : n / d * d = d * (n / d) := Int.mul_comm _ _
  by_cases h : 0 ≤ n
  · rw [Int.tdiv_eq_ediv_of_nonneg h]
    exact .inl ⟨by omega, rfl⟩
  · by_cases hz : n % d = 0
    · have hdv : d ∣ n := Int.dvd_of_emod_eq_zero hz
      rw [Int.tdiv_eq_ediv_of_dvd hdv]
      exact .inl ⟨by omega, rfl⟩
    · have ht : n.tdiv d = n / d + 1 := by
        rw [Int.tdiv_eq_ediv]
        rw [if_neg (by
          intro h2
          rcases h2 with h2 | h2
          · exact h h2
          · exact hz (Int.emod_eq_zero_of_dvd h2)), Int.sign_eq_one_of_pos (by omega)]
      rw [ht, Int.add_mul]
      exact .inr ⟨by omega, by omega⟩
theorem tdiv_up {n d : Int} (hd : 1 ≤ d) : (n ≤ n.tdiv d * d ∧ n.tdiv d = upTo n d) ∨ (n.tdiv d * d < n ∧ n.tdiv d + 1 = upTo n d) := by
  have hu : upTo n d = -((-n) / d) := by have := down_eq (n := -n) hd; rw [Int.neg_neg] at this; omega
  have hneg : (-n).tdiv d = -(n.tdiv d) := Int.neg_tdiv n d
  have hm : -(n.tdiv d) * d = -(n.tdiv d * d) := Int.neg_mul _ _
  rcases tdiv_down (n := -n) hd with ⟨h1, h2⟩ | ⟨h1, h2⟩
  · rw [hneg, hm] at h1; rw [hneg] at h2; exact .inl ⟨by omega, by omega⟩
  · rw [hneg, hm] at h1; rw [hneg] at h2; exact .inr ⟨by omega, by omega⟩
theorem tdiv_bd {n d m : Int} (hd : 1 ≤ d) (h : -m ≤ n ∧ n ≤ m) : -m ≤ n.tdiv d ∧ n.tdiv d ≤ m := by
  have h1 : (n.tdiv d).natAbs ≤ n.natAbs := by rw [Int.natAbs_tdiv]; exact Nat.div_le_self _ _
  omega
theorem tmul_bd {n d m : Int} (hd : 1 ≤ d) (h : -m ≤ n ∧ n ≤ m) : -m ≤ n.tdiv d * d ∧ n.tdiv d * d ≤ m := by
  have e := Int.mul_tdiv_add_tmod n d
  have ec : n.tdiv d * d = d * n.tdiv d := Int.mul_comm _ _
  rcases Int.le_total 0 n with h0 | h0
  · have := Int.tmod_nonneg d h0
    have h2 : 0 ≤ n.tdiv d := Int.tdiv_nonneg h0 (by omega)
    have h3 := Int.mul_nonneg h2 (show 0 ≤ d by omega)
    omega
  · have h4 : (-n).tmod d = -(n.tmod d) := Int.neg_tmod n d
    have := Int.tmod_nonneg d (show 0 ≤ -n by omega)
    have h5 : (-n).tdiv d = -(n.tdiv d) := Int.neg_tdiv n d
    have h2 : 0 ≤ (-n).tdiv d := Int.tdiv_nonneg (by omega) (by omega)
    have h3 := Int.mul_nonneg h2 (show 0 ≤ d by omega)
    rw [h5, Int.neg_mul] at h3
    omega
set_option maxHeartbeats 1000000 in
theorem zdown_any (n d : Int) (w : World) (hn : -1000000000000000 ≤ n ∧ n ≤ 1000000000000000) (hd : 1 ≤ d ∧ d ≤ 1000000) :
    Calls Try.prog 41 #[.int .i64 n, .int .i64 d] w fun e w' => e = .returned (.int .i64 (n / d)) ∧ w = w' := by
  have hq := tdiv_bd (n := n) (d := d) hd.1 hn
  have hm := tmul_bd (n := n) (d := d) hd.1 hn
  have HL := tdiv_down (n := n) hd.1
  obtain ⟨n0, n1⟩ := hn
  obtain ⟨d0, d1⟩ := hd
  generalize hg : n.tdiv d = q at *
  have HG := Lib.hid hg
  clear hg
  obtain ⟨q0, q1⟩ := hq
  obtain ⟨p0, p1⟩ := hm
  rcases HL with ⟨h1, h2⟩ | ⟨h1, h2⟩
  · have H2 := Lib.hid h2
    clear h2
    go_enter Try.func41, Try.ntmps41
    have hg := HG.out
    go_wp2
    go_returns
    exact ⟨ret_int H2.out, rfl⟩
  · have H2 := Lib.hid h2
    clear h2
    go_enter Try.func41, Try.ntmps41
    have hg := HG.out
    go_wp2
    go_returns
    exact ⟨ret_int H2.out, rfl⟩

set_option maxHeartbeats 1000000 in
theorem zup_any (n d : Int) (w : World) (hn : -1000000000000000 ≤ n ∧ n ≤ 1000000000000000) (hd : 1 ≤ d ∧ d ≤ 1000000) :
    Calls Try.prog 42 #[.int .i64 n, .int .i64 d] w fun e w' => e = .returned (.int .i64 (upTo n d)) ∧ w = w' := by
  have hq := tdiv_bd (n := n) (d := d) hd.1 hn
  have hm := tmul_bd (n := n) (d := d) hd.1 hn
  have HL := tdiv_up (n := n) hd.1
  obtain ⟨n0, n1⟩ := hn
  obtain ⟨d0, d1⟩ := hd
  generalize hg : n.tdiv d = q at *
  have HG := Lib.hid hg
  clear hg
  obtain ⟨q0, q1⟩ := hq
  obtain ⟨p0, p1⟩ := hm
  rcases HL with ⟨h1, h2⟩ | ⟨h1, h2⟩
  · have H2 := Lib.hid h2
    clear h2
    go_enter Try.func42, Try.ntmps42
    have hg := HG.out
    go_wp2
    go_returns
    exact ⟨ret_int H2.out, rfl⟩
  · have H2 := Lib.hid h2
    clear h2
    go_enter Try.func42, Try.ntmps42
    have hg := HG.out
    go_wp2
    go_returns
    exact ⟨ret_int H2.out, rfl⟩

/-- Whether a diameter lies in a span after plating, with the least and with the greatest thickness. -/
def rightB (x s0 s1 : Int) (nut : Bool) (t0 t1 n d : Int) : Bool := inB (s0 * d) (s1 * d) (grw nut x t0 n d) && inB (s0 * d) (s1 * d) (grw nut x t1 n d)
set_option maxHeartbeats 4000000 in
theorem right_core (x s0 s1 : Int) (nut : Bool) (t0 t1 n d g0 g1 : Int) (w : World) (W1 : IntKind.i64.wrap (s0 * d) = s0 * d) (W2 : IntKind.i64.wrap (s1 * d) = s1 * d)
    (H0 : Hid (∀ W : World, Calls Try.prog 39 #[.int .i64 x, .bool nut, .int .i64 t0, .agg #[.int .i64 t0, .int .i64 t1, .int .i64 n, .int .i64 d]] W fun e w' => e = .returned (.int .i64 g0) ∧ Below W.heap.size W w'))
    (H1 : Hid (∀ W : World, Calls Try.prog 39 #[.int .i64 x, .bool nut, .int .i64 t1, .agg #[.int .i64 t0, .int .i64 t1, .int .i64 n, .int .i64 d]] W fun e w' => e = .returned (.int .i64 g1) ∧ Below W.heap.size W w')) :
    Calls Try.prog 43 #[.int .i64 x, .agg #[.int .i64 s0, .int .i64 s1], .bool nut, .agg #[.int .i64 t0, .int .i64 t1, .int .i64 n, .int .i64 d]] w fun e w' => e = .returned (.bool (inB (s0 * d) (s1 * d) g0 && inB (s0 * d) (s1 * d) g1)) ∧ Below w.heap.size w w' := by
  have i0 : ∀ w, (Instr.index 46 (.agg #[.int .i64 t0, .int .i64 t1]) (.int .i64 0)).run Try.prog w = .ok (.int .i64 t0) w := fun _ => by kernel_rfl
  have i1 : ∀ w, (Instr.index 46 (.agg #[.int .i64 t0, .int .i64 t1]) (.int .i64 1)).run Try.prog w = .ok (.int .i64 t1) w := fun _ => by kernel_rfl
  go_enter Try.func43, Try.ntmps43
  go_wp2
  go_loopw [9] (fun i wr => ∃ m : Int, i = .int .i64 m ∧ (m = 0 ∨ m = 1 ∨ m = 2) ∧ Hid ((m ≠ 0 → inB (s0 * d) (s1 * d) g0 = true) ∧ (m = 2 → inB (s0 * d) (s1 * d) g1 = true)) ∧ Hid (Box wr w.heap.size #[.int .i64 s0, .int .i64 s1] ∧ Box wr (w.heap.size + 1) #[.int .i64 t0, .int .i64 t1, .int .i64 n, .int .i64 d] ∧ Below w.heap.size w wr)) (fun i _ => 2 - (intOf i).toNat)
  case atStart => exact ⟨0, rfl, by omega, Lib.hid ⟨fun h => absurd rfl h, fun h => absurd h (by omega)⟩, Lib.hid ⟨Box.alloc (Box.new w _ _) _, Box.newAt (w.alloc _) _ _ (by simp), by go_grown⟩⟩
  case round =>
    obtain ⟨m, rfl, hm, huv, hw1⟩ := hrel
    rcases hm with rfl | rfl | rfl
    · clear huv
      obtain ⟨Z1, Z2, hB⟩ := hw1.out
      have c2 := Z2.2.1
      have l2 := Z2.1
      go_wp2
      clear c2 l2
      have q2 := fun d os => (Z2.regrown d os).2.1
      have kc := fun d os => (H0.out (Go.Sort.grow (redrawn wr d) os)).regrown_of
      have hsX := hB.size
      have HZ := hw1
      clear hw1 Z1 Z2
      refine wp_region_quiet_below (by kernel_rfl) (by kernel_rfl) ?_
      repeat ((with_reducible refine wpQuiet_step (fun K hK => ?_)); go_simp; first | ((with_reducible refine hK _ ?_); clear hK K) | (apply Exists.intro; refine ⟨fun _ => ?_, hK _ ?_⟩; (go_at_call 39; with_reducible exact kc _ _); clear hK K))
      with_reducible refine wpQuiet_nil ?_
      intro w9 hw'
      obtain ⟨⟨dq, osq⟩, hw''⟩ := hw'
      have hb9 : Below wr.heap.size wr w9 := by rw [hw'']; exact below_regrown wr dq osq
      have HWx : Hid (Box w9 w.heap.size #[.int .i64 s0, .int .i64 s1] ∧ Box w9 (w.heap.size + 1) #[.int .i64 t0, .int .i64 t1, .int .i64 n, .int .i64 d] ∧ Below w.heap.size w w9) := Lib.hid ⟨HZ.out.1.below hb9, HZ.out.2.1.below hb9, stepB hB hb9⟩
      clear hw'' hb9 q2 kc hB hsX HZ
      obtain ⟨Z1, Z2, hB⟩ := HWx.out
      have c1 := Z1.2.1
      have l1 := Z1.1
      have c2 := Z2.2.1
      have l2 := Z2.1
      clear Z1 Z2
      by_cases ha : g0 < s0 * d
      · have d1 : decide (g0 < s0 * d) = true := decide_eq_true ha
        go_wp2
        go_returns
        exact ⟨ret_bool (by unfold inB; rw [decide_eq_false (p := s0 * d ≤ g0 ∧ g0 ≤ s1 * d) (by omega)]; rfl), hB⟩
      · have d1 : decide (g0 < s0 * d) = false := decide_eq_false ha
        by_cases hb : s1 * d < g0
        · have d2 : decide (s1 * d < g0) = true := decide_eq_true hb
          go_wp2
          go_returns
          exact ⟨ret_bool (by unfold inB; rw [decide_eq_false (p := s0 * d ≤ g0 ∧ g0 ≤ s1 * d) (by omega)]; rfl), hB⟩
        · have d2 : decide (s1 * d < g0) = false := decide_eq_false hb
          go_wp2
          go_roundw
          case rel => exact ⟨1, rfl, by omega, Lib.hid ⟨fun _ => by unfold inB; exact decide_eq_true (by omega), fun h => absurd h (by omega)⟩, HWx⟩
          case measure => simp [intOf]
    · have HI := Lib.hid (huv.out.1 (by omega))
      clear huv
      obtain ⟨Z1, Z2, hB⟩ := hw1.out
      have c2 := Z2.2.1
      have l2 := Z2.1
      go_wp2
      clear c2 l2
      have q2 := fun d os => (Z2.regrown d os).2.1
      have kc := fun d os => (H1.out (Go.Sort.grow (redrawn wr d) os)).regrown_of
      have hsX := hB.size
      have HZ := hw1
      clear hw1 Z1 Z2
      refine wp_region_quiet_below (by kernel_rfl) (by kernel_rfl) ?_
      repeat ((with_reducible refine wpQuiet_step (fun K hK => ?_)); go_simp; first | ((with_reducible refine hK _ ?_); clear hK K) | (apply Exists.intro; refine ⟨fun _ => ?_, hK _ ?_⟩; (go_at_call 39; with_reducible exact kc _ _); clear hK K))
      with_reducible refine wpQuiet_nil ?_
      intro w9 hw'
      obtain ⟨⟨dq, osq⟩, hw''⟩ := hw'
      have hb9 : Below wr.heap.size wr w9 := by rw [hw'']; exact below_regrown wr dq osq
      have HWx : Hid (Box w9 w.heap.size #[.int .i64 s0, .int .i64 s1] ∧ Box w9 (w.heap.size + 1) #[.int .i64 t0, .int .i64 t1, .int .i64 n, .int .i64 d] ∧ Below w.heap.size w w9) := Lib.hid ⟨HZ.out.1.below hb9, HZ.out.2.1.below hb9, stepB hB hb9⟩
      clear hw'' hb9 q2 kc hB hsX HZ
      obtain ⟨Z1, Z2, hB⟩ := HWx.out
      have c1 := Z1.2.1
      have l1 := Z1.1
      have c2 := Z2.2.1
      have l2 := Z2.1
      clear Z1 Z2
      by_cases ha : g1 < s0 * d
      · have d1 : decide (g1 < s0 * d) = true := decide_eq_true ha
        go_wp2
        go_returns
        exact ⟨ret_bool (by unfold inB; rw [decide_eq_false (p := s0 * d ≤ g1 ∧ g1 ≤ s1 * d) (by omega)]; simp), hB⟩
      · have d1 : decide (g1 < s0 * d) = false := decide_eq_false ha
        by_cases hb : s1 * d < g1
        · have d2 : decide (s1 * d < g1) = true := decide_eq_true hb
          go_wp2
          go_returns
          exact ⟨ret_bool (by unfold inB; rw [decide_eq_false (p := s0 * d ≤ g1 ∧ g1 ≤ s1 * d) (by omega)]; simp), hB⟩
        · have d2 : decide (s1 * d < g1) = false := decide_eq_false hb
          go_wp2
          go_roundw
          case rel => exact ⟨2, rfl, by omega, Lib.hid ⟨fun _ => HI.out, fun _ => by unfold inB; exact decide_eq_true (by omega)⟩, HWx⟩
          case measure => simp [intOf]
    · obtain ⟨Z1, Z2, hB⟩ := hw1.out
      clear Z1 Z2
      go_wp2
      go_returns
      exact ⟨ret_bool (by rw [huv.out.1 (by omega), huv.out.2 (by simp)]; rfl), hB⟩

theorem right_any (x s0 s1 : Int) (nut : Bool) (t0 t1 n d : Int) (w : World) (hx : -100000000 ≤ x ∧ x ≤ 100000000) (hs0 : -100000000 ≤ s0 ∧ s0 ≤ 100000000) (hs1 : -100000000 ≤ s1 ∧ s1 ≤ 100000000) (ht0 : 0 ≤ t0 ∧ t0 ≤ 10000) (ht1 : 0 ≤ t1 ∧ t1 ≤ 10000) (hn : 1 ≤ n ∧ n ≤ 1000) (hd : 1 ≤ d ∧ d ≤ 1000) :
    Calls Try.prog 43 #[.int .i64 x, .agg #[.int .i64 s0, .int .i64 s1], .bool nut, .agg #[.int .i64 t0, .int .i64 t1, .int .i64 n, .int .i64 d]] w fun e w' => e = .returned (.bool (rightB x s0 s1 nut t0 t1 n d)) ∧ Below w.heap.size w w' := by
  have m1 := mul_bd (x := s0) (y := d) (A := 100000000) (B := 1000) (by omega) (by omega) (by omega) (by omega)
  have m2 := mul_bd (x := s1) (y := d) (A := 100000000) (B := 1000) (by omega) (by omega) (by omega) (by omega)
  exact right_core x s0 s1 nut t0 t1 n d _ _ w (IntWalk.i64_in _ (by omega)) (IntWalk.i64_in _ (by omega)) (Lib.hid fun W => grown_any nut x t0 t0 t1 n d W hx ht0 hn hd) (Lib.hid fun W => grown_any nut x t1 t0 t1 n d W hx ht1 hn hd)

end Go.Proofs.Ytpmeahmjmpgbfaa
