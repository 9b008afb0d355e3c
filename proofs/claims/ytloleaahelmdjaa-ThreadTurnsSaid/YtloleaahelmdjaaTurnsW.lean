/- ThreadTurns: the walk and the statement. Made by tools/gen_turns.py. -/
import Derived.Test.YtloleaahelmdjaaLaw
namespace Go.Proofs.Ytloleaahelmdjaa
open Go.ChangeShapes Go.WideShapes Go.ChangeAt Go.RowKit

set_option maxRecDepth 100000 in
set_option maxHeartbeats 8000000 in
theorem turns_walk (xp xl xr xa xb xs xt : Int) (xh : Bool) (x y : Int) (w : World) (m0 : (Lit.int .u16 xp).wf = true) (m1 : (Lit.int .u16 xl).wf = true) (m2 : (Lit.int .u16 xr).wf = true) (m3 : (Lit.int .u16 xa).wf = true) (m4 : (Lit.int .u16 xb).wf = true) (m5 : (Lit.int .u8 xs).wf = true) (m6 : (Lit.int .u8 xt).wf = true) (wx : (Lit.int .i16 x).wf = true) (wy : (Lit.int .i16 y).wf = true) :
    Calls Try.prog 10 #[.agg #[.int .u16 xp, .int .u16 xl, .int .u16 xr, .int .u16 xa, .int .u16 xb, .int .u8 xs, .int .u8 xt, .bool xh], .int .i16 x, .int .i16 y] w fun e w' => e = .returned (.bool true) ∧ Below w.heap.size w w' := by
  have i1 : -32768 ≤ x ∧ x ≤ 32767 := wf_bd wx
  have i2 : -32768 ≤ y ∧ y ≤ 32767 := wf_bd wy
  obtain ⟨x0, x1⟩ := i1
  obtain ⟨y0, y1⟩ := i2
  clear wx wy
  have hin := cut_in m0 m1 m2 m3 m4 m5 m6
  clear m0 m1 m2 m3 m4 m5 m6
  obtain ⟨hok, hp, hlr, hh⟩ := cut_ok xh hin
  have HFm := Lib.hid (form_any xp xl xr xa xb xs xt xh · hin)
  clear hin
  generalize cutF xp xl xr xa xb xs xt xh = f at *
  obtain ⟨p, l, r, a, b, s, h, t⟩ := f
  simp only [Form.cells] at hp hlr hh HFm
  subst hh
  obtain ⟨⟨p0, p1⟩, ⟨l0, l1⟩, ⟨r0, r1⟩, ⟨a0, a1⟩, ⟨b0, b1⟩, ⟨s0, s1⟩, t0, t1⟩ := lim_iff.1 (ok_lim hok)
  simp only at p0 p1 l0 l1 r0 r1 a0 a1 b0 b1 s0 s1 t0 t1
  have hok2 : okB ⟨p, l, r, a, b, s, !h, t⟩ = true := hok
  have HF := Lib.hid (fun y w => advance_any p l r a b s t h y w hok)
  have HG := Lib.hid (fun y w => advance_any p l r a b s t (!h) y w hok2)
  have HI := Lib.hid (fun w => perinch_good p l r a b s t h w hok)
  clear hok2 hok a0 a1 b0 b1 l0 l1 r0 r1 t0 t1 hp hlr
  have n1 : 0 ≤ p * s := Int.mul_nonneg (by omega) (by omega)
  have n2 : p * s ≤ 200000 * 8 := Int.mul_le_mul p1 s1 (by omega) (by omega)
  obtain ⟨q1, e1, g1, v1, z1⟩ := ratV_cut (advN p s h (1000 * x)) 1000000 (by omega)
  obtain ⟨q2, e2, g2, v2, z2⟩ := ratV_cut (advN p s h (777 * y)) 1000000 (by omega)
  obtain ⟨q3, e3, g3, v3, z3⟩ := ratV_cut (advN p s h (1000 * x + 777 * y)) 1000000 (by omega)
  obtain ⟨q4, e4, g4, v4, z4⟩ := ratV_cut 254000 p (by omega)
  have v5 := ratV_neg (by omega) v1
  rw [← advN_not] at v5
  have v6 : ratV (advN p s h 1000000) 1000000 = .agg #[.int .i64 (if h then -(p * s) else p * s), .int .i64 1] := by
    rw [advN_eq]
    exact ratV_whole _ _ (by omega)
  have V1 := Lib.hid v1
  have Z1 := Lib.hid z1
  have Z2 := Lib.hid z2
  have Z3 := Lib.hid z3
  have Z4 := Lib.hid z4
  clear z1 z2 z3 z4
  have V2 := Lib.hid v2
  have V3 := Lib.hid v3
  have V4 := Lib.hid v4
  have V5 := Lib.hid v5
  have V6 := Lib.hid v6
  clear v1 v2 v3 v4 v5 v6
  go_enter Try.func10, Try.ntmps10
  go_wp2_with fail
  refine (HFm.out _).mono ?_
  rintro e w1 ⟨rfl, hb1⟩
  have hB1 : Below w.heap.size w w1 := stepB (by go_grown) hb1
  have hs1 := hB1.size
  clear hb1
  go_wp2_with fail
  refine (HF.out (1000 * x) _ ⟨by omega, by omega⟩).mono ?_
  rintro e w2 ⟨rfl, hb2⟩
  rw [V1.out]
  have F2 : Box w2 w1.heap.size #[.int .i64 p, .int .i64 l, .int .i64 r, .int .i64 a, .int .i64 b, .int .i64 s, .bool h, .int .i64 t] := Box.below (Box.new w1 _ _) hb2
  have hB2 : Below w.heap.size w w2 := stepB (by go_grown) hb2
  have hs2 := hB2.size
  clear hb2 hB1 hs1
  have cF := F2.2.1
  have lF := F2.1
  go_wp2_with fail
  refine (HF.out (777 * y) _ ⟨by omega, by omega⟩).mono ?_
  rintro e w3 ⟨rfl, hb3⟩
  rw [V2.out]
  have F3 : Box w3 w1.heap.size #[.int .i64 p, .int .i64 l, .int .i64 r, .int .i64 a, .int .i64 b, .int .i64 s, .bool h, .int .i64 t] := Box.below (Box.alloc F2 _) hb3
  have P3 : Box w3 w2.heap.size #[.int .i64 q1, .int .i64 e1] := Box.below (Box.new w2 _ _) hb3
  have hB3 : Below w.heap.size w w3 := stepB (by go_grown) hb3
  have hs3 := hB3.size
  clear hb3 hB2 hs2 F2 cF lF
  have cF := F3.2.1
  have lF := F3.1
  go_wp2_with fail
  refine (HF.out (1000 * x + 777 * y) _ ⟨by omega, by omega⟩).mono ?_
  rintro e w4 ⟨rfl, hb4⟩
  rw [V3.out]
  have F4 : Box w4 w1.heap.size #[.int .i64 p, .int .i64 l, .int .i64 r, .int .i64 a, .int .i64 b, .int .i64 s, .bool h, .int .i64 t] := Box.below (Box.alloc F3 _) hb4
  have P4 : Box w4 w2.heap.size #[.int .i64 q1, .int .i64 e1] := Box.below (Box.alloc P3 _) hb4
  have Q4 : Box w4 w3.heap.size #[.int .i64 q2, .int .i64 e2] := Box.below (Box.new w3 _ _) hb4
  have hB4 : Below w.heap.size w w4 := stepB (by go_grown) hb4
  have hs4 := hB4.size
  clear hb4 hB3 hs3 F3 P3 cF lF
  have cF := F4.2.1
  have lF := F4.1
  go_wp2_with fail
  refine (HG.out (1000 * x) _ ⟨by omega, by omega⟩).mono ?_
  rintro e w5 ⟨rfl, hb5⟩
  rw [V5.out]
  have F5 : Box w5 w1.heap.size #[.int .i64 p, .int .i64 l, .int .i64 r, .int .i64 a, .int .i64 b, .int .i64 s, .bool h, .int .i64 t] := Box.below (Box.alloc (Box.alloc F4 _) _) hb5
  have P5 : Box w5 w2.heap.size #[.int .i64 q1, .int .i64 e1] := Box.below (Box.alloc (Box.alloc P4 _) _) hb5
  have Q5 : Box w5 w3.heap.size #[.int .i64 q2, .int .i64 e2] := Box.below (Box.alloc (Box.alloc Q4 _) _) hb5
  have R5 : Box w5 w4.heap.size #[.int .i64 q3, .int .i64 e3] := Box.below (Box.alloc (Box.new w4 _ _) _) hb5
  have hB5 : Below w.heap.size w w5 := stepB (by go_grown) hb5
  have hs5 := hB5.size
  clear hb5 hB4 hs4 F4 P4 Q4 cF lF
  have cF := F5.2.1
  have lF := F5.1
  go_wp2_with fail
  refine (HF.out 1000000 _ ⟨by omega, by omega⟩).mono ?_
  rintro e w6 ⟨rfl, hb6⟩
  rw [V6.out]
  have F6 : Box w6 w1.heap.size #[.int .i64 p, .int .i64 l, .int .i64 r, .int .i64 a, .int .i64 b, .int .i64 s, .bool h, .int .i64 t] := Box.below (Box.alloc F5 _) hb6
  have P6 : Box w6 w2.heap.size #[.int .i64 q1, .int .i64 e1] := Box.below (Box.alloc P5 _) hb6
  have Q6 : Box w6 w3.heap.size #[.int .i64 q2, .int .i64 e2] := Box.below (Box.alloc Q5 _) hb6
  have R6 : Box w6 w4.heap.size #[.int .i64 q3, .int .i64 e3] := Box.below (Box.alloc R5 _) hb6
  have S6 : Box w6 w5.heap.size #[.int .i64 (-q1), .int .i64 e1] := Box.below (Box.new w5 _ _) hb6
  have hB6 : Below w.heap.size w w6 := stepB (by go_grown) hb6
  have hs6 := hB6.size
  clear hb6 hB5 hs5 F5 P5 Q5 R5 cF lF
  have cF := F6.2.1
  have lF := F6.1
  generalize HT : (if h = true then -(p * s) else p * s) = tn at *
  go_wp2_with fail
  refine (HI.out _).mono ?_
  rintro e w7 ⟨rfl, hb7⟩
  rw [V4.out]
  have F7 : Box w7 w1.heap.size #[.int .i64 p, .int .i64 l, .int .i64 r, .int .i64 a, .int .i64 b, .int .i64 s, .bool h, .int .i64 t] := Box.below (Box.alloc F6 _) hb7
  have P7 : Box w7 w2.heap.size #[.int .i64 q1, .int .i64 e1] := Box.below (Box.alloc P6 _) hb7
  have Q7 : Box w7 w3.heap.size #[.int .i64 q2, .int .i64 e2] := Box.below (Box.alloc Q6 _) hb7
  have R7 : Box w7 w4.heap.size #[.int .i64 q3, .int .i64 e3] := Box.below (Box.alloc R6 _) hb7
  have S7 : Box w7 w5.heap.size #[.int .i64 (-q1), .int .i64 e1] := Box.below (Box.alloc S6 _) hb7
  have T7 : Box w7 w6.heap.size #[.int .i64 tn, .int .i64 1] := Box.below (Box.new w6 _ _) hb7
  have hB7 : Below w.heap.size w w7 := stepB (by go_grown) hb7
  have hs7 := hB7.size
  clear hb7 hB6 hs6 F6 P6 Q6 R6 S6 cF lF
  have cF := F7.2.1
  have lF := F7.1
  have cP := P7.2.1
  have lP := P7.1
  have cQ := Q7.2.1
  have lQ := Q7.1
  have cR := R7.2.1
  have lR := R7.1
  obtain ⟨f1, f2, f3, f4, f5, f6, f7, f8, f9, f10, f11, f12⟩ := Z1.out
  obtain ⟨c1, c2, c3, c4, c5, c6, c7, c8, c9, c10, -, -⟩ := Z2.out
  obtain ⟨d1, d2, d3, d4, d5, d6, d7, d8, d9, d10, -, -⟩ := Z3.out
  obtain ⟨k1, k2, k3, k4, k5, k6, k7, -, -, -, k11, -⟩ := Z4.out
  clear Z1 Z2 Z3 Z4 V1 V2 V3 V4 V5 V6 HF HG HI HFm
  have g1b := (Int.le_trans f3 f4)
  have mA : 0 ≤ p * s * 1000000 := by omega
  obtain ⟨A1, hA1⟩ : ∃ A, advN p s h (1000 * x) = A := ⟨_, rfl⟩
  obtain ⟨A2, hA2⟩ : ∃ A, advN p s h (777 * y) = A := ⟨_, rfl⟩
  have bA : ∀ z : Int, -33000000 ≤ z ∧ z ≤ 33000000 → -52800000000000 ≤ advN p s h z ∧ advN p s h z ≤ 52800000000000 := fun z hz => adv_bd h hz n1 n2
  have b1 := bA (1000 * x) ⟨by omega, by omega⟩
  have b2 := bA (777 * y) ⟨by omega, by omega⟩
  have m1 : IntKind.i64.wrap (q1 * g1) = advN p s h (1000 * x) := by
    rw [f5]; exact IntWalk.i64_in _ (by omega)
  have m2 : IntKind.i64.wrap (q2 * g2) = advN p s h (777 * y) := by
    rw [c5]; exact IntWalk.i64_in _ (by omega)
  have m3 : IntKind.i64.wrap (q3 * g3) = advN p s h (1000 * x) + advN p s h (777 * y) := by
    rw [d5, advN_add]; exact IntWalk.i64_in _ (by omega)
  have j1 := IntWalk.i64_in g1 (by omega)
  have j2 := IntWalk.i64_in g2 (by omega)
  have j3 := IntWalk.i64_in g3 (by omega)
  have m4 : IntKind.i64.wrap (advN p s h (1000 * x) + advN p s h (777 * y)) = advN p s h (1000 * x) + advN p s h (777 * y) := IntWalk.i64_in _ (by omega)
  have m5 : IntKind.i64.wrap (q4 * p) = 254000 * e4 := by
    have : q4 * p = 254000 * e4 := by rw [← k6, ← k5, Int.mul_assoc, Int.mul_comm g4 e4]
    rw [this]; exact IntWalk.i64_in _ (by omega)
  have m6 : IntKind.i64.wrap (254000 * e4) = 254000 * e4 := IntWalk.i64_in _ (by omega)
  have m7 : IntKind.i64.wrap (-q1) = -q1 := by
    rcases Int.le_total 0 (advN p s h (1000 * x)) with hq | hq
    · have := f11 hq; exact IntWalk.i64_in _ (by omega)
    · have := f12 hq; exact IntWalk.i64_in _ (by omega)
  clear f11 f12 hA1 hA2 mA g1b f5 c5 d5 k5 f6 c6 d6 k6 f7 c7 d7 k7 f3 f4 c3 c4 d3 d4 k3 k4 bA b1 b2
  have m8 : IntKind.i64.wrap (p * s) = p * s := IntWalk.i64_in _ (by omega)
  have m9 : IntKind.i64.wrap (-(p * s)) = -(p * s) := IntWalk.i64_in _ (by omega)
  cases h
  · obtain rfl : p * s = tn := by simpa using HT
    go_wp2
    have FX : Box (w7.alloc (.cells #[.int .i64 q4, .int .i64 e4] 27)) w1.heap.size #[.int .i64 p, .int .i64 l, .int .i64 r, .int .i64 a, .int .i64 b, .int .i64 s, .bool false, .int .i64 t] := (Box.alloc F7 _)
    have PX : Box (w7.alloc (.cells #[.int .i64 q4, .int .i64 e4] 27)) w2.heap.size #[.int .i64 q1, .int .i64 e1] := (Box.alloc P7 _)
    have QX : Box (w7.alloc (.cells #[.int .i64 q4, .int .i64 e4] 27)) w3.heap.size #[.int .i64 q2, .int .i64 e2] := (Box.alloc Q7 _)
    have RX : Box (w7.alloc (.cells #[.int .i64 q4, .int .i64 e4] 27)) w4.heap.size #[.int .i64 q3, .int .i64 e3] := (Box.alloc R7 _)
    have SX : Box (w7.alloc (.cells #[.int .i64 q4, .int .i64 e4] 27)) w5.heap.size #[.int .i64 (-q1), .int .i64 e1] := (Box.alloc S7 _)
    have TX : Box (w7.alloc (.cells #[.int .i64 q4, .int .i64 e4] 27)) w6.heap.size #[.int .i64 (p * s), .int .i64 1] := (Box.alloc T7 _)
    have UX : Box (w7.alloc (.cells #[.int .i64 q4, .int .i64 e4] 27)) w7.heap.size #[.int .i64 q4, .int .i64 e4] := (Box.new w7 _ _)
    have hBX : Below w.heap.size w (w7.alloc (.cells #[.int .i64 q4, .int .i64 e4] 27)) := by go_grown
    clear hB7 hs7 F7 P7 Q7 R7 S7 T7 cF lF cP lP cQ lQ cR lR
    generalize (w7.alloc (.cells #[.int .i64 q4, .int .i64 e4] 27)) = X at *
    have hsX := hBX.size
    have cF := fun d os => (FX.regrown d os).2.1
    have cP := fun d os => (PX.regrown d os).2.1
    have cQ := fun d os => (QX.regrown d os).2.1
    have cR := fun d os => (RX.regrown d os).2.1
    have cS := fun d os => (SX.regrown d os).2.1
    have cT := fun d os => (TX.regrown d os).2.1
    have cU := fun d os => (UX.regrown d os).2.1
    have kn := fun d os => (known_any (Go.Sort.grow (redrawn X d) os)).regrown_of
    clear FX PX QX RX SX TX UX
    have qR := eqR
    have gR := guardR
    refine wp_region_quiet_below (by kernel_rfl) (by kernel_rfl) ?_
    repeat (quiet_step (first | exact kn _ _))
    refine wpQuiet_nil ?_
    intro w8 hw'
    obtain ⟨⟨dq, osq⟩, hw''⟩ := hw'
    have hb8 : Below X.heap.size X w8 := by rw [hw'']; exact below_regrown X dq osq
    have hB8 : Below w.heap.size w w8 := stepB hBX hb8
    clear hw'' hb8 cF cP cQ cR cS cT cU kn qR gR
    go_wp2
    go_returns
    exact ⟨rfl, hB8⟩
  · obtain rfl : -(p * s) = tn := by simpa using HT
    go_wp2
    have FX : Box (w7.alloc (.cells #[.int .i64 q4, .int .i64 e4] 27)) w1.heap.size #[.int .i64 p, .int .i64 l, .int .i64 r, .int .i64 a, .int .i64 b, .int .i64 s, .bool true, .int .i64 t] := (Box.alloc F7 _)
    have PX : Box (w7.alloc (.cells #[.int .i64 q4, .int .i64 e4] 27)) w2.heap.size #[.int .i64 q1, .int .i64 e1] := (Box.alloc P7 _)
    have QX : Box (w7.alloc (.cells #[.int .i64 q4, .int .i64 e4] 27)) w3.heap.size #[.int .i64 q2, .int .i64 e2] := (Box.alloc Q7 _)
    have RX : Box (w7.alloc (.cells #[.int .i64 q4, .int .i64 e4] 27)) w4.heap.size #[.int .i64 q3, .int .i64 e3] := (Box.alloc R7 _)
    have SX : Box (w7.alloc (.cells #[.int .i64 q4, .int .i64 e4] 27)) w5.heap.size #[.int .i64 (-q1), .int .i64 e1] := (Box.alloc S7 _)
    have TX : Box (w7.alloc (.cells #[.int .i64 q4, .int .i64 e4] 27)) w6.heap.size #[.int .i64 (-(p * s)), .int .i64 1] := (Box.alloc T7 _)
    have UX : Box (w7.alloc (.cells #[.int .i64 q4, .int .i64 e4] 27)) w7.heap.size #[.int .i64 q4, .int .i64 e4] := (Box.new w7 _ _)
    have hBX : Below w.heap.size w (w7.alloc (.cells #[.int .i64 q4, .int .i64 e4] 27)) := by go_grown
    clear hB7 hs7 F7 P7 Q7 R7 S7 T7 cF lF cP lP cQ lQ cR lR
    generalize (w7.alloc (.cells #[.int .i64 q4, .int .i64 e4] 27)) = X at *
    have hsX := hBX.size
    have cF := fun d os => (FX.regrown d os).2.1
    have cP := fun d os => (PX.regrown d os).2.1
    have cQ := fun d os => (QX.regrown d os).2.1
    have cR := fun d os => (RX.regrown d os).2.1
    have cS := fun d os => (SX.regrown d os).2.1
    have cT := fun d os => (TX.regrown d os).2.1
    have cU := fun d os => (UX.regrown d os).2.1
    have kn := fun d os => (known_any (Go.Sort.grow (redrawn X d) os)).regrown_of
    clear FX PX QX RX SX TX UX
    have qR := eqR
    have gR := guardR
    refine wp_region_quiet_below (by kernel_rfl) (by kernel_rfl) ?_
    repeat (quiet_step (first | exact kn _ _))
    refine wpQuiet_nil ?_
    intro w8 hw'
    obtain ⟨⟨dq, osq⟩, hw''⟩ := hw'
    have hb8 : Below X.heap.size X w8 := by rw [hw'']; exact below_regrown X dq osq
    have hB8 : Below w.heap.size w w8 := stepB hBX hb8
    clear hw'' hb8 cF cP cQ cR cS cT cU kn qR gR
    go_wp2
    go_returns
    exact ⟨rfl, hB8⟩

end Go.Proofs.Ytloleaahelmdjaa
