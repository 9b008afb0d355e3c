/- ThreadMoves: the statement. Made by tools/gen_moves.py. -/
import Derived.Test.YtloleaahelmdjaaMoves0
import Derived.Test.YtloleaahelmdjaaMoves1
namespace Go.Proofs.Ytloleaahelmdjaa
open Go.ChangeShapes Go.WideShapes Go.ChangeAt Go.RowKit
set_option linter.unusedVariables false
set_option linter.unusedSimpArgs false

theorem moves_main_false (p l r a b s t : Int) (xa xd xx xs xr : Int) (w : World) (hok : okB ⟨p, l, r, a, b, s, false, t⟩ = true) :
    Calls Try.prog 5 #[.agg #[.int .i64 p, .int .i64 l, .int .i64 r, .int .i64 a, .int .i64 b, .int .i64 s, .bool false, .int .i64 t], .agg #[.int .i64 xa, .int .i64 xd, .int .i64 xx, .int .i64 xs, .int .i64 xr]] w fun e w' => e = .returned (.bool true) ∧ Below w.heap.size w w' := by
  obtain ⟨⟨p0, p1⟩, ⟨l0, l1⟩, ⟨r0, r1⟩, ⟨a0, a1⟩, ⟨b0, b1⟩, ⟨s0, s1⟩, t0, t1⟩ := lim_iff.1 (ok_lim hok)
  simp only at p0 p1 l0 l1 r0 r1 a0 a1 b0 b1 s0 s1 t0 t1
  have HF := Lib.hid (fun w => refForm_good p l r a b s t false w hok)
  obtain ⟨q2, e2, g2, v2, -⟩ := ratV_cut 254000 p (by omega)
  have HP := Lib.hid (fun w => v2 ▸ perinch_good p l r a b s t false w hok)
  have HL2 := Lib.hid (fun w => v2 ▸ lowest_any 254000 p w (by omega) (by omega) (by omega) (by omega))
  have ps0 : 1 * 1 ≤ p * s := Int.mul_le_mul (by omega) s0 (by omega) (by omega)
  have ps1 : p * s ≤ 200000 * 8 := Int.mul_le_mul p1 s1 (by omega) (by omega)
  obtain ⟨q1, e1, E1, HA, CA⟩ : ∃ q1 e1 E1 : Int, (∀ w : World, Calls Try.prog 23 #[.agg #[.int .i64 p, .int .i64 l, .int .i64 r, .int .i64 a, .int .i64 b, .int .i64 s, .bool false, .int .i64 t], .int .i64 xa] w fun e w' => e = .returned (.tuple #[.agg #[.int .i64 q1, .int .i64 e1], .int .i64 E1]) ∧ Below w.heap.size w w') ∧ ((inB (-1000000000) 1000000000 xa = true ∧ E1 = 0 ∧ IntKind.i64.wrap (p * s) = p * s ∧ IntKind.i64.wrap (p * s * xa) = p * s * xa ∧ IntKind.i64.wrap (-(p * s * xa)) = -(p * s * xa) ∧ (∀ w : World, Calls Try.prog 20 #[.int .i64 (p * s * xa), .int .i64 1000000] w fun e w' => e = .returned (.agg #[.int .i64 q1, .int .i64 e1]) ∧ Below w.heap.size w w')) ∨ (inB (-1000000000) 1000000000 xa = false ∧ E1 = 3 ∧ q1 = 0 ∧ e1 = 0)) := by
    cases hA : inB (-1000000000) 1000000000 xa
    · have hA' : ¬(-1000000000 ≤ xa ∧ xa ≤ 1000000000) := of_decide_eq_false hA
      exact ⟨0, 0, 3, fun w => advance_range p l r a b s t false xa w hok hA', .inr ⟨rfl, rfl, rfl, rfl⟩⟩
    · obtain ⟨h0, h1⟩ := inB_true hA
      have m := mul_bd (x := p * s) (y := xa) (A := 1600000) (B := 1000000000) (by omega) (by omega) (by omega) (by omega)
      obtain ⟨q1, e1, g1, v1, -⟩ := ratV_cut (p * s * xa) 1000000 (by omega)
      have HA := fun w => advance_right p l r a b s t false xa w hok rfl ⟨h0, h1⟩
      rw [v1] at HA
      refine ⟨q1, e1, 0, HA, .inl ⟨rfl, rfl, IntWalk.i64_in _ (by omega), IntWalk.i64_in _ (by omega), IntWalk.i64_in _ (by omega), ?_⟩⟩
      exact fun w => v1 ▸ lowest_any (p * s * xa) 1000000 w (by omega) (by omega) (by omega) (by omega)
  obtain ⟨dB, CD, q3, e3, E3, HD, CX⟩ : ∃ dB : Bool, ((inB 1 10000000 xd = false ∧ dB = false) ∨ (inB 1 10000000 xd = true ∧ inB 0 10000000 xx = dB)) ∧ ∃ q3 e3 E3 : Int, (∀ w : World, Calls Try.prog 25 #[.agg #[.int .i64 p, .int .i64 l, .int .i64 r, .int .i64 a, .int .i64 b, .int .i64 s, .bool false, .int .i64 t], .int .i64 xd, .int .i64 xx] w fun e w' => e = .returned (.tuple #[.agg #[.int .i64 q3, .int .i64 e3], .int .i64 E3]) ∧ Below w.heap.size w w') ∧ ((dB = true ∧ E3 = 0 ∧ IntKind.i64.wrap (1000 * xd) = 1000 * xd ∧ IntKind.i64.wrap (2 * xx) = 2 * xx ∧ IntKind.i64.wrap (2 * xx * t) = 2 * xx * t ∧ IntKind.i64.wrap (1000 * xd + 2 * xx * t) = 1000 * xd + 2 * xx * t ∧ (∀ w : World, Calls Try.prog 20 #[.int .i64 (1000 * xd + 2 * xx * t), .int .i64 1000] w fun e w' => e = .returned (.agg #[.int .i64 q3, .int .i64 e3]) ∧ Below w.heap.size w w')) ∨ (dB = false ∧ E3 = 3 ∧ q3 = 0 ∧ e3 = 0)) := by
    cases hD : inB 1 10000000 xd
    · have hD' : ¬(1 ≤ xd ∧ xd ≤ 10000000) := of_decide_eq_false hD
      exact ⟨false, .inl ⟨rfl, rfl⟩, 0, 0, 3, fun w => diameter_range1 p l r a b s t false xd xx w hok hD', .inr ⟨rfl, rfl, rfl, rfl⟩⟩
    · obtain ⟨d0, d1⟩ := inB_true hD
      cases hX : inB 0 10000000 xx
      · have hX' : ¬(0 ≤ xx ∧ xx ≤ 10000000) := of_decide_eq_false hX
        exact ⟨false, .inr ⟨rfl, rfl⟩, 0, 0, 3, fun w => diameter_range2 p l r a b s t false xd xx w hok ⟨d0, d1⟩ hX', .inr ⟨rfl, rfl, rfl, rfl⟩⟩
      · obtain ⟨x0, x1⟩ := inB_true hX
        have m := mul_bd (x := 2 * xx) (y := t) (A := 20000000) (B := 100) (by omega) (by omega) (by omega) (by omega)
        obtain ⟨q3, e3, g3, v3, -⟩ := ratV_cut (1000 * xd + 2 * xx * t) 1000 (by omega)
        have HD := fun w => diameter_good p l r a b s t false xd xx w hok ⟨d0, d1⟩ ⟨x0, x1⟩
        rw [v3] at HD
        exact ⟨true, .inr ⟨rfl, rfl⟩, q3, e3, 0, HD, .inl ⟨rfl, rfl, IntWalk.i64_in _ (by omega), IntWalk.i64_in _ (by omega), IntWalk.i64_in _ (by omega), IntWalk.i64_in _ (by omega), fun w => v3 ▸ lowest_any (1000 * xd + 2 * xx * t) 1000 w (by omega) (by omega) (by omega) (by omega)⟩⟩
  obtain ⟨q4, e4, E4, HM, CM⟩ : ∃ q4 e4 E4 : Int, (∀ w : World, Calls Try.prog 26 #[.agg #[.int .i64 p, .int .i64 l, .int .i64 r, .int .i64 a, .int .i64 b, .int .i64 s, .bool false, .int .i64 t], .int .i64 xs, .int .i64 xr] w fun e w' => e = .returned (.tuple #[.agg #[.int .i64 q4, .int .i64 e4], .int .i64 E4]) ∧ Below w.heap.size w w') ∧ (((xs < 1 ∨ (1 ≤ xs ∧ xr < xs) ∨ (1 ≤ xs ∧ xs ≤ xr ∧ 10000000 < xr)) ∧ E4 = 3 ∧ q4 = 0 ∧ e4 = 0) ∨ (1 ≤ xs ∧ xs ≤ xr ∧ xr ≤ 10000000 ∧ (t == 0) = true ∧ E4 = 7 ∧ q4 = 0 ∧ e4 = 0) ∨ (1 ≤ xs ∧ xs ≤ xr ∧ xr ≤ 10000000 ∧ (t == 0) = false ∧ E4 = 0 ∧ IntKind.i64.wrap (xr - xs) = xr - xs ∧ IntKind.i64.wrap (500 * (xr - xs)) = 500 * (xr - xs) ∧ IntKind.i64.wrap (t * p) = t * p ∧ IntKind.i64.wrap (t * p * s) = t * p * s ∧ (∀ w : World, Calls Try.prog 20 #[.int .i64 (500 * (xr - xs)), .int .i64 (t * p * s)] w fun e w' => e = .returned (.agg #[.int .i64 q4, .int .i64 e4]) ∧ Below w.heap.size w w'))) := by
    cases hv : vspan xs xr 1 10000000
    · have hv' := of_decide_eq_false hv
      exact ⟨0, 0, 3, fun w => meets_range p l r a b s t false xs xr w hok hv, .inl ⟨by omega, rfl, rfl, rfl⟩⟩
    · have hv' := of_decide_eq_true hv
      by_cases ht : t = 0
      · exact ⟨0, 0, 7, fun w => meets_none p l r a b s t false xs xr w hok hv ht, .inr (.inl ⟨by omega, by omega, by omega, by simpa using ht, rfl, rfl, rfl⟩)⟩
      · have ht1 : 1 ≤ t := by omega
        have m0 : 1 * 1 ≤ t * p := Int.mul_le_mul ht1 (by omega) (by omega) (by omega)
        have m1 : t * p ≤ 100 * 200000 := Int.mul_le_mul t1 p1 (by omega) (by omega)
        have m2 : 1 * 1 ≤ t * p * s := Int.mul_le_mul (by omega) s0 (by omega) (by omega)
        have m3 : t * p * s ≤ 20000000 * 8 := Int.mul_le_mul (by omega) s1 (by omega) (by omega)
        obtain ⟨q4, e4, g4, v4, -⟩ := ratV_cut (500 * (xr - xs)) (t * p * s) (by omega)
        have HM := fun w => meets_good p l r a b s t false xs xr w hok hv ht
        have e : ratV ((xr - xs) * 500) (t * (p * s)) = .agg #[.int .i64 q4, .int .i64 e4] := by rw [← v4, Int.mul_comm (xr - xs), Int.mul_assoc]
        rw [e] at HM
        exact ⟨q4, e4, 0, HM, .inr (.inr ⟨by omega, by omega, by omega, by simpa using ht, rfl, IntWalk.i64_in _ (by omega), IntWalk.i64_in _ (by omega), IntWalk.i64_in _ (by omega), IntWalk.i64_in _ (by omega), fun w => v4 ▸ lowest_any (500 * (xr - xs)) (t * p * s) w (by omega) (by omega) (by omega) (by omega)⟩)⟩
  exact moves_false p l r a b s t xa xd xx xs xr q1 e1 E1 q2 e2 q3 e3 E3 q4 e4 E4 dB p0 p1 l0 l1 r0 r1 a0 a1 b0 b1 s0 s1 t0 t1 (Lib.hid HA) HP (Lib.hid HD) (Lib.hid HM) HF HL2 (Lib.hid CA) (Lib.hid CD) (Lib.hid CX) (Lib.hid CM) w

theorem moves_main_true (p l r a b s t : Int) (xa xd xx xs xr : Int) (w : World) (hok : okB ⟨p, l, r, a, b, s, true, t⟩ = true) :
    Calls Try.prog 5 #[.agg #[.int .i64 p, .int .i64 l, .int .i64 r, .int .i64 a, .int .i64 b, .int .i64 s, .bool true, .int .i64 t], .agg #[.int .i64 xa, .int .i64 xd, .int .i64 xx, .int .i64 xs, .int .i64 xr]] w fun e w' => e = .returned (.bool true) ∧ Below w.heap.size w w' := by
  obtain ⟨⟨p0, p1⟩, ⟨l0, l1⟩, ⟨r0, r1⟩, ⟨a0, a1⟩, ⟨b0, b1⟩, ⟨s0, s1⟩, t0, t1⟩ := lim_iff.1 (ok_lim hok)
  simp only at p0 p1 l0 l1 r0 r1 a0 a1 b0 b1 s0 s1 t0 t1
  have HF := Lib.hid (fun w => refForm_good p l r a b s t true w hok)
  obtain ⟨q2, e2, g2, v2, -⟩ := ratV_cut 254000 p (by omega)
  have HP := Lib.hid (fun w => v2 ▸ perinch_good p l r a b s t true w hok)
  have HL2 := Lib.hid (fun w => v2 ▸ lowest_any 254000 p w (by omega) (by omega) (by omega) (by omega))
  have ps0 : 1 * 1 ≤ p * s := Int.mul_le_mul (by omega) s0 (by omega) (by omega)
  have ps1 : p * s ≤ 200000 * 8 := Int.mul_le_mul p1 s1 (by omega) (by omega)
  obtain ⟨q1, e1, E1, HA, CA⟩ : ∃ q1 e1 E1 : Int, (∀ w : World, Calls Try.prog 23 #[.agg #[.int .i64 p, .int .i64 l, .int .i64 r, .int .i64 a, .int .i64 b, .int .i64 s, .bool true, .int .i64 t], .int .i64 xa] w fun e w' => e = .returned (.tuple #[.agg #[.int .i64 q1, .int .i64 e1], .int .i64 E1]) ∧ Below w.heap.size w w') ∧ ((inB (-1000000000) 1000000000 xa = true ∧ E1 = 0 ∧ IntKind.i64.wrap (p * s) = p * s ∧ IntKind.i64.wrap (p * s * xa) = p * s * xa ∧ IntKind.i64.wrap (-(p * s * xa)) = -(p * s * xa) ∧ (∀ w : World, Calls Try.prog 20 #[.int .i64 (-(p * s * xa)), .int .i64 1000000] w fun e w' => e = .returned (.agg #[.int .i64 q1, .int .i64 e1]) ∧ Below w.heap.size w w')) ∨ (inB (-1000000000) 1000000000 xa = false ∧ E1 = 3 ∧ q1 = 0 ∧ e1 = 0)) := by
    cases hA : inB (-1000000000) 1000000000 xa
    · have hA' : ¬(-1000000000 ≤ xa ∧ xa ≤ 1000000000) := of_decide_eq_false hA
      exact ⟨0, 0, 3, fun w => advance_range p l r a b s t true xa w hok hA', .inr ⟨rfl, rfl, rfl, rfl⟩⟩
    · obtain ⟨h0, h1⟩ := inB_true hA
      have m := mul_bd (x := p * s) (y := xa) (A := 1600000) (B := 1000000000) (by omega) (by omega) (by omega) (by omega)
      obtain ⟨q1, e1, g1, v1, -⟩ := ratV_cut (p * s * -xa) 1000000 (by omega)
      have HA := fun w => advance_left p l r a b s t true xa w hok rfl ⟨h0, h1⟩
      rw [v1] at HA
      refine ⟨q1, e1, 0, HA, .inl ⟨rfl, rfl, IntWalk.i64_in _ (by omega), IntWalk.i64_in _ (by omega), IntWalk.i64_in _ (by omega), ?_⟩⟩
      rw [Int.mul_neg] at v1
      exact fun w => v1 ▸ lowest_any (-(p * s * xa)) 1000000 w (by omega) (by omega) (by omega) (by omega)
  obtain ⟨dB, CD, q3, e3, E3, HD, CX⟩ : ∃ dB : Bool, ((inB 1 10000000 xd = false ∧ dB = false) ∨ (inB 1 10000000 xd = true ∧ inB 0 10000000 xx = dB)) ∧ ∃ q3 e3 E3 : Int, (∀ w : World, Calls Try.prog 25 #[.agg #[.int .i64 p, .int .i64 l, .int .i64 r, .int .i64 a, .int .i64 b, .int .i64 s, .bool true, .int .i64 t], .int .i64 xd, .int .i64 xx] w fun e w' => e = .returned (.tuple #[.agg #[.int .i64 q3, .int .i64 e3], .int .i64 E3]) ∧ Below w.heap.size w w') ∧ ((dB = true ∧ E3 = 0 ∧ IntKind.i64.wrap (1000 * xd) = 1000 * xd ∧ IntKind.i64.wrap (2 * xx) = 2 * xx ∧ IntKind.i64.wrap (2 * xx * t) = 2 * xx * t ∧ IntKind.i64.wrap (1000 * xd + 2 * xx * t) = 1000 * xd + 2 * xx * t ∧ (∀ w : World, Calls Try.prog 20 #[.int .i64 (1000 * xd + 2 * xx * t), .int .i64 1000] w fun e w' => e = .returned (.agg #[.int .i64 q3, .int .i64 e3]) ∧ Below w.heap.size w w')) ∨ (dB = false ∧ E3 = 3 ∧ q3 = 0 ∧ e3 = 0)) := by
    cases hD : inB 1 10000000 xd
    · have hD' : ¬(1 ≤ xd ∧ xd ≤ 10000000) := of_decide_eq_false hD
      exact ⟨false, .inl ⟨rfl, rfl⟩, 0, 0, 3, fun w => diameter_range1 p l r a b s t true xd xx w hok hD', .inr ⟨rfl, rfl, rfl, rfl⟩⟩
    · obtain ⟨d0, d1⟩ := inB_true hD
      cases hX : inB 0 10000000 xx
      · have hX' : ¬(0 ≤ xx ∧ xx ≤ 10000000) := of_decide_eq_false hX
        exact ⟨false, .inr ⟨rfl, rfl⟩, 0, 0, 3, fun w => diameter_range2 p l r a b s t true xd xx w hok ⟨d0, d1⟩ hX', .inr ⟨rfl, rfl, rfl, rfl⟩⟩
      · obtain ⟨x0, x1⟩ := inB_true hX
        have m := mul_bd (x := 2 * xx) (y := t) (A := 20000000) (B := 100) (by omega) (by omega) (by omega) (by omega)
        obtain ⟨q3, e3, g3, v3, -⟩ := ratV_cut (1000 * xd + 2 * xx * t) 1000 (by omega)
        have HD := fun w => diameter_good p l r a b s t true xd xx w hok ⟨d0, d1⟩ ⟨x0, x1⟩
        rw [v3] at HD
        exact ⟨true, .inr ⟨rfl, rfl⟩, q3, e3, 0, HD, .inl ⟨rfl, rfl, IntWalk.i64_in _ (by omega), IntWalk.i64_in _ (by omega), IntWalk.i64_in _ (by omega), IntWalk.i64_in _ (by omega), fun w => v3 ▸ lowest_any (1000 * xd + 2 * xx * t) 1000 w (by omega) (by omega) (by omega) (by omega)⟩⟩
  obtain ⟨q4, e4, E4, HM, CM⟩ : ∃ q4 e4 E4 : Int, (∀ w : World, Calls Try.prog 26 #[.agg #[.int .i64 p, .int .i64 l, .int .i64 r, .int .i64 a, .int .i64 b, .int .i64 s, .bool true, .int .i64 t], .int .i64 xs, .int .i64 xr] w fun e w' => e = .returned (.tuple #[.agg #[.int .i64 q4, .int .i64 e4], .int .i64 E4]) ∧ Below w.heap.size w w') ∧ (((xs < 1 ∨ (1 ≤ xs ∧ xr < xs) ∨ (1 ≤ xs ∧ xs ≤ xr ∧ 10000000 < xr)) ∧ E4 = 3 ∧ q4 = 0 ∧ e4 = 0) ∨ (1 ≤ xs ∧ xs ≤ xr ∧ xr ≤ 10000000 ∧ (t == 0) = true ∧ E4 = 7 ∧ q4 = 0 ∧ e4 = 0) ∨ (1 ≤ xs ∧ xs ≤ xr ∧ xr ≤ 10000000 ∧ (t == 0) = false ∧ E4 = 0 ∧ IntKind.i64.wrap (xr - xs) = xr - xs ∧ IntKind.i64.wrap (500 * (xr - xs)) = 500 * (xr - xs) ∧ IntKind.i64.wrap (t * p) = t * p ∧ IntKind.i64.wrap (t * p * s) = t * p * s ∧ (∀ w : World, Calls Try.prog 20 #[.int .i64 (500 * (xr - xs)), .int .i64 (t * p * s)] w fun e w' => e = .returned (.agg #[.int .i64 q4, .int .i64 e4]) ∧ Below w.heap.size w w'))) := by
    cases hv : vspan xs xr 1 10000000
    · have hv' := of_decide_eq_false hv
      exact ⟨0, 0, 3, fun w => meets_range p l r a b s t true xs xr w hok hv, .inl ⟨by omega, rfl, rfl, rfl⟩⟩
    · have hv' := of_decide_eq_true hv
      by_cases ht : t = 0
      · exact ⟨0, 0, 7, fun w => meets_none p l r a b s t true xs xr w hok hv ht, .inr (.inl ⟨by omega, by omega, by omega, by simpa using ht, rfl, rfl, rfl⟩)⟩
      · have ht1 : 1 ≤ t := by omega
        have m0 : 1 * 1 ≤ t * p := Int.mul_le_mul ht1 (by omega) (by omega) (by omega)
        have m1 : t * p ≤ 100 * 200000 := Int.mul_le_mul t1 p1 (by omega) (by omega)
        have m2 : 1 * 1 ≤ t * p * s := Int.mul_le_mul (by omega) s0 (by omega) (by omega)
        have m3 : t * p * s ≤ 20000000 * 8 := Int.mul_le_mul (by omega) s1 (by omega) (by omega)
        obtain ⟨q4, e4, g4, v4, -⟩ := ratV_cut (500 * (xr - xs)) (t * p * s) (by omega)
        have HM := fun w => meets_good p l r a b s t true xs xr w hok hv ht
        have e : ratV ((xr - xs) * 500) (t * (p * s)) = .agg #[.int .i64 q4, .int .i64 e4] := by rw [← v4, Int.mul_comm (xr - xs), Int.mul_assoc]
        rw [e] at HM
        exact ⟨q4, e4, 0, HM, .inr (.inr ⟨by omega, by omega, by omega, by simpa using ht, rfl, IntWalk.i64_in _ (by omega), IntWalk.i64_in _ (by omega), IntWalk.i64_in _ (by omega), IntWalk.i64_in _ (by omega), fun w => v4 ▸ lowest_any (500 * (xr - xs)) (t * p * s) w (by omega) (by omega) (by omega) (by omega)⟩)⟩
  exact moves_true p l r a b s t xa xd xx xs xr q1 e1 E1 q2 e2 q3 e3 E3 q4 e4 E4 dB p0 p1 l0 l1 r0 r1 a0 a1 b0 b1 s0 s1 t0 t1 (Lib.hid HA) HP (Lib.hid HD) (Lib.hid HM) HF HL2 (Lib.hid CA) (Lib.hid CD) (Lib.hid CX) (Lib.hid CM) w

theorem moves_walk (p l r a b s t : Int) (h : Bool) (xa xd xx xs xr : Int) (w : World) (wp : (Lit.int .i64 p).wf = true) (wl : (Lit.int .i64 l).wf = true) (wr : (Lit.int .i64 r).wf = true) (wa : (Lit.int .i64 a).wf = true) (wb : (Lit.int .i64 b).wf = true) (ws : (Lit.int .i64 s).wf = true) (wt : (Lit.int .i64 t).wf = true) (n0 : (Lit.int .i64 xa).wf = true) (n1 : (Lit.int .i64 xd).wf = true) (n2 : (Lit.int .i64 xx).wf = true) (n3 : (Lit.int .i64 xs).wf = true) (n4 : (Lit.int .i64 xr).wf = true) :
    Calls Try.prog 5 #[.agg #[.int .i64 p, .int .i64 l, .int .i64 r, .int .i64 a, .int .i64 b, .int .i64 s, .bool h, .int .i64 t], .agg #[.int .i64 xa, .int .i64 xd, .int .i64 xx, .int .i64 xs, .int .i64 xr]] w fun e w' => e = .returned (.bool true) ∧ Below w.heap.size w w' := by
  cases hok : okB ⟨p, l, r, a, b, s, h, t⟩
  · exact moves_bad p l r a b s t h xa xd xx xs xr (Lib.hid (fun w => advance_bad p l r a b s t h xa w hok)) (Lib.hid (fun w => perinch_bad p l r a b s t h w hok)) (Lib.hid (fun w => diameter_bad p l r a b s t h xd xx w hok)) (Lib.hid (fun w => meets_bad p l r a b s t h xs xr w hok)) (Lib.hid (fun w => refForm_bad p l r a b s t h w hok)) w
  · cases h
    · exact moves_main_false p l r a b s t xa xd xx xs xr w hok
    · exact moves_main_true p l r a b s t xa xd xx xs xr w hok

theorem moves_own : ownKnob Try.prog.godebug = none := by kernel_rfl
theorem moves_laidOut : laidOutB Try.prog = true := by kernel_rfl

set_option maxRecDepth 100000 in
theorem moves_lifted (os : Os) (started : os.Started) (H : Type) (enc : TypeId × Value → H) :
    ReturnsInHanded {} Try.checked os 5 .any (Rows.threadMovesSpec.pre6 enc Try.prog Try.f5 Rows.threadMovesRow.domain false) (Rows.threadMovesSpec.post enc Try.prog Try.f5 false true false false) := by
  refine returnsInHanded_of_change (C := Try.checked) moves_own started (by kernel_rfl) Try.func5
    (ChangeSpec.witness6 (enc := enc) (C := Try.checked) false ⟨#[], #[.agg #[.int .i64 0, .int .i64 0, .int .i64 0, .int .i64 0, .int .i64 0, .int .i64 0, .bool false, .int .i64 0], .agg #[.int .i64 0, .int .i64 0, .int .i64 0, .int .i64 0, .int .i64 0]], []⟩ 8 (by kernel_rfl) (by kernel_rfl) (by kernel_rfl) (by kernel_rfl)) ?_
  intro W base args ds gs before hval0 hW hcnd _
  have hval : ∀ (j : Nat) t v, Try.f5.params[j]? = some t → args[j]? = some v → Value.okWide Try.prog W .any base t v := hval0
  have hW' := hW
  obtain ⟨p, q, hA0, hV, rfl, hfz, hnd⟩ := hW
  have hA : DataW.TrodAll enc Try.prog W 0 (fun _ => true) true Try.f5.params.toList args.toList ds p := hA0
  rw [Try.params5] at hA hval
  obtain ⟨v0, vs0, d0, ds0, p0, q0, hargs, rfl, rfl, h0, r0⟩ := trodAll_cons hA
  obtain ⟨v1, vs1, d1, ds1, p1, q1, rfl, rfl, rfl, h1, r1⟩ := trodAll_cons r0
  obtain ⟨rfl, rfl, rfl⟩ := trodAll_nil r1
  obtain rfl : args = #[v0, v1] := by cases args; simp_all
  obtain ⟨rfl, rfl⟩ := trodVars_none hV
  have k0 := h0
  have lt0 : ∀ x ∈ p0, x.block < W.heap.size := by obtain ⟨m, hm⟩ := k0; exact DataW.trod_lt m _ _ _ hm
  have k1 := h1
  have lt1 : ∀ x ∈ p1, x.block < W.heap.size := by obtain ⟨m, hm⟩ := k1; exact DataW.trod_lt m _ _ _ hm
  obtain ⟨p, l, r, a, b, s, h, t, rfl, wp, wl, wr, wa, wb, ws, wt⟩ := open_form (hval 0 23 v0 rfl rfl) h0
  obtain ⟨xa, xd, xx, xs, xr, rfl, n0, n1, n2, n3, n4⟩ := open_move (hval 1 40 v1 rfl rfl) h1
  clear hA0 hval0
  refine (moves_walk p l r a b s t h xa xd xx xs xr W wp wl wr wa wb ws wt n0 n1 n2 n3 n4).mono fun e W' ⟨he, bel⟩ => ?_
  subst he
  exact ⟨_, rfl, _, _, _, [], _, [], hW', trodAll_mk1 (shut_bool Try.underlying4 _), (trodAll_cons_mk (Below.trod moves_laidOut (by kernel_rfl) (of_decide_eq_true (by kernel_rfl)) k0 bel lt0) (trodAll_cons_mk (Below.trod moves_laidOut (by kernel_rfl) (of_decide_eq_true (by kernel_rfl)) k1 bel lt1) trodAll_mk0)), rfl, bel.frame _, fun h => by cases h⟩

theorem moves_over : Rows.threadMovesRow.holds Try.pinned (OpenSpec.ofChange Rows.threadMovesSpec) :=
  OpenClaim.holds_of_wide 5 Try.f5 rfl rfl rfl rfl rfl rfl rfl ⟨rfl, rfl, rfl, rfl, rfl⟩ rfl rfl rfl rfl rfl (by kernel_rfl) Try.func5 (by kernel_rfl)
    (of_decide_eq_true (by kernel_rfl)) (by unfold Func.isWrapper; rw [if_neg (of_decide_eq_false (by kernel_rfl))]; exact ⟨rfl, rfl⟩)
    (fun os started H enc _ => moves_lifted os started H enc)

theorem moves_proved : Rows.ThreadMovesSaid := moves_over
#print axioms moves_proved
end Go.Proofs.Ytloleaahelmdjaa
