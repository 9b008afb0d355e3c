/- ThreadMeet: the walk. Made by tools/gen_meet.py. -/
import Derived.Test.YtloleaahelmdjaaMeet3
namespace Go.Proofs.Ytloleaahelmdjaa
open Go.ChangeShapes Go.WideShapes Go.ChangeAt Go.RowKit
set_option linter.unusedVariables false

theorem meet_math {q e g N n z : Int} (hg : 1 ≤ g) (he : 1 ≤ e) (h1 : q * g = N) (h2 : e * g = n) (hz : q / e = z) : q * n = N * e ∧ z * n ≤ N ∧ N < (z + 1) * n := by
  have h3 : q * n = N * e := by rw [← h2, ← h1, Int.mul_comm e g, Int.mul_assoc]
  have m0 := Int.emod_nonneg q (b := e) (by omega)
  have m1 := Int.emod_lt_of_pos q (b := e) (by omega)
  have hdm := Int.mul_ediv_add_emod q e
  rw [hz] at hdm
  generalize q % e = m at *
  have h4 : N = z * n + m * g := by
    rw [← h1, ← hdm, Int.add_mul, ← h2, Int.mul_comm e z, Int.mul_assoc]
  have h5 : 0 ≤ m * g := Int.mul_nonneg m0 (by omega)
  have h6 : m * g < e * g := Int.mul_lt_mul_of_pos_right m1 (by omega)
  refine ⟨h3, by omega, ?_⟩
  rw [Int.add_mul, Int.one_mul]
  omega

theorem meet_le {q e g N n x : Int} (hg : 1 ≤ g) (h1 : q * g = N) (h2 : e * g = n) (h : x * n ≤ N) : x * e ≤ q := by
  rcases Int.lt_or_le q (x * e) with h9 | h9
  · have := Int.mul_lt_mul_of_pos_right h9 (by omega : 0 < g)
    rw [Int.mul_assoc, h2, h1] at this
    omega
  · exact h9

theorem ok_not {f : Form} (h : 500 * f.p < f.a * (f.l + f.r) ∨ 500 * f.p < f.b * (f.l + f.r)) : okB f = false := by
  cases hk : okB f
  · rfl
  · have := ok_open hk
    omega

theorem ok_sharp {p l r a b s t z : Int} {h : Bool} (hok : okB ⟨p, l, r, a, b, s, h, t⟩ = true) (z0 : 0 ≤ z) (z1 : z ≤ 200000) (hz : z * (l + r) ≤ 500 * p) (hb : 1 ≤ z + b) : okB ⟨p, l, r, z, b, s, h, t⟩ = true := by
  have h1 := lim_iff.1 (ok_lim hok)
  have h2 := (ok_open hok).2.1
  simp only at h1 h2
  unfold okB openB
  rw [lim_iff.2 (by simp only; omega)]
  simp only [Bool.true_and, Bool.and_eq_true, decide_eq_true_eq]
  refine ⟨hb, ?_⟩
  rcases Int.le_total z b with h3 | h3
  · rw [Int.max_eq_right h3]; exact h2
  · rw [Int.max_eq_left h3]; exact hz

theorem check_bad (p l r a b s t : Int) (h : Bool) (w : World) (hk : okB ⟨p, l, r, a, b, s, h, t⟩ = false) :
    Calls Try.prog 14 #[.agg #[.int .i64 p, .int .i64 l, .int .i64 r, .int .i64 a, .int .i64 b, .int .i64 s, .bool h, .int .i64 t]] w fun e w' => e = .returned (.int .i64 2) ∧ Below w.heap.size w w' := by
  have hc := check_any p l r a b s t h w
  rw [errN_bad hk] at hc
  exact hc

set_option maxRecDepth 100000 in
set_option maxHeartbeats 4000000 in
theorem meet_walk (xp xl xr xa xb xs xt : Int) (xh : Bool) (M : Int) (w : World) (m0 : (Lit.int .u16 xp).wf = true) (m1 : (Lit.int .u16 xl).wf = true) (m2 : (Lit.int .u16 xr).wf = true) (m3 : (Lit.int .u16 xa).wf = true) (m4 : (Lit.int .u16 xb).wf = true) (m5 : (Lit.int .u8 xs).wf = true) (m6 : (Lit.int .u8 xt).wf = true) (wM : (Lit.int .u16 M).wf = true) :
    Calls Try.prog 9 #[.agg #[.int .u16 xp, .int .u16 xl, .int .u16 xr, .int .u16 xa, .int .u16 xb, .int .u8 xs, .int .u8 xt, .bool xh], .int .u16 M] w fun e w' => e = .returned (.bool true) ∧ Below w.heap.size w w' := by
  have hin := cut_in m0 m1 m2 m3 m4 m5 m6
  clear m0 m1 m2 m3 m4 m5 m6
  obtain ⟨hok, hp, hlr, hh⟩ := cut_ok xh hin
  have HFm := Lib.hid (form_any xp xl xr xa xb xs xt xh · hin)
  clear hin
  generalize cutF xp xl xr xa xb xs xt xh = f at *
  obtain ⟨p, l, r, a, b, s, h, t⟩ := f
  simp only [Form.cells] at hp hlr hh HFm
  subst hh
  obtain ⟨⟨p0, p1⟩, ⟨l0, l1⟩, ⟨r0, r1⟩, ⟨a0, a1⟩, ⟨b0, b1⟩, ⟨s0, s1⟩, t0, t1⟩ := lim_iff.1 (ok_lim hok)
  simp only at p0 p1 l0 l1 r0 r1 a0 a1 b0 b1 s0 s1 t0 t1
  have i2 : 0 ≤ M ∧ M ≤ 65535 := wf_bd wM
  obtain ⟨M0, M1⟩ := i2
  by_cases hn : l + r = 0
  · exact meet_0 xp xl xr xa xb xs xt h M w p l r a b s t h HFm M0 M1 p0 p1 l0 l1 r0 r1 a0 a1 b0 b1 (Lib.hid (fun w => sharp_none p l r a b s t h w hok hn)) (by simpa using hn)
  · have hn1 : 1 ≤ l + r := by omega
    obtain ⟨o1, o2, o3⟩ := ok_open hok
    simp only at o1 o2 o3
    obtain ⟨q, e9, g, v1, f1, f2, f3, f4, f5, f6, f7, f8, f9, f10, f11, -⟩ := ratV_cut (500 * p) (l + r) hn1
    obtain ⟨q0, q9⟩ := f11 (by omega)
    obtain ⟨z, hz⟩ : ∃ z, q / e9 = z := ⟨_, rfl⟩
    obtain ⟨k1, k2, k3⟩ := meet_math f3 f1 f5 f6 hz
    have z0 : 0 ≤ z := by rw [← hz]; exact Int.ediv_nonneg q0 (by omega)
    have z9 : z ≤ q := by rw [← hz]; exact Int.ediv_le_self _ q0
    have hz2 : q.tdiv e9 = z := by rw [Int.tdiv_eq_ediv_of_nonneg q0]; exact hz
    have HS := fun w => sharp_good p l r a b s t h w hok hn
    rw [v1] at HS
    have g2 := meet_le f3 f5 f6 o1
    have g3 := meet_le f3 f5 f6 o2
    have g4 : 0 ≤ a * e9 := Int.mul_nonneg a0 (by omega)
    have g5 : 0 ≤ b * e9 := Int.mul_nonneg b0 (by omega)
    have g6 : 0 ≤ q * (l + r) := Int.mul_nonneg q0 (by omega)
    have g7 : q * (l + r) ≤ 100000000 * 6000 := Int.mul_le_mul (by omega) (by omega) (by omega) (by omega)
    have far : 500 * p < (z + 1 + M) * (l + r) := by
      have h1 : (z + 1 + M) * (l + r) = (z + 1) * (l + r) + M * (l + r) := Int.add_mul _ _ _
      have h2 : 0 ≤ M * (l + r) := Int.mul_nonneg M0 (by omega)
      omega
    have HC := fun w => check_bad p l r (z + 1 + M) b s t h w (ok_not (.inl far))
    have HD := fun w => check_bad p l r a (z + 1 + M) s t h w (ok_not (.inr far))
    by_cases hbig : 200000 < z
    · exact meet_1 xp xl xr xa xb xs xt h M w p l r a b s t h HFm M0 M1 p0 p1 l0 l1 r0 r1 a0 a1 b0 b1 q e9 z (Lib.hid HS) (Lib.hid HC) (Lib.hid HD) (by simpa using hn) hn1 f1 q0 (by omega) (by simpa using k1) g2 g3 g4 g5 g6 g7 (by omega) (by omega) hz hz2 z0 (by omega) hbig
    · by_cases hzb : z + b = 0
      · exact meet_2 xp xl xr xa xb xs xt h M w p l r a b s t h HFm M0 M1 p0 p1 l0 l1 r0 r1 a0 a1 b0 b1 q e9 z (Lib.hid HS) (Lib.hid HC) (Lib.hid HD) (by simpa using hn) hn1 f1 q0 (by omega) (by simpa using k1) g2 g3 g4 g5 g6 g7 (by omega) (by omega) hz hz2 z0 (by omega) hbig (by simpa using hzb)
      · have hsh := ok_sharp hok z0 (by omega) k2 (by omega)
        have HW := fun w => width_good p l r z b s t h z w hsh ⟨by omega, by omega⟩
        have hm : 500 * p - z * (l + r) < l + r := by
          rw [Int.add_mul, Int.one_mul] at k3
          omega
        obtain ⟨m, hme⟩ : ∃ m, 500 * p - z * (l + r) = m := ⟨_, rfl⟩
        rw [hme] at HW hm
        obtain ⟨q1, e1, g1, w1, c1, c2, c3, c4, c5, c6, -, -, -, -, c11, -⟩ := ratV_cut m 1000 (by omega)
        obtain ⟨q10, q19⟩ := c11 (by omega)
        rw [w1] at HW
        have e0 : 0 ≤ e1 * (l + r) := Int.mul_nonneg (by omega) (by omega)
        have e8 : e1 * (l + r) ≤ 1000 * 6000 := Int.mul_le_mul c2 (by omega) (by omega) (by omega)
        have e2 : 2 * e1 * (l + r) = 2 * (e1 * (l + r)) := Int.mul_assoc _ _ _
        have e3 : 1000 * q1 = e1 * m := by rw [← c6, ← c5, Int.mul_assoc, Int.mul_comm g1 q1]
        have e4 : e1 * m < e1 * (l + r) := Int.mul_lt_mul_of_pos_left hm (by omega)
        have k5 : (q1 == 0) = decide (m = 0) := by
          by_cases hm0 : m = 0
          · rw [decide_eq_true hm0]
            rw [hm0] at c5
            rcases Int.mul_eq_zero.1 c5 with h9 | h9
            · simp [h9]
            · omega
          · rw [decide_eq_false hm0]
            have : q1 ≠ 0 := fun h9 => hm0 (by rw [← c5, h9, Int.zero_mul])
            simpa using this
        have k6 : (e9 == 1) = decide (m = 0) := by
          by_cases hm0 : m = 0
          · rw [decide_eq_true hm0]
            have h7 : 500 * p = z * (l + r) := by omega
            rw [h7, ratV_whole z (l + r) hn1] at v1
            simp only [Value.agg.injEq, Array.mk.injEq, List.cons.injEq, Value.int.injEq, true_and, and_true] at v1
            simp [← v1.2]
          · rw [decide_eq_false hm0]
            have : e9 ≠ 1 := fun h9 => hm0 (by
              rw [h9, Int.ediv_one] at hz
              rw [h9, Int.mul_one] at k1
              rw [← hme, ← hz]
              omega)
            simpa using this
        exact meet_3 xp xl xr xa xb xs xt h M w p l r a b s t h HFm M0 M1 p0 p1 l0 l1 r0 r1 a0 a1 b0 b1 q e9 z (Lib.hid HS) (Lib.hid HC) (Lib.hid HD) (by simpa using hn) hn1 f1 q0 (by omega) (by simpa using k1) g2 g3 g4 g5 g6 g7 (by omega) (by omega) hz hz2 z0 (by omega) hbig (by simpa using hzb) q1 e1 _ (Lib.hid HW) c1 c2 q10 (by omega) k5 k6 (by omega) (by omega) (by omega)
end Go.Proofs.Ytloleaahelmdjaa
