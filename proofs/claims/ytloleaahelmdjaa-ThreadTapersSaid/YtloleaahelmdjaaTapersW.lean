/- ThreadTapers: the walk. Made by tools/gen_tapers.py. -/
import Derived.Test.YtloleaahelmdjaaTapers3
namespace Go.Proofs.Ytloleaahelmdjaa
open Go.ChangeShapes Go.WideShapes Go.ChangeAt Go.RowKit
set_option linter.unusedVariables false

set_option maxRecDepth 100000 in
set_option maxHeartbeats 4000000 in
theorem tapers_walk (xp xl xr xa xb xs xt : Int) (xh : Bool) (S M : Int) (w : World) (m0 : (Lit.int .u16 xp).wf = true) (m1 : (Lit.int .u16 xl).wf = true) (m2 : (Lit.int .u16 xr).wf = true) (m3 : (Lit.int .u16 xa).wf = true) (m4 : (Lit.int .u16 xb).wf = true) (m5 : (Lit.int .u8 xs).wf = true) (m6 : (Lit.int .u8 xt).wf = true) (wS : (Lit.int .u32 S).wf = true) (wM : (Lit.int .u16 M).wf = true) :
    Calls Try.prog 11 #[.agg #[.int .u16 xp, .int .u16 xl, .int .u16 xr, .int .u16 xa, .int .u16 xb, .int .u8 xs, .int .u8 xt, .bool xh], .int .u32 S, .int .u16 M] w fun e w' => e = .returned (.bool true) ∧ Below w.heap.size w w' := by
  have hin := cut_in m0 m1 m2 m3 m4 m5 m6
  clear m0 m1 m2 m3 m4 m5 m6
  obtain ⟨hok, hp, hlr, hh⟩ := cut_ok xh hin
  have HFm := Lib.hid (form_any xp xl xr xa xb xs xt xh · hin)
  clear hin
  generalize cutF xp xl xr xa xb xs xt xh = f at *
  obtain ⟨p, l, r, a, b, s, h, t⟩ := f
  simp only [Form.cells] at hp hlr hh HFm
  subst hh
  obtain ⟨⟨p0, p1⟩, ⟨l0, l1⟩, ⟨r0, r1⟩, ⟨a0, a1⟩, ⟨b0, b1⟩, ⟨s0, s1⟩, t0, t1⟩ := lim_iff.1 (ok_lim hok)
  simp only at p0 p1 l0 l1 r0 r1 a0 a1 b0 b1 s0 s1 t0 t1
  have i1 : 0 ≤ S ∧ S ≤ 4294967295 := wf_bd wS
  have i2 : 0 ≤ M ∧ M ≤ 65535 := wf_bd wM
  obtain ⟨S0, S1⟩ := i1
  obtain ⟨M0, M1⟩ := i2
  have S2 := Int.emod_nonneg S (b := 9000000) (by omega)
  have S3 := Int.emod_lt_of_pos S (b := 9000000) (by omega)
  obtain ⟨d, hd⟩ : ∃ d, 1 + S % 9000000 = d := ⟨_, rfl⟩
  obtain ⟨r', hr⟩ : ∃ r', d + M = r' := ⟨_, rfl⟩
  have z0 : 1 ≤ d := by omega
  have z1 : d ≤ 9000000 := by omega
  have z2 : d ≤ r' := by omega
  have z3 : r' ≤ 9065535 := by omega
  have vs : vspan d r' 1 10000000 = true := decide_eq_true (by omega)
  have vs2 : vspan d d 1 10000000 = true := decide_eq_true (by omega)
  by_cases ht : t = 0
  · subst ht
    exact tapers_0 xp xl xr xa xb xs xt h S M d r' w p l r a b s h HFm S0 S1 M0 M1 S2 S3 hd hr z0 z1 z2 z3 (Lib.hid (fun w => meets_none p l r a b s 0 h d r' w hok vs rfl)) (Lib.hid (fun w => meets_none p l r a b s 0 h d d w hok vs2 rfl))
  · have ht1 : 1 ≤ t := by omega
    have hL : 1 ≤ p * s := by
      have : 1 * 1 ≤ p * s := Int.mul_le_mul (by omega) s0 (by omega) (by omega)
      omega
    have hL2 : p * s ≤ 200000 * 8 := Int.mul_le_mul (by omega) s1 (by omega) (by omega)
    have hD : 1 ≤ t * (p * s) := by
      have : 1 * 1 ≤ t * (p * s) := Int.mul_le_mul ht1 hL (by omega) (by omega)
      omega
    obtain ⟨q, e9, g, v1, f1, f2, f3, f4, f5, f6, f7, f8, f9, f10, f11, -⟩ := ratV_cut ((r' - d) * 500) (t * (p * s)) hD
    have v2 : ratV ((d - d) * 500) (t * (p * s)) = .agg #[.int .i64 0, .int .i64 1] := by
      rw [show (d - d) * 500 = 0 * (t * (p * s)) by omega]
      exact ratV_whole _ _ hD
    obtain ⟨q0, q9⟩ := f11 (by omega)
    have y0 : 0 ≤ q * (p * s) := Int.mul_nonneg q0 (by omega)
    have y1 : q * (p * s) ≤ 32767500 * (200000 * 8) := Int.mul_le_mul (by omega) hL2 (by omega) (by omega)
    obtain ⟨x, hx⟩ : ∃ x, q * (p * s) / e9 = x := ⟨_, rfl⟩
    obtain ⟨k1, k2, k3⟩ := taper_math f1 ht1 f5 f6 hx
    have x0 : 0 ≤ x := by rw [← hx]; exact Int.ediv_nonneg y0 (by omega)
    have x1 : x ≤ q * (p * s) := by rw [← hx]; exact Int.ediv_le_self _ y0
    have hx2 : (q * (p * s)).tdiv e9 = x := by rw [Int.tdiv_eq_ediv_of_nonneg y0]; exact hx
    have hx3 : (q * (p * s)).tmod e9 = q * (p * s) % e9 := Int.tmod_eq_emod_of_nonneg y0
    have HM := fun w => meets_good p l r a b s t h d r' w hok vs ht
    have HM2 := fun w => meets_good p l r a b s t h d d w hok vs2 ht
    rw [v1] at HM
    rw [v2] at HM2
    by_cases hbig : 10000000 < x + 1
    · exact tapers_1 xp xl xr xa xb xs xt h S M d r' w p l r a b s t h HFm S0 S1 M0 M1 S2 S3 hd hr z0 z1 z2 z3 q e9 x q0 f1 y1 y0 hL hL2 hx hx2 x0 x1 ht1 t1 (Lib.hid HM) (Lib.hid HM2) hbig
    · have HN := fun w => diameter_good p l r a b s t h d x w hok ⟨by omega, by omega⟩ ⟨by omega, by omega⟩
      have HN2 := fun w => diameter_good p l r a b s t h d (x + 1) w hok ⟨by omega, by omega⟩ ⟨by omega, by omega⟩
      obtain ⟨q1, e1, g1, w1, c1, c2, c3, c4, c5, c6, -, -, -, -, c11, -⟩ := ratV_cut (1000 * d + 2 * x * t) 1000 (by omega)
      obtain ⟨q2, e2, g2, w2, d1, d2, d3, d4, d5, d6, -, -, -, -, d11, -⟩ := ratV_cut (1000 * d + 2 * (x + 1) * t) 1000 (by omega)
      rw [w1] at HN
      rw [w2] at HN2
      have u1 : q1 ≤ r' * e1 := taper_le c3 c5 c6 (by have e8 : 2 * x * t = 2 * (x * t) := Int.mul_assoc _ _ _; omega)
      have u2 : r' * e2 < q2 := taper_lt d3 d5 d6 (by have e8 : 2 * (x + 1) * t = 2 * ((x + 1) * t) := Int.mul_assoc _ _ _; omega)
      have j1 : 0 ≤ r' * e1 := Int.mul_nonneg (by omega) (by omega)
      have j2 : r' * e1 ≤ 9065535 * 1000 := Int.mul_le_mul z3 c2 (by omega) (by omega)
      have j3 : 0 ≤ r' * e2 := Int.mul_nonneg (by omega) (by omega)
      have j4 : r' * e2 ≤ 9065535 * 1000 := Int.mul_le_mul z3 d2 (by omega) (by omega)
      by_cases hm : q * (p * s) % e9 = 0
      · have u3 : q1 = r' * e1 := taper_eq c3 c5 c6 (by have := k3 hm; have e8 : 2 * x * t = 2 * (x * t) := Int.mul_assoc _ _ _; omega)
        exact tapers_2 xp xl xr xa xb xs xt h S M d r' w p l r a b s t h HFm S0 S1 M0 M1 S2 S3 hd hr z0 z1 z2 z3 q e9 x q0 f1 y1 y0 hL hL2 hx hx2 x0 x1 ht1 t1 (Lib.hid HM) (Lib.hid HM2) q1 e1 q2 e2 (Lib.hid HN) (Lib.hid HN2) c1 d1 u1 u2 j1 j2 j3 j4 hbig hm (by rw [hx3]; exact hm) (by simpa using u3)
      · exact tapers_3 xp xl xr xa xb xs xt h S M d r' w p l r a b s t h HFm S0 S1 M0 M1 S2 S3 hd hr z0 z1 z2 z3 q e9 x q0 f1 y1 y0 hL hL2 hx hx2 x0 x1 ht1 t1 (Lib.hid HM) (Lib.hid HM2) q1 e1 q2 e2 (Lib.hid HN) (Lib.hid HN2) c1 d1 u1 u2 j1 j2 j3 j4 hbig hm (by rw [hx3]; exact hm)
end Go.Proofs.Ytloleaahelmdjaa
