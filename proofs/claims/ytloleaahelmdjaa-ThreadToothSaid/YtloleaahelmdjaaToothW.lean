/- ThreadTooth: the walk. Made by tools/gen_tooth.py. -/
import Derived.Test.YtloleaahelmdjaaTooth1
namespace Go.Proofs.Ytloleaahelmdjaa
open Go.ChangeShapes Go.WideShapes Go.ChangeAt Go.RowKit
set_option linter.unusedVariables false
set_option linter.unusedSimpArgs false

theorem at_bd {a b x : Int} (a0 : 0 ≤ a) (b0 : 0 ≤ b) : -b ≤ -b + x % (a + b + 1) ∧ -b + x % (a + b + 1) ≤ a := by
  have m0 := Int.emod_nonneg x (b := a + b + 1) (by omega)
  have m1 := Int.emod_lt_of_pos x (b := a + b + 1) (by omega)
  omega
theorem sum_of (n1 d1 n2 d2 g1 g2 : Int) (w : World) (h1 : 1 ≤ d1) (h2 : 1 ≤ d2) (k1 : 1 ≤ g1) (k2 : 1 ≤ g2) (t1 : d1 * g1 = 2000) (t2 : d2 * g2 = 2000) (b1 : -1000000000000000 ≤ n1 * g1 ∧ n1 * g1 ≤ 1000000000000000) (b2 : -1000000000000000 ≤ n2 * g2 ∧ n2 * g2 ≤ 1000000000000000) :
    Calls Try.prog 39 #[.agg #[.int .i64 n1, .int .i64 d1], .agg #[.int .i64 n2, .int .i64 d2]] w fun e w' => e = .returned (.tuple #[.int .i64 (n1 * g1 + n2 * g2), .bool true]) ∧ Below w.heap.size w w' := by
  have key : ∀ d g : Int, 1 ≤ d → 1 ≤ g → d * g = 2000 → d ≤ 2000 ∧ g ≤ 2000 ∧ 2000 % d = 0 ∧ 2000 / d = g := by
    intro d g hd hg h
    have e1 : d * 1 ≤ d * g := Int.mul_le_mul_of_nonneg_left hg (by omega)
    have e2 : 1 * g ≤ d * g := Int.mul_le_mul_of_nonneg_right hd (by omega)
    refine ⟨by omega, by omega, ?_, ?_⟩
    · rw [← h]; exact Int.mul_emod_right _ _
    · rw [← h]; exact Int.mul_ediv_cancel_left _ (by omega)
  obtain ⟨a1, a2, a3, a4⟩ := key d1 g1 h1 k1 t1
  obtain ⟨c1, c2, c3, c4⟩ := key d2 g2 h2 k2 t2
  exact sum_any n1 d1 n2 d2 g1 g2 w h1 h2 a1 c1 a3 c3 (by rw [Int.tmod_eq_emod_of_nonneg (by omega)]; exact a3) (by rw [Int.tmod_eq_emod_of_nonneg (by omega)]; exact c3)
    (by rw [Int.tdiv_eq_ediv_of_nonneg (by omega)]; exact a4) (by rw [Int.tdiv_eq_ediv_of_nonneg (by omega)]; exact c4) a4 c4 b1 b2 ⟨k1, a2⟩ ⟨k2, c2⟩

/-- The two numbers of a width, in parts of 2000. -/
theorem width_cut (n : Int) : ∃ q e g : Int, ratV n 1000 = .agg #[.int .i64 q, .int .i64 e] ∧ 1 ≤ e ∧ 1 ≤ g ∧ e * g = 2000 ∧ q * g = 2 * n := by
  obtain ⟨q, e, g, v, f1, -, f3, -, f5, f6, -⟩ := ratV_cut n 1000 (by omega)
  exact ⟨q, e, 2 * g, v, f1, by omega, by rw [Int.mul_left_comm, f6]; rfl, by rw [Int.mul_left_comm, f5]⟩
theorem area_cut (n : Int) : ∃ q e g : Int, ratV n 2000 = .agg #[.int .i64 q, .int .i64 e] ∧ 1 ≤ e ∧ 1 ≤ g ∧ e * g = 2000 ∧ q * g = n := by
  obtain ⟨q, e, g, v, f1, -, f3, -, f5, f6, -⟩ := ratV_cut n 2000 (by omega)
  exact ⟨q, e, g, v, f1, f3, f6, f5⟩

def secN (p n u v : Int) : Int := (v - u) * p * 1000 - (v * v - u * u) * n
theorem secN_add (p n u v z : Int) : secN p n u v + secN p n v z = secN p n u z := by
  unfold secN
  have e1 : (z - u) * p * 1000 = (v - u) * p * 1000 + (z - v) * p * 1000 := by
    rw [← Int.add_mul, ← Int.add_mul]
    congr 2
    omega
  have e2 : (z * z - u * u) * n = (v * v - u * u) * n + (z * z - v * v) * n := by
    rw [← Int.add_mul]
    congr 1
    omega
  omega
theorem secN_bd {p n u v : Int} (hp : 0 ≤ p ∧ p ≤ 200000) (hn : 0 ≤ n ∧ n ≤ 6000) (hu : -200000 ≤ u ∧ u ≤ 200000) (hv : -200000 ≤ v ∧ v ≤ 200000) : -1000000000000000 ≤ secN p n u v ∧ secN p n u v ≤ 1000000000000000 := by
  have m1 := mul_bd (x := v - u) (y := p) (A := 400000) (B := 200000) (by omega) (by omega) (by omega) (by omega)
  have m2 := mul_bd (x := v) (y := v) (A := 200000) (B := 200000) (by omega) (by omega) (by omega) (by omega)
  have m3 := mul_bd (x := u) (y := u) (A := 200000) (B := 200000) (by omega) (by omega) (by omega) (by omega)
  have m4 := mul_bd (x := v * v - u * u) (y := n) (A := 80000000000) (B := 6000) (by omega) (by omega) (by omega) (by omega)
  unfold secN
  omega

theorem tooth_walk (xp xl xr xa xb xs xt : Int) (xh : Bool) (X Y Z : Int) (w : World) (m0 : (Lit.int .u16 xp).wf = true) (m1 : (Lit.int .u16 xl).wf = true) (m2 : (Lit.int .u16 xr).wf = true) (m3 : (Lit.int .u16 xa).wf = true) (m4 : (Lit.int .u16 xb).wf = true) (m5 : (Lit.int .u8 xs).wf = true) (m6 : (Lit.int .u8 xt).wf = true) (wX : (Lit.int .u16 X).wf = true) (wY : (Lit.int .u16 Y).wf = true) (wZ : (Lit.int .u16 Z).wf = true) :
    Calls Try.prog 8 #[.agg #[.int .u16 xp, .int .u16 xl, .int .u16 xr, .int .u16 xa, .int .u16 xb, .int .u8 xs, .int .u8 xt, .bool xh], .agg #[.int .u16 X, .int .u16 Y, .int .u16 Z]] w fun e w' => e = .returned (.bool true) ∧ Below w.heap.size w w' := by
  have hin := cut_in m0 m1 m2 m3 m4 m5 m6
  clear m0 m1 m2 m3 m4 m5 m6
  obtain ⟨hok, hp, hlr, hh⟩ := cut_ok xh hin
  have HFm := Lib.hid (form_any xp xl xr xa xb xs xt xh · hin)
  clear hin
  generalize cutF xp xl xr xa xb xs xt xh = f at *
  obtain ⟨p, l, r, a, b, s, h, t⟩ := f
  simp only [Form.cells] at hp hlr hh HFm
  subst hh
  obtain ⟨⟨p0, p1⟩, ⟨l0, l1⟩, ⟨r0, r1⟩, ⟨a0, a1⟩, ⟨b0, b1⟩, ⟨s0, s1⟩, t0, t1⟩ := lim_iff.1 (ok_lim hok)
  simp only at p0 p1 l0 l1 r0 r1 a0 a1 b0 b1 s0 s1 t0 t1
  have iX : 0 ≤ X ∧ X ≤ 65535 := wf_bd wX
  have iY : 0 ≤ Y ∧ Y ≤ 65535 := wf_bd wY
  have iZ : 0 ≤ Z ∧ Z ≤ 65535 := wf_bd wZ
  have H1 := fun w => at_any p l r a b s t X h w a0 a1 b0 b1 iX.1 iX.2
  have H2 := fun w => at_any p l r a b s t Y h w a0 a1 b0 b1 iY.1 iY.2
  have H3 := fun w => at_any p l r a b s t Z h w a0 a1 b0 b1 iZ.1 iZ.2
  have U1 := at_bd (x := X) a0 b0
  have U2 := at_bd (x := Y) a0 b0
  have U3 := at_bd (x := Z) a0 b0
  generalize -b + X % (a + b + 1) = u1 at *
  generalize -b + Y % (a + b + 1) = u2 at *
  generalize -b + Z % (a + b + 1) = u3 at *
  obtain ⟨x, g1⟩ : ∃ v, min (min u1 u2) u3 = v := ⟨_, rfl⟩
  obtain ⟨y, g2⟩ : ∃ v, max (min u1 u2) (min (max u1 u2) u3) = v := ⟨_, rfl⟩
  obtain ⟨z, g3⟩ : ∃ v, max (max u1 u2) u3 = v := ⟨_, rfl⟩
  have O1 : -b ≤ x ∧ x ≤ y := by omega
  have O2 : y ≤ z ∧ z ≤ a := by omega
  obtain ⟨o1, o2, o3⟩ := ok_open hok
  simp only at o1 o2 o3
  have hv : ∀ u v : Int, -b ≤ u → u ≤ v → v ≤ a → vspan u v (-b) a = true := fun u v c1 c2 c3 => decide_eq_true ⟨c1, c2, c3⟩
  obtain ⟨q1, e1, G1, v1, a11, a12, a13, a14⟩ := width_cut (500 * p - x * (l + r))
  obtain ⟨q2, e2, G2, v2, a21, a22, a23, a24⟩ := width_cut (500 * p - z * (l + r))
  obtain ⟨q3, e3, G3, v3, a31, a32, a33, a34⟩ := width_cut (500 * p - 0 * (l + r))
  obtain ⟨q4, e4, G4, v4, a41, a42, a43, a44⟩ := area_cut (secN p (l + r) x y)
  obtain ⟨q5, e5, G5, v5, a51, a52, a53, a54⟩ := area_cut (secN p (l + r) y z)
  obtain ⟨q6, e6, G6, v6, a61, a62, a63, a64⟩ := area_cut (secN p (l + r) x z)
  have W1 := fun w => width_good p l r a b s t h x w hok ⟨by omega, by omega⟩
  have W2 := fun w => width_good p l r a b s t h z w hok ⟨by omega, by omega⟩
  have W3 := fun w => width_good p l r a b s t h 0 w hok ⟨by omega, by omega⟩
  have A1 := fun w => area_good p l r a b s t h x y w hok (hv _ _ (by omega) (by omega) (by omega))
  have A2 := fun w => area_good p l r a b s t h y z w hok (hv _ _ (by omega) (by omega) (by omega))
  have A3 := fun w => area_good p l r a b s t h x z w hok (hv _ _ (by omega) (by omega) (by omega))
  rw [v1] at W1
  rw [v2] at W2
  rw [v3] at W3
  rw [show ratV ((y - x) * p * 1000 - (y * y - x * x) * (l + r)) 2000 = _ from v4] at A1
  rw [show ratV ((z - y) * p * 1000 - (z * z - y * y) * (l + r)) 2000 = _ from v5] at A2
  rw [show ratV ((z - x) * p * 1000 - (z * z - x * x) * (l + r)) 2000 = _ from v6] at A3
  have xn : -x * (l + r) ≤ b * (l + r) := Int.mul_le_mul_of_nonneg_right (by omega) (by omega)
  have xn2 : -x * (l + r) = -(x * (l + r)) := Int.neg_mul _ _
  have zn : z * (l + r) ≤ a * (l + r) := Int.mul_le_mul_of_nonneg_right (by omega) (by omega)
  have mx := mul_bd (x := x) (y := l + r) (A := 200000) (B := 6000) (by omega) (by omega) (by omega) (by omega)
  have mz := mul_bd (x := z) (y := l + r) (A := 200000) (B := 6000) (by omega) (by omega) (by omega) (by omega)
  have e0 : 2 * (z - x) * (l + r) = 2 * (z * (l + r)) - 2 * (x * (l + r)) := by rw [Int.mul_assoc, Int.sub_mul]; omega
  have en : -q2 * G2 = -(2 * (500 * p - z * (l + r))) := by rw [Int.neg_mul, a24]
  have z0 : (0 : Int) * (l + r) = 0 := Int.zero_mul _
  have hp9 : 0 ≤ p ∧ p ≤ 200000 := by omega
  have hn9 : 0 ≤ l + r ∧ l + r ≤ 6000 := by omega
  have k4 := secN_bd (u := x) (v := y) hp9 hn9 (by omega) (by omega)
  have k5 := secN_bd (u := y) (v := z) hp9 hn9 (by omega) (by omega)
  have k6 := secN_bd (u := x) (v := z) hp9 hn9 (by omega) (by omega)
  have sadd := secN_add p (l + r) x y z
  have S1 := fun w => sum_of q1 e1 (-q2) e2 G1 G2 w a11 a21 a12 a22 a13 a23 (by omega) (by omega)
  have S2 := fun w => sum_of q3 e3 q3 e3 G3 G3 w a31 a31 a32 a32 a33 a33 (by omega) (by omega)
  have S3 := fun w => sum_of q2 e2 0 1 G2 2000 w a21 (by omega) a22 (by omega) a23 (by omega) (by omega) (by omega)
  have S4 := fun w => sum_of q1 e1 0 1 G1 2000 w a11 (by omega) a12 (by omega) a13 (by omega) (by omega) (by omega)
  have S5 := fun w => sum_of q4 e4 q5 e5 G4 G5 w a41 a51 a42 a52 a43 a53 (by omega) (by omega)
  have S6 := fun w => sum_of q6 e6 0 1 G6 2000 w a61 (by omega) a62 (by omega) a63 (by omega) (by omega) (by omega)
  rw [show q1 * G1 + -q2 * G2 = 2 * (z - x) * (l + r) by omega] at S1
  rw [show q3 * G3 + q3 * G3 = 2000 * p by omega] at S2
  rw [show q2 * G2 + 0 * 2000 = 2 * (500 * p - z * (l + r)) by omega] at S3
  rw [show q1 * G1 + 0 * 2000 = 2 * (500 * p - x * (l + r)) by omega] at S4
  rw [show q4 * G4 + q5 * G5 = secN p (l + r) x z by omega] at S5
  rw [show q6 * G6 + 0 * 2000 = secN p (l + r) x z by omega] at S6
  have q2b : -1000000000000 ≤ q2 ∧ q2 ≤ 1000000000000 := by
    rcases Int.le_total 0 q2 with h9 | h9
    · have : q2 * 1 ≤ q2 * G2 := Int.mul_le_mul_of_nonneg_left a22 h9
      omega
    · have : q2 * G2 ≤ q2 * 1 := Int.mul_le_mul_of_nonpos_left h9 a22
      omega
  exact tooth_way xp xl xr xa xb xs xt h X Y Z p l r a b s t h u1 u2 u3 x y z q1 e1 q2 e2 q3 e3 q4 e4 q5 e5 q6 e6 _ _ _ HFm (Lib.hid H1) (Lib.hid H2) (Lib.hid H3) g1 g2 g3 (by omega) (by omega) (by omega) (Lib.hid W1) (Lib.hid W2) (Lib.hid W3) (Lib.hid A1) (Lib.hid A2) (Lib.hid A3) (Lib.hid S1) (Lib.hid S2) (Lib.hid S3) (Lib.hid S4) (Lib.hid S5) (Lib.hid S6) (by omega) (by omega) p0 p1 l0 l1 r0 r1 (IntWalk.i64_in _ (by omega)) (IntWalk.i64_in _ (by omega)) (IntWalk.i64_in _ (by omega)) (IntWalk.i64_in _ (by omega)) w

end Go.Proofs.Ytloleaahelmdjaa
