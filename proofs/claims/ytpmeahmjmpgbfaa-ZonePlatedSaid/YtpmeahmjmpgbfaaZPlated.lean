/- ZonePlated holds: each diameter within Before is in the zone after plating whatever the thickness is, one just outside is not for some thickness, and so on, for all inputs; no condition besides the statement's own. Made by tools/gen_zplated.py. -/
import Derived.Test.YtpmeahmjmpgbfaaZPl1
import Derived.Test.YtpmeahmjmpgbfaaZPl2
namespace Go.Proofs.Ytpmeahmjmpgbfaa
open Go.ChangeShapes Go.WideShapes Go.ChangeAt Go.RowKit
set_option linter.unusedVariables false
set_option linter.unusedSimpArgs false

theorem plat_coat (s0 s1 t0 t1 n d : Int) : platB s0 s1 t0 t1 n d = (vspan s0 s1 (-20000000) 20000000 && coatB t0 t1 n d) := by
  unfold platB coatB
  simp [allB, Bool.and_assoc]
theorem upTo_le {n d x : Int} (hd : 1 ≤ d) : upTo n d ≤ x ↔ n ≤ x * d := by
  unfold upTo
  rw [← Int.lt_add_one_iff, Int.ediv_lt_iff_lt_mul (by omega), Int.add_mul]
  omega
theorem le_div {n d x : Int} (hd : 1 ≤ d) : x ≤ n / d ↔ x * d ≤ n := Int.le_ediv_iff_mul_le (by omega)
theorem upTo_add {k n d : Int} (hd : 1 ≤ d) : upTo (k * d + n) d = k + upTo n d := by
  unfold upTo
  rw [show k * d + n + d - 1 = n + d - 1 + k * d by omega, Int.add_mul_ediv_right _ _ (by omega)]
  omega
theorem div_add {k n d : Int} (hd : 1 ≤ d) : (k * d + n) / d = k + n / d := by
  rw [Int.add_comm, Int.add_mul_ediv_right _ _ (by omega)]
  omega
theorem right_iff {x s0 s1 t0 t1 n d : Int} {nut : Bool} (ht : t0 ≤ t1) (hn : 1 ≤ n) (hd : 1 ≤ d) :
    rightB x s0 s1 nut t0 t1 n d = decide (befLo nut s0 t0 t1 n d ≤ x ∧ x ≤ befHi nut s1 t0 t1 n d) := by
  have hP : t0 * n ≤ t1 * n := Int.mul_le_mul_of_nonneg_right ht (by omega)
  unfold rightB befLo befHi chLo chHi grw inB
  rw [Bool.eq_iff_iff]
  simp only [Bool.and_eq_true, decide_eq_true_eq]
  cases nut
  · rw [if_neg (by decide), if_neg (by decide), if_neg (by decide), if_neg (by decide)]
    have h1 : s0 - t0 * n / d ≤ x ↔ (s0 - x) * d ≤ t0 * n := by rw [← le_div hd]; omega
    have h2 : x ≤ s1 - upTo (t1 * n) d ↔ t1 * n ≤ (s1 - x) * d := by rw [← upTo_le hd]; omega
    rw [h1, h2, Int.sub_mul, Int.sub_mul]
    omega
  · rw [if_pos rfl, if_pos rfl, if_pos rfl, if_pos rfl]
    have h1 : s0 - -upTo (t1 * n) d ≤ x ↔ t1 * n ≤ (x - s0) * d := by rw [← upTo_le hd]; omega
    have h2 : x ≤ s1 - -(t0 * n / d) ↔ (x - s1) * d ≤ t0 * n := by rw [← le_div hd]; omega
    rw [h1, h2, Int.sub_mul, Int.sub_mul]
    omega
theorem wfb {k : IntKind} {n : Int} (h : (Lit.int k n).wf = true) : k.min ≤ n ∧ n ≤ k.max := by
  simpa [Lit.wf] using h
/-- What can be after plating has each diameter after plating. -/
theorem aft_in {nut : Bool} {x t s0 s1 t0 t1 n d : Int} (hx : s0 ≤ x ∧ x ≤ s1) (ht : t0 ≤ t ∧ t ≤ t1) (hn : 1 ≤ n) (hd : 1 ≤ d) :
    (s0 + chLo nut t0 t1 n d) * d ≤ grw nut x t n d ∧ grw nut x t n d ≤ (s1 + chHi nut t0 t1 n d) * d := by
  have a1 : s0 * d ≤ x * d := Int.mul_le_mul_of_nonneg_right hx.1 (by omega)
  have a2 : x * d ≤ s1 * d := Int.mul_le_mul_of_nonneg_right hx.2 (by omega)
  have a3 : t0 * n ≤ t * n := Int.mul_le_mul_of_nonneg_right ht.1 (by omega)
  have a4 : t * n ≤ t1 * n := Int.mul_le_mul_of_nonneg_right ht.2 (by omega)
  have a5 : t0 * n / d * d ≤ t0 * n := (le_div hd).1 (Int.le_refl _)
  have a6 : t1 * n ≤ upTo (t1 * n) d * d := (upTo_le hd).1 (Int.le_refl _)
  unfold chLo chHi grw
  cases nut
  · rw [if_neg (by decide), if_neg (by decide), if_neg (by decide), Int.add_mul, Int.add_mul]
    omega
  · rw [if_pos rfl, if_pos rfl, if_pos rfl, Int.add_mul, Int.add_mul, Int.neg_mul, Int.neg_mul]
    omega
/-- Right for both thicknesses, so for each one between. -/
theorem right_mid {nut : Bool} {x t s0 s1 t0 t1 n d : Int} (ht : t0 ≤ t ∧ t ≤ t1) (hn : 1 ≤ n) (h : rightB x s0 s1 nut t0 t1 n d = true) : inB (s0 * d) (s1 * d) (grw nut x t n d) = true := by
  have a3 : t0 * n ≤ t * n := Int.mul_le_mul_of_nonneg_right ht.1 (by omega)
  have a4 : t * n ≤ t1 * n := Int.mul_le_mul_of_nonneg_right ht.2 (by omega)
  unfold rightB inB at h
  simp only [Bool.and_eq_true, decide_eq_true_eq] at h
  obtain ⟨⟨h1, h2⟩, h3, h4⟩ := h
  unfold inB
  refine decide_eq_true ?_
  unfold grw at *
  cases nut
  · rw [if_neg (by decide)] at *
    omega
  · rw [if_pos rfl] at *
    omega
theorem mod_in {x k : Int} (h : 0 ≤ x) (hk : 1 ≤ k) : x.tmod k = x % k ∧ 0 ≤ x % k ∧ x % k < k := ⟨Int.tmod_eq_emod_of_nonneg h, Int.emod_nonneg _ (by omega), Int.emod_lt_of_pos _ (by omega)⟩
theorem prod_in {x d : Int} (hx : -1000000 ≤ x ∧ x ≤ 1000000) (hd : 1 ≤ d ∧ d ≤ 1000) : IntKind.i64.wrap (x * d) = x * d := by
  have := mul_bd (x := x) (y := d) (A := 1000000) (B := 1000) (by omega) (by omega) (by omega) (by omega)
  exact IntWalk.i64_in _ (by omega)

set_option maxRecDepth 100000 in
set_option maxHeartbeats 4000000 in
theorem plated_walk (z0 z1 x0 x1 v0 v1 v2 v3 : Int) (w : World) (wz0 : (Lit.int .u16 z0).wf = true) (wz1 : (Lit.int .u16 z1).wf = true) (wx0 : (Lit.int .u8 x0).wf = true) (wx1 : (Lit.int .u8 x1).wf = true) (wv0 : (Lit.int .u8 v0).wf = true) (wv1 : (Lit.int .u8 v1).wf = true) (wv2 : (Lit.int .u8 v2).wf = true) (wv3 : (Lit.int .u8 v3).wf = true) :
    Calls Try.prog 11 #[.agg #[.int .u16 z0, .int .u16 z1], .agg #[.int .u8 x0, .int .u8 x1], .agg #[.int .u8 v0, .int .u8 v1, .int .u8 v2, .int .u8 v3]] w fun e w' => e = .returned (.bool true) ∧ Below w.heap.size w w' := by
  have i0 : 0 ≤ z0 ∧ z0 ≤ 65535 := wfb wz0
  have i1 : 0 ≤ z1 ∧ z1 ≤ 65535 := wfb wz1
  have i2 : 0 ≤ x0 ∧ x0 ≤ 255 := wfb wx0
  have i3 : 0 ≤ x1 ∧ x1 ≤ 255 := wfb wx1
  have i4 : 0 ≤ v0 ∧ v0 ≤ 255 := wfb wv0
  have i5 : 0 ≤ v1 ∧ v1 ≤ 255 := wfb wv1
  have i6 : 0 ≤ v2 ∧ v2 ≤ 255 := wfb wv2
  have i7 : 0 ≤ v3 ∧ v3 ≤ 255 := wfb wv3
  clear wz0 wz1 wx0 wx1 wv0 wv1 wv2 wv3
  obtain ⟨R1, r1a, r1b⟩ := mod_in (x := z1) (k := 600) i1.1 (by omega)
  obtain ⟨B0, b0a, b0b⟩ := mod_in (x := v0) (k := 2) i4.1 (by omega)
  obtain ⟨R2, r2a, r2b⟩ := mod_in (x := x1) (k := 40) i3.1 (by omega)
  obtain ⟨R3, r3a, r3b⟩ := mod_in (x := v1) (k := 40) i5.1 (by omega)
  obtain ⟨R4, r4a, r4b⟩ := mod_in (x := v2) (k := 9) i6.1 (by omega)
  obtain ⟨m1, hm1⟩ : ∃ m, z1 % 600 = m := ⟨_, rfl⟩
  obtain ⟨b0, hb0⟩ : ∃ m, v0 % 2 = m := ⟨_, rfl⟩
  obtain ⟨m2, hm2⟩ : ∃ m, x1 % 40 = m := ⟨_, rfl⟩
  obtain ⟨m3, hm3⟩ : ∃ m, v1 % 40 = m := ⟨_, rfl⟩
  obtain ⟨m4, hm4⟩ : ∃ m, v2 % 9 = m := ⟨_, rfl⟩
  rw [hm1] at R1 r1a r1b
  rw [hb0] at B0 b0a b0b
  rw [hm2] at R2 r2a r2b
  rw [hm3] at R3 r3a r3b
  rw [hm4] at R4 r4a r4b
  obtain ⟨s0, hs0⟩ : ∃ s, z0 - 30000 = s := ⟨_, rfl⟩
  obtain ⟨s1, hs1⟩ : ∃ s, s0 + m1 = s := ⟨_, rfl⟩
  obtain ⟨t1, ht1⟩ : ∃ s, x0 + m2 = s := ⟨_, rfl⟩
  obtain ⟨n, hn⟩ : ∃ s, 1 + m3 = s := ⟨_, rfl⟩
  obtain ⟨d, hd⟩ : ∃ s, 1 + m4 = s := ⟨_, rfl⟩
  obtain ⟨nut, hnut⟩ : ∃ b : Bool, (b0 == 1) = b := ⟨_, rfl⟩
  have Z0 : IntKind.i64.wrap z0 = z0 := IntWalk.i64_in _ (by omega)
  have Y0 : IntKind.i64.wrap (z0 - 30000) = s0 := by rw [hs0]; exact IntWalk.i64_in _ (by omega)
  have Z1 : IntKind.i64.wrap z1 = z1 := IntWalk.i64_in _ (by omega)
  have m1w : IntKind.i64.wrap m1 = m1 := IntWalk.i64_in _ (by omega)
  have Y1 : IntKind.i64.wrap (s0 + m1) = s1 := by rw [hs1]; exact IntWalk.i64_in _ (by omega)
  have b0w : IntKind.u8.wrap b0 = b0 := by rcases (show b0 = 0 ∨ b0 = 1 by omega) with h | h <;> rw [h] <;> rfl
  have X0 : IntKind.i64.wrap x0 = x0 := IntWalk.i64_in _ (by omega)
  have X1 : IntKind.i64.wrap x1 = x1 := IntWalk.i64_in _ (by omega)
  have m2w : IntKind.i64.wrap m2 = m2 := IntWalk.i64_in _ (by omega)
  have Y2 : IntKind.i64.wrap (x0 + m2) = t1 := by rw [ht1]; exact IntWalk.i64_in _ (by omega)
  have V1 : IntKind.i64.wrap v1 = v1 := IntWalk.i64_in _ (by omega)
  have m3w : IntKind.i64.wrap m3 = m3 := IntWalk.i64_in _ (by omega)
  have Y3 : IntKind.i64.wrap (1 + m3) = n := by rw [hn]; exact IntWalk.i64_in _ (by omega)
  have V2 : IntKind.i64.wrap v2 = v2 := IntWalk.i64_in _ (by omega)
  have m4w : IntKind.i64.wrap m4 = m4 := IntWalk.i64_in _ (by omega)
  have Y4 : IntKind.i64.wrap (1 + m4) = d := by rw [hd]; exact IntWalk.i64_in _ (by omega)
  have V3 : IntKind.i64.wrap v3 = v3 := IntWalk.i64_in _ (by omega)
  have hp : platB s0 s1 x0 t1 n d = true := (plat_iff s0 s1 x0 t1 n d).2 (by omega)
  have HB := fun w => before_any nut s0 s1 x0 t1 n d w
  have HA := fun w => after_any nut s0 s1 x0 t1 n d w
  have HI1 := fun w => inside_any x0 t1 v3 w (by omega) (by omega) (by omega) (by omega)
  have HI2 := fun w => inside_any s0 s1 v2 w (by omega) (by omega) (by omega) (by omega)
  obtain ⟨-, q1, q2⟩ := mod_in (x := v3) (k := t1 - x0 + 1) i7.1 (by omega)
  obtain ⟨-, q3, q4⟩ := mod_in (x := v2) (k := s1 - s0 + 1) i6.1 (by omega)
  obtain ⟨t, ht⟩ : ∃ s, x0 + v3 % (t1 - x0 + 1) = s := ⟨_, rfl⟩
  obtain ⟨x, hx⟩ : ∃ s, s0 + v2 % (s1 - s0 + 1) = s := ⟨_, rfl⟩
  rw [ht] at HI1
  rw [hx] at HI2
  obtain ⟨g, hg⟩ : ∃ s, grw nut x t n d = s := ⟨_, rfl⟩
  have hin := aft_in (nut := nut) (x := x) (t := t) (s0 := s0) (s1 := s1) (t0 := x0) (t1 := t1) (n := n) (d := d) (by omega) (by omega) (by omega) (by omega)
  have e2 : aftV nut s0 s1 x0 t1 n d = .tuple #[spanV (s0 + chLo nut x0 t1 n d) (s1 + chHi nut x0 t1 n d), .int .i64 0] := by unfold aftV; rw [hp]; rfl
  rw [e2] at HA
  rw [hg] at hin
  have bp0 := mul_bd (x := x0) (y := n) (A := 300) (B := 50) (by omega) (by omega) (by omega) (by omega)
  have bp1 := mul_bd (x := t1) (y := n) (A := 300) (B := 50) (by omega) (by omega) (by omega) (by omega)
  have bq0 := div_bd (x := x0 * n) (d := d) (m := 15000) (by omega) (by omega)
  have bq1 := upTo_bd (n := t1 * n) (d := d) (m := 15000) (by omega) (by omega)
  have cb : -15000 ≤ chLo nut x0 t1 n d ∧ chLo nut x0 t1 n d ≤ 15000 ∧ -15000 ≤ chHi nut x0 t1 n d ∧ chHi nut x0 t1 n d ≤ 15000 := by
    unfold chLo chHi
    cases nut
    · rw [if_neg (by decide), if_neg (by decide)]; omega
    · rw [if_pos rfl, if_pos rfl]; omega
  have bl : befLo nut s0 x0 t1 n d = s0 - chLo nut x0 t1 n d := rfl
  have bh : befHi nut s1 x0 t1 n d = s1 - chHi nut x0 t1 n d := rfl
  obtain ⟨cL, hcL⟩ : ∃ c, chLo nut x0 t1 n d = c := ⟨_, rfl⟩
  obtain ⟨cH, hcH⟩ : ∃ c, chHi nut x0 t1 n d = c := ⟨_, rfl⟩
  rw [hcL] at HA hin cb bl
  rw [hcH] at HA hin cb bh
  have L1 : decide (g < (s0 + cL) * d) = false := decide_eq_false (by omega)
  have L2 : decide ((s1 + cH) * d < g) = false := decide_eq_false (by omega)
  have LW1 : IntKind.i64.wrap ((s0 + cL) * d) = (s0 + cL) * d := prod_in (by omega) (by omega)
  have LW2 : IntKind.i64.wrap ((s1 + cH) * d) = (s1 + cH) * d := prod_in (by omega) (by omega)
  have HSP : Hid ((-100000000 ≤ s0 ∧ s0 ≤ 100000000) ∧ (-100000000 ≤ s1 ∧ s1 ≤ 100000000)) := Lib.hid ⟨by omega, by omega⟩
  have hbd : ∀ {x' t' : Int}, -100000000 ≤ x' ∧ x' ≤ 100000000 → 0 ≤ t' ∧ t' ≤ 10000 → Hid ((-100000000 ≤ x' ∧ x' ≤ 100000000) ∧ (0 ≤ t' ∧ t' ≤ 10000) ∧ (1 ≤ n ∧ n ≤ 1000) ∧ (1 ≤ d ∧ d ≤ 1000)) := fun h1 h2 => Lib.hid ⟨h1, h2, by omega, by omega⟩
  have HD := hbd (x' := x) (t' := t) (by omega) (by omega)
  have hr : ∀ x' : Int, rightB x' s0 s1 nut x0 t1 n d = decide (s0 - cL ≤ x' ∧ x' ≤ s1 - cH) := fun x' => by rw [right_iff (by omega) (by omega) (by omega), bl, bh]
  by_cases he : s1 - cH < s0 - cL
  · have e1 : befV nut s0 s1 x0 t1 n d = .tuple #[.agg #[.int .i64 0, .int .i64 0], .int .i64 9] := by unfold befV; rw [hp, if_pos rfl, bl, bh, if_pos he]
    rw [e1] at HB
    have HI3 := fun w => inside_any (s0 - 2000) (s1 + 2000) z0 w (by omega) (by omega) (by omega) (by omega)
    obtain ⟨-, q5, q6⟩ := mod_in (x := z0) (k := s1 + 2000 - (s0 - 2000) + 1) i0.1 (by omega)
    obtain ⟨y, hy⟩ : ∃ s, s0 - 2000 + z0 % (s1 + 2000 - (s0 - 2000) + 1) = s := ⟨_, rfl⟩
    rw [hy] at HI3
    have hry := hr y
    rw [decide_eq_false (by omega)] at hry
    have D2 := hbd (x' := y) (t' := x0) (by omega) (by omega)
    have D3 := hbd (x' := y) (t' := t1) (by omega) (by omega)
    have Q1 : IntKind.i64.wrap (s0 - 2000) = s0 - 2000 := IntWalk.i64_in _ (by omega)
    have Q2 : IntKind.i64.wrap (s1 + 2000) = s1 + 2000 := IntWalk.i64_in _ (by omega)
    cases hb : inB (s0 * d) (s1 * d) (grw nut y x0 n d)
    · exact zpl_no0 (fun k => ([s0, s1, t1, n, d, t, x, g, y, 0, 0, m1, b0, m2, m3, m4] : List Int).getD k 0) (fun k => ([nut] : List Bool).getD k false) z0 z1 x0 x1 v0 v1 v2 v3 (s0 + cL) (s1 + cH) Z0 Y0 Z1 R1 hm1 m1w Y1 B0 hb0 b0w hnut X0 X1 R2 hm2 m2w Y2 V1 R3 hm3 m3w Y3 V2 R4 hm4 m4w Y4 V3 (Lib.hid HI1) (Lib.hid HI2) (Lib.hid hg) HD HSP L1 L2 LW1 LW2 (Lib.hid HB) (Lib.hid HA) Q1 Q2 (Lib.hid HI3) D2 D3 (Lib.hid hb) w
    · have hb2 : inB (s0 * d) (s1 * d) (grw nut y t1 n d) = false := by unfold rightB at hry; rw [hb] at hry; exact hry
      exact zpl_no1 (fun k => ([s0, s1, t1, n, d, t, x, g, y, 0, 0, m1, b0, m2, m3, m4] : List Int).getD k 0) (fun k => ([nut] : List Bool).getD k false) z0 z1 x0 x1 v0 v1 v2 v3 (s0 + cL) (s1 + cH) Z0 Y0 Z1 R1 hm1 m1w Y1 B0 hb0 b0w hnut X0 X1 R2 hm2 m2w Y2 V1 R3 hm3 m3w Y3 V2 R4 hm4 m4w Y4 V3 (Lib.hid HI1) (Lib.hid HI2) (Lib.hid hg) HD HSP L1 L2 LW1 LW2 (Lib.hid HB) (Lib.hid HA) Q1 Q2 (Lib.hid HI3) D2 D3 (Lib.hid hb) (Lib.hid hb2) w
  · have e1 : befV nut s0 s1 x0 t1 n d = .tuple #[spanV (s0 - cL) (s1 - cH), .int .i64 0] := by unfold befV; rw [hp, if_pos rfl, bl, bh, if_neg he]
    rw [e1] at HB
    obtain ⟨al, hal⟩ : ∃ s, s0 - cL = s := ⟨_, rfl⟩
    obtain ⟨ah, hah⟩ : ∃ s, s1 - cH = s := ⟨_, rfl⟩
    rw [hal] at HB hr he
    rw [hah] at HB hr he
    have hp2 : platB al ah x0 t1 n d = true := (plat_iff al ah x0 t1 n d).2 (by omega)
    have HA2 := fun w => after_any nut al ah x0 t1 n d w
    have e3 : aftV nut al ah x0 t1 n d = .tuple #[spanV (al + cL) (ah + cH), .int .i64 0] := by unfold aftV; rw [hp2, hcL, hcH]; rfl
    rw [e3] at HA2
    have HI4 := fun w => inside_any al ah z1 w (by omega) (by omega) (by omega) (by omega)
    obtain ⟨-, q5, q6⟩ := mod_in (x := z1) (k := ah - al + 1) i1.1 (by omega)
    obtain ⟨x9, hx9⟩ : ∃ s, al + z1 % (ah - al + 1) = s := ⟨_, rfl⟩
    rw [hx9] at HI4
    have hr9 := hr x9
    rw [decide_eq_true (by omega)] at hr9
    have h9 := right_mid (t := t) (by omega) (by omega) hr9
    have hL := hr (al - 1)
    rw [decide_eq_false (by omega)] at hL
    have hM := hr (ah + 1)
    rw [decide_eq_false (by omega)] at hM
    unfold rightB at hL hM
    have L3 : decide (al + cL < s0) = false := decide_eq_false (by omega)
    have L4 : decide (s1 < ah + cH) = false := decide_eq_false (by omega)
    have K1 : IntKind.i64.wrap (al - 1) = al - 1 := IntWalk.i64_in _ (by omega)
    have K2 : IntKind.i64.wrap (ah + 1) = ah + 1 := IntWalk.i64_in _ (by omega)
    have D9 := hbd (x' := x9) (t' := t) (by omega) (by omega)
    have E1 := hbd (x' := al - 1) (t' := x0) (by omega) (by omega)
    have E2 := hbd (x' := al - 1) (t' := t1) (by omega) (by omega)
    have E3 := hbd (x' := ah + 1) (t' := x0) (by omega) (by omega)
    have E4 := hbd (x' := ah + 1) (t' := t1) (by omega) (by omega)
    exact zpl_ok (fun k => ([s0, s1, t1, n, d, t, x, g, 0, x9, 0, m1, b0, m2, m3, m4] : List Int).getD k 0) (fun k => ([nut, inB (s0 * d) (s1 * d) (grw nut (al - 1) x0 n d), inB (s0 * d) (s1 * d) (grw nut (al - 1) t1 n d), inB (s0 * d) (s1 * d) (grw nut (ah + 1) x0 n d), inB (s0 * d) (s1 * d) (grw nut (ah + 1) t1 n d)] : List Bool).getD k false) z0 z1 x0 x1 v0 v1 v2 v3 al ah (s0 + cL) (s1 + cH) (al + cL) (ah + cH) Z0 Y0 Z1 R1 hm1 m1w Y1 B0 hb0 b0w hnut X0 X1 R2 hm2 m2w Y2 V1 R3 hm3 m3w Y3 V2 R4 hm4 m4w Y4 V3 (Lib.hid HI1) (Lib.hid HI2) (Lib.hid hg) HD HSP L1 L2 LW1 LW2 (Lib.hid HB) (Lib.hid HA) (Lib.hid HA2) L3 L4 (Lib.hid HI4) (Lib.hid h9) D9 K1 (Lib.hid rfl) (Lib.hid rfl) E1 E2 (Lib.hid hL) K2 (Lib.hid rfl) (Lib.hid rfl) E3 E4 (Lib.hid hM) w

theorem plated_own : ownKnob Try.prog.godebug = none := by kernel_rfl
theorem plated_laidOut : laidOutB Try.prog = true := by kernel_rfl

set_option maxRecDepth 100000 in
theorem plated_lifted (os : Os) (started : os.Started) (H : Type) (enc : TypeId × Value → H) :
    ReturnsInHanded {} Try.checked os 11 .any (Rows.zonePlatedSpec.pre6 enc Try.prog Try.f11 Rows.zonePlatedRow.domain false) (Rows.zonePlatedSpec.post enc Try.prog Try.f11 false true false false) := by
  refine returnsInHanded_of_change (C := Try.checked) plated_own started (by kernel_rfl) Try.func11
    (ChangeSpec.witness6 (enc := enc) (C := Try.checked) false ⟨#[], #[.agg #[.int .u16 0, .int .u16 0], .agg #[.int .u8 0, .int .u8 0], .agg #[.int .u8 0, .int .u8 0, .int .u8 0, .int .u8 0]], []⟩ 8 (by kernel_rfl) (by kernel_rfl) (by kernel_rfl) (by kernel_rfl)) ?_
  intro W base args ds gs before hval0 hW hcnd _
  have hval : ∀ (j : Nat) t v, Try.f11.params[j]? = some t → args[j]? = some v → Value.okWide Try.prog W .any base t v := hval0
  have hW' := hW
  obtain ⟨p, q, hA0, hV, rfl, hfz, hnd⟩ := hW
  have hA : DataW.TrodAll enc Try.prog W 0 (fun _ => true) true Try.f11.params.toList args.toList ds p := hA0
  rw [Try.params11] at hA hval
  obtain ⟨v0, vs0, d0, ds0, p0, q0, hargs, rfl, rfl, h0, r0⟩ := trodAll_cons hA
  obtain ⟨v1, vs1, d1, ds1, p1, q1, rfl, rfl, rfl, h1, r1⟩ := trodAll_cons r0
  obtain ⟨v2, vs2, d2, ds2, p2, q2, rfl, rfl, rfl, h2, r2⟩ := trodAll_cons r1
  obtain ⟨rfl, rfl, rfl⟩ := trodAll_nil r2
  obtain rfl : args = #[v0, v1, v2] := by cases args; simp_all
  obtain ⟨rfl, rfl⟩ := trodVars_none hV
  have k0 := h0
  have lt0 : ∀ x ∈ p0, x.block < W.heap.size := by obtain ⟨m, hm⟩ := k0; exact DataW.trod_lt m _ _ _ hm
  have k1 := h1
  have lt1 : ∀ x ∈ p1, x.block < W.heap.size := by obtain ⟨m, hm⟩ := k1; exact DataW.trod_lt m _ _ _ hm
  have k2 := h2
  have lt2 : ∀ x ∈ p2, x.block < W.heap.size := by obtain ⟨m, hm⟩ := k2; exact DataW.trod_lt m _ _ _ hm
  obtain ⟨z0, z1, rfl, wz0, wz1⟩ := open_two16 (hval 0 125 v0 rfl rfl) h0
  obtain ⟨x0, x1, rfl, wx0, wx1⟩ := open_two8 (hval 1 126 v1 rfl rfl) h1
  obtain ⟨v0, v1, v2, v3, rfl, wv0, wv1, wv2, wv3⟩ := open_four8 (hval 2 117 v2 rfl rfl) h2
  clear hA0 hval0
  refine (plated_walk z0 z1 x0 x1 v0 v1 v2 v3 W wz0 wz1 wx0 wx1 wv0 wv1 wv2 wv3).mono fun e W' ⟨he, bel⟩ => ?_
  subst he
  exact ⟨_, rfl, _, _, _, [], _, [], hW', trodAll_mk1 (shut_bool Try.underlying4 _), (trodAll_cons_mk (Below.trod plated_laidOut (by kernel_rfl) (of_decide_eq_true (by kernel_rfl)) k0 bel lt0) (trodAll_cons_mk (Below.trod plated_laidOut (by kernel_rfl) (of_decide_eq_true (by kernel_rfl)) k1 bel lt1) (trodAll_cons_mk (Below.trod plated_laidOut (by kernel_rfl) (of_decide_eq_true (by kernel_rfl)) k2 bel lt2) trodAll_mk0))), rfl, bel.frame _, fun h => by cases h⟩

theorem plated_over : Rows.zonePlatedRow.holds Try.pinned (OpenSpec.ofChange Rows.zonePlatedSpec) :=
  OpenClaim.holds_of_wide 11 Try.f11 rfl rfl rfl rfl rfl rfl rfl ⟨rfl, rfl, rfl, rfl, rfl⟩ rfl rfl rfl rfl rfl (by kernel_rfl) Try.func11 (by kernel_rfl)
    (of_decide_eq_true (by kernel_rfl)) (by unfold Func.isWrapper; rw [if_neg (of_decide_eq_false (by kernel_rfl))]; exact ⟨rfl, rfl⟩)
    (fun os started H enc _ => plated_lifted os started H enc)

theorem plated_proved : Rows.ZonePlatedSaid := plated_over
#print axioms plated_proved
end Go.Proofs.Ytpmeahmjmpgbfaa
