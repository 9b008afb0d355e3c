/- bolt.Learn: true frictions lie in what it returns. Made by tools/cxvc.py. -/
import Derived.Test.YtknphpihipkdpaaBLearnSTN
set_option linter.unusedSimpArgs false
set_option linter.unusedVariables false
set_option maxRecDepth 100000
set_option maxHeartbeats 4000000
namespace Go.Proofs.Ytknphpihipkdpaa.Cx
open Go Go.RowKit

set_option maxRecDepth 100000 in
theorem bles_goal {x0 x1 x2 x3 x4 x5 x6 x7 x8 x9 x10 x11 x12 x13 x14 x15 x16 x17 x18 x19 : Int} (b_x0 : 1 ≤ x0 ∧ x0 ≤ 100000) (b_x1 : 0 ≤ x1 ∧ x1 ≤ 100000) (b_x2 : 0 ≤ x2 ∧ x2 ≤ 100000) (b_x3 : 0 ≤ x3 ∧ x3 ≤ 1000) (b_x4 : 0 ≤ x4 ∧ x4 ≤ 1000) (b_x5 : 0 ≤ x5 ∧ x5 ≤ 1000) (b_x6 : 0 ≤ x6 ∧ x6 ≤ 1000) (b_x7 : 1 ≤ x7 ∧ x7 ≤ 100000000) (b_x8 : 1 ≤ x8 ∧ x8 ≤ 100000000) (b_x9 : 1 ≤ x9 ∧ x9 ≤ 100000) (b_x10 : 1 ≤ x10 ∧ x10 ≤ 100000) (b_x11 : 1 ≤ x11 ∧ x11 ≤ 100000000) (b_x12 : 1 ≤ x12 ∧ x12 ≤ 100000000) (b_x13 : 0 ≤ x13 ∧ x13 ≤ 10000000000000) (b_x14 : 0 ≤ x14 ∧ x14 ≤ 10000000000000) (b_x15 : 0 ≤ x15 ∧ x15 ≤ 100000000) (b_x16 : 0 ≤ x16 ∧ x16 ≤ 100000000) (b_x17 : 0 ≤ x17 ∧ x17 ≤ 1000) (b_x18 : 0 ≤ x18 ∧ x18 ≤ 1000) (b_x19 : 1000 ≤ x19 ∧ x19 ≤ 300000000) (v0 : x3 ≤ x4) (v1 : x5 ≤ x6) (v5 : x13 ≤ x14) (v6 : x15 ≤ x16) (v7 : x3 ≤ x17) (v8 : x17 ≤ x4) (v9 : x5 ≤ x18) (v10 : x18 ≤ x6) (v2 : x7 ≤ x8) (v3 : x9 ≤ x10) (v4 : x11 ≤ x12) (ha : x19 = 1000 * x0 + x1 * x17 + x2 * x18) (h1 : 1000 * x13 + 1 ≤ x16 * x19 + x19) (h2 : x15 * x19 ≤ 1000 * x14) : ((blesVT x0 x1 x2 x3 x4 x5 x6 x7 x8 x9 x10 x11 x12 x13 x14 x15 x16 x17 x18 x19).dt (endQ (bleInv x0 x1 x2 x3 x4 x5 x6 x7 x8 x9 x10 x11 x12 x13 x14 x15 x16 x17 x18 x19) (blePost x0 x1 x2 x3 x4 x5 x6 x7 x8 x9 x10 x11 x12 x13 x14 x15 x16 x17 x18 x19))).goal (blesEnv x0 x1 x2 x3 x4 x5 x6 x7 x8 x9 x10 x11 x12 x13 x14 x15 x16 x17 x18 x19) := by
  have e0 : Is (blesEnv x0 x1 x2 x3 x4 x5 x6 x7 x8 x9 x10 x11 x12 x13 x14 x15 x16 x17 x18 x19) (.v 0) x0 := ⟨rfl⟩
  have e1 : Is (blesEnv x0 x1 x2 x3 x4 x5 x6 x7 x8 x9 x10 x11 x12 x13 x14 x15 x16 x17 x18 x19) (.v 1) x1 := ⟨rfl⟩
  have e2 : Is (blesEnv x0 x1 x2 x3 x4 x5 x6 x7 x8 x9 x10 x11 x12 x13 x14 x15 x16 x17 x18 x19) (.v 2) x2 := ⟨rfl⟩
  have e3 : Is (blesEnv x0 x1 x2 x3 x4 x5 x6 x7 x8 x9 x10 x11 x12 x13 x14 x15 x16 x17 x18 x19) (.v 3) x3 := ⟨rfl⟩
  have e4 : Is (blesEnv x0 x1 x2 x3 x4 x5 x6 x7 x8 x9 x10 x11 x12 x13 x14 x15 x16 x17 x18 x19) (.v 4) x4 := ⟨rfl⟩
  have e5 : Is (blesEnv x0 x1 x2 x3 x4 x5 x6 x7 x8 x9 x10 x11 x12 x13 x14 x15 x16 x17 x18 x19) (.v 5) x5 := ⟨rfl⟩
  have e6 : Is (blesEnv x0 x1 x2 x3 x4 x5 x6 x7 x8 x9 x10 x11 x12 x13 x14 x15 x16 x17 x18 x19) (.v 6) x6 := ⟨rfl⟩
  have e7 : Is (blesEnv x0 x1 x2 x3 x4 x5 x6 x7 x8 x9 x10 x11 x12 x13 x14 x15 x16 x17 x18 x19) (.v 7) x7 := ⟨rfl⟩
  have e8 : Is (blesEnv x0 x1 x2 x3 x4 x5 x6 x7 x8 x9 x10 x11 x12 x13 x14 x15 x16 x17 x18 x19) (.v 8) x8 := ⟨rfl⟩
  have e9 : Is (blesEnv x0 x1 x2 x3 x4 x5 x6 x7 x8 x9 x10 x11 x12 x13 x14 x15 x16 x17 x18 x19) (.v 9) x9 := ⟨rfl⟩
  have e10 : Is (blesEnv x0 x1 x2 x3 x4 x5 x6 x7 x8 x9 x10 x11 x12 x13 x14 x15 x16 x17 x18 x19) (.v 10) x10 := ⟨rfl⟩
  have e11 : Is (blesEnv x0 x1 x2 x3 x4 x5 x6 x7 x8 x9 x10 x11 x12 x13 x14 x15 x16 x17 x18 x19) (.v 11) x11 := ⟨rfl⟩
  have e12 : Is (blesEnv x0 x1 x2 x3 x4 x5 x6 x7 x8 x9 x10 x11 x12 x13 x14 x15 x16 x17 x18 x19) (.v 12) x12 := ⟨rfl⟩
  have e13 : Is (blesEnv x0 x1 x2 x3 x4 x5 x6 x7 x8 x9 x10 x11 x12 x13 x14 x15 x16 x17 x18 x19) (.v 13) x13 := ⟨rfl⟩
  have e14 : Is (blesEnv x0 x1 x2 x3 x4 x5 x6 x7 x8 x9 x10 x11 x12 x13 x14 x15 x16 x17 x18 x19) (.v 14) x14 := ⟨rfl⟩
  have e15 : Is (blesEnv x0 x1 x2 x3 x4 x5 x6 x7 x8 x9 x10 x11 x12 x13 x14 x15 x16 x17 x18 x19) (.v 15) x15 := ⟨rfl⟩
  have e16 : Is (blesEnv x0 x1 x2 x3 x4 x5 x6 x7 x8 x9 x10 x11 x12 x13 x14 x15 x16 x17 x18 x19) (.v 16) x16 := ⟨rfl⟩
  have e17 : Is (blesEnv x0 x1 x2 x3 x4 x5 x6 x7 x8 x9 x10 x11 x12 x13 x14 x15 x16 x17 x18 x19) (.v 17) x17 := ⟨rfl⟩
  have e18 : Is (blesEnv x0 x1 x2 x3 x4 x5 x6 x7 x8 x9 x10 x11 x12 x13 x14 x15 x16 x17 x18 x19) (.v 18) x18 := ⟨rfl⟩
  have e19 : Is (blesEnv x0 x1 x2 x3 x4 x5 x6 x7 x8 x9 x10 x11 x12 x13 x14 x15 x16 x17 x18 x19) (.v 19) x19 := ⟨rfl⟩
  unfold blesVT
  simp only [VT.dt, askN]
  obtain ⟨m1, m1e, m1f1, m1f2, m1f3, m1f4, b_m1⟩ := bles_am1 b_x1 b_x4
  obtain ⟨w2, w2s, b_w2⟩ := bles_aw2 b_m1
  obtain ⟨m3, m3e, m3f1, m3f2, m3f3, m3f4, b_m3⟩ := bles_am3 b_x2 b_x6
  obtain ⟨w4, w4s, b_w4⟩ := bles_aw4 b_m3
  obtain ⟨w5, w5s, b_w5⟩ := bles_aw5 b_x14
  obtain ⟨q6, q6e, q6h, b_q6⟩ := bles_aq6 b_w5 b_x15
  obtain ⟨m7, m7e, m7f1, m7f2, m7f3, m7f4, b_m7⟩ := bles_am7 b_q6 b_x15
  have q6d := qZ_is q6h m7e.out
  obtain ⟨u8, u8s, b_u8⟩ := bles_au8 b_q6 b_w2 b_w4 b_x0
  obtain ⟨m9, m9e, m9f1, m9f2, m9f3, m9f4, b_m9⟩ := bles_am9 b_x1 b_x17
  obtain ⟨m10, m10e, m10f1, m10f2, m10f3, m10f4, b_m10⟩ := bles_am10 b_x18 b_x2
  have rf1 : x19 = 1000 * x0 + m9 + m10 := by
    have h := ha
    rw [m9e.out, (Int.mul_comm x2 x18).trans m10e.out] at h
    exact h
  obtain ⟨m11, m11e, m11f1, m11f2, m11f3, m11f4, b_m11⟩ := bles_am11 b_x16 b_x19
  have rf2 : 1000 * x13 + 1 ≤ m11 + x19 := by
    have h := h1
    rw [m11e.out] at h
    exact h
  obtain ⟨m12, m12e, m12f1, m12f2, m12f3, m12f4, b_m12⟩ := bles_am12 b_x15 b_x19
  have rf3 : m12 ≤ 1000 * x14 := by
    have h := h2
    rw [m12e.out] at h
    exact h
  have rf4 := bles_rf4  v7
  obtain ⟨m13, m13e, m13f1, m13f2, m13f3, m13f4, b_m13⟩ := bles_am13 b_x1 b_x3
  have rf4_0 := bles_rf4_0 b_x1 rf4 m9e m13e
  have rf5 := bles_rf5  v8
  have rf5_0 := bles_rf5_0 b_x1 rf5 m9e m1e
  have rf6 := bles_rf6  v9
  obtain ⟨m14, m14e, m14f1, m14f2, m14f3, m14f4, b_m14⟩ := bles_am14 b_x2 b_x5
  have rf6_0 := bles_rf6_0 b_x2 rf6 m10e m14e
  have rf7 := bles_rf7  v10
  have rf7_0 := bles_rf7_0 b_x2 rf7 m10e m3e
  have rf8 := bles_rf8 b_x15 q6h m12e
  obtain ⟨h4, h7, h8⟩ := bles_g0 (ρ := blesEnv x0 x1 x2 x3 x4 x5 x6 x7 x8 x9 x10 x11 x12 x13 x14 x15 x16 x17 x18 x19) e1 e4 m1e ⟨w2s⟩ e2 e6 m3e ⟨w4s⟩ e0 e14 e15 q6e ⟨w5s⟩ ⟨u8s⟩ e16 b_x1 b_x4 b_w2 b_m1 b_x2 b_x6 b_w4 b_m3 b_x0 b_x14 b_x15 b_q6 b_w5 b_u8 b_x16
  refine aF (Nleq e0 (Zc 0) (bles_t1 b_x0)) ?_
  refine aT (Pleq (Zc 0) e0 (bles_t2 b_x0)) ?_
  refine aT (Pleq e0 (Zc 100000) (bles_t3 b_x0)) ?_
  refine aT (Pleq (Zc 0) e1 (bles_t4 b_x1)) ?_
  refine aT (Pleq e1 (Zc 100000) (bles_t5 b_x1)) ?_
  refine aT (Pleq (Zc 0) e2 (bles_t6 b_x2)) ?_
  refine aT (Pleq e2 (Zc 100000) (bles_t7 b_x2)) ?_
  refine aT (Pleq (Zc 0) e3 (bles_t8 b_x3)) ?_
  refine aT (Pleq e3 e4 (bles_d0 v0)) ?_
  refine aT (Pleq e4 (Zc 1000) (bles_t10 b_x4)) ?_
  refine aT (Pleq (Zc 0) e5 (bles_t11 b_x5)) ?_
  refine aT (Pleq e5 e6 (bles_d1 v1)) ?_
  refine aT (Pleq e6 (Zc 1000) (bles_t13 b_x6)) ?_
  refine aT (Pleq (Zc 1) e7 (bles_t14 b_x7)) ?_
  refine aT (Pleq e7 e8 (bles_d2 v2)) ?_
  refine aT (Pleq e8 (Zc 100000000) (bles_t16 b_x8)) ?_
  refine aT (Pleq (Zc 1) e9 (bles_t17 b_x9)) ?_
  refine aT (Pleq e9 e10 (bles_d3 v3)) ?_
  refine aT (Pleq e10 (Zc 100000) (bles_t19 b_x10)) ?_
  refine aT (Pleq (Zc 1) e11 (bles_t20 b_x11)) ?_
  refine aT (Pleq e11 e12 (bles_d4 v4)) ?_
  refine aT (Pleq e12 (Zc 100000000) (bles_t22 b_x12)) ?_
  refine aT (Pleq (Zc 0) e13 (bles_t23 b_x13)) ?_
  refine aT (Pleq e13 e14 (bles_d5 v5)) ?_
  refine aT (Pleq e14 (Zc 10000000000000) (bles_t25 b_x14)) ?_
  refine aT (Pleq (Zc 0) e15 (bles_t26 b_x15)) ?_
  refine aT (Pleq e15 e16 (bles_d6 v6)) ?_
  refine aT (Pleq e16 (Zc 100000000) (bles_t28 b_x16)) ?_
  refine aF (Neql h8 (Zc 0) (bles_t29 b_x16)) ?_
  refine ask_p (fun g => ?_) (fun g => ?_)
  · have k7 := Zleqt e15 (Zc 0) g; clear g
    exact endQ_next (ble_mkn00 rfl rfl rfl rfl rfl ((IE.Z_den _ bles4).trans h4.out) ⟨(bles_d7 b_x3), (bles_d8), (bles_d9), (bles_d8), (bles_d9), (bles_d10 b_w2 b_w4 b_x0), (bles_d11), (bles_d12 rf1 w2s w4s rf5_0 rf7_0), (bles_d13 v0), (bles_d14 v7), (bles_d15)⟩)
  have k7 := Zleqf e15 (Zc 0) g; clear g
  refine aF (Neql e15 (Zc 0) (bles_d16 k7)) ?_
  exact endQ_next (ble_mkn00 rfl rfl rfl rfl rfl ((IE.Z_den _ bles7).trans h7.out) ⟨(bles_d7 b_x3), (bles_d8), (bles_d9), (bles_d8), (bles_d9), (bles_d17 b_q6 b_w2 b_w4 b_x0 u8s), (bles_d11), (bles_d18 b_w5 rf1 rf8 u8s k7 rf5_0 rf7_0 rf3 w5s w2s w4s), (bles_d13 v0), (bles_d14 v7), (bles_d15)⟩)
theorem bles_sat {x0 x1 x2 x3 x4 x5 x6 x7 x8 x9 x10 x11 x12 x13 x14 x15 x16 x17 x18 x19 : Int} (b_x0 : 1 ≤ x0 ∧ x0 ≤ 100000) (b_x1 : 0 ≤ x1 ∧ x1 ≤ 100000) (b_x2 : 0 ≤ x2 ∧ x2 ≤ 100000) (b_x3 : 0 ≤ x3 ∧ x3 ≤ 1000) (b_x4 : 0 ≤ x4 ∧ x4 ≤ 1000) (b_x5 : 0 ≤ x5 ∧ x5 ≤ 1000) (b_x6 : 0 ≤ x6 ∧ x6 ≤ 1000) (b_x7 : 1 ≤ x7 ∧ x7 ≤ 100000000) (b_x8 : 1 ≤ x8 ∧ x8 ≤ 100000000) (b_x9 : 1 ≤ x9 ∧ x9 ≤ 100000) (b_x10 : 1 ≤ x10 ∧ x10 ≤ 100000) (b_x11 : 1 ≤ x11 ∧ x11 ≤ 100000000) (b_x12 : 1 ≤ x12 ∧ x12 ≤ 100000000) (b_x13 : 0 ≤ x13 ∧ x13 ≤ 10000000000000) (b_x14 : 0 ≤ x14 ∧ x14 ≤ 10000000000000) (b_x15 : 0 ≤ x15 ∧ x15 ≤ 100000000) (b_x16 : 0 ≤ x16 ∧ x16 ≤ 100000000) (b_x17 : 0 ≤ x17 ∧ x17 ≤ 1000) (b_x18 : 0 ≤ x18 ∧ x18 ≤ 1000) (b_x19 : 1000 ≤ x19 ∧ x19 ≤ 300000000) (v0 : x3 ≤ x4) (v1 : x5 ≤ x6) (v5 : x13 ≤ x14) (v6 : x15 ≤ x16) (v7 : x3 ≤ x17) (v8 : x17 ≤ x4) (v9 : x5 ≤ x18) (v10 : x18 ≤ x6) (v2 : x7 ≤ x8) (v3 : x9 ≤ x10) (v4 : x11 ≤ x12) (ha : x19 = 1000 * x0 + x1 * x17 + x2 * x18) (h1 : 1000 * x13 + 1 ≤ x16 * x19 + x19) (h2 : x15 * x19 ≤ 1000 * x14) : ∃ l, (ablD0 x0 x1 x2 x3 x4 x5 x6 x7 x8 x9 x10 x11 x12 x13 x14 x15 x16).eval = some l ∧ (endQ (bleInv x0 x1 x2 x3 x4 x5 x6 x7 x8 x9 x10 x11 x12 x13 x14 x15 x16 x17 x18 x19) (blePost x0 x1 x2 x3 x4 x5 x6 x7 x8 x9 x10 x11 x12 x13 x14 x15 x16 x17 x18 x19)) l = true := by
  rw [bles_eq]
  exact VT.eval_of _ (bles_goal b_x0 b_x1 b_x2 b_x3 b_x4 b_x5 b_x6 b_x7 b_x8 b_x9 b_x10 b_x11 b_x12 b_x13 b_x14 b_x15 b_x16 b_x17 b_x18 b_x19 v0 v1 v5 v6 v7 v8 v9 v10 v2 v3 v4 ha h1 h2)
end Go.Proofs.Ytknphpihipkdpaa.Cx
