/- BoltLoosening: the tests of the law and their arithmetic. Made by tools/cxroot.py. -/
import Derived.Test.YtknphpihipkdpaaBLoosTN
set_option linter.unusedSimpArgs false
set_option linter.unusedVariables false
set_option maxRecDepth 100000
set_option maxHeartbeats 4000000
namespace Go.Proofs.Ytknphpihipkdpaa.Cx
open Go Go.RowKit

theorem bl_goal {ρ : Env} {x0 x1 x2 x3 x4 x5 x6 x7 x8 x9 x10 x11 x12 x13 x14 x15 x16 x17 x18 x19 x20 x21 x22 x23 x24 x25 x26 : Int} (e0 : Is ρ (.v 0) x0) (b_x0 : 0 ≤ x0 ∧ x0 ≤ 255) (e1 : Is ρ (.v 1) x1) (b_x1 : 0 ≤ x1 ∧ x1 ≤ 255) (e2 : Is ρ (.v 2) x2) (b_x2 : 0 ≤ x2 ∧ x2 ≤ 255) (e3 : Is ρ (.v 3) x3) (b_x3 : 0 ≤ x3 ∧ x3 ≤ 255) (e4 : Is ρ (.v 4) x4) (b_x4 : 0 ≤ x4 ∧ x4 ≤ 255) (e5 : Is ρ (.v 5) x5) (b_x5 : 0 ≤ x5 ∧ x5 ≤ 255) (e6 : Is ρ (.v 6) x6) (b_x6 : 0 ≤ x6 ∧ x6 ≤ 255) (e7 : Is ρ (.v 7) x7) (b_x7 : 0 ≤ x7 ∧ x7 ≤ 255) (e8 : Is ρ (.v 8) x8) (b_x8 : 0 ≤ x8 ∧ x8 ≤ 255) (e9 : Is ρ (.v 9) x9) (b_x9 : 0 ≤ x9 ∧ x9 ≤ 255) (e10 : Is ρ (.v 10) x10) (b_x10 : 0 ≤ x10 ∧ x10 ≤ 255) (e11 : Is ρ (.v 11) x11) (b_x11 : 0 ≤ x11 ∧ x11 ≤ 255) (e12 : Is ρ (.v 12) x12) (b_x12 : 0 ≤ x12 ∧ x12 ≤ 255) (e13 : Is ρ (.v 13) x13) (b_x13 : 0 ≤ x13 ∧ x13 ≤ 255) (e14 : Is ρ (.v 14) x14) (b_x14 : 0 ≤ x14 ∧ x14 ≤ 65535) (e15 : Is ρ (.v 15) x15) (b_x15 : 0 ≤ x15 ∧ x15 ≤ 65535) (e16 : Is ρ (.v 16) x16) (b_x16 : 0 ≤ x16 ∧ x16 ≤ 65535) (e17 : Is ρ (.v 17) x17) (b_x17 : 0 ≤ x17 ∧ x17 ≤ 65535) (e18 : Is ρ (.v 18) x18) (b_x18 : 0 ≤ x18 ∧ x18 ≤ 255) (e19 : Is ρ (.v 19) x19) (b_x19 : 0 ≤ x19 ∧ x19 ≤ 255) (e20 : Is ρ (.v 20) x20) (b_x20 : 0 ≤ x20 ∧ x20 ≤ 255) (e21 : Is ρ (.v 21) x21) (b_x21 : 0 ≤ x21 ∧ x21 ≤ 255) (e22 : Is ρ (.v 22) x22) (b_x22 : 0 ≤ x22 ∧ x22 ≤ 255) (e23 : Is ρ (.v 23) x23) (b_x23 : 0 ≤ x23 ∧ x23 ≤ 255) (e24 : Is ρ (.v 24) x24) (b_x24 : 0 ≤ x24 ∧ x24 ≤ 255) (e25 : Is ρ (.v 25) x25) (b_x25 : 0 ≤ x25 ∧ x25 ≤ 255) (e26 : Is ρ (.v 26) x26) (b_x26 : 0 ≤ x26 ∧ x26 ≤ 65535) : blTree.goal ρ := by
  obtain ⟨q1, r2, q1e, r2e, q1s, b_q1, b_r2⟩ := bl_aq1 b_x4
  obtain ⟨q3, r4, q3e, r4e, q3s, b_q3, b_r4⟩ := bl_aq3 b_x6
  obtain ⟨q5, r6, q5e, r6e, q5s, b_q5, b_r6⟩ := bl_aq5 b_x10
  obtain ⟨m7, m7e, m7f1, m7f2, m7f3, m7f4, b_m7⟩ := bl_am7 b_r2 b_x18
  obtain ⟨w8, w8s, b_w8⟩ := bl_aw8 b_m7
  obtain ⟨q9, r10, q9e, r10e, q9s, b_q9, b_r10⟩ := bl_aq9 b_w8
  obtain ⟨m11, m11e, m11f1, m11f2, m11f3, m11f4, b_m11⟩ := bl_am11 b_r4 b_x19
  obtain ⟨w12, w12s, b_w12⟩ := bl_aw12 b_m11
  obtain ⟨q13, r14, q13e, r14e, q13s, b_q13, b_r14⟩ := bl_aq13 b_w12
  obtain ⟨m15, m15e, m15f1, m15f2, m15f3, m15f4, b_m15⟩ := bl_am15 b_x1 b_x3
  obtain ⟨w16, w16s, b_w16⟩ := bl_aw16 b_m15
  obtain ⟨m17, m17e, m17f1, m17f2, m17f3, m17f4, b_m17⟩ := bl_am17 b_x2 b_x5
  obtain ⟨w18, w18s, b_w18⟩ := bl_aw18 b_m17
  obtain ⟨u19, u19s, b_u19⟩ := bl_au19 b_w16 b_w18 b_x0
  obtain ⟨m20, m20e, m20f1, m20f2, m20f3, m20f4, b_m20⟩ := bl_am20 b_u19 b_x26
  obtain ⟨w21, w21s, b_w21⟩ := bl_aw21 b_m20
  obtain ⟨z22, z22s, b_z22⟩ := bl_az22 b_w21
  obtain ⟨m23, m23e, m23f1, m23f2, m23f3, m23f4, b_m23⟩ := bl_am23 b_r2 b_x1
  obtain ⟨w24, w24s, b_w24⟩ := bl_aw24 b_m15 b_m23
  obtain ⟨m25, m25e, m25f1, m25f2, m25f3, m25f4, b_m25⟩ := bl_am25 b_r4 b_x2
  obtain ⟨w26, w26s, b_w26⟩ := bl_aw26 b_m17 b_m25
  obtain ⟨u27, u27s, b_u27⟩ := bl_au27 b_w24 b_w26 b_x0
  obtain ⟨m28, m28e, m28f1, m28f2, m28f3, m28f4, b_m28⟩ := bl_am28 b_u27 b_x26
  obtain ⟨w29, w29s, b_w29⟩ := bl_aw29 b_m28
  obtain ⟨z30, z30s, b_z30⟩ := bl_az30 b_w29
  obtain ⟨m31, m31e, m31f1, m31f2, m31f3, m31f4, b_m31⟩ := bl_am31 b_q9 b_x1
  obtain ⟨w32, w32s, b_w32⟩ := bl_aw32 b_m15 b_m31
  obtain ⟨m33, m33e, m33f1, m33f2, m33f3, m33f4, b_m33⟩ := bl_am33 b_q13 b_x2
  obtain ⟨w34, w34s, b_w34⟩ := bl_aw34 b_m17 b_m33
  obtain ⟨u35, u35s, b_u35⟩ := bl_au35 b_w32 b_w34 b_x0
  obtain ⟨m36, m36e, m36f1, m36f2, m36f3, m36f4, b_m36⟩ := bl_am36 b_u35 b_x26
  obtain ⟨w37, w37s, b_w37⟩ := bl_aw37 b_m36
  obtain ⟨z38, z38s, b_z38⟩ := bl_az38 b_w37
  obtain ⟨m39, m39e, m39f1, m39f2, m39f3, m39f4, b_m39⟩ := bl_am39 b_w32 b_x26
  obtain ⟨m40, m40e, m40f1, m40f2, m40f3, m40f4, b_m40⟩ := bl_am40 b_w34 b_x26
  obtain ⟨m41, m41e, m41f1, m41f2, m41f3, m41f4, b_m41⟩ := bl_am41 b_x0 b_x26
  obtain ⟨w42, w42s, b_w42⟩ := bl_aw42 b_m39 b_m40 b_m41 b_x26
  obtain ⟨z43, z43s, b_z43⟩ := bl_az43 b_w42
  have rf1 := bl_rf1 b_r10 q9s w8s m7f4
  have rf1_0 := bl_rf1_0 b_x1 rf1 m31e m23e
  have rf2 := bl_rf2 b_r14 q13s w12s m11f4
  have rf2_0 := bl_rf2_0 b_x2 rf2 m33e m25e
  have rf3 := bl_rf3  u27s u35s w24s w26s w32s w34s rf1_0 rf2_0
  have rf3_0 := bl_rf3_0 b_x26 rf3 m28e m36e
  have rf4 := bl_rf4  u19s u35s w16s w18s w32s w34s m31f1 m33f1
  have rf4_0 := bl_rf4_0 b_x26 rf4 m20e m36e
  have rf5 := bl_rf5 b_w32 b_w34 b_x0 u35s
  have rf5_0 := bl_rf5_0 b_x26 rf5 m36e m39e m40e m41e
  have rf6 := bl_rf6 b_x26 u19s m20e
  obtain ⟨h2, h4, h6, h7, h10, h11, h14, h17, h20, h22, h25, h28, h31, h32, h37, h42, h48, h55, h59, h66, h77, h84⟩ := bl_g0 (ρ := ρ) e0 e1 e2 e3 e4 r2e e5 e6 r4e e7 e8 e9 e10 r6e e11 e12 e26 e18 m7e ⟨w8s⟩ q9e e19 m11e ⟨w12s⟩ q13e m15e ⟨w16s⟩ m17e ⟨w18s⟩ ⟨u19s⟩ m20e ⟨w21s⟩ ⟨z22s⟩ m23e ⟨w24s⟩ m25e ⟨w26s⟩ ⟨u27s⟩ m28e ⟨w29s⟩ ⟨z30s⟩ m31e ⟨w32s⟩ m33e ⟨w34s⟩ ⟨u35s⟩ m36e ⟨w37s⟩ ⟨z38s⟩ m39e m40e m41e ⟨w42s⟩ ⟨z43s⟩ b_x0 b_x1 b_x2 b_x3 b_x4 b_r2 b_x5 b_x6 b_r4 b_x7 b_x8 b_x9 b_x10 b_r6 b_x11 b_x12 b_x26 b_x18 b_w8 b_m7 b_q9 b_x19 b_w12 b_m11 b_q13 b_w16 b_m15 b_w18 b_m17 b_u19 b_w21 b_m20 b_z22 b_w24 b_m23 b_w26 b_m25 b_u27 b_w29 b_m28 b_z30 b_w32 b_m31 b_w34 b_m33 b_u35 b_w37 b_m36 b_z38 b_w42 b_m39 b_m40 b_m41 b_z43
  refine aF (Nleq h2 (Zc 0) (bl_t3 b_x0)) ?_
  refine aT (Pleq (Zc 0) h2 (bl_t4 b_x0)) ?_
  refine aT (Pleq h2 (Zc 100000) (bl_t5 b_x0)) ?_
  refine aT (Pleq (Zc 0) h4 (bl_t6 b_x1)) ?_
  refine aT (Pleq h4 (Zc 100000) (bl_t7 b_x1)) ?_
  refine aT (Pleq (Zc 0) h6 (bl_t8 b_x2)) ?_
  refine aT (Pleq h6 (Zc 100000) (bl_t9 b_x2)) ?_
  refine aT (Pleq (Zc 0) h7 (bl_t10 b_x3)) ?_
  refine aT (Pleq h7 h10 (bl_t11 b_x3 b_r2)) ?_
  refine aT (Pleq h10 (Zc 1000) (bl_t12 b_r2 b_x3)) ?_
  refine aT (Pleq (Zc 0) h11 (bl_t13 b_x5)) ?_
  refine aT (Pleq h11 h14 (bl_t14 b_x5 b_r4)) ?_
  refine aT (Pleq h14 (Zc 1000) (bl_t15 b_r4 b_x5)) ?_
  refine aT (Pleq (Zc 1) h17 (bl_t16 b_x7)) ?_
  refine aT (Pleq h17 h20 (bl_t17 b_x7 b_x8)) ?_
  refine aT (Pleq h20 (Zc 100000000) (bl_t18 b_x7 b_x8)) ?_
  refine aT (Pleq (Zc 1) h22 (bl_t19 b_x9)) ?_
  refine aT (Pleq h22 h25 (bl_t20 b_x9 b_r6)) ?_
  refine aT (Pleq h25 (Zc 100000) (bl_t21 b_r6 b_x9)) ?_
  refine aT (Pleq (Zc 1) h28 (bl_t22 b_x11)) ?_
  refine aT (Pleq h28 h31 (bl_t23 b_x11 b_x12)) ?_
  refine aT (Pleq h31 (Zc 100000000) (bl_t24 b_x11 b_x12)) ?_
  refine aT (Pleq (Zc 0) h32 (bl_t25 b_x26)) ?_
  refine aT (Pleq h32 (Zc 100000000) (bl_t26 b_x26)) ?_
  refine aT (Pleq (Zc 0) h37 (bl_t27 b_q9 b_x3)) ?_
  refine aT (Pleq h37 (Zc 1000) (bl_t28 b_q9 b_x3)) ?_
  refine aT (Pleq (Zc 0) h42 (bl_t29 b_q13 b_x5)) ?_
  refine aT (Pleq h42 (Zc 1000) (bl_t30 b_q13 b_x5)) ?_
  refine aT (Pleq (Zc 0) h55 (bl_t31 b_z22)) ?_
  refine aT (Pleq h55 h66 (bl_d0 z22s z30s w21s w29s rf4_0 rf3_0)) ?_
  refine ask_q (fun g => ?_) (fun g => ?_)
  · have k30 := Zleqf h48 (Zc 0) g; clear g
    refine aF (Nleq h59 (Zc 0) (bl_d3 k30 w24s w26s w16s w18s m23f1 m25f1)) ?_
    refine bl_c0 h55 h77 z22s z38s w21s w37s rf4_0 h66 z30s w29s rf3_0  ?_
    refine ask_p (fun g => ?_) (fun g => ?_)
    · have k32 := Zleqt h32 (Zc 0) g; clear g
      refine aT (Peql h32 (Zc 0) (bl_d4 b_x26 k32)) ?_
      refine aT (Peql h77 (Zc 0) (bl_d5 b_z38 z38s w37s m36f3 k32)) ?_
      exact rfl
    have k32 := Zleqf h32 (Zc 0) g; clear g
    refine aF (Nleq h84 h77 (bl_d6 z43s z38s w42s w37s k32 rf5_0)) ?_
    refine aF (Neql h32 (Zc 0) (bl_d7 k32)) ?_
    refine aF (Nleq h55 (Zc 0) (bl_d8 z22s w21s rf6 k30 k32)) ?_
    exact rfl
  have k30 := Zleqt h48 (Zc 0) g; clear g
  refine bl_c0 h55 h77 z22s z38s w21s w37s rf4_0 h66 z30s w29s rf3_0  ?_
  refine ask_p (fun g => ?_) (fun g => ?_)
  · have k31 := Zleqt h32 (Zc 0) g; clear g
    refine aT (Peql h32 (Zc 0) (bl_d4 b_x26 k31)) ?_
    refine aT (Peql h77 (Zc 0) (bl_d5 b_z38 z38s w37s m36f3 k31)) ?_
    refine ask_q (fun g => ?_) (fun g => ?_)
    · have k34 := Zleqf h59 (Zc 0) g; clear g
      exact rfl
    have k34 := Zleqt h59 (Zc 0) g; clear g
    refine aT (Peql h66 (Zc 0) (bl_d9 b_z30 z30s w29s m28f3 k31)) ?_
    exact rfl
  have k31 := Zleqf h32 (Zc 0) g; clear g
  refine aF (Nleq h84 h77 (bl_d6 z43s z38s w42s w37s k31 rf5_0)) ?_
  refine aF (Neql h32 (Zc 0) (bl_d7 k31)) ?_
  refine ask_q (fun g => ?_) (fun g => ?_)
  · have k34 := Zleqf h59 (Zc 0) g; clear g
    exact rfl
  have k34 := Zleqt h59 (Zc 0) g; clear g
  refine aT (Peql h66 (Zc 0) (bl_d10 b_z30 z30s w29s m28f4 u27s k34)) ?_
  exact rfl
end Go.Proofs.Ytknphpihipkdpaa.Cx
