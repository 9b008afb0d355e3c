/- BoltEnough: the tests of the law and their arithmetic. Made by tools/cxroot.py. -/
import Derived.Test.YtknphpihipkdpaaBEnoughTN
set_option linter.unusedSimpArgs false
set_option linter.unusedVariables false
set_option maxRecDepth 100000
set_option maxHeartbeats 4000000
namespace Go.Proofs.Ytknphpihipkdpaa.Cx
open Go Go.RowKit

theorem be_goal {ρ : Env} {x0 x1 x2 x3 x4 x5 x6 x7 x8 x9 x10 x11 x12 x13 x14 x15 x16 x17 x18 x19 x20 x21 x22 x23 x24 x25 x26 x27 x28 : Int} (e0 : Is ρ (.v 0) x0) (b_x0 : 0 ≤ x0 ∧ x0 ≤ 255) (e1 : Is ρ (.v 1) x1) (b_x1 : 0 ≤ x1 ∧ x1 ≤ 255) (e2 : Is ρ (.v 2) x2) (b_x2 : 0 ≤ x2 ∧ x2 ≤ 255) (e3 : Is ρ (.v 3) x3) (b_x3 : 0 ≤ x3 ∧ x3 ≤ 255) (e4 : Is ρ (.v 4) x4) (b_x4 : 0 ≤ x4 ∧ x4 ≤ 255) (e5 : Is ρ (.v 5) x5) (b_x5 : 0 ≤ x5 ∧ x5 ≤ 255) (e6 : Is ρ (.v 6) x6) (b_x6 : 0 ≤ x6 ∧ x6 ≤ 255) (e7 : Is ρ (.v 7) x7) (b_x7 : 0 ≤ x7 ∧ x7 ≤ 255) (e8 : Is ρ (.v 8) x8) (b_x8 : 0 ≤ x8 ∧ x8 ≤ 255) (e9 : Is ρ (.v 9) x9) (b_x9 : 0 ≤ x9 ∧ x9 ≤ 255) (e10 : Is ρ (.v 10) x10) (b_x10 : 0 ≤ x10 ∧ x10 ≤ 255) (e11 : Is ρ (.v 11) x11) (b_x11 : 0 ≤ x11 ∧ x11 ≤ 255) (e12 : Is ρ (.v 12) x12) (b_x12 : 0 ≤ x12 ∧ x12 ≤ 255) (e13 : Is ρ (.v 13) x13) (b_x13 : 0 ≤ x13 ∧ x13 ≤ 255) (e14 : Is ρ (.v 14) x14) (b_x14 : 0 ≤ x14 ∧ x14 ≤ 65535) (e15 : Is ρ (.v 15) x15) (b_x15 : 0 ≤ x15 ∧ x15 ≤ 65535) (e16 : Is ρ (.v 16) x16) (b_x16 : 0 ≤ x16 ∧ x16 ≤ 65535) (e17 : Is ρ (.v 17) x17) (b_x17 : 0 ≤ x17 ∧ x17 ≤ 65535) (e18 : Is ρ (.v 18) x18) (b_x18 : 0 ≤ x18 ∧ x18 ≤ 255) (e19 : Is ρ (.v 19) x19) (b_x19 : 0 ≤ x19 ∧ x19 ≤ 255) (e20 : Is ρ (.v 20) x20) (b_x20 : 0 ≤ x20 ∧ x20 ≤ 255) (e21 : Is ρ (.v 21) x21) (b_x21 : 0 ≤ x21 ∧ x21 ≤ 255) (e22 : Is ρ (.v 22) x22) (b_x22 : 0 ≤ x22 ∧ x22 ≤ 255) (e23 : Is ρ (.v 23) x23) (b_x23 : 0 ≤ x23 ∧ x23 ≤ 255) (e24 : Is ρ (.v 24) x24) (b_x24 : 0 ≤ x24 ∧ x24 ≤ 255) (e25 : Is ρ (.v 25) x25) (b_x25 : 0 ≤ x25 ∧ x25 ≤ 255) (e26 : Is ρ (.v 26) x26) (b_x26 : 0 ≤ x26 ∧ x26 ≤ 4294967295) (e27 : Is ρ (.v 27) x27) (b_x27 : 0 ≤ x27 ∧ x27 ≤ 255) (e28 : Is ρ (.v 28) x28) (b_x28 : 0 ≤ x28 ∧ x28 ≤ 255) : beTree.goal ρ := by
  obtain ⟨q1, r2, q1e, r2e, q1s, b_q1, b_r2⟩ := be_aq1 b_x4
  obtain ⟨q3, r4, q3e, r4e, q3s, b_q3, b_r4⟩ := be_aq3 b_x6
  obtain ⟨q5, r6, q5e, r6e, q5s, b_q5, b_r6⟩ := be_aq5 b_x10
  obtain ⟨q7, r8, q7e, r8e, q7s, b_q7, b_r8⟩ := be_aq7 b_x26
  obtain ⟨m9, m9e, m9f1, m9f2, m9f3, m9f4, b_m9⟩ := be_am9 b_x1 b_x27
  obtain ⟨w10, w10s, b_w10⟩ := be_aw10 b_m9
  obtain ⟨m11, m11e, m11f1, m11f2, m11f3, m11f4, b_m11⟩ := be_am11 b_x2 b_x28
  obtain ⟨w12, w12s, b_w12⟩ := be_aw12 b_m11
  obtain ⟨m13, m13e, m13f1, m13f2, m13f3, m13f4, b_m13⟩ := be_am13 b_r8 b_w10
  obtain ⟨m14, m14e, m14f1, m14f2, m14f3, m14f4, b_m14⟩ := be_am14 b_r8 b_w12
  obtain ⟨m15, m15e, m15f1, m15f2, m15f3, m15f4, b_m15⟩ := be_am15 b_r8 b_x0
  obtain ⟨w16, w16s, b_w16⟩ := be_aw16 b_m13 b_m14 b_m15 b_r8
  obtain ⟨z17, z17s, b_z17⟩ := be_az17 b_w16
  obtain ⟨w18, w18s, b_w18⟩ := be_aw18 b_z17
  obtain ⟨w19, w19s, b_w19⟩ := be_aw19 b_w10 b_w12 b_x0
  obtain ⟨q20, q20e, q20h, b_q20⟩ := be_aq20 b_w18 b_w19
  obtain ⟨m21, m21e, m21f1, m21f2, m21f3, m21f4, b_m21⟩ := be_am21 b_q20 b_w19
  have q20d := qD_is q20h m21e.out
  obtain ⟨w22, w22s, b_w22⟩ := be_aw22 b_z17
  obtain ⟨q23, q23e, q23h, b_q23⟩ := be_aq23 b_w22 b_w19
  obtain ⟨m24, m24e, m24f1, m24f2, m24f3, m24f4, b_m24⟩ := be_am24 b_q23 b_w19
  have q23d := qD_is q23h m24e.out
  have rf1 := be_rf1 b_w19 q20h m13e m14e m15e w19s
  have rf2 := be_rf2 b_w19 q23h m13e m14e m15e w19s
  obtain ⟨h2, h4, h6, h7, h10, h11, h14, h17, h20, h22, h25, h28, h31, h33, h35, h37, h48, h49, h52, h53, h56⟩ := be_g0 (ρ := ρ) e0 e1 e2 e3 e4 r2e e5 e6 r4e e7 e8 e9 e10 r6e e11 e12 e26 r8e e27 e28 m9e ⟨w10s⟩ m11e ⟨w12s⟩ m13e m14e m15e ⟨w16s⟩ ⟨z17s⟩ q20e ⟨w18s⟩ ⟨w19s⟩ q23e ⟨w22s⟩ b_x0 b_x1 b_x2 b_x3 b_x4 b_r2 b_x5 b_x6 b_r4 b_x7 b_x8 b_x9 b_x10 b_r6 b_x11 b_x12 b_x26 b_r8 b_x27 b_x28 b_w10 b_m9 b_w12 b_m11 b_w16 b_m13 b_m14 b_m15 b_z17 b_q20 b_w18 b_w19 b_q23 b_w22
  refine aF (Nleq h2 (Zc 0) (be_t1 b_x0)) ?_
  refine aT (Pleq (Zc 0) h2 (be_t2 b_x0)) ?_
  refine aT (Pleq h2 (Zc 100000) (be_t3 b_x0)) ?_
  refine aT (Pleq (Zc 0) h4 (be_t4 b_x1)) ?_
  refine aT (Pleq h4 (Zc 100000) (be_t5 b_x1)) ?_
  refine aT (Pleq (Zc 0) h6 (be_t6 b_x2)) ?_
  refine aT (Pleq h6 (Zc 100000) (be_t7 b_x2)) ?_
  refine aT (Pleq (Zc 0) h7 (be_t8 b_x3)) ?_
  refine aT (Pleq h7 h10 (be_t9 b_x3 b_r2)) ?_
  refine aT (Pleq h10 (Zc 1000) (be_t10 b_r2 b_x3)) ?_
  refine aT (Pleq (Zc 0) h11 (be_t11 b_x5)) ?_
  refine aT (Pleq h11 h14 (be_t12 b_x5 b_r4)) ?_
  refine aT (Pleq h14 (Zc 1000) (be_t13 b_r4 b_x5)) ?_
  refine aT (Pleq (Zc 1) h17 (be_t14 b_x7)) ?_
  refine aT (Pleq h17 h20 (be_t15 b_x7 b_x8)) ?_
  refine aT (Pleq h20 (Zc 100000000) (be_t16 b_x7 b_x8)) ?_
  refine aT (Pleq (Zc 1) h22 (be_t17 b_x9)) ?_
  refine aT (Pleq h22 h25 (be_t18 b_x9 b_r6)) ?_
  refine aT (Pleq h25 (Zc 100000) (be_t19 b_r6 b_x9)) ?_
  refine aT (Pleq (Zc 1) h28 (be_t20 b_x11)) ?_
  refine aT (Pleq h28 h31 (be_t21 b_x11 b_x12)) ?_
  refine aT (Pleq h31 (Zc 100000000) (be_t22 b_x11 b_x12)) ?_
  refine aT (Pleq (Zc 0) h33 (be_t23 b_r8)) ?_
  refine aT (Pleq h33 (Zc 100000000) (be_t24 b_r8)) ?_
  refine aT (Pleq (Zc 0) h35 (be_t25 b_x27)) ?_
  refine aT (Pleq h35 (Zc 1000) (be_t26 b_x27)) ?_
  refine aT (Pleq (Zc 0) h37 (be_t27 b_x28)) ?_
  refine aT (Pleq h37 (Zc 1000) (be_t28 b_x28)) ?_
  refine aT (Pleq (Zc 0) h48 (be_t29 b_z17)) ?_
  refine aT (Pleq h48 (Zc 10000000000000) (be_t30 b_z17)) ?_
  refine aF (Neql h49 (Zc 0) (be_t31 b_w10 b_w12 b_x0)) ?_
  refine aT (Pleq h33 h52 (be_d0 b_w18 rf1 w18s z17s w16s)) ?_
  refine ask_p (fun g => ?_) (fun g => ?_)
  · have k32 := Zeqlt h48 (Zc 0) g; clear g
    refine aT (Peql h33 (Zc 0) (be_d1 b_r8 m13f1 m14f1 m15f1 k32 z17s w16s)) ?_
    exact rfl
  have k32 := Zeqlf h48 (Zc 0) g; clear g
  refine aT (Pleq (Zc 0) h53 (be_d2 b_z17 k32)) ?_
  refine aT (Pleq h53 (Zc 10000000000000) (be_t34 b_z17)) ?_
  refine aF (Nleq h33 h56 (be_d3 b_z17 rf2 w22s k32 z17s w16s)) ?_
  exact rfl
end Go.Proofs.Ytknphpihipkdpaa.Cx
