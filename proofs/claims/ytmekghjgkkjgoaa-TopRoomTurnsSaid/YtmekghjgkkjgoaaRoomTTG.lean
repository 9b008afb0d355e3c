/- TopRoomTurns: the tests of the law and their arithmetic. Made by tools/cxroot.py. -/
import Derived.Test.YtmekghjgkkjgoaaRoomTTN
set_option linter.unusedSimpArgs false
set_option linter.unusedVariables false
set_option maxRecDepth 100000
set_option maxHeartbeats 4000000
namespace Go.Proofs.Ytmekghjgkkjgoaa.Cx
open Go Go.RowKit

theorem rt_goal {ρ : Env} {x0 x1 x2 x3 x4 x5 x6 x7 x8 x9 x10 x11 : Int} (e0 : Is ρ (.v 0) x0) (b_x0 : 0 ≤ x0 ∧ x0 ≤ 255) (e1 : Is ρ (.v 1) x1) (b_x1 : 0 ≤ x1 ∧ x1 ≤ 255) (e2 : Is ρ (.v 2) x2) (b_x2 : 0 ≤ x2 ∧ x2 ≤ 255) (e3 : Is ρ (.v 3) x3) (b_x3 : 0 ≤ x3 ∧ x3 ≤ 255) (e4 : Is ρ (.v 4) x4) (b_x4 : 0 ≤ x4 ∧ x4 ≤ 255) (e5 : Is ρ (.v 5) x5) (b_x5 : 0 ≤ x5 ∧ x5 ≤ 255) (e6 : Is ρ (.v 6) x6) (b_x6 : 0 ≤ x6 ∧ x6 ≤ 255) (e7 : Is ρ (.v 7) x7) (b_x7 : 0 ≤ x7 ∧ x7 ≤ 255) (e8 : Is ρ (.v 8) x8) (b_x8 : 0 ≤ x8 ∧ x8 ≤ 255) (e9 : Is ρ (.v 9) x9) (b_x9 : 0 ≤ x9 ∧ x9 ≤ 255) (e10 : Is ρ (.v 10) x10) (b_x10 : 0 ≤ x10 ∧ x10 ≤ 255) (e11 : Is ρ (.v 11) x11) (b_x11 : 0 ≤ x11 ∧ x11 ≤ 255) : rtTree.goal ρ := by
  obtain ⟨m1, m1e, m1f1, m1f2, m1f3, m1f4, b_m1⟩ := rt_am1 b_x1 b_x3
  obtain ⟨m2, m2e, m2f1, m2f2, m2f3, m2f4, b_m2⟩ := rt_am2 b_x2 b_x3
  obtain ⟨w3, w3s, b_w3⟩ := rt_aw3 b_m1 b_m2 b_x1 b_x2 b_x3
  obtain ⟨m4, m4e, m4f1, m4f2, m4f3, m4f4, b_m4⟩ := rt_am4 b_x5 b_x7
  obtain ⟨m5, m5e, m5f1, m5f2, m5f3, m5f4, b_m5⟩ := rt_am5 b_x6 b_x7
  obtain ⟨w6, w6s, b_w6⟩ := rt_aw6 b_m4 b_m5 b_x5 b_x6 b_x7
  obtain ⟨m7, m7e, m7f1, m7f2, m7f3, m7f4, b_m7⟩ := rt_am7 b_x1 b_x8
  obtain ⟨m8, m8e, m8f1, m8f2, m8f3, m8f4, b_m8⟩ := rt_am8 b_x5 b_x8
  obtain ⟨w9, w9s, b_w9⟩ := rt_aw9 b_m7 b_m8 b_x1 b_x5
  obtain ⟨m10, m10e, m10f1, m10f2, m10f3, m10f4, b_m10⟩ := rt_am10 b_x1 b_x9
  obtain ⟨m11, m11e, m11f1, m11f2, m11f3, m11f4, b_m11⟩ := rt_am11 b_x5 b_x9
  obtain ⟨w12, w12s, b_w12⟩ := rt_aw12 b_m10 b_m11 b_m7 b_m8 b_x1 b_x5
  obtain ⟨u13, u13s, b_u13⟩ := rt_au13 b_w12 b_w9
  obtain ⟨m14, m14e, m14f1, m14f2, m14f3, m14f4, b_m14⟩ := rt_am14 b_x2 b_x8
  obtain ⟨m15, m15e, m15f1, m15f2, m15f3, m15f4, b_m15⟩ := rt_am15 b_x6 b_x8
  obtain ⟨w16, w16s, b_w16⟩ := rt_aw16 b_m14 b_m15 b_x2 b_x6
  obtain ⟨m17, m17e, m17f1, m17f2, m17f3, m17f4, b_m17⟩ := rt_am17 b_x2 b_x9
  obtain ⟨m18, m18e, m18f1, m18f2, m18f3, m18f4, b_m18⟩ := rt_am18 b_x6 b_x9
  obtain ⟨w19, w19s, b_w19⟩ := rt_aw19 b_m14 b_m15 b_m17 b_m18 b_x2 b_x6
  obtain ⟨u20, u20s, b_u20⟩ := rt_au20 b_w16 b_w19
  obtain ⟨m21, m21e, m21f1, m21f2, m21f3, m21f4, b_m21⟩ := rt_am21 b_x10 b_x11
  obtain ⟨w22, w22s, b_w22⟩ := rt_aw22 b_m21
  obtain ⟨q23, r24, q23e, r24e, q23s, b_q23, b_r24⟩ := rt_aq23 b_w22
  obtain ⟨m25, m25e, m25f1, m25f2, m25f3, m25f4, b_m25⟩ := rt_am25 b_q23 b_x1
  obtain ⟨m26, m26e, m26f1, m26f2, m26f3, m26f4, b_m26⟩ := rt_am26 b_q23 b_x2
  obtain ⟨w27, w27s, b_w27⟩ := rt_aw27 b_m25 b_m26 b_q23
  obtain ⟨v28, v28s, b_v28⟩ := rt_av28 b_u13 b_u20 b_w12 b_w19
  obtain ⟨z29, z29h, b_z29⟩ := rt_az29 b_v28 b_x1 b_x2
  obtain ⟨m30, m30e, m30f1, m30f2, m30f3, m30f4, b_m30⟩ := rt_am30 b_x1 b_z29
  obtain ⟨m31, m31e, m31f1, m31f2, m31f3, m31f4, b_m31⟩ := rt_am31 b_x2 b_z29
  have z29s := rt_yz29 z29h m30e m31e
  obtain ⟨w32, w32s, b_w32⟩ := rt_aw32 b_m30 b_m31 b_z29
  obtain ⟨h2, h4, h6, h8, h9, h10, h12, h13, h14, h16, h18, h20, h21, h22, h25, h28, h31, h40, h44, h45, h53, h55, h59, h64, h65, h69⟩ := rt_g0 (ρ := ρ) e0 e1 e2 e3 m1e m2e w3s e5 e6 e7 m4e m5e w6s e8 e9 m7e m8e w9s m10e m11e w12s u13s m14e m15e w16s m17e m18e w19s u20s e10 e11 m21e w22s q23e m25e m26e w27s z29h v28s m30e m31e w32s b_x0 b_x1 b_x2 b_x3 b_w3 b_m1 b_m2 b_x5 b_x6 b_x7 b_w6 b_m4 b_m5 b_x8 b_x9 b_w9 b_m7 b_m8 b_w12 b_m10 b_m11 b_u13 b_w16 b_m14 b_m15 b_w19 b_m17 b_m18 b_u20 b_x10 b_x11 b_w22 b_m21 b_q23 b_w27 b_m25 b_m26 b_z29 b_v28 b_w32 b_m30 b_m31
  refine aT (Pleq (Zc 100) h2 (rt_t1 b_x0)) ?_
  refine aT (Pleq h2 (Zc 200000) (rt_t2 b_x0)) ?_
  refine aT (Pleq (Zc 0) h4 (rt_t3 b_x1)) ?_
  refine aT (Pleq h4 (Zc 3000) (rt_t4 b_x1)) ?_
  refine aT (Pleq (Zc 0) h6 (rt_t5 b_x2)) ?_
  refine aT (Pleq h6 (Zc 3000) (rt_t6 b_x2)) ?_
  refine aT (Pleq (Zc 0) h9 (rt_t7 b_x3)) ?_
  refine aT (Pleq h9 (Zc 200000) (rt_t8 b_x3)) ?_
  refine aT (Pleq (Zc 0) h8 (rt_t9 b_x3)) ?_
  refine aT (Pleq h8 (Zc 200000) (rt_t10 b_x3)) ?_
  refine aT (Pleq (Zc 1) h10 (rt_t11 b_x3)) ?_
  refine aT (Pleq h13 h14 (rt_t12 b_w3 b_x0)) ?_
  refine aT (Pleq (Zc 0) h16 (rt_t13 b_x5)) ?_
  refine aT (Pleq h16 (Zc 3000) (rt_t14 b_x5)) ?_
  refine aT (Pleq (Zc 0) h18 (rt_t15 b_x6)) ?_
  refine aT (Pleq h18 (Zc 3000) (rt_t16 b_x6)) ?_
  refine aT (Pleq (Zc 0) h21 (rt_t17 b_x7)) ?_
  refine aT (Pleq h21 (Zc 200000) (rt_t18 b_x7)) ?_
  refine aT (Pleq (Zc 0) h20 (rt_t19 b_x7)) ?_
  refine aT (Pleq h20 (Zc 200000) (rt_t20 b_x7)) ?_
  refine aT (Pleq (Zc 1) h22 (rt_t21 b_x7)) ?_
  refine aT (Pleq h25 h14 (rt_t22 b_w6 b_x0)) ?_
  refine aT (Pleq (Zc (-200000)) h28 (rt_t23 b_x8)) ?_
  refine aT (Pleq h28 h31 (rt_t24 b_x8 b_x9)) ?_
  refine aT (Pleq h31 (Zc 200000) (rt_t25 b_x8 b_x9)) ?_
  refine ask_p (fun g => ?_) (fun g => ?_)
  · have k25 := Zleqt h40 (Zc 0) g; clear g
    refine aT (Pleq (Zc (-10000)) h45 (rt_t26 b_q23)) ?_
    refine aT (Pleq h45 (Zc 10000) (rt_t27 b_q23)) ?_
    refine aT (Pleq (Zc 0) h53 (rt_d1 b_w27 k25)) ?_
    refine aT (Peql h55 (Zc 0) (rt_t29 )) ?_
    refine aT (Pleq (Zc 0) h44 (rt_t30 b_q23)) ?_
    refine aT (Pleq (Zc 0) h59 (rt_d2 k25)) ?_
    exact rfl
  have k25 := Zleqf h40 (Zc 0) g; clear g
  refine aF (Neql h12 (Zc 0) (rt_t32 b_x1 b_x2)) ?_
  refine aT (Pleq (Zc (-10000)) h45 (rt_t26 b_q23)) ?_
  refine aT (Pleq h45 (Zc 10000) (rt_t27 b_q23)) ?_
  refine ask_p (fun g => ?_) (fun g => ?_)
  · have k29 := Zleqt (Zc 0) h53 g; clear g
    refine aT (Peql h55 (Zc 0) (rt_t29 )) ?_
    refine aT (Pleq h64 h44 (rt_d3 b_x1 b_x2 z29s v28s k29 w27s m25e m30e m26e m31e)) ?_
    refine aT (Pleq (Zc (-10000)) h65 (rt_t34 b_z29)) ?_
    refine aT (Pleq h65 (Zc 10000) (rt_t35 b_z29)) ?_
    refine aT (Pleq (Zc 0) h69 (rt_d0 w32s z29s v28s)) ?_
    exact rfl
  have k29 := Zleqf (Zc 0) h53 g; clear g
  refine aF (Nleq h64 h44 (rt_d4 b_x1 b_x2 z29s v28s k29 w27s m25e m30e m26e m31e)) ?_
  refine aT (Pleq (Zc (-10000)) h65 (rt_t34 b_z29)) ?_
  refine aT (Pleq h65 (Zc 10000) (rt_t35 b_z29)) ?_
  refine aT (Pleq (Zc 0) h69 (rt_d0 w32s z29s v28s)) ?_
  refine aT (Peql h55 (Zc 0) (rt_t29 )) ?_
  exact rfl
end Go.Proofs.Ytmekghjgkkjgoaa.Cx
