/- TopGaugeSwap: the tests of the law and their arithmetic. Made by tools/cxroot.py. -/
import Derived.Test.YtmekghjgkkjgoaaGSwapTN
set_option linter.unusedSimpArgs false
set_option linter.unusedVariables false
set_option maxRecDepth 100000
set_option maxHeartbeats 4000000
namespace Go.Proofs.Ytmekghjgkkjgoaa.Cx
open Go Go.RowKit

theorem gw_goal {ρ : Env} {x0 x1 x2 x3 x4 x5 x6 x7 x8 : Int} (e0 : Is ρ (.v 0) x0) (b_x0 : 0 ≤ x0 ∧ x0 ≤ 255) (e1 : Is ρ (.v 1) x1) (b_x1 : 0 ≤ x1 ∧ x1 ≤ 255) (e2 : Is ρ (.v 2) x2) (b_x2 : 0 ≤ x2 ∧ x2 ≤ 255) (e3 : Is ρ (.v 3) x3) (b_x3 : 0 ≤ x3 ∧ x3 ≤ 255) (e4 : Is ρ (.v 4) x4) (b_x4 : 0 ≤ x4 ∧ x4 ≤ 255) (e5 : Is ρ (.v 5) x5) (b_x5 : 0 ≤ x5 ∧ x5 ≤ 255) (e6 : Is ρ (.v 6) x6) (b_x6 : 0 ≤ x6 ∧ x6 ≤ 255) (e7 : Is ρ (.v 7) x7) (b_x7 : 0 ≤ x7 ∧ x7 ≤ 255) (e8 : Is ρ (.v 8) x8) (b_x8 : 0 ≤ x8 ∧ x8 ≤ 255) : gwTree.goal ρ := by
  obtain ⟨q1, r2, q1e, r2e, q1s, b_q1, b_r2⟩ := gw_aq1 b_x0
  obtain ⟨q3, r4, q3e, r4e, q3s, b_q3, b_r4⟩ := gw_aq3 b_x1
  obtain ⟨q5, r6, q5e, r6e, q5s, b_q5, b_r6⟩ := gw_aq5 b_x1
  obtain ⟨v7, v7s, b_v7⟩ := gw_av7 b_r2
  obtain ⟨z8, z8h, b_z8⟩ := gw_az8 b_v7 b_r6
  obtain ⟨m9, m9e, m9f1, m9f2, m9f3, m9f4, b_m9⟩ := gw_am9 b_r6 b_z8
  have z8s := gw_yz8 z8h m9e
  obtain ⟨m10, m10e, m10f1, m10f2, m10f3, m10f4, b_m10⟩ := gw_am10 b_r4 b_z8
  obtain ⟨w11, w11s, b_w11⟩ := gw_aw11 b_m10 b_z8
  obtain ⟨z12, z12s, b_z12⟩ := gw_az12 b_w11
  obtain ⟨w13, w13s, b_w13⟩ := gw_aw13 b_m9 b_z8
  obtain ⟨z14, z14s, b_z14⟩ := gw_az14 b_w13
  obtain ⟨u15, u15s, b_u15⟩ := gw_au15 b_z12 b_z14
  obtain ⟨u16, u16s, b_u16⟩ := gw_au16 b_u15 b_z12 b_z14
  obtain ⟨m17, m17e, m17f1, m17f2, m17f3, m17f4, b_m17⟩ := gw_am17 b_x1 b_x3
  obtain ⟨m18, m18e, m18f1, m18f2, m18f3, m18f4, b_m18⟩ := gw_am18 b_x2 b_x3
  obtain ⟨w19, w19s, b_w19⟩ := gw_aw19 b_m17 b_m18 b_x1 b_x2 b_x3
  obtain ⟨u20, u20s, b_u20⟩ := gw_au20 b_r2 b_u15 b_u16 b_z12 b_z14
  obtain ⟨m21, m21e, m21f1, m21f2, m21f3, m21f4, b_m21⟩ := gw_am21 b_x1 b_x4
  obtain ⟨m22, m22e, m22f1, m22f2, m22f3, m22f4, b_m22⟩ := gw_am22 b_x2 b_x4
  obtain ⟨w23, w23s, b_w23⟩ := gw_aw23 b_m21 b_m22 b_x4
  obtain ⟨m24, m24e, m24f1, m24f2, m24f3, m24f4, b_m24⟩ := gw_am24 b_u20 b_x1
  obtain ⟨m25, m25e, m25f1, m25f2, m25f3, m25f4, b_m25⟩ := gw_am25 b_u20 b_x2
  obtain ⟨m26, m26e, m26f1, m26f2, m26f3, m26f4, b_m26⟩ := gw_am26 b_x1 b_z12
  obtain ⟨m27, m27e, m27f1, m27f2, m27f3, m27f4, b_m27⟩ := gw_am27 b_x2 b_z12
  obtain ⟨w28, w28s, b_w28⟩ := gw_aw28 b_m21 b_m22 b_m24 b_m25 b_m26 b_m27 b_u20 b_x1 b_x2 b_x4 b_z12
  obtain ⟨q29, r30, q29e, r30e, q29s, b_q29, b_r30⟩ := gw_aq29 b_x5
  obtain ⟨r31, r31e, r31g, r31l, b_r31⟩ := gw_ar31 b_x2 b_r30
  obtain ⟨m32, m32e, m32f1, m32f2, m32f3, m32f4, b_m32⟩ := gw_am32 b_r31 b_x1
  obtain ⟨m33, m33e, m33f1, m33f2, m33f3, m33f4, b_m33⟩ := gw_am33 b_r31 b_x2
  obtain ⟨w34, w34s, b_w34⟩ := gw_aw34 b_m21 b_m22 b_m32 b_m33 b_r31 b_x4
  obtain ⟨m35, m35e, m35f1, m35f2, m35f3, m35f4, b_m35⟩ := gw_am35 b_x1 b_x6
  obtain ⟨m36, m36e, m36f1, m36f2, m36f3, m36f4, b_m36⟩ := gw_am36 b_x2 b_x6
  obtain ⟨w37, w37s, b_w37⟩ := gw_aw37 b_m21 b_m22 b_m24 b_m25 b_m26 b_m27 b_m35 b_m36 b_u20 b_x1 b_x2 b_x4 b_x6 b_z12
  obtain ⟨w38, w38s, b_w38⟩ := gw_aw38 b_m10 b_r4 b_z8
  obtain ⟨z39, z39s, b_z39⟩ := gw_az39 b_w38
  obtain ⟨w40, w40s, b_w40⟩ := gw_aw40 b_m9 b_r6 b_z8
  obtain ⟨z41, z41s, b_z41⟩ := gw_az41 b_w40
  obtain ⟨u42, u42s, b_u42⟩ := gw_au42 b_z39 b_z41
  obtain ⟨u43, u43s, b_u43⟩ := gw_au43 b_u42 b_z39 b_z41
  obtain ⟨u44, u44s, b_u44⟩ := gw_au44 b_r2 b_u42 b_u43 b_z39 b_z41
  obtain ⟨m45, m45e, m45f1, m45f2, m45f3, m45f4, b_m45⟩ := gw_am45 b_u44 b_x1
  obtain ⟨m46, m46e, m46f1, m46f2, m46f3, m46f4, b_m46⟩ := gw_am46 b_u44 b_x2
  obtain ⟨m47, m47e, m47f1, m47f2, m47f3, m47f4, b_m47⟩ := gw_am47 b_x1 b_z39
  obtain ⟨m48, m48e, m48f1, m48f2, m48f3, m48f4, b_m48⟩ := gw_am48 b_x2 b_z39
  obtain ⟨w49, w49s, b_w49⟩ := gw_aw49 b_m21 b_m22 b_m45 b_m46 b_m47 b_m48 b_u44 b_x1 b_x2 b_x4 b_z39
  obtain ⟨w50, w50s, b_w50⟩ := gw_aw50 b_m21 b_m22 b_m35 b_m36 b_m45 b_m46 b_m47 b_m48 b_u44 b_x1 b_x2 b_x4 b_x6 b_z39
  have rf1 := gw_rf1  z14s w13s z8s v7s
  have rf2 := gw_rf2 b_z12 u20s rf1 u16s
  have rf2_0 := gw_rf2_0 b_x1 rf2 m24e m26e
  have rf2_1 := gw_rf2_1 b_x2 rf2 m25e m27e
  have rf3 := gw_rf3  z41s w40s z8s v7s
  have rf4 := gw_rf4 b_r4 b_r6 b_v7 z39s z41s w38s w40s m10f2 z8s m9f4
  have rf5 := gw_rf5  u44s rf4 rf3 u42s u43s
  have rf5_0 := gw_rf5_0 b_x1 rf5 m45e m47e
  have rf5_1 := gw_rf5_1 b_x2 rf5 m46e m48e
  obtain ⟨h0, h1, h2, h5, h8, h10, h13, h14, h16, h25, h26, h35, h36, h43, h45, h48, h50, h52, h53, h55, h57, h58, h59, h62, h63, h67, h70, h73, h89, h91, h96, h98, h100, h106, h107, h116, h117, h124, h126, h129, h131, h135, h139, h140, h144⟩ := gw_g0 (ρ := ρ) e4 e0 r2e e1 r4e r6e z8h ⟨v7s⟩ m10e ⟨w11s⟩ ⟨z12s⟩ m9e ⟨w13s⟩ ⟨z14s⟩ ⟨u15s⟩ ⟨u16s⟩ e2 e3 m17e m18e ⟨w19s⟩ ⟨u20s⟩ e7 e8 m21e m22e ⟨w23s⟩ m24e m25e m26e m27e ⟨w28s⟩ e5 r30e e6 r31e m32e m33e ⟨w34s⟩ m35e m36e ⟨w37s⟩ ⟨w38s⟩ ⟨z39s⟩ ⟨w40s⟩ ⟨z41s⟩ ⟨u42s⟩ ⟨u43s⟩ ⟨u44s⟩ m45e m46e m47e m48e ⟨w49s⟩ ⟨w50s⟩ b_x4 b_x0 b_r2 b_x1 b_r4 b_r6 b_z8 b_v7 b_w11 b_m10 b_z12 b_w13 b_m9 b_z14 b_u15 b_u16 b_x2 b_x3 b_w19 b_m17 b_m18 b_u20 b_x7 b_x8 b_w23 b_m21 b_m22 b_w28 b_m24 b_m25 b_m26 b_m27 b_x5 b_r30 b_x6 b_r31 b_w34 b_m32 b_m33 b_w37 b_m35 b_m36 b_w38 b_z39 b_w40 b_z41 b_u42 b_u43 b_u44 b_w49 b_m45 b_m46 b_m47 b_m48 b_w50
  refine aT (Pleq (Zc 0) h2 (gw_t14 b_x4)) ?_
  refine aT (Pleq h2 h5 (gw_t15 b_x4 b_r2)) ?_
  refine aT (Pleq h5 (Zc 10000000) (gw_t16 b_r2 b_x4)) ?_
  refine aT (Pleq (Zc 0) h8 (gw_t17 b_r4)) ?_
  refine aT (Pleq h8 h10 (gw_t18 b_r4 b_r6)) ?_
  refine aT (Pleq h10 (Zc 10000) (gw_t19 b_r6)) ?_
  refine aT (Pleq (Zc 0) h1 (gw_t20 b_x4)) ?_
  refine aT (Pleq h1 (Zc 10000000) (gw_t21 b_x4)) ?_
  refine aT (Pleq h13 h14 (gw_t22 b_r2 b_x4)) ?_
  refine aT (Pleq (Zc 0) h16 (gw_t23 b_r2)) ?_
  refine aF (Neql h10 (Zc 0) (gw_t24 b_r6)) ?_
  refine aT (Pleq (Zc 1) h25 (gw_d0 b_r6 b_v7 z8s m9f2)) ?_
  refine aF (Nleq (Zc 100000) h25 (gw_t25 b_z8)) ?_
  refine aT (Pleq (Zc 1) h26 (gw_d0 b_r6 b_v7 z8s m9f2)) ?_
  refine aT (Pleq h26 (Zc 100000) (gw_t26 b_z8)) ?_
  refine aT (Pleq h35 h36 (gw_t27 b_x4 b_z12)) ?_
  refine aT (Pleq h45 h13 (gw_d1 b_v7 u15s z12s z14s w11s w13s m10f2 z8s m9f3 m9f4)) ?_
  refine aT (Pleq h14 h48 (gw_d2 b_v7 u15s z12s z14s w11s w13s m10f2 z8s m9f3 m9f4)) ?_
  refine aT (Pleq h50 h43 (gw_d3 b_v7 u15s u16s z12s z14s w11s w13s m10f2 z8s m9f3 m9f4)) ?_
  refine aT (Pleq h45 h48 (gw_d4 b_r2 rf3 u15s z12s z14s z41s w11s w13s w40s m10f2 m9f3 m9f4)) ?_
  refine aT (Pleq h50 h36 (gw_d5 b_r2 b_v7 rf3 u15s u16s z12s z14s z41s w11s w13s w40s m10f2 z8s m9f3 m9f4)) ?_
  refine aT (Pleq (Zc 100) h52 (gw_t28 b_x0)) ?_
  refine aT (Pleq h52 (Zc 200000) (gw_t29 b_x0)) ?_
  refine aT (Pleq (Zc 0) h53 (gw_t30 b_x1)) ?_
  refine aT (Pleq h53 (Zc 3000) (gw_t31 b_x1)) ?_
  refine aT (Pleq (Zc 0) h55 (gw_t32 b_x2)) ?_
  refine aT (Pleq h55 (Zc 3000) (gw_t33 b_x2)) ?_
  refine aT (Pleq (Zc 0) h58 (gw_t34 b_x3)) ?_
  refine aT (Pleq h58 (Zc 200000) (gw_t35 b_x3)) ?_
  refine aT (Pleq (Zc 0) h57 (gw_t36 b_x3)) ?_
  refine aT (Pleq h57 (Zc 200000) (gw_t37 b_x3)) ?_
  refine aT (Pleq (Zc 1) h59 (gw_t38 b_x3)) ?_
  refine aT (Pleq h62 h63 (gw_t39 b_w19 b_x0)) ?_
  refine aT (Pleq (Zc (-10000)) h67 (gw_t40 b_u20 b_x4 b_z12)) ?_
  refine aT (Pleq h67 (Zc 10000) (gw_t41 b_u20 b_x4 b_z12)) ?_
  refine aT (Pleq (Zc (-10000)) h0 (gw_t42 b_x4)) ?_
  refine aT (Pleq h0 (Zc 10000) (gw_t43 b_x4)) ?_
  refine aT (Pleq (Zc (-200000)) h70 (gw_t44 b_x7)) ?_
  refine aT (Pleq h70 h73 (gw_t45 b_x7 b_x8)) ?_
  refine aT (Pleq h73 (Zc 200000) (gw_t46 b_x7 b_x8)) ?_
  refine aT (Pleq (Zc 0) h89 (gw_d6 w23s w28s rf2_0 rf2_1 rf2)) ?_
  refine aT (Peql h91 (Zc 0) (gw_t47 )) ?_
  refine aF (Neql h96 (Zc 0) (gw_t48 b_r30)) ?_
  refine aT (Pleq (Zc (-10000)) h98 (gw_t49 b_u20 b_x4 b_x6 b_z12)) ?_
  refine aT (Pleq h98 (Zc 10000) (gw_t50 b_u20 b_x4 b_x6 b_z12)) ?_
  refine aT (Pleq (Zc (-10000)) h100 (gw_t51 b_r31 b_x4)) ?_
  refine aT (Pleq h100 (Zc 10000) (gw_t52 b_r31 b_x4)) ?_
  refine aT (Pleq (Zc 0) h106 (gw_d7 b_r31 b_x6 w34s w37s m32f1 m33f1 rf2_0 rf2_1 m35f1 m36f1 rf2)) ?_
  refine aT (Pleq (Zc 1) h107 (gw_t53 b_z8)) ?_
  refine aT (Pleq h107 (Zc 100000) (gw_t54 b_z8)) ?_
  refine aT (Pleq h116 h117 (gw_t55 b_x4 b_z39)) ?_
  refine aT (Pleq h126 h13 (gw_d8 b_r2 b_r4 b_r6 rf3 u42s z39s z41s w38s w40s m10f2 m9f4)) ?_
  refine aT (Pleq h14 h129 (gw_d9 b_r2 b_r4 b_r6 u42s z39s z41s rf3 w38s w40s m10f2 m9f4)) ?_
  refine aT (Pleq h131 h124 (gw_d10 b_r6 b_z39 rf1 rf5 z41s z14s u44s w40s w13s)) ?_
  refine aT (Pleq h126 h129 (gw_d11 b_r2 b_r4 b_r6 b_z39 rf3 u42s z39s z41s w38s w40s m10f2 m9f4)) ?_
  refine aT (Pleq h131 h117 (gw_d12 b_z39 rf5 u44s)) ?_
  refine aT (Pleq (Zc (-10000)) h135 (gw_t56 b_u44 b_x4 b_z39)) ?_
  refine aT (Pleq h135 (Zc 10000) (gw_t57 b_u44 b_x4 b_z39)) ?_
  refine aF (Nleq (Zc 0) h139 (gw_d13 w23s w49s m45f1 rf5_0 m46f1 rf5_1 m47f4 m48f4 rf5)) ?_
  refine aT (Pleq (Zc (-10000)) h140 (gw_t58 b_u44 b_x4 b_x6 b_z39)) ?_
  refine aT (Pleq h140 (Zc 10000) (gw_t59 b_u44 b_x4 b_x6 b_z39)) ?_
  refine ask_p (fun g => ?_) (fun g => ?_)
  · have k61 := Zleqt (Zc 0) h144 g; clear g
    exact rfl
  have k61 := Zleqf (Zc 0) h144 g; clear g
  exact rfl
end Go.Proofs.Ytmekghjgkkjgoaa.Cx
