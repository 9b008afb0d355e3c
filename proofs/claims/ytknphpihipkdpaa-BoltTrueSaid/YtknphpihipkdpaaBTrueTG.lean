/- BoltTrue: the tests of the law and their arithmetic. Made by tools/cxroot.py. -/
import Derived.Test.YtknphpihipkdpaaBTrueTN
set_option linter.unusedSimpArgs false
set_option linter.unusedVariables false
set_option maxRecDepth 100000
set_option maxHeartbeats 4000000
namespace Go.Proofs.Ytknphpihipkdpaa.Cx
open Go Go.RowKit

theorem bt_goal {ρ : Env} {x0 x1 x2 x3 x4 x5 x6 x7 x8 x9 x10 x11 x12 x13 x14 x15 x16 x17 x18 x19 x20 x21 x22 x23 x24 x25 x26 x27 : Int} (e0 : Is ρ (.v 0) x0) (b_x0 : 0 ≤ x0 ∧ x0 ≤ 255) (e1 : Is ρ (.v 1) x1) (b_x1 : 0 ≤ x1 ∧ x1 ≤ 255) (e2 : Is ρ (.v 2) x2) (b_x2 : 0 ≤ x2 ∧ x2 ≤ 255) (e3 : Is ρ (.v 3) x3) (b_x3 : 0 ≤ x3 ∧ x3 ≤ 255) (e4 : Is ρ (.v 4) x4) (b_x4 : 0 ≤ x4 ∧ x4 ≤ 255) (e5 : Is ρ (.v 5) x5) (b_x5 : 0 ≤ x5 ∧ x5 ≤ 255) (e6 : Is ρ (.v 6) x6) (b_x6 : 0 ≤ x6 ∧ x6 ≤ 255) (e7 : Is ρ (.v 7) x7) (b_x7 : 0 ≤ x7 ∧ x7 ≤ 255) (e8 : Is ρ (.v 8) x8) (b_x8 : 0 ≤ x8 ∧ x8 ≤ 255) (e9 : Is ρ (.v 9) x9) (b_x9 : 0 ≤ x9 ∧ x9 ≤ 255) (e10 : Is ρ (.v 10) x10) (b_x10 : 0 ≤ x10 ∧ x10 ≤ 255) (e11 : Is ρ (.v 11) x11) (b_x11 : 0 ≤ x11 ∧ x11 ≤ 255) (e12 : Is ρ (.v 12) x12) (b_x12 : 0 ≤ x12 ∧ x12 ≤ 255) (e13 : Is ρ (.v 13) x13) (b_x13 : 0 ≤ x13 ∧ x13 ≤ 255) (e14 : Is ρ (.v 14) x14) (b_x14 : 0 ≤ x14 ∧ x14 ≤ 65535) (e15 : Is ρ (.v 15) x15) (b_x15 : 0 ≤ x15 ∧ x15 ≤ 65535) (e16 : Is ρ (.v 16) x16) (b_x16 : 0 ≤ x16 ∧ x16 ≤ 65535) (e17 : Is ρ (.v 17) x17) (b_x17 : 0 ≤ x17 ∧ x17 ≤ 65535) (e18 : Is ρ (.v 18) x18) (b_x18 : 0 ≤ x18 ∧ x18 ≤ 255) (e19 : Is ρ (.v 19) x19) (b_x19 : 0 ≤ x19 ∧ x19 ≤ 255) (e20 : Is ρ (.v 20) x20) (b_x20 : 0 ≤ x20 ∧ x20 ≤ 255) (e21 : Is ρ (.v 21) x21) (b_x21 : 0 ≤ x21 ∧ x21 ≤ 255) (e22 : Is ρ (.v 22) x22) (b_x22 : 0 ≤ x22 ∧ x22 ≤ 255) (e23 : Is ρ (.v 23) x23) (b_x23 : 0 ≤ x23 ∧ x23 ≤ 255) (e24 : Is ρ (.v 24) x24) (b_x24 : 0 ≤ x24 ∧ x24 ≤ 255) (e25 : Is ρ (.v 25) x25) (b_x25 : 0 ≤ x25 ∧ x25 ≤ 255) (e26 : Is ρ (.v 26) x26) (b_x26 : 0 ≤ x26 ∧ x26 ≤ 255) (e27 : Is ρ (.v 27) x27) (b_x27 : 0 ≤ x27 ∧ x27 ≤ 255) : btTree.goal ρ := by
  obtain ⟨q1, r2, q1e, r2e, q1s, b_q1, b_r2⟩ := bt_aq1 b_x13
  obtain ⟨q3, r4, q3e, r4e, q3s, b_q3, b_r4⟩ := bt_aq3 b_x4
  obtain ⟨q5, r6, q5e, r6e, q5s, b_q5, b_r6⟩ := bt_aq5 b_x6
  obtain ⟨q7, r8, q7e, r8e, q7s, b_q7, b_r8⟩ := bt_aq7 b_x10
  obtain ⟨m9, m9e, m9f1, m9f2, m9f3, m9f4, b_m9⟩ := bt_am9 b_r4 b_x1
  obtain ⟨m10, m10e, m10f1, m10f2, m10f3, m10f4, b_m10⟩ := bt_am10 b_x1 b_x3
  obtain ⟨w11, w11s, b_w11⟩ := bt_aw11 b_m10 b_m9
  obtain ⟨m12, m12e, m12f1, m12f2, m12f3, m12f4, b_m12⟩ := bt_am12 b_r6 b_x2
  obtain ⟨m13, m13e, m13f1, m13f2, m13f3, m13f4, b_m13⟩ := bt_am13 b_x2 b_x5
  obtain ⟨w14, w14s, b_w14⟩ := bt_aw14 b_m12 b_m13
  obtain ⟨w15, w15s, b_w15⟩ := bt_aw15 b_m10
  obtain ⟨w16, w16s, b_w16⟩ := bt_aw16 b_m13
  obtain ⟨m17, m17e, m17f1, m17f2, m17f3, m17f4, b_m17⟩ := bt_am17 b_r4 b_x18
  obtain ⟨w18, w18s, b_w18⟩ := bt_aw18 b_m17
  obtain ⟨q19, r20, q19e, r20e, q19s, b_q19, b_r20⟩ := bt_aq19 b_w18
  obtain ⟨m21, m21e, m21f1, m21f2, m21f3, m21f4, b_m21⟩ := bt_am21 b_q19 b_x1
  obtain ⟨w22, w22s, b_w22⟩ := bt_aw22 b_m10 b_m21
  obtain ⟨m23, m23e, m23f1, m23f2, m23f3, m23f4, b_m23⟩ := bt_am23 b_r6 b_x19
  obtain ⟨w24, w24s, b_w24⟩ := bt_aw24 b_m23
  obtain ⟨q25, r26, q25e, r26e, q25s, b_q25, b_r26⟩ := bt_aq25 b_w24
  obtain ⟨m27, m27e, m27f1, m27f2, m27f3, m27f4, b_m27⟩ := bt_am27 b_q25 b_x2
  obtain ⟨w28, w28s, b_w28⟩ := bt_aw28 b_m13 b_m27
  obtain ⟨w29, w29s, b_w29⟩ := bt_aw29 b_x14
  obtain ⟨w30, w30s, b_w30⟩ := bt_aw30 b_w11 b_w14 b_x0
  obtain ⟨q31, q31e, q31h, b_q31⟩ := bt_aq31 b_w29 b_w30
  obtain ⟨m32, m32e, m32f1, m32f2, m32f3, m32f4, b_m32⟩ := bt_am32 b_q31 b_w30
  have q31d := qD_is q31h m32e.out
  obtain ⟨m33, m33e, m33f1, m33f2, m33f3, m33f4, b_m33⟩ := bt_am33 b_x15 b_x20
  obtain ⟨w34, w34s, b_w34⟩ := bt_aw34 b_m33
  obtain ⟨q35, r36, q35e, r36e, q35s, b_q35, b_r36⟩ := bt_aq35 b_w34
  obtain ⟨w37, w37s, b_w37⟩ := bt_aw37 b_q35 b_x14
  obtain ⟨w38, w38s, b_w38⟩ := bt_aw38 b_w22 b_w28 b_x0
  obtain ⟨q39, q39e, q39h, b_q39⟩ := bt_aq39 b_w37 b_w38
  obtain ⟨m40, m40e, m40f1, m40f2, m40f3, m40f4, b_m40⟩ := bt_am40 b_q39 b_w38
  have q39d := qD_is q39h m40e.out
  obtain ⟨w41, w41s, b_w41⟩ := bt_aw41 b_x14 b_x15
  obtain ⟨w42, w42s, b_w42⟩ := bt_aw42 b_w15 b_w16 b_x0
  obtain ⟨q43, q43e, q43h, b_q43⟩ := bt_aq43 b_w41 b_w42
  obtain ⟨m44, m44e, m44f1, m44f2, m44f3, m44f4, b_m44⟩ := bt_am44 b_q43 b_w42
  have q43d := qD_is q43h m44e.out
  obtain ⟨u45, u45s, b_u45⟩ := bt_au45 b_q31 b_x26 b_x27
  obtain ⟨m46, m46e, m46f1, m46f2, m46f3, m46f4, b_m46⟩ := bt_am46 b_x25 b_x27
  obtain ⟨w47, w47s, b_w47⟩ := bt_aw47 b_m46
  obtain ⟨q48, r49, q48e, r49e, q48s, b_q48, b_r49⟩ := bt_aq48 b_w47
  obtain ⟨u50, u50s, b_u50⟩ := bt_au50 b_q39 b_q48 b_x26
  obtain ⟨u51, u51s, b_u51⟩ := bt_au51 b_q43 b_x26
  obtain ⟨m52, m52e, m52f1, m52f2, m52f3, m52f4, b_m52⟩ := bt_am52 b_x12 b_x25
  obtain ⟨w53, w53s, b_w53⟩ := bt_aw53 b_m52
  obtain ⟨q54, r55, q54e, r55e, q54s, b_q54, b_r55⟩ := bt_aq54 b_w53
  obtain ⟨q56, r57, q56e, r57e, q56s, b_q56, b_r57⟩ := bt_aq56 b_x16
  obtain ⟨q58, r59, q58e, r59e, q58s, b_q58, b_r59⟩ := bt_aq58 b_x17
  obtain ⟨m60, m60e, m60f1, m60f2, m60f3, m60f4, b_m60⟩ := bt_am60 b_r57 b_x7
  obtain ⟨w61, w61s, b_w61⟩ := bt_aw61 b_m60 b_r57
  obtain ⟨q62, r63, q62e, r63e, q62s, b_q62, b_r63⟩ := bt_aq62 b_w61
  obtain ⟨m64, m64e, m64f1, m64f2, m64f3, m64f4, b_m64⟩ := bt_am64 b_x21 b_x8
  obtain ⟨w65, w65s, b_w65⟩ := bt_aw65 b_m64
  obtain ⟨q66, r67, q66e, r67e, q66s, b_q66, b_r67⟩ := bt_aq66 b_w65
  obtain ⟨m68, m68e, m68f1, m68f2, m68f3, m68f4, b_m68⟩ := bt_am68 b_r59 b_x22
  obtain ⟨w69, w69s, b_w69⟩ := bt_aw69 b_m68
  obtain ⟨q70, r71, q70e, r71e, q70s, b_q70, b_r71⟩ := bt_aq70 b_w69
  obtain ⟨m72, m72e, m72f1, m72f2, m72f3, m72f4, b_m72⟩ := bt_am72 b_q66 b_q70
  obtain ⟨m73, m73e, m73f1, m73f2, m73f3, m73f4, b_m73⟩ := bt_am73 b_q66 b_r57
  obtain ⟨m74, m74e, m74f1, m74f2, m74f3, m74f4, b_m74⟩ := bt_am74 b_q70 b_x7
  obtain ⟨w75, w75s, b_w75⟩ := bt_aw75 b_m60 b_m72 b_m73 b_m74 b_q70 b_r57
  obtain ⟨q76, r77, q76e, r77e, q76s, b_q76, b_r77⟩ := bt_aq76 b_w75
  obtain ⟨m78, m78e, m78f1, m78f2, m78f3, m78f4, b_m78⟩ := bt_am78 b_r59 b_x7
  obtain ⟨m79, m79e, m79f1, m79f2, m79f3, m79f4, b_m79⟩ := bt_am79 b_r57 b_x8
  obtain ⟨m80, m80e, m80f1, m80f2, m80f3, m80f4, b_m80⟩ := bt_am80 b_r59 b_x8
  obtain ⟨w81, w81s, b_w81⟩ := bt_aw81 b_m60 b_m78 b_m79 b_m80 b_r57 b_r59
  obtain ⟨q82, r83, q82e, r83e, q82s, b_q82, b_r83⟩ := bt_aq82 b_w81
  obtain ⟨u84, u84s, b_u84⟩ := bt_au84 b_q31 b_q62 b_x26 b_x27
  obtain ⟨u85, u85s, b_u85⟩ := bt_au85 b_q39 b_q48 b_q76 b_x26
  obtain ⟨u86, u86s, b_u86⟩ := bt_au86 b_q43 b_q82 b_x26
  obtain ⟨q87, r88, q87e, r88e, q87s, b_q87, b_r88⟩ := bt_aq87 b_x16
  obtain ⟨m89, m89e, m89f1, m89f2, m89f3, m89f4, b_m89⟩ := bt_am89 b_r88 b_x9
  obtain ⟨w90, w90s, b_w90⟩ := bt_aw90 b_m89 b_r88
  obtain ⟨m91, m91e, m91f1, m91f2, m91f3, m91f4, b_m91⟩ := bt_am91 b_r8 b_x23
  obtain ⟨w92, w92s, b_w92⟩ := bt_aw92 b_m91
  obtain ⟨q93, r94, q93e, r94e, q93s, b_q93, b_r94⟩ := bt_aq93 b_w92
  obtain ⟨m95, m95e, m95f1, m95f2, m95f3, m95f4, b_m95⟩ := bt_am95 b_r59 b_x24
  obtain ⟨w96, w96s, b_w96⟩ := bt_aw96 b_m95
  obtain ⟨q97, r98, q97e, r98e, q97s, b_q97, b_r98⟩ := bt_aq97 b_w96
  obtain ⟨m99, m99e, m99f1, m99f2, m99f3, m99f4, b_m99⟩ := bt_am99 b_q93 b_q97
  obtain ⟨m100, m100e, m100f1, m100f2, m100f3, m100f4, b_m100⟩ := bt_am100 b_q93 b_r88
  obtain ⟨m101, m101e, m101f1, m101f2, m101f3, m101f4, b_m101⟩ := bt_am101 b_q97 b_x9
  obtain ⟨w102, w102s, b_w102⟩ := bt_aw102 b_m100 b_m101 b_m89 b_m99 b_q97 b_r88
  obtain ⟨m103, m103e, m103f1, m103f2, m103f3, m103f4, b_m103⟩ := bt_am103 b_r59 b_r8
  obtain ⟨m104, m104e, m104f1, m104f2, m104f3, m104f4, b_m104⟩ := bt_am104 b_r8 b_r88
  obtain ⟨m105, m105e, m105f1, m105f2, m105f3, m105f4, b_m105⟩ := bt_am105 b_r59 b_x9
  obtain ⟨w106, w106s, b_w106⟩ := bt_aw106 b_m103 b_m104 b_m105 b_m89 b_r59 b_r88
  obtain ⟨u107, u107s, b_u107⟩ := bt_au107 b_w90 b_x26 b_x27
  obtain ⟨u108, u108s, b_u108⟩ := bt_au108 b_q48 b_w102 b_x26
  obtain ⟨u109, u109s, b_u109⟩ := bt_au109 b_w106 b_x26
  have rf1 := bt_rf1 b_r20 q19s w18s m17f4
  have rf1_0 := bt_rf1_0 b_x1 rf1 m21e m9e
  have rf2 := bt_rf2 b_r26 q25s w24s m23f4
  have rf2_0 := bt_rf2_0 b_x2 rf2 m27e m12e
  have rf3 := bt_rf3 b_r36 q35s w34s m33f4
  have rf4 : w29 ≤ w37 → w38 ≤ w30 → 0 ≤ w37 → q31 ≤ q39 := qD_mono q31h q39h (Int.le_trans (by decide) b_w30.1) (Int.le_trans (by decide) b_w38.1)
  have rf5 : w37 ≤ w41 → w42 ≤ w38 → 0 ≤ w41 → q39 ≤ q43 := qD_mono q39h q43h (Int.le_trans (by decide) b_w38.1) (Int.le_trans (by decide) b_w42.1)
  have rf6 := bt_rf6 b_r67 q66s w65s m64f3
  have rf6_0 := bt_rf6_0 b_r57 rf6 m73e m79e
  obtain ⟨m110, m110e, m110f1, m110f2, m110f3, m110f4, b_m110⟩ := bt_am110 b_q70 b_x8
  have rf6_1 := bt_rf6_1 b_q70 rf6 m72e m110e
  have rf7 := bt_rf7 b_r71 q70s w69s m68f4
  have rf7_0 := bt_rf7_0 b_x8 rf7 m110e m80e
  have rf7_1 := bt_rf7_1 b_x7 rf7 m74e m78e
  have rf8 := bt_rf8 b_r94 q93s w92s m91f4
  obtain ⟨m111, m111e, m111f1, m111f2, m111f3, m111f4, b_m111⟩ := bt_am111 b_q97 b_r8
  have rf8_0 := bt_rf8_0 b_q97 rf8 m99e m111e
  have rf8_1 := bt_rf8_1 b_r88 rf8 m100e m104e
  have rf9 := bt_rf9 b_r98 q97s w96s m95f4
  have rf9_0 := bt_rf9_0 b_r8 rf9 m111e m103e
  have rf9_1 := bt_rf9_1 b_x9 rf9 m101e m105e
  have rf10 := bt_rf10 b_r55 q54s w53s m52f4
  have rf11 := bt_rf11 b_r49 q48s w47s m46f3
  obtain ⟨h0, h3, h5, h7, h8, h11, h12, h15, h18, h21, h23, h26, h29, h32, h34, h36, h41, h45, h59, h60, h62, h65, h72, h75, h85, h90, h100, h105, h107, h114, h116, h120, h122, h125, h128, h141, h144, h153, h162, h164, h166, h168, h169, h170, h171, h182, h183, h190, h197, h199, h201, h203⟩ := bt_g0 (ρ := ρ) e13 r2e e0 e1 e2 e3 e4 r4e e5 e6 r6e e7 e8 e9 e10 r8e e11 e12 e14 e15 m9e m10e ⟨w11s⟩ m12e m13e ⟨w14s⟩ ⟨w15s⟩ ⟨w16s⟩ e18 m17e ⟨w18s⟩ q19e m21e ⟨w22s⟩ e19 m23e ⟨w24s⟩ q25e m27e ⟨w28s⟩ e26 e27 q31e ⟨w29s⟩ ⟨w30s⟩ e20 m33e ⟨w34s⟩ q35e q39e ⟨w37s⟩ ⟨w38s⟩ q43e ⟨w41s⟩ ⟨w42s⟩ ⟨u45s⟩ e25 m46e ⟨w47s⟩ q48e ⟨u50s⟩ ⟨u51s⟩ m52e ⟨w53s⟩ q54e e16 r57e e17 r59e m60e ⟨w61s⟩ q62e e21 m64e ⟨w65s⟩ q66e e22 m68e ⟨w69s⟩ q70e m72e m73e m74e ⟨w75s⟩ q76e m78e m79e m80e ⟨w81s⟩ q82e ⟨u84s⟩ ⟨u85s⟩ ⟨u86s⟩ r88e m89e ⟨w90s⟩ e23 m91e ⟨w92s⟩ q93e e24 m95e ⟨w96s⟩ q97e m99e m100e m101e ⟨w102s⟩ m103e m104e m105e ⟨w106s⟩ ⟨u107s⟩ ⟨u108s⟩ ⟨u109s⟩ b_x13 b_r2 b_x0 b_x1 b_x2 b_x3 b_x4 b_r4 b_x5 b_x6 b_r6 b_x7 b_x8 b_x9 b_x10 b_r8 b_x11 b_x12 b_x14 b_x15 b_w11 b_m10 b_m9 b_w14 b_m12 b_m13 b_w15 b_w16 b_x18 b_w18 b_m17 b_q19 b_w22 b_m21 b_x19 b_w24 b_m23 b_q25 b_w28 b_m27 b_x26 b_x27 b_q31 b_w29 b_w30 b_x20 b_w34 b_m33 b_q35 b_q39 b_w37 b_w38 b_q43 b_w41 b_w42 b_u45 b_x25 b_w47 b_m46 b_q48 b_u50 b_u51 b_w53 b_m52 b_q54 b_x16 b_r57 b_x17 b_r59 b_w61 b_m60 b_q62 b_x21 b_w65 b_m64 b_q66 b_x22 b_w69 b_m68 b_q70 b_w75 b_m72 b_m73 b_m74 b_q76 b_w81 b_m78 b_m79 b_m80 b_q82 b_u84 b_u85 b_u86 b_r88 b_w90 b_m89 b_x23 b_w92 b_m91 b_q93 b_x24 b_w96 b_m95 b_q97 b_w102 b_m100 b_m101 b_m99 b_w106 b_m103 b_m104 b_m105 b_u107 b_u108 b_u109
  refine ask_p (fun g => ?_) (fun g => ?_)
  · have k0 := Zeqlt h0 (Zc 0) g; clear g
    refine bt_c0 h3 h5 h7 h8 h11 h12 b_x0 b_x1 b_x2 b_x3 b_r4 b_x5 ?_
    refine bt_c1 h12 h15 h18 h21 b_x5 b_r6 b_x7 b_x8 ?_
    refine bt_c2 h21 h23 h26 b_x7 b_x8 b_x9 b_r8 ?_
    refine bt_c3 h26 h29 h32 h34 b_r8 b_x9 b_x11 b_x12 b_x14 ?_
    refine aT (Pleq h34 h36 (bt_t35 b_x14 b_x15)) ?_
    refine aT (Pleq h36 (Zc 10000000000000) (bt_t36 b_x14 b_x15)) ?_
    refine aF (Neql h41 (Zc 0) (bt_t37 b_w11 b_w14 b_x0)) ?_
    refine bt_c4 h45 h59 h60 h62 b_w15 b_w16 b_x0 b_w22 b_w28 b_x26 b_x27 ?_
    refine aT (Pleq h62 (Zc 100000000) (bt_t42 b_x26 b_x27)) ?_
    refine aT (Pleq h65 h72 (bt_d0 b_q35 b_w37 rf4 w29s w30s w37s w38s w11s w14s w22s w28s rf1_0 rf2_0)) ?_
    refine aT (Pleq h72 h75 (bt_d1 b_w41 rf5 w37s w38s w41s w42s rf3 w22s w28s w15s w16s m21f1 m27f1)) ?_
    refine aF (Neql h85 (Zc 0) (bt_t37 b_w11 b_w14 b_x0)) ?_
    refine aT (Peql h65 h90 (bt_t43 b_q31)) ?_
    refine aF (Neql h100 (Zc 0) (bt_t38 b_w15 b_w16 b_x0)) ?_
    refine aT (Peql h75 h105 (bt_t44 b_q43)) ?_
    refine aT (Pleq h107 h114 (bt_d2 b_q35 b_w37 u45s u50s rf4 rf11 w29s w30s w37s w38s w11s w14s w22s w28s rf1_0 rf2_0)) ?_
    refine aT (Pleq h114 h116 (bt_d3 b_q48 b_w41 u50s u51s rf5 w37s w38s w41s w42s rf3 w22s w28s w15s w16s m21f1 m27f1)) ?_
    refine ask_p (fun g => ?_) (fun g => ?_)
    · have k13 := Zleqt h75 h29 g; clear g
      refine aT (Pleq h72 h120 (bt_d12 b_q54 b_w41 k13 rf5 w37s w38s w41s w42s rf3 w22s w28s w15s w16s m21f1 m27f1)) ?_
      refine aT (Pleq h65 h32 (bt_d13 b_q35 b_w37 b_x12 k13 rf4 rf5 w29s w30s w37s w38s w41s w42s w11s w14s rf3 w22s w28s w15s w16s rf1_0 rf2_0 m21f1 m27f1)) ?_
      exact rfl
    have k13 := Zleqf h75 h29 g; clear g
    refine ask_p (fun g => ?_) (fun g => ?_)
    · have k14 := Zleqt h65 h32 g; clear g
      exact rfl
    have k14 := Zleqf h65 h32 g; clear g
    refine aF (Nleq h72 h120 (bt_d14 b_q35 b_w37 k14 rf4 rf10 w37s w38s w29s w30s w22s w28s w11s w14s rf1_0 rf2_0)) ?_
    exact rfl
  have k0 := Zeqlf h0 (Zc 0) g; clear g
  refine ask_p (fun g => ?_) (fun g => ?_)
  · have k1 := Zeqlt h0 (Zc 1) g; clear g
    refine bt_c0 h3 h5 h7 h8 h11 h12 b_x0 b_x1 b_x2 b_x3 b_r4 b_x5 ?_
    refine bt_c1 h12 h15 h18 h21 b_x5 b_r6 b_x7 b_x8 ?_
    refine bt_c2 h21 h23 h26 b_x7 b_x8 b_x9 b_r8 ?_
    refine bt_c3 h26 h29 h32 h34 b_r8 b_x9 b_x11 b_x12 b_x14 ?_
    refine aT (Pleq h34 h36 (bt_t35 b_x14 b_x15)) ?_
    refine aT (Pleq h36 (Zc 10000000000000) (bt_t36 b_x14 b_x15)) ?_
    refine aT (Pleq (Zc 0) h122 (bt_t48 b_r57)) ?_
    refine aT (Pleq h122 h125 (bt_t49 b_r57 b_r59)) ?_
    refine aT (Pleq h125 (Zc 100000) (bt_t50 b_r57 b_r59)) ?_
    refine aF (Neql h41 (Zc 0) (bt_t37 b_w11 b_w14 b_x0)) ?_
    refine bt_c4 h45 h59 h60 h62 b_w15 b_w16 b_x0 b_w22 b_w28 b_x26 b_x27 ?_
    refine aT (Pleq h62 (Zc 100000000) (bt_t42 b_x26 b_x27)) ?_
    refine aT (Pleq h128 h141 (bt_d4 b_q35 b_q70 b_r63 b_r77 b_w37 rf4 q62s q76s w29s w30s w37s w38s w61s w75s w11s w14s w22s w28s m72f1 m73f1 m74f1 rf1_0 rf2_0)) ?_
    refine aT (Pleq h141 h144 (bt_d5 b_r77 b_r83 b_w41 rf5 q76s q82s w37s w38s w41s w42s w75s w81s rf3 w22s w28s w15s w16s rf6_1 rf6_0 rf7_1 rf7 rf7_0 m21f1 m27f1)) ?_
    refine aF (Neql h85 (Zc 0) (bt_t37 b_w11 b_w14 b_x0)) ?_
    refine aT (Peql h128 h153 (bt_t51 b_q31 b_q62)) ?_
    refine aF (Neql h100 (Zc 0) (bt_t38 b_w15 b_w16 b_x0)) ?_
    refine aT (Peql h144 h162 (bt_t52 b_q43 b_q82)) ?_
    refine aT (Pleq h164 h166 (bt_d6 b_q35 b_q70 b_r63 b_r77 b_w37 u84s u85s rf4 q62s rf11 q76s w29s w30s w37s w38s w61s w75s w11s w14s w22s w28s m72f1 m73f1 m74f1 rf1_0 rf2_0)) ?_
    refine aT (Pleq h166 h168 (bt_d7 b_q48 b_r77 b_r83 b_w41 u85s u86s rf5 q76s q82s w37s w38s w41s w42s w75s w81s rf3 w22s w28s w15s w16s rf6_1 rf6_0 rf7_1 rf7 rf7_0 m21f1 m27f1)) ?_
    refine ask_p (fun g => ?_) (fun g => ?_)
    · have k17 := Zleqt h144 h29 g; clear g
      refine aT (Pleq h141 h120 (bt_d15 b_q54 b_r77 b_r83 b_w41 k17 rf5 q76s q82s w37s w38s w41s w42s w75s w81s rf3 w22s w28s w15s w16s rf6_1 rf6_0 rf7_1 rf7 rf7_0 m21f1 m27f1)) ?_
      refine aT (Pleq h128 h32 (bt_d16 b_q35 b_r59 b_r63 b_r83 b_w37 b_x12 k17 rf4 q62s rf5 q82s w29s w30s w37s w38s w61s w41s w42s w81s w11s w14s rf3 w22s w28s w15s w16s m78f1 m79f1 m80f1 rf1_0 rf2_0 m21f1 m27f1)) ?_
      exact rfl
    have k17 := Zleqf h144 h29 g; clear g
    refine ask_p (fun g => ?_) (fun g => ?_)
    · have k18 := Zleqt h128 h32 g; clear g
      exact rfl
    have k18 := Zleqf h128 h32 g; clear g
    refine aF (Nleq h141 h120 (bt_d17 b_q35 b_q70 b_r63 b_r77 b_w37 k18 rf4 q76s rf10 q62s w37s w38s w29s w30s w75s w61s w22s w28s w11s w14s m72f1 m73f1 m74f1 rf1_0 rf2_0)) ?_
    exact rfl
  have k1 := Zeqlf h0 (Zc 1) g; clear g
  refine bt_c0 h3 h5 h7 h8 h11 h12 b_x0 b_x1 b_x2 b_x3 b_r4 b_x5 ?_
  refine bt_c1 h12 h15 h18 h21 b_x5 b_r6 b_x7 b_x8 ?_
  refine bt_c2 h21 h23 h26 b_x7 b_x8 b_x9 b_r8 ?_
  refine aT (Pleq h26 (Zc 100000) (bt_t30 b_r8 b_x9)) ?_
  refine aT (Pleq (Zc 1) h29 (bt_t31 b_x11)) ?_
  refine aT (Pleq h29 h32 (bt_t32 b_x11 b_x12)) ?_
  refine aT (Pleq h32 (Zc 100000000) (bt_t33 b_x11 b_x12)) ?_
  refine aT (Pleq (Zc 0) h169 (bt_t56 b_r88)) ?_
  refine aT (Pleq h169 h170 (bt_t57 b_r88 b_r59)) ?_
  refine aT (Pleq h170 (Zc 100000) (bt_t58 b_r59 b_r88)) ?_
  refine aT (Pleq (Zc 0) h60 (bt_t40 b_x26)) ?_
  refine aT (Pleq h60 h62 (bt_t41 b_x26 b_x27)) ?_
  refine aT (Pleq h62 (Zc 100000000) (bt_t42 b_x26 b_x27)) ?_
  refine aT (Pleq h171 h182 (bt_d8 b_q97 w90s w102s m100f1 m101f1 m99f1)) ?_
  refine aT (Pleq h182 h183 (bt_d9 w102s w106s rf8_1 rf9_1 rf8_0 rf9 rf9_0)) ?_
  refine aT (Peql h171 h190 (bt_t59 b_w90)) ?_
  refine aT (Peql h183 h197 (bt_t60 b_w106)) ?_
  refine aT (Pleq h199 h201 (bt_d10 b_m100 b_m101 b_m99 b_q97 u107s u108s w90s rf11 w102s)) ?_
  refine aT (Pleq h201 h203 (bt_d11 b_q48 u108s u109s w102s w106s rf8_1 rf9_1 rf8_0 rf9 rf9_0)) ?_
  refine ask_p (fun g => ?_) (fun g => ?_)
  · have k18 := Zleqt h183 h29 g; clear g
    refine aT (Pleq h182 h120 (bt_d18 b_q54 k18 w102s w106s rf8_1 rf9_1 rf8_0 rf9 rf9_0)) ?_
    refine aT (Pleq h171 h32 (bt_d19 b_r59 b_x12 k18 w90s w106s m103f1 m104f1 m105f1)) ?_
    exact rfl
  have k18 := Zleqf h183 h29 g; clear g
  refine ask_p (fun g => ?_) (fun g => ?_)
  · have k19 := Zleqt h171 h32 g; clear g
    exact rfl
  have k19 := Zleqf h171 h32 g; clear g
  refine aF (Nleq h182 h120 (bt_d20 b_q97 k19 w102s rf10 w90s m100f1 m101f1 m99f1)) ?_
  exact rfl
end Go.Proofs.Ytknphpihipkdpaa.Cx
