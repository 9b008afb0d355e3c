/- BoltRights: the tests of the law and their arithmetic. Made by tools/cxroot.py. -/
import Derived.Test.YtknphpihipkdpaaBRightsTN
set_option linter.unusedSimpArgs false
set_option linter.unusedVariables false
set_option maxRecDepth 100000
set_option maxHeartbeats 4000000
namespace Go.Proofs.Ytknphpihipkdpaa.Cx
open Go Go.RowKit

theorem br_goal {ρ : Env} {x0 x1 x2 x3 x4 x5 x6 x7 x8 x9 x10 x11 x12 x13 x14 x15 x16 x17 x18 x19 x20 x21 x22 x23 x24 x25 x26 x27 x28 x29 : Int} (e0 : Is ρ (.v 0) x0) (b_x0 : 0 ≤ x0 ∧ x0 ≤ 255) (e1 : Is ρ (.v 1) x1) (b_x1 : 0 ≤ x1 ∧ x1 ≤ 255) (e2 : Is ρ (.v 2) x2) (b_x2 : 0 ≤ x2 ∧ x2 ≤ 255) (e3 : Is ρ (.v 3) x3) (b_x3 : 0 ≤ x3 ∧ x3 ≤ 255) (e4 : Is ρ (.v 4) x4) (b_x4 : 0 ≤ x4 ∧ x4 ≤ 255) (e5 : Is ρ (.v 5) x5) (b_x5 : 0 ≤ x5 ∧ x5 ≤ 255) (e6 : Is ρ (.v 6) x6) (b_x6 : 0 ≤ x6 ∧ x6 ≤ 255) (e7 : Is ρ (.v 7) x7) (b_x7 : 0 ≤ x7 ∧ x7 ≤ 255) (e8 : Is ρ (.v 8) x8) (b_x8 : 0 ≤ x8 ∧ x8 ≤ 255) (e9 : Is ρ (.v 9) x9) (b_x9 : 0 ≤ x9 ∧ x9 ≤ 255) (e10 : Is ρ (.v 10) x10) (b_x10 : 0 ≤ x10 ∧ x10 ≤ 255) (e11 : Is ρ (.v 11) x11) (b_x11 : 0 ≤ x11 ∧ x11 ≤ 255) (e12 : Is ρ (.v 12) x12) (b_x12 : 0 ≤ x12 ∧ x12 ≤ 255) (e13 : Is ρ (.v 13) x13) (b_x13 : 0 ≤ x13 ∧ x13 ≤ 255) (e14 : Is ρ (.v 14) x14) (b_x14 : 0 ≤ x14 ∧ x14 ≤ 65535) (e15 : Is ρ (.v 15) x15) (b_x15 : 0 ≤ x15 ∧ x15 ≤ 65535) (e16 : Is ρ (.v 16) x16) (b_x16 : 0 ≤ x16 ∧ x16 ≤ 65535) (e17 : Is ρ (.v 17) x17) (b_x17 : 0 ≤ x17 ∧ x17 ≤ 65535) (e18 : Is ρ (.v 18) x18) (b_x18 : 0 ≤ x18 ∧ x18 ≤ 255) (e19 : Is ρ (.v 19) x19) (b_x19 : 0 ≤ x19 ∧ x19 ≤ 255) (e20 : Is ρ (.v 20) x20) (b_x20 : 0 ≤ x20 ∧ x20 ≤ 255) (e21 : Is ρ (.v 21) x21) (b_x21 : 0 ≤ x21 ∧ x21 ≤ 255) (e22 : Is ρ (.v 22) x22) (b_x22 : 0 ≤ x22 ∧ x22 ≤ 255) (e23 : Is ρ (.v 23) x23) (b_x23 : 0 ≤ x23 ∧ x23 ≤ 255) (e24 : Is ρ (.v 24) x24) (b_x24 : 0 ≤ x24 ∧ x24 ≤ 255) (e25 : Is ρ (.v 25) x25) (b_x25 : 0 ≤ x25 ∧ x25 ≤ 255) (e26 : Is ρ (.v 26) x26) (b_x26 : 0 ≤ x26 ∧ x26 ≤ 65535) (e27 : Is ρ (.v 27) x27) (b_x27 : 0 ≤ x27 ∧ x27 ≤ 65535) (e28 : Is ρ (.v 28) x28) (b_x28 : -32768 ≤ x28 ∧ x28 ≤ 32767) (e29 : Is ρ (.v 29) x29) (b_x29 : -32768 ≤ x29 ∧ x29 ≤ 32767) : brTree.goal ρ := by
  obtain ⟨q1, r2, q1e, r2e, q1s, b_q1, b_r2⟩ := br_aq1 b_x4
  obtain ⟨q3, r4, q3e, r4e, q3s, b_q3, b_r4⟩ := br_aq3 b_x6
  obtain ⟨q5, r6, q5e, r6e, q5s, b_q5, b_r6⟩ := br_aq5 b_x10
  obtain ⟨q7, r8, q7e, r8e, q7s, b_q7, b_r8⟩ := br_aq7 b_x26
  obtain ⟨u9, u9s, b_u9⟩ := br_au9 b_x28 b_x29
  obtain ⟨u10, u10s, b_u10⟩ := br_au10 b_x28 b_x29
  obtain ⟨m11, m11e, m11f1, m11f2, m11f3, m11f4, b_m11⟩ := br_am11 b_r2 b_x1
  obtain ⟨m12, m12e, m12f1, m12f2, m12f3, m12f4, b_m12⟩ := br_am12 b_x1 b_x3
  obtain ⟨w13, w13s, b_w13⟩ := br_aw13 b_m11 b_m12
  obtain ⟨m14, m14e, m14f1, m14f2, m14f3, m14f4, b_m14⟩ := br_am14 b_r4 b_x2
  obtain ⟨m15, m15e, m15f1, m15f2, m15f3, m15f4, b_m15⟩ := br_am15 b_x2 b_x5
  obtain ⟨w16, w16s, b_w16⟩ := br_aw16 b_m14 b_m15
  obtain ⟨m17, m17e, m17f1, m17f2, m17f3, m17f4, b_m17⟩ := br_am17 b_q7 b_w13
  obtain ⟨m18, m18e, m18f1, m18f2, m18f3, m18f4, b_m18⟩ := br_am18 b_q7 b_w16
  obtain ⟨m19, m19e, m19f1, m19f2, m19f3, m19f4, b_m19⟩ := br_am19 b_q7 b_x0
  obtain ⟨w20, w20s, b_w20⟩ := br_aw20 b_m17 b_m18 b_m19 b_q7
  obtain ⟨z21, z21s, b_z21⟩ := br_az21 b_w20
  obtain ⟨w22, w22s, b_w22⟩ := br_aw22 b_m12
  obtain ⟨w23, w23s, b_w23⟩ := br_aw23 b_m15
  obtain ⟨u24, u24s, b_u24⟩ := br_au24 b_q7 b_x11 b_x27
  obtain ⟨m25, m25e, m25f1, m25f2, m25f3, m25f4, b_m25⟩ := br_am25 b_u24 b_w22
  obtain ⟨m26, m26e, m26f1, m26f2, m26f3, m26f4, b_m26⟩ := br_am26 b_u24 b_w23
  obtain ⟨m27, m27e, m27f1, m27f2, m27f3, m27f4, b_m27⟩ := br_am27 b_u24 b_x0
  obtain ⟨m28, m28e, m28f1, m28f2, m28f3, m28f4, b_m28⟩ := br_am28 b_w22 b_x11
  obtain ⟨m29, m29e, m29f1, m29f2, m29f3, m29f4, b_m29⟩ := br_am29 b_w23 b_x11
  obtain ⟨m30, m30e, m30f1, m30f2, m30f3, m30f4, b_m30⟩ := br_am30 b_x0 b_x11
  obtain ⟨w31, w31s, b_w31⟩ := br_aw31 b_m25 b_m26 b_m27 b_m28 b_m29 b_m30 b_u24 b_w22 b_w23 b_x0 b_x11
  obtain ⟨z32, z32s, b_z32⟩ := br_az32 b_w31
  obtain ⟨u33, u33s, b_u33⟩ := br_au33 b_u9 b_x29
  obtain ⟨u34, u34s, b_u34⟩ := br_au34 b_u10 b_x29
  obtain ⟨w35, w35s, b_w35⟩ := br_aw35 b_u34
  obtain ⟨w36, w36s, b_w36⟩ := br_aw36 b_w22 b_w23 b_x0
  obtain ⟨q37, q37e, q37h, b_q37⟩ := br_aq37 b_w35 b_w36
  obtain ⟨m38, m38e, m38f1, m38f2, m38f3, m38f4, b_m38⟩ := br_am38 b_q37 b_w36
  have q37d := qD_is q37h m38e.out
  obtain ⟨w39, w39s, b_w39⟩ := br_aw39 b_u33
  obtain ⟨w40, w40s, b_w40⟩ := br_aw40 b_w13 b_w16 b_x0
  obtain ⟨q41, q41e, q41h, b_q41⟩ := br_aq41 b_w39 b_w40
  obtain ⟨m42, m42e, m42f1, m42f2, m42f3, m42f4, b_m42⟩ := br_am42 b_q41 b_w40
  have q41d := qD_is q41h m42e.out
  obtain ⟨u43, u43s, b_u43⟩ := br_au43 b_u10 b_u9 b_z32
  obtain ⟨u44, u44s, b_u44⟩ := br_au44 b_z32
  obtain ⟨w45, w45s, b_w45⟩ := br_aw45 b_u44
  obtain ⟨q46, q46e, q46h, b_q46⟩ := br_aq46 b_w45 b_w36
  obtain ⟨m47, m47e, m47f1, m47f2, m47f3, m47f4, b_m47⟩ := br_am47 b_q46 b_w36
  have q46d := qD_is q46h m47e.out
  obtain ⟨w48, w48s, b_w48⟩ := br_aw48 b_u43
  obtain ⟨q49, q49e, q49h, b_q49⟩ := br_aq49 b_w48 b_w40
  obtain ⟨m50, m50e, m50f1, m50f2, m50f3, m50f4, b_m50⟩ := br_am50 b_q49 b_w40
  have q49d := qD_is q49h m50e.out
  obtain ⟨q51, r52, q51e, r52e, q51s, q51g, b_q51, b_r52⟩ := br_aq51 b_u10 b_x29 b_z32
  obtain ⟨u53, u53s, b_u53⟩ := br_au53 b_q51 b_u9 b_x29
  obtain ⟨u54, u54s, b_u54⟩ := br_au54 b_q51 b_u10 b_x29
  obtain ⟨w55, w55s, b_w55⟩ := br_aw55 b_u54
  obtain ⟨q56, q56e, q56h, b_q56⟩ := br_aq56 b_w55 b_w36
  obtain ⟨m57, m57e, m57f1, m57f2, m57f3, m57f4, b_m57⟩ := br_am57 b_q56 b_w36
  have q56d := qD_is q56h m57e.out
  obtain ⟨w58, w58s, b_w58⟩ := br_aw58 b_u53
  obtain ⟨q59, q59e, q59h, b_q59⟩ := br_aq59 b_w58 b_w40
  obtain ⟨m60, m60e, m60f1, m60f2, m60f3, m60f4, b_m60⟩ := br_am60 b_q59 b_w40
  have q59d := qD_is q59h m60e.out
  obtain ⟨m61, m61e, m61f1, m61f2, m61f3, m61f4, b_m61⟩ := br_am61 b_r2 b_x18
  obtain ⟨w62, w62s, b_w62⟩ := br_aw62 b_m61
  obtain ⟨q63, r64, q63e, r64e, q63s, b_q63, b_r64⟩ := br_aq63 b_w62
  obtain ⟨m65, m65e, m65f1, m65f2, m65f3, m65f4, b_m65⟩ := br_am65 b_r4 b_x19
  obtain ⟨w66, w66s, b_w66⟩ := br_aw66 b_m65
  obtain ⟨q67, r68, q67e, r68e, q67s, b_q67, b_r68⟩ := br_aq67 b_w66
  obtain ⟨m69, m69e, m69f1, m69f2, m69f3, m69f4, b_m69⟩ := br_am69 b_q63 b_x1
  obtain ⟨w70, w70s, b_w70⟩ := br_aw70 b_m12 b_m69
  obtain ⟨m71, m71e, m71f1, m71f2, m71f3, m71f4, b_m71⟩ := br_am71 b_q67 b_x2
  obtain ⟨w72, w72s, b_w72⟩ := br_aw72 b_m15 b_m71
  obtain ⟨m73, m73e, m73f1, m73f2, m73f3, m73f4, b_m73⟩ := br_am73 b_u10 b_x21
  obtain ⟨m74, m74e, m74f1, m74f2, m74f3, m74f4, b_m74⟩ := br_am74 b_x21 b_x29
  obtain ⟨m75, m75e, m75f1, m75f2, m75f3, m75f4, b_m75⟩ := br_am75 b_x21 b_z32
  obtain ⟨w76, w76s, b_w76⟩ := br_aw76 b_m73 b_m74 b_m75 b_x21
  obtain ⟨q77, r78, q77e, r78e, q77s, q77g, b_q77, b_r78⟩ := br_aq77 b_w76
  obtain ⟨m79, m79e, m79f1, m79f2, m79f3, m79f4, b_m79⟩ := br_am79 b_u10 b_x20
  obtain ⟨m80, m80e, m80f1, m80f2, m80f3, m80f4, b_m80⟩ := br_am80 b_u9 b_x20
  obtain ⟨w81, w81s, b_w81⟩ := br_aw81 b_m79 b_m80
  obtain ⟨q82, r83, q82e, r83e, q82s, b_q82, b_r83⟩ := br_aq82 b_w81
  obtain ⟨u84, u84s, b_u84⟩ := br_au84 b_q77 b_q82 b_u9 b_x29
  obtain ⟨w85, w85s, b_w85⟩ := br_aw85 b_u84
  obtain ⟨w86, w86s, b_w86⟩ := br_aw86 b_w70 b_w72 b_x0
  obtain ⟨q87, q87e, q87h, b_q87⟩ := br_aq87 b_w85 b_w86
  obtain ⟨m88, m88e, m88f1, m88f2, m88f3, m88f4, b_m88⟩ := br_am88 b_q87 b_w86
  have q87d := qD_is q87h m88e.out
  obtain ⟨m89, m89e, m89f1, m89f2, m89f3, m89f4, b_m89⟩ := br_am89 b_x12 b_x25
  obtain ⟨w90, w90s, b_w90⟩ := br_aw90 b_m89
  obtain ⟨q91, r92, q91e, r92e, q91s, b_q91, b_r92⟩ := br_aq91 b_w90
  obtain ⟨u93, u93s, b_u93⟩ := br_au93 b_u10 b_u9 b_z32
  obtain ⟨u94, u94s, b_u94⟩ := br_au94 b_z32
  obtain ⟨w95, w95s, b_w95⟩ := br_aw95 b_u94
  obtain ⟨q96, q96e, q96h, b_q96⟩ := br_aq96 b_w95 b_w36
  obtain ⟨m97, m97e, m97f1, m97f2, m97f3, m97f4, b_m97⟩ := br_am97 b_q96 b_w36
  have q96d := qD_is q96h m97e.out
  obtain ⟨w98, w98s, b_w98⟩ := br_aw98 b_u93
  obtain ⟨q99, q99e, q99h, b_q99⟩ := br_aq99 b_w98 b_w40
  obtain ⟨m100, m100e, m100f1, m100f2, m100f3, m100f4, b_m100⟩ := br_am100 b_q99 b_w40
  have q99d := qD_is q99h m100e.out
  obtain ⟨m101, m101e, m101f1, m101f2, m101f3, m101f4, b_m101⟩ := br_am101 b_q7 b_w70
  obtain ⟨m102, m102e, m102f1, m102f2, m102f3, m102f4, b_m102⟩ := br_am102 b_q7 b_w72
  obtain ⟨w103, w103s, b_w103⟩ := br_aw103 b_m101 b_m102 b_m19 b_q7
  obtain ⟨z104, z104s, b_z104⟩ := br_az104 b_w103
  obtain ⟨u105, u105s, b_u105⟩ := br_au105 b_u9 b_x29 b_z104
  obtain ⟨u106, u106s, b_u106⟩ := br_au106 b_u10 b_x29 b_z104
  obtain ⟨w107, w107s, b_w107⟩ := br_aw107 b_u106
  obtain ⟨q108, q108e, q108h, b_q108⟩ := br_aq108 b_w107 b_w36
  obtain ⟨m109, m109e, m109f1, m109f2, m109f3, m109f4, b_m109⟩ := br_am109 b_q108 b_w36
  have q108d := qD_is q108h m109e.out
  obtain ⟨w110, w110s, b_w110⟩ := br_aw110 b_u105
  obtain ⟨q111, q111e, q111h, b_q111⟩ := br_aq111 b_w110 b_w40
  obtain ⟨m112, m112e, m112f1, m112f2, m112f3, m112f4, b_m112⟩ := br_am112 b_q111 b_w40
  have q111d := qD_is q111h m112e.out
  obtain ⟨u113, u113s, b_u113⟩ := br_au113 b_u9 b_x29 b_z104
  obtain ⟨u114, u114s, b_u114⟩ := br_au114 b_u113 b_u9 b_x29
  obtain ⟨u115, u115s, b_u115⟩ := br_au115 b_u10 b_u113 b_x29
  obtain ⟨w116, w116s, b_w116⟩ := br_aw116 b_u115
  obtain ⟨q117, q117e, q117h, b_q117⟩ := br_aq117 b_w116 b_w36
  obtain ⟨m118, m118e, m118f1, m118f2, m118f3, m118f4, b_m118⟩ := br_am118 b_q117 b_w36
  have q117d := qD_is q117h m118e.out
  obtain ⟨w119, w119s, b_w119⟩ := br_aw119 b_u114
  obtain ⟨q120, q120e, q120h, b_q120⟩ := br_aq120 b_w119 b_w40
  obtain ⟨m121, m121e, m121f1, m121f2, m121f3, m121f4, b_m121⟩ := br_am121 b_q120 b_w40
  have q120d := qD_is q120h m121e.out
  obtain ⟨u122, u122s, b_u122⟩ := br_au122 b_u9 b_x29 b_z21
  obtain ⟨u123, u123s, b_u123⟩ := br_au123 b_u122 b_u9 b_x29
  obtain ⟨u124, u124s, b_u124⟩ := br_au124 b_u10 b_u122 b_x29
  obtain ⟨w125, w125s, b_w125⟩ := br_aw125 b_u124
  obtain ⟨q126, q126e, q126h, b_q126⟩ := br_aq126 b_w125 b_w36
  obtain ⟨m127, m127e, m127f1, m127f2, m127f3, m127f4, b_m127⟩ := br_am127 b_q126 b_w36
  have q126d := qD_is q126h m127e.out
  obtain ⟨w128, w128s, b_w128⟩ := br_aw128 b_u123
  obtain ⟨q129, q129e, q129h, b_q129⟩ := br_aq129 b_w128 b_w40
  obtain ⟨m130, m130e, m130f1, m130f2, m130f3, m130f4, b_m130⟩ := br_am130 b_q129 b_w40
  have q129d := qD_is q129h m130e.out
  obtain ⟨q131, r132, q131e, r132e, q131s, q131g, b_q131, b_r132⟩ := br_aq131 b_u10 b_u122 b_x29 b_z32
  obtain ⟨u133, u133s, b_u133⟩ := br_au133 b_q131 b_u122 b_u9 b_x29
  obtain ⟨u134, u134s, b_u134⟩ := br_au134 b_q131 b_u10 b_u122 b_x29
  obtain ⟨w135, w135s, b_w135⟩ := br_aw135 b_u134
  obtain ⟨q136, q136e, q136h, b_q136⟩ := br_aq136 b_w135 b_w36
  obtain ⟨m137, m137e, m137f1, m137f2, m137f3, m137f4, b_m137⟩ := br_am137 b_q136 b_w36
  have q136d := qD_is q136h m137e.out
  obtain ⟨w138, w138s, b_w138⟩ := br_aw138 b_u133
  obtain ⟨q139, q139e, q139h, b_q139⟩ := br_aq139 b_w138 b_w40
  obtain ⟨m140, m140e, m140f1, m140f2, m140f3, m140f4, b_m140⟩ := br_am140 b_q139 b_w40
  have q139d := qD_is q139h m140e.out
  obtain ⟨m141, m141e, m141f1, m141f2, m141f3, m141f4, b_m141⟩ := br_am141 b_u122 b_x21
  obtain ⟨w142, w142s, b_w142⟩ := br_aw142 b_m141 b_m73 b_m74 b_m75 b_x21
  obtain ⟨q143, r144, q143e, r144e, q143s, q143g, b_q143, b_r144⟩ := br_aq143 b_w142
  obtain ⟨u145, u145s, b_u145⟩ := br_au145 b_q143 b_q82 b_u122 b_u9 b_x29
  obtain ⟨w146, w146s, b_w146⟩ := br_aw146 b_u145
  obtain ⟨q147, q147e, q147h, b_q147⟩ := br_aq147 b_w146 b_w86
  obtain ⟨m148, m148e, m148f1, m148f2, m148f3, m148f4, b_m148⟩ := br_am148 b_q147 b_w86
  have q147d := qD_is q147h m148e.out
  obtain ⟨u149, u149s, b_u149⟩ := br_au149 b_u122 b_u9 b_x29
  obtain ⟨u150, u150s, b_u150⟩ := br_au150 b_u10 b_u122 b_x29
  obtain ⟨w151, w151s, b_w151⟩ := br_aw151 b_u150
  obtain ⟨q152, q152e, q152h, b_q152⟩ := br_aq152 b_w151 b_w36
  obtain ⟨m153, m153e, m153f1, m153f2, m153f3, m153f4, b_m153⟩ := br_am153 b_q152 b_w36
  have q152d := qD_is q152h m153e.out
  obtain ⟨w154, w154s, b_w154⟩ := br_aw154 b_u149
  obtain ⟨q155, q155e, q155h, b_q155⟩ := br_aq155 b_w154 b_w40
  obtain ⟨m156, m156e, m156f1, m156f2, m156f3, m156f4, b_m156⟩ := br_am156 b_q155 b_w40
  have q155d := qD_is q155h m156e.out
  have rf1 := br_rf1 b_w36 q37h m25e m26e m27e m28e m29e m30e w36s
  have rf2 := br_rf2 b_w40 q41h m17e m18e m19e w40s
  have rf3 := br_rf3 b_w36 q46h m25e m26e m27e m28e m29e m30e w36s
  have rf4 := br_rf4 b_w40 q49h m17e m18e m19e w40s
  have rf5 := br_rf5 b_w36 q56h m25e m26e m27e m28e m29e m30e w36s
  have rf6 := br_rf6 b_w40 q59h m17e m18e m19e w40s
  have rf7 := br_rf7 b_w36 q96h m25e m26e m27e m28e m29e m30e w36s
  have rf8 := br_rf8 b_w40 q99h m17e m18e m19e w40s
  have rf9 := br_rf9 b_w36 q108h m25e m26e m27e m28e m29e m30e w36s
  have rf10 := br_rf10 b_w40 q111h m17e m18e m19e w40s
  have rf11 := br_rf11 b_w36 q117h m25e m26e m27e m28e m29e m30e w36s
  have rf12 := br_rf12 b_w40 q120h m17e m18e m19e w40s
  have rf13 := br_rf13 b_w36 q126h m25e m26e m27e m28e m29e m30e w36s
  have rf14 := br_rf14 b_w40 q129h m17e m18e m19e w40s
  have rf15 := br_rf15 b_w36 q136h m25e m26e m27e m28e m29e m30e w36s
  have rf16 := br_rf16 b_w40 q139h m17e m18e m19e w40s
  have rf17 := br_rf17 b_w36 q152h m25e m26e m27e m28e m29e m30e w36s
  have rf18 := br_rf18 b_w40 q155h m17e m18e m19e w40s
  have rf19 := br_rf19 b_r64 q63s w62s m61f4
  have rf19_0 := br_rf19_0 b_x1 rf19 m69e m11e
  have rf20 := br_rf20 b_r68 q67s w66s m65f4
  have rf20_0 := br_rf20_0 b_x2 rf20 m71e m14e
  have rf21 := br_rf21  w13s w70s rf19_0
  have rf21_0 := br_rf21_0 b_q7 rf21 m17e m101e
  have rf22 := br_rf22  w16s w72s rf20_0
  have rf22_0 := br_rf22_0 b_q7 rf22 m18e m102e
  have rf23 := br_rf23  z104s z21s w103s w20s rf21_0 rf22_0
  have rf24 := br_rf24 b_r83 q82s w81s m79f4 m80f4
  have rf25 : w116 ≤ w107 → w36 ≤ w36 → 0 ≤ w107 → q117 ≤ q108 := qD_mono q117h q108h (Int.le_trans (by decide) b_w36.1) (Int.le_trans (by decide) b_w36.1)
  have rf26 : w35 ≤ w107 → w36 ≤ w36 → 0 ≤ w107 → q37 ≤ q108 := qD_mono q37h q108h (Int.le_trans (by decide) b_w36.1) (Int.le_trans (by decide) b_w36.1)
  have rf27 : w107 ≤ w35 → w36 ≤ w36 → 0 ≤ w35 → q108 ≤ q37 := qD_mono q108h q37h (Int.le_trans (by decide) b_w36.1) (Int.le_trans (by decide) b_w36.1)
  have rf28 : w35 ≤ w116 → w36 ≤ w36 → 0 ≤ w116 → q37 ≤ q117 := qD_mono q37h q117h (Int.le_trans (by decide) b_w36.1) (Int.le_trans (by decide) b_w36.1)
  have rf29 : w116 ≤ w35 → w36 ≤ w36 → 0 ≤ w35 → q117 ≤ q37 := qD_mono q117h q37h (Int.le_trans (by decide) b_w36.1) (Int.le_trans (by decide) b_w36.1)
  have rf30 : w39 ≤ w85 → w86 ≤ w40 → 0 ≤ w85 → q41 ≤ q87 := qD_mono q41h q87h (Int.le_trans (by decide) b_w40.1) (Int.le_trans (by decide) b_w86.1)
  have rf31 : w85 ≤ w45 → w36 ≤ w86 → 0 ≤ w45 → q87 ≤ q46 := qD_mono q87h q46h (Int.le_trans (by decide) b_w86.1) (Int.le_trans (by decide) b_w36.1)
  have rf32 : w128 ≤ w146 → w86 ≤ w40 → 0 ≤ w146 → q129 ≤ q147 := qD_mono q129h q147h (Int.le_trans (by decide) b_w40.1) (Int.le_trans (by decide) b_w86.1)
  have rf33 : w146 ≤ w45 → w36 ≤ w86 → 0 ≤ w45 → q147 ≤ q46 := qD_mono q147h q46h (Int.le_trans (by decide) b_w86.1) (Int.le_trans (by decide) b_w36.1)
  have rf34 := br_rf34 b_x21 m73e m74e m75e
  have rf35 := br_rf35 b_x21 m73e m74e m75e
  have rf36 := br_rf36 b_x21 m73e m141e m74e m75e
  have rf37 := br_rf37 b_x21 m73e m141e m74e m75e
  obtain ⟨h2, h4, h6, h7, h10, h11, h14, h17, h20, h22, h25, h28, h31, h33, h35, h37, h39, h44, h50, h56, h65, h67, h69, h72, h75, h77, h79, h82, h85, h90, h92, h95, h98, h103, h110, h112, h129, h134, h137, h139, h142, h145, h155, h157, h160, h163, h167, h169, h172, h175, h177, h179, h181, h184, h187, h192, h194, h197, h200, h211, h214, h216, h219, h222⟩ := br_g0 (ρ := ρ) e0 e1 e2 e3 e4 r2e e5 e6 r4e e7 e8 e9 e10 r6e e11 e12 e26 q7e e27 e28 e29 ⟨u9s⟩ ⟨u10s⟩ m11e m12e ⟨w13s⟩ m14e m15e ⟨w16s⟩ m17e m18e m19e ⟨w20s⟩ ⟨z21s⟩ ⟨w22s⟩ ⟨w23s⟩ ⟨u24s⟩ m25e m26e m27e m28e m29e m30e ⟨w31s⟩ ⟨z32s⟩ ⟨u33s⟩ ⟨u34s⟩ q37e ⟨w35s⟩ ⟨w36s⟩ q41e ⟨w39s⟩ ⟨w40s⟩ ⟨u43s⟩ ⟨u44s⟩ q46e ⟨w45s⟩ q49e ⟨w48s⟩ q51e ⟨u53s⟩ ⟨u54s⟩ q56e ⟨w55s⟩ q59e ⟨w58s⟩ e18 m61e ⟨w62s⟩ q63e e19 m65e ⟨w66s⟩ q67e m69e ⟨w70s⟩ m71e ⟨w72s⟩ e21 m73e m74e m75e ⟨w76s⟩ q77e e20 m79e m80e ⟨w81s⟩ q82e ⟨u84s⟩ q87e ⟨w85s⟩ ⟨w86s⟩ e25 m89e ⟨w90s⟩ q91e ⟨u93s⟩ ⟨u94s⟩ q96e ⟨w95s⟩ q99e ⟨w98s⟩ m101e m102e ⟨w103s⟩ ⟨z104s⟩ ⟨u105s⟩ ⟨u106s⟩ q108e ⟨w107s⟩ q111e ⟨w110s⟩ ⟨u113s⟩ ⟨u114s⟩ ⟨u115s⟩ q117e ⟨w116s⟩ q120e ⟨w119s⟩ ⟨u122s⟩ ⟨u123s⟩ ⟨u124s⟩ q126e ⟨w125s⟩ q129e ⟨w128s⟩ q131e ⟨u133s⟩ ⟨u134s⟩ q136e ⟨w135s⟩ q139e ⟨w138s⟩ m141e ⟨w142s⟩ q143e ⟨u145s⟩ q147e ⟨w146s⟩ ⟨u149s⟩ ⟨u150s⟩ q152e ⟨w151s⟩ q155e ⟨w154s⟩ b_x0 b_x1 b_x2 b_x3 b_x4 b_r2 b_x5 b_x6 b_r4 b_x7 b_x8 b_x9 b_x10 b_r6 b_x11 b_x12 b_x26 b_q7 b_x27 b_x28 b_x29 b_u9 b_u10 b_w13 b_m11 b_m12 b_w16 b_m14 b_m15 b_w20 b_m17 b_m18 b_m19 b_z21 b_w22 b_w23 b_u24 b_w31 b_m25 b_m26 b_m27 b_m28 b_m29 b_m30 b_z32 b_u33 b_u34 b_q37 b_w35 b_w36 b_q41 b_w39 b_w40 b_u43 b_u44 b_q46 b_w45 b_q49 b_w48 b_q51 b_u53 b_u54 b_q56 b_w55 b_q59 b_w58 b_x18 b_w62 b_m61 b_q63 b_x19 b_w66 b_m65 b_q67 b_w70 b_m69 b_w72 b_m71 b_x21 b_w76 b_m73 b_m74 b_m75 b_q77 b_x20 b_w81 b_m79 b_m80 b_q82 b_u84 b_q87 b_w85 b_w86 b_x25 b_w90 b_m89 b_q91 b_u93 b_u94 b_q96 b_w95 b_q99 b_w98 b_w103 b_m101 b_m102 b_z104 b_u105 b_u106 b_q108 b_w107 b_q111 b_w110 b_u113 b_u114 b_u115 b_q117 b_w116 b_q120 b_w119 b_u122 b_u123 b_u124 b_q126 b_w125 b_q129 b_w128 b_q131 b_u133 b_u134 b_q136 b_w135 b_q139 b_w138 b_w142 b_m141 b_q143 b_u145 b_q147 b_w146 b_u149 b_u150 b_q152 b_w151 b_q155 b_w154
  refine aF (Nleq h2 (Zc 0) (br_t9 b_x0)) ?_
  refine aT (Pleq (Zc 0) h2 (br_t10 b_x0)) ?_
  refine aT (Pleq h2 (Zc 100000) (br_t11 b_x0)) ?_
  refine aT (Pleq (Zc 0) h4 (br_t12 b_x1)) ?_
  refine aT (Pleq h4 (Zc 100000) (br_t13 b_x1)) ?_
  refine aT (Pleq (Zc 0) h6 (br_t14 b_x2)) ?_
  refine aT (Pleq h6 (Zc 100000) (br_t15 b_x2)) ?_
  refine aT (Pleq (Zc 0) h7 (br_t16 b_x3)) ?_
  refine aT (Pleq h7 h10 (br_t17 b_x3 b_r2)) ?_
  refine aT (Pleq h10 (Zc 1000) (br_t18 b_r2 b_x3)) ?_
  refine aT (Pleq (Zc 0) h11 (br_t19 b_x5)) ?_
  refine aT (Pleq h11 h14 (br_t20 b_x5 b_r4)) ?_
  refine aT (Pleq h14 (Zc 1000) (br_t21 b_r4 b_x5)) ?_
  refine aT (Pleq (Zc 1) h17 (br_t22 b_x7)) ?_
  refine aT (Pleq h17 h20 (br_t23 b_x7 b_x8)) ?_
  refine aT (Pleq h20 (Zc 100000000) (br_t24 b_x7 b_x8)) ?_
  refine aT (Pleq (Zc 1) h22 (br_t25 b_x9)) ?_
  refine aT (Pleq h22 h25 (br_t26 b_x9 b_r6)) ?_
  refine aT (Pleq h25 (Zc 100000) (br_t27 b_r6 b_x9)) ?_
  refine aT (Pleq (Zc 1) h28 (br_t28 b_x11)) ?_
  refine aT (Pleq h28 h31 (br_t29 b_x11 b_x12)) ?_
  refine aT (Pleq h31 (Zc 100000000) (br_t30 b_x11 b_x12)) ?_
  refine aT (Pleq (Zc 0) h33 (br_t31 b_q7)) ?_
  refine aT (Pleq h33 h35 (br_t32 b_q7 b_x27)) ?_
  refine aT (Pleq h35 (Zc 100000000) (br_t33 b_q7 b_x27)) ?_
  refine aT (Pleq (Zc (-10000000000000)) h37 (br_t34 b_u9 b_x29)) ?_
  refine aT (Pleq h37 h39 (br_t35 b_u9 b_x29 b_u10)) ?_
  refine aT (Pleq h39 (Zc 10000000000000) (br_t36 b_u10 b_x29)) ?_
  refine ask_p (fun g => ?_) (fun g => ?_)
  · have k28 := Zleqt h50 (Zc 0) g; clear g
    refine ask_q (fun g => ?_) (fun g => ?_)
    · have k29 := Zleqf (Zc 0) h65 g; clear g
      refine aT (Pleq h33 (Zc 100000000) (br_t37 b_q7)) ?_
      refine br_c2 h103 h110 h67 h69 u33s u34s h44 h56 b_q63 b_x3 b_q67 b_x5 b_u33 b_u34 b_u10 b_u9 b_w13 b_w16 b_x0 b_w22 b_w23 ?_
      refine ask_q (fun g => ?_) (fun g => ?_)
      · have k31 := Zleqf h72 h28 g; clear g
        refine br_c3 h155 h157 u105s u106s b_u105 b_u10 b_u9 ?_
        refine aT (Pleq h157 (Zc 10000000000000) (br_t47 b_u106)) ?_
        refine aF (Nleq h160 h28 (br_d9 b_z104 k31 rf26 w107s w35s u106s u34s)) ?_
        refine br_c4 h167 h169 u114s u115s b_u114 b_u10 b_u9 ?_
        refine aT (Pleq h169 (Zc 10000000000000) (br_t50 b_u115)) ?_
        refine aF (Nleq h172 h28 (br_d10 b_u113 k31 rf28 w116s w35s u115s u34s)) ?_
        exact rfl
      have k31 := Zleqt h72 h28 g; clear g
      refine aT (Pleq h33 h75 (br_d11 b_q41 m19f1 m101f1 m102f1 z104s rf23 k28 w103s)) ?_
      refine aF (Nleq h72 h35 (br_d12 k31 rf1 w35s u24s u34s k29 z32s w31s)) ?_
      refine br_c3 h155 h157 u105s u106s b_u105 b_u10 b_u9 ?_
      refine aT (Pleq h157 (Zc 10000000000000) (br_t47 b_u106)) ?_
      refine aT (Pleq h160 h28 (br_d13 k31 rf27 w107s w35s u106s u34s rf23 k28)) ?_
      refine aT (Pleq h33 h163 (br_d14 b_q111 m19f1 m101f1 m102f1 z104s rf23 k28 w103s)) ?_
      refine aF (Nleq h160 h35 (br_d15 b_z104 rf9 k31 w107s rf1 u24s w35s u106s u34s k29 z32s w31s)) ?_
      refine br_c4 h167 h169 u114s u115s b_u114 b_u10 b_u9 ?_
      refine aT (Pleq h169 (Zc 10000000000000) (br_t50 b_u115)) ?_
      refine ask_q (fun g => ?_) (fun g => ?_)
      · have k39 := Zleqf h172 h28 g; clear g
        exact rfl
      have k39 := Zleqt h172 h28 g; clear g
      refine aT (Pleq h33 h175 (br_d16 b_q120 m19f1 m101f1 m102f1 z104s rf23 k28 w103s)) ?_
      refine aF (Nleq h172 h35 (br_d17 b_u113 k39 rf11 w116s u24s u115s k29 z32s w31s)) ?_
      exact rfl
    have k29 := Zleqt (Zc 0) h65 g; clear g
    refine aT (Pleq h65 (Zc 10000000000000) (br_t59 b_u10 b_x29 b_z32)) ?_
    refine aT (Pleq (Zc 0) h67 (br_t42 b_u33)) ?_
    refine aT (Pleq h67 h69 (br_d0 b_u10 b_u9 u33s u34s)) ?_
    refine aT (Pleq h69 (Zc 10000000000000) (br_t43 b_u34)) ?_
    refine aF (Neql h44 (Zc 0) (br_t44 b_w13 b_w16 b_x0)) ?_
    refine aF (Neql h56 (Zc 0) (br_t45 b_w22 b_w23 b_x0)) ?_
    refine aT (Pleq h72 h28 (br_d18 b_u24 b_x11 q37d rf1 w35s u34s k29 z32s w31s)) ?_
    refine aT (Pleq h33 h75 (br_d11 b_q41 m19f1 m101f1 m102f1 z104s rf23 k28 w103s)) ?_
    refine aT (Pleq h72 h35 (br_d19 b_q7 b_x27 q37d rf1 w35s u24s u34s k29 z32s w31s)) ?_
    refine br_c0 h77 h79 u43s u44s b_u43 b_u44 b_u10 b_u9 ?_
    refine aT (Pleq h82 h28 (br_d20 b_u24 b_x11 q46d rf3 w45s u44s z32s w31s)) ?_
    refine aT (Pleq h33 h85 (br_d21 b_q49 m19f1 m101f1 m102f1 z104s rf23 k28 w103s)) ?_
    refine aT (Pleq h82 h35 (br_d22 b_q7 b_x27 q46d rf3 w45s u24s u44s z32s w31s)) ?_
    refine aT (Pleq (Zc 0) h90 (br_t67 b_u53)) ?_
    refine aT (Pleq h90 h92 (br_d2 b_u10 b_u9 u53s u54s)) ?_
    refine aT (Pleq h92 (Zc 10000000000000) (br_t68 b_u54)) ?_
    refine aT (Pleq h95 h28 (br_d23 b_r52 b_u24 b_x11 q56d rf5 w55s u54s k29 q51s z32s w31s)) ?_
    refine aT (Pleq h33 h98 (br_d24 b_q59 m19f1 m101f1 m102f1 z104s rf23 k28 w103s)) ?_
    refine aT (Pleq h95 h35 (br_d25 b_q7 b_r52 b_x27 q56d rf5 w55s u24s u54s k29 q51s z32s w31s)) ?_
    refine aF (Neql h112 (Zc 0) (br_t72 b_w70 b_w72 b_x0)) ?_
    refine aT (Pleq h33 h129 (br_d26 b_q87 m19f1 m101f1 m102f1 z104s rf23 k28 w103s)) ?_
    refine aT (Pleq h129 h35 (br_d27 b_q7 b_r78 b_x27 q87d rf31 w85s w86s w45s rf3 w36s u84s w70s w72s u44s u24s w22s w23s k29 q77s rf24 rf34 m69f1 m71f1 z32s w76s w31s)) ?_
    refine aT (Pleq h129 h134 (br_d28 b_q91 b_r78 b_u24 b_x11 q87d rf31 rf3 w85s w86s w45s w36s w22s w23s u84s w70s w72s u44s k29 q77s rf24 rf34 m69f1 m71f1 z32s w76s w31s)) ?_
    refine aF (Neql h65 (Zc 10000000000000) (br_t76 b_u10 b_x29 b_z32)) ?_
    refine br_c1 h137 h139 u93s u94s b_u93 b_u94 b_u10 b_u9 ?_
    refine ask_q (fun g => ?_) (fun g => ?_)
    · have k53 := Zleqf h142 h28 g; clear g
      exact rfl
    have k53 := Zleqt h142 h28 g; clear g
    refine aT (Pleq h33 h145 (br_d29 b_q99 m19f1 m101f1 m102f1 z104s rf23 k28 w103s)) ?_
    refine aF (Nleq h142 h35 (br_d30 k53 rf7 w95s u24s u94s z32s w31s)) ?_
    exact rfl
  have k28 := Zleqf h50 (Zc 0) g; clear g
  refine ask_p (fun g => ?_) (fun g => ?_)
  · have k29 := Zleqt h177 h65 g; clear g
    refine aT (Pleq (Zc 0) h177 (br_t81 b_u122)) ?_
    refine aT (Pleq h65 (Zc 10000000000000) (br_t59 b_u10 b_x29 b_z32)) ?_
    refine aT (Pleq (Zc 0) h179 (br_t82 b_u123)) ?_
    refine aT (Pleq h179 h181 (br_d6 b_u10 b_u9 u123s u124s)) ?_
    refine aT (Pleq h181 (Zc 10000000000000) (br_t83 b_u124)) ?_
    refine aF (Neql h44 (Zc 0) (br_t44 b_w13 b_w16 b_x0)) ?_
    refine aF (Neql h56 (Zc 0) (br_t45 b_w22 b_w23 b_x0)) ?_
    refine aT (Pleq h184 h28 (br_d31 b_u10 b_u24 b_u9 b_z21 rf13 w125s u124s k29 u122s z32s w31s)) ?_
    refine aT (Pleq h33 h187 (br_d32 rf14 w128s u123s u122s z21s w20s)) ?_
    refine aT (Pleq h184 h35 (br_d33 b_q7 b_x27 q126d rf13 w125s u24s u124s k29 z32s w31s)) ?_
    refine br_c0 h77 h79 u43s u44s b_u43 b_u44 b_u10 b_u9 ?_
    refine aT (Pleq h82 h28 (br_d20 b_u24 b_x11 q46d rf3 w45s u44s z32s w31s)) ?_
    refine aT (Pleq h33 h85 (br_d34 rf4 w48s u43s k29 u122s z21s w20s)) ?_
    refine aT (Pleq h82 h35 (br_d35 b_u10 b_u9 b_z21 rf3 w45s u24s u44s k29 z32s u122s w31s)) ?_
    refine aT (Pleq (Zc 0) h192 (br_t89 b_u133)) ?_
    refine aT (Pleq h192 h194 (br_d7 b_u10 b_u9 u133s u134s)) ?_
    refine aT (Pleq h194 (Zc 10000000000000) (br_t90 b_u134)) ?_
    refine aT (Pleq h197 h28 (br_d36 b_r132 b_u10 b_u24 b_u9 b_z21 rf15 w135s u134s k29 q131s u122s z32s w31s)) ?_
    refine aT (Pleq h33 h200 (br_d37 b_r132 rf16 w138s u133s k29 u122s q131s z21s w20s)) ?_
    refine aT (Pleq h197 h35 (br_d38 b_r132 b_x27 b_z21 q136d rf15 w135s u24s m17f4 m18f4 m19f4 u134s k29 q131s z32s z21s w31s w20s)) ?_
    refine aF (Neql h112 (Zc 0) (br_t72 b_w70 b_w72 b_x0)) ?_
    refine aT (Pleq h33 h211 (br_d39 b_q82 b_r144 rf14 rf32 w40s w128s w146s w86s rf21 rf22 u123s u145s k29 rf37 u122s q143s z21s w142s w20s)) ?_
    refine aT (Pleq h211 h35 (br_d40 b_r144 b_u10 b_u9 b_z21 rf33 w146s w86s w45s rf3 w36s u145s w70s w72s u44s u24s w22s w23s k29 q143s rf24 u122s rf36 m69f1 m71f1 z32s w142s w31s)) ?_
    refine aT (Pleq h211 h134 (br_d41 b_q7 b_q82 b_q91 b_r144 b_u24 rf33 rf3 w146s w86s w45s w36s w22s w23s u145s w70s w72s m17f1 m18f1 m19f1 u44s k29 q143s rf24 u122s rf36 m69f1 m71f1 z32s w142s z21s w31s w20s)) ?_
    refine ask_p (fun g => ?_) (fun g => ?_)
    · have k53 := Zeqlt h177 (Zc 0) g; clear g
      refine aF (Neql h65 (Zc 10000000000000) (br_t76 b_u10 b_x29 b_z32)) ?_
      refine br_c1 h137 h139 u93s u94s b_u93 b_u94 b_u10 b_u9 ?_
      refine ask_q (fun g => ?_) (fun g => ?_)
      · have k55 := Zleqf h142 h28 g; clear g
        exact rfl
      have k55 := Zleqt h142 h28 g; clear g
      refine aT (Pleq h33 h145 (br_d42 rf8 w98s u93s k29 u122s z21s w20s)) ?_
      refine aF (Nleq h142 h35 (br_d30 k55 rf7 w95s u24s u94s z32s w31s)) ?_
      exact rfl
    have k53 := Zeqlf h177 (Zc 0) g; clear g
    refine aT (Pleq (Zc 0) h214 (br_t98 b_u149)) ?_
    refine aT (Pleq h214 h216 (br_d8 b_u10 b_u9 u149s u150s)) ?_
    refine aT (Pleq h216 (Zc 10000000000000) (br_t99 b_u150)) ?_
    refine aT (Pleq h219 h28 (br_d43 b_u10 b_u24 b_u9 rf17 w151s u150s k29 u122s z32s k28 w31s)) ?_
    refine aF (Nleq h33 h222 (br_d44 rf18 w154s u149s k53 u122s k28 z21s w20s)) ?_
    refine aF (Neql h65 (Zc 10000000000000) (br_t76 b_u10 b_x29 b_z32)) ?_
    refine br_c1 h137 h139 u93s u94s b_u93 b_u94 b_u10 b_u9 ?_
    refine ask_q (fun g => ?_) (fun g => ?_)
    · have k60 := Zleqf h142 h28 g; clear g
      exact rfl
    have k60 := Zleqt h142 h28 g; clear g
    refine aT (Pleq h33 h145 (br_d42 rf8 w98s u93s k29 u122s z21s w20s)) ?_
    refine aF (Nleq h142 h35 (br_d30 k60 rf7 w95s u24s u94s z32s w31s)) ?_
    exact rfl
  have k29 := Zleqf h177 h65 g; clear g
  refine aT (Pleq h33 (Zc 100000000) (br_t37 b_q7)) ?_
  refine br_c2 h103 h110 h67 h69 u33s u34s h44 h56 b_q63 b_x3 b_q67 b_x5 b_u33 b_u34 b_u10 b_u9 b_w13 b_w16 b_x0 b_w22 b_w23 ?_
  refine ask_q (fun g => ?_) (fun g => ?_)
  · have k31 := Zleqf h72 h28 g; clear g
    refine br_c3 h155 h157 u105s u106s b_u105 b_u10 b_u9 ?_
    refine aT (Pleq h157 (Zc 10000000000000) (br_t47 b_u106)) ?_
    refine aF (Nleq h160 h28 (br_d45 b_q7 k31 rf26 w107s w35s u106s u34s z104s m19f1 w103s m101f1 m102f1)) ?_
    refine br_c4 h167 h169 u114s u115s b_u114 b_u10 b_u9 ?_
    refine aT (Pleq h169 (Zc 10000000000000) (br_t50 b_u115)) ?_
    refine aF (Nleq h172 h28 (br_d10 b_u113 k31 rf28 w116s w35s u115s u34s)) ?_
    exact rfl
  have k31 := Zleqt h72 h28 g; clear g
  refine ask_p (fun g => ?_) (fun g => ?_)
  · have k32 := Zleqt h33 h75 g; clear g
    refine aF (Nleq h72 h35 (br_d46 k31 k32 rf1 rf2 w35s u24s w39s u34s u33s k29 z32s u122s k28 z21s w31s w20s)) ?_
    refine br_c3 h155 h157 u105s u106s b_u105 b_u10 b_u9 ?_
    refine aT (Pleq h157 (Zc 10000000000000) (br_t47 b_u106)) ?_
    refine ask_q (fun g => ?_) (fun g => ?_)
    · have k35 := Zleqf h160 h28 g; clear g
      refine br_c4 h167 h169 u114s u115s b_u114 b_u10 b_u9 ?_
      refine aT (Pleq h169 (Zc 10000000000000) (br_t50 b_u115)) ?_
      refine aT (Pleq h172 h28 (br_d47 k31 rf29 w116s w35s k32 u115s rf2 u34s u113s rf21_0 rf22_0 w39s z104s k28 u33s w103s z21s w20s)) ?_
      refine aT (Pleq h33 h175 (br_d48 b_u113 k32 rf2 rf12 w39s w119s u33s u114s)) ?_
      refine aF (Nleq h172 h35 (br_d49 b_u113 k32 rf11 rf2 k31 w116s rf1 u24s w35s w39s u115s u34s u33s k29 z32s u122s k28 z21s w31s w20s)) ?_
      exact rfl
    have k35 := Zleqt h160 h28 g; clear g
    refine aT (Pleq h33 h163 (br_d50 b_q111 k32 rf2 rf10 m19f1 w39s w110s m101f1 m102f1 u33s u105s z104s w103s)) ?_
    refine aF (Nleq h160 h35 (br_d51 b_q7 k32 k35 rf26 rf2 rf1 w107s u24s w35s m19f1 w39s u106s u34s m101f1 m102f1 u33s k29 z104s z32s u122s k28 w103s z21s w31s w20s)) ?_
    refine br_c4 h167 h169 u114s u115s b_u114 b_u10 b_u9 ?_
    refine aT (Pleq h169 (Zc 10000000000000) (br_t50 b_u115)) ?_
    refine aT (Pleq h172 h28 (br_d52 b_z104 k35 rf25 w116s w107s k32 u115s rf2 u106s u113s w39s k28 u33s z21s w20s)) ?_
    refine aT (Pleq h33 h175 (br_d48 b_u113 k32 rf2 rf12 w39s w119s u33s u114s)) ?_
    refine aF (Nleq h172 h35 (br_d53 k32 rf11 rf29 rf2 k31 w116s u24s w35s rf21_0 rf22_0 w39s u115s u34s u33s k29 u113s z104s z32s u122s k28 w103s z21s w31s w20s)) ?_
    exact rfl
  have k32 := Zleqf h33 h75 g; clear g
  refine br_c3 h155 h157 u105s u106s b_u105 b_u10 b_u9 ?_
  refine aT (Pleq h157 (Zc 10000000000000) (br_t47 b_u106)) ?_
  refine ask_q (fun g => ?_) (fun g => ?_)
  · have k34 := Zleqf h160 h28 g; clear g
    refine br_c4 h167 h169 u114s u115s b_u114 b_u10 b_u9 ?_
    refine aT (Pleq h169 (Zc 10000000000000) (br_t50 b_u115)) ?_
    refine ask_q (fun g => ?_) (fun g => ?_)
    · have k36 := Zleqf h172 h28 g; clear g
      exact rfl
    have k36 := Zleqt h172 h28 g; clear g
    refine ask_q (fun g => ?_) (fun g => ?_)
    · have k37 := Zleqf h33 h175 g; clear g
      exact rfl
    have k37 := Zleqt h33 h175 g; clear g
    refine aF (Nleq h172 h35 (br_d54 k32 k36 k37 rf11 rf2 rf12 w116s u24s w39s w119s u115s u33s u114s k29 z32s u122s z21s w31s w20s)) ?_
    exact rfl
  have k34 := Zleqt h160 h28 g; clear g
  refine ask_q (fun g => ?_) (fun g => ?_)
  · have k35 := Zleqf h33 h163 g; clear g
    refine br_c4 h167 h169 u114s u115s b_u114 b_u10 b_u9 ?_
    refine aT (Pleq h169 (Zc 10000000000000) (br_t50 b_u115)) ?_
    refine ask_q (fun g => ?_) (fun g => ?_)
    · have k37 := Zleqf h172 h28 g; clear g
      exact rfl
    have k37 := Zleqt h172 h28 g; clear g
    refine ask_q (fun g => ?_) (fun g => ?_)
    · have k38 := Zleqf h33 h175 g; clear g
      exact rfl
    have k38 := Zleqt h33 h175 g; clear g
    refine aF (Nleq h172 h35 (br_d55 b_q41 k32 k37 k38 rf11 rf12 w116s u24s m19f1 w119s u115s m101f1 m102f1 u114s k29 u113s z104s z32s u122s w103s z21s w31s w20s)) ?_
    exact rfl
  have k35 := Zleqt h33 h163 g; clear g
  refine aF (Nleq h160 h35 (br_d56 k32 k34 k35 rf9 rf2 rf10 w107s u24s w39s w110s u106s u33s u105s k29 z32s u122s z21s w31s w20s)) ?_
  refine br_c4 h167 h169 u114s u115s b_u114 b_u10 b_u9 ?_
  refine aT (Pleq h169 (Zc 10000000000000) (br_t50 b_u115)) ?_
  refine aT (Pleq h172 h28 (br_d57 b_q41 k34 rf25 w116s w107s k32 k35 u115s rf10 u106s u113s rf21_0 rf22_0 m19f1 w110s z104s m101f1 m102f1 u105s w103s)) ?_
  refine ask_q (fun g => ?_) (fun g => ?_)
  · have k39 := Zleqf h33 h175 g; clear g
    exact rfl
  have k39 := Zleqt h33 h175 g; clear g
  refine aF (Nleq h172 h35 (br_d58 b_q41 b_u113 k32 k35 k39 rf11 rf10 rf12 k34 w116s rf9 u24s w107s rf21_0 rf22_0 m19f1 w110s w119s u115s u106s m101f1 m102f1 u105s u114s k29 z104s z32s u122s w103s z21s w31s w20s)) ?_
  exact rfl
end Go.Proofs.Ytknphpihipkdpaa.Cx
