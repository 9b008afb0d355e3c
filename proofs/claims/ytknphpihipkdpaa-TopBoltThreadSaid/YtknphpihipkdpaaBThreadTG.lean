/- TopBoltThread: the tests of the law and their arithmetic. Made by tools/cxroot.py. -/
import Derived.Test.YtknphpihipkdpaaBThreadTN0
import Derived.Test.YtknphpihipkdpaaBThreadTN1
set_option linter.unusedSimpArgs false
set_option linter.unusedVariables false
set_option maxRecDepth 100000
set_option maxHeartbeats 4000000
namespace Go.Proofs.Ytknphpihipkdpaa.Cx
open Go Go.RowKit

theorem bh_goal {ρ : Env} {x0 x1 x2 x3 x4 x5 x6 x7 x8 x9 x10 x11 x12 x13 x14 : Int} (e0 : Is ρ (.v 0) x0) (b_x0 : 0 ≤ x0 ∧ x0 ≤ 255) (e1 : Is ρ (.v 1) x1) (b_x1 : 0 ≤ x1 ∧ x1 ≤ 255) (e2 : Is ρ (.v 2) x2) (b_x2 : 0 ≤ x2 ∧ x2 ≤ 255) (e3 : Is ρ (.v 3) x3) (b_x3 : 0 ≤ x3 ∧ x3 ≤ 255) (e4 : Is ρ (.v 4) x4) (b_x4 : 0 ≤ x4 ∧ x4 ≤ 255) (e5 : Is ρ (.v 5) x5) (b_x5 : 0 ≤ x5 ∧ x5 ≤ 255) (e6 : Is ρ (.v 6) x6) (b_x6 : 0 ≤ x6 ∧ x6 ≤ 255) (e7 : Is ρ (.v 7) x7) (b_x7 : 0 ≤ x7 ∧ x7 ≤ 255) (e8 : Is ρ (.v 8) x8) (b_x8 : 0 ≤ x8 ∧ x8 ≤ 255) (e9 : Is ρ (.v 9) x9) (b_x9 : 0 ≤ x9 ∧ x9 ≤ 65535) (e10 : Is ρ (.v 10) x10) (b_x10 : 0 ≤ x10 ∧ x10 ≤ 65535) (e11 : Is ρ (.v 11) x11) (b_x11 : 0 ≤ x11 ∧ x11 ≤ 65535) (e12 : Is ρ (.v 12) x12) (b_x12 : -128 ≤ x12 ∧ x12 ≤ 127) (e13 : Is ρ (.v 13) x13) (b_x13 : -128 ≤ x13 ∧ x13 ≤ 127) (e14 : Is ρ (.v 14) x14) (b_x14 : 0 ≤ x14 ∧ x14 ≤ 65535) : bhTree.goal ρ := by
  obtain ⟨q1, r2, q1e, r2e, q1s, b_q1, b_r2⟩ := bh_aq1 b_x9
  obtain ⟨q3, r4, q3e, r4e, q3s, b_q3, b_r4⟩ := bh_aq3 b_x9
  obtain ⟨m5, m5e, m5f1, m5f2, m5f3, m5f4, b_m5⟩ := bh_am5 b_r2 b_r4
  obtain ⟨w6, w6s, b_w6⟩ := bh_aw6 b_m5 b_r2 b_r4
  obtain ⟨q7, r8, q7e, r8e, q7s, b_q7, b_r8⟩ := bh_aq7 b_w6
  obtain ⟨q9, r10, q9e, r10e, q9s, b_q9, b_r10⟩ := bh_aq9 b_w6
  obtain ⟨q11, r12, q11e, r12e, q11s, b_q11, b_r12⟩ := bh_aq11 b_w6
  obtain ⟨q13, r14, q13e, r14e, q13s, b_q13, b_r14⟩ := bh_aq13 b_w6
  obtain ⟨q15, r16, q15e, r16e, q15s, b_q15, b_r16⟩ := bh_aq15 b_w6
  obtain ⟨q17, r18, q17e, r18e, q17s, b_q17, b_r18⟩ := bh_aq17 b_w6
  obtain ⟨q19, r20, q19e, r20e, q19s, b_q19, b_r20⟩ := bh_aq19 b_x10
  obtain ⟨q21, r22, q21e, r22e, q21s, b_q21, b_r22⟩ := bh_aq21 b_x11
  obtain ⟨q23, r24, q23e, r24e, q23s, b_q23, b_r24⟩ := bh_aq23 b_x14
  obtain ⟨m25, m25e, m25f1, m25f2, m25f3, m25f4, b_m25⟩ := bh_am25 b_r24 b_w6
  obtain ⟨w26, w26s, b_w26⟩ := bh_aw26 b_m25
  obtain ⟨q27, r28, q27e, r28e, q27s, b_q27, b_r28⟩ := bh_aq27 b_w26
  obtain ⟨g29, n30, d31, g29e, n30e, d31e, b_g29, b_n30, b_d31, g29s⟩ := bh_ag29 b_w26 r28e
  obtain ⟨w32, w32s, b_w32⟩ := bh_aw32 b_m25
  obtain ⟨q33, r34, q33e, r34e, q33s, b_q33, b_r34⟩ := bh_aq33 b_w32
  obtain ⟨q35, r36, q35e, r36e, q35s, b_q35, b_r36⟩ := bh_aq35 b_x8
  obtain ⟨m37, m37e, m37f1, m37f2, m37f3, m37f4, b_m37⟩ := bh_am37 b_r36 b_w6
  obtain ⟨m38, m38e, m38f1, m38f2, m38f3, m38f4, b_m38⟩ := bh_am38 b_w6 b_x7
  obtain ⟨w39, w39s, b_w39⟩ := bh_aw39 b_m37 b_m38 b_w6
  obtain ⟨q40, r41, q40e, r41e, q40s, b_q40, b_r41⟩ := bh_aq40 b_x4
  obtain ⟨q42, r43, q42e, r43e, q42s, b_q42, b_r43⟩ := bh_aq42 b_x6
  obtain ⟨w44, w44s, b_w44⟩ := bh_aw44 b_m38 b_w6
  obtain ⟨m45, m45e, m45f1, m45f2, m45f3, m45f4, b_m45⟩ := bh_am45 b_r41 b_x1
  obtain ⟨m46, m46e, m46f1, m46f2, m46f3, m46f4, b_m46⟩ := bh_am46 b_x1 b_x3
  obtain ⟨w47, w47s, b_w47⟩ := bh_aw47 b_m45 b_m46
  obtain ⟨m48, m48e, m48f1, m48f2, m48f3, m48f4, b_m48⟩ := bh_am48 b_r43 b_x2
  obtain ⟨m49, m49e, m49f1, m49f2, m49f3, m49f4, b_m49⟩ := bh_am49 b_x2 b_x5
  obtain ⟨w50, w50s, b_w50⟩ := bh_aw50 b_m48 b_m49
  obtain ⟨w51, w51s, b_w51⟩ := bh_aw51 b_m46
  obtain ⟨w52, w52s, b_w52⟩ := bh_aw52 b_m49
  obtain ⟨m53, m53e, m53f1, m53f2, m53f3, m53f4, b_m53⟩ := bh_am53 b_r24 b_w44
  obtain ⟨w54, w54s, b_w54⟩ := bh_aw54 b_m53
  obtain ⟨q55, r56, q55e, r56e, q55s, b_q55, b_r56⟩ := bh_aq55 b_w54
  obtain ⟨w57, w57s, b_w57⟩ := bh_aw57 
  obtain ⟨w58, w58s, b_w58⟩ := bh_aw58 b_w47 b_w50
  obtain ⟨q59, q59e, q59h, b_q59⟩ := bh_aq59 b_w57 b_w58
  obtain ⟨m60, m60e, m60f1, m60f2, m60f3, m60f4, b_m60⟩ := bh_am60 b_q59 b_w58
  have q59d := qD_is q59h m60e.out
  obtain ⟨m61, m61e, m61f1, m61f2, m61f3, m61f4, b_m61⟩ := bh_am61 b_n30 b_x7
  obtain ⟨w62, w62s, b_w62⟩ := bh_aw62 b_m61 b_n30
  obtain ⟨m63, m63e, m63f1, m63f2, m63f3, m63f4, b_m63⟩ := bh_am63 b_r24 b_w39
  obtain ⟨w64, w64s, b_w64⟩ := bh_aw64 b_m63
  obtain ⟨q65, r66, q65e, r66e, q65s, b_q65, b_r66⟩ := bh_aq65 b_w64
  obtain ⟨w67, w67s, b_w67⟩ := bh_aw67 b_w51 b_w52
  obtain ⟨q68, q68e, q68h, b_q68⟩ := bh_aq68 b_w57 b_w67
  obtain ⟨m69, m69e, m69f1, m69f2, m69f3, m69f4, b_m69⟩ := bh_am69 b_q68 b_w67
  have q68d := qD_is q68h m69e.out
  obtain ⟨m70, m70e, m70f1, m70f2, m70f3, m70f4, b_m70⟩ := bh_am70 b_n30 b_r36
  obtain ⟨w71, w71s, b_w71⟩ := bh_aw71 b_m61 b_m70 b_n30
  obtain ⟨q72, r73, q72e, r73e, q72s, b_q72, b_r73⟩ := bh_aq72 b_x14
  obtain ⟨m74, m74e, m74f1, m74f2, m74f3, m74f4, b_m74⟩ := bh_am74 b_r73 b_w6
  obtain ⟨w75, w75s, b_w75⟩ := bh_aw75 b_m74
  obtain ⟨q76, r77, q76e, r77e, q76s, b_q76, b_r77⟩ := bh_aq76 b_w75
  obtain ⟨g78, n79, d80, g78e, n79e, d80e, b_g78, b_n79, b_d80, g78s⟩ := bh_ag78 b_w75 r77e
  obtain ⟨w81, w81s, b_w81⟩ := bh_aw81 b_m74
  obtain ⟨q82, r83, q82e, r83e, q82s, b_q82, b_r83⟩ := bh_aq82 b_w81
  obtain ⟨m84, m84e, m84f1, m84f2, m84f3, m84f4, b_m84⟩ := bh_am84 b_r73 b_w44
  obtain ⟨w85, w85s, b_w85⟩ := bh_aw85 b_m84
  obtain ⟨q86, r87, q86e, r87e, q86s, b_q86, b_r87⟩ := bh_aq86 b_w85
  obtain ⟨m88, m88e, m88f1, m88f2, m88f3, m88f4, b_m88⟩ := bh_am88 b_n79 b_x7
  obtain ⟨w89, w89s, b_w89⟩ := bh_aw89 b_m88 b_n79
  obtain ⟨m90, m90e, m90f1, m90f2, m90f3, m90f4, b_m90⟩ := bh_am90 b_r73 b_w39
  obtain ⟨w91, w91s, b_w91⟩ := bh_aw91 b_m90
  obtain ⟨q92, r93, q92e, r93e, q92s, b_q92, b_r93⟩ := bh_aq92 b_w91
  obtain ⟨m94, m94e, m94f1, m94f2, m94f3, m94f4, b_m94⟩ := bh_am94 b_n79 b_r36
  obtain ⟨w95, w95s, b_w95⟩ := bh_aw95 b_m88 b_m94 b_n79
  obtain ⟨q96, r97, q96e, r97e, q96s, b_q96, b_r97⟩ := bh_aq96 b_x14
  obtain ⟨m98, m98e, m98f1, m98f2, m98f3, m98f4, b_m98⟩ := bh_am98 b_r97 b_w6
  obtain ⟨w99, w99s, b_w99⟩ := bh_aw99 b_m98
  obtain ⟨q100, r101, q100e, r101e, q100s, b_q100, b_r101⟩ := bh_aq100 b_w99
  obtain ⟨g102, n103, d104, g102e, n103e, d104e, b_g102, b_n103, b_d104, g102s⟩ := bh_ag102 b_w99 r101e
  obtain ⟨w105, w105s, b_w105⟩ := bh_aw105 b_m98
  obtain ⟨q106, r107, q106e, r107e, q106s, b_q106, b_r107⟩ := bh_aq106 b_w105
  obtain ⟨m108, m108e, m108f1, m108f2, m108f3, m108f4, b_m108⟩ := bh_am108 b_r97 b_w44
  obtain ⟨w109, w109s, b_w109⟩ := bh_aw109 b_m108
  obtain ⟨q110, r111, q110e, r111e, q110s, b_q110, b_r111⟩ := bh_aq110 b_w109
  obtain ⟨m112, m112e, m112f1, m112f2, m112f3, m112f4, b_m112⟩ := bh_am112 b_n103 b_x7
  obtain ⟨w113, w113s, b_w113⟩ := bh_aw113 b_m112 b_n103
  obtain ⟨m114, m114e, m114f1, m114f2, m114f3, m114f4, b_m114⟩ := bh_am114 b_r97 b_w39
  obtain ⟨w115, w115s, b_w115⟩ := bh_aw115 b_m114
  obtain ⟨q116, r117, q116e, r117e, q116s, b_q116, b_r117⟩ := bh_aq116 b_w115
  obtain ⟨m118, m118e, m118f1, m118f2, m118f3, m118f4, b_m118⟩ := bh_am118 b_n103 b_r36
  obtain ⟨w119, w119s, b_w119⟩ := bh_aw119 b_m112 b_m118 b_n103
  obtain ⟨q120, r121, q120e, r121e, q120s, b_q120, b_r121⟩ := bh_aq120 b_x14
  obtain ⟨m122, m122e, m122f1, m122f2, m122f3, m122f4, b_m122⟩ := bh_am122 b_r121 b_w6
  obtain ⟨w123, w123s, b_w123⟩ := bh_aw123 b_m122
  obtain ⟨q124, r125, q124e, r125e, q124s, b_q124, b_r125⟩ := bh_aq124 b_w123
  obtain ⟨g126, n127, d128, g126e, n127e, d128e, b_g126, b_n127, b_d128, g126s⟩ := bh_ag126 b_w123 r125e
  obtain ⟨w129, w129s, b_w129⟩ := bh_aw129 b_m122
  obtain ⟨q130, r131, q130e, r131e, q130s, b_q130, b_r131⟩ := bh_aq130 b_w129
  obtain ⟨m132, m132e, m132f1, m132f2, m132f3, m132f4, b_m132⟩ := bh_am132 b_r121 b_w44
  obtain ⟨w133, w133s, b_w133⟩ := bh_aw133 b_m132
  obtain ⟨q134, r135, q134e, r135e, q134s, b_q134, b_r135⟩ := bh_aq134 b_w133
  obtain ⟨m136, m136e, m136f1, m136f2, m136f3, m136f4, b_m136⟩ := bh_am136 b_n127 b_x7
  obtain ⟨w137, w137s, b_w137⟩ := bh_aw137 b_m136 b_n127
  obtain ⟨m138, m138e, m138f1, m138f2, m138f3, m138f4, b_m138⟩ := bh_am138 b_r121 b_w39
  obtain ⟨w139, w139s, b_w139⟩ := bh_aw139 b_m138
  obtain ⟨q140, r141, q140e, r141e, q140s, b_q140, b_r141⟩ := bh_aq140 b_w139
  obtain ⟨m142, m142e, m142f1, m142f2, m142f3, m142f4, b_m142⟩ := bh_am142 b_n127 b_r36
  obtain ⟨w143, w143s, b_w143⟩ := bh_aw143 b_m136 b_m142 b_n127
  obtain ⟨q144, r145, q144e, r145e, q144s, b_q144, b_r145⟩ := bh_aq144 b_w6
  obtain ⟨q146, r147, q146e, r147e, q146s, b_q146, b_r147⟩ := bh_aq146 b_w6
  obtain ⟨q148, r149, q148e, r149e, q148s, b_q148, b_r149⟩ := bh_aq148 b_w6
  obtain ⟨q150, r151, q150e, r151e, q150s, b_q150, b_r151⟩ := bh_aq150 b_x14
  obtain ⟨m152, m152e, m152f1, m152f2, m152f3, m152f4, b_m152⟩ := bh_am152 b_r151 b_w6
  obtain ⟨w153, w153s, b_w153⟩ := bh_aw153 b_m152
  obtain ⟨q154, r155, q154e, r155e, q154s, b_q154, b_r155⟩ := bh_aq154 b_w153
  obtain ⟨g156, n157, d158, g156e, n157e, d158e, b_g156, b_n157, b_d158, g156s⟩ := bh_ag156 b_w153 r155e
  obtain ⟨w159, w159s, b_w159⟩ := bh_aw159 b_m152
  obtain ⟨q160, r161, q160e, r161e, q160s, b_q160, b_r161⟩ := bh_aq160 b_w159
  obtain ⟨m162, m162e, m162f1, m162f2, m162f3, m162f4, b_m162⟩ := bh_am162 b_r151 b_w44
  obtain ⟨w163, w163s, b_w163⟩ := bh_aw163 b_m162
  obtain ⟨q164, r165, q164e, r165e, q164s, b_q164, b_r165⟩ := bh_aq164 b_w163
  obtain ⟨m166, m166e, m166f1, m166f2, m166f3, m166f4, b_m166⟩ := bh_am166 b_n157 b_x7
  obtain ⟨w167, w167s, b_w167⟩ := bh_aw167 b_m166 b_n157
  obtain ⟨m168, m168e, m168f1, m168f2, m168f3, m168f4, b_m168⟩ := bh_am168 b_r151 b_w39
  obtain ⟨w169, w169s, b_w169⟩ := bh_aw169 b_m168
  obtain ⟨q170, r171, q170e, r171e, q170s, b_q170, b_r171⟩ := bh_aq170 b_w169
  obtain ⟨m172, m172e, m172f1, m172f2, m172f3, m172f4, b_m172⟩ := bh_am172 b_n157 b_r36
  obtain ⟨w173, w173s, b_w173⟩ := bh_aw173 b_m166 b_m172 b_n157
  obtain ⟨q174, r175, q174e, r175e, q174s, b_q174, b_r175⟩ := bh_aq174 b_x14
  obtain ⟨m176, m176e, m176f1, m176f2, m176f3, m176f4, b_m176⟩ := bh_am176 b_r175 b_w6
  obtain ⟨w177, w177s, b_w177⟩ := bh_aw177 b_m176
  obtain ⟨q178, r179, q178e, r179e, q178s, b_q178, b_r179⟩ := bh_aq178 b_w177
  obtain ⟨g180, n181, d182, g180e, n181e, d182e, b_g180, b_n181, b_d182, g180s⟩ := bh_ag180 b_w177 r179e
  obtain ⟨w183, w183s, b_w183⟩ := bh_aw183 b_m176
  obtain ⟨q184, r185, q184e, r185e, q184s, b_q184, b_r185⟩ := bh_aq184 b_w183
  obtain ⟨m186, m186e, m186f1, m186f2, m186f3, m186f4, b_m186⟩ := bh_am186 b_r175 b_w44
  obtain ⟨w187, w187s, b_w187⟩ := bh_aw187 b_m186
  obtain ⟨q188, r189, q188e, r189e, q188s, b_q188, b_r189⟩ := bh_aq188 b_w187
  obtain ⟨m190, m190e, m190f1, m190f2, m190f3, m190f4, b_m190⟩ := bh_am190 b_n181 b_x7
  obtain ⟨w191, w191s, b_w191⟩ := bh_aw191 b_m190 b_n181
  obtain ⟨m192, m192e, m192f1, m192f2, m192f3, m192f4, b_m192⟩ := bh_am192 b_r175 b_w39
  obtain ⟨w193, w193s, b_w193⟩ := bh_aw193 b_m192
  obtain ⟨q194, r195, q194e, r195e, q194s, b_q194, b_r195⟩ := bh_aq194 b_w193
  obtain ⟨m196, m196e, m196f1, m196f2, m196f3, m196f4, b_m196⟩ := bh_am196 b_n181 b_r36
  obtain ⟨w197, w197s, b_w197⟩ := bh_aw197 b_m190 b_m196 b_n181
  obtain ⟨q198, r199, q198e, r199e, q198s, b_q198, b_r199⟩ := bh_aq198 b_x14
  obtain ⟨m200, m200e, m200f1, m200f2, m200f3, m200f4, b_m200⟩ := bh_am200 b_r199 b_w6
  obtain ⟨w201, w201s, b_w201⟩ := bh_aw201 b_m200
  obtain ⟨q202, r203, q202e, r203e, q202s, b_q202, b_r203⟩ := bh_aq202 b_w201
  obtain ⟨g204, n205, d206, g204e, n205e, d206e, b_g204, b_n205, b_d206, g204s⟩ := bh_ag204 b_w201 r203e
  obtain ⟨w207, w207s, b_w207⟩ := bh_aw207 b_m200
  obtain ⟨q208, r209, q208e, r209e, q208s, b_q208, b_r209⟩ := bh_aq208 b_w207
  obtain ⟨m210, m210e, m210f1, m210f2, m210f3, m210f4, b_m210⟩ := bh_am210 b_r199 b_w44
  obtain ⟨w211, w211s, b_w211⟩ := bh_aw211 b_m210
  obtain ⟨q212, r213, q212e, r213e, q212s, b_q212, b_r213⟩ := bh_aq212 b_w211
  obtain ⟨m214, m214e, m214f1, m214f2, m214f3, m214f4, b_m214⟩ := bh_am214 b_n205 b_x7
  obtain ⟨w215, w215s, b_w215⟩ := bh_aw215 b_m214 b_n205
  obtain ⟨m216, m216e, m216f1, m216f2, m216f3, m216f4, b_m216⟩ := bh_am216 b_r199 b_w39
  obtain ⟨w217, w217s, b_w217⟩ := bh_aw217 b_m216
  obtain ⟨q218, r219, q218e, r219e, q218s, b_q218, b_r219⟩ := bh_aq218 b_w217
  obtain ⟨m220, m220e, m220f1, m220f2, m220f3, m220f4, b_m220⟩ := bh_am220 b_n205 b_r36
  obtain ⟨w221, w221s, b_w221⟩ := bh_aw221 b_m214 b_m220 b_n205
  obtain ⟨q222, r223, q222e, r223e, q222s, b_q222, b_r223⟩ := bh_aq222 b_x14
  obtain ⟨m224, m224e, m224f1, m224f2, m224f3, m224f4, b_m224⟩ := bh_am224 b_r223 b_w6
  obtain ⟨w225, w225s, b_w225⟩ := bh_aw225 b_m224
  obtain ⟨q226, r227, q226e, r227e, q226s, b_q226, b_r227⟩ := bh_aq226 b_w225
  obtain ⟨g228, n229, d230, g228e, n229e, d230e, b_g228, b_n229, b_d230, g228s⟩ := bh_ag228 b_w225 r227e
  obtain ⟨w231, w231s, b_w231⟩ := bh_aw231 b_m224
  obtain ⟨q232, r233, q232e, r233e, q232s, b_q232, b_r233⟩ := bh_aq232 b_w231
  obtain ⟨m234, m234e, m234f1, m234f2, m234f3, m234f4, b_m234⟩ := bh_am234 b_r223 b_w44
  obtain ⟨w235, w235s, b_w235⟩ := bh_aw235 b_m234
  obtain ⟨q236, r237, q236e, r237e, q236s, b_q236, b_r237⟩ := bh_aq236 b_w235
  obtain ⟨m238, m238e, m238f1, m238f2, m238f3, m238f4, b_m238⟩ := bh_am238 b_n229 b_x7
  obtain ⟨w239, w239s, b_w239⟩ := bh_aw239 b_m238 b_n229
  obtain ⟨m240, m240e, m240f1, m240f2, m240f3, m240f4, b_m240⟩ := bh_am240 b_r223 b_w39
  obtain ⟨w241, w241s, b_w241⟩ := bh_aw241 b_m240
  obtain ⟨q242, r243, q242e, r243e, q242s, b_q242, b_r243⟩ := bh_aq242 b_w241
  obtain ⟨m244, m244e, m244f1, m244f2, m244f3, m244f4, b_m244⟩ := bh_am244 b_n229 b_r36
  obtain ⟨w245, w245s, b_w245⟩ := bh_aw245 b_m238 b_m244 b_n229
  have rf1 := bh_rf1  q17s
  obtain ⟨m246, m246e, m246f1, m246f2, m246f3, m246f4, b_m246⟩ := bh_am246 b_q17 b_r24
  obtain ⟨m247, m247e, m247f1, m247f2, m247f3, m247f4, b_m247⟩ := bh_am247 b_r18 b_r24
  have rf1_0 := bh_rf1_0 b_r24 rf1 m246e m247e m25e
  have rf2 := bh_rf2  q17s
  have rf2_0 := bh_rf2_0 b_r24 rf2 m246e m247e m25e
  obtain ⟨m248, m248e, m248f1, m248f2, m248f3, m248f4, b_m248⟩ := bh_am248 b_m25 b_x7
  have rf3 := bh_rf3 b_r28 b_x7 g29s w26s m248e m61e
  have rf4 := bh_rf4 b_r28 b_x7 g29s w26s m248e m61e
  obtain ⟨m249, m249e, m249f1, m249f2, m249f3, m249f4, b_m249⟩ := bh_am249 b_m38 b_r24
  have rf5 : m249 = m248 := assoc_eq m38e.out m249e.out ((Int.mul_comm _ _).trans m25e.out) m248e.out
  obtain ⟨m250, m250e, m250f1, m250f2, m250f3, m250f4, b_m250⟩ := bh_am250 b_m25 b_r36
  have rf6 := bh_rf6 b_r28 b_r36 g29s w26s m250e m70e
  have rf7 := bh_rf7 b_r28 b_r36 g29s w26s m250e m70e
  obtain ⟨m251, m251e, m251f1, m251f2, m251f3, m251f4, b_m251⟩ := bh_am251 b_m37 b_r24
  have rf8 : m251 = m250 := assoc_eq ((Int.mul_comm _ _).trans m37e.out) m251e.out ((Int.mul_comm _ _).trans m25e.out) m250e.out
  have rf9 := bh_rf9  w44s
  have rf9_0 := bh_rf9_0 b_r24 rf9 m249e m53e m25e
  have rf10 := bh_rf10  w44s
  have rf10_0 := bh_rf10_0 b_r24 rf10 m249e m53e m25e
  have rf11 := bh_rf11  w39s
  have rf11_0 := bh_rf11_0 b_r24 rf11 m251e m249e m63e m25e
  have rf12 := bh_rf12  w39s
  have rf12_0 := bh_rf12_0 b_r24 rf12 m251e m249e m63e m25e
  have rf13 := bh_rf13  q15s
  obtain ⟨m252, m252e, m252f1, m252f2, m252f3, m252f4, b_m252⟩ := bh_am252 b_q15 b_r73
  obtain ⟨m253, m253e, m253f1, m253f2, m253f3, m253f4, b_m253⟩ := bh_am253 b_r16 b_r73
  have rf13_0 := bh_rf13_0 b_r73 rf13 m252e m253e m74e
  have rf14 := bh_rf14  q15s
  have rf14_0 := bh_rf14_0 b_r73 rf14 m252e m253e m74e
  obtain ⟨m254, m254e, m254f1, m254f2, m254f3, m254f4, b_m254⟩ := bh_am254 b_m74 b_x7
  have rf15 := bh_rf15 b_r77 b_x7 g78s w75s m254e m88e
  have rf16 := bh_rf16 b_r77 b_x7 g78s w75s m254e m88e
  obtain ⟨m255, m255e, m255f1, m255f2, m255f3, m255f4, b_m255⟩ := bh_am255 b_m38 b_r73
  have rf17 : m255 = m254 := assoc_eq m38e.out m255e.out ((Int.mul_comm _ _).trans m74e.out) m254e.out
  obtain ⟨m256, m256e, m256f1, m256f2, m256f3, m256f4, b_m256⟩ := bh_am256 b_m74 b_r36
  have rf18 := bh_rf18 b_r36 b_r77 g78s w75s m256e m94e
  have rf19 := bh_rf19 b_r36 b_r77 g78s w75s m256e m94e
  obtain ⟨m257, m257e, m257f1, m257f2, m257f3, m257f4, b_m257⟩ := bh_am257 b_m37 b_r73
  have rf20 : m257 = m256 := assoc_eq ((Int.mul_comm _ _).trans m37e.out) m257e.out ((Int.mul_comm _ _).trans m74e.out) m256e.out
  have rf21 := bh_rf21  rf9
  have rf21_0 := bh_rf21_0 b_r73 rf21 m255e m84e m74e
  have rf22 := bh_rf22  rf10
  have rf22_0 := bh_rf22_0 b_r73 rf22 m255e m84e m74e
  have rf23 := bh_rf23  rf11
  have rf23_0 := bh_rf23_0 b_r73 rf23 m257e m255e m90e m74e
  have rf24 := bh_rf24  rf12
  have rf24_0 := bh_rf24_0 b_r73 rf24 m257e m255e m90e m74e
  have rf25 := bh_rf25  q13s
  obtain ⟨m258, m258e, m258f1, m258f2, m258f3, m258f4, b_m258⟩ := bh_am258 b_q13 b_r97
  obtain ⟨m259, m259e, m259f1, m259f2, m259f3, m259f4, b_m259⟩ := bh_am259 b_r14 b_r97
  have rf25_0 := bh_rf25_0 b_r97 rf25 m258e m259e m98e
  have rf26 := bh_rf26  q13s
  have rf26_0 := bh_rf26_0 b_r97 rf26 m258e m259e m98e
  obtain ⟨m260, m260e, m260f1, m260f2, m260f3, m260f4, b_m260⟩ := bh_am260 b_m98 b_x7
  have rf27 := bh_rf27 b_r101 b_x7 g102s w99s m260e m112e
  have rf28 := bh_rf28 b_r101 b_x7 g102s w99s m260e m112e
  obtain ⟨m261, m261e, m261f1, m261f2, m261f3, m261f4, b_m261⟩ := bh_am261 b_m38 b_r97
  have rf29 : m261 = m260 := assoc_eq m38e.out m261e.out ((Int.mul_comm _ _).trans m98e.out) m260e.out
  obtain ⟨m262, m262e, m262f1, m262f2, m262f3, m262f4, b_m262⟩ := bh_am262 b_m98 b_r36
  have rf30 := bh_rf30 b_r101 b_r36 g102s w99s m262e m118e
  have rf31 := bh_rf31 b_r101 b_r36 g102s w99s m262e m118e
  obtain ⟨m263, m263e, m263f1, m263f2, m263f3, m263f4, b_m263⟩ := bh_am263 b_m37 b_r97
  have rf32 : m263 = m262 := assoc_eq ((Int.mul_comm _ _).trans m37e.out) m263e.out ((Int.mul_comm _ _).trans m98e.out) m262e.out
  have rf33 := bh_rf33  rf9
  have rf33_0 := bh_rf33_0 b_r97 rf33 m261e m108e m98e
  have rf34 := bh_rf34  rf10
  have rf34_0 := bh_rf34_0 b_r97 rf34 m261e m108e m98e
  have rf35 := bh_rf35  rf11
  have rf35_0 := bh_rf35_0 b_r97 rf35 m263e m261e m114e m98e
  have rf36 := bh_rf36  rf12
  have rf36_0 := bh_rf36_0 b_r97 rf36 m263e m261e m114e m98e
  have rf37 := bh_rf37  q11s
  obtain ⟨m264, m264e, m264f1, m264f2, m264f3, m264f4, b_m264⟩ := bh_am264 b_q11 b_r121
  obtain ⟨m265, m265e, m265f1, m265f2, m265f3, m265f4, b_m265⟩ := bh_am265 b_r12 b_r121
  have rf37_0 := bh_rf37_0 b_r121 rf37 m264e m265e m122e
  have rf38 := bh_rf38  q11s
  have rf38_0 := bh_rf38_0 b_r121 rf38 m264e m265e m122e
  obtain ⟨m266, m266e, m266f1, m266f2, m266f3, m266f4, b_m266⟩ := bh_am266 b_m122 b_x7
  have rf39 := bh_rf39 b_r125 b_x7 g126s w123s m266e m136e
  have rf40 := bh_rf40 b_r125 b_x7 g126s w123s m266e m136e
  obtain ⟨m267, m267e, m267f1, m267f2, m267f3, m267f4, b_m267⟩ := bh_am267 b_m38 b_r121
  have rf41 : m267 = m266 := assoc_eq m38e.out m267e.out ((Int.mul_comm _ _).trans m122e.out) m266e.out
  obtain ⟨m268, m268e, m268f1, m268f2, m268f3, m268f4, b_m268⟩ := bh_am268 b_m122 b_r36
  have rf42 := bh_rf42 b_r125 b_r36 g126s w123s m268e m142e
  have rf43 := bh_rf43 b_r125 b_r36 g126s w123s m268e m142e
  obtain ⟨m269, m269e, m269f1, m269f2, m269f3, m269f4, b_m269⟩ := bh_am269 b_m37 b_r121
  have rf44 : m269 = m268 := assoc_eq ((Int.mul_comm _ _).trans m37e.out) m269e.out ((Int.mul_comm _ _).trans m122e.out) m268e.out
  have rf45 := bh_rf45  rf9
  have rf45_0 := bh_rf45_0 b_r121 rf45 m267e m132e m122e
  have rf46 := bh_rf46  rf10
  have rf46_0 := bh_rf46_0 b_r121 rf46 m267e m132e m122e
  have rf47 := bh_rf47  rf11
  have rf47_0 := bh_rf47_0 b_r121 rf47 m269e m267e m138e m122e
  have rf48 := bh_rf48  rf12
  have rf48_0 := bh_rf48_0 b_r121 rf48 m269e m267e m138e m122e
  have rf49 := bh_rf49  q148s
  obtain ⟨m270, m270e, m270f1, m270f2, m270f3, m270f4, b_m270⟩ := bh_am270 b_q148 b_r151
  obtain ⟨m271, m271e, m271f1, m271f2, m271f3, m271f4, b_m271⟩ := bh_am271 b_r149 b_r151
  have rf49_0 := bh_rf49_0 b_r151 rf49 m270e m271e m152e
  have rf50 := bh_rf50  q148s
  have rf50_0 := bh_rf50_0 b_r151 rf50 m270e m271e m152e
  obtain ⟨m272, m272e, m272f1, m272f2, m272f3, m272f4, b_m272⟩ := bh_am272 b_m152 b_x7
  have rf51 := bh_rf51 b_r155 b_x7 g156s w153s m272e m166e
  have rf52 := bh_rf52 b_r155 b_x7 g156s w153s m272e m166e
  obtain ⟨m273, m273e, m273f1, m273f2, m273f3, m273f4, b_m273⟩ := bh_am273 b_m38 b_r151
  have rf53 : m273 = m272 := assoc_eq m38e.out m273e.out ((Int.mul_comm _ _).trans m152e.out) m272e.out
  obtain ⟨m274, m274e, m274f1, m274f2, m274f3, m274f4, b_m274⟩ := bh_am274 b_m152 b_r36
  have rf54 := bh_rf54 b_r155 b_r36 g156s w153s m274e m172e
  have rf55 := bh_rf55 b_r155 b_r36 g156s w153s m274e m172e
  obtain ⟨m275, m275e, m275f1, m275f2, m275f3, m275f4, b_m275⟩ := bh_am275 b_m37 b_r151
  have rf56 : m275 = m274 := assoc_eq ((Int.mul_comm _ _).trans m37e.out) m275e.out ((Int.mul_comm _ _).trans m152e.out) m274e.out
  have rf57 := bh_rf57  rf9
  have rf57_0 := bh_rf57_0 b_r151 rf57 m273e m162e m152e
  have rf58 := bh_rf58  rf10
  have rf58_0 := bh_rf58_0 b_r151 rf58 m273e m162e m152e
  have rf59 := bh_rf59  rf11
  have rf59_0 := bh_rf59_0 b_r151 rf59 m275e m273e m168e m152e
  have rf60 := bh_rf60  rf12
  have rf60_0 := bh_rf60_0 b_r151 rf60 m275e m273e m168e m152e
  have rf61 := bh_rf61  q146s
  obtain ⟨m276, m276e, m276f1, m276f2, m276f3, m276f4, b_m276⟩ := bh_am276 b_q146 b_r175
  obtain ⟨m277, m277e, m277f1, m277f2, m277f3, m277f4, b_m277⟩ := bh_am277 b_r147 b_r175
  have rf61_0 := bh_rf61_0 b_r175 rf61 m276e m277e m176e
  have rf62 := bh_rf62  q146s
  have rf62_0 := bh_rf62_0 b_r175 rf62 m276e m277e m176e
  obtain ⟨m278, m278e, m278f1, m278f2, m278f3, m278f4, b_m278⟩ := bh_am278 b_m176 b_x7
  have rf63 := bh_rf63 b_r179 b_x7 g180s w177s m278e m190e
  have rf64 := bh_rf64 b_r179 b_x7 g180s w177s m278e m190e
  obtain ⟨m279, m279e, m279f1, m279f2, m279f3, m279f4, b_m279⟩ := bh_am279 b_m38 b_r175
  have rf65 : m279 = m278 := assoc_eq m38e.out m279e.out ((Int.mul_comm _ _).trans m176e.out) m278e.out
  obtain ⟨m280, m280e, m280f1, m280f2, m280f3, m280f4, b_m280⟩ := bh_am280 b_m176 b_r36
  have rf66 := bh_rf66 b_r179 b_r36 g180s w177s m280e m196e
  have rf67 := bh_rf67 b_r179 b_r36 g180s w177s m280e m196e
  obtain ⟨m281, m281e, m281f1, m281f2, m281f3, m281f4, b_m281⟩ := bh_am281 b_m37 b_r175
  have rf68 : m281 = m280 := assoc_eq ((Int.mul_comm _ _).trans m37e.out) m281e.out ((Int.mul_comm _ _).trans m176e.out) m280e.out
  have rf69 := bh_rf69  rf9
  have rf69_0 := bh_rf69_0 b_r175 rf69 m279e m186e m176e
  have rf70 := bh_rf70  rf10
  have rf70_0 := bh_rf70_0 b_r175 rf70 m279e m186e m176e
  have rf71 := bh_rf71  rf11
  have rf71_0 := bh_rf71_0 b_r175 rf71 m281e m279e m192e m176e
  have rf72 := bh_rf72  rf12
  have rf72_0 := bh_rf72_0 b_r175 rf72 m281e m279e m192e m176e
  have rf73 := bh_rf73  q144s
  obtain ⟨m282, m282e, m282f1, m282f2, m282f3, m282f4, b_m282⟩ := bh_am282 b_q144 b_r199
  obtain ⟨m283, m283e, m283f1, m283f2, m283f3, m283f4, b_m283⟩ := bh_am283 b_r145 b_r199
  have rf73_0 := bh_rf73_0 b_r199 rf73 m282e m283e m200e
  have rf74 := bh_rf74  q144s
  have rf74_0 := bh_rf74_0 b_r199 rf74 m282e m283e m200e
  obtain ⟨m284, m284e, m284f1, m284f2, m284f3, m284f4, b_m284⟩ := bh_am284 b_m200 b_x7
  have rf75 := bh_rf75 b_r203 b_x7 g204s w201s m284e m214e
  have rf76 := bh_rf76 b_r203 b_x7 g204s w201s m284e m214e
  obtain ⟨m285, m285e, m285f1, m285f2, m285f3, m285f4, b_m285⟩ := bh_am285 b_m38 b_r199
  have rf77 : m285 = m284 := assoc_eq m38e.out m285e.out ((Int.mul_comm _ _).trans m200e.out) m284e.out
  obtain ⟨m286, m286e, m286f1, m286f2, m286f3, m286f4, b_m286⟩ := bh_am286 b_m200 b_r36
  have rf78 := bh_rf78 b_r203 b_r36 g204s w201s m286e m220e
  have rf79 := bh_rf79 b_r203 b_r36 g204s w201s m286e m220e
  obtain ⟨m287, m287e, m287f1, m287f2, m287f3, m287f4, b_m287⟩ := bh_am287 b_m37 b_r199
  have rf80 : m287 = m286 := assoc_eq ((Int.mul_comm _ _).trans m37e.out) m287e.out ((Int.mul_comm _ _).trans m200e.out) m286e.out
  have rf81 := bh_rf81  rf9
  have rf81_0 := bh_rf81_0 b_r199 rf81 m285e m210e m200e
  have rf82 := bh_rf82  rf10
  have rf82_0 := bh_rf82_0 b_r199 rf82 m285e m210e m200e
  have rf83 := bh_rf83  rf11
  have rf83_0 := bh_rf83_0 b_r199 rf83 m287e m285e m216e m200e
  have rf84 := bh_rf84  rf12
  have rf84_0 := bh_rf84_0 b_r199 rf84 m287e m285e m216e m200e
  have rf85 := bh_rf85  q9s
  obtain ⟨m288, m288e, m288f1, m288f2, m288f3, m288f4, b_m288⟩ := bh_am288 b_q9 b_r223
  obtain ⟨m289, m289e, m289f1, m289f2, m289f3, m289f4, b_m289⟩ := bh_am289 b_r10 b_r223
  have rf85_0 := bh_rf85_0 b_r223 rf85 m288e m289e m224e
  have rf86 := bh_rf86  q9s
  have rf86_0 := bh_rf86_0 b_r223 rf86 m288e m289e m224e
  obtain ⟨m290, m290e, m290f1, m290f2, m290f3, m290f4, b_m290⟩ := bh_am290 b_m224 b_x7
  have rf87 := bh_rf87 b_r227 b_x7 g228s w225s m290e m238e
  have rf88 := bh_rf88 b_r227 b_x7 g228s w225s m290e m238e
  obtain ⟨m291, m291e, m291f1, m291f2, m291f3, m291f4, b_m291⟩ := bh_am291 b_m38 b_r223
  have rf89 : m291 = m290 := assoc_eq m38e.out m291e.out ((Int.mul_comm _ _).trans m224e.out) m290e.out
  obtain ⟨m292, m292e, m292f1, m292f2, m292f3, m292f4, b_m292⟩ := bh_am292 b_m224 b_r36
  have rf90 := bh_rf90 b_r227 b_r36 g228s w225s m292e m244e
  have rf91 := bh_rf91 b_r227 b_r36 g228s w225s m292e m244e
  obtain ⟨m293, m293e, m293f1, m293f2, m293f3, m293f4, b_m293⟩ := bh_am293 b_m37 b_r223
  have rf92 : m293 = m292 := assoc_eq ((Int.mul_comm _ _).trans m37e.out) m293e.out ((Int.mul_comm _ _).trans m224e.out) m292e.out
  have rf93 := bh_rf93  rf9
  have rf93_0 := bh_rf93_0 b_r223 rf93 m291e m234e m224e
  have rf94 := bh_rf94  rf10
  have rf94_0 := bh_rf94_0 b_r223 rf94 m291e m234e m224e
  have rf95 := bh_rf95  rf11
  have rf95_0 := bh_rf95_0 b_r223 rf95 m293e m291e m240e m224e
  have rf96 := bh_rf96  rf12
  have rf96_0 := bh_rf96_0 b_r223 rf96 m293e m291e m240e m224e
  obtain ⟨h3, h5, h8, h10, h12, h14, h16, h18, h21, h24, h26, h27, h30, h31, h32, h34, h35, h37, h39, h42, h43, h45, h47, h48, h51, h52, h55, h56, h60, h64, h68, h69, h73, h74, h76, h77, h78, h80, h81, h83, h86, h87, h90, h91, h93, h94, h95, h97, h98, h100, h103, h104, h107, h108, h110, h111, h112, h114, h115, h117, h120, h121, h124, h125, h127, h129, h131, h133, h134, h135, h137, h138, h140, h143, h144, h147, h148, h150, h151, h152, h154, h155, h157, h160, h161, h164, h165, h167, h168, h169, h171, h172, h174, h177, h178, h181, h182, h184, h185, h186, h188, h189, h191, h194, h195, h198, h199⟩ := bh_g0 (ρ := ρ) e9 r2e r4e m5e ⟨w6s⟩ r8e r10e r12e r14e r16e r18e e10 r20e e11 r22e e14 r24e m25e ⟨w26s⟩ g29e d31e n30e ⟨w32s⟩ q33e e7 e8 r36e m37e m38e ⟨w39s⟩ e1 e2 e3 e4 r41e e5 e6 r43e ⟨w44s⟩ m45e m46e ⟨w47s⟩ m48e m49e ⟨w50s⟩ ⟨w51s⟩ ⟨w52s⟩ m53e ⟨w54s⟩ q55e q59e ⟨w57s⟩ ⟨w58s⟩ m61e ⟨w62s⟩ m63e ⟨w64s⟩ q65e q68e ⟨w67s⟩ m70e ⟨w71s⟩ r73e m74e ⟨w75s⟩ g78e d80e n79e ⟨w81s⟩ q82e m84e ⟨w85s⟩ q86e m88e ⟨w89s⟩ m90e ⟨w91s⟩ q92e m94e ⟨w95s⟩ r97e m98e ⟨w99s⟩ g102e d104e n103e ⟨w105s⟩ q106e m108e ⟨w109s⟩ q110e m112e ⟨w113s⟩ m114e ⟨w115s⟩ q116e m118e ⟨w119s⟩ r121e m122e ⟨w123s⟩ g126e d128e n127e ⟨w129s⟩ q130e m132e ⟨w133s⟩ q134e m136e ⟨w137s⟩ m138e ⟨w139s⟩ q140e m142e ⟨w143s⟩ r145e r147e r149e r151e m152e ⟨w153s⟩ g156e d158e n157e ⟨w159s⟩ q160e m162e ⟨w163s⟩ q164e m166e ⟨w167s⟩ m168e ⟨w169s⟩ q170e m172e ⟨w173s⟩ r175e m176e ⟨w177s⟩ g180e d182e n181e ⟨w183s⟩ q184e m186e ⟨w187s⟩ q188e m190e ⟨w191s⟩ m192e ⟨w193s⟩ q194e m196e ⟨w197s⟩ r199e m200e ⟨w201s⟩ g204e d206e n205e ⟨w207s⟩ q208e m210e ⟨w211s⟩ q212e m214e ⟨w215s⟩ m216e ⟨w217s⟩ q218e m220e ⟨w221s⟩ r223e m224e ⟨w225s⟩ g228e d230e n229e ⟨w231s⟩ q232e m234e ⟨w235s⟩ q236e m238e ⟨w239s⟩ m240e ⟨w241s⟩ q242e m244e ⟨w245s⟩ b_x9 b_r2 b_r4 b_w6 b_m5 b_r8 b_r10 b_r12 b_r14 b_r16 b_r18 b_x10 b_r20 b_x11 b_r22 b_x14 b_r24 b_w26 b_m25 b_g29 b_d31 b_n30 b_w32 b_q33 b_x7 b_x8 b_r36 b_w39 b_m37 b_m38 b_x1 b_x2 b_x3 b_x4 b_r41 b_x5 b_x6 b_r43 b_w44 b_w47 b_m45 b_m46 b_w50 b_m48 b_m49 b_w51 b_w52 b_w54 b_m53 b_q55 b_q59 b_w57 b_w58 b_w62 b_m61 b_w64 b_m63 b_q65 b_q68 b_w67 b_w71 b_m70 b_r73 b_w75 b_m74 b_g78 b_d80 b_n79 b_w81 b_q82 b_w85 b_m84 b_q86 b_w89 b_m88 b_w91 b_m90 b_q92 b_w95 b_m94 b_r97 b_w99 b_m98 b_g102 b_d104 b_n103 b_w105 b_q106 b_w109 b_m108 b_q110 b_w113 b_m112 b_w115 b_m114 b_q116 b_w119 b_m118 b_r121 b_w123 b_m122 b_g126 b_d128 b_n127 b_w129 b_q130 b_w133 b_m132 b_q134 b_w137 b_m136 b_w139 b_m138 b_q140 b_w143 b_m142 b_r145 b_r147 b_r149 b_r151 b_w153 b_m152 b_g156 b_d158 b_n157 b_w159 b_q160 b_w163 b_m162 b_q164 b_w167 b_m166 b_w169 b_m168 b_q170 b_w173 b_m172 b_r175 b_w177 b_m176 b_g180 b_d182 b_n181 b_w183 b_q184 b_w187 b_m186 b_q188 b_w191 b_m190 b_w193 b_m192 b_q194 b_w197 b_m196 b_r199 b_w201 b_m200 b_g204 b_d206 b_n205 b_w207 b_q208 b_w211 b_m210 b_q212 b_w215 b_m214 b_w217 b_m216 b_q218 b_w221 b_m220 b_r223 b_w225 b_m224 b_g228 b_d230 b_n229 b_w231 b_q232 b_w235 b_m234 b_q236 b_w239 b_m238 b_w241 b_m240 b_q242 b_w245 b_m244
  refine aT (Peql h8 (Zc 0) (bh_d0 b_r8 q7s w6s)) ?_
  refine aT (Peql h10 (Zc 0) (bh_d1 b_r10 rf85 rf86 w6s)) ?_
  refine ask_p (fun g => ?_) (fun g => ?_)
  · have k2 := Zeqlt h12 (Zc 0) g; clear g
    refine ask_q (fun g => ?_) (fun g => ?_)
    · have k3 := Zeqlf h14 (Zc 0) g; clear g
      refine bh_c0 h3 b_r2 ?_
      refine bh_c1 h21 h24 b_r20 b_r22 ?_
      refine aT (Pleq (Zc 1) h5 (bh_t9 b_r4)) ?_
      refine aT (Pleq h5 (Zc 8) (bh_t10 b_r4)) ?_
      refine aT (Pleq h26 h27 (bh_t11 b_r20 b_r22 b_r2)) ?_
      refine aT (Pleq (Zc (-1000000000)) h111 (bh_t12 b_r121)) ?_
      refine aT (Pleq h111 (Zc 1000000000) (bh_t13 b_r121)) ?_
      refine aT (Pleq (Zc (-9223372036854775807)) h112 (bh_t14 b_w123)) ?_
      refine aT (Pleq h112 (Zc 9223372036854775807) (bh_t15 b_w123)) ?_
      refine aT (Peql h114 (Zc 1) (bh_d3 b_r125 g126s w123s q124s rf37_0 rf38_0 m265f1 m265f4 k2)) ?_
      refine aT (Peql h115 h117 (bh_d4 b_r125 b_r131 g126s q130s w123s q124s w129s rf37_0 rf38_0 m265f1 m265f4 k2)) ?_
      refine ask_q (fun g => ?_) (fun g => ?_)
      · have k13 := Zleqf h115 (Zc 100000) g; clear g
        exact rfl
      have k13 := Zleqt h115 (Zc 100000) g; clear g
      refine bh_c2 h43 h45 b_w39 b_x1 ?_
      refine bh_c3 h45 h47 h48 h51 b_x1 b_x2 b_x3 b_r41 ?_
      refine bh_c4 h51 h52 h55 b_r41 b_x3 b_x5 b_r43 ?_
      refine aT (Pleq (Zc 1) h56 (bh_t29 b_w44)) ?_
      refine aT (Pleq h56 h43 (bh_d2 b_m37 rf10 rf11)) ?_
      refine aT (Pleq (Zc 1) h39 (bh_t30 b_x7)) ?_
      refine aT (Pleq h39 h42 (bh_t31 b_x7 b_r36)) ?_
      refine aT (Pleq h42 (Zc 100000) (bh_t32 b_r36 b_x7)) ?_
      refine aT (Pleq (Zc 0) h110 (bh_t33 b_r121)) ?_
      refine aT (Pleq h110 (Zc 100000) (bh_t34 b_r121)) ?_
      refine aF (Neql h60 (Zc 0) (bh_t35 b_w47 b_w50)) ?_
      refine aF (Neql h64 (Zc 0) (bh_t36 b_w51 b_w52)) ?_
      refine aT (Pleq (Zc 0) h115 (bh_t37 b_n127)) ?_
      refine aT (Peql h120 h121 (bh_d5 b_q59 b_r125 b_r135 q134s w137s w133s rf39 rf40 g126s rf45_0 rf46_0 q124s rf41 w123s rf37_0 rf38_0 m265f1 m265f4 k2)) ?_
      refine aT (Peql h124 h125 (bh_d6 b_q68 b_r125 b_r141 q140s w143s w139s rf39 rf40 rf42 rf43 g126s rf47_0 rf48_0 q124s rf41 rf44 w123s rf37_0 rf38_0 m265f1 m265f4 k2)) ?_
      exact rfl
    have k3 := Zeqlt h14 (Zc 0) g; clear g
    refine ask_q (fun g => ?_) (fun g => ?_)
    · have k4 := Zeqlf h16 (Zc 0) g; clear g
      refine bh_c0 h3 b_r2 ?_
      refine bh_c1 h21 h24 b_r20 b_r22 ?_
      refine aT (Pleq (Zc 1) h5 (bh_t9 b_r4)) ?_
      refine aT (Pleq h5 (Zc 8) (bh_t10 b_r4)) ?_
      refine aT (Pleq h26 h27 (bh_t11 b_r20 b_r22 b_r2)) ?_
      refine aT (Pleq (Zc (-1000000000)) h94 (bh_t40 b_r97)) ?_
      refine aT (Pleq h94 (Zc 1000000000) (bh_t41 b_r97)) ?_
      refine aT (Pleq (Zc (-9223372036854775807)) h95 (bh_t42 b_w99)) ?_
      refine aT (Pleq h95 (Zc 9223372036854775807) (bh_t43 b_w99)) ?_
      refine aT (Peql h97 (Zc 1) (bh_d7 b_r101 g102s w99s q100s rf25_0 rf26_0 m259f1 m259f4 k3)) ?_
      refine aT (Peql h98 h100 (bh_d8 b_r101 b_r107 g102s q106s w99s q100s w105s rf25_0 rf26_0 m259f1 m259f4 k3)) ?_
      refine ask_q (fun g => ?_) (fun g => ?_)
      · have k14 := Zleqf h98 (Zc 100000) g; clear g
        exact rfl
      have k14 := Zleqt h98 (Zc 100000) g; clear g
      refine bh_c2 h43 h45 b_w39 b_x1 ?_
      refine bh_c3 h45 h47 h48 h51 b_x1 b_x2 b_x3 b_r41 ?_
      refine bh_c4 h51 h52 h55 b_r41 b_x3 b_x5 b_r43 ?_
      refine aT (Pleq (Zc 1) h56 (bh_t29 b_w44)) ?_
      refine aT (Pleq h56 h43 (bh_d2 b_m37 rf10 rf11)) ?_
      refine aT (Pleq (Zc 1) h39 (bh_t30 b_x7)) ?_
      refine aT (Pleq h39 h42 (bh_t31 b_x7 b_r36)) ?_
      refine aT (Pleq h42 (Zc 100000) (bh_t32 b_r36 b_x7)) ?_
      refine aT (Pleq (Zc 0) h93 (bh_t46 b_r97)) ?_
      refine aT (Pleq h93 (Zc 100000) (bh_t47 b_r97)) ?_
      refine aF (Neql h60 (Zc 0) (bh_t35 b_w47 b_w50)) ?_
      refine aF (Neql h64 (Zc 0) (bh_t36 b_w51 b_w52)) ?_
      refine aT (Pleq (Zc 0) h98 (bh_t48 b_n103)) ?_
      refine aT (Peql h103 h104 (bh_d9 b_q59 b_r101 b_r111 q110s w113s w109s rf27 rf28 g102s rf33_0 rf34_0 q100s rf29 w99s rf25_0 rf26_0 m259f1 m259f4 k3)) ?_
      refine aT (Peql h107 h108 (bh_d10 b_q68 b_r101 b_r117 q116s w119s w115s rf27 rf28 rf30 rf31 g102s rf35_0 rf36_0 q100s rf29 rf32 w99s rf25_0 rf26_0 m259f1 m259f4 k3)) ?_
      exact rfl
    have k4 := Zeqlt h16 (Zc 0) g; clear g
    refine ask_p (fun g => ?_) (fun g => ?_)
    · have k5 := Zeqlt h18 (Zc 0) g; clear g
      refine bh_c0 h3 b_r2 ?_
      refine bh_c1 h21 h24 b_r20 b_r22 ?_
      refine aT (Pleq (Zc 1) h5 (bh_t9 b_r4)) ?_
      refine aT (Pleq h5 (Zc 8) (bh_t10 b_r4)) ?_
      refine aT (Pleq h26 h27 (bh_t11 b_r20 b_r22 b_r2)) ?_
      refine aT (Pleq (Zc (-1000000000)) h31 (bh_t51 b_r24)) ?_
      refine aT (Pleq h31 (Zc 1000000000) (bh_t52 b_r24)) ?_
      refine aT (Pleq (Zc (-9223372036854775807)) h32 (bh_t53 b_w26)) ?_
      refine aT (Pleq h32 (Zc 9223372036854775807) (bh_t54 b_w26)) ?_
      refine aT (Peql h34 (Zc 1) (bh_d11 b_r28 g29s w26s q27s rf1_0 rf2_0 m247f1 m247f4 k5)) ?_
      refine aT (Peql h35 h37 (bh_d12 b_r28 b_r34 g29s q33s w26s q27s w32s rf1_0 rf2_0 m247f1 m247f4 k5)) ?_
      refine ask_q (fun g => ?_) (fun g => ?_)
      · have k15 := Zleqf h35 (Zc 100000) g; clear g
        exact rfl
      have k15 := Zleqt h35 (Zc 100000) g; clear g
      refine bh_c2 h43 h45 b_w39 b_x1 ?_
      refine bh_c3 h45 h47 h48 h51 b_x1 b_x2 b_x3 b_r41 ?_
      refine bh_c4 h51 h52 h55 b_r41 b_x3 b_x5 b_r43 ?_
      refine aT (Pleq (Zc 1) h56 (bh_t29 b_w44)) ?_
      refine aT (Pleq h56 h43 (bh_d2 b_m37 rf10 rf11)) ?_
      refine aT (Pleq (Zc 1) h39 (bh_t30 b_x7)) ?_
      refine aT (Pleq h39 h42 (bh_t31 b_x7 b_r36)) ?_
      refine aT (Pleq h42 (Zc 100000) (bh_t32 b_r36 b_x7)) ?_
      refine aT (Pleq (Zc 0) h30 (bh_t57 b_r24)) ?_
      refine aT (Pleq h30 (Zc 100000) (bh_t58 b_r24)) ?_
      refine aF (Neql h60 (Zc 0) (bh_t35 b_w47 b_w50)) ?_
      refine aF (Neql h64 (Zc 0) (bh_t36 b_w51 b_w52)) ?_
      refine aT (Pleq (Zc 0) h35 (bh_t59 b_n30)) ?_
      refine aT (Peql h68 h69 (bh_d13 b_q59 b_r28 b_r56 q55s w62s w54s rf3 rf4 g29s rf9_0 rf10_0 q27s rf5 w26s rf1_0 rf2_0 m247f1 m247f4 k5)) ?_
      refine aT (Peql h73 h74 (bh_d14 b_q68 b_r28 b_r66 q65s w71s w64s rf3 rf4 rf6 rf7 g29s rf11_0 rf12_0 q27s rf5 rf8 w26s rf1_0 rf2_0 m247f1 m247f4 k5)) ?_
      exact rfl
    have k5 := Zeqlf h18 (Zc 0) g; clear g
    refine bh_c0 h3 b_r2 ?_
    refine bh_c1 h21 h24 b_r20 b_r22 ?_
    refine aT (Pleq (Zc 1) h5 (bh_t9 b_r4)) ?_
    refine aT (Pleq h5 (Zc 8) (bh_t10 b_r4)) ?_
    refine aT (Pleq h26 h27 (bh_t11 b_r20 b_r22 b_r2)) ?_
    refine aT (Pleq (Zc (-1000000000)) h77 (bh_t62 b_r73)) ?_
    refine aT (Pleq h77 (Zc 1000000000) (bh_t63 b_r73)) ?_
    refine aT (Pleq (Zc (-9223372036854775807)) h78 (bh_t64 b_w75)) ?_
    refine aT (Pleq h78 (Zc 9223372036854775807) (bh_t65 b_w75)) ?_
    refine aT (Peql h80 (Zc 1) (bh_d15 b_r77 g78s w75s q76s rf13_0 rf14_0 m253f1 m253f4 k4)) ?_
    refine aT (Peql h81 h83 (bh_d16 b_r77 b_r83 g78s q82s w75s q76s w81s rf13_0 rf14_0 m253f1 m253f4 k4)) ?_
    refine ask_q (fun g => ?_) (fun g => ?_)
    · have k15 := Zleqf h81 (Zc 100000) g; clear g
      exact rfl
    have k15 := Zleqt h81 (Zc 100000) g; clear g
    refine bh_c2 h43 h45 b_w39 b_x1 ?_
    refine bh_c3 h45 h47 h48 h51 b_x1 b_x2 b_x3 b_r41 ?_
    refine bh_c4 h51 h52 h55 b_r41 b_x3 b_x5 b_r43 ?_
    refine aT (Pleq (Zc 1) h56 (bh_t29 b_w44)) ?_
    refine aT (Pleq h56 h43 (bh_d2 b_m37 rf10 rf11)) ?_
    refine aT (Pleq (Zc 1) h39 (bh_t30 b_x7)) ?_
    refine aT (Pleq h39 h42 (bh_t31 b_x7 b_r36)) ?_
    refine aT (Pleq h42 (Zc 100000) (bh_t32 b_r36 b_x7)) ?_
    refine aT (Pleq (Zc 0) h76 (bh_t68 b_r73)) ?_
    refine aT (Pleq h76 (Zc 100000) (bh_t69 b_r73)) ?_
    refine aF (Neql h60 (Zc 0) (bh_t35 b_w47 b_w50)) ?_
    refine aF (Neql h64 (Zc 0) (bh_t36 b_w51 b_w52)) ?_
    refine aT (Pleq (Zc 0) h81 (bh_t70 b_n79)) ?_
    refine aT (Peql h86 h87 (bh_d17 b_q59 b_r77 b_r87 q86s w89s w85s rf15 rf16 g78s rf21_0 rf22_0 q76s rf17 w75s rf13_0 rf14_0 m253f1 m253f4 k4)) ?_
    refine aT (Peql h90 h91 (bh_d18 b_q68 b_r77 b_r93 q92s w95s w91s rf15 rf16 rf18 rf19 g78s rf23_0 rf24_0 q76s rf17 rf20 w75s rf13_0 rf14_0 m253f1 m253f4 k4)) ?_
    exact rfl
  have k2 := Zeqlf h12 (Zc 0) g; clear g
  refine ask_q (fun g => ?_) (fun g => ?_)
  · have k3 := Zeqlf h127 (Zc 0) g; clear g
    refine bh_c0 h3 b_r2 ?_
    refine bh_c1 h21 h24 b_r20 b_r22 ?_
    refine aT (Pleq (Zc 1) h5 (bh_t9 b_r4)) ?_
    refine aT (Pleq h5 (Zc 8) (bh_t10 b_r4)) ?_
    refine aT (Pleq h26 h27 (bh_t11 b_r20 b_r22 b_r2)) ?_
    refine aT (Pleq (Zc (-1000000000)) h185 (bh_t73 b_r223)) ?_
    refine aT (Pleq h185 (Zc 1000000000) (bh_t74 b_r223)) ?_
    refine aT (Pleq (Zc (-9223372036854775807)) h186 (bh_t75 b_w225)) ?_
    refine aT (Pleq h186 (Zc 9223372036854775807) (bh_t76 b_w225)) ?_
    refine aT (Peql h188 (Zc 1) (bh_d19 b_r10 b_r227 g228s w225s q226s rf85_0 rf86_0 w6s rf85 rf86 m289f1 m289f4)) ?_
    refine aT (Peql h189 h191 (bh_d20 b_r10 b_r227 b_r233 g228s q232s w225s q226s w231s rf85_0 rf86_0 w6s rf85 rf86 m289f1 m289f4)) ?_
    refine ask_q (fun g => ?_) (fun g => ?_)
    · have k13 := Zleqf h189 (Zc 100000) g; clear g
      exact rfl
    have k13 := Zleqt h189 (Zc 100000) g; clear g
    refine bh_c2 h43 h45 b_w39 b_x1 ?_
    refine bh_c3 h45 h47 h48 h51 b_x1 b_x2 b_x3 b_r41 ?_
    refine bh_c4 h51 h52 h55 b_r41 b_x3 b_x5 b_r43 ?_
    refine aT (Pleq (Zc 1) h56 (bh_t29 b_w44)) ?_
    refine aT (Pleq h56 h43 (bh_d2 b_m37 rf10 rf11)) ?_
    refine aT (Pleq (Zc 1) h39 (bh_t30 b_x7)) ?_
    refine aT (Pleq h39 h42 (bh_t31 b_x7 b_r36)) ?_
    refine aT (Pleq h42 (Zc 100000) (bh_t32 b_r36 b_x7)) ?_
    refine aT (Pleq (Zc 0) h184 (bh_t79 b_r223)) ?_
    refine aT (Pleq h184 (Zc 100000) (bh_t80 b_r223)) ?_
    refine aF (Neql h60 (Zc 0) (bh_t35 b_w47 b_w50)) ?_
    refine aF (Neql h64 (Zc 0) (bh_t36 b_w51 b_w52)) ?_
    refine aT (Pleq (Zc 0) h189 (bh_t81 b_n229)) ?_
    refine aT (Peql h194 h195 (bh_d21 b_q59 b_r10 b_r227 b_r237 q236s w239s w235s rf87 rf88 g228s rf93_0 rf94_0 q226s rf89 w225s rf85_0 rf86_0 w6s rf85 rf86 m289f1 m289f4)) ?_
    refine aT (Peql h198 h199 (bh_d22 b_q68 b_r10 b_r227 b_r243 q242s w245s w241s rf87 rf88 rf90 rf91 g228s rf95_0 rf96_0 q226s rf89 rf92 w225s rf85_0 rf86_0 w6s rf85 rf86 m289f1 m289f4)) ?_
    exact rfl
  have k3 := Zeqlt h127 (Zc 0) g; clear g
  refine ask_q (fun g => ?_) (fun g => ?_)
  · have k4 := Zeqlf h129 (Zc 0) g; clear g
    refine bh_c0 h3 b_r2 ?_
    refine bh_c1 h21 h24 b_r20 b_r22 ?_
    refine aT (Pleq (Zc 1) h5 (bh_t9 b_r4)) ?_
    refine aT (Pleq h5 (Zc 8) (bh_t10 b_r4)) ?_
    refine aT (Pleq h26 h27 (bh_t11 b_r20 b_r22 b_r2)) ?_
    refine aT (Pleq (Zc (-1000000000)) h168 (bh_t84 b_r199)) ?_
    refine aT (Pleq h168 (Zc 1000000000) (bh_t85 b_r199)) ?_
    refine aT (Pleq (Zc (-9223372036854775807)) h169 (bh_t86 b_w201)) ?_
    refine aT (Pleq h169 (Zc 9223372036854775807) (bh_t87 b_w201)) ?_
    refine aT (Peql h171 (Zc 1) (bh_d23 b_r203 g204s w201s q202s rf73_0 rf74_0 m283f1 m283f4 k3)) ?_
    refine aT (Peql h172 h174 (bh_d24 b_r203 b_r209 g204s q208s w201s q202s w207s rf73_0 rf74_0 m283f1 m283f4 k3)) ?_
    refine ask_q (fun g => ?_) (fun g => ?_)
    · have k14 := Zleqf h172 (Zc 100000) g; clear g
      exact rfl
    have k14 := Zleqt h172 (Zc 100000) g; clear g
    refine bh_c2 h43 h45 b_w39 b_x1 ?_
    refine bh_c3 h45 h47 h48 h51 b_x1 b_x2 b_x3 b_r41 ?_
    refine bh_c4 h51 h52 h55 b_r41 b_x3 b_x5 b_r43 ?_
    refine aT (Pleq (Zc 1) h56 (bh_t29 b_w44)) ?_
    refine aT (Pleq h56 h43 (bh_d2 b_m37 rf10 rf11)) ?_
    refine aT (Pleq (Zc 1) h39 (bh_t30 b_x7)) ?_
    refine aT (Pleq h39 h42 (bh_t31 b_x7 b_r36)) ?_
    refine aT (Pleq h42 (Zc 100000) (bh_t32 b_r36 b_x7)) ?_
    refine aT (Pleq (Zc 0) h167 (bh_t90 b_r199)) ?_
    refine aT (Pleq h167 (Zc 100000) (bh_t91 b_r199)) ?_
    refine aF (Neql h60 (Zc 0) (bh_t35 b_w47 b_w50)) ?_
    refine aF (Neql h64 (Zc 0) (bh_t36 b_w51 b_w52)) ?_
    refine aT (Pleq (Zc 0) h172 (bh_t92 b_n205)) ?_
    refine aT (Peql h177 h178 (bh_d25 b_q59 b_r203 b_r213 q212s w215s w211s rf75 rf76 g204s rf81_0 rf82_0 q202s rf77 w201s rf73_0 rf74_0 m283f1 m283f4 k3)) ?_
    refine aT (Peql h181 h182 (bh_d26 b_q68 b_r203 b_r219 q218s w221s w217s rf75 rf76 rf78 rf79 g204s rf83_0 rf84_0 q202s rf77 rf80 w201s rf73_0 rf74_0 m283f1 m283f4 k3)) ?_
    exact rfl
  have k4 := Zeqlt h129 (Zc 0) g; clear g
  refine ask_p (fun g => ?_) (fun g => ?_)
  · have k5 := Zeqlt h131 (Zc 0) g; clear g
    refine bh_c0 h3 b_r2 ?_
    refine bh_c1 h21 h24 b_r20 b_r22 ?_
    refine aT (Pleq (Zc 1) h5 (bh_t9 b_r4)) ?_
    refine aT (Pleq h5 (Zc 8) (bh_t10 b_r4)) ?_
    refine aT (Pleq h26 h27 (bh_t11 b_r20 b_r22 b_r2)) ?_
    refine aT (Pleq (Zc (-1000000000)) h134 (bh_t95 b_r151)) ?_
    refine aT (Pleq h134 (Zc 1000000000) (bh_t96 b_r151)) ?_
    refine aT (Pleq (Zc (-9223372036854775807)) h135 (bh_t97 b_w153)) ?_
    refine aT (Pleq h135 (Zc 9223372036854775807) (bh_t98 b_w153)) ?_
    refine aT (Peql h137 (Zc 1) (bh_d27 b_r155 g156s w153s q154s rf49_0 rf50_0 m271f1 m271f4 k5)) ?_
    refine aT (Peql h138 h140 (bh_d28 b_r155 b_r161 g156s q160s w153s q154s w159s rf49_0 rf50_0 m271f1 m271f4 k5)) ?_
    refine ask_q (fun g => ?_) (fun g => ?_)
    · have k15 := Zleqf h138 (Zc 100000) g; clear g
      exact rfl
    have k15 := Zleqt h138 (Zc 100000) g; clear g
    refine bh_c2 h43 h45 b_w39 b_x1 ?_
    refine bh_c3 h45 h47 h48 h51 b_x1 b_x2 b_x3 b_r41 ?_
    refine bh_c4 h51 h52 h55 b_r41 b_x3 b_x5 b_r43 ?_
    refine aT (Pleq (Zc 1) h56 (bh_t29 b_w44)) ?_
    refine aT (Pleq h56 h43 (bh_d2 b_m37 rf10 rf11)) ?_
    refine aT (Pleq (Zc 1) h39 (bh_t30 b_x7)) ?_
    refine aT (Pleq h39 h42 (bh_t31 b_x7 b_r36)) ?_
    refine aT (Pleq h42 (Zc 100000) (bh_t32 b_r36 b_x7)) ?_
    refine aT (Pleq (Zc 0) h133 (bh_t101 b_r151)) ?_
    refine aT (Pleq h133 (Zc 100000) (bh_t102 b_r151)) ?_
    refine aF (Neql h60 (Zc 0) (bh_t35 b_w47 b_w50)) ?_
    refine aF (Neql h64 (Zc 0) (bh_t36 b_w51 b_w52)) ?_
    refine aT (Pleq (Zc 0) h138 (bh_t103 b_n157)) ?_
    refine aT (Peql h143 h144 (bh_d29 b_q59 b_r155 b_r165 q164s w167s w163s rf51 rf52 g156s rf57_0 rf58_0 q154s rf53 w153s rf49_0 rf50_0 m271f1 m271f4 k5)) ?_
    refine aT (Peql h147 h148 (bh_d30 b_q68 b_r155 b_r171 q170s w173s w169s rf51 rf52 rf54 rf55 g156s rf59_0 rf60_0 q154s rf53 rf56 w153s rf49_0 rf50_0 m271f1 m271f4 k5)) ?_
    exact rfl
  have k5 := Zeqlf h131 (Zc 0) g; clear g
  refine bh_c0 h3 b_r2 ?_
  refine bh_c1 h21 h24 b_r20 b_r22 ?_
  refine aT (Pleq (Zc 1) h5 (bh_t9 b_r4)) ?_
  refine aT (Pleq h5 (Zc 8) (bh_t10 b_r4)) ?_
  refine aT (Pleq h26 h27 (bh_t11 b_r20 b_r22 b_r2)) ?_
  refine aT (Pleq (Zc (-1000000000)) h151 (bh_t106 b_r175)) ?_
  refine aT (Pleq h151 (Zc 1000000000) (bh_t107 b_r175)) ?_
  refine aT (Pleq (Zc (-9223372036854775807)) h152 (bh_t108 b_w177)) ?_
  refine aT (Pleq h152 (Zc 9223372036854775807) (bh_t109 b_w177)) ?_
  refine aT (Peql h154 (Zc 1) (bh_d31 b_r179 g180s w177s q178s rf61_0 rf62_0 m277f1 m277f4 k4)) ?_
  refine aT (Peql h155 h157 (bh_d32 b_r179 b_r185 g180s q184s w177s q178s w183s rf61_0 rf62_0 m277f1 m277f4 k4)) ?_
  refine ask_q (fun g => ?_) (fun g => ?_)
  · have k15 := Zleqf h155 (Zc 100000) g; clear g
    exact rfl
  have k15 := Zleqt h155 (Zc 100000) g; clear g
  refine bh_c2 h43 h45 b_w39 b_x1 ?_
  refine bh_c3 h45 h47 h48 h51 b_x1 b_x2 b_x3 b_r41 ?_
  refine bh_c4 h51 h52 h55 b_r41 b_x3 b_x5 b_r43 ?_
  refine aT (Pleq (Zc 1) h56 (bh_t29 b_w44)) ?_
  refine aT (Pleq h56 h43 (bh_d2 b_m37 rf10 rf11)) ?_
  refine aT (Pleq (Zc 1) h39 (bh_t30 b_x7)) ?_
  refine aT (Pleq h39 h42 (bh_t31 b_x7 b_r36)) ?_
  refine aT (Pleq h42 (Zc 100000) (bh_t32 b_r36 b_x7)) ?_
  refine aT (Pleq (Zc 0) h150 (bh_t112 b_r175)) ?_
  refine aT (Pleq h150 (Zc 100000) (bh_t113 b_r175)) ?_
  refine aF (Neql h60 (Zc 0) (bh_t35 b_w47 b_w50)) ?_
  refine aF (Neql h64 (Zc 0) (bh_t36 b_w51 b_w52)) ?_
  refine aT (Pleq (Zc 0) h155 (bh_t114 b_n181)) ?_
  refine aT (Peql h160 h161 (bh_d33 b_q59 b_r179 b_r189 q188s w191s w187s rf63 rf64 g180s rf69_0 rf70_0 q178s rf65 w177s rf61_0 rf62_0 m277f1 m277f4 k4)) ?_
  refine aT (Peql h164 h165 (bh_d34 b_q68 b_r179 b_r195 q194s w197s w193s rf63 rf64 rf66 rf67 g180s rf71_0 rf72_0 q178s rf65 rf68 w177s rf61_0 rf62_0 m277f1 m277f4 k4)) ?_
  exact rfl
end Go.Proofs.Ytknphpihipkdpaa.Cx
