/- TopZoneFit: the tests of the law and their arithmetic. Made by tools/cxroot.py. -/
import Derived.Test.YtlijpnjnmapdlaaTZoneTN
set_option linter.unusedSimpArgs false
set_option linter.unusedVariables false
set_option maxRecDepth 100000
set_option maxHeartbeats 4000000
namespace Go.Proofs.Ytlijpnjnmapdlaa.Cx
open Go Go.RowKit

theorem tz_goal {ρ : Env} {x0 x1 x2 x3 x4 x5 x6 x7 x8 x9 x10 x11 : Int} (e0 : Is ρ (.v 0) x0) (b_x0 : 0 ≤ x0 ∧ x0 ≤ 65535) (e1 : Is ρ (.v 1) x1) (b_x1 : 0 ≤ x1 ∧ x1 ≤ 65535) (e2 : Is ρ (.v 2) x2) (b_x2 : 0 ≤ x2 ∧ x2 ≤ 65535) (e3 : Is ρ (.v 3) x3) (b_x3 : -128 ≤ x3 ∧ x3 ≤ 127) (e4 : Is ρ (.v 4) x4) (b_x4 : -128 ≤ x4 ∧ x4 ≤ 127) (e5 : Is ρ (.v 5) x5) (b_x5 : 0 ≤ x5 ∧ x5 ≤ 255) (e6 : Is ρ (.v 6) x6) (b_x6 : 0 ≤ x6 ∧ x6 ≤ 255) (e7 : Is ρ (.v 7) x7) (b_x7 : 0 ≤ x7 ∧ x7 ≤ 255) (e8 : Is ρ (.v 8) x8) (b_x8 : 0 ≤ x8 ∧ x8 ≤ 255) (e9 : Is ρ (.v 9) x9) (b_x9 : 0 ≤ x9 ∧ x9 ≤ 255) (e10 : Is ρ (.v 10) x10) (b_x10 : 0 ≤ x10 ∧ x10 ≤ 255) (e11 : Is ρ (.v 11) x11) (b_x11 : 0 ≤ x11 ∧ x11 ≤ 255) : tzTree.goal ρ := by
  have h0 := tz_n0 (ρ := ρ) e6 b_x6
  obtain ⟨q1, r2, q1e, r2e, q1s, b_q1, b_r2⟩ := tz_aq1 b_x6
  have h1 := tz_n1 (ρ := ρ) h0 r2e b_x6 b_r2
  have h2 := tz_n2 (ρ := ρ) h1 b_r2
  have h3 := tz_n3 (ρ := ρ) e7 b_x7
  obtain ⟨q3, r4, q3e, r4e, q3s, b_q3, b_r4⟩ := tz_aq3 b_x7
  have h4 := tz_n4 (ρ := ρ) h3 r4e b_x7 b_r4
  have h5 := tz_n5 (ρ := ρ) h4 b_r4
  have h6 := tz_n6 (ρ := ρ) e8 b_x8
  obtain ⟨q5, r6, q5e, r6e, q5s, b_q5, b_r6⟩ := tz_aq5 b_x8
  have h7 := tz_n7 (ρ := ρ) h6 r6e b_x8 b_r6
  have h8 := tz_n8 (ρ := ρ) h7 b_r6
  have h9 := tz_n9 (ρ := ρ) h8 b_r6
  have h10 := tz_n10 (ρ := ρ) e5 b_x5
  have h11 := tz_n11 (ρ := ρ) h10 b_x5
  have h12 := tz_n12 (ρ := ρ) h11 b_x5
  have h13 := tz_n13 (ρ := ρ) e0 b_x0
  obtain ⟨q7, r8, q7e, r8e, q7s, b_q7, b_r8⟩ := tz_aq7 b_x0
  have h14 := tz_n14 (ρ := ρ) h13 r8e b_x0 b_r8
  have h15 := tz_n15 (ρ := ρ) h14 b_r8
  have h16 := tz_n16 (ρ := ρ) h15 b_r8
  have h17 := tz_n17 (ρ := ρ) e1 b_x1
  obtain ⟨q9, r10, q9e, r10e, q9s, b_q9, b_r10⟩ := tz_aq9 b_x1
  have h18 := tz_n18 (ρ := ρ) h17 r10e b_x1 b_r10
  have h19 := tz_n19 (ρ := ρ) h18 b_r10
  have h20 := tz_n20 (ρ := ρ) e2 b_x2
  obtain ⟨q11, r12, q11e, r12e, q11s, b_q11, b_r12⟩ := tz_aq11 b_x2
  have h21 := tz_n21 (ρ := ρ) h20 r12e b_x2 b_r12
  have h22 := tz_n22 (ρ := ρ) h21 b_r12
  obtain ⟨q13, r14, q13e, r14e, q13s, b_q13, b_r14⟩ := tz_aq13 b_x0
  have h23 := tz_n23 (ρ := ρ) h13 r14e b_x0 b_r14
  have h24 := tz_n24 (ρ := ρ) h23 b_r14
  have h25 := tz_n25 (ρ := ρ) h19 h22 b_r10 b_r12
  have h26 := tz_n26 (ρ := ρ) h25 b_r10 b_r12
  have h27 := tz_n27 (ρ := ρ) h16 b_r8
  have h28 := tz_n28 (ρ := ρ) e11 b_x11
  obtain ⟨q15, r16, q15e, r16e, q15s, b_q15, b_r16⟩ := tz_aq15 b_x11
  have h29 := tz_n29 (ρ := ρ) h28 r16e b_x11 b_r16
  have h30 := tz_n30 (ρ := ρ) h29 b_r16
  have h31 := tz_n31 (ρ := ρ) h12 h9 b_x5 b_r6
  have h32 := tz_n32 (ρ := ρ) h31 h2 b_r6 b_x5 b_r2
  have h33 := tz_n33 (ρ := ρ) e9 b_x9
  have h34 := tz_n34 (ρ := ρ) h31 h32 b_r6 b_x5 b_r2
  obtain ⟨m17, m17e, m17f1, m17f2, m17f3, m17f4, b_m17⟩ := tz_am17 b_r2 b_x9
  have h35 := tz_n35 (ρ := ρ) h33 h34 m17e b_x9 b_r2 b_m17
  obtain ⟨q18, r19, q18e, r19e, q18s, b_q18, b_r19⟩ := tz_aq18 b_m17
  have h36 := tz_n36 (ρ := ρ) h35 q18e b_m17 b_q18
  have h37 := tz_n37 (ρ := ρ) h36 b_q18
  have h38 := tz_n38 (ρ := ρ) h32 h37 b_r2 b_r6 b_x5 b_q18
  have h39 := tz_n39 (ρ := ρ) h38 h12 b_q18 b_r2 b_r6 b_x5
  have h40 := tz_n40 (ρ := ρ) h39 b_q18 b_r2 b_r6
  have h41 := tz_n41 (ρ := ρ) h12 b_x5
  have h42 := tz_n42 (ρ := ρ) e10 b_x10
  have h43 := tz_n43 (ρ := ρ) h41 h5 b_x5 b_r4
  have h44 := tz_n44 (ρ := ρ) h43 h41 b_r4 b_x5
  obtain ⟨m20, m20e, m20f1, m20f2, m20f3, m20f4, b_m20⟩ := tz_am20 b_r4 b_x10
  have h45 := tz_n45 (ρ := ρ) h42 h44 m20e b_x10 b_r4 b_m20
  obtain ⟨q21, r22, q21e, r22e, q21s, b_q21, b_r22⟩ := tz_aq21 b_m20
  have h46 := tz_n46 (ρ := ρ) h45 q21e b_m20 b_q21
  have h47 := tz_n47 (ρ := ρ) h46 b_q21
  have h48 := tz_n48 (ρ := ρ) h41 h47 b_x5 b_q21
  have h49 := tz_n49 (ρ := ρ) h48 h12 b_q21 b_x5
  have h50 := tz_n50 (ρ := ρ) h49 b_q21
  have h51 := tz_n51 (ρ := ρ) e3 b_x3
  have h52 := tz_n52 (ρ := ρ) h51 b_x3
  have h53 := tz_n53 (ρ := ρ) e4 b_x4
  have h54 := tz_n54 (ρ := ρ) h53 b_x4
  obtain ⟨u23, u23s, b_u23⟩ := tz_au23 b_x3 b_x4
  have h55 := tz_n55 (ρ := ρ) h52 h54 u23s b_x3 b_x4 b_u23
  obtain ⟨u24, u24s, b_u24⟩ := tz_au24 b_x3 b_x4
  have h56 := tz_n56 (ρ := ρ) h52 h54 u24s b_x3 b_x4 b_u24
  have h57 := tz_n57 (ρ := ρ) h16 b_r8
  have h58 := tz_n58 (ρ := ρ) h57 b_r8
  have h59 := tz_n59 (ρ := ρ) h16 b_r8
  have h60 := tz_n60 (ρ := ρ) h58 h59 b_r8
  obtain ⟨m25, m25e, m25f1, m25f2, m25f3, m25f4, b_m25⟩ := tz_am25 b_q18 b_r10
  obtain ⟨m26, m26e, m26f1, m26f2, m26f3, m26f4, b_m26⟩ := tz_am26 b_r10 b_r2
  obtain ⟨m27, m27e, m27f1, m27f2, m27f3, m27f4, b_m27⟩ := tz_am27 b_r10 b_r6
  have h61 := tz_n61 (ρ := ρ) h40 h19 m25e m26e m27e b_q18 b_r2 b_r6 b_r10 b_m25 b_m26 b_m27
  have h62 := tz_n62 (ρ := ρ) h60 h61 b_r8 b_m25 b_m26 b_m27 b_q18 b_r10 b_r2 b_r6
  obtain ⟨z28, z28s, b_z28⟩ := tz_az28 b_m25 b_m26 b_m27 b_q18 b_r10 b_r2 b_r6
  have h67 := tz_n67 (ρ := ρ) h62 z28s b_m25 b_m26 b_m27 b_q18 b_r10 b_r2 b_r6 b_r8 b_z28
  have h68 := tz_n68 (ρ := ρ) h58 h59 b_r8
  obtain ⟨m29, m29e, m29f1, m29f2, m29f3, m29f4, b_m29⟩ := tz_am29 b_q18 b_r12
  obtain ⟨m30, m30e, m30f1, m30f2, m30f3, m30f4, b_m30⟩ := tz_am30 b_r12 b_r2
  obtain ⟨m31, m31e, m31f1, m31f2, m31f3, m31f4, b_m31⟩ := tz_am31 b_r12 b_r6
  have h69 := tz_n69 (ρ := ρ) h40 h22 m29e m30e m31e b_q18 b_r2 b_r6 b_r12 b_m29 b_m30 b_m31
  have h70 := tz_n70 (ρ := ρ) h68 h69 b_r8 b_m29 b_m30 b_m31 b_q18 b_r12 b_r2 b_r6
  have h71 := tz_n71 (ρ := ρ) h70 b_m29 b_m30 b_m31 b_q18 b_r12 b_r2 b_r6 b_r8
  obtain ⟨z32, z32s, b_z32⟩ := tz_az32 b_m29 b_m30 b_m31 b_q18 b_r12 b_r2 b_r6
  have h76 := tz_n76 (ρ := ρ) h71 z32s b_m29 b_m30 b_m31 b_q18 b_r12 b_r2 b_r6 b_r8 b_z32
  have h77 := tz_n77 (ρ := ρ) h76 b_r8 b_z32
  obtain ⟨m33, m33e, m33f1, m33f2, m33f3, m33f4, b_m33⟩ := tz_am33 b_q21 b_r10
  have h78 := tz_n78 (ρ := ρ) h50 h19 m33e b_q21 b_r10 b_m33
  have h79 := tz_n79 (ρ := ρ) h60 h78 b_r8 b_m33 b_q21
  have h80 := tz_n80 (ρ := ρ) h79 b_m33 b_q21 b_r8
  obtain ⟨z34, z34s, b_z34⟩ := tz_az34 b_m33 b_q21
  have h85 := tz_n85 (ρ := ρ) h80 z34s b_m33 b_q21 b_r8 b_z34
  have h86 := tz_n86 (ρ := ρ) h85 b_r8 b_z34
  obtain ⟨m35, m35e, m35f1, m35f2, m35f3, m35f4, b_m35⟩ := tz_am35 b_q21 b_r12
  have h87 := tz_n87 (ρ := ρ) h50 h22 m35e b_q21 b_r12 b_m35
  have h88 := tz_n88 (ρ := ρ) h68 h87 b_r8 b_m35 b_q21
  obtain ⟨z36, z36s, b_z36⟩ := tz_az36 b_m35 b_q21
  have h93 := tz_n93 (ρ := ρ) h88 z36s b_m35 b_q21 b_r8 b_z36
  have h94 := tz_n94 (ρ := ρ) h48 h38 b_q21 b_x5 b_q18 b_r2 b_r6
  have h95 := tz_n95 (ρ := ρ) h93 b_r8 b_z36
  have h96 := tz_n96 (ρ := ρ) h77 b_r8 b_z32
  have h97 := tz_n97 (ρ := ρ) h95 h96 b_r8 b_z36 b_z32
  have h98 := tz_n98 (ρ := ρ) h97 b_z32 b_z36
  have h99 := tz_n99 (ρ := ρ) h22 h22 b_r12
  have h100 := tz_n100 (ρ := ρ) h55 h99 b_u23
  have h101 := tz_n101 (ρ := ρ) h56 h99 b_u24
  have h102 := tz_n102 (ρ := ρ) h100 h101
  have h103 := tz_n103 (ρ := ρ) h98 h102 b_z32 b_z36
  have h104 := tz_n104 (ρ := ρ) h86 b_r8 b_z34
  have h105 := tz_n105 (ρ := ρ) h67 b_r8 b_z28
  have h106 := tz_n106 (ρ := ρ) h104 h105 b_r8 b_z34 b_z28
  have h107 := tz_n107 (ρ := ρ) h106 b_z28 b_z34
  have h108 := tz_n108 (ρ := ρ) h19 h19 b_r10
  have h109 := tz_n109 (ρ := ρ) h55 h108 b_u23
  have h110 := tz_n110 (ρ := ρ) h56 h108 b_u24
  have h111 := tz_n111 (ρ := ρ) h109 h110
  have h112 := tz_n112 (ρ := ρ) h107 h111 b_z28 b_z34
  have h113 := tz_n113 (ρ := ρ) h103 h112 b_z32 b_z36 b_z28 b_z34
  have h114 := tz_n114 (ρ := ρ) h41 h31 b_x5 b_r6
  have h115 := tz_n115 (ρ := ρ) h31 h12 b_r6 b_x5
  have h116 := tz_n116 (ρ := ρ) h115 b_r6
  have h117 := tz_n117 (ρ := ρ) h41 h12 b_x5
  have h118 := tz_n118 (ρ := ρ) h117
  have h119 := tz_n119 (ρ := ρ) h116 h19 m27e b_r6 b_r10 b_m27
  have h120 := tz_n120 (ρ := ρ) h60 h119 b_r8 b_m27 b_r10 b_r6
  obtain ⟨z37, z37s, b_z37⟩ := tz_az37 b_m27 b_r10 b_r6
  have h125 := tz_n125 (ρ := ρ) h120 z37s b_m27 b_r10 b_r6 b_r8 b_z37
  have h126 := tz_n126 (ρ := ρ) h116 h22 m31e b_r6 b_r12 b_m31
  have h127 := tz_n127 (ρ := ρ) h68 h126 b_r8 b_m31 b_r12 b_r6
  have h128 := tz_n128 (ρ := ρ) h127 b_m31 b_r12 b_r6 b_r8
  obtain ⟨z38, z38s, b_z38⟩ := tz_az38 b_m31 b_r12 b_r6
  have h133 := tz_n133 (ρ := ρ) h128 z38s b_m31 b_r12 b_r6 b_r8 b_z38
  have h134 := tz_n134 (ρ := ρ) h133 b_r8 b_z38
  have h135 := tz_n135 (ρ := ρ) h118 h19 b_r10
  have h136 := tz_n136 (ρ := ρ) h60 h135 b_r8
  have h137 := tz_n137 (ρ := ρ) h136 b_r8
  have h142 := tz_n142 (ρ := ρ) h137 b_r8
  have h143 := tz_n143 (ρ := ρ) h142 b_r8
  have h144 := tz_n144 (ρ := ρ) h118 h22 b_r12
  have h145 := tz_n145 (ρ := ρ) h68 h144 b_r8
  have h150 := tz_n150 (ρ := ρ) h145 b_r8
  have h151 := tz_n151 (ρ := ρ) h150 b_r8
  have h152 := tz_n152 (ρ := ρ) h134 b_r8 b_z38
  have h153 := tz_n153 (ρ := ρ) h151 h152 b_r8 b_z38
  have h154 := tz_n154 (ρ := ρ) h153 b_z38
  have h155 := tz_n155 (ρ := ρ) h154 h102 b_z38
  have h156 := tz_n156 (ρ := ρ) h143 b_r8
  have h157 := tz_n157 (ρ := ρ) h125 b_r8 b_z37
  have h158 := tz_n158 (ρ := ρ) h156 h157 b_r8 b_z37
  have h159 := tz_n159 (ρ := ρ) h158 b_z37
  have h160 := tz_n160 (ρ := ρ) h159 h111 b_z37
  have h161 := tz_n161 (ρ := ρ) h155 h160 b_z38 b_z37
  have h162 := tz_n162 (ρ := ρ) h114 b_r6
  have h163 := tz_n163 (ρ := ρ) h162 h25 m27e m31e b_r6 b_r10 b_r12 b_m27 b_m31
  have h164 := tz_n164 (ρ := ρ) h57 b_r8
  have h165 := tz_n165 (ρ := ρ) h164 h59 b_r8
  have h166 := tz_n166 (ρ := ρ) h165 h61 b_r8 b_m25 b_m26 b_m27 b_q18 b_r10 b_r2 b_r6
  have h171 := tz_n171 (ρ := ρ) h166 z28s b_m25 b_m26 b_m27 b_q18 b_r10 b_r2 b_r6 b_r8 b_z28
  have h172 := tz_n172 (ρ := ρ) h164 h59 b_r8
  have h173 := tz_n173 (ρ := ρ) h172 h69 b_r8 b_m29 b_m30 b_m31 b_q18 b_r12 b_r2 b_r6
  have h174 := tz_n174 (ρ := ρ) h173 b_m29 b_m30 b_m31 b_q18 b_r12 b_r2 b_r6 b_r8
  have h179 := tz_n179 (ρ := ρ) h174 z32s b_m29 b_m30 b_m31 b_q18 b_r12 b_r2 b_r6 b_r8 b_z32
  have h180 := tz_n180 (ρ := ρ) h179 b_r8 b_z32
  have h181 := tz_n181 (ρ := ρ) h165 h78 b_r8 b_m33 b_q21
  have h182 := tz_n182 (ρ := ρ) h181 b_m33 b_q21 b_r8
  have h187 := tz_n187 (ρ := ρ) h182 z34s b_m33 b_q21 b_r8 b_z34
  have h188 := tz_n188 (ρ := ρ) h187 b_r8 b_z34
  have h189 := tz_n189 (ρ := ρ) h172 h87 b_r8 b_m35 b_q21
  have h194 := tz_n194 (ρ := ρ) h189 z36s b_m35 b_q21 b_r8 b_z36
  have h195 := tz_n195 (ρ := ρ) h194 b_r8 b_z36
  have h196 := tz_n196 (ρ := ρ) h180 b_r8 b_z32
  have h197 := tz_n197 (ρ := ρ) h195 h196 b_r8 b_z36 b_z32
  have h198 := tz_n198 (ρ := ρ) h98 h197 b_z32 b_z36
  have h199 := tz_n199 (ρ := ρ) h198 h102 b_z32 b_z36
  have h200 := tz_n200 (ρ := ρ) h188 b_r8 b_z34
  have h201 := tz_n201 (ρ := ρ) h171 b_r8 b_z28
  have h202 := tz_n202 (ρ := ρ) h200 h201 b_r8 b_z34 b_z28
  have h203 := tz_n203 (ρ := ρ) h107 h202 b_z28 b_z34
  have h204 := tz_n204 (ρ := ρ) h203 h111 b_z28 b_z34
  have h205 := tz_n205 (ρ := ρ) h199 h204 b_z32 b_z36 b_z28 b_z34
  have h206 := tz_n206 (ρ := ρ) h165 h119 b_r8 b_m27 b_r10 b_r6
  have h211 := tz_n211 (ρ := ρ) h206 z37s b_m27 b_r10 b_r6 b_r8 b_z37
  have h212 := tz_n212 (ρ := ρ) h172 h126 b_r8 b_m31 b_r12 b_r6
  have h213 := tz_n213 (ρ := ρ) h212 b_m31 b_r12 b_r6 b_r8
  have h218 := tz_n218 (ρ := ρ) h213 z38s b_m31 b_r12 b_r6 b_r8 b_z38
  have h219 := tz_n219 (ρ := ρ) h218 b_r8 b_z38
  have h220 := tz_n220 (ρ := ρ) h165 h135 b_r8
  have h221 := tz_n221 (ρ := ρ) h220 b_r8
  have h226 := tz_n226 (ρ := ρ) h221 b_r8
  have h227 := tz_n227 (ρ := ρ) h226 b_r8
  have h228 := tz_n228 (ρ := ρ) h172 h144 b_r8
  have h233 := tz_n233 (ρ := ρ) h228 b_r8
  have h234 := tz_n234 (ρ := ρ) h233 b_r8
  have h235 := tz_n235 (ρ := ρ) h219 b_r8 b_z38
  have h236 := tz_n236 (ρ := ρ) h234 h235 b_r8 b_z38
  have h237 := tz_n237 (ρ := ρ) h154 h236 b_z38
  have h238 := tz_n238 (ρ := ρ) h237 h102 b_z38
  have h239 := tz_n239 (ρ := ρ) h227 b_r8
  have h240 := tz_n240 (ρ := ρ) h211 b_r8 b_z37
  have h241 := tz_n241 (ρ := ρ) h239 h240 b_r8 b_z37
  have h242 := tz_n242 (ρ := ρ) h159 h241 b_z37
  have h243 := tz_n243 (ρ := ρ) h242 h111 b_z37
  have h244 := tz_n244 (ρ := ρ) h238 h243 b_z38 b_z37
  have h245 := tz_n245 (ρ := ρ) h57 b_r8
  have h246 := tz_n246 (ρ := ρ) h245 h59 b_r8
  have h247 := tz_n247 (ρ := ρ) h246 h61 b_r8 b_m25 b_m26 b_m27 b_q18 b_r10 b_r2 b_r6
  have h252 := tz_n252 (ρ := ρ) h247 z28s b_m25 b_m26 b_m27 b_q18 b_r10 b_r2 b_r6 b_r8 b_z28
  have h253 := tz_n253 (ρ := ρ) h245 h59 b_r8
  have h254 := tz_n254 (ρ := ρ) h253 h69 b_r8 b_m29 b_m30 b_m31 b_q18 b_r12 b_r2 b_r6
  have h255 := tz_n255 (ρ := ρ) h254 b_m29 b_m30 b_m31 b_q18 b_r12 b_r2 b_r6 b_r8
  have h260 := tz_n260 (ρ := ρ) h255 z32s b_m29 b_m30 b_m31 b_q18 b_r12 b_r2 b_r6 b_r8 b_z32
  have h261 := tz_n261 (ρ := ρ) h260 b_r8 b_z32
  have h262 := tz_n262 (ρ := ρ) h246 h78 b_r8 b_m33 b_q21
  have h263 := tz_n263 (ρ := ρ) h262 b_m33 b_q21 b_r8
  have h268 := tz_n268 (ρ := ρ) h263 z34s b_m33 b_q21 b_r8 b_z34
  have h269 := tz_n269 (ρ := ρ) h268 b_r8 b_z34
  have h270 := tz_n270 (ρ := ρ) h253 h87 b_r8 b_m35 b_q21
  have h275 := tz_n275 (ρ := ρ) h270 z36s b_m35 b_q21 b_r8 b_z36
  have h276 := tz_n276 (ρ := ρ) h275 b_r8 b_z36
  have h277 := tz_n277 (ρ := ρ) h261 b_r8 b_z32
  have h278 := tz_n278 (ρ := ρ) h276 h277 b_r8 b_z36 b_z32
  have h279 := tz_n279 (ρ := ρ) h198 h278 b_z32 b_z36
  have h280 := tz_n280 (ρ := ρ) h279 h102 b_z32 b_z36
  have h281 := tz_n281 (ρ := ρ) h269 b_r8 b_z34
  have h282 := tz_n282 (ρ := ρ) h252 b_r8 b_z28
  have h283 := tz_n283 (ρ := ρ) h281 h282 b_r8 b_z34 b_z28
  have h284 := tz_n284 (ρ := ρ) h203 h283 b_z28 b_z34
  have h285 := tz_n285 (ρ := ρ) h284 h111 b_z28 b_z34
  have h286 := tz_n286 (ρ := ρ) h280 h285 b_z32 b_z36 b_z28 b_z34
  have h287 := tz_n287 (ρ := ρ) h246 h119 b_r8 b_m27 b_r10 b_r6
  have h292 := tz_n292 (ρ := ρ) h287 z37s b_m27 b_r10 b_r6 b_r8 b_z37
  have h293 := tz_n293 (ρ := ρ) h253 h126 b_r8 b_m31 b_r12 b_r6
  have h294 := tz_n294 (ρ := ρ) h293 b_m31 b_r12 b_r6 b_r8
  have h299 := tz_n299 (ρ := ρ) h294 z38s b_m31 b_r12 b_r6 b_r8 b_z38
  have h300 := tz_n300 (ρ := ρ) h299 b_r8 b_z38
  have h301 := tz_n301 (ρ := ρ) h246 h135 b_r8
  have h302 := tz_n302 (ρ := ρ) h301 b_r8
  have h307 := tz_n307 (ρ := ρ) h302 b_r8
  have h308 := tz_n308 (ρ := ρ) h307 b_r8
  have h309 := tz_n309 (ρ := ρ) h253 h144 b_r8
  have h314 := tz_n314 (ρ := ρ) h309 b_r8
  have h315 := tz_n315 (ρ := ρ) h314 b_r8
  have h316 := tz_n316 (ρ := ρ) h300 b_r8 b_z38
  have h317 := tz_n317 (ρ := ρ) h315 h316 b_r8 b_z38
  have h318 := tz_n318 (ρ := ρ) h237 h317 b_z38
  have h319 := tz_n319 (ρ := ρ) h318 h102 b_z38
  have h320 := tz_n320 (ρ := ρ) h308 b_r8
  have h321 := tz_n321 (ρ := ρ) h292 b_r8 b_z37
  have h322 := tz_n322 (ρ := ρ) h320 h321 b_r8 b_z37
  have h323 := tz_n323 (ρ := ρ) h242 h322 b_z37
  have h324 := tz_n324 (ρ := ρ) h323 h111 b_z37
  have h325 := tz_n325 (ρ := ρ) h319 h324 b_z38 b_z37
  have h326 := tz_n326 (ρ := ρ) h57 b_r8
  have h327 := tz_n327 (ρ := ρ) h326 h59 b_r8
  have h328 := tz_n328 (ρ := ρ) h327 h61 b_r8 b_m25 b_m26 b_m27 b_q18 b_r10 b_r2 b_r6
  have h333 := tz_n333 (ρ := ρ) h328 z28s b_m25 b_m26 b_m27 b_q18 b_r10 b_r2 b_r6 b_r8 b_z28
  have h334 := tz_n334 (ρ := ρ) h326 h59 b_r8
  have h335 := tz_n335 (ρ := ρ) h334 h69 b_r8 b_m29 b_m30 b_m31 b_q18 b_r12 b_r2 b_r6
  have h336 := tz_n336 (ρ := ρ) h335 b_m29 b_m30 b_m31 b_q18 b_r12 b_r2 b_r6 b_r8
  have h341 := tz_n341 (ρ := ρ) h336 z32s b_m29 b_m30 b_m31 b_q18 b_r12 b_r2 b_r6 b_r8 b_z32
  have h342 := tz_n342 (ρ := ρ) h341 b_r8 b_z32
  have h343 := tz_n343 (ρ := ρ) h327 h78 b_r8 b_m33 b_q21
  have h344 := tz_n344 (ρ := ρ) h343 b_m33 b_q21 b_r8
  have h349 := tz_n349 (ρ := ρ) h344 z34s b_m33 b_q21 b_r8 b_z34
  have h350 := tz_n350 (ρ := ρ) h349 b_r8 b_z34
  have h351 := tz_n351 (ρ := ρ) h334 h87 b_r8 b_m35 b_q21
  have h356 := tz_n356 (ρ := ρ) h351 z36s b_m35 b_q21 b_r8 b_z36
  have h357 := tz_n357 (ρ := ρ) h356 b_r8 b_z36
  have h358 := tz_n358 (ρ := ρ) h342 b_r8 b_z32
  have h359 := tz_n359 (ρ := ρ) h357 h358 b_r8 b_z36 b_z32
  have h360 := tz_n360 (ρ := ρ) h279 h359 b_z32 b_z36
  have h361 := tz_n361 (ρ := ρ) h360 h102 b_z32 b_z36
  have h362 := tz_n362 (ρ := ρ) h350 b_r8 b_z34
  have h363 := tz_n363 (ρ := ρ) h333 b_r8 b_z28
  have h364 := tz_n364 (ρ := ρ) h362 h363 b_r8 b_z34 b_z28
  have h365 := tz_n365 (ρ := ρ) h284 h364 b_z28 b_z34
  have h366 := tz_n366 (ρ := ρ) h365 h111 b_z28 b_z34
  have h367 := tz_n367 (ρ := ρ) h361 h366 b_z32 b_z36 b_z28 b_z34
  have h368 := tz_n368 (ρ := ρ) h327 h119 b_r8 b_m27 b_r10 b_r6
  have h373 := tz_n373 (ρ := ρ) h368 z37s b_m27 b_r10 b_r6 b_r8 b_z37
  have h374 := tz_n374 (ρ := ρ) h334 h126 b_r8 b_m31 b_r12 b_r6
  have h375 := tz_n375 (ρ := ρ) h374 b_m31 b_r12 b_r6 b_r8
  have h380 := tz_n380 (ρ := ρ) h375 z38s b_m31 b_r12 b_r6 b_r8 b_z38
  have h381 := tz_n381 (ρ := ρ) h380 b_r8 b_z38
  have h382 := tz_n382 (ρ := ρ) h327 h135 b_r8
  have h383 := tz_n383 (ρ := ρ) h382 b_r8
  have h388 := tz_n388 (ρ := ρ) h383 b_r8
  have h389 := tz_n389 (ρ := ρ) h388 b_r8
  have h390 := tz_n390 (ρ := ρ) h334 h144 b_r8
  have h395 := tz_n395 (ρ := ρ) h390 b_r8
  have h396 := tz_n396 (ρ := ρ) h395 b_r8
  have h397 := tz_n397 (ρ := ρ) h381 b_r8 b_z38
  have h398 := tz_n398 (ρ := ρ) h396 h397 b_r8 b_z38
  have h399 := tz_n399 (ρ := ρ) h318 h398 b_z38
  have h400 := tz_n400 (ρ := ρ) h399 h102 b_z38
  have h401 := tz_n401 (ρ := ρ) h389 b_r8
  have h402 := tz_n402 (ρ := ρ) h373 b_r8 b_z37
  have h403 := tz_n403 (ρ := ρ) h401 h402 b_r8 b_z37
  have h404 := tz_n404 (ρ := ρ) h323 h403 b_z37
  have h405 := tz_n405 (ρ := ρ) h404 h111 b_z37
  have h406 := tz_n406 (ρ := ρ) h400 h405 b_z38 b_z37
  have h407 := tz_n407 (ρ := ρ) h57 b_r8
  have h408 := tz_n408 (ρ := ρ) h407 h59 b_r8
  have h409 := tz_n409 (ρ := ρ) h408 h61 b_r8 b_m25 b_m26 b_m27 b_q18 b_r10 b_r2 b_r6
  have h414 := tz_n414 (ρ := ρ) h409 z28s b_m25 b_m26 b_m27 b_q18 b_r10 b_r2 b_r6 b_r8 b_z28
  have h415 := tz_n415 (ρ := ρ) h407 h59 b_r8
  have h416 := tz_n416 (ρ := ρ) h415 h69 b_r8 b_m29 b_m30 b_m31 b_q18 b_r12 b_r2 b_r6
  have h417 := tz_n417 (ρ := ρ) h416 b_m29 b_m30 b_m31 b_q18 b_r12 b_r2 b_r6 b_r8
  have h422 := tz_n422 (ρ := ρ) h417 z32s b_m29 b_m30 b_m31 b_q18 b_r12 b_r2 b_r6 b_r8 b_z32
  have h423 := tz_n423 (ρ := ρ) h422 b_r8 b_z32
  have h424 := tz_n424 (ρ := ρ) h408 h78 b_r8 b_m33 b_q21
  have h425 := tz_n425 (ρ := ρ) h424 b_m33 b_q21 b_r8
  have h430 := tz_n430 (ρ := ρ) h425 z34s b_m33 b_q21 b_r8 b_z34
  have h431 := tz_n431 (ρ := ρ) h430 b_r8 b_z34
  have h432 := tz_n432 (ρ := ρ) h415 h87 b_r8 b_m35 b_q21
  have h437 := tz_n437 (ρ := ρ) h432 z36s b_m35 b_q21 b_r8 b_z36
  have h438 := tz_n438 (ρ := ρ) h437 b_r8 b_z36
  have h439 := tz_n439 (ρ := ρ) h423 b_r8 b_z32
  have h440 := tz_n440 (ρ := ρ) h438 h439 b_r8 b_z36 b_z32
  have h441 := tz_n441 (ρ := ρ) h360 h440 b_z32 b_z36
  have h442 := tz_n442 (ρ := ρ) h441 h102 b_z32 b_z36
  have h443 := tz_n443 (ρ := ρ) h431 b_r8 b_z34
  have h444 := tz_n444 (ρ := ρ) h414 b_r8 b_z28
  have h445 := tz_n445 (ρ := ρ) h443 h444 b_r8 b_z34 b_z28
  have h446 := tz_n446 (ρ := ρ) h365 h445 b_z28 b_z34
  have h447 := tz_n447 (ρ := ρ) h446 h111 b_z28 b_z34
  have h448 := tz_n448 (ρ := ρ) h442 h447 b_z32 b_z36 b_z28 b_z34
  have h449 := tz_n449 (ρ := ρ) h408 h119 b_r8 b_m27 b_r10 b_r6
  have h454 := tz_n454 (ρ := ρ) h449 z37s b_m27 b_r10 b_r6 b_r8 b_z37
  have h455 := tz_n455 (ρ := ρ) h415 h126 b_r8 b_m31 b_r12 b_r6
  have h456 := tz_n456 (ρ := ρ) h455 b_m31 b_r12 b_r6 b_r8
  have h461 := tz_n461 (ρ := ρ) h456 z38s b_m31 b_r12 b_r6 b_r8 b_z38
  have h462 := tz_n462 (ρ := ρ) h461 b_r8 b_z38
  have h463 := tz_n463 (ρ := ρ) h408 h135 b_r8
  have h464 := tz_n464 (ρ := ρ) h463 b_r8
  have h469 := tz_n469 (ρ := ρ) h464 b_r8
  have h470 := tz_n470 (ρ := ρ) h469 b_r8
  have h471 := tz_n471 (ρ := ρ) h415 h144 b_r8
  have h476 := tz_n476 (ρ := ρ) h471 b_r8
  have h477 := tz_n477 (ρ := ρ) h476 b_r8
  have h478 := tz_n478 (ρ := ρ) h462 b_r8 b_z38
  have h479 := tz_n479 (ρ := ρ) h477 h478 b_r8 b_z38
  have h480 := tz_n480 (ρ := ρ) h399 h479 b_z38
  have h481 := tz_n481 (ρ := ρ) h480 h102 b_z38
  have h482 := tz_n482 (ρ := ρ) h470 b_r8
  have h483 := tz_n483 (ρ := ρ) h454 b_r8 b_z37
  have h484 := tz_n484 (ρ := ρ) h482 h483 b_r8 b_z37
  have h485 := tz_n485 (ρ := ρ) h404 h484 b_z37
  have h486 := tz_n486 (ρ := ρ) h485 h111 b_z37
  have h487 := tz_n487 (ρ := ρ) h481 h486 b_z38 b_z37
  refine ask_t (Pleq (Zc 0) h2 (tz_t0 b_r2)) ?_
  refine ask_t (Pleq h2 (Zc 100000) (tz_t1 b_r2)) ?_
  refine ask_t (Pleq (Zc 0) h5 (tz_t2 b_r4)) ?_
  refine ask_t (Pleq h5 (Zc 100000) (tz_t3 b_r4)) ?_
  refine ask_t (Pleq (Zc (-100000)) h9 (tz_t4 b_r6)) ?_
  refine ask_t (Pleq h9 (Zc 100000) (tz_t5 b_r6)) ?_
  refine ask_t (Pleq h12 (Zc 50000) (tz_t6 b_x5)) ?_
  refine ask_f (Neql (Zc 50000) h12 (tz_t7 b_x5)) ?_
  refine ask_t (Pleq (Zc 1) h12 (tz_t8 b_x5)) ?_
  refine ask_t (Pleq (Zc 100) h16 (tz_t9 b_r8)) ?_
  refine ask_t (Pleq h16 (Zc 200000) (tz_t10 b_r8)) ?_
  refine ask_t (Pleq (Zc 0) h19 (tz_t11 b_r10)) ?_
  refine ask_t (Pleq h19 (Zc 3000) (tz_t12 b_r10)) ?_
  refine ask_t (Pleq (Zc 0) h22 (tz_t13 b_r12)) ?_
  refine ask_t (Pleq h22 (Zc 3000) (tz_t14 b_r12)) ?_
  refine ask_t (Pleq (Zc 1) h24 (tz_t15 b_r14)) ?_
  refine ask_t (Pleq h24 (Zc 8) (tz_t16 b_r14)) ?_
  refine ask_t (Pleq h26 h27 (tz_t17 b_r10 b_r12 b_r8)) ?_
  refine ask_t (Pleq (Zc 1) h30 (tz_t18 b_r16)) ?_
  refine ask_t (Pleq h30 (Zc 60) (tz_t19 b_r16)) ?_
  refine ask_t (Pleq (Zc (-10000)) h40 (tz_t20 b_q18 b_r2 b_r6)) ?_
  refine ask_t (Pleq h40 (Zc 10000) (tz_t21 b_q18 b_r2 b_r6)) ?_
  refine ask_t (Pleq (Zc (-10000)) h50 (tz_t22 b_q21)) ?_
  refine ask_t (Pleq h50 (Zc 10000) (tz_t23 b_q21)) ?_
  refine ask_t (Pleq (Zc (-200000)) h55 (tz_t24 b_u23)) ?_
  refine ⟨fun g25 => ?_, fun g25 => ?_⟩
  · have k25 : (u23 : Int) ≤ u24 := Zleqt h55 h56 g25
    clear g25
    refine ask_t (Pleq h56 (Zc 200000) (tz_t25 b_u24)) ?_
    refine ask_f (Nleq h30 (Zc 0) (tz_t26 b_r16)) ?_
    refine ⟨fun g28 => ?_, fun g28 => ?_⟩
    · have k28 : (r16 + 1 : Int) ≤ 1 := Zleqt h30 (Zc 1) g28
      clear g28
      refine ask_t (Pleq (Zc (-10000000)) h67 (tz_t27 b_r8 b_z28)) ?_
      refine ask_t (Pleq h67 h77 (tz_t28 b_r8 b_z28 b_z32)) ?_
      refine ask_t (Pleq h77 (Zc 10000000) (tz_t29 b_r8 b_z32)) ?_
      refine ask_t (Pleq (Zc (-10000000)) h86 (tz_t30 b_r8 b_z34)) ?_
      refine ask_t (Pleq h86 h93 (tz_t31 b_r8 b_z34 b_z36)) ?_
      refine ask_t (Pleq h93 (Zc 10000000) (tz_t32 b_r8 b_z36)) ?_
      refine ⟨fun g35 => ?_, fun g35 => ?_⟩
      · have k35 : (0 : Int) ≤ (-2) * q18 + 2 * q21 + 2 * r2 + 2 * r6 + (-40) := Zleqt (Zc 0) h94 g35
        clear g35
        have f35r10 := tz_f33 b_q18 b_q21 b_r2 b_r6 b_r10 b_m25 b_m26 b_m27 b_m33 k35 m25e m33e m26e m27e
        have f35r12 := tz_f34 b_q18 b_q21 b_r2 b_r6 b_r12 b_m29 b_m30 b_m31 b_m35 k35 m29e m35e m30e m31e
        refine ⟨fun g36 => ?_, fun g36 => ?_⟩
        · have k36 : (q18 + (-1) * r2 + (-1) * r6 + 20 : Int) ≤ q21 := Zleqt h40 h50 g36
          clear g36
          refine ⟨fun g37 => ?_, fun g37 => ?_⟩
          · have k37 : (0 : Int) ≤ 1000 * z28 + 1000 * z32 + 1000 * z34 + 1000 * z36 + (-2000) := Zleqt (Zc 0) h113 g37
            clear g37
            refine ⟨fun g38 => ?_, fun g38 => ?_⟩
            · have k38 : (0 : Int) ≤ 2 * r6 + (-40) := Zleqt (Zc 0) h114 g38
              clear g38
              have f38r10 := tz_f35 b_r6 b_r10 b_m27 k38 m27e
              have f38r12 := tz_f36 b_r6 b_r12 b_m31 k38 m31e
              refine ask_t (Pleq (Zc (-10000)) h116 (tz_t37 b_r6)) ?_
              refine ask_t (Pleq h116 (Zc 10000) (tz_t38 b_r6)) ?_
              refine ask_t (Pleq (Zc (-10000)) h118 (tz_t39 )) ?_
              refine ask_t (Pleq h118 (Zc 10000) (tz_t40 )) ?_
              refine ask_t (Pleq (Zc (-10000000)) h125 (tz_t41 b_r8 b_z37)) ?_
              refine ask_t (Pleq h125 h134 (tz_t42 b_r8 b_z37 b_z38)) ?_
              refine ask_t (Pleq h134 (Zc 10000000) (tz_t43 b_r8 b_z38)) ?_
              refine ask_t (Pleq (Zc (-10000000)) h143 (tz_t44 b_r8)) ?_
              refine ask_t (Pleq h143 h150 (tz_t45 b_r8)) ?_
              refine ask_t (Pleq h150 (Zc 10000000) (tz_t46 b_r8)) ?_
              refine ⟨fun g49 => ?_, fun g49 => ?_⟩
              · have k49 : (0 : Int) ≤ 1000 * z37 + 1000 * z38 + (-2000) := Zleqt (Zc 0) h161 g49
                clear g49
                refine ⟨fun g50 => ?_, fun g50 => ?_⟩
                · have k50 : ((-2) * m27 + (-2) * m31 + 40 * r10 + 40 * r12 + (-4) * r6 + 80 : Int) ≤ 8000 := Zleqt h163 (Zc 8000) g50
                  clear g50
                  exact rfl
                · have k50 : ¬ (((-2) * m27 + (-2) * m31 + 40 * r10 + 40 * r12 + (-4) * r6 + 80 : Int) ≤ 8000) := Zleqf h163 (Zc 8000) g50
                  clear g50
                  exact tz_d0 b_m17 b_m20 b_m25 b_m26 b_m27 b_m29 b_m30 b_m31 b_m33 b_m35 b_q18 b_q21 b_r10 b_r12 b_r19 b_r2 b_r22 b_r4 b_r6 b_x10 b_x9 k35 f35r10 f35r12 k36 k38 f38r10 f38r12 k50 m27f1 m27f2 m27f3 m27f4 m31f1 m31f2 m31f3 m31f4 q18s q21s m25f1 m25f2 m25f3 m25f4 m26f1 m26f2 m26f3 m26f4 m33f1 m33f2 m33f3 m33f4 m29f1 m29f2 m29f3 m29f4 m30f1 m30f2 m30f3 m30f4 m35f1 m35f2 m35f3 m35f4 m17f1 m17f2 m17f3 m17f4 m20f1 m20f2 m20f3 m20f4
              · have k49 : ¬ ((0 : Int) ≤ 1000 * z37 + 1000 * z38 + (-2000)) := Zleqf (Zc 0) h161 g49
                clear g49
                exact tz_d1 b_m17 b_m20 b_m25 b_m26 b_m27 b_m29 b_m30 b_m31 b_m33 b_m35 b_q18 b_q21 b_r10 b_r12 b_r19 b_r2 b_r22 b_r4 b_r6 b_x10 b_x9 b_z37 b_z38 k49 z37s z38s k35 f35r10 f35r12 k36 k38 f38r10 f38r12 m27f1 m27f2 m27f3 m27f4 m31f1 m31f2 m31f3 m31f4 q18s q21s m25f1 m25f2 m25f3 m25f4 m26f1 m26f2 m26f3 m26f4 m33f1 m33f2 m33f3 m33f4 m29f1 m29f2 m29f3 m29f4 m30f1 m30f2 m30f3 m30f4 m35f1 m35f2 m35f3 m35f4 m17f1 m17f2 m17f3 m17f4 m20f1 m20f2 m20f3 m20f4
            · have k38 : ¬ ((0 : Int) ≤ 2 * r6 + (-40)) := Zleqf (Zc 0) h114 g38
              clear g38
              refine ask_t (Pleq (Zc (-10000)) h116 (tz_t37 b_r6)) ?_
              refine ask_t (Pleq h116 (Zc 10000) (tz_t38 b_r6)) ?_
              refine ask_t (Pleq (Zc (-10000)) h118 (tz_t39 )) ?_
              refine ask_t (Pleq h118 (Zc 10000) (tz_t40 )) ?_
              refine ask_t (Pleq (Zc (-10000000)) h125 (tz_t41 b_r8 b_z37)) ?_
              refine ask_t (Pleq h125 h134 (tz_t42 b_r8 b_z37 b_z38)) ?_
              refine ask_t (Pleq h134 (Zc 10000000) (tz_t43 b_r8 b_z38)) ?_
              refine ask_t (Pleq (Zc (-10000000)) h143 (tz_t44 b_r8)) ?_
              refine ask_t (Pleq h143 h150 (tz_t45 b_r8)) ?_
              refine ask_t (Pleq h150 (Zc 10000000) (tz_t46 b_r8)) ?_
              refine ⟨fun g49 => ?_, fun g49 => ?_⟩
              · have k49 : ((-2) * m27 + (-2) * m31 + 40 * r10 + 40 * r12 + (-4) * r6 + 80 : Int) ≤ 8000 := Zleqt h163 (Zc 8000) g49
                clear g49
                exact rfl
              · have k49 : ¬ (((-2) * m27 + (-2) * m31 + 40 * r10 + 40 * r12 + (-4) * r6 + 80 : Int) ≤ 8000) := Zleqf h163 (Zc 8000) g49
                clear g49
                refine ⟨fun g50 => ?_, fun g50 => ?_⟩
                · have k50 : (0 : Int) ≤ 1000 * z37 + 1000 * z38 + (-2000) := Zleqt (Zc 0) h161 g50
                  clear g50
                  exact tz_d2 b_m17 b_m20 b_m25 b_m26 b_m27 b_m29 b_m30 b_m31 b_m33 b_m35 b_q18 b_q21 b_r10 b_r12 b_r19 b_r2 b_r22 b_r4 b_r6 b_x10 b_x9 b_z37 b_z38 k50 z37s z38s k35 f35r10 f35r12 k36 k38 k49 m27f1 m27f2 m27f3 m27f4 m31f1 m31f2 m31f3 m31f4 q18s q21s m25f1 m25f2 m25f3 m25f4 m26f1 m26f2 m26f3 m26f4 m33f1 m33f2 m33f3 m33f4 m29f1 m29f2 m29f3 m29f4 m30f1 m30f2 m30f3 m30f4 m35f1 m35f2 m35f3 m35f4 m17f1 m17f2 m17f3 m17f4 m20f1 m20f2 m20f3 m20f4
                · have k50 : ¬ ((0 : Int) ≤ 1000 * z37 + 1000 * z38 + (-2000)) := Zleqf (Zc 0) h161 g50
                  clear g50
                  exact rfl
          · have k37 : ¬ ((0 : Int) ≤ 1000 * z28 + 1000 * z32 + 1000 * z34 + 1000 * z36 + (-2000)) := Zleqf (Zc 0) h113 g37
            clear g37
            exact tz_d3 b_m17 b_m20 b_m25 b_m26 b_m27 b_m29 b_m30 b_m31 b_m33 b_m35 b_q18 b_q21 b_r10 b_r12 b_r19 b_r2 b_r22 b_r4 b_r6 b_x10 b_x9 b_z28 b_z32 b_z34 b_z36 k37 z28s z32s z34s z36s k35 f35r10 f35r12 k36 m25f1 m25f2 m25f3 m25f4 m26f1 m26f2 m26f3 m26f4 m27f1 m27f2 m27f3 m27f4 q18s m29f1 m29f2 m29f3 m29f4 m30f1 m30f2 m30f3 m30f4 m31f1 m31f2 m31f3 m31f4 m33f1 m33f2 m33f3 m33f4 q21s m35f1 m35f2 m35f3 m35f4 m17f1 m17f2 m17f3 m17f4 m20f1 m20f2 m20f3 m20f4
        · have k36 : ¬ ((q18 + (-1) * r2 + (-1) * r6 + 20 : Int) ≤ q21) := Zleqf h40 h50 g36
          clear g36
          exact tz_d4 b_m17 b_m20 b_q18 b_q21 b_r19 b_r2 b_r22 b_r4 b_r6 b_x10 b_x9 k35 k36 q18s q21s m17f1 m17f2 m17f3 m17f4 m20f1 m20f2 m20f3 m20f4
      · have k35 : ¬ ((0 : Int) ≤ (-2) * q18 + 2 * q21 + 2 * r2 + 2 * r6 + (-40)) := Zleqf (Zc 0) h94 g35
        clear g35
        refine ⟨fun g36 => ?_, fun g36 => ?_⟩
        · have k36 : (q18 + (-1) * r2 + (-1) * r6 + 20 : Int) ≤ q21 := Zleqt h40 h50 g36
          clear g36
          exact tz_d5 b_m17 b_m20 b_q18 b_q21 b_r19 b_r2 b_r22 b_r4 b_r6 b_x10 b_x9 k35 k36 q18s q21s m17f1 m17f2 m17f3 m17f4 m20f1 m20f2 m20f3 m20f4
        · have k36 : ¬ ((q18 + (-1) * r2 + (-1) * r6 + 20 : Int) ≤ q21) := Zleqf h40 h50 g36
          clear g36
          refine ⟨fun g37 => ?_, fun g37 => ?_⟩
          · have k37 : (0 : Int) ≤ 2 * r6 + (-40) := Zleqt (Zc 0) h114 g37
            clear g37
            exact tz_d6 b_m17 b_m20 b_q18 b_q21 b_r19 b_r2 b_r22 b_r4 b_r6 b_x10 b_x9 k35 k36 k37 q18s q21s m17f1 m17f2 m17f3 m17f4 m20f1 m20f2 m20f3 m20f4
          · have k37 : ¬ ((0 : Int) ≤ 2 * r6 + (-40)) := Zleqf (Zc 0) h114 g37
            clear g37
            refine ask_t (Pleq (Zc (-10000)) h116 (tz_t37 b_r6)) ?_
            refine ask_t (Pleq h116 (Zc 10000) (tz_t38 b_r6)) ?_
            refine ask_t (Pleq (Zc (-10000)) h118 (tz_t39 )) ?_
            refine ask_t (Pleq h118 (Zc 10000) (tz_t40 )) ?_
            refine ask_t (Pleq (Zc (-10000000)) h125 (tz_t41 b_r8 b_z37)) ?_
            refine ask_t (Pleq h125 h134 (tz_t42 b_r8 b_z37 b_z38)) ?_
            refine ask_t (Pleq h134 (Zc 10000000) (tz_t43 b_r8 b_z38)) ?_
            refine ask_t (Pleq (Zc (-10000000)) h143 (tz_t44 b_r8)) ?_
            refine ask_t (Pleq h143 h150 (tz_t45 b_r8)) ?_
            refine ask_t (Pleq h150 (Zc 10000000) (tz_t46 b_r8)) ?_
            refine ⟨fun g48 => ?_, fun g48 => ?_⟩
            · have k48 : ((-2) * m27 + (-2) * m31 + 40 * r10 + 40 * r12 + (-4) * r6 + 80 : Int) ≤ 8000 := Zleqt h163 (Zc 8000) g48
              clear g48
              exact rfl
            · have k48 : ¬ (((-2) * m27 + (-2) * m31 + 40 * r10 + 40 * r12 + (-4) * r6 + 80 : Int) ≤ 8000) := Zleqf h163 (Zc 8000) g48
              clear g48
              refine ⟨fun g49 => ?_, fun g49 => ?_⟩
              · have k49 : (0 : Int) ≤ 1000 * z37 + 1000 * z38 + (-2000) := Zleqt (Zc 0) h161 g49
                clear g49
                exact tz_d7 b_m17 b_m20 b_m27 b_m31 b_q18 b_q21 b_r10 b_r12 b_r19 b_r2 b_r22 b_r4 b_r6 b_x10 b_x9 b_z37 b_z38 k49 z37s z38s k35 k36 k37 k48 m27f1 m27f2 m27f3 m27f4 m31f1 m31f2 m31f3 m31f4 q18s q21s m17f1 m17f2 m17f3 m17f4 m20f1 m20f2 m20f3 m20f4
              · have k49 : ¬ ((0 : Int) ≤ 1000 * z37 + 1000 * z38 + (-2000)) := Zleqf (Zc 0) h161 g49
                clear g49
                exact rfl
    · have k28 : ¬ ((r16 + 1 : Int) ≤ 1) := Zleqf h30 (Zc 1) g28
      clear g28
      refine ⟨fun g29 => ?_, fun g29 => ?_⟩
      · have k29 : (r16 + 1 : Int) ≤ 2 := Zleqt h30 (Zc 2) g29
        clear g29
        refine ask_t (Pleq (Zc (-10000000)) h67 (tz_t27 b_r8 b_z28)) ?_
        refine ask_t (Pleq h67 h77 (tz_t28 b_r8 b_z28 b_z32)) ?_
        refine ask_t (Pleq h77 h171 (tz_t55 b_r8 b_z32 b_z28)) ?_
        refine ask_t (Pleq h171 h180 (tz_t56 b_r8 b_z28 b_z32)) ?_
        refine ask_t (Pleq h180 (Zc 10000000) (tz_t57 b_r8 b_z32)) ?_
        refine ask_t (Pleq (Zc (-10000000)) h86 (tz_t30 b_r8 b_z34)) ?_
        refine ask_t (Pleq h86 h93 (tz_t31 b_r8 b_z34 b_z36)) ?_
        refine ask_t (Pleq h93 h188 (tz_t58 b_r8 b_z36 b_z34)) ?_
        refine ask_t (Pleq h188 h194 (tz_t59 b_r8 b_z34 b_z36)) ?_
        refine ask_t (Pleq h194 (Zc 10000000) (tz_t60 b_r8 b_z36)) ?_
        refine ⟨fun g40 => ?_, fun g40 => ?_⟩
        · have k40 : (0 : Int) ≤ (-2) * q18 + 2 * q21 + 2 * r2 + 2 * r6 + (-40) := Zleqt (Zc 0) h94 g40
          clear g40
          have f40r10 := tz_f33 b_q18 b_q21 b_r2 b_r6 b_r10 b_m25 b_m26 b_m27 b_m33 k40 m25e m33e m26e m27e
          have f40r12 := tz_f34 b_q18 b_q21 b_r2 b_r6 b_r12 b_m29 b_m30 b_m31 b_m35 k40 m29e m35e m30e m31e
          refine ⟨fun g41 => ?_, fun g41 => ?_⟩
          · have k41 : (q18 + (-1) * r2 + (-1) * r6 + 20 : Int) ≤ q21 := Zleqt h40 h50 g41
            clear g41
            refine ⟨fun g42 => ?_, fun g42 => ?_⟩
            · have k42 : (0 : Int) ≤ 1000 * z28 + 1000 * z32 + 1000 * z34 + 1000 * z36 + (-2000) := Zleqt (Zc 0) h205 g42
              clear g42
              refine ⟨fun g43 => ?_, fun g43 => ?_⟩
              · have k43 : (0 : Int) ≤ 2 * r6 + (-40) := Zleqt (Zc 0) h114 g43
                clear g43
                have f43r10 := tz_f35 b_r6 b_r10 b_m27 k43 m27e
                have f43r12 := tz_f36 b_r6 b_r12 b_m31 k43 m31e
                refine ask_t (Pleq (Zc (-10000)) h116 (tz_t37 b_r6)) ?_
                refine ask_t (Pleq h116 (Zc 10000) (tz_t38 b_r6)) ?_
                refine ask_t (Pleq (Zc (-10000)) h118 (tz_t39 )) ?_
                refine ask_t (Pleq h118 (Zc 10000) (tz_t40 )) ?_
                refine ask_t (Pleq (Zc (-10000000)) h125 (tz_t41 b_r8 b_z37)) ?_
                refine ask_t (Pleq h125 h134 (tz_t42 b_r8 b_z37 b_z38)) ?_
                refine ask_t (Pleq h134 h211 (tz_t61 b_r8 b_z38 b_z37)) ?_
                refine ask_t (Pleq h211 h219 (tz_t62 b_r8 b_z37 b_z38)) ?_
                refine ask_t (Pleq h219 (Zc 10000000) (tz_t63 b_r8 b_z38)) ?_
                refine ask_t (Pleq (Zc (-10000000)) h143 (tz_t44 b_r8)) ?_
                refine ask_t (Pleq h143 h150 (tz_t45 b_r8)) ?_
                refine ask_t (Pleq h150 h227 (tz_t64 b_r8)) ?_
                refine ask_t (Pleq h227 h233 (tz_t65 b_r8)) ?_
                refine ask_t (Pleq h233 (Zc 10000000) (tz_t66 b_r8)) ?_
                refine ⟨fun g58 => ?_, fun g58 => ?_⟩
                · have k58 : (0 : Int) ≤ 1000 * z37 + 1000 * z38 + (-2000) := Zleqt (Zc 0) h244 g58
                  clear g58
                  refine ⟨fun g59 => ?_, fun g59 => ?_⟩
                  · have k59 : ((-2) * m27 + (-2) * m31 + 40 * r10 + 40 * r12 + (-4) * r6 + 80 : Int) ≤ 8000 := Zleqt h163 (Zc 8000) g59
                    clear g59
                    exact rfl
                  · have k59 : ¬ (((-2) * m27 + (-2) * m31 + 40 * r10 + 40 * r12 + (-4) * r6 + 80 : Int) ≤ 8000) := Zleqf h163 (Zc 8000) g59
                    clear g59
                    exact tz_d0 b_m17 b_m20 b_m25 b_m26 b_m27 b_m29 b_m30 b_m31 b_m33 b_m35 b_q18 b_q21 b_r10 b_r12 b_r19 b_r2 b_r22 b_r4 b_r6 b_x10 b_x9 k40 f40r10 f40r12 k41 k43 f43r10 f43r12 k59 m27f1 m27f2 m27f3 m27f4 m31f1 m31f2 m31f3 m31f4 q18s q21s m25f1 m25f2 m25f3 m25f4 m26f1 m26f2 m26f3 m26f4 m33f1 m33f2 m33f3 m33f4 m29f1 m29f2 m29f3 m29f4 m30f1 m30f2 m30f3 m30f4 m35f1 m35f2 m35f3 m35f4 m17f1 m17f2 m17f3 m17f4 m20f1 m20f2 m20f3 m20f4
                · have k58 : ¬ ((0 : Int) ≤ 1000 * z37 + 1000 * z38 + (-2000)) := Zleqf (Zc 0) h244 g58
                  clear g58
                  exact tz_d1 b_m17 b_m20 b_m25 b_m26 b_m27 b_m29 b_m30 b_m31 b_m33 b_m35 b_q18 b_q21 b_r10 b_r12 b_r19 b_r2 b_r22 b_r4 b_r6 b_x10 b_x9 b_z37 b_z38 k58 z37s z38s k40 f40r10 f40r12 k41 k43 f43r10 f43r12 m27f1 m27f2 m27f3 m27f4 m31f1 m31f2 m31f3 m31f4 q18s q21s m25f1 m25f2 m25f3 m25f4 m26f1 m26f2 m26f3 m26f4 m33f1 m33f2 m33f3 m33f4 m29f1 m29f2 m29f3 m29f4 m30f1 m30f2 m30f3 m30f4 m35f1 m35f2 m35f3 m35f4 m17f1 m17f2 m17f3 m17f4 m20f1 m20f2 m20f3 m20f4
              · have k43 : ¬ ((0 : Int) ≤ 2 * r6 + (-40)) := Zleqf (Zc 0) h114 g43
                clear g43
                refine ask_t (Pleq (Zc (-10000)) h116 (tz_t37 b_r6)) ?_
                refine ask_t (Pleq h116 (Zc 10000) (tz_t38 b_r6)) ?_
                refine ask_t (Pleq (Zc (-10000)) h118 (tz_t39 )) ?_
                refine ask_t (Pleq h118 (Zc 10000) (tz_t40 )) ?_
                refine ask_t (Pleq (Zc (-10000000)) h125 (tz_t41 b_r8 b_z37)) ?_
                refine ask_t (Pleq h125 h134 (tz_t42 b_r8 b_z37 b_z38)) ?_
                refine ask_t (Pleq h134 h211 (tz_t61 b_r8 b_z38 b_z37)) ?_
                refine ask_t (Pleq h211 h219 (tz_t62 b_r8 b_z37 b_z38)) ?_
                refine ask_t (Pleq h219 (Zc 10000000) (tz_t63 b_r8 b_z38)) ?_
                refine ask_t (Pleq (Zc (-10000000)) h143 (tz_t44 b_r8)) ?_
                refine ask_t (Pleq h143 h150 (tz_t45 b_r8)) ?_
                refine ask_t (Pleq h150 h227 (tz_t64 b_r8)) ?_
                refine ask_t (Pleq h227 h233 (tz_t65 b_r8)) ?_
                refine ask_t (Pleq h233 (Zc 10000000) (tz_t66 b_r8)) ?_
                refine ⟨fun g58 => ?_, fun g58 => ?_⟩
                · have k58 : ((-2) * m27 + (-2) * m31 + 40 * r10 + 40 * r12 + (-4) * r6 + 80 : Int) ≤ 8000 := Zleqt h163 (Zc 8000) g58
                  clear g58
                  exact rfl
                · have k58 : ¬ (((-2) * m27 + (-2) * m31 + 40 * r10 + 40 * r12 + (-4) * r6 + 80 : Int) ≤ 8000) := Zleqf h163 (Zc 8000) g58
                  clear g58
                  refine ⟨fun g59 => ?_, fun g59 => ?_⟩
                  · have k59 : (0 : Int) ≤ 1000 * z37 + 1000 * z38 + (-2000) := Zleqt (Zc 0) h244 g59
                    clear g59
                    exact tz_d2 b_m17 b_m20 b_m25 b_m26 b_m27 b_m29 b_m30 b_m31 b_m33 b_m35 b_q18 b_q21 b_r10 b_r12 b_r19 b_r2 b_r22 b_r4 b_r6 b_x10 b_x9 b_z37 b_z38 k59 z37s z38s k40 f40r10 f40r12 k41 k43 k58 m27f1 m27f2 m27f3 m27f4 m31f1 m31f2 m31f3 m31f4 q18s q21s m25f1 m25f2 m25f3 m25f4 m26f1 m26f2 m26f3 m26f4 m33f1 m33f2 m33f3 m33f4 m29f1 m29f2 m29f3 m29f4 m30f1 m30f2 m30f3 m30f4 m35f1 m35f2 m35f3 m35f4 m17f1 m17f2 m17f3 m17f4 m20f1 m20f2 m20f3 m20f4
                  · have k59 : ¬ ((0 : Int) ≤ 1000 * z37 + 1000 * z38 + (-2000)) := Zleqf (Zc 0) h244 g59
                    clear g59
                    exact rfl
            · have k42 : ¬ ((0 : Int) ≤ 1000 * z28 + 1000 * z32 + 1000 * z34 + 1000 * z36 + (-2000)) := Zleqf (Zc 0) h205 g42
              clear g42
              exact tz_d3 b_m17 b_m20 b_m25 b_m26 b_m27 b_m29 b_m30 b_m31 b_m33 b_m35 b_q18 b_q21 b_r10 b_r12 b_r19 b_r2 b_r22 b_r4 b_r6 b_x10 b_x9 b_z28 b_z32 b_z34 b_z36 k42 z28s z32s z34s z36s k40 f40r10 f40r12 k41 m25f1 m25f2 m25f3 m25f4 m26f1 m26f2 m26f3 m26f4 m27f1 m27f2 m27f3 m27f4 q18s m29f1 m29f2 m29f3 m29f4 m30f1 m30f2 m30f3 m30f4 m31f1 m31f2 m31f3 m31f4 m33f1 m33f2 m33f3 m33f4 q21s m35f1 m35f2 m35f3 m35f4 m17f1 m17f2 m17f3 m17f4 m20f1 m20f2 m20f3 m20f4
          · have k41 : ¬ ((q18 + (-1) * r2 + (-1) * r6 + 20 : Int) ≤ q21) := Zleqf h40 h50 g41
            clear g41
            exact tz_d4 b_m17 b_m20 b_q18 b_q21 b_r19 b_r2 b_r22 b_r4 b_r6 b_x10 b_x9 k40 k41 q18s q21s m17f1 m17f2 m17f3 m17f4 m20f1 m20f2 m20f3 m20f4
        · have k40 : ¬ ((0 : Int) ≤ (-2) * q18 + 2 * q21 + 2 * r2 + 2 * r6 + (-40)) := Zleqf (Zc 0) h94 g40
          clear g40
          refine ⟨fun g41 => ?_, fun g41 => ?_⟩
          · have k41 : (q18 + (-1) * r2 + (-1) * r6 + 20 : Int) ≤ q21 := Zleqt h40 h50 g41
            clear g41
            exact tz_d5 b_m17 b_m20 b_q18 b_q21 b_r19 b_r2 b_r22 b_r4 b_r6 b_x10 b_x9 k40 k41 q18s q21s m17f1 m17f2 m17f3 m17f4 m20f1 m20f2 m20f3 m20f4
          · have k41 : ¬ ((q18 + (-1) * r2 + (-1) * r6 + 20 : Int) ≤ q21) := Zleqf h40 h50 g41
            clear g41
            refine ⟨fun g42 => ?_, fun g42 => ?_⟩
            · have k42 : (0 : Int) ≤ 2 * r6 + (-40) := Zleqt (Zc 0) h114 g42
              clear g42
              exact tz_d6 b_m17 b_m20 b_q18 b_q21 b_r19 b_r2 b_r22 b_r4 b_r6 b_x10 b_x9 k40 k41 k42 q18s q21s m17f1 m17f2 m17f3 m17f4 m20f1 m20f2 m20f3 m20f4
            · have k42 : ¬ ((0 : Int) ≤ 2 * r6 + (-40)) := Zleqf (Zc 0) h114 g42
              clear g42
              refine ask_t (Pleq (Zc (-10000)) h116 (tz_t37 b_r6)) ?_
              refine ask_t (Pleq h116 (Zc 10000) (tz_t38 b_r6)) ?_
              refine ask_t (Pleq (Zc (-10000)) h118 (tz_t39 )) ?_
              refine ask_t (Pleq h118 (Zc 10000) (tz_t40 )) ?_
              refine ask_t (Pleq (Zc (-10000000)) h125 (tz_t41 b_r8 b_z37)) ?_
              refine ask_t (Pleq h125 h134 (tz_t42 b_r8 b_z37 b_z38)) ?_
              refine ask_t (Pleq h134 h211 (tz_t61 b_r8 b_z38 b_z37)) ?_
              refine ask_t (Pleq h211 h219 (tz_t62 b_r8 b_z37 b_z38)) ?_
              refine ask_t (Pleq h219 (Zc 10000000) (tz_t63 b_r8 b_z38)) ?_
              refine ask_t (Pleq (Zc (-10000000)) h143 (tz_t44 b_r8)) ?_
              refine ask_t (Pleq h143 h150 (tz_t45 b_r8)) ?_
              refine ask_t (Pleq h150 h227 (tz_t64 b_r8)) ?_
              refine ask_t (Pleq h227 h233 (tz_t65 b_r8)) ?_
              refine ask_t (Pleq h233 (Zc 10000000) (tz_t66 b_r8)) ?_
              refine ⟨fun g57 => ?_, fun g57 => ?_⟩
              · have k57 : ((-2) * m27 + (-2) * m31 + 40 * r10 + 40 * r12 + (-4) * r6 + 80 : Int) ≤ 8000 := Zleqt h163 (Zc 8000) g57
                clear g57
                exact rfl
              · have k57 : ¬ (((-2) * m27 + (-2) * m31 + 40 * r10 + 40 * r12 + (-4) * r6 + 80 : Int) ≤ 8000) := Zleqf h163 (Zc 8000) g57
                clear g57
                refine ⟨fun g58 => ?_, fun g58 => ?_⟩
                · have k58 : (0 : Int) ≤ 1000 * z37 + 1000 * z38 + (-2000) := Zleqt (Zc 0) h244 g58
                  clear g58
                  exact tz_d7 b_m17 b_m20 b_m27 b_m31 b_q18 b_q21 b_r10 b_r12 b_r19 b_r2 b_r22 b_r4 b_r6 b_x10 b_x9 b_z37 b_z38 k58 z37s z38s k40 k41 k42 k57 m27f1 m27f2 m27f3 m27f4 m31f1 m31f2 m31f3 m31f4 q18s q21s m17f1 m17f2 m17f3 m17f4 m20f1 m20f2 m20f3 m20f4
                · have k58 : ¬ ((0 : Int) ≤ 1000 * z37 + 1000 * z38 + (-2000)) := Zleqf (Zc 0) h244 g58
                  clear g58
                  exact rfl
      · have k29 : ¬ ((r16 + 1 : Int) ≤ 2) := Zleqf h30 (Zc 2) g29
        clear g29
        refine ⟨fun g30 => ?_, fun g30 => ?_⟩
        · have k30 : (r16 + 1 : Int) ≤ 3 := Zleqt h30 (Zc 3) g30
          clear g30
          refine ask_t (Pleq (Zc (-10000000)) h67 (tz_t27 b_r8 b_z28)) ?_
          refine ask_t (Pleq h67 h77 (tz_t28 b_r8 b_z28 b_z32)) ?_
          refine ask_t (Pleq h77 h171 (tz_t55 b_r8 b_z32 b_z28)) ?_
          refine ask_t (Pleq h171 h180 (tz_t56 b_r8 b_z28 b_z32)) ?_
          refine ask_t (Pleq h180 h252 (tz_t67 b_r8 b_z32 b_z28)) ?_
          refine ask_t (Pleq h252 h261 (tz_t68 b_r8 b_z28 b_z32)) ?_
          refine ask_t (Pleq h261 (Zc 10000000) (tz_t69 b_r8 b_z32)) ?_
          refine ask_t (Pleq (Zc (-10000000)) h86 (tz_t30 b_r8 b_z34)) ?_
          refine ask_t (Pleq h86 h93 (tz_t31 b_r8 b_z34 b_z36)) ?_
          refine ask_t (Pleq h93 h188 (tz_t58 b_r8 b_z36 b_z34)) ?_
          refine ask_t (Pleq h188 h194 (tz_t59 b_r8 b_z34 b_z36)) ?_
          refine ask_t (Pleq h194 h269 (tz_t70 b_r8 b_z36 b_z34)) ?_
          refine ask_t (Pleq h269 h275 (tz_t71 b_r8 b_z34 b_z36)) ?_
          refine ask_t (Pleq h275 (Zc 10000000) (tz_t72 b_r8 b_z36)) ?_
          refine ⟨fun g45 => ?_, fun g45 => ?_⟩
          · have k45 : (0 : Int) ≤ (-2) * q18 + 2 * q21 + 2 * r2 + 2 * r6 + (-40) := Zleqt (Zc 0) h94 g45
            clear g45
            have f45r10 := tz_f33 b_q18 b_q21 b_r2 b_r6 b_r10 b_m25 b_m26 b_m27 b_m33 k45 m25e m33e m26e m27e
            have f45r12 := tz_f34 b_q18 b_q21 b_r2 b_r6 b_r12 b_m29 b_m30 b_m31 b_m35 k45 m29e m35e m30e m31e
            refine ⟨fun g46 => ?_, fun g46 => ?_⟩
            · have k46 : (q18 + (-1) * r2 + (-1) * r6 + 20 : Int) ≤ q21 := Zleqt h40 h50 g46
              clear g46
              refine ⟨fun g47 => ?_, fun g47 => ?_⟩
              · have k47 : (0 : Int) ≤ 1000 * z28 + 1000 * z32 + 1000 * z34 + 1000 * z36 + (-2000) := Zleqt (Zc 0) h286 g47
                clear g47
                refine ⟨fun g48 => ?_, fun g48 => ?_⟩
                · have k48 : (0 : Int) ≤ 2 * r6 + (-40) := Zleqt (Zc 0) h114 g48
                  clear g48
                  have f48r10 := tz_f35 b_r6 b_r10 b_m27 k48 m27e
                  have f48r12 := tz_f36 b_r6 b_r12 b_m31 k48 m31e
                  refine ask_t (Pleq (Zc (-10000)) h116 (tz_t37 b_r6)) ?_
                  refine ask_t (Pleq h116 (Zc 10000) (tz_t38 b_r6)) ?_
                  refine ask_t (Pleq (Zc (-10000)) h118 (tz_t39 )) ?_
                  refine ask_t (Pleq h118 (Zc 10000) (tz_t40 )) ?_
                  refine ask_t (Pleq (Zc (-10000000)) h125 (tz_t41 b_r8 b_z37)) ?_
                  refine ask_t (Pleq h125 h134 (tz_t42 b_r8 b_z37 b_z38)) ?_
                  refine ask_t (Pleq h134 h211 (tz_t61 b_r8 b_z38 b_z37)) ?_
                  refine ask_t (Pleq h211 h219 (tz_t62 b_r8 b_z37 b_z38)) ?_
                  refine ask_t (Pleq h219 h292 (tz_t73 b_r8 b_z38 b_z37)) ?_
                  refine ask_t (Pleq h292 h300 (tz_t74 b_r8 b_z37 b_z38)) ?_
                  refine ask_t (Pleq h300 (Zc 10000000) (tz_t75 b_r8 b_z38)) ?_
                  refine ask_t (Pleq (Zc (-10000000)) h143 (tz_t44 b_r8)) ?_
                  refine ask_t (Pleq h143 h150 (tz_t45 b_r8)) ?_
                  refine ask_t (Pleq h150 h227 (tz_t64 b_r8)) ?_
                  refine ask_t (Pleq h227 h233 (tz_t65 b_r8)) ?_
                  refine ask_t (Pleq h233 h308 (tz_t76 b_r8)) ?_
                  refine ask_t (Pleq h308 h314 (tz_t77 b_r8)) ?_
                  refine ask_t (Pleq h314 (Zc 10000000) (tz_t78 b_r8)) ?_
                  refine ⟨fun g67 => ?_, fun g67 => ?_⟩
                  · have k67 : (0 : Int) ≤ 1000 * z37 + 1000 * z38 + (-2000) := Zleqt (Zc 0) h325 g67
                    clear g67
                    refine ⟨fun g68 => ?_, fun g68 => ?_⟩
                    · have k68 : ((-2) * m27 + (-2) * m31 + 40 * r10 + 40 * r12 + (-4) * r6 + 80 : Int) ≤ 8000 := Zleqt h163 (Zc 8000) g68
                      clear g68
                      exact rfl
                    · have k68 : ¬ (((-2) * m27 + (-2) * m31 + 40 * r10 + 40 * r12 + (-4) * r6 + 80 : Int) ≤ 8000) := Zleqf h163 (Zc 8000) g68
                      clear g68
                      exact tz_d0 b_m17 b_m20 b_m25 b_m26 b_m27 b_m29 b_m30 b_m31 b_m33 b_m35 b_q18 b_q21 b_r10 b_r12 b_r19 b_r2 b_r22 b_r4 b_r6 b_x10 b_x9 k45 f45r10 f45r12 k46 k48 f48r10 f48r12 k68 m27f1 m27f2 m27f3 m27f4 m31f1 m31f2 m31f3 m31f4 q18s q21s m25f1 m25f2 m25f3 m25f4 m26f1 m26f2 m26f3 m26f4 m33f1 m33f2 m33f3 m33f4 m29f1 m29f2 m29f3 m29f4 m30f1 m30f2 m30f3 m30f4 m35f1 m35f2 m35f3 m35f4 m17f1 m17f2 m17f3 m17f4 m20f1 m20f2 m20f3 m20f4
                  · have k67 : ¬ ((0 : Int) ≤ 1000 * z37 + 1000 * z38 + (-2000)) := Zleqf (Zc 0) h325 g67
                    clear g67
                    exact tz_d1 b_m17 b_m20 b_m25 b_m26 b_m27 b_m29 b_m30 b_m31 b_m33 b_m35 b_q18 b_q21 b_r10 b_r12 b_r19 b_r2 b_r22 b_r4 b_r6 b_x10 b_x9 b_z37 b_z38 k67 z37s z38s k45 f45r10 f45r12 k46 k48 f48r10 f48r12 m27f1 m27f2 m27f3 m27f4 m31f1 m31f2 m31f3 m31f4 q18s q21s m25f1 m25f2 m25f3 m25f4 m26f1 m26f2 m26f3 m26f4 m33f1 m33f2 m33f3 m33f4 m29f1 m29f2 m29f3 m29f4 m30f1 m30f2 m30f3 m30f4 m35f1 m35f2 m35f3 m35f4 m17f1 m17f2 m17f3 m17f4 m20f1 m20f2 m20f3 m20f4
                · have k48 : ¬ ((0 : Int) ≤ 2 * r6 + (-40)) := Zleqf (Zc 0) h114 g48
                  clear g48
                  refine ask_t (Pleq (Zc (-10000)) h116 (tz_t37 b_r6)) ?_
                  refine ask_t (Pleq h116 (Zc 10000) (tz_t38 b_r6)) ?_
                  refine ask_t (Pleq (Zc (-10000)) h118 (tz_t39 )) ?_
                  refine ask_t (Pleq h118 (Zc 10000) (tz_t40 )) ?_
                  refine ask_t (Pleq (Zc (-10000000)) h125 (tz_t41 b_r8 b_z37)) ?_
                  refine ask_t (Pleq h125 h134 (tz_t42 b_r8 b_z37 b_z38)) ?_
                  refine ask_t (Pleq h134 h211 (tz_t61 b_r8 b_z38 b_z37)) ?_
                  refine ask_t (Pleq h211 h219 (tz_t62 b_r8 b_z37 b_z38)) ?_
                  refine ask_t (Pleq h219 h292 (tz_t73 b_r8 b_z38 b_z37)) ?_
                  refine ask_t (Pleq h292 h300 (tz_t74 b_r8 b_z37 b_z38)) ?_
                  refine ask_t (Pleq h300 (Zc 10000000) (tz_t75 b_r8 b_z38)) ?_
                  refine ask_t (Pleq (Zc (-10000000)) h143 (tz_t44 b_r8)) ?_
                  refine ask_t (Pleq h143 h150 (tz_t45 b_r8)) ?_
                  refine ask_t (Pleq h150 h227 (tz_t64 b_r8)) ?_
                  refine ask_t (Pleq h227 h233 (tz_t65 b_r8)) ?_
                  refine ask_t (Pleq h233 h308 (tz_t76 b_r8)) ?_
                  refine ask_t (Pleq h308 h314 (tz_t77 b_r8)) ?_
                  refine ask_t (Pleq h314 (Zc 10000000) (tz_t78 b_r8)) ?_
                  refine ⟨fun g67 => ?_, fun g67 => ?_⟩
                  · have k67 : ((-2) * m27 + (-2) * m31 + 40 * r10 + 40 * r12 + (-4) * r6 + 80 : Int) ≤ 8000 := Zleqt h163 (Zc 8000) g67
                    clear g67
                    exact rfl
                  · have k67 : ¬ (((-2) * m27 + (-2) * m31 + 40 * r10 + 40 * r12 + (-4) * r6 + 80 : Int) ≤ 8000) := Zleqf h163 (Zc 8000) g67
                    clear g67
                    refine ⟨fun g68 => ?_, fun g68 => ?_⟩
                    · have k68 : (0 : Int) ≤ 1000 * z37 + 1000 * z38 + (-2000) := Zleqt (Zc 0) h325 g68
                      clear g68
                      exact tz_d2 b_m17 b_m20 b_m25 b_m26 b_m27 b_m29 b_m30 b_m31 b_m33 b_m35 b_q18 b_q21 b_r10 b_r12 b_r19 b_r2 b_r22 b_r4 b_r6 b_x10 b_x9 b_z37 b_z38 k68 z37s z38s k45 f45r10 f45r12 k46 k48 k67 m27f1 m27f2 m27f3 m27f4 m31f1 m31f2 m31f3 m31f4 q18s q21s m25f1 m25f2 m25f3 m25f4 m26f1 m26f2 m26f3 m26f4 m33f1 m33f2 m33f3 m33f4 m29f1 m29f2 m29f3 m29f4 m30f1 m30f2 m30f3 m30f4 m35f1 m35f2 m35f3 m35f4 m17f1 m17f2 m17f3 m17f4 m20f1 m20f2 m20f3 m20f4
                    · have k68 : ¬ ((0 : Int) ≤ 1000 * z37 + 1000 * z38 + (-2000)) := Zleqf (Zc 0) h325 g68
                      clear g68
                      exact rfl
              · have k47 : ¬ ((0 : Int) ≤ 1000 * z28 + 1000 * z32 + 1000 * z34 + 1000 * z36 + (-2000)) := Zleqf (Zc 0) h286 g47
                clear g47
                exact tz_d3 b_m17 b_m20 b_m25 b_m26 b_m27 b_m29 b_m30 b_m31 b_m33 b_m35 b_q18 b_q21 b_r10 b_r12 b_r19 b_r2 b_r22 b_r4 b_r6 b_x10 b_x9 b_z28 b_z32 b_z34 b_z36 k47 z28s z32s z34s z36s k45 f45r10 f45r12 k46 m25f1 m25f2 m25f3 m25f4 m26f1 m26f2 m26f3 m26f4 m27f1 m27f2 m27f3 m27f4 q18s m29f1 m29f2 m29f3 m29f4 m30f1 m30f2 m30f3 m30f4 m31f1 m31f2 m31f3 m31f4 m33f1 m33f2 m33f3 m33f4 q21s m35f1 m35f2 m35f3 m35f4 m17f1 m17f2 m17f3 m17f4 m20f1 m20f2 m20f3 m20f4
            · have k46 : ¬ ((q18 + (-1) * r2 + (-1) * r6 + 20 : Int) ≤ q21) := Zleqf h40 h50 g46
              clear g46
              exact tz_d4 b_m17 b_m20 b_q18 b_q21 b_r19 b_r2 b_r22 b_r4 b_r6 b_x10 b_x9 k45 k46 q18s q21s m17f1 m17f2 m17f3 m17f4 m20f1 m20f2 m20f3 m20f4
          · have k45 : ¬ ((0 : Int) ≤ (-2) * q18 + 2 * q21 + 2 * r2 + 2 * r6 + (-40)) := Zleqf (Zc 0) h94 g45
            clear g45
            refine ⟨fun g46 => ?_, fun g46 => ?_⟩
            · have k46 : (q18 + (-1) * r2 + (-1) * r6 + 20 : Int) ≤ q21 := Zleqt h40 h50 g46
              clear g46
              exact tz_d5 b_m17 b_m20 b_q18 b_q21 b_r19 b_r2 b_r22 b_r4 b_r6 b_x10 b_x9 k45 k46 q18s q21s m17f1 m17f2 m17f3 m17f4 m20f1 m20f2 m20f3 m20f4
            · have k46 : ¬ ((q18 + (-1) * r2 + (-1) * r6 + 20 : Int) ≤ q21) := Zleqf h40 h50 g46
              clear g46
              refine ⟨fun g47 => ?_, fun g47 => ?_⟩
              · have k47 : (0 : Int) ≤ 2 * r6 + (-40) := Zleqt (Zc 0) h114 g47
                clear g47
                exact tz_d6 b_m17 b_m20 b_q18 b_q21 b_r19 b_r2 b_r22 b_r4 b_r6 b_x10 b_x9 k45 k46 k47 q18s q21s m17f1 m17f2 m17f3 m17f4 m20f1 m20f2 m20f3 m20f4
              · have k47 : ¬ ((0 : Int) ≤ 2 * r6 + (-40)) := Zleqf (Zc 0) h114 g47
                clear g47
                refine ask_t (Pleq (Zc (-10000)) h116 (tz_t37 b_r6)) ?_
                refine ask_t (Pleq h116 (Zc 10000) (tz_t38 b_r6)) ?_
                refine ask_t (Pleq (Zc (-10000)) h118 (tz_t39 )) ?_
                refine ask_t (Pleq h118 (Zc 10000) (tz_t40 )) ?_
                refine ask_t (Pleq (Zc (-10000000)) h125 (tz_t41 b_r8 b_z37)) ?_
                refine ask_t (Pleq h125 h134 (tz_t42 b_r8 b_z37 b_z38)) ?_
                refine ask_t (Pleq h134 h211 (tz_t61 b_r8 b_z38 b_z37)) ?_
                refine ask_t (Pleq h211 h219 (tz_t62 b_r8 b_z37 b_z38)) ?_
                refine ask_t (Pleq h219 h292 (tz_t73 b_r8 b_z38 b_z37)) ?_
                refine ask_t (Pleq h292 h300 (tz_t74 b_r8 b_z37 b_z38)) ?_
                refine ask_t (Pleq h300 (Zc 10000000) (tz_t75 b_r8 b_z38)) ?_
                refine ask_t (Pleq (Zc (-10000000)) h143 (tz_t44 b_r8)) ?_
                refine ask_t (Pleq h143 h150 (tz_t45 b_r8)) ?_
                refine ask_t (Pleq h150 h227 (tz_t64 b_r8)) ?_
                refine ask_t (Pleq h227 h233 (tz_t65 b_r8)) ?_
                refine ask_t (Pleq h233 h308 (tz_t76 b_r8)) ?_
                refine ask_t (Pleq h308 h314 (tz_t77 b_r8)) ?_
                refine ask_t (Pleq h314 (Zc 10000000) (tz_t78 b_r8)) ?_
                refine ⟨fun g66 => ?_, fun g66 => ?_⟩
                · have k66 : ((-2) * m27 + (-2) * m31 + 40 * r10 + 40 * r12 + (-4) * r6 + 80 : Int) ≤ 8000 := Zleqt h163 (Zc 8000) g66
                  clear g66
                  exact rfl
                · have k66 : ¬ (((-2) * m27 + (-2) * m31 + 40 * r10 + 40 * r12 + (-4) * r6 + 80 : Int) ≤ 8000) := Zleqf h163 (Zc 8000) g66
                  clear g66
                  refine ⟨fun g67 => ?_, fun g67 => ?_⟩
                  · have k67 : (0 : Int) ≤ 1000 * z37 + 1000 * z38 + (-2000) := Zleqt (Zc 0) h325 g67
                    clear g67
                    exact tz_d7 b_m17 b_m20 b_m27 b_m31 b_q18 b_q21 b_r10 b_r12 b_r19 b_r2 b_r22 b_r4 b_r6 b_x10 b_x9 b_z37 b_z38 k67 z37s z38s k45 k46 k47 k66 m27f1 m27f2 m27f3 m27f4 m31f1 m31f2 m31f3 m31f4 q18s q21s m17f1 m17f2 m17f3 m17f4 m20f1 m20f2 m20f3 m20f4
                  · have k67 : ¬ ((0 : Int) ≤ 1000 * z37 + 1000 * z38 + (-2000)) := Zleqf (Zc 0) h325 g67
                    clear g67
                    exact rfl
        · have k30 : ¬ ((r16 + 1 : Int) ≤ 3) := Zleqf h30 (Zc 3) g30
          clear g30
          refine ⟨fun g31 => ?_, fun g31 => ?_⟩
          · have k31 : (r16 + 1 : Int) ≤ 4 := Zleqt h30 (Zc 4) g31
            clear g31
            refine ask_t (Pleq (Zc (-10000000)) h67 (tz_t27 b_r8 b_z28)) ?_
            refine ask_t (Pleq h67 h77 (tz_t28 b_r8 b_z28 b_z32)) ?_
            refine ask_t (Pleq h77 h171 (tz_t55 b_r8 b_z32 b_z28)) ?_
            refine ask_t (Pleq h171 h180 (tz_t56 b_r8 b_z28 b_z32)) ?_
            refine ask_t (Pleq h180 h252 (tz_t67 b_r8 b_z32 b_z28)) ?_
            refine ask_t (Pleq h252 h261 (tz_t68 b_r8 b_z28 b_z32)) ?_
            refine ask_t (Pleq h261 h333 (tz_t79 b_r8 b_z32 b_z28)) ?_
            refine ask_t (Pleq h333 h342 (tz_t80 b_r8 b_z28 b_z32)) ?_
            refine ask_t (Pleq h342 (Zc 10000000) (tz_t81 b_r8 b_z32)) ?_
            refine ask_t (Pleq (Zc (-10000000)) h86 (tz_t30 b_r8 b_z34)) ?_
            refine ask_t (Pleq h86 h93 (tz_t31 b_r8 b_z34 b_z36)) ?_
            refine ask_t (Pleq h93 h188 (tz_t58 b_r8 b_z36 b_z34)) ?_
            refine ask_t (Pleq h188 h194 (tz_t59 b_r8 b_z34 b_z36)) ?_
            refine ask_t (Pleq h194 h269 (tz_t70 b_r8 b_z36 b_z34)) ?_
            refine ask_t (Pleq h269 h275 (tz_t71 b_r8 b_z34 b_z36)) ?_
            refine ask_t (Pleq h275 h350 (tz_t82 b_r8 b_z36 b_z34)) ?_
            refine ask_t (Pleq h350 h356 (tz_t83 b_r8 b_z34 b_z36)) ?_
            refine ask_t (Pleq h356 (Zc 10000000) (tz_t84 b_r8 b_z36)) ?_
            refine ⟨fun g50 => ?_, fun g50 => ?_⟩
            · have k50 : (0 : Int) ≤ (-2) * q18 + 2 * q21 + 2 * r2 + 2 * r6 + (-40) := Zleqt (Zc 0) h94 g50
              clear g50
              have f50r10 := tz_f33 b_q18 b_q21 b_r2 b_r6 b_r10 b_m25 b_m26 b_m27 b_m33 k50 m25e m33e m26e m27e
              have f50r12 := tz_f34 b_q18 b_q21 b_r2 b_r6 b_r12 b_m29 b_m30 b_m31 b_m35 k50 m29e m35e m30e m31e
              refine ⟨fun g51 => ?_, fun g51 => ?_⟩
              · have k51 : (q18 + (-1) * r2 + (-1) * r6 + 20 : Int) ≤ q21 := Zleqt h40 h50 g51
                clear g51
                refine ⟨fun g52 => ?_, fun g52 => ?_⟩
                · have k52 : (0 : Int) ≤ 1000 * z28 + 1000 * z32 + 1000 * z34 + 1000 * z36 + (-2000) := Zleqt (Zc 0) h367 g52
                  clear g52
                  refine ⟨fun g53 => ?_, fun g53 => ?_⟩
                  · have k53 : (0 : Int) ≤ 2 * r6 + (-40) := Zleqt (Zc 0) h114 g53
                    clear g53
                    have f53r10 := tz_f35 b_r6 b_r10 b_m27 k53 m27e
                    have f53r12 := tz_f36 b_r6 b_r12 b_m31 k53 m31e
                    refine ask_t (Pleq (Zc (-10000)) h116 (tz_t37 b_r6)) ?_
                    refine ask_t (Pleq h116 (Zc 10000) (tz_t38 b_r6)) ?_
                    refine ask_t (Pleq (Zc (-10000)) h118 (tz_t39 )) ?_
                    refine ask_t (Pleq h118 (Zc 10000) (tz_t40 )) ?_
                    refine ask_t (Pleq (Zc (-10000000)) h125 (tz_t41 b_r8 b_z37)) ?_
                    refine ask_t (Pleq h125 h134 (tz_t42 b_r8 b_z37 b_z38)) ?_
                    refine ask_t (Pleq h134 h211 (tz_t61 b_r8 b_z38 b_z37)) ?_
                    refine ask_t (Pleq h211 h219 (tz_t62 b_r8 b_z37 b_z38)) ?_
                    refine ask_t (Pleq h219 h292 (tz_t73 b_r8 b_z38 b_z37)) ?_
                    refine ask_t (Pleq h292 h300 (tz_t74 b_r8 b_z37 b_z38)) ?_
                    refine ask_t (Pleq h300 h373 (tz_t85 b_r8 b_z38 b_z37)) ?_
                    refine ask_t (Pleq h373 h381 (tz_t86 b_r8 b_z37 b_z38)) ?_
                    refine ask_t (Pleq h381 (Zc 10000000) (tz_t87 b_r8 b_z38)) ?_
                    refine ask_t (Pleq (Zc (-10000000)) h143 (tz_t44 b_r8)) ?_
                    refine ask_t (Pleq h143 h150 (tz_t45 b_r8)) ?_
                    refine ask_t (Pleq h150 h227 (tz_t64 b_r8)) ?_
                    refine ask_t (Pleq h227 h233 (tz_t65 b_r8)) ?_
                    refine ask_t (Pleq h233 h308 (tz_t76 b_r8)) ?_
                    refine ask_t (Pleq h308 h314 (tz_t77 b_r8)) ?_
                    refine ask_t (Pleq h314 h389 (tz_t88 b_r8)) ?_
                    refine ask_t (Pleq h389 h395 (tz_t89 b_r8)) ?_
                    refine ask_t (Pleq h395 (Zc 10000000) (tz_t90 b_r8)) ?_
                    refine ⟨fun g76 => ?_, fun g76 => ?_⟩
                    · have k76 : (0 : Int) ≤ 1000 * z37 + 1000 * z38 + (-2000) := Zleqt (Zc 0) h406 g76
                      clear g76
                      refine ⟨fun g77 => ?_, fun g77 => ?_⟩
                      · have k77 : ((-2) * m27 + (-2) * m31 + 40 * r10 + 40 * r12 + (-4) * r6 + 80 : Int) ≤ 8000 := Zleqt h163 (Zc 8000) g77
                        clear g77
                        exact rfl
                      · have k77 : ¬ (((-2) * m27 + (-2) * m31 + 40 * r10 + 40 * r12 + (-4) * r6 + 80 : Int) ≤ 8000) := Zleqf h163 (Zc 8000) g77
                        clear g77
                        exact tz_d0 b_m17 b_m20 b_m25 b_m26 b_m27 b_m29 b_m30 b_m31 b_m33 b_m35 b_q18 b_q21 b_r10 b_r12 b_r19 b_r2 b_r22 b_r4 b_r6 b_x10 b_x9 k50 f50r10 f50r12 k51 k53 f53r10 f53r12 k77 m27f1 m27f2 m27f3 m27f4 m31f1 m31f2 m31f3 m31f4 q18s q21s m25f1 m25f2 m25f3 m25f4 m26f1 m26f2 m26f3 m26f4 m33f1 m33f2 m33f3 m33f4 m29f1 m29f2 m29f3 m29f4 m30f1 m30f2 m30f3 m30f4 m35f1 m35f2 m35f3 m35f4 m17f1 m17f2 m17f3 m17f4 m20f1 m20f2 m20f3 m20f4
                    · have k76 : ¬ ((0 : Int) ≤ 1000 * z37 + 1000 * z38 + (-2000)) := Zleqf (Zc 0) h406 g76
                      clear g76
                      exact tz_d1 b_m17 b_m20 b_m25 b_m26 b_m27 b_m29 b_m30 b_m31 b_m33 b_m35 b_q18 b_q21 b_r10 b_r12 b_r19 b_r2 b_r22 b_r4 b_r6 b_x10 b_x9 b_z37 b_z38 k76 z37s z38s k50 f50r10 f50r12 k51 k53 f53r10 f53r12 m27f1 m27f2 m27f3 m27f4 m31f1 m31f2 m31f3 m31f4 q18s q21s m25f1 m25f2 m25f3 m25f4 m26f1 m26f2 m26f3 m26f4 m33f1 m33f2 m33f3 m33f4 m29f1 m29f2 m29f3 m29f4 m30f1 m30f2 m30f3 m30f4 m35f1 m35f2 m35f3 m35f4 m17f1 m17f2 m17f3 m17f4 m20f1 m20f2 m20f3 m20f4
                  · have k53 : ¬ ((0 : Int) ≤ 2 * r6 + (-40)) := Zleqf (Zc 0) h114 g53
                    clear g53
                    refine ask_t (Pleq (Zc (-10000)) h116 (tz_t37 b_r6)) ?_
                    refine ask_t (Pleq h116 (Zc 10000) (tz_t38 b_r6)) ?_
                    refine ask_t (Pleq (Zc (-10000)) h118 (tz_t39 )) ?_
                    refine ask_t (Pleq h118 (Zc 10000) (tz_t40 )) ?_
                    refine ask_t (Pleq (Zc (-10000000)) h125 (tz_t41 b_r8 b_z37)) ?_
                    refine ask_t (Pleq h125 h134 (tz_t42 b_r8 b_z37 b_z38)) ?_
                    refine ask_t (Pleq h134 h211 (tz_t61 b_r8 b_z38 b_z37)) ?_
                    refine ask_t (Pleq h211 h219 (tz_t62 b_r8 b_z37 b_z38)) ?_
                    refine ask_t (Pleq h219 h292 (tz_t73 b_r8 b_z38 b_z37)) ?_
                    refine ask_t (Pleq h292 h300 (tz_t74 b_r8 b_z37 b_z38)) ?_
                    refine ask_t (Pleq h300 h373 (tz_t85 b_r8 b_z38 b_z37)) ?_
                    refine ask_t (Pleq h373 h381 (tz_t86 b_r8 b_z37 b_z38)) ?_
                    refine ask_t (Pleq h381 (Zc 10000000) (tz_t87 b_r8 b_z38)) ?_
                    refine ask_t (Pleq (Zc (-10000000)) h143 (tz_t44 b_r8)) ?_
                    refine ask_t (Pleq h143 h150 (tz_t45 b_r8)) ?_
                    refine ask_t (Pleq h150 h227 (tz_t64 b_r8)) ?_
                    refine ask_t (Pleq h227 h233 (tz_t65 b_r8)) ?_
                    refine ask_t (Pleq h233 h308 (tz_t76 b_r8)) ?_
                    refine ask_t (Pleq h308 h314 (tz_t77 b_r8)) ?_
                    refine ask_t (Pleq h314 h389 (tz_t88 b_r8)) ?_
                    refine ask_t (Pleq h389 h395 (tz_t89 b_r8)) ?_
                    refine ask_t (Pleq h395 (Zc 10000000) (tz_t90 b_r8)) ?_
                    refine ⟨fun g76 => ?_, fun g76 => ?_⟩
                    · have k76 : ((-2) * m27 + (-2) * m31 + 40 * r10 + 40 * r12 + (-4) * r6 + 80 : Int) ≤ 8000 := Zleqt h163 (Zc 8000) g76
                      clear g76
                      exact rfl
                    · have k76 : ¬ (((-2) * m27 + (-2) * m31 + 40 * r10 + 40 * r12 + (-4) * r6 + 80 : Int) ≤ 8000) := Zleqf h163 (Zc 8000) g76
                      clear g76
                      refine ⟨fun g77 => ?_, fun g77 => ?_⟩
                      · have k77 : (0 : Int) ≤ 1000 * z37 + 1000 * z38 + (-2000) := Zleqt (Zc 0) h406 g77
                        clear g77
                        exact tz_d2 b_m17 b_m20 b_m25 b_m26 b_m27 b_m29 b_m30 b_m31 b_m33 b_m35 b_q18 b_q21 b_r10 b_r12 b_r19 b_r2 b_r22 b_r4 b_r6 b_x10 b_x9 b_z37 b_z38 k77 z37s z38s k50 f50r10 f50r12 k51 k53 k76 m27f1 m27f2 m27f3 m27f4 m31f1 m31f2 m31f3 m31f4 q18s q21s m25f1 m25f2 m25f3 m25f4 m26f1 m26f2 m26f3 m26f4 m33f1 m33f2 m33f3 m33f4 m29f1 m29f2 m29f3 m29f4 m30f1 m30f2 m30f3 m30f4 m35f1 m35f2 m35f3 m35f4 m17f1 m17f2 m17f3 m17f4 m20f1 m20f2 m20f3 m20f4
                      · have k77 : ¬ ((0 : Int) ≤ 1000 * z37 + 1000 * z38 + (-2000)) := Zleqf (Zc 0) h406 g77
                        clear g77
                        exact rfl
                · have k52 : ¬ ((0 : Int) ≤ 1000 * z28 + 1000 * z32 + 1000 * z34 + 1000 * z36 + (-2000)) := Zleqf (Zc 0) h367 g52
                  clear g52
                  exact tz_d3 b_m17 b_m20 b_m25 b_m26 b_m27 b_m29 b_m30 b_m31 b_m33 b_m35 b_q18 b_q21 b_r10 b_r12 b_r19 b_r2 b_r22 b_r4 b_r6 b_x10 b_x9 b_z28 b_z32 b_z34 b_z36 k52 z28s z32s z34s z36s k50 f50r10 f50r12 k51 m25f1 m25f2 m25f3 m25f4 m26f1 m26f2 m26f3 m26f4 m27f1 m27f2 m27f3 m27f4 q18s m29f1 m29f2 m29f3 m29f4 m30f1 m30f2 m30f3 m30f4 m31f1 m31f2 m31f3 m31f4 m33f1 m33f2 m33f3 m33f4 q21s m35f1 m35f2 m35f3 m35f4 m17f1 m17f2 m17f3 m17f4 m20f1 m20f2 m20f3 m20f4
              · have k51 : ¬ ((q18 + (-1) * r2 + (-1) * r6 + 20 : Int) ≤ q21) := Zleqf h40 h50 g51
                clear g51
                exact tz_d4 b_m17 b_m20 b_q18 b_q21 b_r19 b_r2 b_r22 b_r4 b_r6 b_x10 b_x9 k50 k51 q18s q21s m17f1 m17f2 m17f3 m17f4 m20f1 m20f2 m20f3 m20f4
            · have k50 : ¬ ((0 : Int) ≤ (-2) * q18 + 2 * q21 + 2 * r2 + 2 * r6 + (-40)) := Zleqf (Zc 0) h94 g50
              clear g50
              refine ⟨fun g51 => ?_, fun g51 => ?_⟩
              · have k51 : (q18 + (-1) * r2 + (-1) * r6 + 20 : Int) ≤ q21 := Zleqt h40 h50 g51
                clear g51
                exact tz_d5 b_m17 b_m20 b_q18 b_q21 b_r19 b_r2 b_r22 b_r4 b_r6 b_x10 b_x9 k50 k51 q18s q21s m17f1 m17f2 m17f3 m17f4 m20f1 m20f2 m20f3 m20f4
              · have k51 : ¬ ((q18 + (-1) * r2 + (-1) * r6 + 20 : Int) ≤ q21) := Zleqf h40 h50 g51
                clear g51
                refine ⟨fun g52 => ?_, fun g52 => ?_⟩
                · have k52 : (0 : Int) ≤ 2 * r6 + (-40) := Zleqt (Zc 0) h114 g52
                  clear g52
                  exact tz_d6 b_m17 b_m20 b_q18 b_q21 b_r19 b_r2 b_r22 b_r4 b_r6 b_x10 b_x9 k50 k51 k52 q18s q21s m17f1 m17f2 m17f3 m17f4 m20f1 m20f2 m20f3 m20f4
                · have k52 : ¬ ((0 : Int) ≤ 2 * r6 + (-40)) := Zleqf (Zc 0) h114 g52
                  clear g52
                  refine ask_t (Pleq (Zc (-10000)) h116 (tz_t37 b_r6)) ?_
                  refine ask_t (Pleq h116 (Zc 10000) (tz_t38 b_r6)) ?_
                  refine ask_t (Pleq (Zc (-10000)) h118 (tz_t39 )) ?_
                  refine ask_t (Pleq h118 (Zc 10000) (tz_t40 )) ?_
                  refine ask_t (Pleq (Zc (-10000000)) h125 (tz_t41 b_r8 b_z37)) ?_
                  refine ask_t (Pleq h125 h134 (tz_t42 b_r8 b_z37 b_z38)) ?_
                  refine ask_t (Pleq h134 h211 (tz_t61 b_r8 b_z38 b_z37)) ?_
                  refine ask_t (Pleq h211 h219 (tz_t62 b_r8 b_z37 b_z38)) ?_
                  refine ask_t (Pleq h219 h292 (tz_t73 b_r8 b_z38 b_z37)) ?_
                  refine ask_t (Pleq h292 h300 (tz_t74 b_r8 b_z37 b_z38)) ?_
                  refine ask_t (Pleq h300 h373 (tz_t85 b_r8 b_z38 b_z37)) ?_
                  refine ask_t (Pleq h373 h381 (tz_t86 b_r8 b_z37 b_z38)) ?_
                  refine ask_t (Pleq h381 (Zc 10000000) (tz_t87 b_r8 b_z38)) ?_
                  refine ask_t (Pleq (Zc (-10000000)) h143 (tz_t44 b_r8)) ?_
                  refine ask_t (Pleq h143 h150 (tz_t45 b_r8)) ?_
                  refine ask_t (Pleq h150 h227 (tz_t64 b_r8)) ?_
                  refine ask_t (Pleq h227 h233 (tz_t65 b_r8)) ?_
                  refine ask_t (Pleq h233 h308 (tz_t76 b_r8)) ?_
                  refine ask_t (Pleq h308 h314 (tz_t77 b_r8)) ?_
                  refine ask_t (Pleq h314 h389 (tz_t88 b_r8)) ?_
                  refine ask_t (Pleq h389 h395 (tz_t89 b_r8)) ?_
                  refine ask_t (Pleq h395 (Zc 10000000) (tz_t90 b_r8)) ?_
                  refine ⟨fun g75 => ?_, fun g75 => ?_⟩
                  · have k75 : ((-2) * m27 + (-2) * m31 + 40 * r10 + 40 * r12 + (-4) * r6 + 80 : Int) ≤ 8000 := Zleqt h163 (Zc 8000) g75
                    clear g75
                    exact rfl
                  · have k75 : ¬ (((-2) * m27 + (-2) * m31 + 40 * r10 + 40 * r12 + (-4) * r6 + 80 : Int) ≤ 8000) := Zleqf h163 (Zc 8000) g75
                    clear g75
                    refine ⟨fun g76 => ?_, fun g76 => ?_⟩
                    · have k76 : (0 : Int) ≤ 1000 * z37 + 1000 * z38 + (-2000) := Zleqt (Zc 0) h406 g76
                      clear g76
                      exact tz_d7 b_m17 b_m20 b_m27 b_m31 b_q18 b_q21 b_r10 b_r12 b_r19 b_r2 b_r22 b_r4 b_r6 b_x10 b_x9 b_z37 b_z38 k76 z37s z38s k50 k51 k52 k75 m27f1 m27f2 m27f3 m27f4 m31f1 m31f2 m31f3 m31f4 q18s q21s m17f1 m17f2 m17f3 m17f4 m20f1 m20f2 m20f3 m20f4
                    · have k76 : ¬ ((0 : Int) ≤ 1000 * z37 + 1000 * z38 + (-2000)) := Zleqf (Zc 0) h406 g76
                      clear g76
                      exact rfl
          · have k31 : ¬ ((r16 + 1 : Int) ≤ 4) := Zleqf h30 (Zc 4) g31
            clear g31
            refine ask_t (Pleq h30 (Zc 5) (tz_t91 b_r16)) ?_
            refine ask_t (Pleq (Zc (-10000000)) h67 (tz_t27 b_r8 b_z28)) ?_
            refine ask_t (Pleq h67 h77 (tz_t28 b_r8 b_z28 b_z32)) ?_
            refine ask_t (Pleq h77 h171 (tz_t55 b_r8 b_z32 b_z28)) ?_
            refine ask_t (Pleq h171 h180 (tz_t56 b_r8 b_z28 b_z32)) ?_
            refine ask_t (Pleq h180 h252 (tz_t67 b_r8 b_z32 b_z28)) ?_
            refine ask_t (Pleq h252 h261 (tz_t68 b_r8 b_z28 b_z32)) ?_
            refine ask_t (Pleq h261 h333 (tz_t79 b_r8 b_z32 b_z28)) ?_
            refine ask_t (Pleq h333 h342 (tz_t80 b_r8 b_z28 b_z32)) ?_
            refine ask_t (Pleq h342 h414 (tz_t92 b_r8 b_z32 b_z28)) ?_
            refine ask_t (Pleq h414 h423 (tz_t93 b_r8 b_z28 b_z32)) ?_
            refine ask_t (Pleq h423 (Zc 10000000) (tz_t94 b_r8 b_z32)) ?_
            refine ask_t (Pleq (Zc (-10000000)) h86 (tz_t30 b_r8 b_z34)) ?_
            refine ask_t (Pleq h86 h93 (tz_t31 b_r8 b_z34 b_z36)) ?_
            refine ask_t (Pleq h93 h188 (tz_t58 b_r8 b_z36 b_z34)) ?_
            refine ask_t (Pleq h188 h194 (tz_t59 b_r8 b_z34 b_z36)) ?_
            refine ask_t (Pleq h194 h269 (tz_t70 b_r8 b_z36 b_z34)) ?_
            refine ask_t (Pleq h269 h275 (tz_t71 b_r8 b_z34 b_z36)) ?_
            refine ask_t (Pleq h275 h350 (tz_t82 b_r8 b_z36 b_z34)) ?_
            refine ask_t (Pleq h350 h356 (tz_t83 b_r8 b_z34 b_z36)) ?_
            refine ask_t (Pleq h356 h431 (tz_t95 b_r8 b_z36 b_z34)) ?_
            refine ask_t (Pleq h431 h437 (tz_t96 b_r8 b_z34 b_z36)) ?_
            refine ask_t (Pleq h437 (Zc 10000000) (tz_t97 b_r8 b_z36)) ?_
            refine ⟨fun g55 => ?_, fun g55 => ?_⟩
            · have k55 : (0 : Int) ≤ (-2) * q18 + 2 * q21 + 2 * r2 + 2 * r6 + (-40) := Zleqt (Zc 0) h94 g55
              clear g55
              have f55r10 := tz_f33 b_q18 b_q21 b_r2 b_r6 b_r10 b_m25 b_m26 b_m27 b_m33 k55 m25e m33e m26e m27e
              have f55r12 := tz_f34 b_q18 b_q21 b_r2 b_r6 b_r12 b_m29 b_m30 b_m31 b_m35 k55 m29e m35e m30e m31e
              refine ⟨fun g56 => ?_, fun g56 => ?_⟩
              · have k56 : (q18 + (-1) * r2 + (-1) * r6 + 20 : Int) ≤ q21 := Zleqt h40 h50 g56
                clear g56
                refine ⟨fun g57 => ?_, fun g57 => ?_⟩
                · have k57 : (0 : Int) ≤ 1000 * z28 + 1000 * z32 + 1000 * z34 + 1000 * z36 + (-2000) := Zleqt (Zc 0) h448 g57
                  clear g57
                  refine ⟨fun g58 => ?_, fun g58 => ?_⟩
                  · have k58 : (0 : Int) ≤ 2 * r6 + (-40) := Zleqt (Zc 0) h114 g58
                    clear g58
                    have f58r10 := tz_f35 b_r6 b_r10 b_m27 k58 m27e
                    have f58r12 := tz_f36 b_r6 b_r12 b_m31 k58 m31e
                    refine ask_t (Pleq (Zc (-10000)) h116 (tz_t37 b_r6)) ?_
                    refine ask_t (Pleq h116 (Zc 10000) (tz_t38 b_r6)) ?_
                    refine ask_t (Pleq (Zc (-10000)) h118 (tz_t39 )) ?_
                    refine ask_t (Pleq h118 (Zc 10000) (tz_t40 )) ?_
                    refine ask_t (Pleq (Zc (-10000000)) h125 (tz_t41 b_r8 b_z37)) ?_
                    refine ask_t (Pleq h125 h134 (tz_t42 b_r8 b_z37 b_z38)) ?_
                    refine ask_t (Pleq h134 h211 (tz_t61 b_r8 b_z38 b_z37)) ?_
                    refine ask_t (Pleq h211 h219 (tz_t62 b_r8 b_z37 b_z38)) ?_
                    refine ask_t (Pleq h219 h292 (tz_t73 b_r8 b_z38 b_z37)) ?_
                    refine ask_t (Pleq h292 h300 (tz_t74 b_r8 b_z37 b_z38)) ?_
                    refine ask_t (Pleq h300 h373 (tz_t85 b_r8 b_z38 b_z37)) ?_
                    refine ask_t (Pleq h373 h381 (tz_t86 b_r8 b_z37 b_z38)) ?_
                    refine ask_t (Pleq h381 h454 (tz_t98 b_r8 b_z38 b_z37)) ?_
                    refine ask_t (Pleq h454 h462 (tz_t99 b_r8 b_z37 b_z38)) ?_
                    refine ask_t (Pleq h462 (Zc 10000000) (tz_t100 b_r8 b_z38)) ?_
                    refine ask_t (Pleq (Zc (-10000000)) h143 (tz_t44 b_r8)) ?_
                    refine ask_t (Pleq h143 h150 (tz_t45 b_r8)) ?_
                    refine ask_t (Pleq h150 h227 (tz_t64 b_r8)) ?_
                    refine ask_t (Pleq h227 h233 (tz_t65 b_r8)) ?_
                    refine ask_t (Pleq h233 h308 (tz_t76 b_r8)) ?_
                    refine ask_t (Pleq h308 h314 (tz_t77 b_r8)) ?_
                    refine ask_t (Pleq h314 h389 (tz_t88 b_r8)) ?_
                    refine ask_t (Pleq h389 h395 (tz_t89 b_r8)) ?_
                    refine ask_t (Pleq h395 h470 (tz_t101 b_r8)) ?_
                    refine ask_t (Pleq h470 h476 (tz_t102 b_r8)) ?_
                    refine ask_t (Pleq h476 (Zc 10000000) (tz_t103 b_r8)) ?_
                    refine ⟨fun g85 => ?_, fun g85 => ?_⟩
                    · have k85 : (0 : Int) ≤ 1000 * z37 + 1000 * z38 + (-2000) := Zleqt (Zc 0) h487 g85
                      clear g85
                      refine ⟨fun g86 => ?_, fun g86 => ?_⟩
                      · have k86 : ((-2) * m27 + (-2) * m31 + 40 * r10 + 40 * r12 + (-4) * r6 + 80 : Int) ≤ 8000 := Zleqt h163 (Zc 8000) g86
                        clear g86
                        exact rfl
                      · have k86 : ¬ (((-2) * m27 + (-2) * m31 + 40 * r10 + 40 * r12 + (-4) * r6 + 80 : Int) ≤ 8000) := Zleqf h163 (Zc 8000) g86
                        clear g86
                        exact tz_d0 b_m17 b_m20 b_m25 b_m26 b_m27 b_m29 b_m30 b_m31 b_m33 b_m35 b_q18 b_q21 b_r10 b_r12 b_r19 b_r2 b_r22 b_r4 b_r6 b_x10 b_x9 k55 f55r10 f55r12 k56 k58 f58r10 f58r12 k86 m27f1 m27f2 m27f3 m27f4 m31f1 m31f2 m31f3 m31f4 q18s q21s m25f1 m25f2 m25f3 m25f4 m26f1 m26f2 m26f3 m26f4 m33f1 m33f2 m33f3 m33f4 m29f1 m29f2 m29f3 m29f4 m30f1 m30f2 m30f3 m30f4 m35f1 m35f2 m35f3 m35f4 m17f1 m17f2 m17f3 m17f4 m20f1 m20f2 m20f3 m20f4
                    · have k85 : ¬ ((0 : Int) ≤ 1000 * z37 + 1000 * z38 + (-2000)) := Zleqf (Zc 0) h487 g85
                      clear g85
                      exact tz_d1 b_m17 b_m20 b_m25 b_m26 b_m27 b_m29 b_m30 b_m31 b_m33 b_m35 b_q18 b_q21 b_r10 b_r12 b_r19 b_r2 b_r22 b_r4 b_r6 b_x10 b_x9 b_z37 b_z38 k85 z37s z38s k55 f55r10 f55r12 k56 k58 f58r10 f58r12 m27f1 m27f2 m27f3 m27f4 m31f1 m31f2 m31f3 m31f4 q18s q21s m25f1 m25f2 m25f3 m25f4 m26f1 m26f2 m26f3 m26f4 m33f1 m33f2 m33f3 m33f4 m29f1 m29f2 m29f3 m29f4 m30f1 m30f2 m30f3 m30f4 m35f1 m35f2 m35f3 m35f4 m17f1 m17f2 m17f3 m17f4 m20f1 m20f2 m20f3 m20f4
                  · have k58 : ¬ ((0 : Int) ≤ 2 * r6 + (-40)) := Zleqf (Zc 0) h114 g58
                    clear g58
                    refine ask_t (Pleq (Zc (-10000)) h116 (tz_t37 b_r6)) ?_
                    refine ask_t (Pleq h116 (Zc 10000) (tz_t38 b_r6)) ?_
                    refine ask_t (Pleq (Zc (-10000)) h118 (tz_t39 )) ?_
                    refine ask_t (Pleq h118 (Zc 10000) (tz_t40 )) ?_
                    refine ask_t (Pleq (Zc (-10000000)) h125 (tz_t41 b_r8 b_z37)) ?_
                    refine ask_t (Pleq h125 h134 (tz_t42 b_r8 b_z37 b_z38)) ?_
                    refine ask_t (Pleq h134 h211 (tz_t61 b_r8 b_z38 b_z37)) ?_
                    refine ask_t (Pleq h211 h219 (tz_t62 b_r8 b_z37 b_z38)) ?_
                    refine ask_t (Pleq h219 h292 (tz_t73 b_r8 b_z38 b_z37)) ?_
                    refine ask_t (Pleq h292 h300 (tz_t74 b_r8 b_z37 b_z38)) ?_
                    refine ask_t (Pleq h300 h373 (tz_t85 b_r8 b_z38 b_z37)) ?_
                    refine ask_t (Pleq h373 h381 (tz_t86 b_r8 b_z37 b_z38)) ?_
                    refine ask_t (Pleq h381 h454 (tz_t98 b_r8 b_z38 b_z37)) ?_
                    refine ask_t (Pleq h454 h462 (tz_t99 b_r8 b_z37 b_z38)) ?_
                    refine ask_t (Pleq h462 (Zc 10000000) (tz_t100 b_r8 b_z38)) ?_
                    refine ask_t (Pleq (Zc (-10000000)) h143 (tz_t44 b_r8)) ?_
                    refine ask_t (Pleq h143 h150 (tz_t45 b_r8)) ?_
                    refine ask_t (Pleq h150 h227 (tz_t64 b_r8)) ?_
                    refine ask_t (Pleq h227 h233 (tz_t65 b_r8)) ?_
                    refine ask_t (Pleq h233 h308 (tz_t76 b_r8)) ?_
                    refine ask_t (Pleq h308 h314 (tz_t77 b_r8)) ?_
                    refine ask_t (Pleq h314 h389 (tz_t88 b_r8)) ?_
                    refine ask_t (Pleq h389 h395 (tz_t89 b_r8)) ?_
                    refine ask_t (Pleq h395 h470 (tz_t101 b_r8)) ?_
                    refine ask_t (Pleq h470 h476 (tz_t102 b_r8)) ?_
                    refine ask_t (Pleq h476 (Zc 10000000) (tz_t103 b_r8)) ?_
                    refine ⟨fun g85 => ?_, fun g85 => ?_⟩
                    · have k85 : ((-2) * m27 + (-2) * m31 + 40 * r10 + 40 * r12 + (-4) * r6 + 80 : Int) ≤ 8000 := Zleqt h163 (Zc 8000) g85
                      clear g85
                      exact rfl
                    · have k85 : ¬ (((-2) * m27 + (-2) * m31 + 40 * r10 + 40 * r12 + (-4) * r6 + 80 : Int) ≤ 8000) := Zleqf h163 (Zc 8000) g85
                      clear g85
                      refine ⟨fun g86 => ?_, fun g86 => ?_⟩
                      · have k86 : (0 : Int) ≤ 1000 * z37 + 1000 * z38 + (-2000) := Zleqt (Zc 0) h487 g86
                        clear g86
                        exact tz_d2 b_m17 b_m20 b_m25 b_m26 b_m27 b_m29 b_m30 b_m31 b_m33 b_m35 b_q18 b_q21 b_r10 b_r12 b_r19 b_r2 b_r22 b_r4 b_r6 b_x10 b_x9 b_z37 b_z38 k86 z37s z38s k55 f55r10 f55r12 k56 k58 k85 m27f1 m27f2 m27f3 m27f4 m31f1 m31f2 m31f3 m31f4 q18s q21s m25f1 m25f2 m25f3 m25f4 m26f1 m26f2 m26f3 m26f4 m33f1 m33f2 m33f3 m33f4 m29f1 m29f2 m29f3 m29f4 m30f1 m30f2 m30f3 m30f4 m35f1 m35f2 m35f3 m35f4 m17f1 m17f2 m17f3 m17f4 m20f1 m20f2 m20f3 m20f4
                      · have k86 : ¬ ((0 : Int) ≤ 1000 * z37 + 1000 * z38 + (-2000)) := Zleqf (Zc 0) h487 g86
                        clear g86
                        exact rfl
                · have k57 : ¬ ((0 : Int) ≤ 1000 * z28 + 1000 * z32 + 1000 * z34 + 1000 * z36 + (-2000)) := Zleqf (Zc 0) h448 g57
                  clear g57
                  exact tz_d3 b_m17 b_m20 b_m25 b_m26 b_m27 b_m29 b_m30 b_m31 b_m33 b_m35 b_q18 b_q21 b_r10 b_r12 b_r19 b_r2 b_r22 b_r4 b_r6 b_x10 b_x9 b_z28 b_z32 b_z34 b_z36 k57 z28s z32s z34s z36s k55 f55r10 f55r12 k56 m25f1 m25f2 m25f3 m25f4 m26f1 m26f2 m26f3 m26f4 m27f1 m27f2 m27f3 m27f4 q18s m29f1 m29f2 m29f3 m29f4 m30f1 m30f2 m30f3 m30f4 m31f1 m31f2 m31f3 m31f4 m33f1 m33f2 m33f3 m33f4 q21s m35f1 m35f2 m35f3 m35f4 m17f1 m17f2 m17f3 m17f4 m20f1 m20f2 m20f3 m20f4
              · have k56 : ¬ ((q18 + (-1) * r2 + (-1) * r6 + 20 : Int) ≤ q21) := Zleqf h40 h50 g56
                clear g56
                exact tz_d4 b_m17 b_m20 b_q18 b_q21 b_r19 b_r2 b_r22 b_r4 b_r6 b_x10 b_x9 k55 k56 q18s q21s m17f1 m17f2 m17f3 m17f4 m20f1 m20f2 m20f3 m20f4
            · have k55 : ¬ ((0 : Int) ≤ (-2) * q18 + 2 * q21 + 2 * r2 + 2 * r6 + (-40)) := Zleqf (Zc 0) h94 g55
              clear g55
              refine ⟨fun g56 => ?_, fun g56 => ?_⟩
              · have k56 : (q18 + (-1) * r2 + (-1) * r6 + 20 : Int) ≤ q21 := Zleqt h40 h50 g56
                clear g56
                exact tz_d5 b_m17 b_m20 b_q18 b_q21 b_r19 b_r2 b_r22 b_r4 b_r6 b_x10 b_x9 k55 k56 q18s q21s m17f1 m17f2 m17f3 m17f4 m20f1 m20f2 m20f3 m20f4
              · have k56 : ¬ ((q18 + (-1) * r2 + (-1) * r6 + 20 : Int) ≤ q21) := Zleqf h40 h50 g56
                clear g56
                refine ⟨fun g57 => ?_, fun g57 => ?_⟩
                · have k57 : (0 : Int) ≤ 2 * r6 + (-40) := Zleqt (Zc 0) h114 g57
                  clear g57
                  exact tz_d6 b_m17 b_m20 b_q18 b_q21 b_r19 b_r2 b_r22 b_r4 b_r6 b_x10 b_x9 k55 k56 k57 q18s q21s m17f1 m17f2 m17f3 m17f4 m20f1 m20f2 m20f3 m20f4
                · have k57 : ¬ ((0 : Int) ≤ 2 * r6 + (-40)) := Zleqf (Zc 0) h114 g57
                  clear g57
                  refine ask_t (Pleq (Zc (-10000)) h116 (tz_t37 b_r6)) ?_
                  refine ask_t (Pleq h116 (Zc 10000) (tz_t38 b_r6)) ?_
                  refine ask_t (Pleq (Zc (-10000)) h118 (tz_t39 )) ?_
                  refine ask_t (Pleq h118 (Zc 10000) (tz_t40 )) ?_
                  refine ask_t (Pleq (Zc (-10000000)) h125 (tz_t41 b_r8 b_z37)) ?_
                  refine ask_t (Pleq h125 h134 (tz_t42 b_r8 b_z37 b_z38)) ?_
                  refine ask_t (Pleq h134 h211 (tz_t61 b_r8 b_z38 b_z37)) ?_
                  refine ask_t (Pleq h211 h219 (tz_t62 b_r8 b_z37 b_z38)) ?_
                  refine ask_t (Pleq h219 h292 (tz_t73 b_r8 b_z38 b_z37)) ?_
                  refine ask_t (Pleq h292 h300 (tz_t74 b_r8 b_z37 b_z38)) ?_
                  refine ask_t (Pleq h300 h373 (tz_t85 b_r8 b_z38 b_z37)) ?_
                  refine ask_t (Pleq h373 h381 (tz_t86 b_r8 b_z37 b_z38)) ?_
                  refine ask_t (Pleq h381 h454 (tz_t98 b_r8 b_z38 b_z37)) ?_
                  refine ask_t (Pleq h454 h462 (tz_t99 b_r8 b_z37 b_z38)) ?_
                  refine ask_t (Pleq h462 (Zc 10000000) (tz_t100 b_r8 b_z38)) ?_
                  refine ask_t (Pleq (Zc (-10000000)) h143 (tz_t44 b_r8)) ?_
                  refine ask_t (Pleq h143 h150 (tz_t45 b_r8)) ?_
                  refine ask_t (Pleq h150 h227 (tz_t64 b_r8)) ?_
                  refine ask_t (Pleq h227 h233 (tz_t65 b_r8)) ?_
                  refine ask_t (Pleq h233 h308 (tz_t76 b_r8)) ?_
                  refine ask_t (Pleq h308 h314 (tz_t77 b_r8)) ?_
                  refine ask_t (Pleq h314 h389 (tz_t88 b_r8)) ?_
                  refine ask_t (Pleq h389 h395 (tz_t89 b_r8)) ?_
                  refine ask_t (Pleq h395 h470 (tz_t101 b_r8)) ?_
                  refine ask_t (Pleq h470 h476 (tz_t102 b_r8)) ?_
                  refine ask_t (Pleq h476 (Zc 10000000) (tz_t103 b_r8)) ?_
                  refine ⟨fun g84 => ?_, fun g84 => ?_⟩
                  · have k84 : ((-2) * m27 + (-2) * m31 + 40 * r10 + 40 * r12 + (-4) * r6 + 80 : Int) ≤ 8000 := Zleqt h163 (Zc 8000) g84
                    clear g84
                    exact rfl
                  · have k84 : ¬ (((-2) * m27 + (-2) * m31 + 40 * r10 + 40 * r12 + (-4) * r6 + 80 : Int) ≤ 8000) := Zleqf h163 (Zc 8000) g84
                    clear g84
                    refine ⟨fun g85 => ?_, fun g85 => ?_⟩
                    · have k85 : (0 : Int) ≤ 1000 * z37 + 1000 * z38 + (-2000) := Zleqt (Zc 0) h487 g85
                      clear g85
                      exact tz_d7 b_m17 b_m20 b_m27 b_m31 b_q18 b_q21 b_r10 b_r12 b_r19 b_r2 b_r22 b_r4 b_r6 b_x10 b_x9 b_z37 b_z38 k85 z37s z38s k55 k56 k57 k84 m27f1 m27f2 m27f3 m27f4 m31f1 m31f2 m31f3 m31f4 q18s q21s m17f1 m17f2 m17f3 m17f4 m20f1 m20f2 m20f3 m20f4
                    · have k85 : ¬ ((0 : Int) ≤ 1000 * z37 + 1000 * z38 + (-2000)) := Zleqf (Zc 0) h487 g85
                      clear g85
                      exact rfl
  · have k25 : ¬ ((u23 : Int) ≤ u24) := Zleqf h55 h56 g25
    clear g25
    exact tz_d8 b_u23 b_u24 b_x3 b_x4 k25 u23s u24s
end Go.Proofs.Ytlijpnjnmapdlaa.Cx
