/- TopRingScrews: the tests of the law and their arithmetic. Made by tools/cxroot.py. -/
import Derived.Test.YtdicfkocjakhcaaRScrewsTN0
import Derived.Test.YtdicfkocjakhcaaRScrewsTN1
set_option linter.unusedSimpArgs false
set_option linter.unusedVariables false
set_option maxRecDepth 100000
set_option maxHeartbeats 4000000
namespace Go.Proofs.Ytdicfkocjakhcaa.Cx
open Go Go.RowKit

theorem rs_goal {ρ : Env} {x0 x1 x2 x3 x4 x5 x6 x7 x8 x9 x10 x11 x12 x13 x14 x15 x16 x17 x18 x19 x20 x21 x22 x23 x24 x25 x26 x27 x28 x29 : Int} (e0 : Is ρ (.v 0) x0) (b_x0 : 0 ≤ x0 ∧ x0 ≤ 255) (e1 : Is ρ (.v 1) x1) (b_x1 : 0 ≤ x1 ∧ x1 ≤ 255) (e2 : Is ρ (.v 2) x2) (b_x2 : 0 ≤ x2 ∧ x2 ≤ 255) (e3 : Is ρ (.v 3) x3) (b_x3 : 0 ≤ x3 ∧ x3 ≤ 255) (e4 : Is ρ (.v 4) x4) (b_x4 : 0 ≤ x4 ∧ x4 ≤ 9223372036854775807) (e5 : Is ρ (.v 5) x5) (b_x5 : 0 ≤ x5 ∧ x5 ≤ 9223372036854775807) (e6 : Is ρ (.v 6) x6) (b_x6 : 0 ≤ x6 ∧ x6 ≤ 255) (e7 : Is ρ (.v 7) x7) (b_x7 : 0 ≤ x7 ∧ x7 ≤ 255) (e8 : Is ρ (.v 8) x8) (b_x8 : 0 ≤ x8 ∧ x8 ≤ 255) (e9 : Is ρ (.v 9) x9) (b_x9 : 0 ≤ x9 ∧ x9 ≤ 255) (e10 : Is ρ (.v 10) x10) (b_x10 : 0 ≤ x10 ∧ x10 ≤ 255) (e11 : Is ρ (.v 11) x11) (b_x11 : 0 ≤ x11 ∧ x11 ≤ 255) (e12 : Is ρ (.v 12) x12) (b_x12 : 0 ≤ x12 ∧ x12 ≤ 255) (e13 : Is ρ (.v 13) x13) (b_x13 : 0 ≤ x13 ∧ x13 ≤ 255) (e14 : Is ρ (.v 14) x14) (b_x14 : 0 ≤ x14 ∧ x14 ≤ 255) (e15 : Is ρ (.v 15) x15) (b_x15 : 0 ≤ x15 ∧ x15 ≤ 255) (e16 : Is ρ (.v 16) x16) (b_x16 : 0 ≤ x16 ∧ x16 ≤ 255) (e17 : Is ρ (.v 17) x17) (b_x17 : 0 ≤ x17 ∧ x17 ≤ 255) (e18 : Is ρ (.v 18) x18) (b_x18 : 0 ≤ x18 ∧ x18 ≤ 255) (e19 : Is ρ (.v 19) x19) (b_x19 : 0 ≤ x19 ∧ x19 ≤ 255) (e20 : Is ρ (.v 20) x20) (b_x20 : 0 ≤ x20 ∧ x20 ≤ 255) (e21 : Is ρ (.v 21) x21) (b_x21 : 0 ≤ x21 ∧ x21 ≤ 255) (e22 : Is ρ (.v 22) x22) (b_x22 : 0 ≤ x22 ∧ x22 ≤ 255) (e23 : Is ρ (.v 23) x23) (b_x23 : 0 ≤ x23 ∧ x23 ≤ 255) (e24 : Is ρ (.v 24) x24) (b_x24 : 0 ≤ x24 ∧ x24 ≤ 255) (e25 : Is ρ (.v 25) x25) (b_x25 : 0 ≤ x25 ∧ x25 ≤ 255) (e26 : Is ρ (.v 26) x26) (b_x26 : 0 ≤ x26 ∧ x26 ≤ 255) (e27 : Is ρ (.v 27) x27) (b_x27 : 0 ≤ x27 ∧ x27 ≤ 255) (e28 : Is ρ (.v 28) x28) (b_x28 : 0 ≤ x28 ∧ x28 ≤ 255) (e29 : Is ρ (.v 29) x29) (b_x29 : 0 ≤ x29 ∧ x29 ≤ 255) : rsTree.goal ρ := by
  have h0 := rs_n0 (ρ := ρ) e0 b_x0
  have h1 := rs_n1 (ρ := ρ) h0 b_x0
  have h2 := rs_n2 (ρ := ρ) h1 b_x0
  have h3 := rs_n3 (ρ := ρ) e1 b_x1
  have h4 := rs_n4 (ρ := ρ) h3 b_x1
  have h5 := rs_n5 (ρ := ρ) e2 b_x2
  have h6 := rs_n6 (ρ := ρ) h5 b_x2
  have h7 := rs_n7 (ρ := ρ) e3 b_x3
  have h8 := rs_n8 (ρ := ρ) h7 b_x3
  have h9 := rs_n9 (ρ := ρ) h8 b_x3
  have h10 := rs_n10 (ρ := ρ) h9 h8 b_x3
  have h12 := rs_n12 (ρ := ρ) h4 h6 b_x1 b_x2
  have h11 := rs_n11 (ρ := ρ) h9 h8 b_x3
  obtain ⟨m1, m1e, m1f1, m1f2, m1f3, m1f4, b_m1⟩ := rs_am1 b_x1 b_x3
  obtain ⟨m2, m2e, m2f1, m2f2, m2f3, m2f4, b_m2⟩ := rs_am2 b_x2 b_x3
  have h13 := rs_n13 (ρ := ρ) h11 h12 m1e m2e b_x3 b_x1 b_x2 b_m1 b_m2
  have h14 := rs_n14 (ρ := ρ) h2 b_x0
  have h15 := rs_n15 (ρ := ρ) h2 b_x0
  have h16 := rs_n16 (ρ := ρ) h15
  have h17 := rs_n17 (ρ := ρ) h16
  have h18 := rs_n18 (ρ := ρ) h2 b_x0
  have h19 := rs_n19 (ρ := ρ) h17 h18 b_x0
  have h20 := rs_n20 (ρ := ρ) h19 b_x0
  have h21 := rs_n21 (ρ := ρ) h17 h18 b_x0
  have h22 := rs_n22 (ρ := ρ) h21 b_x0
  have h23 := rs_n23 (ρ := ρ) h22 b_x0
  have h24 := rs_n24 (ρ := ρ) h2 b_x0
  have h25 := rs_n25 (ρ := ρ) h24 b_x0
  have h26 := rs_n26 (ρ := ρ) h2 b_x0
  have h27 := rs_n27 (ρ := ρ) h25 h26 b_x0
  have h28 := rs_n28 (ρ := ρ) h6 b_x2
  have h29 := rs_n29 (ρ := ρ) h27 h28 b_x0
  have h30 := rs_n30 (ρ := ρ) h23 h29 b_x0
  have h31 := rs_n31 (ρ := ρ) h30
  have h32 := rs_n32 (ρ := ρ) h6 h6 b_x2
  have h33 := rs_n33 (ρ := ρ) h32
  have h34 := rs_n34 (ρ := ρ) h32
  have h35 := rs_n35 (ρ := ρ) h33 h34
  have h36 := rs_n36 (ρ := ρ) h31 h35
  have h37 := rs_n37 (ρ := ρ) h20 b_x0
  have h38 := rs_n38 (ρ := ρ) h25 h26 b_x0
  have h39 := rs_n39 (ρ := ρ) h4 b_x1
  have h40 := rs_n40 (ρ := ρ) h38 h39 b_x0
  have h41 := rs_n41 (ρ := ρ) h37 h40 b_x0
  have h42 := rs_n42 (ρ := ρ) h41
  have h43 := rs_n43 (ρ := ρ) h4 h4 b_x1
  have h44 := rs_n44 (ρ := ρ) h43
  have h45 := rs_n45 (ρ := ρ) h43
  have h46 := rs_n46 (ρ := ρ) h44 h45
  have h47 := rs_n47 (ρ := ρ) h42 h46
  have h48 := rs_n48 (ρ := ρ) h36 h47
  have h49 := rs_n49 (ρ := ρ) h48
  obtain ⟨z3, z3h, b_z3⟩ := rs_az3 b_x1 b_x2
  obtain ⟨m4, m4e, m4f1, m4f2, m4f3, m4f4, b_m4⟩ := rs_am4 b_x1 b_z3
  obtain ⟨m5, m5e, m5f1, m5f2, m5f3, m5f4, b_m5⟩ := rs_am5 b_x2 b_z3
  have z3s := rs_yz3 z3h m4e m5e
  have h54 := rs_n54 (ρ := ρ) h49 h12 z3h b_x1 b_x2 b_z3
  have h55 := rs_n55 (ρ := ρ) h54 b_z3
  have h56 := rs_n56 (ρ := ρ) h55 b_z3
  obtain ⟨q6, r7, q6e, r7e, q6s, b_q6, b_r7⟩ := rs_aq6 b_x2
  have h57 := rs_n57 (ρ := ρ) h5 r7e b_x2 b_r7
  have h58 := rs_n58 (ρ := ρ) h57 b_r7
  have h59 := rs_n59 (ρ := ρ) h7 b_x3
  have h60 := rs_n60 (ρ := ρ) h59 b_x3
  have h61 := rs_n61 (ρ := ρ) h58 b_r7
  have h62 := rs_n62 (ρ := ρ) h61 b_r7
  have h63 := rs_n63 (ρ := ρ) h60 b_x3
  have h64 := rs_n64 (ρ := ρ) h63
  have h69 := rs_n69 (ρ := ρ) h64
  have h70 := rs_n70 (ρ := ρ) h69
  have h71 := rs_n71 (ρ := ρ) h62 h70
  have h72 := rs_n72 (ρ := ρ) h71 h71
  have h73 := rs_n73 (ρ := ρ) h61 b_r7
  have h74 := rs_n74 (ρ := ρ) h60 b_x3
  obtain ⟨z8, z8s, b_z8⟩ := rs_az8 b_x3
  have h79 := rs_n79 (ρ := ρ) h74 z8s b_x3 b_z8
  have h80 := rs_n80 (ρ := ρ) h73 h79 b_r7 b_z8
  have h81 := rs_n81 (ρ := ρ) h80 h70 b_r7 b_z8
  have h82 := rs_n82 (ρ := ρ) h73 h81 b_r7 b_z8
  have h83 := rs_n83 (ρ := ρ) h79 b_z8
  have h84 := rs_n84 (ρ := ρ) h72 h83 b_z8
  have h85 := rs_n85 (ρ := ρ) h62 h84 b_z8
  have h86 := rs_n86 (ρ := ρ) h82 h83 b_r7 b_z8
  have h87 := rs_n87 (ρ := ρ) h80 h86 b_r7 b_z8
  have h88 := rs_n88 (ρ := ρ) h23 h23 b_x0
  have h89 := rs_n89 (ρ := ρ) h88
  have h90 := rs_n90 (ρ := ρ) h89 h35
  have h91 := rs_n91 (ρ := ρ) h37 h37 b_x0
  have h92 := rs_n92 (ρ := ρ) h91
  have h93 := rs_n93 (ρ := ρ) h92 h46
  have h94 := rs_n94 (ρ := ρ) h90 h93
  have h95 := rs_n95 (ρ := ρ) h29 h23 b_x0
  have h96 := rs_n96 (ρ := ρ) h95
  have h97 := rs_n97 (ρ := ρ) h96 h35
  have h98 := rs_n98 (ρ := ρ) h40 h37 b_x0
  have h99 := rs_n99 (ρ := ρ) h98
  have h100 := rs_n100 (ρ := ρ) h99 h46
  have h101 := rs_n101 (ρ := ρ) h97 h100
  have h102 := rs_n102 (ρ := ρ) h101
  have h107 := rs_n107 (ρ := ρ) h102 h12 z3h b_x1 b_x2 b_z3
  have h108 := rs_n108 (ρ := ρ) h87 b_r7 b_z8
  have h109 := rs_n109 (ρ := ρ) h72
  have h110 := rs_n110 (ρ := ρ) h108 h109 b_r7 b_z8
  have h111 := rs_n111 (ρ := ρ) h110 b_r7 b_z8
  have h112 := rs_n112 (ρ := ρ) h56 b_z3
  have h113 := rs_n113 (ρ := ρ) e18 b_x18
  obtain ⟨q9, r10, q9e, r10e, q9s, b_q9, b_r10⟩ := rs_aq9 b_x18
  have h114 := rs_n114 (ρ := ρ) h113 q9e b_x18 b_q9
  have h115 := rs_n115 (ρ := ρ) h15 h114 b_q9
  have h116 := rs_n116 (ρ := ρ) h115 b_q9
  have h117 := rs_n117 (ρ := ρ) h116 h18 b_q9 b_x0
  have h118 := rs_n118 (ρ := ρ) e19 b_x19
  obtain ⟨q11, r12, q11e, r12e, q11s, b_q11, b_r12⟩ := rs_aq11 b_x19
  have h119 := rs_n119 (ρ := ρ) h118 q11e b_x19 b_q11
  have h120 := rs_n120 (ρ := ρ) h119 b_q11
  have h121 := rs_n121 (ρ := ρ) h117 h120 b_q9 b_x0 b_q11
  have h122 := rs_n122 (ρ := ρ) h116 h18 b_q9 b_x0
  have h123 := rs_n123 (ρ := ρ) h122 h120 b_q9 b_x0 b_q11
  have h124 := rs_n124 (ρ := ρ) h123 b_q11 b_q9 b_x0
  have h125 := rs_n125 (ρ := ρ) h124 h29 b_q11 b_q9 b_x0
  have h126 := rs_n126 (ρ := ρ) h125 b_q11 b_q9
  have h127 := rs_n127 (ρ := ρ) h126 h35 b_q11 b_q9
  have h128 := rs_n128 (ρ := ρ) h121 b_q11 b_q9 b_x0
  have h129 := rs_n129 (ρ := ρ) h128 h40 b_q11 b_q9 b_x0
  have h130 := rs_n130 (ρ := ρ) h129 b_q11 b_q9
  have h131 := rs_n131 (ρ := ρ) h130 h46 b_q11 b_q9
  have h132 := rs_n132 (ρ := ρ) h127 h131 b_q11 b_q9
  have h133 := rs_n133 (ρ := ρ) h132 b_q11
  obtain ⟨z13, z13h, b_z13⟩ := rs_az13 b_q11 b_x1 b_x2
  obtain ⟨m14, m14e, m14f1, m14f2, m14f3, m14f4, b_m14⟩ := rs_am14 b_x1 b_z13
  obtain ⟨m15, m15e, m15f1, m15f2, m15f3, m15f4, b_m15⟩ := rs_am15 b_x2 b_z13
  have z13s := rs_yz13 z13h m14e m15e
  have h138 := rs_n138 (ρ := ρ) h133 h12 z13h b_q11 b_x1 b_x2 b_z13
  have h139 := rs_n139 (ρ := ρ) h138 b_z13
  have h140 := rs_n140 (ρ := ρ) h139 b_z13
  have h141 := rs_n141 (ρ := ρ) h124 h23 b_q11 b_q9 b_x0
  have h142 := rs_n142 (ρ := ρ) h141 b_q11 b_q9
  have h143 := rs_n143 (ρ := ρ) h142 h35 b_q11 b_q9
  have h144 := rs_n144 (ρ := ρ) h128 h37 b_q11 b_q9 b_x0
  have h145 := rs_n145 (ρ := ρ) h144 b_q11 b_q9
  have h146 := rs_n146 (ρ := ρ) h145 h46 b_q11 b_q9
  have h147 := rs_n147 (ρ := ρ) h143 h146 b_q11 b_q9
  have h148 := rs_n148 (ρ := ρ) h140 b_z13
  have h149 := rs_n149 (ρ := ρ) h2 b_x0
  have h150 := rs_n150 (ρ := ρ) e20 b_x20
  obtain ⟨q16, r17, q16e, r17e, q16s, b_q16, b_r17⟩ := rs_aq16 b_x20
  have h151 := rs_n151 (ρ := ρ) h150 q16e b_x20 b_q16
  have h152 := rs_n152 (ρ := ρ) h149 h151 b_x0 b_q16
  have h153 := rs_n153 (ρ := ρ) h152 b_q16 b_x0
  have h154 := rs_n154 (ρ := ρ) h153 h18 b_q16 b_x0
  have h155 := rs_n155 (ρ := ρ) e21 b_x21
  obtain ⟨q18, r19, q18e, r19e, q18s, b_q18, b_r19⟩ := rs_aq18 b_x21
  have h156 := rs_n156 (ρ := ρ) h155 q18e b_x21 b_q18
  have h157 := rs_n157 (ρ := ρ) h156 b_q18
  have h158 := rs_n158 (ρ := ρ) h154 h157 b_q16 b_x0 b_q18
  have h159 := rs_n159 (ρ := ρ) h153 h18 b_q16 b_x0
  have h160 := rs_n160 (ρ := ρ) h159 h157 b_q16 b_x0 b_q18
  have h161 := rs_n161 (ρ := ρ) h160 b_q16 b_q18 b_x0
  have h162 := rs_n162 (ρ := ρ) h24 b_x0
  have h163 := rs_n163 (ρ := ρ) h162 h26 b_x0
  have h164 := rs_n164 (ρ := ρ) h163 h28 b_x0
  have h165 := rs_n165 (ρ := ρ) h161 h164 b_q16 b_q18 b_x0
  obtain ⟨u20, u20s, b_u20⟩ := rs_au20 b_q11 b_q9 b_q16 b_q18
  have h166 := rs_n166 (ρ := ρ) h126 h165 u20s b_q11 b_q9 b_q16 b_q18 b_u20
  have h167 := rs_n167 (ρ := ρ) h166 h35 b_u20
  have h168 := rs_n168 (ρ := ρ) h158 b_q16 b_q18 b_x0
  have h169 := rs_n169 (ρ := ρ) h162 h26 b_x0
  have h170 := rs_n170 (ρ := ρ) h169 h39 b_x0
  have h171 := rs_n171 (ρ := ρ) h168 h170 b_q16 b_q18 b_x0
  obtain ⟨u21, u21s, b_u21⟩ := rs_au21 b_q11 b_q9 b_q16 b_q18
  have h172 := rs_n172 (ρ := ρ) h130 h171 u21s b_q11 b_q9 b_q16 b_q18 b_u21
  have h173 := rs_n173 (ρ := ρ) h172 h46 b_u21
  have h174 := rs_n174 (ρ := ρ) h167 h173 b_u20 b_u21
  have h175 := rs_n175 (ρ := ρ) h174 b_u20 b_u21
  obtain ⟨z22, z22h, b_z22⟩ := rs_az22 b_u20 b_u21 b_x1 b_x2
  obtain ⟨m23, m23e, m23f1, m23f2, m23f3, m23f4, b_m23⟩ := rs_am23 b_x1 b_z22
  obtain ⟨m24, m24e, m24f1, m24f2, m24f3, m24f4, b_m24⟩ := rs_am24 b_x2 b_z22
  have z22s := rs_yz22 z22h m23e m24e
  have h180 := rs_n180 (ρ := ρ) h175 h12 z22h b_u20 b_u21 b_x1 b_x2 b_z22
  have h181 := rs_n181 (ρ := ρ) h180 b_z22
  have h182 := rs_n182 (ρ := ρ) h181 b_z22
  have h183 := rs_n183 (ρ := ρ) h182 b_z22
  have h184 := rs_n184 (ρ := ρ) h2 b_x0
  have h185 := rs_n185 (ρ := ρ) e22 b_x22
  obtain ⟨q25, r26, q25e, r26e, q25s, b_q25, b_r26⟩ := rs_aq25 b_x22
  have h186 := rs_n186 (ρ := ρ) h185 q25e b_x22 b_q25
  have h187 := rs_n187 (ρ := ρ) h184 h186 b_x0 b_q25
  have h188 := rs_n188 (ρ := ρ) h187 b_q25 b_x0
  have h189 := rs_n189 (ρ := ρ) h188 h18 b_q25 b_x0
  have h190 := rs_n190 (ρ := ρ) e23 b_x23
  obtain ⟨q27, r28, q27e, r28e, q27s, b_q27, b_r28⟩ := rs_aq27 b_x23
  have h191 := rs_n191 (ρ := ρ) h190 q27e b_x23 b_q27
  have h192 := rs_n192 (ρ := ρ) h191 b_q27
  have h193 := rs_n193 (ρ := ρ) h189 h192 b_q25 b_x0 b_q27
  have h194 := rs_n194 (ρ := ρ) h188 h18 b_q25 b_x0
  have h195 := rs_n195 (ρ := ρ) h194 h192 b_q25 b_x0 b_q27
  have h196 := rs_n196 (ρ := ρ) h195 b_q25 b_q27 b_x0
  have h197 := rs_n197 (ρ := ρ) h24 b_x0
  have h198 := rs_n198 (ρ := ρ) h197 h26 b_x0
  have h199 := rs_n199 (ρ := ρ) h198 h28 b_x0
  have h200 := rs_n200 (ρ := ρ) h196 h199 b_q25 b_q27 b_x0
  obtain ⟨u29, u29s, b_u29⟩ := rs_au29 b_u20 b_q25 b_q27
  have h201 := rs_n201 (ρ := ρ) h166 h200 u29s b_u20 b_q25 b_q27 b_u29
  have h202 := rs_n202 (ρ := ρ) h201 h35 b_u29
  have h203 := rs_n203 (ρ := ρ) h193 b_q25 b_q27 b_x0
  have h204 := rs_n204 (ρ := ρ) h197 h26 b_x0
  have h205 := rs_n205 (ρ := ρ) h204 h39 b_x0
  have h206 := rs_n206 (ρ := ρ) h203 h205 b_q25 b_q27 b_x0
  obtain ⟨u30, u30s, b_u30⟩ := rs_au30 b_u21 b_q25 b_q27
  have h207 := rs_n207 (ρ := ρ) h172 h206 u30s b_u21 b_q25 b_q27 b_u30
  have h208 := rs_n208 (ρ := ρ) h207 h46 b_u30
  have h209 := rs_n209 (ρ := ρ) h202 h208 b_u29 b_u30
  have h210 := rs_n210 (ρ := ρ) h209 b_u29 b_u30
  obtain ⟨z31, z31h, b_z31⟩ := rs_az31 b_u29 b_u30 b_x1 b_x2
  obtain ⟨m32, m32e, m32f1, m32f2, m32f3, m32f4, b_m32⟩ := rs_am32 b_x1 b_z31
  obtain ⟨m33, m33e, m33f1, m33f2, m33f3, m33f4, b_m33⟩ := rs_am33 b_x2 b_z31
  have z31s := rs_yz31 z31h m32e m33e
  have h215 := rs_n215 (ρ := ρ) h210 h12 z31h b_u29 b_u30 b_x1 b_x2 b_z31
  have h216 := rs_n216 (ρ := ρ) h215 b_z31
  have h217 := rs_n217 (ρ := ρ) h216 b_z31
  have h218 := rs_n218 (ρ := ρ) h217 b_z31
  have h219 := rs_n219 (ρ := ρ) h2 b_x0
  have h220 := rs_n220 (ρ := ρ) e24 b_x24
  obtain ⟨q34, r35, q34e, r35e, q34s, b_q34, b_r35⟩ := rs_aq34 b_x24
  have h221 := rs_n221 (ρ := ρ) h220 q34e b_x24 b_q34
  have h222 := rs_n222 (ρ := ρ) h219 h221 b_x0 b_q34
  have h223 := rs_n223 (ρ := ρ) h222 b_q34 b_x0
  have h224 := rs_n224 (ρ := ρ) h223 h18 b_q34 b_x0
  have h225 := rs_n225 (ρ := ρ) e25 b_x25
  obtain ⟨q36, r37, q36e, r37e, q36s, b_q36, b_r37⟩ := rs_aq36 b_x25
  have h226 := rs_n226 (ρ := ρ) h225 q36e b_x25 b_q36
  have h227 := rs_n227 (ρ := ρ) h226 b_q36
  have h228 := rs_n228 (ρ := ρ) h224 h227 b_q34 b_x0 b_q36
  have h229 := rs_n229 (ρ := ρ) h223 h18 b_q34 b_x0
  have h230 := rs_n230 (ρ := ρ) h229 h227 b_q34 b_x0 b_q36
  have h231 := rs_n231 (ρ := ρ) h230 b_q34 b_q36 b_x0
  have h232 := rs_n232 (ρ := ρ) h24 b_x0
  have h233 := rs_n233 (ρ := ρ) h232 h26 b_x0
  have h234 := rs_n234 (ρ := ρ) h233 h28 b_x0
  have h235 := rs_n235 (ρ := ρ) h231 h234 b_q34 b_q36 b_x0
  obtain ⟨u38, u38s, b_u38⟩ := rs_au38 b_u29 b_q34 b_q36
  have h236 := rs_n236 (ρ := ρ) h201 h235 u38s b_u29 b_q34 b_q36 b_u38
  have h237 := rs_n237 (ρ := ρ) h236 h35 b_u38
  have h238 := rs_n238 (ρ := ρ) h228 b_q34 b_q36 b_x0
  have h239 := rs_n239 (ρ := ρ) h232 h26 b_x0
  have h240 := rs_n240 (ρ := ρ) h239 h39 b_x0
  have h241 := rs_n241 (ρ := ρ) h238 h240 b_q34 b_q36 b_x0
  obtain ⟨u39, u39s, b_u39⟩ := rs_au39 b_u30 b_q34 b_q36
  have h242 := rs_n242 (ρ := ρ) h207 h241 u39s b_u30 b_q34 b_q36 b_u39
  have h243 := rs_n243 (ρ := ρ) h242 h46 b_u39
  have h244 := rs_n244 (ρ := ρ) h237 h243 b_u38 b_u39
  have h245 := rs_n245 (ρ := ρ) h244 b_u38 b_u39
  obtain ⟨z40, z40h, b_z40⟩ := rs_az40 b_u38 b_u39 b_x1 b_x2
  obtain ⟨m41, m41e, m41f1, m41f2, m41f3, m41f4, b_m41⟩ := rs_am41 b_x1 b_z40
  obtain ⟨m42, m42e, m42f1, m42f2, m42f3, m42f4, b_m42⟩ := rs_am42 b_x2 b_z40
  have z40s := rs_yz40 z40h m41e m42e
  have h250 := rs_n250 (ρ := ρ) h245 h12 z40h b_u38 b_u39 b_x1 b_x2 b_z40
  have h251 := rs_n251 (ρ := ρ) h250 b_z40
  have h252 := rs_n252 (ρ := ρ) h251 b_z40
  have h253 := rs_n253 (ρ := ρ) h252 b_z40
  have h254 := rs_n254 (ρ := ρ) h2 b_x0
  have h255 := rs_n255 (ρ := ρ) e26 b_x26
  obtain ⟨q43, r44, q43e, r44e, q43s, b_q43, b_r44⟩ := rs_aq43 b_x26
  have h256 := rs_n256 (ρ := ρ) h255 q43e b_x26 b_q43
  have h257 := rs_n257 (ρ := ρ) h254 h256 b_x0 b_q43
  have h258 := rs_n258 (ρ := ρ) h257 b_q43 b_x0
  have h259 := rs_n259 (ρ := ρ) h258 h18 b_q43 b_x0
  have h260 := rs_n260 (ρ := ρ) e27 b_x27
  obtain ⟨q45, r46, q45e, r46e, q45s, b_q45, b_r46⟩ := rs_aq45 b_x27
  have h261 := rs_n261 (ρ := ρ) h260 q45e b_x27 b_q45
  have h262 := rs_n262 (ρ := ρ) h261 b_q45
  have h263 := rs_n263 (ρ := ρ) h259 h262 b_q43 b_x0 b_q45
  have h264 := rs_n264 (ρ := ρ) h258 h18 b_q43 b_x0
  have h265 := rs_n265 (ρ := ρ) h264 h262 b_q43 b_x0 b_q45
  have h266 := rs_n266 (ρ := ρ) h265 b_q43 b_q45 b_x0
  have h267 := rs_n267 (ρ := ρ) h24 b_x0
  have h268 := rs_n268 (ρ := ρ) h267 h26 b_x0
  have h269 := rs_n269 (ρ := ρ) h268 h28 b_x0
  have h270 := rs_n270 (ρ := ρ) h266 h269 b_q43 b_q45 b_x0
  obtain ⟨u47, u47s, b_u47⟩ := rs_au47 b_u38 b_q43 b_q45
  have h271 := rs_n271 (ρ := ρ) h236 h270 u47s b_u38 b_q43 b_q45 b_u47
  have h272 := rs_n272 (ρ := ρ) h271 h35 b_u47
  have h273 := rs_n273 (ρ := ρ) h263 b_q43 b_q45 b_x0
  have h274 := rs_n274 (ρ := ρ) h267 h26 b_x0
  have h275 := rs_n275 (ρ := ρ) h274 h39 b_x0
  have h276 := rs_n276 (ρ := ρ) h273 h275 b_q43 b_q45 b_x0
  obtain ⟨u48, u48s, b_u48⟩ := rs_au48 b_u39 b_q43 b_q45
  have h277 := rs_n277 (ρ := ρ) h242 h276 u48s b_u39 b_q43 b_q45 b_u48
  have h278 := rs_n278 (ρ := ρ) h277 h46 b_u48
  have h279 := rs_n279 (ρ := ρ) h272 h278 b_u47 b_u48
  have h280 := rs_n280 (ρ := ρ) h279 b_u47 b_u48
  obtain ⟨z49, z49h, b_z49⟩ := rs_az49 b_u47 b_u48 b_x1 b_x2
  obtain ⟨m50, m50e, m50f1, m50f2, m50f3, m50f4, b_m50⟩ := rs_am50 b_x1 b_z49
  obtain ⟨m51, m51e, m51f1, m51f2, m51f3, m51f4, b_m51⟩ := rs_am51 b_x2 b_z49
  have z49s := rs_yz49 z49h m50e m51e
  have h285 := rs_n285 (ρ := ρ) h280 h12 z49h b_u47 b_u48 b_x1 b_x2 b_z49
  have h286 := rs_n286 (ρ := ρ) h285 b_z49
  have h287 := rs_n287 (ρ := ρ) h286 b_z49
  have h288 := rs_n288 (ρ := ρ) h287 b_z49
  have h289 := rs_n289 (ρ := ρ) h2 b_x0
  have h290 := rs_n290 (ρ := ρ) e28 b_x28
  obtain ⟨q52, r53, q52e, r53e, q52s, b_q52, b_r53⟩ := rs_aq52 b_x28
  have h291 := rs_n291 (ρ := ρ) h290 q52e b_x28 b_q52
  have h292 := rs_n292 (ρ := ρ) h289 h291 b_x0 b_q52
  have h293 := rs_n293 (ρ := ρ) h292 b_q52 b_x0
  have h294 := rs_n294 (ρ := ρ) h293 h18 b_q52 b_x0
  have h295 := rs_n295 (ρ := ρ) e29 b_x29
  obtain ⟨q54, r55, q54e, r55e, q54s, b_q54, b_r55⟩ := rs_aq54 b_x29
  have h296 := rs_n296 (ρ := ρ) h295 q54e b_x29 b_q54
  have h297 := rs_n297 (ρ := ρ) h296 b_q54
  have h298 := rs_n298 (ρ := ρ) h294 h297 b_q52 b_x0 b_q54
  have h299 := rs_n299 (ρ := ρ) h293 h18 b_q52 b_x0
  have h300 := rs_n300 (ρ := ρ) h299 h297 b_q52 b_x0 b_q54
  have h301 := rs_n301 (ρ := ρ) h300 b_q52 b_q54 b_x0
  have h302 := rs_n302 (ρ := ρ) h24 b_x0
  have h303 := rs_n303 (ρ := ρ) h302 h26 b_x0
  have h304 := rs_n304 (ρ := ρ) h303 h28 b_x0
  have h305 := rs_n305 (ρ := ρ) h301 h304 b_q52 b_q54 b_x0
  obtain ⟨u56, u56s, b_u56⟩ := rs_au56 b_u47 b_q52 b_q54
  have h306 := rs_n306 (ρ := ρ) h271 h305 u56s b_u47 b_q52 b_q54 b_u56
  have h307 := rs_n307 (ρ := ρ) h306 h35 b_u56
  have h308 := rs_n308 (ρ := ρ) h298 b_q52 b_q54 b_x0
  have h309 := rs_n309 (ρ := ρ) h302 h26 b_x0
  have h310 := rs_n310 (ρ := ρ) h309 h39 b_x0
  have h311 := rs_n311 (ρ := ρ) h308 h310 b_q52 b_q54 b_x0
  obtain ⟨u57, u57s, b_u57⟩ := rs_au57 b_u48 b_q52 b_q54
  have h312 := rs_n312 (ρ := ρ) h277 h311 u57s b_u48 b_q52 b_q54 b_u57
  have h313 := rs_n313 (ρ := ρ) h312 h46 b_u57
  have h314 := rs_n314 (ρ := ρ) h307 h313 b_u56 b_u57
  have h315 := rs_n315 (ρ := ρ) h314 b_u56 b_u57
  obtain ⟨z58, z58h, b_z58⟩ := rs_az58 b_u56 b_u57 b_x1 b_x2
  obtain ⟨m59, m59e, m59f1, m59f2, m59f3, m59f4, b_m59⟩ := rs_am59 b_x1 b_z58
  obtain ⟨m60, m60e, m60f1, m60f2, m60f3, m60f4, b_m60⟩ := rs_am60 b_x2 b_z58
  have z58s := rs_yz58 z58h m59e m60e
  have h320 := rs_n320 (ρ := ρ) h315 h12 z58h b_u56 b_u57 b_x1 b_x2 b_z58
  have h321 := rs_n321 (ρ := ρ) h320 b_z58
  have h322 := rs_n322 (ρ := ρ) h321 b_z58
  have h323 := rs_n323 (ρ := ρ) h322 b_z58
  have h324 := rs_n324 (ρ := ρ) e6 b_x6
  obtain ⟨q61, r62, q61e, r62e, q61s, b_q61, b_r62⟩ := rs_aq61 b_x6
  have h325 := rs_n325 (ρ := ρ) h324 q61e b_x6 b_q61
  have h326 := rs_n326 (ρ := ρ) h15 h325 b_q61
  have h327 := rs_n327 (ρ := ρ) h326 b_q61
  have h328 := rs_n328 (ρ := ρ) h327 h18 b_q61 b_x0
  have h329 := rs_n329 (ρ := ρ) e7 b_x7
  obtain ⟨q63, r64, q63e, r64e, q63s, b_q63, b_r64⟩ := rs_aq63 b_x7
  have h330 := rs_n330 (ρ := ρ) h329 q63e b_x7 b_q63
  have h331 := rs_n331 (ρ := ρ) h330 b_q63
  have h332 := rs_n332 (ρ := ρ) h328 h331 b_q61 b_x0 b_q63
  have h333 := rs_n333 (ρ := ρ) h327 h18 b_q61 b_x0
  have h334 := rs_n334 (ρ := ρ) h333 h331 b_q61 b_x0 b_q63
  have h335 := rs_n335 (ρ := ρ) h334 b_q61 b_q63 b_x0
  have h336 := rs_n336 (ρ := ρ) h23 h335 b_x0 b_q61 b_q63
  have h337 := rs_n337 (ρ := ρ) h336 b_q61 b_q63
  have h338 := rs_n338 (ρ := ρ) h337 h35 b_q61 b_q63
  have h339 := rs_n339 (ρ := ρ) h332 b_q61 b_q63 b_x0
  have h340 := rs_n340 (ρ := ρ) h37 h339 b_x0 b_q61 b_q63
  have h341 := rs_n341 (ρ := ρ) h340 b_q61 b_q63
  have h342 := rs_n342 (ρ := ρ) h341 h46 b_q61 b_q63
  have h343 := rs_n343 (ρ := ρ) h338 h342 b_q61 b_q63
  have h344 := rs_n344 (ρ := ρ) h29 h335 b_x0 b_q61 b_q63
  have h345 := rs_n345 (ρ := ρ) h344 b_q61 b_q63
  have h346 := rs_n346 (ρ := ρ) h345 h35 b_q61 b_q63
  have h347 := rs_n347 (ρ := ρ) h40 h339 b_x0 b_q61 b_q63
  have h348 := rs_n348 (ρ := ρ) h347 b_q61 b_q63
  have h349 := rs_n349 (ρ := ρ) h348 h46 b_q61 b_q63
  have h350 := rs_n350 (ρ := ρ) h346 h349 b_q61 b_q63
  have h351 := rs_n351 (ρ := ρ) h350 b_q63
  obtain ⟨z65, z65h, b_z65⟩ := rs_az65 b_q63 b_x1 b_x2
  obtain ⟨m66, m66e, m66f1, m66f2, m66f3, m66f4, b_m66⟩ := rs_am66 b_x1 b_z65
  obtain ⟨m67, m67e, m67f1, m67f2, m67f3, m67f4, b_m67⟩ := rs_am67 b_x2 b_z65
  have z65s := rs_yz65 z65h m66e m67e
  have h356 := rs_n356 (ρ := ρ) h351 h12 z65h b_q63 b_x1 b_x2 b_z65
  have h357 := rs_n357 (ρ := ρ) h124 h335 b_q11 b_q9 b_x0 b_q61 b_q63
  have h358 := rs_n358 (ρ := ρ) h357 b_q11 b_q61 b_q63 b_q9
  have h359 := rs_n359 (ρ := ρ) h358 h35 b_q11 b_q61 b_q63 b_q9
  have h360 := rs_n360 (ρ := ρ) h128 h339 b_q11 b_q9 b_x0 b_q61 b_q63
  have h361 := rs_n361 (ρ := ρ) h360 b_q11 b_q61 b_q63 b_q9
  have h362 := rs_n362 (ρ := ρ) h361 h46 b_q11 b_q61 b_q63 b_q9
  have h363 := rs_n363 (ρ := ρ) h359 h362 b_q11 b_q61 b_q63 b_q9
  have h364 := rs_n364 (ρ := ρ) e8 b_x8
  obtain ⟨q68, r69, q68e, r69e, q68s, b_q68, b_r69⟩ := rs_aq68 b_x8
  have h365 := rs_n365 (ρ := ρ) h364 q68e b_x8 b_q68
  have h366 := rs_n366 (ρ := ρ) h149 h365 b_x0 b_q68
  have h367 := rs_n367 (ρ := ρ) h366 b_q68 b_x0
  have h368 := rs_n368 (ρ := ρ) h367 h18 b_q68 b_x0
  have h369 := rs_n369 (ρ := ρ) e9 b_x9
  obtain ⟨q70, r71, q70e, r71e, q70s, b_q70, b_r71⟩ := rs_aq70 b_x9
  have h370 := rs_n370 (ρ := ρ) h369 q70e b_x9 b_q70
  have h371 := rs_n371 (ρ := ρ) h370 b_q70
  have h372 := rs_n372 (ρ := ρ) h368 h371 b_q68 b_x0 b_q70
  have h373 := rs_n373 (ρ := ρ) h367 h18 b_q68 b_x0
  have h374 := rs_n374 (ρ := ρ) h373 h371 b_q68 b_x0 b_q70
  have h375 := rs_n375 (ρ := ρ) h374 b_q68 b_q70 b_x0
  have h376 := rs_n376 (ρ := ρ) h164 h375 b_x0 b_q68 b_q70
  obtain ⟨u72, u72s, b_u72⟩ := rs_au72 b_q61 b_q63 b_q68 b_q70
  have h377 := rs_n377 (ρ := ρ) h345 h376 u72s b_q61 b_q63 b_q68 b_q70 b_u72
  have h378 := rs_n378 (ρ := ρ) h377 h35 b_u72
  have h379 := rs_n379 (ρ := ρ) h372 b_q68 b_q70 b_x0
  have h380 := rs_n380 (ρ := ρ) h170 h379 b_x0 b_q68 b_q70
  obtain ⟨u73, u73s, b_u73⟩ := rs_au73 b_q61 b_q63 b_q68 b_q70
  have h381 := rs_n381 (ρ := ρ) h348 h380 u73s b_q61 b_q63 b_q68 b_q70 b_u73
  have h382 := rs_n382 (ρ := ρ) h381 h46 b_u73
  have h383 := rs_n383 (ρ := ρ) h378 h382 b_u72 b_u73
  have h384 := rs_n384 (ρ := ρ) h383 b_u72 b_u73
  obtain ⟨z74, z74h, b_z74⟩ := rs_az74 b_u72 b_u73 b_x1 b_x2
  obtain ⟨m75, m75e, m75f1, m75f2, m75f3, m75f4, b_m75⟩ := rs_am75 b_x1 b_z74
  obtain ⟨m76, m76e, m76f1, m76f2, m76f3, m76f4, b_m76⟩ := rs_am76 b_x2 b_z74
  have z74s := rs_yz74 z74h m75e m76e
  have h389 := rs_n389 (ρ := ρ) h384 h12 z74h b_u72 b_u73 b_x1 b_x2 b_z74
  have h390 := rs_n390 (ρ := ρ) h161 h375 b_q16 b_q18 b_x0 b_q68 b_q70
  obtain ⟨u77, u77s, b_u77⟩ := rs_au77 b_q11 b_q61 b_q63 b_q9 b_q16 b_q18 b_q68 b_q70
  have h391 := rs_n391 (ρ := ρ) h358 h390 u77s b_q11 b_q61 b_q63 b_q9 b_q16 b_q18 b_q68 b_q70 b_u77
  have h392 := rs_n392 (ρ := ρ) h391 h35 b_u77
  have h393 := rs_n393 (ρ := ρ) h168 h379 b_q16 b_q18 b_x0 b_q68 b_q70
  obtain ⟨u78, u78s, b_u78⟩ := rs_au78 b_q11 b_q61 b_q63 b_q9 b_q16 b_q18 b_q68 b_q70
  have h394 := rs_n394 (ρ := ρ) h361 h393 u78s b_q11 b_q61 b_q63 b_q9 b_q16 b_q18 b_q68 b_q70 b_u78
  have h395 := rs_n395 (ρ := ρ) h394 h46 b_u78
  have h396 := rs_n396 (ρ := ρ) h392 h395 b_u77 b_u78
  have h397 := rs_n397 (ρ := ρ) e10 b_x10
  obtain ⟨q79, r80, q79e, r80e, q79s, b_q79, b_r80⟩ := rs_aq79 b_x10
  have h398 := rs_n398 (ρ := ρ) h397 q79e b_x10 b_q79
  have h399 := rs_n399 (ρ := ρ) h184 h398 b_x0 b_q79
  have h400 := rs_n400 (ρ := ρ) h399 b_q79 b_x0
  have h401 := rs_n401 (ρ := ρ) h400 h18 b_q79 b_x0
  have h402 := rs_n402 (ρ := ρ) e11 b_x11
  obtain ⟨q81, r82, q81e, r82e, q81s, b_q81, b_r82⟩ := rs_aq81 b_x11
  have h403 := rs_n403 (ρ := ρ) h402 q81e b_x11 b_q81
  have h404 := rs_n404 (ρ := ρ) h403 b_q81
  have h405 := rs_n405 (ρ := ρ) h401 h404 b_q79 b_x0 b_q81
  have h406 := rs_n406 (ρ := ρ) h400 h18 b_q79 b_x0
  have h407 := rs_n407 (ρ := ρ) h406 h404 b_q79 b_x0 b_q81
  have h408 := rs_n408 (ρ := ρ) h407 b_q79 b_q81 b_x0
  have h409 := rs_n409 (ρ := ρ) h199 h408 b_x0 b_q79 b_q81
  obtain ⟨u83, u83s, b_u83⟩ := rs_au83 b_u72 b_q79 b_q81
  have h410 := rs_n410 (ρ := ρ) h377 h409 u83s b_u72 b_q79 b_q81 b_u83
  have h411 := rs_n411 (ρ := ρ) h410 h35 b_u83
  have h412 := rs_n412 (ρ := ρ) h405 b_q79 b_q81 b_x0
  have h413 := rs_n413 (ρ := ρ) h205 h412 b_x0 b_q79 b_q81
  obtain ⟨u84, u84s, b_u84⟩ := rs_au84 b_u73 b_q79 b_q81
  have h414 := rs_n414 (ρ := ρ) h381 h413 u84s b_u73 b_q79 b_q81 b_u84
  have h415 := rs_n415 (ρ := ρ) h414 h46 b_u84
  have h416 := rs_n416 (ρ := ρ) h411 h415 b_u83 b_u84
  have h417 := rs_n417 (ρ := ρ) h416 b_u83 b_u84
  obtain ⟨z85, z85h, b_z85⟩ := rs_az85 b_u83 b_u84 b_x1 b_x2
  obtain ⟨m86, m86e, m86f1, m86f2, m86f3, m86f4, b_m86⟩ := rs_am86 b_x1 b_z85
  obtain ⟨m87, m87e, m87f1, m87f2, m87f3, m87f4, b_m87⟩ := rs_am87 b_x2 b_z85
  have z85s := rs_yz85 z85h m86e m87e
  have h422 := rs_n422 (ρ := ρ) h417 h12 z85h b_u83 b_u84 b_x1 b_x2 b_z85
  have h423 := rs_n423 (ρ := ρ) h196 h408 b_q25 b_q27 b_x0 b_q79 b_q81
  obtain ⟨u88, u88s, b_u88⟩ := rs_au88 b_u77 b_q25 b_q27 b_q79 b_q81
  have h424 := rs_n424 (ρ := ρ) h391 h423 u88s b_u77 b_q25 b_q27 b_q79 b_q81 b_u88
  have h425 := rs_n425 (ρ := ρ) h424 h35 b_u88
  have h426 := rs_n426 (ρ := ρ) h203 h412 b_q25 b_q27 b_x0 b_q79 b_q81
  obtain ⟨u89, u89s, b_u89⟩ := rs_au89 b_u78 b_q25 b_q27 b_q79 b_q81
  have h427 := rs_n427 (ρ := ρ) h394 h426 u89s b_u78 b_q25 b_q27 b_q79 b_q81 b_u89
  have h428 := rs_n428 (ρ := ρ) h427 h46 b_u89
  have h429 := rs_n429 (ρ := ρ) h425 h428 b_u88 b_u89
  have h430 := rs_n430 (ρ := ρ) e12 b_x12
  obtain ⟨q90, r91, q90e, r91e, q90s, b_q90, b_r91⟩ := rs_aq90 b_x12
  have h431 := rs_n431 (ρ := ρ) h430 q90e b_x12 b_q90
  have h432 := rs_n432 (ρ := ρ) h219 h431 b_x0 b_q90
  have h433 := rs_n433 (ρ := ρ) h432 b_q90 b_x0
  have h434 := rs_n434 (ρ := ρ) h433 h18 b_q90 b_x0
  have h435 := rs_n435 (ρ := ρ) e13 b_x13
  obtain ⟨q92, r93, q92e, r93e, q92s, b_q92, b_r93⟩ := rs_aq92 b_x13
  have h436 := rs_n436 (ρ := ρ) h435 q92e b_x13 b_q92
  have h437 := rs_n437 (ρ := ρ) h436 b_q92
  have h438 := rs_n438 (ρ := ρ) h434 h437 b_q90 b_x0 b_q92
  have h439 := rs_n439 (ρ := ρ) h433 h18 b_q90 b_x0
  have h440 := rs_n440 (ρ := ρ) h439 h437 b_q90 b_x0 b_q92
  have h441 := rs_n441 (ρ := ρ) h440 b_q90 b_q92 b_x0
  have h442 := rs_n442 (ρ := ρ) h234 h441 b_x0 b_q90 b_q92
  obtain ⟨u94, u94s, b_u94⟩ := rs_au94 b_u83 b_q90 b_q92
  have h443 := rs_n443 (ρ := ρ) h410 h442 u94s b_u83 b_q90 b_q92 b_u94
  have h444 := rs_n444 (ρ := ρ) h443 h35 b_u94
  have h445 := rs_n445 (ρ := ρ) h438 b_q90 b_q92 b_x0
  have h446 := rs_n446 (ρ := ρ) h240 h445 b_x0 b_q90 b_q92
  obtain ⟨u95, u95s, b_u95⟩ := rs_au95 b_u84 b_q90 b_q92
  have h447 := rs_n447 (ρ := ρ) h414 h446 u95s b_u84 b_q90 b_q92 b_u95
  have h448 := rs_n448 (ρ := ρ) h447 h46 b_u95
  have h449 := rs_n449 (ρ := ρ) h444 h448 b_u94 b_u95
  have h450 := rs_n450 (ρ := ρ) h449 b_u94 b_u95
  obtain ⟨z96, z96h, b_z96⟩ := rs_az96 b_u94 b_u95 b_x1 b_x2
  obtain ⟨m97, m97e, m97f1, m97f2, m97f3, m97f4, b_m97⟩ := rs_am97 b_x1 b_z96
  obtain ⟨m98, m98e, m98f1, m98f2, m98f3, m98f4, b_m98⟩ := rs_am98 b_x2 b_z96
  have z96s := rs_yz96 z96h m97e m98e
  have h455 := rs_n455 (ρ := ρ) h450 h12 z96h b_u94 b_u95 b_x1 b_x2 b_z96
  have h456 := rs_n456 (ρ := ρ) h231 h441 b_q34 b_q36 b_x0 b_q90 b_q92
  obtain ⟨u99, u99s, b_u99⟩ := rs_au99 b_u88 b_q34 b_q36 b_q90 b_q92
  have h457 := rs_n457 (ρ := ρ) h424 h456 u99s b_u88 b_q34 b_q36 b_q90 b_q92 b_u99
  have h458 := rs_n458 (ρ := ρ) h457 h35 b_u99
  have h459 := rs_n459 (ρ := ρ) h238 h445 b_q34 b_q36 b_x0 b_q90 b_q92
  obtain ⟨u100, u100s, b_u100⟩ := rs_au100 b_u89 b_q34 b_q36 b_q90 b_q92
  have h460 := rs_n460 (ρ := ρ) h427 h459 u100s b_u89 b_q34 b_q36 b_q90 b_q92 b_u100
  have h461 := rs_n461 (ρ := ρ) h460 h46 b_u100
  have h462 := rs_n462 (ρ := ρ) h458 h461 b_u99 b_u100
  have h463 := rs_n463 (ρ := ρ) e14 b_x14
  obtain ⟨q101, r102, q101e, r102e, q101s, b_q101, b_r102⟩ := rs_aq101 b_x14
  have h464 := rs_n464 (ρ := ρ) h463 q101e b_x14 b_q101
  have h465 := rs_n465 (ρ := ρ) h254 h464 b_x0 b_q101
  have h466 := rs_n466 (ρ := ρ) h465 b_q101 b_x0
  have h467 := rs_n467 (ρ := ρ) h466 h18 b_q101 b_x0
  have h468 := rs_n468 (ρ := ρ) e15 b_x15
  obtain ⟨q103, r104, q103e, r104e, q103s, b_q103, b_r104⟩ := rs_aq103 b_x15
  have h469 := rs_n469 (ρ := ρ) h468 q103e b_x15 b_q103
  have h470 := rs_n470 (ρ := ρ) h469 b_q103
  have h471 := rs_n471 (ρ := ρ) h467 h470 b_q101 b_x0 b_q103
  have h472 := rs_n472 (ρ := ρ) h466 h18 b_q101 b_x0
  have h473 := rs_n473 (ρ := ρ) h472 h470 b_q101 b_x0 b_q103
  have h474 := rs_n474 (ρ := ρ) h473 b_q101 b_q103 b_x0
  have h475 := rs_n475 (ρ := ρ) h269 h474 b_x0 b_q101 b_q103
  obtain ⟨u105, u105s, b_u105⟩ := rs_au105 b_u94 b_q101 b_q103
  have h476 := rs_n476 (ρ := ρ) h443 h475 u105s b_u94 b_q101 b_q103 b_u105
  have h477 := rs_n477 (ρ := ρ) h476 h35 b_u105
  have h478 := rs_n478 (ρ := ρ) h471 b_q101 b_q103 b_x0
  have h479 := rs_n479 (ρ := ρ) h275 h478 b_x0 b_q101 b_q103
  obtain ⟨u106, u106s, b_u106⟩ := rs_au106 b_u95 b_q101 b_q103
  have h480 := rs_n480 (ρ := ρ) h447 h479 u106s b_u95 b_q101 b_q103 b_u106
  have h481 := rs_n481 (ρ := ρ) h480 h46 b_u106
  have h482 := rs_n482 (ρ := ρ) h477 h481 b_u105 b_u106
  have h483 := rs_n483 (ρ := ρ) h482 b_u105 b_u106
  obtain ⟨z107, z107h, b_z107⟩ := rs_az107 b_u105 b_u106 b_x1 b_x2
  obtain ⟨m108, m108e, m108f1, m108f2, m108f3, m108f4, b_m108⟩ := rs_am108 b_x1 b_z107
  obtain ⟨m109, m109e, m109f1, m109f2, m109f3, m109f4, b_m109⟩ := rs_am109 b_x2 b_z107
  have z107s := rs_yz107 z107h m108e m109e
  have h488 := rs_n488 (ρ := ρ) h483 h12 z107h b_u105 b_u106 b_x1 b_x2 b_z107
  have h489 := rs_n489 (ρ := ρ) h266 h474 b_q43 b_q45 b_x0 b_q101 b_q103
  obtain ⟨u110, u110s, b_u110⟩ := rs_au110 b_u99 b_q101 b_q103 b_q43 b_q45
  have h490 := rs_n490 (ρ := ρ) h457 h489 u110s b_u99 b_q101 b_q103 b_q43 b_q45 b_u110
  have h491 := rs_n491 (ρ := ρ) h490 h35 b_u110
  have h492 := rs_n492 (ρ := ρ) h273 h478 b_q43 b_q45 b_x0 b_q101 b_q103
  obtain ⟨u111, u111s, b_u111⟩ := rs_au111 b_u100 b_q101 b_q103 b_q43 b_q45
  have h493 := rs_n493 (ρ := ρ) h460 h492 u111s b_u100 b_q101 b_q103 b_q43 b_q45 b_u111
  have h494 := rs_n494 (ρ := ρ) h493 h46 b_u111
  have h495 := rs_n495 (ρ := ρ) h491 h494 b_u110 b_u111
  have h496 := rs_n496 (ρ := ρ) e16 b_x16
  obtain ⟨q112, r113, q112e, r113e, q112s, b_q112, b_r113⟩ := rs_aq112 b_x16
  have h497 := rs_n497 (ρ := ρ) h496 q112e b_x16 b_q112
  have h498 := rs_n498 (ρ := ρ) h289 h497 b_x0 b_q112
  have h499 := rs_n499 (ρ := ρ) h498 b_q112 b_x0
  have h500 := rs_n500 (ρ := ρ) h499 h18 b_q112 b_x0
  have h501 := rs_n501 (ρ := ρ) e17 b_x17
  obtain ⟨q114, r115, q114e, r115e, q114s, b_q114, b_r115⟩ := rs_aq114 b_x17
  have h502 := rs_n502 (ρ := ρ) h501 q114e b_x17 b_q114
  have h503 := rs_n503 (ρ := ρ) h502 b_q114
  have h504 := rs_n504 (ρ := ρ) h500 h503 b_q112 b_x0 b_q114
  have h505 := rs_n505 (ρ := ρ) h499 h18 b_q112 b_x0
  have h506 := rs_n506 (ρ := ρ) h505 h503 b_q112 b_x0 b_q114
  have h507 := rs_n507 (ρ := ρ) h506 b_q112 b_q114 b_x0
  have h508 := rs_n508 (ρ := ρ) h304 h507 b_x0 b_q112 b_q114
  obtain ⟨u116, u116s, b_u116⟩ := rs_au116 b_u105 b_q112 b_q114
  have h509 := rs_n509 (ρ := ρ) h476 h508 u116s b_u105 b_q112 b_q114 b_u116
  have h510 := rs_n510 (ρ := ρ) h509 h35 b_u116
  have h511 := rs_n511 (ρ := ρ) h504 b_q112 b_q114 b_x0
  have h512 := rs_n512 (ρ := ρ) h310 h511 b_x0 b_q112 b_q114
  obtain ⟨u117, u117s, b_u117⟩ := rs_au117 b_u106 b_q112 b_q114
  have h513 := rs_n513 (ρ := ρ) h480 h512 u117s b_u106 b_q112 b_q114 b_u117
  have h514 := rs_n514 (ρ := ρ) h513 h46 b_u117
  have h515 := rs_n515 (ρ := ρ) h510 h514 b_u116 b_u117
  have h516 := rs_n516 (ρ := ρ) h515 b_u116 b_u117
  obtain ⟨z118, z118h, b_z118⟩ := rs_az118 b_u116 b_u117 b_x1 b_x2
  obtain ⟨m119, m119e, m119f1, m119f2, m119f3, m119f4, b_m119⟩ := rs_am119 b_x1 b_z118
  obtain ⟨m120, m120e, m120f1, m120f2, m120f3, m120f4, b_m120⟩ := rs_am120 b_x2 b_z118
  have z118s := rs_yz118 z118h m119e m120e
  have h521 := rs_n521 (ρ := ρ) h516 h12 z118h b_u116 b_u117 b_x1 b_x2 b_z118
  have h522 := rs_n522 (ρ := ρ) h301 h507 b_q52 b_q54 b_x0 b_q112 b_q114
  obtain ⟨u121, u121s, b_u121⟩ := rs_au121 b_u110 b_q112 b_q114 b_q52 b_q54
  have h523 := rs_n523 (ρ := ρ) h490 h522 u121s b_u110 b_q112 b_q114 b_q52 b_q54 b_u121
  have h524 := rs_n524 (ρ := ρ) h523 h35 b_u121
  have h525 := rs_n525 (ρ := ρ) h308 h511 b_q52 b_q54 b_x0 b_q112 b_q114
  obtain ⟨u122, u122s, b_u122⟩ := rs_au122 b_u111 b_q112 b_q114 b_q52 b_q54
  have h526 := rs_n526 (ρ := ρ) h493 h525 u122s b_u111 b_q112 b_q114 b_q52 b_q54 b_u122
  have h527 := rs_n527 (ρ := ρ) h526 h46 b_u122
  have h528 := rs_n528 (ρ := ρ) h524 h527 b_u121 b_u122
  obtain ⟨m123, m123e, m123f1, m123f2, m123f3, m123f4, b_m123⟩ := rs_am123 b_r7 b_x1
  obtain ⟨m124, m124e, m124f1, m124f2, m124f3, m124f4, b_m124⟩ := rs_am124 b_r7 b_x2
  obtain ⟨m125, m125e, m125f1, m125f2, m125f3, m125f4, b_m125⟩ := rs_am125 b_x1 b_z8
  obtain ⟨m126, m126e, m126f1, m126f2, m126f3, m126f4, b_m126⟩ := rs_am126 b_x2 b_z8
  have s0 := rs_s0 u77s u20s u72s
  have s1 := rs_s1 u78s u21s u73s
  have s2 := rs_s2 u88s u29s u83s s0
  have s3 := rs_s3 u89s u30s u84s s1
  have s4 := rs_s4 u99s u38s u94s s2
  have s5 := rs_s5 u100s u39s u95s s3
  have s6 := rs_s6 u110s u47s u105s s4
  have s7 := rs_s7 u111s u48s u106s s5
  have s8 := rs_s8 u121s u56s u116s s6
  have s9 := rs_s9 u122s u57s u117s s7
  refine ask_p (fun g => ?_) (fun g => ?_)
  · have k0 : (x4 : Int) ≤ 0 := Zleqt e4 (Zc 0) g
    clear g
    refine ask_q (fun g => ?_) (fun g => ?_)
    · have k1 : ¬ ((x4 : Int) ≤ 1) := Zleqf e4 (Zc 1) g
      clear g
      exact rs_d0 b_x4 k0 k1
    have k1 : (x4 : Int) ≤ 1 := Zleqt e4 (Zc 1) g
    clear g
    refine ask_p (fun g => ?_) (fun g => ?_)
    · have k2 : (x5 : Int) ≤ 0 := Zleqt e5 (Zc 0) g
      clear g
      refine ask_q (fun g => ?_) (fun g => ?_)
      · have k3 : ¬ ((x5 : Int) ≤ 1) := Zleqf e5 (Zc 1) g
        clear g
        exact rs_d1 b_x5 k2 k3
      have k3 : (x5 : Int) ≤ 1 := Zleqt e5 (Zc 1) g
      clear g
      refine rs_c0 h2 h4 h6 b_x0 b_x1 b_x2 ?_
      refine rs_c1 h6 h9 h8 h10 h13 h14 b_x2 b_x3 b_m1 b_m2 b_x1 b_x0 ?_
      refine aT (Pleq (Zc (-10000000)) h20 (rs_t14 b_x0)) ?_
      refine aT (Pleq h20 h22 (rs_t15 b_x0)) ?_
      refine aT (Pleq h22 (Zc 10000000) (rs_t16 b_x0)) ?_
      refine aF (Neql h12 (Zc 0) (rs_t17 b_x1 b_x2)) ?_
      refine aT (Pleq (Zc 0) h56 (rs_t18 b_z3)) ?_
      refine aT (Pleq h56 (Zc 10000000) (rs_t19 b_z3)) ?_
      refine aT (Pleq (Zc 4990) h58 (rs_t20 b_r7)) ?_
      refine aT (Pleq h58 (Zc 10000000) (rs_t21 b_r7)) ?_
      refine aT (Pleq (Zc 1) h60 (rs_t22 b_x3)) ?_
      refine aT (Pleq h60 (Zc 100000) (rs_t23 b_x3)) ?_
      refine aT (Pleq h71 h72 (rs_t24 )) ?_
      refine aT (Pleq h82 h73 (rs_t25 b_r7)) ?_
      refine aT (Pleq h62 h85 (rs_t24 )) ?_
      refine aT (Pleq h87 h80 (rs_t26 b_r7 b_z8)) ?_
      refine aT (Pleq h82 h85 (rs_t27 b_r7)) ?_
      refine aT (Pleq h87 h72 (rs_t28 b_r7 b_z8)) ?_
      refine aT (Pleq (Zc 0) h94 (rs_t29 )) ?_
      refine ask_q (fun g => ?_) (fun g => ?_)
      · have k21 : ¬ ((z3 : Int) ≤ r7 + z8 + (-10)) := Zleqf h107 h111 g
        clear g
        have f21_0 := rs_f30 b_r7 b_z3 b_z8 b_x1 b_m123 b_m125 b_m4 k21 m123e m4e m125e
        have f21_1 := rs_f31 b_r7 b_z3 b_z8 b_x2 b_m124 b_m126 b_m5 k21 m124e m5e m126e
        exact rfl
      have k21 : (z3 : Int) ≤ r7 + z8 + (-10) := Zleqt h107 h111 g
      clear g
      have f21_0 := rs_f32 b_r7 b_z3 b_z8 b_x1 b_m123 b_m125 b_m4 k21 m123e m4e m125e
      have f21_1 := rs_f33 b_r7 b_z3 b_z8 b_x2 b_m124 b_m126 b_m5 k21 m124e m5e m126e
      refine ask_p (fun g => ?_) (fun g => ?_)
      · have k22 : (z3 + 9995000 : Int) ≤ (-1) * r7 + (-1) * z8 + 9995010 := Zleqt h112 h87 g
        clear g
        have f22_0 := rs_f34 b_r7 b_z3 b_z8 b_x1 b_m123 b_m125 b_m4 k22 m123e m4e m125e
        have f22_1 := rs_f35 b_r7 b_z3 b_z8 b_x2 b_m124 b_m126 b_m5 k22 m124e m5e m126e
        exact rfl
      have k22 : ¬ ((z3 + 9995000 : Int) ≤ (-1) * r7 + (-1) * z8 + 9995010) := Zleqf h112 h87 g
      clear g
      have f22_0 := rs_f36 b_r7 b_z3 b_z8 b_x1 b_m123 b_m125 b_m4 k22 m123e m4e m125e
      have f22_1 := rs_f37 b_r7 b_z3 b_z8 b_x2 b_m124 b_m126 b_m5 k22 m124e m5e m126e
      exact rfl
    have k2 : ¬ ((x5 : Int) ≤ 0) := Zleqf e5 (Zc 0) g
    clear g
    refine ask_p (fun g => ?_) (fun g => ?_)
    · have k3 : (x5 : Int) ≤ 1 := Zleqt e5 (Zc 1) g
      clear g
      refine rs_c0 h2 h4 h6 b_x0 b_x1 b_x2 ?_
      refine rs_c1 h6 h9 h8 h10 h13 h14 b_x2 b_x3 b_m1 b_m2 b_x1 b_x0 ?_
      refine rs_c2 h20 h22 h12 h121 h123 b_x0 b_x1 b_x2 b_q11 b_q9 ?_
      refine rs_c3 h123 h140 b_q11 b_q9 b_x0 b_z13 ?_
      refine aT (Pleq (Zc 4990) h58 (rs_t20 b_r7)) ?_
      refine aT (Pleq h58 (Zc 10000000) (rs_t21 b_r7)) ?_
      refine aT (Pleq (Zc 1) h60 (rs_t22 b_x3)) ?_
      refine aT (Pleq h60 (Zc 100000) (rs_t23 b_x3)) ?_
      refine aT (Pleq h71 h72 (rs_t24 )) ?_
      refine aT (Pleq h82 h73 (rs_t25 b_r7)) ?_
      refine aT (Pleq h62 h85 (rs_t24 )) ?_
      refine aT (Pleq h87 h80 (rs_t26 b_r7 b_z8)) ?_
      refine aT (Pleq h82 h85 (rs_t27 b_r7)) ?_
      refine aT (Pleq h87 h72 (rs_t28 b_r7 b_z8)) ?_
      refine aT (Pleq (Zc 0) h147 (rs_t43 b_q11)) ?_
      refine ask_q (fun g => ?_) (fun g => ?_)
      · have k15 : ¬ ((z3 : Int) ≤ r7 + z8 + (-10)) := Zleqf h107 h111 g
        clear g
        have f15_0 := rs_f30 b_r7 b_z3 b_z8 b_x1 b_m123 b_m125 b_m4 k15 m123e m4e m125e
        have f15_1 := rs_f31 b_r7 b_z3 b_z8 b_x2 b_m124 b_m126 b_m5 k15 m124e m5e m126e
        exact rfl
      have k15 : (z3 : Int) ≤ r7 + z8 + (-10) := Zleqt h107 h111 g
      clear g
      have f15_0 := rs_f32 b_r7 b_z3 b_z8 b_x1 b_m123 b_m125 b_m4 k15 m123e m4e m125e
      have f15_1 := rs_f33 b_r7 b_z3 b_z8 b_x2 b_m124 b_m126 b_m5 k15 m124e m5e m126e
      refine ask_p (fun g => ?_) (fun g => ?_)
      · have k16 : (z13 + 9995000 : Int) ≤ (-1) * r7 + (-1) * z8 + 9995010 := Zleqt h148 h87 g
        clear g
        have f16_0 := rs_f44 b_r7 b_z13 b_z8 b_x1 b_m123 b_m125 b_m14 k16 m123e m14e m125e
        have f16_1 := rs_f45 b_r7 b_z13 b_z8 b_x2 b_m124 b_m126 b_m15 k16 m124e m15e m126e
        exact rfl
      have k16 : ¬ ((z13 + 9995000 : Int) ≤ (-1) * r7 + (-1) * z8 + 9995010) := Zleqf h148 h87 g
      clear g
      have f16_0 := rs_f46 b_r7 b_z13 b_z8 b_x1 b_m123 b_m125 b_m14 k16 m123e m14e m125e
      have f16_1 := rs_f47 b_r7 b_z13 b_z8 b_x2 b_m124 b_m126 b_m15 k16 m124e m15e m126e
      exact rfl
    have k3 : ¬ ((x5 : Int) ≤ 1) := Zleqf e5 (Zc 1) g
    clear g
    refine ask_p (fun g => ?_) (fun g => ?_)
    · have k4 : (x5 : Int) ≤ 2 := Zleqt e5 (Zc 2) g
      clear g
      refine rs_c0 h2 h4 h6 b_x0 b_x1 b_x2 ?_
      refine rs_c1 h6 h9 h8 h10 h13 h14 b_x2 b_x3 b_m1 b_m2 b_x1 b_x0 ?_
      refine rs_c2 h20 h22 h12 h121 h123 b_x0 b_x1 b_x2 b_q11 b_q9 ?_
      refine aT (Pleq h123 h158 (rs_t48 b_q11 b_q9 b_x0 b_q16 b_q18)) ?_
      refine rs_c4 h158 h160 h182 h58 b_q16 b_q18 b_x0 b_z22 b_r7 ?_
      refine rs_c5 h58 h60 h71 h72 h82 h73 h62 h85 h87 h80 b_r7 b_x3 b_z8 ?_
      refine ask_q (fun g => ?_) (fun g => ?_)
      · have k6 : ¬ ((z3 : Int) ≤ r7 + z8 + (-10)) := Zleqf h107 h111 g
        clear g
        have f6_0 := rs_f30 b_r7 b_z3 b_z8 b_x1 b_m123 b_m125 b_m4 k6 m123e m4e m125e
        have f6_1 := rs_f31 b_r7 b_z3 b_z8 b_x2 b_m124 b_m126 b_m5 k6 m124e m5e m126e
        exact rfl
      have k6 : (z3 : Int) ≤ r7 + z8 + (-10) := Zleqt h107 h111 g
      clear g
      have f6_0 := rs_f32 b_r7 b_z3 b_z8 b_x1 b_m123 b_m125 b_m4 k6 m123e m4e m125e
      have f6_1 := rs_f33 b_r7 b_z3 b_z8 b_x2 b_m124 b_m126 b_m5 k6 m124e m5e m126e
      refine ask_p (fun g => ?_) (fun g => ?_)
      · have k7 : (z22 + 9995000 : Int) ≤ (-1) * r7 + (-1) * z8 + 9995010 := Zleqt h183 h87 g
        clear g
        have f7_0 := rs_f53 b_r7 b_z22 b_z8 b_x1 b_m123 b_m125 b_m23 k7 m123e m23e m125e
        have f7_1 := rs_f54 b_r7 b_z22 b_z8 b_x2 b_m124 b_m126 b_m24 k7 m124e m24e m126e
        exact rfl
      have k7 : ¬ ((z22 + 9995000 : Int) ≤ (-1) * r7 + (-1) * z8 + 9995010) := Zleqf h183 h87 g
      clear g
      have f7_0 := rs_f55 b_r7 b_z22 b_z8 b_x1 b_m123 b_m125 b_m23 k7 m123e m23e m125e
      have f7_1 := rs_f56 b_r7 b_z22 b_z8 b_x2 b_m124 b_m126 b_m24 k7 m124e m24e m126e
      exact rfl
    have k4 : ¬ ((x5 : Int) ≤ 2) := Zleqf e5 (Zc 2) g
    clear g
    refine ask_p (fun g => ?_) (fun g => ?_)
    · have k5 : (x5 : Int) ≤ 3 := Zleqt e5 (Zc 3) g
      clear g
      refine rs_c0 h2 h4 h6 b_x0 b_x1 b_x2 ?_
      refine rs_c1 h6 h9 h8 h10 h13 h14 b_x2 b_x3 b_m1 b_m2 b_x1 b_x0 ?_
      refine rs_c2 h20 h22 h12 h121 h123 b_x0 b_x1 b_x2 b_q11 b_q9 ?_
      refine aT (Pleq h123 h158 (rs_t48 b_q11 b_q9 b_x0 b_q16 b_q18)) ?_
      refine rs_c6 h158 h160 h193 h195 h217 h58 b_q16 b_q18 b_x0 b_q25 b_q27 b_z31 b_r7 ?_
      refine rs_c5 h58 h60 h71 h72 h82 h73 h62 h85 h87 h80 b_r7 b_x3 b_z8 ?_
      refine ask_q (fun g => ?_) (fun g => ?_)
      · have k7 : ¬ ((z3 : Int) ≤ r7 + z8 + (-10)) := Zleqf h107 h111 g
        clear g
        have f7_0 := rs_f30 b_r7 b_z3 b_z8 b_x1 b_m123 b_m125 b_m4 k7 m123e m4e m125e
        have f7_1 := rs_f31 b_r7 b_z3 b_z8 b_x2 b_m124 b_m126 b_m5 k7 m124e m5e m126e
        exact rfl
      have k7 : (z3 : Int) ≤ r7 + z8 + (-10) := Zleqt h107 h111 g
      clear g
      have f7_0 := rs_f32 b_r7 b_z3 b_z8 b_x1 b_m123 b_m125 b_m4 k7 m123e m4e m125e
      have f7_1 := rs_f33 b_r7 b_z3 b_z8 b_x2 b_m124 b_m126 b_m5 k7 m124e m5e m126e
      refine ask_p (fun g => ?_) (fun g => ?_)
      · have k8 : (z31 + 9995000 : Int) ≤ (-1) * r7 + (-1) * z8 + 9995010 := Zleqt h218 h87 g
        clear g
        have f8_0 := rs_f62 b_r7 b_z31 b_z8 b_x1 b_m123 b_m125 b_m32 k8 m123e m32e m125e
        have f8_1 := rs_f63 b_r7 b_z31 b_z8 b_x2 b_m124 b_m126 b_m33 k8 m124e m33e m126e
        exact rfl
      have k8 : ¬ ((z31 + 9995000 : Int) ≤ (-1) * r7 + (-1) * z8 + 9995010) := Zleqf h218 h87 g
      clear g
      have f8_0 := rs_f64 b_r7 b_z31 b_z8 b_x1 b_m123 b_m125 b_m32 k8 m123e m32e m125e
      have f8_1 := rs_f65 b_r7 b_z31 b_z8 b_x2 b_m124 b_m126 b_m33 k8 m124e m33e m126e
      exact rfl
    have k5 : ¬ ((x5 : Int) ≤ 3) := Zleqf e5 (Zc 3) g
    clear g
    refine ask_p (fun g => ?_) (fun g => ?_)
    · have k6 : (x5 : Int) ≤ 4 := Zleqt e5 (Zc 4) g
      clear g
      refine rs_c0 h2 h4 h6 b_x0 b_x1 b_x2 ?_
      refine rs_c1 h6 h9 h8 h10 h13 h14 b_x2 b_x3 b_m1 b_m2 b_x1 b_x0 ?_
      refine rs_c2 h20 h22 h12 h121 h123 b_x0 b_x1 b_x2 b_q11 b_q9 ?_
      refine aT (Pleq h123 h158 (rs_t48 b_q11 b_q9 b_x0 b_q16 b_q18)) ?_
      refine rs_c7 h158 h160 h193 h195 h228 b_q16 b_q18 b_x0 b_q25 b_q27 b_q34 b_q36 ?_
      refine rs_c8 h228 h230 b_q34 b_q36 b_x0 ?_
      refine aT (Pleq (Zc 0) h252 (rs_t69 b_z40)) ?_
      refine rs_c9 h252 h58 b_z40 b_r7 ?_
      refine rs_c5 h58 h60 h71 h72 h82 h73 h62 h85 h87 h80 b_r7 b_x3 b_z8 ?_
      refine ask_q (fun g => ?_) (fun g => ?_)
      · have k9 : ¬ ((z3 : Int) ≤ r7 + z8 + (-10)) := Zleqf h107 h111 g
        clear g
        have f9_0 := rs_f30 b_r7 b_z3 b_z8 b_x1 b_m123 b_m125 b_m4 k9 m123e m4e m125e
        have f9_1 := rs_f31 b_r7 b_z3 b_z8 b_x2 b_m124 b_m126 b_m5 k9 m124e m5e m126e
        exact rfl
      have k9 : (z3 : Int) ≤ r7 + z8 + (-10) := Zleqt h107 h111 g
      clear g
      have f9_0 := rs_f32 b_r7 b_z3 b_z8 b_x1 b_m123 b_m125 b_m4 k9 m123e m4e m125e
      have f9_1 := rs_f33 b_r7 b_z3 b_z8 b_x2 b_m124 b_m126 b_m5 k9 m124e m5e m126e
      refine ask_p (fun g => ?_) (fun g => ?_)
      · have k10 : (z40 + 9995000 : Int) ≤ (-1) * r7 + (-1) * z8 + 9995010 := Zleqt h253 h87 g
        clear g
        have f10_0 := rs_f71 b_r7 b_z40 b_z8 b_x1 b_m123 b_m125 b_m41 k10 m123e m41e m125e
        have f10_1 := rs_f72 b_r7 b_z40 b_z8 b_x2 b_m124 b_m126 b_m42 k10 m124e m42e m126e
        exact rfl
      have k10 : ¬ ((z40 + 9995000 : Int) ≤ (-1) * r7 + (-1) * z8 + 9995010) := Zleqf h253 h87 g
      clear g
      have f10_0 := rs_f73 b_r7 b_z40 b_z8 b_x1 b_m123 b_m125 b_m41 k10 m123e m41e m125e
      have f10_1 := rs_f74 b_r7 b_z40 b_z8 b_x2 b_m124 b_m126 b_m42 k10 m124e m42e m126e
      exact rfl
    have k6 : ¬ ((x5 : Int) ≤ 4) := Zleqf e5 (Zc 4) g
    clear g
    refine ask_p (fun g => ?_) (fun g => ?_)
    · have k7 : (x5 : Int) ≤ 5 := Zleqt e5 (Zc 5) g
      clear g
      refine rs_c0 h2 h4 h6 b_x0 b_x1 b_x2 ?_
      refine rs_c1 h6 h9 h8 h10 h13 h14 b_x2 b_x3 b_m1 b_m2 b_x1 b_x0 ?_
      refine rs_c2 h20 h22 h12 h121 h123 b_x0 b_x1 b_x2 b_q11 b_q9 ?_
      refine aT (Pleq h123 h158 (rs_t48 b_q11 b_q9 b_x0 b_q16 b_q18)) ?_
      refine rs_c7 h158 h160 h193 h195 h228 b_q16 b_q18 b_x0 b_q25 b_q27 b_q34 b_q36 ?_
      refine rs_c10 h228 h230 h263 h265 h287 h58 b_q34 b_q36 b_x0 b_q43 b_q45 b_z49 b_r7 ?_
      refine rs_c5 h58 h60 h71 h72 h82 h73 h62 h85 h87 h80 b_r7 b_x3 b_z8 ?_
      refine ask_q (fun g => ?_) (fun g => ?_)
      · have k9 : ¬ ((z3 : Int) ≤ r7 + z8 + (-10)) := Zleqf h107 h111 g
        clear g
        have f9_0 := rs_f30 b_r7 b_z3 b_z8 b_x1 b_m123 b_m125 b_m4 k9 m123e m4e m125e
        have f9_1 := rs_f31 b_r7 b_z3 b_z8 b_x2 b_m124 b_m126 b_m5 k9 m124e m5e m126e
        exact rfl
      have k9 : (z3 : Int) ≤ r7 + z8 + (-10) := Zleqt h107 h111 g
      clear g
      have f9_0 := rs_f32 b_r7 b_z3 b_z8 b_x1 b_m123 b_m125 b_m4 k9 m123e m4e m125e
      have f9_1 := rs_f33 b_r7 b_z3 b_z8 b_x2 b_m124 b_m126 b_m5 k9 m124e m5e m126e
      refine ask_p (fun g => ?_) (fun g => ?_)
      · have k10 : (z49 + 9995000 : Int) ≤ (-1) * r7 + (-1) * z8 + 9995010 := Zleqt h288 h87 g
        clear g
        have f10_0 := rs_f80 b_r7 b_z49 b_z8 b_x1 b_m123 b_m125 b_m50 k10 m123e m50e m125e
        have f10_1 := rs_f81 b_r7 b_z49 b_z8 b_x2 b_m124 b_m126 b_m51 k10 m124e m51e m126e
        exact rfl
      have k10 : ¬ ((z49 + 9995000 : Int) ≤ (-1) * r7 + (-1) * z8 + 9995010) := Zleqf h288 h87 g
      clear g
      have f10_0 := rs_f82 b_r7 b_z49 b_z8 b_x1 b_m123 b_m125 b_m50 k10 m123e m50e m125e
      have f10_1 := rs_f83 b_r7 b_z49 b_z8 b_x2 b_m124 b_m126 b_m51 k10 m124e m51e m126e
      exact rfl
    have k7 : ¬ ((x5 : Int) ≤ 5) := Zleqf e5 (Zc 5) g
    clear g
    refine ask_p (fun g => ?_) (fun g => ?_)
    · have k8 : (x5 : Int) ≤ 6 := Zleqt e5 (Zc 6) g
      clear g
      refine rs_c0 h2 h4 h6 b_x0 b_x1 b_x2 ?_
      refine rs_c1 h6 h9 h8 h10 h13 h14 b_x2 b_x3 b_m1 b_m2 b_x1 b_x0 ?_
      refine rs_c2 h20 h22 h12 h121 h123 b_x0 b_x1 b_x2 b_q11 b_q9 ?_
      refine aT (Pleq h123 h158 (rs_t48 b_q11 b_q9 b_x0 b_q16 b_q18)) ?_
      refine rs_c7 h158 h160 h193 h195 h228 b_q16 b_q18 b_x0 b_q25 b_q27 b_q34 b_q36 ?_
      refine rs_c11 h228 h230 h263 h265 h298 b_q34 b_q36 b_x0 b_q43 b_q45 b_q52 b_q54 ?_
      refine aT (Pleq h298 h300 (rs_t85 b_q52 b_q54 b_x0)) ?_
      refine rs_c12 h300 h322 b_q52 b_q54 b_x0 b_z58 ?_
      refine aT (Pleq h322 (Zc 10000000) (rs_t88 b_z58)) ?_
      refine aT (Pleq (Zc 4990) h58 (rs_t20 b_r7)) ?_
      refine rs_c5 h58 h60 h71 h72 h82 h73 h62 h85 h87 h80 b_r7 b_x3 b_z8 ?_
      refine ask_q (fun g => ?_) (fun g => ?_)
      · have k13 : ¬ ((z3 : Int) ≤ r7 + z8 + (-10)) := Zleqf h107 h111 g
        clear g
        have f13_0 := rs_f30 b_r7 b_z3 b_z8 b_x1 b_m123 b_m125 b_m4 k13 m123e m4e m125e
        have f13_1 := rs_f31 b_r7 b_z3 b_z8 b_x2 b_m124 b_m126 b_m5 k13 m124e m5e m126e
        exact rfl
      have k13 : (z3 : Int) ≤ r7 + z8 + (-10) := Zleqt h107 h111 g
      clear g
      have f13_0 := rs_f32 b_r7 b_z3 b_z8 b_x1 b_m123 b_m125 b_m4 k13 m123e m4e m125e
      have f13_1 := rs_f33 b_r7 b_z3 b_z8 b_x2 b_m124 b_m126 b_m5 k13 m124e m5e m126e
      refine ask_p (fun g => ?_) (fun g => ?_)
      · have k14 : (z58 + 9995000 : Int) ≤ (-1) * r7 + (-1) * z8 + 9995010 := Zleqt h323 h87 g
        clear g
        have f14_0 := rs_f89 b_r7 b_z58 b_z8 b_x1 b_m123 b_m125 b_m59 k14 m123e m59e m125e
        have f14_1 := rs_f90 b_r7 b_z58 b_z8 b_x2 b_m124 b_m126 b_m60 k14 m124e m60e m126e
        exact rfl
      have k14 : ¬ ((z58 + 9995000 : Int) ≤ (-1) * r7 + (-1) * z8 + 9995010) := Zleqf h323 h87 g
      clear g
      have f14_0 := rs_f91 b_r7 b_z58 b_z8 b_x1 b_m123 b_m125 b_m59 k14 m123e m59e m125e
      have f14_1 := rs_f92 b_r7 b_z58 b_z8 b_x2 b_m124 b_m126 b_m60 k14 m124e m60e m126e
      exact rfl
    have k8 : ¬ ((x5 : Int) ≤ 6) := Zleqf e5 (Zc 6) g
    clear g
    refine rs_c0 h2 h4 h6 b_x0 b_x1 b_x2 ?_
    refine rs_c1 h6 h9 h8 h10 h13 h14 b_x2 b_x3 b_m1 b_m2 b_x1 b_x0 ?_
    refine rs_c2 h20 h22 h12 h121 h123 b_x0 b_x1 b_x2 b_q11 b_q9 ?_
    refine aT (Pleq h123 h158 (rs_t48 b_q11 b_q9 b_x0 b_q16 b_q18)) ?_
    refine rs_c7 h158 h160 h193 h195 h228 b_q16 b_q18 b_x0 b_q25 b_q27 b_q34 b_q36 ?_
    refine rs_c11 h228 h230 h263 h265 h298 b_q34 b_q36 b_x0 b_q43 b_q45 b_q52 b_q54 ?_
    refine aT (Pleq h298 h300 (rs_t85 b_q52 b_q54 b_x0)) ?_
    refine rs_c12 h300 h322 b_q52 b_q54 b_x0 b_z58 ?_
    refine aT (Pleq h322 (Zc 10000000) (rs_t88 b_z58)) ?_
    refine aT (Pleq (Zc 4990) h58 (rs_t20 b_r7)) ?_
    refine rs_c5 h58 h60 h71 h72 h82 h73 h62 h85 h87 h80 b_r7 b_x3 b_z8 ?_
    refine ask_q (fun g => ?_) (fun g => ?_)
    · have k13 : ¬ ((z3 : Int) ≤ r7 + z8 + (-10)) := Zleqf h107 h111 g
      clear g
      have f13_0 := rs_f30 b_r7 b_z3 b_z8 b_x1 b_m123 b_m125 b_m4 k13 m123e m4e m125e
      have f13_1 := rs_f31 b_r7 b_z3 b_z8 b_x2 b_m124 b_m126 b_m5 k13 m124e m5e m126e
      exact rfl
    have k13 : (z3 : Int) ≤ r7 + z8 + (-10) := Zleqt h107 h111 g
    clear g
    have f13_0 := rs_f32 b_r7 b_z3 b_z8 b_x1 b_m123 b_m125 b_m4 k13 m123e m4e m125e
    have f13_1 := rs_f33 b_r7 b_z3 b_z8 b_x2 b_m124 b_m126 b_m5 k13 m124e m5e m126e
    refine ask_p (fun g => ?_) (fun g => ?_)
    · have k14 : (z58 + 9995000 : Int) ≤ (-1) * r7 + (-1) * z8 + 9995010 := Zleqt h323 h87 g
      clear g
      have f14_0 := rs_f89 b_r7 b_z58 b_z8 b_x1 b_m123 b_m125 b_m59 k14 m123e m59e m125e
      have f14_1 := rs_f90 b_r7 b_z58 b_z8 b_x2 b_m124 b_m126 b_m60 k14 m124e m60e m126e
      exact rfl
    have k14 : ¬ ((z58 + 9995000 : Int) ≤ (-1) * r7 + (-1) * z8 + 9995010) := Zleqf h323 h87 g
    clear g
    have f14_0 := rs_f91 b_r7 b_z58 b_z8 b_x1 b_m123 b_m125 b_m59 k14 m123e m59e m125e
    have f14_1 := rs_f92 b_r7 b_z58 b_z8 b_x2 b_m124 b_m126 b_m60 k14 m124e m60e m126e
    exact rfl
  have k0 : ¬ ((x4 : Int) ≤ 0) := Zleqf e4 (Zc 0) g
  clear g
  refine ask_p (fun g => ?_) (fun g => ?_)
  · have k1 : (x4 : Int) ≤ 1 := Zleqt e4 (Zc 1) g
    clear g
    refine ask_p (fun g => ?_) (fun g => ?_)
    · have k2 : (x5 : Int) ≤ 0 := Zleqt e5 (Zc 0) g
      clear g
      refine ask_q (fun g => ?_) (fun g => ?_)
      · have k3 : ¬ ((x5 : Int) ≤ 1) := Zleqf e5 (Zc 1) g
        clear g
        exact rs_d1 b_x5 k2 k3
      have k3 : (x5 : Int) ≤ 1 := Zleqt e5 (Zc 1) g
      clear g
      refine rs_c0 h2 h4 h6 b_x0 b_x1 b_x2 ?_
      refine rs_c1 h6 h9 h8 h10 h13 h14 b_x2 b_x3 b_m1 b_m2 b_x1 b_x0 ?_
      refine aT (Pleq (Zc (-10000000)) h332 (rs_t93 b_q61 b_q63 b_x0)) ?_
      refine aT (Pleq h332 h334 (rs_t94 b_q61 b_q63 b_x0)) ?_
      refine aT (Pleq h334 (Zc 10000000) (rs_t95 b_q61 b_q63 b_x0)) ?_
      refine aF (Neql h12 (Zc 0) (rs_t17 b_x1 b_x2)) ?_
      refine aT (Pleq (Zc (-10000000)) h20 (rs_t14 b_x0)) ?_
      refine aT (Pleq h20 h22 (rs_t15 b_x0)) ?_
      refine aT (Pleq h22 (Zc 10000000) (rs_t16 b_x0)) ?_
      refine aT (Pleq (Zc 0) h56 (rs_t18 b_z3)) ?_
      refine aT (Pleq h56 (Zc 10000000) (rs_t19 b_z3)) ?_
      refine aT (Pleq (Zc 4990) h58 (rs_t20 b_r7)) ?_
      refine aT (Pleq h58 (Zc 10000000) (rs_t21 b_r7)) ?_
      refine aT (Pleq (Zc 1) h60 (rs_t22 b_x3)) ?_
      refine aT (Pleq h60 (Zc 100000) (rs_t23 b_x3)) ?_
      refine aT (Pleq h71 h72 (rs_t24 )) ?_
      refine aT (Pleq h82 h73 (rs_t25 b_r7)) ?_
      refine aT (Pleq h62 h85 (rs_t24 )) ?_
      refine aT (Pleq h87 h80 (rs_t26 b_r7 b_z8)) ?_
      refine aT (Pleq h82 h85 (rs_t27 b_r7)) ?_
      refine aT (Pleq h87 h72 (rs_t28 b_r7 b_z8)) ?_
      refine aT (Pleq (Zc 0) h343 (rs_t96 b_q63)) ?_
      refine ask_q (fun g => ?_) (fun g => ?_)
      · have k24 : ¬ ((z65 : Int) ≤ r7 + z8 + (-10)) := Zleqf h356 h111 g
        clear g
        have f24_0 := rs_f97 b_r7 b_z65 b_z8 b_x1 b_m123 b_m125 b_m66 k24 m123e m66e m125e
        have f24_1 := rs_f98 b_r7 b_z65 b_z8 b_x2 b_m124 b_m126 b_m67 k24 m124e m67e m126e
        exact rfl
      have k24 : (z65 : Int) ≤ r7 + z8 + (-10) := Zleqt h356 h111 g
      clear g
      have f24_0 := rs_f99 b_r7 b_z65 b_z8 b_x1 b_m123 b_m125 b_m66 k24 m123e m66e m125e
      have f24_1 := rs_f100 b_r7 b_z65 b_z8 b_x2 b_m124 b_m126 b_m67 k24 m124e m67e m126e
      refine ask_p (fun g => ?_) (fun g => ?_)
      · have k25 : (z3 + 9995000 : Int) ≤ (-1) * r7 + (-1) * z8 + 9995010 := Zleqt h112 h87 g
        clear g
        have f25_0 := rs_f34 b_r7 b_z3 b_z8 b_x1 b_m123 b_m125 b_m4 k25 m123e m4e m125e
        have f25_1 := rs_f35 b_r7 b_z3 b_z8 b_x2 b_m124 b_m126 b_m5 k25 m124e m5e m126e
        exact rfl
      have k25 : ¬ ((z3 + 9995000 : Int) ≤ (-1) * r7 + (-1) * z8 + 9995010) := Zleqf h112 h87 g
      clear g
      have f25_0 := rs_f36 b_r7 b_z3 b_z8 b_x1 b_m123 b_m125 b_m4 k25 m123e m4e m125e
      have f25_1 := rs_f37 b_r7 b_z3 b_z8 b_x2 b_m124 b_m126 b_m5 k25 m124e m5e m126e
      exact rfl
    have k2 : ¬ ((x5 : Int) ≤ 0) := Zleqf e5 (Zc 0) g
    clear g
    refine ask_p (fun g => ?_) (fun g => ?_)
    · have k3 : (x5 : Int) ≤ 1 := Zleqt e5 (Zc 1) g
      clear g
      refine rs_c0 h2 h4 h6 b_x0 b_x1 b_x2 ?_
      refine rs_c1 h6 h9 h8 h10 h13 h14 b_x2 b_x3 b_m1 b_m2 b_x1 b_x0 ?_
      refine rs_c13 h332 h334 h12 h121 h123 b_q61 b_q63 b_x0 b_x1 b_x2 b_q11 b_q9 ?_
      refine rs_c3 h123 h140 b_q11 b_q9 b_x0 b_z13 ?_
      refine aT (Pleq (Zc 4990) h58 (rs_t20 b_r7)) ?_
      refine aT (Pleq h58 (Zc 10000000) (rs_t21 b_r7)) ?_
      refine aT (Pleq (Zc 1) h60 (rs_t22 b_x3)) ?_
      refine aT (Pleq h60 (Zc 100000) (rs_t23 b_x3)) ?_
      refine aT (Pleq h71 h72 (rs_t24 )) ?_
      refine aT (Pleq h82 h73 (rs_t25 b_r7)) ?_
      refine aT (Pleq h62 h85 (rs_t24 )) ?_
      refine aT (Pleq h87 h80 (rs_t26 b_r7 b_z8)) ?_
      refine aT (Pleq h82 h85 (rs_t27 b_r7)) ?_
      refine aT (Pleq h87 h72 (rs_t28 b_r7 b_z8)) ?_
      refine aT (Pleq (Zc 0) h363 (rs_t101 b_q11 b_q63)) ?_
      refine ask_q (fun g => ?_) (fun g => ?_)
      · have k15 : ¬ ((z65 : Int) ≤ r7 + z8 + (-10)) := Zleqf h356 h111 g
        clear g
        have f15_0 := rs_f97 b_r7 b_z65 b_z8 b_x1 b_m123 b_m125 b_m66 k15 m123e m66e m125e
        have f15_1 := rs_f98 b_r7 b_z65 b_z8 b_x2 b_m124 b_m126 b_m67 k15 m124e m67e m126e
        exact rfl
      have k15 : (z65 : Int) ≤ r7 + z8 + (-10) := Zleqt h356 h111 g
      clear g
      have f15_0 := rs_f99 b_r7 b_z65 b_z8 b_x1 b_m123 b_m125 b_m66 k15 m123e m66e m125e
      have f15_1 := rs_f100 b_r7 b_z65 b_z8 b_x2 b_m124 b_m126 b_m67 k15 m124e m67e m126e
      refine ask_p (fun g => ?_) (fun g => ?_)
      · have k16 : (z13 + 9995000 : Int) ≤ (-1) * r7 + (-1) * z8 + 9995010 := Zleqt h148 h87 g
        clear g
        have f16_0 := rs_f44 b_r7 b_z13 b_z8 b_x1 b_m123 b_m125 b_m14 k16 m123e m14e m125e
        have f16_1 := rs_f45 b_r7 b_z13 b_z8 b_x2 b_m124 b_m126 b_m15 k16 m124e m15e m126e
        exact rfl
      have k16 : ¬ ((z13 + 9995000 : Int) ≤ (-1) * r7 + (-1) * z8 + 9995010) := Zleqf h148 h87 g
      clear g
      have f16_0 := rs_f46 b_r7 b_z13 b_z8 b_x1 b_m123 b_m125 b_m14 k16 m123e m14e m125e
      have f16_1 := rs_f47 b_r7 b_z13 b_z8 b_x2 b_m124 b_m126 b_m15 k16 m124e m15e m126e
      exact rfl
    have k3 : ¬ ((x5 : Int) ≤ 1) := Zleqf e5 (Zc 1) g
    clear g
    refine ask_p (fun g => ?_) (fun g => ?_)
    · have k4 : (x5 : Int) ≤ 2 := Zleqt e5 (Zc 2) g
      clear g
      refine rs_c0 h2 h4 h6 b_x0 b_x1 b_x2 ?_
      refine rs_c1 h6 h9 h8 h10 h13 h14 b_x2 b_x3 b_m1 b_m2 b_x1 b_x0 ?_
      refine rs_c13 h332 h334 h12 h121 h123 b_q61 b_q63 b_x0 b_x1 b_x2 b_q11 b_q9 ?_
      refine aT (Pleq h123 h158 (rs_t48 b_q11 b_q9 b_x0 b_q16 b_q18)) ?_
      refine rs_c4 h158 h160 h182 h58 b_q16 b_q18 b_x0 b_z22 b_r7 ?_
      refine rs_c5 h58 h60 h71 h72 h82 h73 h62 h85 h87 h80 b_r7 b_x3 b_z8 ?_
      refine ask_q (fun g => ?_) (fun g => ?_)
      · have k6 : ¬ ((z65 : Int) ≤ r7 + z8 + (-10)) := Zleqf h356 h111 g
        clear g
        have f6_0 := rs_f97 b_r7 b_z65 b_z8 b_x1 b_m123 b_m125 b_m66 k6 m123e m66e m125e
        have f6_1 := rs_f98 b_r7 b_z65 b_z8 b_x2 b_m124 b_m126 b_m67 k6 m124e m67e m126e
        exact rfl
      have k6 : (z65 : Int) ≤ r7 + z8 + (-10) := Zleqt h356 h111 g
      clear g
      have f6_0 := rs_f99 b_r7 b_z65 b_z8 b_x1 b_m123 b_m125 b_m66 k6 m123e m66e m125e
      have f6_1 := rs_f100 b_r7 b_z65 b_z8 b_x2 b_m124 b_m126 b_m67 k6 m124e m67e m126e
      refine ask_p (fun g => ?_) (fun g => ?_)
      · have k7 : (z22 + 9995000 : Int) ≤ (-1) * r7 + (-1) * z8 + 9995010 := Zleqt h183 h87 g
        clear g
        have f7_0 := rs_f53 b_r7 b_z22 b_z8 b_x1 b_m123 b_m125 b_m23 k7 m123e m23e m125e
        have f7_1 := rs_f54 b_r7 b_z22 b_z8 b_x2 b_m124 b_m126 b_m24 k7 m124e m24e m126e
        exact rfl
      have k7 : ¬ ((z22 + 9995000 : Int) ≤ (-1) * r7 + (-1) * z8 + 9995010) := Zleqf h183 h87 g
      clear g
      have f7_0 := rs_f55 b_r7 b_z22 b_z8 b_x1 b_m123 b_m125 b_m23 k7 m123e m23e m125e
      have f7_1 := rs_f56 b_r7 b_z22 b_z8 b_x2 b_m124 b_m126 b_m24 k7 m124e m24e m126e
      exact rfl
    have k4 : ¬ ((x5 : Int) ≤ 2) := Zleqf e5 (Zc 2) g
    clear g
    refine ask_p (fun g => ?_) (fun g => ?_)
    · have k5 : (x5 : Int) ≤ 3 := Zleqt e5 (Zc 3) g
      clear g
      refine rs_c0 h2 h4 h6 b_x0 b_x1 b_x2 ?_
      refine rs_c1 h6 h9 h8 h10 h13 h14 b_x2 b_x3 b_m1 b_m2 b_x1 b_x0 ?_
      refine rs_c13 h332 h334 h12 h121 h123 b_q61 b_q63 b_x0 b_x1 b_x2 b_q11 b_q9 ?_
      refine aT (Pleq h123 h158 (rs_t48 b_q11 b_q9 b_x0 b_q16 b_q18)) ?_
      refine rs_c6 h158 h160 h193 h195 h217 h58 b_q16 b_q18 b_x0 b_q25 b_q27 b_z31 b_r7 ?_
      refine rs_c5 h58 h60 h71 h72 h82 h73 h62 h85 h87 h80 b_r7 b_x3 b_z8 ?_
      refine ask_q (fun g => ?_) (fun g => ?_)
      · have k7 : ¬ ((z65 : Int) ≤ r7 + z8 + (-10)) := Zleqf h356 h111 g
        clear g
        have f7_0 := rs_f97 b_r7 b_z65 b_z8 b_x1 b_m123 b_m125 b_m66 k7 m123e m66e m125e
        have f7_1 := rs_f98 b_r7 b_z65 b_z8 b_x2 b_m124 b_m126 b_m67 k7 m124e m67e m126e
        exact rfl
      have k7 : (z65 : Int) ≤ r7 + z8 + (-10) := Zleqt h356 h111 g
      clear g
      have f7_0 := rs_f99 b_r7 b_z65 b_z8 b_x1 b_m123 b_m125 b_m66 k7 m123e m66e m125e
      have f7_1 := rs_f100 b_r7 b_z65 b_z8 b_x2 b_m124 b_m126 b_m67 k7 m124e m67e m126e
      refine ask_p (fun g => ?_) (fun g => ?_)
      · have k8 : (z31 + 9995000 : Int) ≤ (-1) * r7 + (-1) * z8 + 9995010 := Zleqt h218 h87 g
        clear g
        have f8_0 := rs_f62 b_r7 b_z31 b_z8 b_x1 b_m123 b_m125 b_m32 k8 m123e m32e m125e
        have f8_1 := rs_f63 b_r7 b_z31 b_z8 b_x2 b_m124 b_m126 b_m33 k8 m124e m33e m126e
        exact rfl
      have k8 : ¬ ((z31 + 9995000 : Int) ≤ (-1) * r7 + (-1) * z8 + 9995010) := Zleqf h218 h87 g
      clear g
      have f8_0 := rs_f64 b_r7 b_z31 b_z8 b_x1 b_m123 b_m125 b_m32 k8 m123e m32e m125e
      have f8_1 := rs_f65 b_r7 b_z31 b_z8 b_x2 b_m124 b_m126 b_m33 k8 m124e m33e m126e
      exact rfl
    have k5 : ¬ ((x5 : Int) ≤ 3) := Zleqf e5 (Zc 3) g
    clear g
    refine ask_p (fun g => ?_) (fun g => ?_)
    · have k6 : (x5 : Int) ≤ 4 := Zleqt e5 (Zc 4) g
      clear g
      refine rs_c0 h2 h4 h6 b_x0 b_x1 b_x2 ?_
      refine rs_c1 h6 h9 h8 h10 h13 h14 b_x2 b_x3 b_m1 b_m2 b_x1 b_x0 ?_
      refine rs_c13 h332 h334 h12 h121 h123 b_q61 b_q63 b_x0 b_x1 b_x2 b_q11 b_q9 ?_
      refine aT (Pleq h123 h158 (rs_t48 b_q11 b_q9 b_x0 b_q16 b_q18)) ?_
      refine rs_c7 h158 h160 h193 h195 h228 b_q16 b_q18 b_x0 b_q25 b_q27 b_q34 b_q36 ?_
      refine rs_c8 h228 h230 b_q34 b_q36 b_x0 ?_
      refine aT (Pleq (Zc 0) h252 (rs_t69 b_z40)) ?_
      refine rs_c9 h252 h58 b_z40 b_r7 ?_
      refine rs_c5 h58 h60 h71 h72 h82 h73 h62 h85 h87 h80 b_r7 b_x3 b_z8 ?_
      refine ask_q (fun g => ?_) (fun g => ?_)
      · have k9 : ¬ ((z65 : Int) ≤ r7 + z8 + (-10)) := Zleqf h356 h111 g
        clear g
        have f9_0 := rs_f97 b_r7 b_z65 b_z8 b_x1 b_m123 b_m125 b_m66 k9 m123e m66e m125e
        have f9_1 := rs_f98 b_r7 b_z65 b_z8 b_x2 b_m124 b_m126 b_m67 k9 m124e m67e m126e
        exact rfl
      have k9 : (z65 : Int) ≤ r7 + z8 + (-10) := Zleqt h356 h111 g
      clear g
      have f9_0 := rs_f99 b_r7 b_z65 b_z8 b_x1 b_m123 b_m125 b_m66 k9 m123e m66e m125e
      have f9_1 := rs_f100 b_r7 b_z65 b_z8 b_x2 b_m124 b_m126 b_m67 k9 m124e m67e m126e
      refine ask_p (fun g => ?_) (fun g => ?_)
      · have k10 : (z40 + 9995000 : Int) ≤ (-1) * r7 + (-1) * z8 + 9995010 := Zleqt h253 h87 g
        clear g
        have f10_0 := rs_f71 b_r7 b_z40 b_z8 b_x1 b_m123 b_m125 b_m41 k10 m123e m41e m125e
        have f10_1 := rs_f72 b_r7 b_z40 b_z8 b_x2 b_m124 b_m126 b_m42 k10 m124e m42e m126e
        exact rfl
      have k10 : ¬ ((z40 + 9995000 : Int) ≤ (-1) * r7 + (-1) * z8 + 9995010) := Zleqf h253 h87 g
      clear g
      have f10_0 := rs_f73 b_r7 b_z40 b_z8 b_x1 b_m123 b_m125 b_m41 k10 m123e m41e m125e
      have f10_1 := rs_f74 b_r7 b_z40 b_z8 b_x2 b_m124 b_m126 b_m42 k10 m124e m42e m126e
      exact rfl
    have k6 : ¬ ((x5 : Int) ≤ 4) := Zleqf e5 (Zc 4) g
    clear g
    refine ask_p (fun g => ?_) (fun g => ?_)
    · have k7 : (x5 : Int) ≤ 5 := Zleqt e5 (Zc 5) g
      clear g
      refine rs_c0 h2 h4 h6 b_x0 b_x1 b_x2 ?_
      refine rs_c1 h6 h9 h8 h10 h13 h14 b_x2 b_x3 b_m1 b_m2 b_x1 b_x0 ?_
      refine rs_c13 h332 h334 h12 h121 h123 b_q61 b_q63 b_x0 b_x1 b_x2 b_q11 b_q9 ?_
      refine aT (Pleq h123 h158 (rs_t48 b_q11 b_q9 b_x0 b_q16 b_q18)) ?_
      refine rs_c7 h158 h160 h193 h195 h228 b_q16 b_q18 b_x0 b_q25 b_q27 b_q34 b_q36 ?_
      refine rs_c10 h228 h230 h263 h265 h287 h58 b_q34 b_q36 b_x0 b_q43 b_q45 b_z49 b_r7 ?_
      refine rs_c5 h58 h60 h71 h72 h82 h73 h62 h85 h87 h80 b_r7 b_x3 b_z8 ?_
      refine ask_q (fun g => ?_) (fun g => ?_)
      · have k9 : ¬ ((z65 : Int) ≤ r7 + z8 + (-10)) := Zleqf h356 h111 g
        clear g
        have f9_0 := rs_f97 b_r7 b_z65 b_z8 b_x1 b_m123 b_m125 b_m66 k9 m123e m66e m125e
        have f9_1 := rs_f98 b_r7 b_z65 b_z8 b_x2 b_m124 b_m126 b_m67 k9 m124e m67e m126e
        exact rfl
      have k9 : (z65 : Int) ≤ r7 + z8 + (-10) := Zleqt h356 h111 g
      clear g
      have f9_0 := rs_f99 b_r7 b_z65 b_z8 b_x1 b_m123 b_m125 b_m66 k9 m123e m66e m125e
      have f9_1 := rs_f100 b_r7 b_z65 b_z8 b_x2 b_m124 b_m126 b_m67 k9 m124e m67e m126e
      refine ask_p (fun g => ?_) (fun g => ?_)
      · have k10 : (z49 + 9995000 : Int) ≤ (-1) * r7 + (-1) * z8 + 9995010 := Zleqt h288 h87 g
        clear g
        have f10_0 := rs_f80 b_r7 b_z49 b_z8 b_x1 b_m123 b_m125 b_m50 k10 m123e m50e m125e
        have f10_1 := rs_f81 b_r7 b_z49 b_z8 b_x2 b_m124 b_m126 b_m51 k10 m124e m51e m126e
        exact rfl
      have k10 : ¬ ((z49 + 9995000 : Int) ≤ (-1) * r7 + (-1) * z8 + 9995010) := Zleqf h288 h87 g
      clear g
      have f10_0 := rs_f82 b_r7 b_z49 b_z8 b_x1 b_m123 b_m125 b_m50 k10 m123e m50e m125e
      have f10_1 := rs_f83 b_r7 b_z49 b_z8 b_x2 b_m124 b_m126 b_m51 k10 m124e m51e m126e
      exact rfl
    have k7 : ¬ ((x5 : Int) ≤ 5) := Zleqf e5 (Zc 5) g
    clear g
    refine ask_p (fun g => ?_) (fun g => ?_)
    · have k8 : (x5 : Int) ≤ 6 := Zleqt e5 (Zc 6) g
      clear g
      refine rs_c0 h2 h4 h6 b_x0 b_x1 b_x2 ?_
      refine rs_c1 h6 h9 h8 h10 h13 h14 b_x2 b_x3 b_m1 b_m2 b_x1 b_x0 ?_
      refine rs_c13 h332 h334 h12 h121 h123 b_q61 b_q63 b_x0 b_x1 b_x2 b_q11 b_q9 ?_
      refine aT (Pleq h123 h158 (rs_t48 b_q11 b_q9 b_x0 b_q16 b_q18)) ?_
      refine rs_c7 h158 h160 h193 h195 h228 b_q16 b_q18 b_x0 b_q25 b_q27 b_q34 b_q36 ?_
      refine rs_c11 h228 h230 h263 h265 h298 b_q34 b_q36 b_x0 b_q43 b_q45 b_q52 b_q54 ?_
      refine aT (Pleq h298 h300 (rs_t85 b_q52 b_q54 b_x0)) ?_
      refine rs_c12 h300 h322 b_q52 b_q54 b_x0 b_z58 ?_
      refine aT (Pleq h322 (Zc 10000000) (rs_t88 b_z58)) ?_
      refine aT (Pleq (Zc 4990) h58 (rs_t20 b_r7)) ?_
      refine rs_c5 h58 h60 h71 h72 h82 h73 h62 h85 h87 h80 b_r7 b_x3 b_z8 ?_
      refine ask_q (fun g => ?_) (fun g => ?_)
      · have k13 : ¬ ((z65 : Int) ≤ r7 + z8 + (-10)) := Zleqf h356 h111 g
        clear g
        have f13_0 := rs_f97 b_r7 b_z65 b_z8 b_x1 b_m123 b_m125 b_m66 k13 m123e m66e m125e
        have f13_1 := rs_f98 b_r7 b_z65 b_z8 b_x2 b_m124 b_m126 b_m67 k13 m124e m67e m126e
        exact rfl
      have k13 : (z65 : Int) ≤ r7 + z8 + (-10) := Zleqt h356 h111 g
      clear g
      have f13_0 := rs_f99 b_r7 b_z65 b_z8 b_x1 b_m123 b_m125 b_m66 k13 m123e m66e m125e
      have f13_1 := rs_f100 b_r7 b_z65 b_z8 b_x2 b_m124 b_m126 b_m67 k13 m124e m67e m126e
      refine ask_p (fun g => ?_) (fun g => ?_)
      · have k14 : (z58 + 9995000 : Int) ≤ (-1) * r7 + (-1) * z8 + 9995010 := Zleqt h323 h87 g
        clear g
        have f14_0 := rs_f89 b_r7 b_z58 b_z8 b_x1 b_m123 b_m125 b_m59 k14 m123e m59e m125e
        have f14_1 := rs_f90 b_r7 b_z58 b_z8 b_x2 b_m124 b_m126 b_m60 k14 m124e m60e m126e
        exact rfl
      have k14 : ¬ ((z58 + 9995000 : Int) ≤ (-1) * r7 + (-1) * z8 + 9995010) := Zleqf h323 h87 g
      clear g
      have f14_0 := rs_f91 b_r7 b_z58 b_z8 b_x1 b_m123 b_m125 b_m59 k14 m123e m59e m125e
      have f14_1 := rs_f92 b_r7 b_z58 b_z8 b_x2 b_m124 b_m126 b_m60 k14 m124e m60e m126e
      exact rfl
    have k8 : ¬ ((x5 : Int) ≤ 6) := Zleqf e5 (Zc 6) g
    clear g
    refine rs_c0 h2 h4 h6 b_x0 b_x1 b_x2 ?_
    refine rs_c1 h6 h9 h8 h10 h13 h14 b_x2 b_x3 b_m1 b_m2 b_x1 b_x0 ?_
    refine rs_c13 h332 h334 h12 h121 h123 b_q61 b_q63 b_x0 b_x1 b_x2 b_q11 b_q9 ?_
    refine aT (Pleq h123 h158 (rs_t48 b_q11 b_q9 b_x0 b_q16 b_q18)) ?_
    refine rs_c7 h158 h160 h193 h195 h228 b_q16 b_q18 b_x0 b_q25 b_q27 b_q34 b_q36 ?_
    refine rs_c11 h228 h230 h263 h265 h298 b_q34 b_q36 b_x0 b_q43 b_q45 b_q52 b_q54 ?_
    refine aT (Pleq h298 h300 (rs_t85 b_q52 b_q54 b_x0)) ?_
    refine rs_c12 h300 h322 b_q52 b_q54 b_x0 b_z58 ?_
    refine aT (Pleq h322 (Zc 10000000) (rs_t88 b_z58)) ?_
    refine aT (Pleq (Zc 4990) h58 (rs_t20 b_r7)) ?_
    refine rs_c5 h58 h60 h71 h72 h82 h73 h62 h85 h87 h80 b_r7 b_x3 b_z8 ?_
    refine ask_q (fun g => ?_) (fun g => ?_)
    · have k13 : ¬ ((z65 : Int) ≤ r7 + z8 + (-10)) := Zleqf h356 h111 g
      clear g
      have f13_0 := rs_f97 b_r7 b_z65 b_z8 b_x1 b_m123 b_m125 b_m66 k13 m123e m66e m125e
      have f13_1 := rs_f98 b_r7 b_z65 b_z8 b_x2 b_m124 b_m126 b_m67 k13 m124e m67e m126e
      exact rfl
    have k13 : (z65 : Int) ≤ r7 + z8 + (-10) := Zleqt h356 h111 g
    clear g
    have f13_0 := rs_f99 b_r7 b_z65 b_z8 b_x1 b_m123 b_m125 b_m66 k13 m123e m66e m125e
    have f13_1 := rs_f100 b_r7 b_z65 b_z8 b_x2 b_m124 b_m126 b_m67 k13 m124e m67e m126e
    refine ask_p (fun g => ?_) (fun g => ?_)
    · have k14 : (z58 + 9995000 : Int) ≤ (-1) * r7 + (-1) * z8 + 9995010 := Zleqt h323 h87 g
      clear g
      have f14_0 := rs_f89 b_r7 b_z58 b_z8 b_x1 b_m123 b_m125 b_m59 k14 m123e m59e m125e
      have f14_1 := rs_f90 b_r7 b_z58 b_z8 b_x2 b_m124 b_m126 b_m60 k14 m124e m60e m126e
      exact rfl
    have k14 : ¬ ((z58 + 9995000 : Int) ≤ (-1) * r7 + (-1) * z8 + 9995010) := Zleqf h323 h87 g
    clear g
    have f14_0 := rs_f91 b_r7 b_z58 b_z8 b_x1 b_m123 b_m125 b_m59 k14 m123e m59e m125e
    have f14_1 := rs_f92 b_r7 b_z58 b_z8 b_x2 b_m124 b_m126 b_m60 k14 m124e m60e m126e
    exact rfl
  have k1 : ¬ ((x4 : Int) ≤ 1) := Zleqf e4 (Zc 1) g
  clear g
  refine ask_p (fun g => ?_) (fun g => ?_)
  · have k2 : (x4 : Int) ≤ 2 := Zleqt e4 (Zc 2) g
    clear g
    refine ask_p (fun g => ?_) (fun g => ?_)
    · have k3 : (x5 : Int) ≤ 0 := Zleqt e5 (Zc 0) g
      clear g
      refine ask_q (fun g => ?_) (fun g => ?_)
      · have k4 : ¬ ((x5 : Int) ≤ 1) := Zleqf e5 (Zc 1) g
        clear g
        exact rs_d1 b_x5 k3 k4
      have k4 : (x5 : Int) ≤ 1 := Zleqt e5 (Zc 1) g
      clear g
      refine rs_c0 h2 h4 h6 b_x0 b_x1 b_x2 ?_
      refine rs_c1 h6 h9 h8 h10 h13 h14 b_x2 b_x3 b_m1 b_m2 b_x1 b_x0 ?_
      refine rs_c14 h332 h334 h372 h374 b_q61 b_q63 b_x0 b_q68 b_q70 ?_
      refine aF (Neql h12 (Zc 0) (rs_t17 b_x1 b_x2)) ?_
      refine aT (Pleq (Zc (-10000000)) h20 (rs_t14 b_x0)) ?_
      refine aT (Pleq h20 h22 (rs_t15 b_x0)) ?_
      refine aT (Pleq h22 (Zc 10000000) (rs_t16 b_x0)) ?_
      refine aT (Pleq (Zc 0) h56 (rs_t18 b_z3)) ?_
      refine aT (Pleq h56 (Zc 10000000) (rs_t19 b_z3)) ?_
      refine aT (Pleq (Zc 4990) h58 (rs_t20 b_r7)) ?_
      refine rs_c5 h58 h60 h71 h72 h82 h73 h62 h85 h87 h80 b_r7 b_x3 b_z8 ?_
      refine ask_q (fun g => ?_) (fun g => ?_)
      · have k12 : ¬ ((z74 : Int) ≤ r7 + z8 + (-10)) := Zleqf h389 h111 g
        clear g
        have f12_0 := rs_f105 b_r7 b_z74 b_z8 b_x1 b_m123 b_m125 b_m75 k12 m123e m75e m125e
        have f12_1 := rs_f106 b_r7 b_z74 b_z8 b_x2 b_m124 b_m126 b_m76 k12 m124e m76e m126e
        exact rfl
      have k12 : (z74 : Int) ≤ r7 + z8 + (-10) := Zleqt h389 h111 g
      clear g
      have f12_0 := rs_f107 b_r7 b_z74 b_z8 b_x1 b_m123 b_m125 b_m75 k12 m123e m75e m125e
      have f12_1 := rs_f108 b_r7 b_z74 b_z8 b_x2 b_m124 b_m126 b_m76 k12 m124e m76e m126e
      refine ask_p (fun g => ?_) (fun g => ?_)
      · have k13 : (z3 + 9995000 : Int) ≤ (-1) * r7 + (-1) * z8 + 9995010 := Zleqt h112 h87 g
        clear g
        have f13_0 := rs_f34 b_r7 b_z3 b_z8 b_x1 b_m123 b_m125 b_m4 k13 m123e m4e m125e
        have f13_1 := rs_f35 b_r7 b_z3 b_z8 b_x2 b_m124 b_m126 b_m5 k13 m124e m5e m126e
        exact rfl
      have k13 : ¬ ((z3 + 9995000 : Int) ≤ (-1) * r7 + (-1) * z8 + 9995010) := Zleqf h112 h87 g
      clear g
      have f13_0 := rs_f36 b_r7 b_z3 b_z8 b_x1 b_m123 b_m125 b_m4 k13 m123e m4e m125e
      have f13_1 := rs_f37 b_r7 b_z3 b_z8 b_x2 b_m124 b_m126 b_m5 k13 m124e m5e m126e
      exact rfl
    have k3 : ¬ ((x5 : Int) ≤ 0) := Zleqf e5 (Zc 0) g
    clear g
    refine ask_p (fun g => ?_) (fun g => ?_)
    · have k4 : (x5 : Int) ≤ 1 := Zleqt e5 (Zc 1) g
      clear g
      refine rs_c0 h2 h4 h6 b_x0 b_x1 b_x2 ?_
      refine rs_c1 h6 h9 h8 h10 h13 h14 b_x2 b_x3 b_m1 b_m2 b_x1 b_x0 ?_
      refine rs_c14 h332 h334 h372 h374 b_q61 b_q63 b_x0 b_q68 b_q70 ?_
      refine rs_c15 h12 h121 h123 b_x1 b_x2 b_q11 b_q9 b_x0 ?_
      refine rs_c3 h123 h140 b_q11 b_q9 b_x0 b_z13 ?_
      refine aT (Pleq (Zc 4990) h58 (rs_t20 b_r7)) ?_
      refine rs_c5 h58 h60 h71 h72 h82 h73 h62 h85 h87 h80 b_r7 b_x3 b_z8 ?_
      refine ask_q (fun g => ?_) (fun g => ?_)
      · have k6 : ¬ ((z74 : Int) ≤ r7 + z8 + (-10)) := Zleqf h389 h111 g
        clear g
        have f6_0 := rs_f105 b_r7 b_z74 b_z8 b_x1 b_m123 b_m125 b_m75 k6 m123e m75e m125e
        have f6_1 := rs_f106 b_r7 b_z74 b_z8 b_x2 b_m124 b_m126 b_m76 k6 m124e m76e m126e
        exact rfl
      have k6 : (z74 : Int) ≤ r7 + z8 + (-10) := Zleqt h389 h111 g
      clear g
      have f6_0 := rs_f107 b_r7 b_z74 b_z8 b_x1 b_m123 b_m125 b_m75 k6 m123e m75e m125e
      have f6_1 := rs_f108 b_r7 b_z74 b_z8 b_x2 b_m124 b_m126 b_m76 k6 m124e m76e m126e
      refine ask_p (fun g => ?_) (fun g => ?_)
      · have k7 : (z13 + 9995000 : Int) ≤ (-1) * r7 + (-1) * z8 + 9995010 := Zleqt h148 h87 g
        clear g
        have f7_0 := rs_f44 b_r7 b_z13 b_z8 b_x1 b_m123 b_m125 b_m14 k7 m123e m14e m125e
        have f7_1 := rs_f45 b_r7 b_z13 b_z8 b_x2 b_m124 b_m126 b_m15 k7 m124e m15e m126e
        exact rfl
      have k7 : ¬ ((z13 + 9995000 : Int) ≤ (-1) * r7 + (-1) * z8 + 9995010) := Zleqf h148 h87 g
      clear g
      have f7_0 := rs_f46 b_r7 b_z13 b_z8 b_x1 b_m123 b_m125 b_m14 k7 m123e m14e m125e
      have f7_1 := rs_f47 b_r7 b_z13 b_z8 b_x2 b_m124 b_m126 b_m15 k7 m124e m15e m126e
      exact rfl
    have k4 : ¬ ((x5 : Int) ≤ 1) := Zleqf e5 (Zc 1) g
    clear g
    refine ask_p (fun g => ?_) (fun g => ?_)
    · have k5 : (x5 : Int) ≤ 2 := Zleqt e5 (Zc 2) g
      clear g
      refine rs_c0 h2 h4 h6 b_x0 b_x1 b_x2 ?_
      refine rs_c1 h6 h9 h8 h10 h13 h14 b_x2 b_x3 b_m1 b_m2 b_x1 b_x0 ?_
      refine rs_c14 h332 h334 h372 h374 b_q61 b_q63 b_x0 b_q68 b_q70 ?_
      refine rs_c15 h12 h121 h123 b_x1 b_x2 b_q11 b_q9 b_x0 ?_
      refine aT (Pleq h123 h158 (rs_t48 b_q11 b_q9 b_x0 b_q16 b_q18)) ?_
      refine rs_c4 h158 h160 h182 h58 b_q16 b_q18 b_x0 b_z22 b_r7 ?_
      refine rs_c5 h58 h60 h71 h72 h82 h73 h62 h85 h87 h80 b_r7 b_x3 b_z8 ?_
      refine ask_p (fun g => ?_) (fun g => ?_)
      · have k7 : (0 : Int) ≤ u77 + (-1) * u78 := Zleqt (Zc 0) h396 g
        clear g
        refine ask_q (fun g => ?_) (fun g => ?_)
        · have k8 : ¬ ((z74 : Int) ≤ r7 + z8 + (-10)) := Zleqf h389 h111 g
          clear g
          have f8_0 := rs_f105 b_r7 b_z74 b_z8 b_x1 b_m123 b_m125 b_m75 k8 m123e m75e m125e
          have f8_1 := rs_f106 b_r7 b_z74 b_z8 b_x2 b_m124 b_m126 b_m76 k8 m124e m76e m126e
          exact rfl
        have k8 : (z74 : Int) ≤ r7 + z8 + (-10) := Zleqt h389 h111 g
        clear g
        have f8_0 := rs_f107 b_r7 b_z74 b_z8 b_x1 b_m123 b_m125 b_m75 k8 m123e m75e m125e
        have f8_1 := rs_f108 b_r7 b_z74 b_z8 b_x2 b_m124 b_m126 b_m76 k8 m124e m76e m126e
        refine ask_p (fun g => ?_) (fun g => ?_)
        · have k9 : (z22 + 9995000 : Int) ≤ (-1) * r7 + (-1) * z8 + 9995010 := Zleqt h183 h87 g
          clear g
          have f9_0 := rs_f53 b_r7 b_z22 b_z8 b_x1 b_m123 b_m125 b_m23 k9 m123e m23e m125e
          have f9_1 := rs_f54 b_r7 b_z22 b_z8 b_x2 b_m124 b_m126 b_m24 k9 m124e m24e m126e
          exact rfl
        have k9 : ¬ ((z22 + 9995000 : Int) ≤ (-1) * r7 + (-1) * z8 + 9995010) := Zleqf h183 h87 g
        clear g
        have f9_0 := rs_f55 b_r7 b_z22 b_z8 b_x1 b_m123 b_m125 b_m23 k9 m123e m23e m125e
        have f9_1 := rs_f56 b_r7 b_z22 b_z8 b_x2 b_m124 b_m126 b_m24 k9 m124e m24e m126e
        exact rfl
      have k7 : ¬ ((0 : Int) ≤ u77 + (-1) * u78) := Zleqf (Zc 0) h396 g
      clear g
      refine ask_q (fun g => ?_) (fun g => ?_)
      · have k8 : ¬ ((z74 : Int) ≤ r7 + z8 + (-10)) := Zleqf h389 h111 g
        clear g
        have f8_0 := rs_f105 b_r7 b_z74 b_z8 b_x1 b_m123 b_m125 b_m75 k8 m123e m75e m125e
        have f8_1 := rs_f106 b_r7 b_z74 b_z8 b_x2 b_m124 b_m126 b_m76 k8 m124e m76e m126e
        exact rfl
      have k8 : (z74 : Int) ≤ r7 + z8 + (-10) := Zleqt h389 h111 g
      clear g
      have f8_0 := rs_f107 b_r7 b_z74 b_z8 b_x1 b_m123 b_m125 b_m75 k8 m123e m75e m125e
      have f8_1 := rs_f108 b_r7 b_z74 b_z8 b_x2 b_m124 b_m126 b_m76 k8 m124e m76e m126e
      refine ask_p (fun g => ?_) (fun g => ?_)
      · have k9 : (z22 + 9995000 : Int) ≤ (-1) * r7 + (-1) * z8 + 9995010 := Zleqt h183 h87 g
        clear g
        have f9_0 := rs_f53 b_r7 b_z22 b_z8 b_x1 b_m123 b_m125 b_m23 k9 m123e m23e m125e
        have f9_1 := rs_f54 b_r7 b_z22 b_z8 b_x2 b_m124 b_m126 b_m24 k9 m124e m24e m126e
        exact rs_d2 b_m123 b_m124 b_m125 b_m126 b_m23 b_m24 b_m75 b_m76 b_r7 b_u20 b_u21 b_u72 b_u73 b_u77 b_u78 b_x1 b_x2 b_x3 b_z22 b_z74 b_z8 k8 k9 z22s z8s z74s f8_0 f8_1 f9_0 f9_1 s0 s1 m23f1 m23f2 m23f3 m23f4 m24f1 m24f2 m24f3 m24f4 m75f1 m75f2 m75f3 m75f4 m76f1 m76f2 m76f3 m76f4 m123f1 m123f2 m123f3 m123f4 m125f1 m125f2 m125f3 m125f4 m124f1 m124f2 m124f3 m124f4 m126f1 m126f2 m126f3 m126f4 k7
      have k9 : ¬ ((z22 + 9995000 : Int) ≤ (-1) * r7 + (-1) * z8 + 9995010) := Zleqf h183 h87 g
      clear g
      have f9_0 := rs_f55 b_r7 b_z22 b_z8 b_x1 b_m123 b_m125 b_m23 k9 m123e m23e m125e
      have f9_1 := rs_f56 b_r7 b_z22 b_z8 b_x2 b_m124 b_m126 b_m24 k9 m124e m24e m126e
      exact rfl
    have k5 : ¬ ((x5 : Int) ≤ 2) := Zleqf e5 (Zc 2) g
    clear g
    refine ask_p (fun g => ?_) (fun g => ?_)
    · have k6 : (x5 : Int) ≤ 3 := Zleqt e5 (Zc 3) g
      clear g
      refine rs_c0 h2 h4 h6 b_x0 b_x1 b_x2 ?_
      refine rs_c1 h6 h9 h8 h10 h13 h14 b_x2 b_x3 b_m1 b_m2 b_x1 b_x0 ?_
      refine rs_c14 h332 h334 h372 h374 b_q61 b_q63 b_x0 b_q68 b_q70 ?_
      refine rs_c15 h12 h121 h123 b_x1 b_x2 b_q11 b_q9 b_x0 ?_
      refine aT (Pleq h123 h158 (rs_t48 b_q11 b_q9 b_x0 b_q16 b_q18)) ?_
      refine rs_c6 h158 h160 h193 h195 h217 h58 b_q16 b_q18 b_x0 b_q25 b_q27 b_z31 b_r7 ?_
      refine rs_c5 h58 h60 h71 h72 h82 h73 h62 h85 h87 h80 b_r7 b_x3 b_z8 ?_
      refine ask_q (fun g => ?_) (fun g => ?_)
      · have k8 : ¬ ((z74 : Int) ≤ r7 + z8 + (-10)) := Zleqf h389 h111 g
        clear g
        have f8_0 := rs_f105 b_r7 b_z74 b_z8 b_x1 b_m123 b_m125 b_m75 k8 m123e m75e m125e
        have f8_1 := rs_f106 b_r7 b_z74 b_z8 b_x2 b_m124 b_m126 b_m76 k8 m124e m76e m126e
        exact rfl
      have k8 : (z74 : Int) ≤ r7 + z8 + (-10) := Zleqt h389 h111 g
      clear g
      have f8_0 := rs_f107 b_r7 b_z74 b_z8 b_x1 b_m123 b_m125 b_m75 k8 m123e m75e m125e
      have f8_1 := rs_f108 b_r7 b_z74 b_z8 b_x2 b_m124 b_m126 b_m76 k8 m124e m76e m126e
      refine ask_p (fun g => ?_) (fun g => ?_)
      · have k9 : (z31 + 9995000 : Int) ≤ (-1) * r7 + (-1) * z8 + 9995010 := Zleqt h218 h87 g
        clear g
        have f9_0 := rs_f62 b_r7 b_z31 b_z8 b_x1 b_m123 b_m125 b_m32 k9 m123e m32e m125e
        have f9_1 := rs_f63 b_r7 b_z31 b_z8 b_x2 b_m124 b_m126 b_m33 k9 m124e m33e m126e
        exact rfl
      have k9 : ¬ ((z31 + 9995000 : Int) ≤ (-1) * r7 + (-1) * z8 + 9995010) := Zleqf h218 h87 g
      clear g
      have f9_0 := rs_f64 b_r7 b_z31 b_z8 b_x1 b_m123 b_m125 b_m32 k9 m123e m32e m125e
      have f9_1 := rs_f65 b_r7 b_z31 b_z8 b_x2 b_m124 b_m126 b_m33 k9 m124e m33e m126e
      exact rfl
    have k6 : ¬ ((x5 : Int) ≤ 3) := Zleqf e5 (Zc 3) g
    clear g
    refine ask_p (fun g => ?_) (fun g => ?_)
    · have k7 : (x5 : Int) ≤ 4 := Zleqt e5 (Zc 4) g
      clear g
      refine rs_c0 h2 h4 h6 b_x0 b_x1 b_x2 ?_
      refine rs_c1 h6 h9 h8 h10 h13 h14 b_x2 b_x3 b_m1 b_m2 b_x1 b_x0 ?_
      refine rs_c14 h332 h334 h372 h374 b_q61 b_q63 b_x0 b_q68 b_q70 ?_
      refine rs_c15 h12 h121 h123 b_x1 b_x2 b_q11 b_q9 b_x0 ?_
      refine aT (Pleq h123 h158 (rs_t48 b_q11 b_q9 b_x0 b_q16 b_q18)) ?_
      refine rs_c7 h158 h160 h193 h195 h228 b_q16 b_q18 b_x0 b_q25 b_q27 b_q34 b_q36 ?_
      refine rs_c8 h228 h230 b_q34 b_q36 b_x0 ?_
      refine aT (Pleq (Zc 0) h252 (rs_t69 b_z40)) ?_
      refine rs_c9 h252 h58 b_z40 b_r7 ?_
      refine rs_c5 h58 h60 h71 h72 h82 h73 h62 h85 h87 h80 b_r7 b_x3 b_z8 ?_
      refine ask_q (fun g => ?_) (fun g => ?_)
      · have k10 : ¬ ((z74 : Int) ≤ r7 + z8 + (-10)) := Zleqf h389 h111 g
        clear g
        have f10_0 := rs_f105 b_r7 b_z74 b_z8 b_x1 b_m123 b_m125 b_m75 k10 m123e m75e m125e
        have f10_1 := rs_f106 b_r7 b_z74 b_z8 b_x2 b_m124 b_m126 b_m76 k10 m124e m76e m126e
        exact rfl
      have k10 : (z74 : Int) ≤ r7 + z8 + (-10) := Zleqt h389 h111 g
      clear g
      have f10_0 := rs_f107 b_r7 b_z74 b_z8 b_x1 b_m123 b_m125 b_m75 k10 m123e m75e m125e
      have f10_1 := rs_f108 b_r7 b_z74 b_z8 b_x2 b_m124 b_m126 b_m76 k10 m124e m76e m126e
      refine ask_p (fun g => ?_) (fun g => ?_)
      · have k11 : (z40 + 9995000 : Int) ≤ (-1) * r7 + (-1) * z8 + 9995010 := Zleqt h253 h87 g
        clear g
        have f11_0 := rs_f71 b_r7 b_z40 b_z8 b_x1 b_m123 b_m125 b_m41 k11 m123e m41e m125e
        have f11_1 := rs_f72 b_r7 b_z40 b_z8 b_x2 b_m124 b_m126 b_m42 k11 m124e m42e m126e
        exact rfl
      have k11 : ¬ ((z40 + 9995000 : Int) ≤ (-1) * r7 + (-1) * z8 + 9995010) := Zleqf h253 h87 g
      clear g
      have f11_0 := rs_f73 b_r7 b_z40 b_z8 b_x1 b_m123 b_m125 b_m41 k11 m123e m41e m125e
      have f11_1 := rs_f74 b_r7 b_z40 b_z8 b_x2 b_m124 b_m126 b_m42 k11 m124e m42e m126e
      exact rfl
    have k7 : ¬ ((x5 : Int) ≤ 4) := Zleqf e5 (Zc 4) g
    clear g
    refine ask_p (fun g => ?_) (fun g => ?_)
    · have k8 : (x5 : Int) ≤ 5 := Zleqt e5 (Zc 5) g
      clear g
      refine rs_c0 h2 h4 h6 b_x0 b_x1 b_x2 ?_
      refine rs_c1 h6 h9 h8 h10 h13 h14 b_x2 b_x3 b_m1 b_m2 b_x1 b_x0 ?_
      refine rs_c14 h332 h334 h372 h374 b_q61 b_q63 b_x0 b_q68 b_q70 ?_
      refine rs_c15 h12 h121 h123 b_x1 b_x2 b_q11 b_q9 b_x0 ?_
      refine aT (Pleq h123 h158 (rs_t48 b_q11 b_q9 b_x0 b_q16 b_q18)) ?_
      refine rs_c7 h158 h160 h193 h195 h228 b_q16 b_q18 b_x0 b_q25 b_q27 b_q34 b_q36 ?_
      refine rs_c10 h228 h230 h263 h265 h287 h58 b_q34 b_q36 b_x0 b_q43 b_q45 b_z49 b_r7 ?_
      refine rs_c5 h58 h60 h71 h72 h82 h73 h62 h85 h87 h80 b_r7 b_x3 b_z8 ?_
      refine ask_q (fun g => ?_) (fun g => ?_)
      · have k10 : ¬ ((z74 : Int) ≤ r7 + z8 + (-10)) := Zleqf h389 h111 g
        clear g
        have f10_0 := rs_f105 b_r7 b_z74 b_z8 b_x1 b_m123 b_m125 b_m75 k10 m123e m75e m125e
        have f10_1 := rs_f106 b_r7 b_z74 b_z8 b_x2 b_m124 b_m126 b_m76 k10 m124e m76e m126e
        exact rfl
      have k10 : (z74 : Int) ≤ r7 + z8 + (-10) := Zleqt h389 h111 g
      clear g
      have f10_0 := rs_f107 b_r7 b_z74 b_z8 b_x1 b_m123 b_m125 b_m75 k10 m123e m75e m125e
      have f10_1 := rs_f108 b_r7 b_z74 b_z8 b_x2 b_m124 b_m126 b_m76 k10 m124e m76e m126e
      refine ask_p (fun g => ?_) (fun g => ?_)
      · have k11 : (z49 + 9995000 : Int) ≤ (-1) * r7 + (-1) * z8 + 9995010 := Zleqt h288 h87 g
        clear g
        have f11_0 := rs_f80 b_r7 b_z49 b_z8 b_x1 b_m123 b_m125 b_m50 k11 m123e m50e m125e
        have f11_1 := rs_f81 b_r7 b_z49 b_z8 b_x2 b_m124 b_m126 b_m51 k11 m124e m51e m126e
        exact rfl
      have k11 : ¬ ((z49 + 9995000 : Int) ≤ (-1) * r7 + (-1) * z8 + 9995010) := Zleqf h288 h87 g
      clear g
      have f11_0 := rs_f82 b_r7 b_z49 b_z8 b_x1 b_m123 b_m125 b_m50 k11 m123e m50e m125e
      have f11_1 := rs_f83 b_r7 b_z49 b_z8 b_x2 b_m124 b_m126 b_m51 k11 m124e m51e m126e
      exact rfl
    have k8 : ¬ ((x5 : Int) ≤ 5) := Zleqf e5 (Zc 5) g
    clear g
    refine ask_p (fun g => ?_) (fun g => ?_)
    · have k9 : (x5 : Int) ≤ 6 := Zleqt e5 (Zc 6) g
      clear g
      refine rs_c0 h2 h4 h6 b_x0 b_x1 b_x2 ?_
      refine rs_c1 h6 h9 h8 h10 h13 h14 b_x2 b_x3 b_m1 b_m2 b_x1 b_x0 ?_
      refine rs_c14 h332 h334 h372 h374 b_q61 b_q63 b_x0 b_q68 b_q70 ?_
      refine rs_c15 h12 h121 h123 b_x1 b_x2 b_q11 b_q9 b_x0 ?_
      refine aT (Pleq h123 h158 (rs_t48 b_q11 b_q9 b_x0 b_q16 b_q18)) ?_
      refine rs_c7 h158 h160 h193 h195 h228 b_q16 b_q18 b_x0 b_q25 b_q27 b_q34 b_q36 ?_
      refine rs_c11 h228 h230 h263 h265 h298 b_q34 b_q36 b_x0 b_q43 b_q45 b_q52 b_q54 ?_
      refine aT (Pleq h298 h300 (rs_t85 b_q52 b_q54 b_x0)) ?_
      refine rs_c12 h300 h322 b_q52 b_q54 b_x0 b_z58 ?_
      refine aT (Pleq h322 (Zc 10000000) (rs_t88 b_z58)) ?_
      refine aT (Pleq (Zc 4990) h58 (rs_t20 b_r7)) ?_
      refine rs_c5 h58 h60 h71 h72 h82 h73 h62 h85 h87 h80 b_r7 b_x3 b_z8 ?_
      refine ask_q (fun g => ?_) (fun g => ?_)
      · have k14 : ¬ ((z74 : Int) ≤ r7 + z8 + (-10)) := Zleqf h389 h111 g
        clear g
        have f14_0 := rs_f105 b_r7 b_z74 b_z8 b_x1 b_m123 b_m125 b_m75 k14 m123e m75e m125e
        have f14_1 := rs_f106 b_r7 b_z74 b_z8 b_x2 b_m124 b_m126 b_m76 k14 m124e m76e m126e
        exact rfl
      have k14 : (z74 : Int) ≤ r7 + z8 + (-10) := Zleqt h389 h111 g
      clear g
      have f14_0 := rs_f107 b_r7 b_z74 b_z8 b_x1 b_m123 b_m125 b_m75 k14 m123e m75e m125e
      have f14_1 := rs_f108 b_r7 b_z74 b_z8 b_x2 b_m124 b_m126 b_m76 k14 m124e m76e m126e
      refine ask_p (fun g => ?_) (fun g => ?_)
      · have k15 : (z58 + 9995000 : Int) ≤ (-1) * r7 + (-1) * z8 + 9995010 := Zleqt h323 h87 g
        clear g
        have f15_0 := rs_f89 b_r7 b_z58 b_z8 b_x1 b_m123 b_m125 b_m59 k15 m123e m59e m125e
        have f15_1 := rs_f90 b_r7 b_z58 b_z8 b_x2 b_m124 b_m126 b_m60 k15 m124e m60e m126e
        exact rfl
      have k15 : ¬ ((z58 + 9995000 : Int) ≤ (-1) * r7 + (-1) * z8 + 9995010) := Zleqf h323 h87 g
      clear g
      have f15_0 := rs_f91 b_r7 b_z58 b_z8 b_x1 b_m123 b_m125 b_m59 k15 m123e m59e m125e
      have f15_1 := rs_f92 b_r7 b_z58 b_z8 b_x2 b_m124 b_m126 b_m60 k15 m124e m60e m126e
      exact rfl
    have k9 : ¬ ((x5 : Int) ≤ 6) := Zleqf e5 (Zc 6) g
    clear g
    refine rs_c0 h2 h4 h6 b_x0 b_x1 b_x2 ?_
    refine rs_c1 h6 h9 h8 h10 h13 h14 b_x2 b_x3 b_m1 b_m2 b_x1 b_x0 ?_
    refine rs_c14 h332 h334 h372 h374 b_q61 b_q63 b_x0 b_q68 b_q70 ?_
    refine rs_c15 h12 h121 h123 b_x1 b_x2 b_q11 b_q9 b_x0 ?_
    refine aT (Pleq h123 h158 (rs_t48 b_q11 b_q9 b_x0 b_q16 b_q18)) ?_
    refine rs_c7 h158 h160 h193 h195 h228 b_q16 b_q18 b_x0 b_q25 b_q27 b_q34 b_q36 ?_
    refine rs_c11 h228 h230 h263 h265 h298 b_q34 b_q36 b_x0 b_q43 b_q45 b_q52 b_q54 ?_
    refine aT (Pleq h298 h300 (rs_t85 b_q52 b_q54 b_x0)) ?_
    refine rs_c12 h300 h322 b_q52 b_q54 b_x0 b_z58 ?_
    refine aT (Pleq h322 (Zc 10000000) (rs_t88 b_z58)) ?_
    refine aT (Pleq (Zc 4990) h58 (rs_t20 b_r7)) ?_
    refine rs_c5 h58 h60 h71 h72 h82 h73 h62 h85 h87 h80 b_r7 b_x3 b_z8 ?_
    refine ask_q (fun g => ?_) (fun g => ?_)
    · have k14 : ¬ ((z74 : Int) ≤ r7 + z8 + (-10)) := Zleqf h389 h111 g
      clear g
      have f14_0 := rs_f105 b_r7 b_z74 b_z8 b_x1 b_m123 b_m125 b_m75 k14 m123e m75e m125e
      have f14_1 := rs_f106 b_r7 b_z74 b_z8 b_x2 b_m124 b_m126 b_m76 k14 m124e m76e m126e
      exact rfl
    have k14 : (z74 : Int) ≤ r7 + z8 + (-10) := Zleqt h389 h111 g
    clear g
    have f14_0 := rs_f107 b_r7 b_z74 b_z8 b_x1 b_m123 b_m125 b_m75 k14 m123e m75e m125e
    have f14_1 := rs_f108 b_r7 b_z74 b_z8 b_x2 b_m124 b_m126 b_m76 k14 m124e m76e m126e
    refine ask_p (fun g => ?_) (fun g => ?_)
    · have k15 : (z58 + 9995000 : Int) ≤ (-1) * r7 + (-1) * z8 + 9995010 := Zleqt h323 h87 g
      clear g
      have f15_0 := rs_f89 b_r7 b_z58 b_z8 b_x1 b_m123 b_m125 b_m59 k15 m123e m59e m125e
      have f15_1 := rs_f90 b_r7 b_z58 b_z8 b_x2 b_m124 b_m126 b_m60 k15 m124e m60e m126e
      exact rfl
    have k15 : ¬ ((z58 + 9995000 : Int) ≤ (-1) * r7 + (-1) * z8 + 9995010) := Zleqf h323 h87 g
    clear g
    have f15_0 := rs_f91 b_r7 b_z58 b_z8 b_x1 b_m123 b_m125 b_m59 k15 m123e m59e m125e
    have f15_1 := rs_f92 b_r7 b_z58 b_z8 b_x2 b_m124 b_m126 b_m60 k15 m124e m60e m126e
    exact rfl
  have k2 : ¬ ((x4 : Int) ≤ 2) := Zleqf e4 (Zc 2) g
  clear g
  refine ask_p (fun g => ?_) (fun g => ?_)
  · have k3 : (x4 : Int) ≤ 3 := Zleqt e4 (Zc 3) g
    clear g
    refine ask_p (fun g => ?_) (fun g => ?_)
    · have k4 : (x5 : Int) ≤ 0 := Zleqt e5 (Zc 0) g
      clear g
      refine ask_q (fun g => ?_) (fun g => ?_)
      · have k5 : ¬ ((x5 : Int) ≤ 1) := Zleqf e5 (Zc 1) g
        clear g
        exact rs_d1 b_x5 k4 k5
      have k5 : (x5 : Int) ≤ 1 := Zleqt e5 (Zc 1) g
      clear g
      refine rs_c0 h2 h4 h6 b_x0 b_x1 b_x2 ?_
      refine rs_c1 h6 h9 h8 h10 h13 h14 b_x2 b_x3 b_m1 b_m2 b_x1 b_x0 ?_
      refine aT (Pleq (Zc (-10000000)) h332 (rs_t93 b_q61 b_q63 b_x0)) ?_
      refine aT (Pleq h332 h334 (rs_t94 b_q61 b_q63 b_x0)) ?_
      refine aT (Pleq h334 h372 (rs_t102 b_q61 b_q63 b_x0 b_q68 b_q70)) ?_
      refine aT (Pleq h372 h374 (rs_t103 b_q68 b_q70 b_x0)) ?_
      refine aT (Pleq h374 h405 (rs_t110 b_q68 b_q70 b_x0 b_q79 b_q81)) ?_
      refine aT (Pleq h405 h407 (rs_t111 b_q79 b_q81 b_x0)) ?_
      refine aT (Pleq h407 (Zc 10000000) (rs_t112 b_q79 b_q81 b_x0)) ?_
      refine aF (Neql h12 (Zc 0) (rs_t17 b_x1 b_x2)) ?_
      refine aT (Pleq (Zc (-10000000)) h20 (rs_t14 b_x0)) ?_
      refine aT (Pleq h20 h22 (rs_t15 b_x0)) ?_
      refine aT (Pleq h22 (Zc 10000000) (rs_t16 b_x0)) ?_
      refine aT (Pleq (Zc 0) h56 (rs_t18 b_z3)) ?_
      refine aT (Pleq h56 (Zc 10000000) (rs_t19 b_z3)) ?_
      refine aT (Pleq (Zc 4990) h58 (rs_t20 b_r7)) ?_
      refine rs_c5 h58 h60 h71 h72 h82 h73 h62 h85 h87 h80 b_r7 b_x3 b_z8 ?_
      refine ask_q (fun g => ?_) (fun g => ?_)
      · have k20 : ¬ ((z85 : Int) ≤ r7 + z8 + (-10)) := Zleqf h422 h111 g
        clear g
        have f20_0 := rs_f113 b_r7 b_z8 b_z85 b_x1 b_m123 b_m125 b_m86 k20 m123e m125e m86e
        have f20_1 := rs_f114 b_r7 b_z8 b_z85 b_x2 b_m124 b_m126 b_m87 k20 m124e m126e m87e
        exact rfl
      have k20 : (z85 : Int) ≤ r7 + z8 + (-10) := Zleqt h422 h111 g
      clear g
      have f20_0 := rs_f115 b_r7 b_z8 b_z85 b_x1 b_m123 b_m125 b_m86 k20 m123e m125e m86e
      have f20_1 := rs_f116 b_r7 b_z8 b_z85 b_x2 b_m124 b_m126 b_m87 k20 m124e m126e m87e
      refine ask_p (fun g => ?_) (fun g => ?_)
      · have k21 : (z3 + 9995000 : Int) ≤ (-1) * r7 + (-1) * z8 + 9995010 := Zleqt h112 h87 g
        clear g
        have f21_0 := rs_f34 b_r7 b_z3 b_z8 b_x1 b_m123 b_m125 b_m4 k21 m123e m4e m125e
        have f21_1 := rs_f35 b_r7 b_z3 b_z8 b_x2 b_m124 b_m126 b_m5 k21 m124e m5e m126e
        exact rfl
      have k21 : ¬ ((z3 + 9995000 : Int) ≤ (-1) * r7 + (-1) * z8 + 9995010) := Zleqf h112 h87 g
      clear g
      have f21_0 := rs_f36 b_r7 b_z3 b_z8 b_x1 b_m123 b_m125 b_m4 k21 m123e m4e m125e
      have f21_1 := rs_f37 b_r7 b_z3 b_z8 b_x2 b_m124 b_m126 b_m5 k21 m124e m5e m126e
      exact rfl
    have k4 : ¬ ((x5 : Int) ≤ 0) := Zleqf e5 (Zc 0) g
    clear g
    refine ask_p (fun g => ?_) (fun g => ?_)
    · have k5 : (x5 : Int) ≤ 1 := Zleqt e5 (Zc 1) g
      clear g
      refine rs_c0 h2 h4 h6 b_x0 b_x1 b_x2 ?_
      refine rs_c1 h6 h9 h8 h10 h13 h14 b_x2 b_x3 b_m1 b_m2 b_x1 b_x0 ?_
      refine rs_c16 h332 h334 h372 h374 h405 h407 h12 h121 h123 b_q61 b_q63 b_x0 b_q68 b_q70 b_q79 b_q81 b_x1 b_x2 b_q11 b_q9 ?_
      refine rs_c3 h123 h140 b_q11 b_q9 b_x0 b_z13 ?_
      refine aT (Pleq (Zc 4990) h58 (rs_t20 b_r7)) ?_
      refine rs_c5 h58 h60 h71 h72 h82 h73 h62 h85 h87 h80 b_r7 b_x3 b_z8 ?_
      refine ask_q (fun g => ?_) (fun g => ?_)
      · have k7 : ¬ ((z85 : Int) ≤ r7 + z8 + (-10)) := Zleqf h422 h111 g
        clear g
        have f7_0 := rs_f113 b_r7 b_z8 b_z85 b_x1 b_m123 b_m125 b_m86 k7 m123e m125e m86e
        have f7_1 := rs_f114 b_r7 b_z8 b_z85 b_x2 b_m124 b_m126 b_m87 k7 m124e m126e m87e
        exact rfl
      have k7 : (z85 : Int) ≤ r7 + z8 + (-10) := Zleqt h422 h111 g
      clear g
      have f7_0 := rs_f115 b_r7 b_z8 b_z85 b_x1 b_m123 b_m125 b_m86 k7 m123e m125e m86e
      have f7_1 := rs_f116 b_r7 b_z8 b_z85 b_x2 b_m124 b_m126 b_m87 k7 m124e m126e m87e
      refine ask_p (fun g => ?_) (fun g => ?_)
      · have k8 : (z13 + 9995000 : Int) ≤ (-1) * r7 + (-1) * z8 + 9995010 := Zleqt h148 h87 g
        clear g
        have f8_0 := rs_f44 b_r7 b_z13 b_z8 b_x1 b_m123 b_m125 b_m14 k8 m123e m14e m125e
        have f8_1 := rs_f45 b_r7 b_z13 b_z8 b_x2 b_m124 b_m126 b_m15 k8 m124e m15e m126e
        exact rfl
      have k8 : ¬ ((z13 + 9995000 : Int) ≤ (-1) * r7 + (-1) * z8 + 9995010) := Zleqf h148 h87 g
      clear g
      have f8_0 := rs_f46 b_r7 b_z13 b_z8 b_x1 b_m123 b_m125 b_m14 k8 m123e m14e m125e
      have f8_1 := rs_f47 b_r7 b_z13 b_z8 b_x2 b_m124 b_m126 b_m15 k8 m124e m15e m126e
      exact rfl
    have k5 : ¬ ((x5 : Int) ≤ 1) := Zleqf e5 (Zc 1) g
    clear g
    refine ask_p (fun g => ?_) (fun g => ?_)
    · have k6 : (x5 : Int) ≤ 2 := Zleqt e5 (Zc 2) g
      clear g
      refine rs_c0 h2 h4 h6 b_x0 b_x1 b_x2 ?_
      refine rs_c1 h6 h9 h8 h10 h13 h14 b_x2 b_x3 b_m1 b_m2 b_x1 b_x0 ?_
      refine rs_c16 h332 h334 h372 h374 h405 h407 h12 h121 h123 b_q61 b_q63 b_x0 b_q68 b_q70 b_q79 b_q81 b_x1 b_x2 b_q11 b_q9 ?_
      refine aT (Pleq h123 h158 (rs_t48 b_q11 b_q9 b_x0 b_q16 b_q18)) ?_
      refine rs_c4 h158 h160 h182 h58 b_q16 b_q18 b_x0 b_z22 b_r7 ?_
      refine rs_c5 h58 h60 h71 h72 h82 h73 h62 h85 h87 h80 b_r7 b_x3 b_z8 ?_
      refine ask_q (fun g => ?_) (fun g => ?_)
      · have k8 : ¬ ((z85 : Int) ≤ r7 + z8 + (-10)) := Zleqf h422 h111 g
        clear g
        have f8_0 := rs_f113 b_r7 b_z8 b_z85 b_x1 b_m123 b_m125 b_m86 k8 m123e m125e m86e
        have f8_1 := rs_f114 b_r7 b_z8 b_z85 b_x2 b_m124 b_m126 b_m87 k8 m124e m126e m87e
        exact rfl
      have k8 : (z85 : Int) ≤ r7 + z8 + (-10) := Zleqt h422 h111 g
      clear g
      have f8_0 := rs_f115 b_r7 b_z8 b_z85 b_x1 b_m123 b_m125 b_m86 k8 m123e m125e m86e
      have f8_1 := rs_f116 b_r7 b_z8 b_z85 b_x2 b_m124 b_m126 b_m87 k8 m124e m126e m87e
      refine ask_p (fun g => ?_) (fun g => ?_)
      · have k9 : (z22 + 9995000 : Int) ≤ (-1) * r7 + (-1) * z8 + 9995010 := Zleqt h183 h87 g
        clear g
        have f9_0 := rs_f53 b_r7 b_z22 b_z8 b_x1 b_m123 b_m125 b_m23 k9 m123e m23e m125e
        have f9_1 := rs_f54 b_r7 b_z22 b_z8 b_x2 b_m124 b_m126 b_m24 k9 m124e m24e m126e
        exact rfl
      have k9 : ¬ ((z22 + 9995000 : Int) ≤ (-1) * r7 + (-1) * z8 + 9995010) := Zleqf h183 h87 g
      clear g
      have f9_0 := rs_f55 b_r7 b_z22 b_z8 b_x1 b_m123 b_m125 b_m23 k9 m123e m23e m125e
      have f9_1 := rs_f56 b_r7 b_z22 b_z8 b_x2 b_m124 b_m126 b_m24 k9 m124e m24e m126e
      exact rfl
    have k6 : ¬ ((x5 : Int) ≤ 2) := Zleqf e5 (Zc 2) g
    clear g
    refine ask_p (fun g => ?_) (fun g => ?_)
    · have k7 : (x5 : Int) ≤ 3 := Zleqt e5 (Zc 3) g
      clear g
      refine rs_c0 h2 h4 h6 b_x0 b_x1 b_x2 ?_
      refine rs_c1 h6 h9 h8 h10 h13 h14 b_x2 b_x3 b_m1 b_m2 b_x1 b_x0 ?_
      refine rs_c16 h332 h334 h372 h374 h405 h407 h12 h121 h123 b_q61 b_q63 b_x0 b_q68 b_q70 b_q79 b_q81 b_x1 b_x2 b_q11 b_q9 ?_
      refine aT (Pleq h123 h158 (rs_t48 b_q11 b_q9 b_x0 b_q16 b_q18)) ?_
      refine rs_c6 h158 h160 h193 h195 h217 h58 b_q16 b_q18 b_x0 b_q25 b_q27 b_z31 b_r7 ?_
      refine rs_c5 h58 h60 h71 h72 h82 h73 h62 h85 h87 h80 b_r7 b_x3 b_z8 ?_
      refine ask_p (fun g => ?_) (fun g => ?_)
      · have k9 : (0 : Int) ≤ u88 + (-1) * u89 := Zleqt (Zc 0) h429 g
        clear g
        refine ask_q (fun g => ?_) (fun g => ?_)
        · have k10 : ¬ ((z85 : Int) ≤ r7 + z8 + (-10)) := Zleqf h422 h111 g
          clear g
          have f10_0 := rs_f113 b_r7 b_z8 b_z85 b_x1 b_m123 b_m125 b_m86 k10 m123e m125e m86e
          have f10_1 := rs_f114 b_r7 b_z8 b_z85 b_x2 b_m124 b_m126 b_m87 k10 m124e m126e m87e
          exact rfl
        have k10 : (z85 : Int) ≤ r7 + z8 + (-10) := Zleqt h422 h111 g
        clear g
        have f10_0 := rs_f115 b_r7 b_z8 b_z85 b_x1 b_m123 b_m125 b_m86 k10 m123e m125e m86e
        have f10_1 := rs_f116 b_r7 b_z8 b_z85 b_x2 b_m124 b_m126 b_m87 k10 m124e m126e m87e
        refine ask_p (fun g => ?_) (fun g => ?_)
        · have k11 : (z31 + 9995000 : Int) ≤ (-1) * r7 + (-1) * z8 + 9995010 := Zleqt h218 h87 g
          clear g
          have f11_0 := rs_f62 b_r7 b_z31 b_z8 b_x1 b_m123 b_m125 b_m32 k11 m123e m32e m125e
          have f11_1 := rs_f63 b_r7 b_z31 b_z8 b_x2 b_m124 b_m126 b_m33 k11 m124e m33e m126e
          exact rfl
        have k11 : ¬ ((z31 + 9995000 : Int) ≤ (-1) * r7 + (-1) * z8 + 9995010) := Zleqf h218 h87 g
        clear g
        have f11_0 := rs_f64 b_r7 b_z31 b_z8 b_x1 b_m123 b_m125 b_m32 k11 m123e m32e m125e
        have f11_1 := rs_f65 b_r7 b_z31 b_z8 b_x2 b_m124 b_m126 b_m33 k11 m124e m33e m126e
        exact rfl
      have k9 : ¬ ((0 : Int) ≤ u88 + (-1) * u89) := Zleqf (Zc 0) h429 g
      clear g
      refine ask_q (fun g => ?_) (fun g => ?_)
      · have k10 : ¬ ((z85 : Int) ≤ r7 + z8 + (-10)) := Zleqf h422 h111 g
        clear g
        have f10_0 := rs_f113 b_r7 b_z8 b_z85 b_x1 b_m123 b_m125 b_m86 k10 m123e m125e m86e
        have f10_1 := rs_f114 b_r7 b_z8 b_z85 b_x2 b_m124 b_m126 b_m87 k10 m124e m126e m87e
        exact rfl
      have k10 : (z85 : Int) ≤ r7 + z8 + (-10) := Zleqt h422 h111 g
      clear g
      have f10_0 := rs_f115 b_r7 b_z8 b_z85 b_x1 b_m123 b_m125 b_m86 k10 m123e m125e m86e
      have f10_1 := rs_f116 b_r7 b_z8 b_z85 b_x2 b_m124 b_m126 b_m87 k10 m124e m126e m87e
      refine ask_p (fun g => ?_) (fun g => ?_)
      · have k11 : (z31 + 9995000 : Int) ≤ (-1) * r7 + (-1) * z8 + 9995010 := Zleqt h218 h87 g
        clear g
        have f11_0 := rs_f62 b_r7 b_z31 b_z8 b_x1 b_m123 b_m125 b_m32 k11 m123e m32e m125e
        have f11_1 := rs_f63 b_r7 b_z31 b_z8 b_x2 b_m124 b_m126 b_m33 k11 m124e m33e m126e
        exact rs_d3 b_m123 b_m124 b_m125 b_m126 b_m32 b_m33 b_m86 b_m87 b_r7 b_u29 b_u30 b_u83 b_u84 b_u88 b_u89 b_x1 b_x2 b_x3 b_z31 b_z8 b_z85 k10 k11 z31s z8s z85s f10_0 f10_1 f11_0 f11_1 s2 s3 m32f1 m32f2 m32f3 m32f4 m33f1 m33f2 m33f3 m33f4 m86f1 m86f2 m86f3 m86f4 m87f1 m87f2 m87f3 m87f4 m123f1 m123f2 m123f3 m123f4 m125f1 m125f2 m125f3 m125f4 m124f1 m124f2 m124f3 m124f4 m126f1 m126f2 m126f3 m126f4 k9
      have k11 : ¬ ((z31 + 9995000 : Int) ≤ (-1) * r7 + (-1) * z8 + 9995010) := Zleqf h218 h87 g
      clear g
      have f11_0 := rs_f64 b_r7 b_z31 b_z8 b_x1 b_m123 b_m125 b_m32 k11 m123e m32e m125e
      have f11_1 := rs_f65 b_r7 b_z31 b_z8 b_x2 b_m124 b_m126 b_m33 k11 m124e m33e m126e
      exact rfl
    have k7 : ¬ ((x5 : Int) ≤ 3) := Zleqf e5 (Zc 3) g
    clear g
    refine ask_p (fun g => ?_) (fun g => ?_)
    · have k8 : (x5 : Int) ≤ 4 := Zleqt e5 (Zc 4) g
      clear g
      refine rs_c0 h2 h4 h6 b_x0 b_x1 b_x2 ?_
      refine rs_c1 h6 h9 h8 h10 h13 h14 b_x2 b_x3 b_m1 b_m2 b_x1 b_x0 ?_
      refine rs_c16 h332 h334 h372 h374 h405 h407 h12 h121 h123 b_q61 b_q63 b_x0 b_q68 b_q70 b_q79 b_q81 b_x1 b_x2 b_q11 b_q9 ?_
      refine aT (Pleq h123 h158 (rs_t48 b_q11 b_q9 b_x0 b_q16 b_q18)) ?_
      refine rs_c7 h158 h160 h193 h195 h228 b_q16 b_q18 b_x0 b_q25 b_q27 b_q34 b_q36 ?_
      refine rs_c8 h228 h230 b_q34 b_q36 b_x0 ?_
      refine aT (Pleq (Zc 0) h252 (rs_t69 b_z40)) ?_
      refine rs_c9 h252 h58 b_z40 b_r7 ?_
      refine rs_c5 h58 h60 h71 h72 h82 h73 h62 h85 h87 h80 b_r7 b_x3 b_z8 ?_
      refine ask_q (fun g => ?_) (fun g => ?_)
      · have k11 : ¬ ((z85 : Int) ≤ r7 + z8 + (-10)) := Zleqf h422 h111 g
        clear g
        have f11_0 := rs_f113 b_r7 b_z8 b_z85 b_x1 b_m123 b_m125 b_m86 k11 m123e m125e m86e
        have f11_1 := rs_f114 b_r7 b_z8 b_z85 b_x2 b_m124 b_m126 b_m87 k11 m124e m126e m87e
        exact rfl
      have k11 : (z85 : Int) ≤ r7 + z8 + (-10) := Zleqt h422 h111 g
      clear g
      have f11_0 := rs_f115 b_r7 b_z8 b_z85 b_x1 b_m123 b_m125 b_m86 k11 m123e m125e m86e
      have f11_1 := rs_f116 b_r7 b_z8 b_z85 b_x2 b_m124 b_m126 b_m87 k11 m124e m126e m87e
      refine ask_p (fun g => ?_) (fun g => ?_)
      · have k12 : (z40 + 9995000 : Int) ≤ (-1) * r7 + (-1) * z8 + 9995010 := Zleqt h253 h87 g
        clear g
        have f12_0 := rs_f71 b_r7 b_z40 b_z8 b_x1 b_m123 b_m125 b_m41 k12 m123e m41e m125e
        have f12_1 := rs_f72 b_r7 b_z40 b_z8 b_x2 b_m124 b_m126 b_m42 k12 m124e m42e m126e
        exact rfl
      have k12 : ¬ ((z40 + 9995000 : Int) ≤ (-1) * r7 + (-1) * z8 + 9995010) := Zleqf h253 h87 g
      clear g
      have f12_0 := rs_f73 b_r7 b_z40 b_z8 b_x1 b_m123 b_m125 b_m41 k12 m123e m41e m125e
      have f12_1 := rs_f74 b_r7 b_z40 b_z8 b_x2 b_m124 b_m126 b_m42 k12 m124e m42e m126e
      exact rfl
    have k8 : ¬ ((x5 : Int) ≤ 4) := Zleqf e5 (Zc 4) g
    clear g
    refine ask_p (fun g => ?_) (fun g => ?_)
    · have k9 : (x5 : Int) ≤ 5 := Zleqt e5 (Zc 5) g
      clear g
      refine rs_c0 h2 h4 h6 b_x0 b_x1 b_x2 ?_
      refine rs_c1 h6 h9 h8 h10 h13 h14 b_x2 b_x3 b_m1 b_m2 b_x1 b_x0 ?_
      refine rs_c16 h332 h334 h372 h374 h405 h407 h12 h121 h123 b_q61 b_q63 b_x0 b_q68 b_q70 b_q79 b_q81 b_x1 b_x2 b_q11 b_q9 ?_
      refine aT (Pleq h123 h158 (rs_t48 b_q11 b_q9 b_x0 b_q16 b_q18)) ?_
      refine rs_c7 h158 h160 h193 h195 h228 b_q16 b_q18 b_x0 b_q25 b_q27 b_q34 b_q36 ?_
      refine rs_c10 h228 h230 h263 h265 h287 h58 b_q34 b_q36 b_x0 b_q43 b_q45 b_z49 b_r7 ?_
      refine rs_c5 h58 h60 h71 h72 h82 h73 h62 h85 h87 h80 b_r7 b_x3 b_z8 ?_
      refine ask_q (fun g => ?_) (fun g => ?_)
      · have k11 : ¬ ((z85 : Int) ≤ r7 + z8 + (-10)) := Zleqf h422 h111 g
        clear g
        have f11_0 := rs_f113 b_r7 b_z8 b_z85 b_x1 b_m123 b_m125 b_m86 k11 m123e m125e m86e
        have f11_1 := rs_f114 b_r7 b_z8 b_z85 b_x2 b_m124 b_m126 b_m87 k11 m124e m126e m87e
        exact rfl
      have k11 : (z85 : Int) ≤ r7 + z8 + (-10) := Zleqt h422 h111 g
      clear g
      have f11_0 := rs_f115 b_r7 b_z8 b_z85 b_x1 b_m123 b_m125 b_m86 k11 m123e m125e m86e
      have f11_1 := rs_f116 b_r7 b_z8 b_z85 b_x2 b_m124 b_m126 b_m87 k11 m124e m126e m87e
      refine ask_p (fun g => ?_) (fun g => ?_)
      · have k12 : (z49 + 9995000 : Int) ≤ (-1) * r7 + (-1) * z8 + 9995010 := Zleqt h288 h87 g
        clear g
        have f12_0 := rs_f80 b_r7 b_z49 b_z8 b_x1 b_m123 b_m125 b_m50 k12 m123e m50e m125e
        have f12_1 := rs_f81 b_r7 b_z49 b_z8 b_x2 b_m124 b_m126 b_m51 k12 m124e m51e m126e
        exact rfl
      have k12 : ¬ ((z49 + 9995000 : Int) ≤ (-1) * r7 + (-1) * z8 + 9995010) := Zleqf h288 h87 g
      clear g
      have f12_0 := rs_f82 b_r7 b_z49 b_z8 b_x1 b_m123 b_m125 b_m50 k12 m123e m50e m125e
      have f12_1 := rs_f83 b_r7 b_z49 b_z8 b_x2 b_m124 b_m126 b_m51 k12 m124e m51e m126e
      exact rfl
    have k9 : ¬ ((x5 : Int) ≤ 5) := Zleqf e5 (Zc 5) g
    clear g
    refine ask_p (fun g => ?_) (fun g => ?_)
    · have k10 : (x5 : Int) ≤ 6 := Zleqt e5 (Zc 6) g
      clear g
      refine rs_c0 h2 h4 h6 b_x0 b_x1 b_x2 ?_
      refine rs_c1 h6 h9 h8 h10 h13 h14 b_x2 b_x3 b_m1 b_m2 b_x1 b_x0 ?_
      refine rs_c16 h332 h334 h372 h374 h405 h407 h12 h121 h123 b_q61 b_q63 b_x0 b_q68 b_q70 b_q79 b_q81 b_x1 b_x2 b_q11 b_q9 ?_
      refine aT (Pleq h123 h158 (rs_t48 b_q11 b_q9 b_x0 b_q16 b_q18)) ?_
      refine rs_c7 h158 h160 h193 h195 h228 b_q16 b_q18 b_x0 b_q25 b_q27 b_q34 b_q36 ?_
      refine rs_c11 h228 h230 h263 h265 h298 b_q34 b_q36 b_x0 b_q43 b_q45 b_q52 b_q54 ?_
      refine aT (Pleq h298 h300 (rs_t85 b_q52 b_q54 b_x0)) ?_
      refine rs_c12 h300 h322 b_q52 b_q54 b_x0 b_z58 ?_
      refine aT (Pleq h322 (Zc 10000000) (rs_t88 b_z58)) ?_
      refine aT (Pleq (Zc 4990) h58 (rs_t20 b_r7)) ?_
      refine rs_c5 h58 h60 h71 h72 h82 h73 h62 h85 h87 h80 b_r7 b_x3 b_z8 ?_
      refine ask_q (fun g => ?_) (fun g => ?_)
      · have k15 : ¬ ((z85 : Int) ≤ r7 + z8 + (-10)) := Zleqf h422 h111 g
        clear g
        have f15_0 := rs_f113 b_r7 b_z8 b_z85 b_x1 b_m123 b_m125 b_m86 k15 m123e m125e m86e
        have f15_1 := rs_f114 b_r7 b_z8 b_z85 b_x2 b_m124 b_m126 b_m87 k15 m124e m126e m87e
        exact rfl
      have k15 : (z85 : Int) ≤ r7 + z8 + (-10) := Zleqt h422 h111 g
      clear g
      have f15_0 := rs_f115 b_r7 b_z8 b_z85 b_x1 b_m123 b_m125 b_m86 k15 m123e m125e m86e
      have f15_1 := rs_f116 b_r7 b_z8 b_z85 b_x2 b_m124 b_m126 b_m87 k15 m124e m126e m87e
      refine ask_p (fun g => ?_) (fun g => ?_)
      · have k16 : (z58 + 9995000 : Int) ≤ (-1) * r7 + (-1) * z8 + 9995010 := Zleqt h323 h87 g
        clear g
        have f16_0 := rs_f89 b_r7 b_z58 b_z8 b_x1 b_m123 b_m125 b_m59 k16 m123e m59e m125e
        have f16_1 := rs_f90 b_r7 b_z58 b_z8 b_x2 b_m124 b_m126 b_m60 k16 m124e m60e m126e
        exact rfl
      have k16 : ¬ ((z58 + 9995000 : Int) ≤ (-1) * r7 + (-1) * z8 + 9995010) := Zleqf h323 h87 g
      clear g
      have f16_0 := rs_f91 b_r7 b_z58 b_z8 b_x1 b_m123 b_m125 b_m59 k16 m123e m59e m125e
      have f16_1 := rs_f92 b_r7 b_z58 b_z8 b_x2 b_m124 b_m126 b_m60 k16 m124e m60e m126e
      exact rfl
    have k10 : ¬ ((x5 : Int) ≤ 6) := Zleqf e5 (Zc 6) g
    clear g
    refine rs_c0 h2 h4 h6 b_x0 b_x1 b_x2 ?_
    refine rs_c1 h6 h9 h8 h10 h13 h14 b_x2 b_x3 b_m1 b_m2 b_x1 b_x0 ?_
    refine rs_c16 h332 h334 h372 h374 h405 h407 h12 h121 h123 b_q61 b_q63 b_x0 b_q68 b_q70 b_q79 b_q81 b_x1 b_x2 b_q11 b_q9 ?_
    refine aT (Pleq h123 h158 (rs_t48 b_q11 b_q9 b_x0 b_q16 b_q18)) ?_
    refine rs_c7 h158 h160 h193 h195 h228 b_q16 b_q18 b_x0 b_q25 b_q27 b_q34 b_q36 ?_
    refine rs_c11 h228 h230 h263 h265 h298 b_q34 b_q36 b_x0 b_q43 b_q45 b_q52 b_q54 ?_
    refine aT (Pleq h298 h300 (rs_t85 b_q52 b_q54 b_x0)) ?_
    refine rs_c12 h300 h322 b_q52 b_q54 b_x0 b_z58 ?_
    refine aT (Pleq h322 (Zc 10000000) (rs_t88 b_z58)) ?_
    refine aT (Pleq (Zc 4990) h58 (rs_t20 b_r7)) ?_
    refine rs_c5 h58 h60 h71 h72 h82 h73 h62 h85 h87 h80 b_r7 b_x3 b_z8 ?_
    refine ask_q (fun g => ?_) (fun g => ?_)
    · have k15 : ¬ ((z85 : Int) ≤ r7 + z8 + (-10)) := Zleqf h422 h111 g
      clear g
      have f15_0 := rs_f113 b_r7 b_z8 b_z85 b_x1 b_m123 b_m125 b_m86 k15 m123e m125e m86e
      have f15_1 := rs_f114 b_r7 b_z8 b_z85 b_x2 b_m124 b_m126 b_m87 k15 m124e m126e m87e
      exact rfl
    have k15 : (z85 : Int) ≤ r7 + z8 + (-10) := Zleqt h422 h111 g
    clear g
    have f15_0 := rs_f115 b_r7 b_z8 b_z85 b_x1 b_m123 b_m125 b_m86 k15 m123e m125e m86e
    have f15_1 := rs_f116 b_r7 b_z8 b_z85 b_x2 b_m124 b_m126 b_m87 k15 m124e m126e m87e
    refine ask_p (fun g => ?_) (fun g => ?_)
    · have k16 : (z58 + 9995000 : Int) ≤ (-1) * r7 + (-1) * z8 + 9995010 := Zleqt h323 h87 g
      clear g
      have f16_0 := rs_f89 b_r7 b_z58 b_z8 b_x1 b_m123 b_m125 b_m59 k16 m123e m59e m125e
      have f16_1 := rs_f90 b_r7 b_z58 b_z8 b_x2 b_m124 b_m126 b_m60 k16 m124e m60e m126e
      exact rfl
    have k16 : ¬ ((z58 + 9995000 : Int) ≤ (-1) * r7 + (-1) * z8 + 9995010) := Zleqf h323 h87 g
    clear g
    have f16_0 := rs_f91 b_r7 b_z58 b_z8 b_x1 b_m123 b_m125 b_m59 k16 m123e m59e m125e
    have f16_1 := rs_f92 b_r7 b_z58 b_z8 b_x2 b_m124 b_m126 b_m60 k16 m124e m60e m126e
    exact rfl
  have k3 : ¬ ((x4 : Int) ≤ 3) := Zleqf e4 (Zc 3) g
  clear g
  refine ask_p (fun g => ?_) (fun g => ?_)
  · have k4 : (x4 : Int) ≤ 4 := Zleqt e4 (Zc 4) g
    clear g
    refine ask_p (fun g => ?_) (fun g => ?_)
    · have k5 : (x5 : Int) ≤ 0 := Zleqt e5 (Zc 0) g
      clear g
      refine ask_q (fun g => ?_) (fun g => ?_)
      · have k6 : ¬ ((x5 : Int) ≤ 1) := Zleqf e5 (Zc 1) g
        clear g
        exact rs_d1 b_x5 k5 k6
      have k6 : (x5 : Int) ≤ 1 := Zleqt e5 (Zc 1) g
      clear g
      refine rs_c0 h2 h4 h6 b_x0 b_x1 b_x2 ?_
      refine rs_c1 h6 h9 h8 h10 h13 h14 b_x2 b_x3 b_m1 b_m2 b_x1 b_x0 ?_
      refine aT (Pleq (Zc (-10000000)) h332 (rs_t93 b_q61 b_q63 b_x0)) ?_
      refine aT (Pleq h332 h334 (rs_t94 b_q61 b_q63 b_x0)) ?_
      refine aT (Pleq h334 h372 (rs_t102 b_q61 b_q63 b_x0 b_q68 b_q70)) ?_
      refine aT (Pleq h372 h374 (rs_t103 b_q68 b_q70 b_x0)) ?_
      refine aT (Pleq h374 h405 (rs_t110 b_q68 b_q70 b_x0 b_q79 b_q81)) ?_
      refine aT (Pleq h405 h407 (rs_t111 b_q79 b_q81 b_x0)) ?_
      refine aT (Pleq h407 h438 (rs_t118 b_q79 b_q81 b_x0 b_q90 b_q92)) ?_
      refine aT (Pleq h438 h440 (rs_t119 b_q90 b_q92 b_x0)) ?_
      refine aT (Pleq h440 (Zc 10000000) (rs_t120 b_q90 b_q92 b_x0)) ?_
      refine aF (Neql h12 (Zc 0) (rs_t17 b_x1 b_x2)) ?_
      refine aT (Pleq (Zc (-10000000)) h20 (rs_t14 b_x0)) ?_
      refine aT (Pleq h20 h22 (rs_t15 b_x0)) ?_
      refine aT (Pleq h22 (Zc 10000000) (rs_t16 b_x0)) ?_
      refine aT (Pleq (Zc 0) h56 (rs_t18 b_z3)) ?_
      refine aT (Pleq h56 (Zc 10000000) (rs_t19 b_z3)) ?_
      refine aT (Pleq (Zc 4990) h58 (rs_t20 b_r7)) ?_
      refine rs_c5 h58 h60 h71 h72 h82 h73 h62 h85 h87 h80 b_r7 b_x3 b_z8 ?_
      refine ask_q (fun g => ?_) (fun g => ?_)
      · have k23 : ¬ ((z96 : Int) ≤ r7 + z8 + (-10)) := Zleqf h455 h111 g
        clear g
        have f23_0 := rs_f121 b_r7 b_z8 b_z96 b_x1 b_m123 b_m125 b_m97 k23 m123e m125e m97e
        have f23_1 := rs_f122 b_r7 b_z8 b_z96 b_x2 b_m124 b_m126 b_m98 k23 m124e m126e m98e
        exact rfl
      have k23 : (z96 : Int) ≤ r7 + z8 + (-10) := Zleqt h455 h111 g
      clear g
      have f23_0 := rs_f123 b_r7 b_z8 b_z96 b_x1 b_m123 b_m125 b_m97 k23 m123e m125e m97e
      have f23_1 := rs_f124 b_r7 b_z8 b_z96 b_x2 b_m124 b_m126 b_m98 k23 m124e m126e m98e
      refine ask_p (fun g => ?_) (fun g => ?_)
      · have k24 : (z3 + 9995000 : Int) ≤ (-1) * r7 + (-1) * z8 + 9995010 := Zleqt h112 h87 g
        clear g
        have f24_0 := rs_f34 b_r7 b_z3 b_z8 b_x1 b_m123 b_m125 b_m4 k24 m123e m4e m125e
        have f24_1 := rs_f35 b_r7 b_z3 b_z8 b_x2 b_m124 b_m126 b_m5 k24 m124e m5e m126e
        exact rfl
      have k24 : ¬ ((z3 + 9995000 : Int) ≤ (-1) * r7 + (-1) * z8 + 9995010) := Zleqf h112 h87 g
      clear g
      have f24_0 := rs_f36 b_r7 b_z3 b_z8 b_x1 b_m123 b_m125 b_m4 k24 m123e m4e m125e
      have f24_1 := rs_f37 b_r7 b_z3 b_z8 b_x2 b_m124 b_m126 b_m5 k24 m124e m5e m126e
      exact rfl
    have k5 : ¬ ((x5 : Int) ≤ 0) := Zleqf e5 (Zc 0) g
    clear g
    refine ask_p (fun g => ?_) (fun g => ?_)
    · have k6 : (x5 : Int) ≤ 1 := Zleqt e5 (Zc 1) g
      clear g
      refine rs_c0 h2 h4 h6 b_x0 b_x1 b_x2 ?_
      refine rs_c1 h6 h9 h8 h10 h13 h14 b_x2 b_x3 b_m1 b_m2 b_x1 b_x0 ?_
      refine rs_c17 h332 h334 h372 h374 h405 h407 h438 h440 h12 h121 h123 b_q61 b_q63 b_x0 b_q68 b_q70 b_q79 b_q81 b_q90 b_q92 b_x1 b_x2 b_q11 b_q9 ?_
      refine rs_c3 h123 h140 b_q11 b_q9 b_x0 b_z13 ?_
      refine aT (Pleq (Zc 4990) h58 (rs_t20 b_r7)) ?_
      refine rs_c5 h58 h60 h71 h72 h82 h73 h62 h85 h87 h80 b_r7 b_x3 b_z8 ?_
      refine ask_q (fun g => ?_) (fun g => ?_)
      · have k8 : ¬ ((z96 : Int) ≤ r7 + z8 + (-10)) := Zleqf h455 h111 g
        clear g
        have f8_0 := rs_f121 b_r7 b_z8 b_z96 b_x1 b_m123 b_m125 b_m97 k8 m123e m125e m97e
        have f8_1 := rs_f122 b_r7 b_z8 b_z96 b_x2 b_m124 b_m126 b_m98 k8 m124e m126e m98e
        exact rfl
      have k8 : (z96 : Int) ≤ r7 + z8 + (-10) := Zleqt h455 h111 g
      clear g
      have f8_0 := rs_f123 b_r7 b_z8 b_z96 b_x1 b_m123 b_m125 b_m97 k8 m123e m125e m97e
      have f8_1 := rs_f124 b_r7 b_z8 b_z96 b_x2 b_m124 b_m126 b_m98 k8 m124e m126e m98e
      refine ask_p (fun g => ?_) (fun g => ?_)
      · have k9 : (z13 + 9995000 : Int) ≤ (-1) * r7 + (-1) * z8 + 9995010 := Zleqt h148 h87 g
        clear g
        have f9_0 := rs_f44 b_r7 b_z13 b_z8 b_x1 b_m123 b_m125 b_m14 k9 m123e m14e m125e
        have f9_1 := rs_f45 b_r7 b_z13 b_z8 b_x2 b_m124 b_m126 b_m15 k9 m124e m15e m126e
        exact rfl
      have k9 : ¬ ((z13 + 9995000 : Int) ≤ (-1) * r7 + (-1) * z8 + 9995010) := Zleqf h148 h87 g
      clear g
      have f9_0 := rs_f46 b_r7 b_z13 b_z8 b_x1 b_m123 b_m125 b_m14 k9 m123e m14e m125e
      have f9_1 := rs_f47 b_r7 b_z13 b_z8 b_x2 b_m124 b_m126 b_m15 k9 m124e m15e m126e
      exact rfl
    have k6 : ¬ ((x5 : Int) ≤ 1) := Zleqf e5 (Zc 1) g
    clear g
    refine ask_p (fun g => ?_) (fun g => ?_)
    · have k7 : (x5 : Int) ≤ 2 := Zleqt e5 (Zc 2) g
      clear g
      refine rs_c0 h2 h4 h6 b_x0 b_x1 b_x2 ?_
      refine rs_c1 h6 h9 h8 h10 h13 h14 b_x2 b_x3 b_m1 b_m2 b_x1 b_x0 ?_
      refine rs_c17 h332 h334 h372 h374 h405 h407 h438 h440 h12 h121 h123 b_q61 b_q63 b_x0 b_q68 b_q70 b_q79 b_q81 b_q90 b_q92 b_x1 b_x2 b_q11 b_q9 ?_
      refine aT (Pleq h123 h158 (rs_t48 b_q11 b_q9 b_x0 b_q16 b_q18)) ?_
      refine rs_c4 h158 h160 h182 h58 b_q16 b_q18 b_x0 b_z22 b_r7 ?_
      refine rs_c5 h58 h60 h71 h72 h82 h73 h62 h85 h87 h80 b_r7 b_x3 b_z8 ?_
      refine ask_q (fun g => ?_) (fun g => ?_)
      · have k9 : ¬ ((z96 : Int) ≤ r7 + z8 + (-10)) := Zleqf h455 h111 g
        clear g
        have f9_0 := rs_f121 b_r7 b_z8 b_z96 b_x1 b_m123 b_m125 b_m97 k9 m123e m125e m97e
        have f9_1 := rs_f122 b_r7 b_z8 b_z96 b_x2 b_m124 b_m126 b_m98 k9 m124e m126e m98e
        exact rfl
      have k9 : (z96 : Int) ≤ r7 + z8 + (-10) := Zleqt h455 h111 g
      clear g
      have f9_0 := rs_f123 b_r7 b_z8 b_z96 b_x1 b_m123 b_m125 b_m97 k9 m123e m125e m97e
      have f9_1 := rs_f124 b_r7 b_z8 b_z96 b_x2 b_m124 b_m126 b_m98 k9 m124e m126e m98e
      refine ask_p (fun g => ?_) (fun g => ?_)
      · have k10 : (z22 + 9995000 : Int) ≤ (-1) * r7 + (-1) * z8 + 9995010 := Zleqt h183 h87 g
        clear g
        have f10_0 := rs_f53 b_r7 b_z22 b_z8 b_x1 b_m123 b_m125 b_m23 k10 m123e m23e m125e
        have f10_1 := rs_f54 b_r7 b_z22 b_z8 b_x2 b_m124 b_m126 b_m24 k10 m124e m24e m126e
        exact rfl
      have k10 : ¬ ((z22 + 9995000 : Int) ≤ (-1) * r7 + (-1) * z8 + 9995010) := Zleqf h183 h87 g
      clear g
      have f10_0 := rs_f55 b_r7 b_z22 b_z8 b_x1 b_m123 b_m125 b_m23 k10 m123e m23e m125e
      have f10_1 := rs_f56 b_r7 b_z22 b_z8 b_x2 b_m124 b_m126 b_m24 k10 m124e m24e m126e
      exact rfl
    have k7 : ¬ ((x5 : Int) ≤ 2) := Zleqf e5 (Zc 2) g
    clear g
    refine ask_p (fun g => ?_) (fun g => ?_)
    · have k8 : (x5 : Int) ≤ 3 := Zleqt e5 (Zc 3) g
      clear g
      refine rs_c0 h2 h4 h6 b_x0 b_x1 b_x2 ?_
      refine rs_c1 h6 h9 h8 h10 h13 h14 b_x2 b_x3 b_m1 b_m2 b_x1 b_x0 ?_
      refine rs_c17 h332 h334 h372 h374 h405 h407 h438 h440 h12 h121 h123 b_q61 b_q63 b_x0 b_q68 b_q70 b_q79 b_q81 b_q90 b_q92 b_x1 b_x2 b_q11 b_q9 ?_
      refine aT (Pleq h123 h158 (rs_t48 b_q11 b_q9 b_x0 b_q16 b_q18)) ?_
      refine rs_c6 h158 h160 h193 h195 h217 h58 b_q16 b_q18 b_x0 b_q25 b_q27 b_z31 b_r7 ?_
      refine rs_c5 h58 h60 h71 h72 h82 h73 h62 h85 h87 h80 b_r7 b_x3 b_z8 ?_
      refine ask_q (fun g => ?_) (fun g => ?_)
      · have k10 : ¬ ((z96 : Int) ≤ r7 + z8 + (-10)) := Zleqf h455 h111 g
        clear g
        have f10_0 := rs_f121 b_r7 b_z8 b_z96 b_x1 b_m123 b_m125 b_m97 k10 m123e m125e m97e
        have f10_1 := rs_f122 b_r7 b_z8 b_z96 b_x2 b_m124 b_m126 b_m98 k10 m124e m126e m98e
        exact rfl
      have k10 : (z96 : Int) ≤ r7 + z8 + (-10) := Zleqt h455 h111 g
      clear g
      have f10_0 := rs_f123 b_r7 b_z8 b_z96 b_x1 b_m123 b_m125 b_m97 k10 m123e m125e m97e
      have f10_1 := rs_f124 b_r7 b_z8 b_z96 b_x2 b_m124 b_m126 b_m98 k10 m124e m126e m98e
      refine ask_p (fun g => ?_) (fun g => ?_)
      · have k11 : (z31 + 9995000 : Int) ≤ (-1) * r7 + (-1) * z8 + 9995010 := Zleqt h218 h87 g
        clear g
        have f11_0 := rs_f62 b_r7 b_z31 b_z8 b_x1 b_m123 b_m125 b_m32 k11 m123e m32e m125e
        have f11_1 := rs_f63 b_r7 b_z31 b_z8 b_x2 b_m124 b_m126 b_m33 k11 m124e m33e m126e
        exact rfl
      have k11 : ¬ ((z31 + 9995000 : Int) ≤ (-1) * r7 + (-1) * z8 + 9995010) := Zleqf h218 h87 g
      clear g
      have f11_0 := rs_f64 b_r7 b_z31 b_z8 b_x1 b_m123 b_m125 b_m32 k11 m123e m32e m125e
      have f11_1 := rs_f65 b_r7 b_z31 b_z8 b_x2 b_m124 b_m126 b_m33 k11 m124e m33e m126e
      exact rfl
    have k8 : ¬ ((x5 : Int) ≤ 3) := Zleqf e5 (Zc 3) g
    clear g
    refine ask_p (fun g => ?_) (fun g => ?_)
    · have k9 : (x5 : Int) ≤ 4 := Zleqt e5 (Zc 4) g
      clear g
      refine rs_c0 h2 h4 h6 b_x0 b_x1 b_x2 ?_
      refine rs_c1 h6 h9 h8 h10 h13 h14 b_x2 b_x3 b_m1 b_m2 b_x1 b_x0 ?_
      refine rs_c17 h332 h334 h372 h374 h405 h407 h438 h440 h12 h121 h123 b_q61 b_q63 b_x0 b_q68 b_q70 b_q79 b_q81 b_q90 b_q92 b_x1 b_x2 b_q11 b_q9 ?_
      refine aT (Pleq h123 h158 (rs_t48 b_q11 b_q9 b_x0 b_q16 b_q18)) ?_
      refine rs_c7 h158 h160 h193 h195 h228 b_q16 b_q18 b_x0 b_q25 b_q27 b_q34 b_q36 ?_
      refine rs_c8 h228 h230 b_q34 b_q36 b_x0 ?_
      refine aT (Pleq (Zc 0) h252 (rs_t69 b_z40)) ?_
      refine rs_c9 h252 h58 b_z40 b_r7 ?_
      refine rs_c5 h58 h60 h71 h72 h82 h73 h62 h85 h87 h80 b_r7 b_x3 b_z8 ?_
      refine ask_p (fun g => ?_) (fun g => ?_)
      · have k12 : (0 : Int) ≤ (-1) * u100 + u99 := Zleqt (Zc 0) h462 g
        clear g
        refine ask_q (fun g => ?_) (fun g => ?_)
        · have k13 : ¬ ((z96 : Int) ≤ r7 + z8 + (-10)) := Zleqf h455 h111 g
          clear g
          have f13_0 := rs_f121 b_r7 b_z8 b_z96 b_x1 b_m123 b_m125 b_m97 k13 m123e m125e m97e
          have f13_1 := rs_f122 b_r7 b_z8 b_z96 b_x2 b_m124 b_m126 b_m98 k13 m124e m126e m98e
          exact rfl
        have k13 : (z96 : Int) ≤ r7 + z8 + (-10) := Zleqt h455 h111 g
        clear g
        have f13_0 := rs_f123 b_r7 b_z8 b_z96 b_x1 b_m123 b_m125 b_m97 k13 m123e m125e m97e
        have f13_1 := rs_f124 b_r7 b_z8 b_z96 b_x2 b_m124 b_m126 b_m98 k13 m124e m126e m98e
        refine ask_p (fun g => ?_) (fun g => ?_)
        · have k14 : (z40 + 9995000 : Int) ≤ (-1) * r7 + (-1) * z8 + 9995010 := Zleqt h253 h87 g
          clear g
          have f14_0 := rs_f71 b_r7 b_z40 b_z8 b_x1 b_m123 b_m125 b_m41 k14 m123e m41e m125e
          have f14_1 := rs_f72 b_r7 b_z40 b_z8 b_x2 b_m124 b_m126 b_m42 k14 m124e m42e m126e
          exact rfl
        have k14 : ¬ ((z40 + 9995000 : Int) ≤ (-1) * r7 + (-1) * z8 + 9995010) := Zleqf h253 h87 g
        clear g
        have f14_0 := rs_f73 b_r7 b_z40 b_z8 b_x1 b_m123 b_m125 b_m41 k14 m123e m41e m125e
        have f14_1 := rs_f74 b_r7 b_z40 b_z8 b_x2 b_m124 b_m126 b_m42 k14 m124e m42e m126e
        exact rfl
      have k12 : ¬ ((0 : Int) ≤ (-1) * u100 + u99) := Zleqf (Zc 0) h462 g
      clear g
      refine ask_q (fun g => ?_) (fun g => ?_)
      · have k13 : ¬ ((z96 : Int) ≤ r7 + z8 + (-10)) := Zleqf h455 h111 g
        clear g
        have f13_0 := rs_f121 b_r7 b_z8 b_z96 b_x1 b_m123 b_m125 b_m97 k13 m123e m125e m97e
        have f13_1 := rs_f122 b_r7 b_z8 b_z96 b_x2 b_m124 b_m126 b_m98 k13 m124e m126e m98e
        exact rfl
      have k13 : (z96 : Int) ≤ r7 + z8 + (-10) := Zleqt h455 h111 g
      clear g
      have f13_0 := rs_f123 b_r7 b_z8 b_z96 b_x1 b_m123 b_m125 b_m97 k13 m123e m125e m97e
      have f13_1 := rs_f124 b_r7 b_z8 b_z96 b_x2 b_m124 b_m126 b_m98 k13 m124e m126e m98e
      refine ask_p (fun g => ?_) (fun g => ?_)
      · have k14 : (z40 + 9995000 : Int) ≤ (-1) * r7 + (-1) * z8 + 9995010 := Zleqt h253 h87 g
        clear g
        have f14_0 := rs_f71 b_r7 b_z40 b_z8 b_x1 b_m123 b_m125 b_m41 k14 m123e m41e m125e
        have f14_1 := rs_f72 b_r7 b_z40 b_z8 b_x2 b_m124 b_m126 b_m42 k14 m124e m42e m126e
        exact rs_d4 b_m123 b_m124 b_m125 b_m126 b_m41 b_m42 b_m97 b_m98 b_r7 b_u100 b_u38 b_u39 b_u94 b_u95 b_u99 b_x1 b_x2 b_x3 b_z40 b_z8 b_z96 k13 k14 z40s z8s z96s f13_0 f13_1 f14_0 f14_1 s4 s5 m41f1 m41f2 m41f3 m41f4 m42f1 m42f2 m42f3 m42f4 m97f1 m97f2 m97f3 m97f4 m98f1 m98f2 m98f3 m98f4 m123f1 m123f2 m123f3 m123f4 m125f1 m125f2 m125f3 m125f4 m124f1 m124f2 m124f3 m124f4 m126f1 m126f2 m126f3 m126f4 k12
      have k14 : ¬ ((z40 + 9995000 : Int) ≤ (-1) * r7 + (-1) * z8 + 9995010) := Zleqf h253 h87 g
      clear g
      have f14_0 := rs_f73 b_r7 b_z40 b_z8 b_x1 b_m123 b_m125 b_m41 k14 m123e m41e m125e
      have f14_1 := rs_f74 b_r7 b_z40 b_z8 b_x2 b_m124 b_m126 b_m42 k14 m124e m42e m126e
      exact rfl
    have k9 : ¬ ((x5 : Int) ≤ 4) := Zleqf e5 (Zc 4) g
    clear g
    refine ask_p (fun g => ?_) (fun g => ?_)
    · have k10 : (x5 : Int) ≤ 5 := Zleqt e5 (Zc 5) g
      clear g
      refine rs_c0 h2 h4 h6 b_x0 b_x1 b_x2 ?_
      refine rs_c1 h6 h9 h8 h10 h13 h14 b_x2 b_x3 b_m1 b_m2 b_x1 b_x0 ?_
      refine rs_c17 h332 h334 h372 h374 h405 h407 h438 h440 h12 h121 h123 b_q61 b_q63 b_x0 b_q68 b_q70 b_q79 b_q81 b_q90 b_q92 b_x1 b_x2 b_q11 b_q9 ?_
      refine aT (Pleq h123 h158 (rs_t48 b_q11 b_q9 b_x0 b_q16 b_q18)) ?_
      refine rs_c7 h158 h160 h193 h195 h228 b_q16 b_q18 b_x0 b_q25 b_q27 b_q34 b_q36 ?_
      refine rs_c10 h228 h230 h263 h265 h287 h58 b_q34 b_q36 b_x0 b_q43 b_q45 b_z49 b_r7 ?_
      refine rs_c5 h58 h60 h71 h72 h82 h73 h62 h85 h87 h80 b_r7 b_x3 b_z8 ?_
      refine ask_q (fun g => ?_) (fun g => ?_)
      · have k12 : ¬ ((z96 : Int) ≤ r7 + z8 + (-10)) := Zleqf h455 h111 g
        clear g
        have f12_0 := rs_f121 b_r7 b_z8 b_z96 b_x1 b_m123 b_m125 b_m97 k12 m123e m125e m97e
        have f12_1 := rs_f122 b_r7 b_z8 b_z96 b_x2 b_m124 b_m126 b_m98 k12 m124e m126e m98e
        exact rfl
      have k12 : (z96 : Int) ≤ r7 + z8 + (-10) := Zleqt h455 h111 g
      clear g
      have f12_0 := rs_f123 b_r7 b_z8 b_z96 b_x1 b_m123 b_m125 b_m97 k12 m123e m125e m97e
      have f12_1 := rs_f124 b_r7 b_z8 b_z96 b_x2 b_m124 b_m126 b_m98 k12 m124e m126e m98e
      refine ask_p (fun g => ?_) (fun g => ?_)
      · have k13 : (z49 + 9995000 : Int) ≤ (-1) * r7 + (-1) * z8 + 9995010 := Zleqt h288 h87 g
        clear g
        have f13_0 := rs_f80 b_r7 b_z49 b_z8 b_x1 b_m123 b_m125 b_m50 k13 m123e m50e m125e
        have f13_1 := rs_f81 b_r7 b_z49 b_z8 b_x2 b_m124 b_m126 b_m51 k13 m124e m51e m126e
        exact rfl
      have k13 : ¬ ((z49 + 9995000 : Int) ≤ (-1) * r7 + (-1) * z8 + 9995010) := Zleqf h288 h87 g
      clear g
      have f13_0 := rs_f82 b_r7 b_z49 b_z8 b_x1 b_m123 b_m125 b_m50 k13 m123e m50e m125e
      have f13_1 := rs_f83 b_r7 b_z49 b_z8 b_x2 b_m124 b_m126 b_m51 k13 m124e m51e m126e
      exact rfl
    have k10 : ¬ ((x5 : Int) ≤ 5) := Zleqf e5 (Zc 5) g
    clear g
    refine ask_p (fun g => ?_) (fun g => ?_)
    · have k11 : (x5 : Int) ≤ 6 := Zleqt e5 (Zc 6) g
      clear g
      refine rs_c0 h2 h4 h6 b_x0 b_x1 b_x2 ?_
      refine rs_c1 h6 h9 h8 h10 h13 h14 b_x2 b_x3 b_m1 b_m2 b_x1 b_x0 ?_
      refine rs_c17 h332 h334 h372 h374 h405 h407 h438 h440 h12 h121 h123 b_q61 b_q63 b_x0 b_q68 b_q70 b_q79 b_q81 b_q90 b_q92 b_x1 b_x2 b_q11 b_q9 ?_
      refine aT (Pleq h123 h158 (rs_t48 b_q11 b_q9 b_x0 b_q16 b_q18)) ?_
      refine rs_c7 h158 h160 h193 h195 h228 b_q16 b_q18 b_x0 b_q25 b_q27 b_q34 b_q36 ?_
      refine rs_c11 h228 h230 h263 h265 h298 b_q34 b_q36 b_x0 b_q43 b_q45 b_q52 b_q54 ?_
      refine aT (Pleq h298 h300 (rs_t85 b_q52 b_q54 b_x0)) ?_
      refine rs_c12 h300 h322 b_q52 b_q54 b_x0 b_z58 ?_
      refine aT (Pleq h322 (Zc 10000000) (rs_t88 b_z58)) ?_
      refine aT (Pleq (Zc 4990) h58 (rs_t20 b_r7)) ?_
      refine rs_c5 h58 h60 h71 h72 h82 h73 h62 h85 h87 h80 b_r7 b_x3 b_z8 ?_
      refine ask_q (fun g => ?_) (fun g => ?_)
      · have k16 : ¬ ((z96 : Int) ≤ r7 + z8 + (-10)) := Zleqf h455 h111 g
        clear g
        have f16_0 := rs_f121 b_r7 b_z8 b_z96 b_x1 b_m123 b_m125 b_m97 k16 m123e m125e m97e
        have f16_1 := rs_f122 b_r7 b_z8 b_z96 b_x2 b_m124 b_m126 b_m98 k16 m124e m126e m98e
        exact rfl
      have k16 : (z96 : Int) ≤ r7 + z8 + (-10) := Zleqt h455 h111 g
      clear g
      have f16_0 := rs_f123 b_r7 b_z8 b_z96 b_x1 b_m123 b_m125 b_m97 k16 m123e m125e m97e
      have f16_1 := rs_f124 b_r7 b_z8 b_z96 b_x2 b_m124 b_m126 b_m98 k16 m124e m126e m98e
      refine ask_p (fun g => ?_) (fun g => ?_)
      · have k17 : (z58 + 9995000 : Int) ≤ (-1) * r7 + (-1) * z8 + 9995010 := Zleqt h323 h87 g
        clear g
        have f17_0 := rs_f89 b_r7 b_z58 b_z8 b_x1 b_m123 b_m125 b_m59 k17 m123e m59e m125e
        have f17_1 := rs_f90 b_r7 b_z58 b_z8 b_x2 b_m124 b_m126 b_m60 k17 m124e m60e m126e
        exact rfl
      have k17 : ¬ ((z58 + 9995000 : Int) ≤ (-1) * r7 + (-1) * z8 + 9995010) := Zleqf h323 h87 g
      clear g
      have f17_0 := rs_f91 b_r7 b_z58 b_z8 b_x1 b_m123 b_m125 b_m59 k17 m123e m59e m125e
      have f17_1 := rs_f92 b_r7 b_z58 b_z8 b_x2 b_m124 b_m126 b_m60 k17 m124e m60e m126e
      exact rfl
    have k11 : ¬ ((x5 : Int) ≤ 6) := Zleqf e5 (Zc 6) g
    clear g
    refine rs_c0 h2 h4 h6 b_x0 b_x1 b_x2 ?_
    refine rs_c1 h6 h9 h8 h10 h13 h14 b_x2 b_x3 b_m1 b_m2 b_x1 b_x0 ?_
    refine rs_c17 h332 h334 h372 h374 h405 h407 h438 h440 h12 h121 h123 b_q61 b_q63 b_x0 b_q68 b_q70 b_q79 b_q81 b_q90 b_q92 b_x1 b_x2 b_q11 b_q9 ?_
    refine aT (Pleq h123 h158 (rs_t48 b_q11 b_q9 b_x0 b_q16 b_q18)) ?_
    refine rs_c7 h158 h160 h193 h195 h228 b_q16 b_q18 b_x0 b_q25 b_q27 b_q34 b_q36 ?_
    refine rs_c11 h228 h230 h263 h265 h298 b_q34 b_q36 b_x0 b_q43 b_q45 b_q52 b_q54 ?_
    refine aT (Pleq h298 h300 (rs_t85 b_q52 b_q54 b_x0)) ?_
    refine rs_c12 h300 h322 b_q52 b_q54 b_x0 b_z58 ?_
    refine aT (Pleq h322 (Zc 10000000) (rs_t88 b_z58)) ?_
    refine aT (Pleq (Zc 4990) h58 (rs_t20 b_r7)) ?_
    refine rs_c5 h58 h60 h71 h72 h82 h73 h62 h85 h87 h80 b_r7 b_x3 b_z8 ?_
    refine ask_q (fun g => ?_) (fun g => ?_)
    · have k16 : ¬ ((z96 : Int) ≤ r7 + z8 + (-10)) := Zleqf h455 h111 g
      clear g
      have f16_0 := rs_f121 b_r7 b_z8 b_z96 b_x1 b_m123 b_m125 b_m97 k16 m123e m125e m97e
      have f16_1 := rs_f122 b_r7 b_z8 b_z96 b_x2 b_m124 b_m126 b_m98 k16 m124e m126e m98e
      exact rfl
    have k16 : (z96 : Int) ≤ r7 + z8 + (-10) := Zleqt h455 h111 g
    clear g
    have f16_0 := rs_f123 b_r7 b_z8 b_z96 b_x1 b_m123 b_m125 b_m97 k16 m123e m125e m97e
    have f16_1 := rs_f124 b_r7 b_z8 b_z96 b_x2 b_m124 b_m126 b_m98 k16 m124e m126e m98e
    refine ask_p (fun g => ?_) (fun g => ?_)
    · have k17 : (z58 + 9995000 : Int) ≤ (-1) * r7 + (-1) * z8 + 9995010 := Zleqt h323 h87 g
      clear g
      have f17_0 := rs_f89 b_r7 b_z58 b_z8 b_x1 b_m123 b_m125 b_m59 k17 m123e m59e m125e
      have f17_1 := rs_f90 b_r7 b_z58 b_z8 b_x2 b_m124 b_m126 b_m60 k17 m124e m60e m126e
      exact rfl
    have k17 : ¬ ((z58 + 9995000 : Int) ≤ (-1) * r7 + (-1) * z8 + 9995010) := Zleqf h323 h87 g
    clear g
    have f17_0 := rs_f91 b_r7 b_z58 b_z8 b_x1 b_m123 b_m125 b_m59 k17 m123e m59e m125e
    have f17_1 := rs_f92 b_r7 b_z58 b_z8 b_x2 b_m124 b_m126 b_m60 k17 m124e m60e m126e
    exact rfl
  have k4 : ¬ ((x4 : Int) ≤ 4) := Zleqf e4 (Zc 4) g
  clear g
  refine ask_p (fun g => ?_) (fun g => ?_)
  · have k5 : (x4 : Int) ≤ 5 := Zleqt e4 (Zc 5) g
    clear g
    refine ask_p (fun g => ?_) (fun g => ?_)
    · have k6 : (x5 : Int) ≤ 0 := Zleqt e5 (Zc 0) g
      clear g
      refine ask_q (fun g => ?_) (fun g => ?_)
      · have k7 : ¬ ((x5 : Int) ≤ 1) := Zleqf e5 (Zc 1) g
        clear g
        exact rs_d1 b_x5 k6 k7
      have k7 : (x5 : Int) ≤ 1 := Zleqt e5 (Zc 1) g
      clear g
      refine rs_c0 h2 h4 h6 b_x0 b_x1 b_x2 ?_
      refine rs_c1 h6 h9 h8 h10 h13 h14 b_x2 b_x3 b_m1 b_m2 b_x1 b_x0 ?_
      refine aT (Pleq (Zc (-10000000)) h332 (rs_t93 b_q61 b_q63 b_x0)) ?_
      refine aT (Pleq h332 h334 (rs_t94 b_q61 b_q63 b_x0)) ?_
      refine aT (Pleq h334 h372 (rs_t102 b_q61 b_q63 b_x0 b_q68 b_q70)) ?_
      refine aT (Pleq h372 h374 (rs_t103 b_q68 b_q70 b_x0)) ?_
      refine aT (Pleq h374 h405 (rs_t110 b_q68 b_q70 b_x0 b_q79 b_q81)) ?_
      refine aT (Pleq h405 h407 (rs_t111 b_q79 b_q81 b_x0)) ?_
      refine aT (Pleq h407 h438 (rs_t118 b_q79 b_q81 b_x0 b_q90 b_q92)) ?_
      refine aT (Pleq h438 h440 (rs_t119 b_q90 b_q92 b_x0)) ?_
      refine aT (Pleq h440 h471 (rs_t126 b_q90 b_q92 b_x0 b_q101 b_q103)) ?_
      refine aT (Pleq h471 h473 (rs_t127 b_q101 b_q103 b_x0)) ?_
      refine aT (Pleq h473 (Zc 10000000) (rs_t128 b_q101 b_q103 b_x0)) ?_
      refine aF (Neql h12 (Zc 0) (rs_t17 b_x1 b_x2)) ?_
      refine aT (Pleq (Zc (-10000000)) h20 (rs_t14 b_x0)) ?_
      refine aT (Pleq h20 h22 (rs_t15 b_x0)) ?_
      refine aT (Pleq h22 (Zc 10000000) (rs_t16 b_x0)) ?_
      refine aT (Pleq (Zc 0) h56 (rs_t18 b_z3)) ?_
      refine aT (Pleq h56 (Zc 10000000) (rs_t19 b_z3)) ?_
      refine aT (Pleq (Zc 4990) h58 (rs_t20 b_r7)) ?_
      refine rs_c5 h58 h60 h71 h72 h82 h73 h62 h85 h87 h80 b_r7 b_x3 b_z8 ?_
      refine ask_q (fun g => ?_) (fun g => ?_)
      · have k26 : ¬ ((z107 : Int) ≤ r7 + z8 + (-10)) := Zleqf h488 h111 g
        clear g
        have f26_0 := rs_f129 b_r7 b_z107 b_z8 b_x1 b_m108 b_m123 b_m125 k26 m123e m108e m125e
        have f26_1 := rs_f130 b_r7 b_z107 b_z8 b_x2 b_m109 b_m124 b_m126 k26 m124e m109e m126e
        exact rfl
      have k26 : (z107 : Int) ≤ r7 + z8 + (-10) := Zleqt h488 h111 g
      clear g
      have f26_0 := rs_f131 b_r7 b_z107 b_z8 b_x1 b_m108 b_m123 b_m125 k26 m123e m108e m125e
      have f26_1 := rs_f132 b_r7 b_z107 b_z8 b_x2 b_m109 b_m124 b_m126 k26 m124e m109e m126e
      refine ask_p (fun g => ?_) (fun g => ?_)
      · have k27 : (z3 + 9995000 : Int) ≤ (-1) * r7 + (-1) * z8 + 9995010 := Zleqt h112 h87 g
        clear g
        have f27_0 := rs_f34 b_r7 b_z3 b_z8 b_x1 b_m123 b_m125 b_m4 k27 m123e m4e m125e
        have f27_1 := rs_f35 b_r7 b_z3 b_z8 b_x2 b_m124 b_m126 b_m5 k27 m124e m5e m126e
        exact rfl
      have k27 : ¬ ((z3 + 9995000 : Int) ≤ (-1) * r7 + (-1) * z8 + 9995010) := Zleqf h112 h87 g
      clear g
      have f27_0 := rs_f36 b_r7 b_z3 b_z8 b_x1 b_m123 b_m125 b_m4 k27 m123e m4e m125e
      have f27_1 := rs_f37 b_r7 b_z3 b_z8 b_x2 b_m124 b_m126 b_m5 k27 m124e m5e m126e
      exact rfl
    have k6 : ¬ ((x5 : Int) ≤ 0) := Zleqf e5 (Zc 0) g
    clear g
    refine ask_p (fun g => ?_) (fun g => ?_)
    · have k7 : (x5 : Int) ≤ 1 := Zleqt e5 (Zc 1) g
      clear g
      refine rs_c0 h2 h4 h6 b_x0 b_x1 b_x2 ?_
      refine rs_c1 h6 h9 h8 h10 h13 h14 b_x2 b_x3 b_m1 b_m2 b_x1 b_x0 ?_
      refine rs_c18 h332 h334 h372 h374 h405 h407 h438 h440 h471 h473 h12 h121 h123 b_q61 b_q63 b_x0 b_q68 b_q70 b_q79 b_q81 b_q90 b_q92 b_q101 b_q103 b_x1 b_x2 b_q11 b_q9 ?_
      refine rs_c3 h123 h140 b_q11 b_q9 b_x0 b_z13 ?_
      refine aT (Pleq (Zc 4990) h58 (rs_t20 b_r7)) ?_
      refine rs_c5 h58 h60 h71 h72 h82 h73 h62 h85 h87 h80 b_r7 b_x3 b_z8 ?_
      refine ask_q (fun g => ?_) (fun g => ?_)
      · have k9 : ¬ ((z107 : Int) ≤ r7 + z8 + (-10)) := Zleqf h488 h111 g
        clear g
        have f9_0 := rs_f129 b_r7 b_z107 b_z8 b_x1 b_m108 b_m123 b_m125 k9 m123e m108e m125e
        have f9_1 := rs_f130 b_r7 b_z107 b_z8 b_x2 b_m109 b_m124 b_m126 k9 m124e m109e m126e
        exact rfl
      have k9 : (z107 : Int) ≤ r7 + z8 + (-10) := Zleqt h488 h111 g
      clear g
      have f9_0 := rs_f131 b_r7 b_z107 b_z8 b_x1 b_m108 b_m123 b_m125 k9 m123e m108e m125e
      have f9_1 := rs_f132 b_r7 b_z107 b_z8 b_x2 b_m109 b_m124 b_m126 k9 m124e m109e m126e
      refine ask_p (fun g => ?_) (fun g => ?_)
      · have k10 : (z13 + 9995000 : Int) ≤ (-1) * r7 + (-1) * z8 + 9995010 := Zleqt h148 h87 g
        clear g
        have f10_0 := rs_f44 b_r7 b_z13 b_z8 b_x1 b_m123 b_m125 b_m14 k10 m123e m14e m125e
        have f10_1 := rs_f45 b_r7 b_z13 b_z8 b_x2 b_m124 b_m126 b_m15 k10 m124e m15e m126e
        exact rfl
      have k10 : ¬ ((z13 + 9995000 : Int) ≤ (-1) * r7 + (-1) * z8 + 9995010) := Zleqf h148 h87 g
      clear g
      have f10_0 := rs_f46 b_r7 b_z13 b_z8 b_x1 b_m123 b_m125 b_m14 k10 m123e m14e m125e
      have f10_1 := rs_f47 b_r7 b_z13 b_z8 b_x2 b_m124 b_m126 b_m15 k10 m124e m15e m126e
      exact rfl
    have k7 : ¬ ((x5 : Int) ≤ 1) := Zleqf e5 (Zc 1) g
    clear g
    refine ask_p (fun g => ?_) (fun g => ?_)
    · have k8 : (x5 : Int) ≤ 2 := Zleqt e5 (Zc 2) g
      clear g
      refine rs_c0 h2 h4 h6 b_x0 b_x1 b_x2 ?_
      refine rs_c1 h6 h9 h8 h10 h13 h14 b_x2 b_x3 b_m1 b_m2 b_x1 b_x0 ?_
      refine rs_c18 h332 h334 h372 h374 h405 h407 h438 h440 h471 h473 h12 h121 h123 b_q61 b_q63 b_x0 b_q68 b_q70 b_q79 b_q81 b_q90 b_q92 b_q101 b_q103 b_x1 b_x2 b_q11 b_q9 ?_
      refine aT (Pleq h123 h158 (rs_t48 b_q11 b_q9 b_x0 b_q16 b_q18)) ?_
      refine rs_c4 h158 h160 h182 h58 b_q16 b_q18 b_x0 b_z22 b_r7 ?_
      refine rs_c5 h58 h60 h71 h72 h82 h73 h62 h85 h87 h80 b_r7 b_x3 b_z8 ?_
      refine ask_q (fun g => ?_) (fun g => ?_)
      · have k10 : ¬ ((z107 : Int) ≤ r7 + z8 + (-10)) := Zleqf h488 h111 g
        clear g
        have f10_0 := rs_f129 b_r7 b_z107 b_z8 b_x1 b_m108 b_m123 b_m125 k10 m123e m108e m125e
        have f10_1 := rs_f130 b_r7 b_z107 b_z8 b_x2 b_m109 b_m124 b_m126 k10 m124e m109e m126e
        exact rfl
      have k10 : (z107 : Int) ≤ r7 + z8 + (-10) := Zleqt h488 h111 g
      clear g
      have f10_0 := rs_f131 b_r7 b_z107 b_z8 b_x1 b_m108 b_m123 b_m125 k10 m123e m108e m125e
      have f10_1 := rs_f132 b_r7 b_z107 b_z8 b_x2 b_m109 b_m124 b_m126 k10 m124e m109e m126e
      refine ask_p (fun g => ?_) (fun g => ?_)
      · have k11 : (z22 + 9995000 : Int) ≤ (-1) * r7 + (-1) * z8 + 9995010 := Zleqt h183 h87 g
        clear g
        have f11_0 := rs_f53 b_r7 b_z22 b_z8 b_x1 b_m123 b_m125 b_m23 k11 m123e m23e m125e
        have f11_1 := rs_f54 b_r7 b_z22 b_z8 b_x2 b_m124 b_m126 b_m24 k11 m124e m24e m126e
        exact rfl
      have k11 : ¬ ((z22 + 9995000 : Int) ≤ (-1) * r7 + (-1) * z8 + 9995010) := Zleqf h183 h87 g
      clear g
      have f11_0 := rs_f55 b_r7 b_z22 b_z8 b_x1 b_m123 b_m125 b_m23 k11 m123e m23e m125e
      have f11_1 := rs_f56 b_r7 b_z22 b_z8 b_x2 b_m124 b_m126 b_m24 k11 m124e m24e m126e
      exact rfl
    have k8 : ¬ ((x5 : Int) ≤ 2) := Zleqf e5 (Zc 2) g
    clear g
    refine ask_p (fun g => ?_) (fun g => ?_)
    · have k9 : (x5 : Int) ≤ 3 := Zleqt e5 (Zc 3) g
      clear g
      refine rs_c0 h2 h4 h6 b_x0 b_x1 b_x2 ?_
      refine rs_c1 h6 h9 h8 h10 h13 h14 b_x2 b_x3 b_m1 b_m2 b_x1 b_x0 ?_
      refine rs_c18 h332 h334 h372 h374 h405 h407 h438 h440 h471 h473 h12 h121 h123 b_q61 b_q63 b_x0 b_q68 b_q70 b_q79 b_q81 b_q90 b_q92 b_q101 b_q103 b_x1 b_x2 b_q11 b_q9 ?_
      refine aT (Pleq h123 h158 (rs_t48 b_q11 b_q9 b_x0 b_q16 b_q18)) ?_
      refine rs_c6 h158 h160 h193 h195 h217 h58 b_q16 b_q18 b_x0 b_q25 b_q27 b_z31 b_r7 ?_
      refine rs_c5 h58 h60 h71 h72 h82 h73 h62 h85 h87 h80 b_r7 b_x3 b_z8 ?_
      refine ask_q (fun g => ?_) (fun g => ?_)
      · have k11 : ¬ ((z107 : Int) ≤ r7 + z8 + (-10)) := Zleqf h488 h111 g
        clear g
        have f11_0 := rs_f129 b_r7 b_z107 b_z8 b_x1 b_m108 b_m123 b_m125 k11 m123e m108e m125e
        have f11_1 := rs_f130 b_r7 b_z107 b_z8 b_x2 b_m109 b_m124 b_m126 k11 m124e m109e m126e
        exact rfl
      have k11 : (z107 : Int) ≤ r7 + z8 + (-10) := Zleqt h488 h111 g
      clear g
      have f11_0 := rs_f131 b_r7 b_z107 b_z8 b_x1 b_m108 b_m123 b_m125 k11 m123e m108e m125e
      have f11_1 := rs_f132 b_r7 b_z107 b_z8 b_x2 b_m109 b_m124 b_m126 k11 m124e m109e m126e
      refine ask_p (fun g => ?_) (fun g => ?_)
      · have k12 : (z31 + 9995000 : Int) ≤ (-1) * r7 + (-1) * z8 + 9995010 := Zleqt h218 h87 g
        clear g
        have f12_0 := rs_f62 b_r7 b_z31 b_z8 b_x1 b_m123 b_m125 b_m32 k12 m123e m32e m125e
        have f12_1 := rs_f63 b_r7 b_z31 b_z8 b_x2 b_m124 b_m126 b_m33 k12 m124e m33e m126e
        exact rfl
      have k12 : ¬ ((z31 + 9995000 : Int) ≤ (-1) * r7 + (-1) * z8 + 9995010) := Zleqf h218 h87 g
      clear g
      have f12_0 := rs_f64 b_r7 b_z31 b_z8 b_x1 b_m123 b_m125 b_m32 k12 m123e m32e m125e
      have f12_1 := rs_f65 b_r7 b_z31 b_z8 b_x2 b_m124 b_m126 b_m33 k12 m124e m33e m126e
      exact rfl
    have k9 : ¬ ((x5 : Int) ≤ 3) := Zleqf e5 (Zc 3) g
    clear g
    refine ask_p (fun g => ?_) (fun g => ?_)
    · have k10 : (x5 : Int) ≤ 4 := Zleqt e5 (Zc 4) g
      clear g
      refine rs_c0 h2 h4 h6 b_x0 b_x1 b_x2 ?_
      refine rs_c1 h6 h9 h8 h10 h13 h14 b_x2 b_x3 b_m1 b_m2 b_x1 b_x0 ?_
      refine rs_c18 h332 h334 h372 h374 h405 h407 h438 h440 h471 h473 h12 h121 h123 b_q61 b_q63 b_x0 b_q68 b_q70 b_q79 b_q81 b_q90 b_q92 b_q101 b_q103 b_x1 b_x2 b_q11 b_q9 ?_
      refine aT (Pleq h123 h158 (rs_t48 b_q11 b_q9 b_x0 b_q16 b_q18)) ?_
      refine rs_c7 h158 h160 h193 h195 h228 b_q16 b_q18 b_x0 b_q25 b_q27 b_q34 b_q36 ?_
      refine rs_c8 h228 h230 b_q34 b_q36 b_x0 ?_
      refine aT (Pleq (Zc 0) h252 (rs_t69 b_z40)) ?_
      refine rs_c9 h252 h58 b_z40 b_r7 ?_
      refine rs_c5 h58 h60 h71 h72 h82 h73 h62 h85 h87 h80 b_r7 b_x3 b_z8 ?_
      refine ask_q (fun g => ?_) (fun g => ?_)
      · have k13 : ¬ ((z107 : Int) ≤ r7 + z8 + (-10)) := Zleqf h488 h111 g
        clear g
        have f13_0 := rs_f129 b_r7 b_z107 b_z8 b_x1 b_m108 b_m123 b_m125 k13 m123e m108e m125e
        have f13_1 := rs_f130 b_r7 b_z107 b_z8 b_x2 b_m109 b_m124 b_m126 k13 m124e m109e m126e
        exact rfl
      have k13 : (z107 : Int) ≤ r7 + z8 + (-10) := Zleqt h488 h111 g
      clear g
      have f13_0 := rs_f131 b_r7 b_z107 b_z8 b_x1 b_m108 b_m123 b_m125 k13 m123e m108e m125e
      have f13_1 := rs_f132 b_r7 b_z107 b_z8 b_x2 b_m109 b_m124 b_m126 k13 m124e m109e m126e
      refine ask_p (fun g => ?_) (fun g => ?_)
      · have k14 : (z40 + 9995000 : Int) ≤ (-1) * r7 + (-1) * z8 + 9995010 := Zleqt h253 h87 g
        clear g
        have f14_0 := rs_f71 b_r7 b_z40 b_z8 b_x1 b_m123 b_m125 b_m41 k14 m123e m41e m125e
        have f14_1 := rs_f72 b_r7 b_z40 b_z8 b_x2 b_m124 b_m126 b_m42 k14 m124e m42e m126e
        exact rfl
      have k14 : ¬ ((z40 + 9995000 : Int) ≤ (-1) * r7 + (-1) * z8 + 9995010) := Zleqf h253 h87 g
      clear g
      have f14_0 := rs_f73 b_r7 b_z40 b_z8 b_x1 b_m123 b_m125 b_m41 k14 m123e m41e m125e
      have f14_1 := rs_f74 b_r7 b_z40 b_z8 b_x2 b_m124 b_m126 b_m42 k14 m124e m42e m126e
      exact rfl
    have k10 : ¬ ((x5 : Int) ≤ 4) := Zleqf e5 (Zc 4) g
    clear g
    refine ask_p (fun g => ?_) (fun g => ?_)
    · have k11 : (x5 : Int) ≤ 5 := Zleqt e5 (Zc 5) g
      clear g
      refine rs_c0 h2 h4 h6 b_x0 b_x1 b_x2 ?_
      refine rs_c1 h6 h9 h8 h10 h13 h14 b_x2 b_x3 b_m1 b_m2 b_x1 b_x0 ?_
      refine rs_c18 h332 h334 h372 h374 h405 h407 h438 h440 h471 h473 h12 h121 h123 b_q61 b_q63 b_x0 b_q68 b_q70 b_q79 b_q81 b_q90 b_q92 b_q101 b_q103 b_x1 b_x2 b_q11 b_q9 ?_
      refine aT (Pleq h123 h158 (rs_t48 b_q11 b_q9 b_x0 b_q16 b_q18)) ?_
      refine rs_c7 h158 h160 h193 h195 h228 b_q16 b_q18 b_x0 b_q25 b_q27 b_q34 b_q36 ?_
      refine rs_c10 h228 h230 h263 h265 h287 h58 b_q34 b_q36 b_x0 b_q43 b_q45 b_z49 b_r7 ?_
      refine rs_c5 h58 h60 h71 h72 h82 h73 h62 h85 h87 h80 b_r7 b_x3 b_z8 ?_
      refine ask_p (fun g => ?_) (fun g => ?_)
      · have k13 : (0 : Int) ≤ u110 + (-1) * u111 := Zleqt (Zc 0) h495 g
        clear g
        refine ask_q (fun g => ?_) (fun g => ?_)
        · have k14 : ¬ ((z107 : Int) ≤ r7 + z8 + (-10)) := Zleqf h488 h111 g
          clear g
          have f14_0 := rs_f129 b_r7 b_z107 b_z8 b_x1 b_m108 b_m123 b_m125 k14 m123e m108e m125e
          have f14_1 := rs_f130 b_r7 b_z107 b_z8 b_x2 b_m109 b_m124 b_m126 k14 m124e m109e m126e
          exact rfl
        have k14 : (z107 : Int) ≤ r7 + z8 + (-10) := Zleqt h488 h111 g
        clear g
        have f14_0 := rs_f131 b_r7 b_z107 b_z8 b_x1 b_m108 b_m123 b_m125 k14 m123e m108e m125e
        have f14_1 := rs_f132 b_r7 b_z107 b_z8 b_x2 b_m109 b_m124 b_m126 k14 m124e m109e m126e
        refine ask_p (fun g => ?_) (fun g => ?_)
        · have k15 : (z49 + 9995000 : Int) ≤ (-1) * r7 + (-1) * z8 + 9995010 := Zleqt h288 h87 g
          clear g
          have f15_0 := rs_f80 b_r7 b_z49 b_z8 b_x1 b_m123 b_m125 b_m50 k15 m123e m50e m125e
          have f15_1 := rs_f81 b_r7 b_z49 b_z8 b_x2 b_m124 b_m126 b_m51 k15 m124e m51e m126e
          exact rfl
        have k15 : ¬ ((z49 + 9995000 : Int) ≤ (-1) * r7 + (-1) * z8 + 9995010) := Zleqf h288 h87 g
        clear g
        have f15_0 := rs_f82 b_r7 b_z49 b_z8 b_x1 b_m123 b_m125 b_m50 k15 m123e m50e m125e
        have f15_1 := rs_f83 b_r7 b_z49 b_z8 b_x2 b_m124 b_m126 b_m51 k15 m124e m51e m126e
        exact rfl
      have k13 : ¬ ((0 : Int) ≤ u110 + (-1) * u111) := Zleqf (Zc 0) h495 g
      clear g
      refine ask_q (fun g => ?_) (fun g => ?_)
      · have k14 : ¬ ((z107 : Int) ≤ r7 + z8 + (-10)) := Zleqf h488 h111 g
        clear g
        have f14_0 := rs_f129 b_r7 b_z107 b_z8 b_x1 b_m108 b_m123 b_m125 k14 m123e m108e m125e
        have f14_1 := rs_f130 b_r7 b_z107 b_z8 b_x2 b_m109 b_m124 b_m126 k14 m124e m109e m126e
        exact rfl
      have k14 : (z107 : Int) ≤ r7 + z8 + (-10) := Zleqt h488 h111 g
      clear g
      have f14_0 := rs_f131 b_r7 b_z107 b_z8 b_x1 b_m108 b_m123 b_m125 k14 m123e m108e m125e
      have f14_1 := rs_f132 b_r7 b_z107 b_z8 b_x2 b_m109 b_m124 b_m126 k14 m124e m109e m126e
      refine ask_p (fun g => ?_) (fun g => ?_)
      · have k15 : (z49 + 9995000 : Int) ≤ (-1) * r7 + (-1) * z8 + 9995010 := Zleqt h288 h87 g
        clear g
        have f15_0 := rs_f80 b_r7 b_z49 b_z8 b_x1 b_m123 b_m125 b_m50 k15 m123e m50e m125e
        have f15_1 := rs_f81 b_r7 b_z49 b_z8 b_x2 b_m124 b_m126 b_m51 k15 m124e m51e m126e
        exact rs_d5 b_m108 b_m109 b_m123 b_m124 b_m125 b_m126 b_m50 b_m51 b_r7 b_u105 b_u106 b_u110 b_u111 b_u47 b_u48 b_x1 b_x2 b_x3 b_z107 b_z49 b_z8 k14 k15 z49s z8s z107s f14_0 f14_1 f15_0 f15_1 s6 s7 m50f1 m50f2 m50f3 m50f4 m51f1 m51f2 m51f3 m51f4 m108f1 m108f2 m108f3 m108f4 m109f1 m109f2 m109f3 m109f4 m123f1 m123f2 m123f3 m123f4 m125f1 m125f2 m125f3 m125f4 m124f1 m124f2 m124f3 m124f4 m126f1 m126f2 m126f3 m126f4 k13
      have k15 : ¬ ((z49 + 9995000 : Int) ≤ (-1) * r7 + (-1) * z8 + 9995010) := Zleqf h288 h87 g
      clear g
      have f15_0 := rs_f82 b_r7 b_z49 b_z8 b_x1 b_m123 b_m125 b_m50 k15 m123e m50e m125e
      have f15_1 := rs_f83 b_r7 b_z49 b_z8 b_x2 b_m124 b_m126 b_m51 k15 m124e m51e m126e
      exact rfl
    have k11 : ¬ ((x5 : Int) ≤ 5) := Zleqf e5 (Zc 5) g
    clear g
    refine ask_p (fun g => ?_) (fun g => ?_)
    · have k12 : (x5 : Int) ≤ 6 := Zleqt e5 (Zc 6) g
      clear g
      refine rs_c0 h2 h4 h6 b_x0 b_x1 b_x2 ?_
      refine rs_c1 h6 h9 h8 h10 h13 h14 b_x2 b_x3 b_m1 b_m2 b_x1 b_x0 ?_
      refine rs_c18 h332 h334 h372 h374 h405 h407 h438 h440 h471 h473 h12 h121 h123 b_q61 b_q63 b_x0 b_q68 b_q70 b_q79 b_q81 b_q90 b_q92 b_q101 b_q103 b_x1 b_x2 b_q11 b_q9 ?_
      refine aT (Pleq h123 h158 (rs_t48 b_q11 b_q9 b_x0 b_q16 b_q18)) ?_
      refine rs_c7 h158 h160 h193 h195 h228 b_q16 b_q18 b_x0 b_q25 b_q27 b_q34 b_q36 ?_
      refine rs_c11 h228 h230 h263 h265 h298 b_q34 b_q36 b_x0 b_q43 b_q45 b_q52 b_q54 ?_
      refine aT (Pleq h298 h300 (rs_t85 b_q52 b_q54 b_x0)) ?_
      refine rs_c12 h300 h322 b_q52 b_q54 b_x0 b_z58 ?_
      refine aT (Pleq h322 (Zc 10000000) (rs_t88 b_z58)) ?_
      refine aT (Pleq (Zc 4990) h58 (rs_t20 b_r7)) ?_
      refine rs_c5 h58 h60 h71 h72 h82 h73 h62 h85 h87 h80 b_r7 b_x3 b_z8 ?_
      refine ask_q (fun g => ?_) (fun g => ?_)
      · have k17 : ¬ ((z107 : Int) ≤ r7 + z8 + (-10)) := Zleqf h488 h111 g
        clear g
        have f17_0 := rs_f129 b_r7 b_z107 b_z8 b_x1 b_m108 b_m123 b_m125 k17 m123e m108e m125e
        have f17_1 := rs_f130 b_r7 b_z107 b_z8 b_x2 b_m109 b_m124 b_m126 k17 m124e m109e m126e
        exact rfl
      have k17 : (z107 : Int) ≤ r7 + z8 + (-10) := Zleqt h488 h111 g
      clear g
      have f17_0 := rs_f131 b_r7 b_z107 b_z8 b_x1 b_m108 b_m123 b_m125 k17 m123e m108e m125e
      have f17_1 := rs_f132 b_r7 b_z107 b_z8 b_x2 b_m109 b_m124 b_m126 k17 m124e m109e m126e
      refine ask_p (fun g => ?_) (fun g => ?_)
      · have k18 : (z58 + 9995000 : Int) ≤ (-1) * r7 + (-1) * z8 + 9995010 := Zleqt h323 h87 g
        clear g
        have f18_0 := rs_f89 b_r7 b_z58 b_z8 b_x1 b_m123 b_m125 b_m59 k18 m123e m59e m125e
        have f18_1 := rs_f90 b_r7 b_z58 b_z8 b_x2 b_m124 b_m126 b_m60 k18 m124e m60e m126e
        exact rfl
      have k18 : ¬ ((z58 + 9995000 : Int) ≤ (-1) * r7 + (-1) * z8 + 9995010) := Zleqf h323 h87 g
      clear g
      have f18_0 := rs_f91 b_r7 b_z58 b_z8 b_x1 b_m123 b_m125 b_m59 k18 m123e m59e m125e
      have f18_1 := rs_f92 b_r7 b_z58 b_z8 b_x2 b_m124 b_m126 b_m60 k18 m124e m60e m126e
      exact rfl
    have k12 : ¬ ((x5 : Int) ≤ 6) := Zleqf e5 (Zc 6) g
    clear g
    refine rs_c0 h2 h4 h6 b_x0 b_x1 b_x2 ?_
    refine rs_c1 h6 h9 h8 h10 h13 h14 b_x2 b_x3 b_m1 b_m2 b_x1 b_x0 ?_
    refine rs_c18 h332 h334 h372 h374 h405 h407 h438 h440 h471 h473 h12 h121 h123 b_q61 b_q63 b_x0 b_q68 b_q70 b_q79 b_q81 b_q90 b_q92 b_q101 b_q103 b_x1 b_x2 b_q11 b_q9 ?_
    refine aT (Pleq h123 h158 (rs_t48 b_q11 b_q9 b_x0 b_q16 b_q18)) ?_
    refine rs_c7 h158 h160 h193 h195 h228 b_q16 b_q18 b_x0 b_q25 b_q27 b_q34 b_q36 ?_
    refine rs_c11 h228 h230 h263 h265 h298 b_q34 b_q36 b_x0 b_q43 b_q45 b_q52 b_q54 ?_
    refine aT (Pleq h298 h300 (rs_t85 b_q52 b_q54 b_x0)) ?_
    refine rs_c12 h300 h322 b_q52 b_q54 b_x0 b_z58 ?_
    refine aT (Pleq h322 (Zc 10000000) (rs_t88 b_z58)) ?_
    refine aT (Pleq (Zc 4990) h58 (rs_t20 b_r7)) ?_
    refine rs_c5 h58 h60 h71 h72 h82 h73 h62 h85 h87 h80 b_r7 b_x3 b_z8 ?_
    refine ask_q (fun g => ?_) (fun g => ?_)
    · have k17 : ¬ ((z107 : Int) ≤ r7 + z8 + (-10)) := Zleqf h488 h111 g
      clear g
      have f17_0 := rs_f129 b_r7 b_z107 b_z8 b_x1 b_m108 b_m123 b_m125 k17 m123e m108e m125e
      have f17_1 := rs_f130 b_r7 b_z107 b_z8 b_x2 b_m109 b_m124 b_m126 k17 m124e m109e m126e
      exact rfl
    have k17 : (z107 : Int) ≤ r7 + z8 + (-10) := Zleqt h488 h111 g
    clear g
    have f17_0 := rs_f131 b_r7 b_z107 b_z8 b_x1 b_m108 b_m123 b_m125 k17 m123e m108e m125e
    have f17_1 := rs_f132 b_r7 b_z107 b_z8 b_x2 b_m109 b_m124 b_m126 k17 m124e m109e m126e
    refine ask_p (fun g => ?_) (fun g => ?_)
    · have k18 : (z58 + 9995000 : Int) ≤ (-1) * r7 + (-1) * z8 + 9995010 := Zleqt h323 h87 g
      clear g
      have f18_0 := rs_f89 b_r7 b_z58 b_z8 b_x1 b_m123 b_m125 b_m59 k18 m123e m59e m125e
      have f18_1 := rs_f90 b_r7 b_z58 b_z8 b_x2 b_m124 b_m126 b_m60 k18 m124e m60e m126e
      exact rfl
    have k18 : ¬ ((z58 + 9995000 : Int) ≤ (-1) * r7 + (-1) * z8 + 9995010) := Zleqf h323 h87 g
    clear g
    have f18_0 := rs_f91 b_r7 b_z58 b_z8 b_x1 b_m123 b_m125 b_m59 k18 m123e m59e m125e
    have f18_1 := rs_f92 b_r7 b_z58 b_z8 b_x2 b_m124 b_m126 b_m60 k18 m124e m60e m126e
    exact rfl
  have k5 : ¬ ((x4 : Int) ≤ 5) := Zleqf e4 (Zc 5) g
  clear g
  refine ask_p (fun g => ?_) (fun g => ?_)
  · have k6 : (x4 : Int) ≤ 6 := Zleqt e4 (Zc 6) g
    clear g
    refine ask_p (fun g => ?_) (fun g => ?_)
    · have k7 : (x5 : Int) ≤ 0 := Zleqt e5 (Zc 0) g
      clear g
      refine ask_q (fun g => ?_) (fun g => ?_)
      · have k8 : ¬ ((x5 : Int) ≤ 1) := Zleqf e5 (Zc 1) g
        clear g
        exact rs_d1 b_x5 k7 k8
      have k8 : (x5 : Int) ≤ 1 := Zleqt e5 (Zc 1) g
      clear g
      refine rs_c0 h2 h4 h6 b_x0 b_x1 b_x2 ?_
      refine rs_c1 h6 h9 h8 h10 h13 h14 b_x2 b_x3 b_m1 b_m2 b_x1 b_x0 ?_
      refine rs_c19 h332 h334 h372 h374 h405 h407 h438 h440 h471 h473 h504 h506 b_q61 b_q63 b_x0 b_q68 b_q70 b_q79 b_q81 b_q90 b_q92 b_q101 b_q103 b_q112 b_q114 ?_
      refine rs_c20 h506 h12 h20 h22 h56 b_q112 b_q114 b_x0 b_x1 b_x2 b_z3 ?_
      refine aT (Pleq (Zc 4990) h58 (rs_t20 b_r7)) ?_
      refine rs_c5 h58 h60 h71 h72 h82 h73 h62 h85 h87 h80 b_r7 b_x3 b_z8 ?_
      refine ask_q (fun g => ?_) (fun g => ?_)
      · have k10 : ¬ ((z118 : Int) ≤ r7 + z8 + (-10)) := Zleqf h521 h111 g
        clear g
        have f10_0 := rs_f137 b_r7 b_z118 b_z8 b_x1 b_m119 b_m123 b_m125 k10 m123e m119e m125e
        have f10_1 := rs_f138 b_r7 b_z118 b_z8 b_x2 b_m120 b_m124 b_m126 k10 m124e m120e m126e
        exact rfl
      have k10 : (z118 : Int) ≤ r7 + z8 + (-10) := Zleqt h521 h111 g
      clear g
      have f10_0 := rs_f139 b_r7 b_z118 b_z8 b_x1 b_m119 b_m123 b_m125 k10 m123e m119e m125e
      have f10_1 := rs_f140 b_r7 b_z118 b_z8 b_x2 b_m120 b_m124 b_m126 k10 m124e m120e m126e
      refine ask_p (fun g => ?_) (fun g => ?_)
      · have k11 : (z3 + 9995000 : Int) ≤ (-1) * r7 + (-1) * z8 + 9995010 := Zleqt h112 h87 g
        clear g
        have f11_0 := rs_f34 b_r7 b_z3 b_z8 b_x1 b_m123 b_m125 b_m4 k11 m123e m4e m125e
        have f11_1 := rs_f35 b_r7 b_z3 b_z8 b_x2 b_m124 b_m126 b_m5 k11 m124e m5e m126e
        exact rfl
      have k11 : ¬ ((z3 + 9995000 : Int) ≤ (-1) * r7 + (-1) * z8 + 9995010) := Zleqf h112 h87 g
      clear g
      have f11_0 := rs_f36 b_r7 b_z3 b_z8 b_x1 b_m123 b_m125 b_m4 k11 m123e m4e m125e
      have f11_1 := rs_f37 b_r7 b_z3 b_z8 b_x2 b_m124 b_m126 b_m5 k11 m124e m5e m126e
      exact rfl
    have k7 : ¬ ((x5 : Int) ≤ 0) := Zleqf e5 (Zc 0) g
    clear g
    refine ask_p (fun g => ?_) (fun g => ?_)
    · have k8 : (x5 : Int) ≤ 1 := Zleqt e5 (Zc 1) g
      clear g
      refine rs_c0 h2 h4 h6 b_x0 b_x1 b_x2 ?_
      refine rs_c1 h6 h9 h8 h10 h13 h14 b_x2 b_x3 b_m1 b_m2 b_x1 b_x0 ?_
      refine rs_c19 h332 h334 h372 h374 h405 h407 h438 h440 h471 h473 h504 h506 b_q61 b_q63 b_x0 b_q68 b_q70 b_q79 b_q81 b_q90 b_q92 b_q101 b_q103 b_q112 b_q114 ?_
      refine rs_c21 h506 h12 h121 h123 b_q112 b_q114 b_x0 b_x1 b_x2 b_q11 b_q9 ?_
      refine rs_c3 h123 h140 b_q11 b_q9 b_x0 b_z13 ?_
      refine aT (Pleq (Zc 4990) h58 (rs_t20 b_r7)) ?_
      refine rs_c5 h58 h60 h71 h72 h82 h73 h62 h85 h87 h80 b_r7 b_x3 b_z8 ?_
      refine ask_q (fun g => ?_) (fun g => ?_)
      · have k10 : ¬ ((z118 : Int) ≤ r7 + z8 + (-10)) := Zleqf h521 h111 g
        clear g
        have f10_0 := rs_f137 b_r7 b_z118 b_z8 b_x1 b_m119 b_m123 b_m125 k10 m123e m119e m125e
        have f10_1 := rs_f138 b_r7 b_z118 b_z8 b_x2 b_m120 b_m124 b_m126 k10 m124e m120e m126e
        exact rfl
      have k10 : (z118 : Int) ≤ r7 + z8 + (-10) := Zleqt h521 h111 g
      clear g
      have f10_0 := rs_f139 b_r7 b_z118 b_z8 b_x1 b_m119 b_m123 b_m125 k10 m123e m119e m125e
      have f10_1 := rs_f140 b_r7 b_z118 b_z8 b_x2 b_m120 b_m124 b_m126 k10 m124e m120e m126e
      refine ask_p (fun g => ?_) (fun g => ?_)
      · have k11 : (z13 + 9995000 : Int) ≤ (-1) * r7 + (-1) * z8 + 9995010 := Zleqt h148 h87 g
        clear g
        have f11_0 := rs_f44 b_r7 b_z13 b_z8 b_x1 b_m123 b_m125 b_m14 k11 m123e m14e m125e
        have f11_1 := rs_f45 b_r7 b_z13 b_z8 b_x2 b_m124 b_m126 b_m15 k11 m124e m15e m126e
        exact rfl
      have k11 : ¬ ((z13 + 9995000 : Int) ≤ (-1) * r7 + (-1) * z8 + 9995010) := Zleqf h148 h87 g
      clear g
      have f11_0 := rs_f46 b_r7 b_z13 b_z8 b_x1 b_m123 b_m125 b_m14 k11 m123e m14e m125e
      have f11_1 := rs_f47 b_r7 b_z13 b_z8 b_x2 b_m124 b_m126 b_m15 k11 m124e m15e m126e
      exact rfl
    have k8 : ¬ ((x5 : Int) ≤ 1) := Zleqf e5 (Zc 1) g
    clear g
    refine ask_p (fun g => ?_) (fun g => ?_)
    · have k9 : (x5 : Int) ≤ 2 := Zleqt e5 (Zc 2) g
      clear g
      refine rs_c0 h2 h4 h6 b_x0 b_x1 b_x2 ?_
      refine rs_c1 h6 h9 h8 h10 h13 h14 b_x2 b_x3 b_m1 b_m2 b_x1 b_x0 ?_
      refine rs_c19 h332 h334 h372 h374 h405 h407 h438 h440 h471 h473 h504 h506 b_q61 b_q63 b_x0 b_q68 b_q70 b_q79 b_q81 b_q90 b_q92 b_q101 b_q103 b_q112 b_q114 ?_
      refine rs_c21 h506 h12 h121 h123 b_q112 b_q114 b_x0 b_x1 b_x2 b_q11 b_q9 ?_
      refine aT (Pleq h123 h158 (rs_t48 b_q11 b_q9 b_x0 b_q16 b_q18)) ?_
      refine rs_c4 h158 h160 h182 h58 b_q16 b_q18 b_x0 b_z22 b_r7 ?_
      refine rs_c5 h58 h60 h71 h72 h82 h73 h62 h85 h87 h80 b_r7 b_x3 b_z8 ?_
      refine ask_q (fun g => ?_) (fun g => ?_)
      · have k11 : ¬ ((z118 : Int) ≤ r7 + z8 + (-10)) := Zleqf h521 h111 g
        clear g
        have f11_0 := rs_f137 b_r7 b_z118 b_z8 b_x1 b_m119 b_m123 b_m125 k11 m123e m119e m125e
        have f11_1 := rs_f138 b_r7 b_z118 b_z8 b_x2 b_m120 b_m124 b_m126 k11 m124e m120e m126e
        exact rfl
      have k11 : (z118 : Int) ≤ r7 + z8 + (-10) := Zleqt h521 h111 g
      clear g
      have f11_0 := rs_f139 b_r7 b_z118 b_z8 b_x1 b_m119 b_m123 b_m125 k11 m123e m119e m125e
      have f11_1 := rs_f140 b_r7 b_z118 b_z8 b_x2 b_m120 b_m124 b_m126 k11 m124e m120e m126e
      refine ask_p (fun g => ?_) (fun g => ?_)
      · have k12 : (z22 + 9995000 : Int) ≤ (-1) * r7 + (-1) * z8 + 9995010 := Zleqt h183 h87 g
        clear g
        have f12_0 := rs_f53 b_r7 b_z22 b_z8 b_x1 b_m123 b_m125 b_m23 k12 m123e m23e m125e
        have f12_1 := rs_f54 b_r7 b_z22 b_z8 b_x2 b_m124 b_m126 b_m24 k12 m124e m24e m126e
        exact rfl
      have k12 : ¬ ((z22 + 9995000 : Int) ≤ (-1) * r7 + (-1) * z8 + 9995010) := Zleqf h183 h87 g
      clear g
      have f12_0 := rs_f55 b_r7 b_z22 b_z8 b_x1 b_m123 b_m125 b_m23 k12 m123e m23e m125e
      have f12_1 := rs_f56 b_r7 b_z22 b_z8 b_x2 b_m124 b_m126 b_m24 k12 m124e m24e m126e
      exact rfl
    have k9 : ¬ ((x5 : Int) ≤ 2) := Zleqf e5 (Zc 2) g
    clear g
    refine ask_p (fun g => ?_) (fun g => ?_)
    · have k10 : (x5 : Int) ≤ 3 := Zleqt e5 (Zc 3) g
      clear g
      refine rs_c0 h2 h4 h6 b_x0 b_x1 b_x2 ?_
      refine rs_c1 h6 h9 h8 h10 h13 h14 b_x2 b_x3 b_m1 b_m2 b_x1 b_x0 ?_
      refine rs_c19 h332 h334 h372 h374 h405 h407 h438 h440 h471 h473 h504 h506 b_q61 b_q63 b_x0 b_q68 b_q70 b_q79 b_q81 b_q90 b_q92 b_q101 b_q103 b_q112 b_q114 ?_
      refine rs_c21 h506 h12 h121 h123 b_q112 b_q114 b_x0 b_x1 b_x2 b_q11 b_q9 ?_
      refine aT (Pleq h123 h158 (rs_t48 b_q11 b_q9 b_x0 b_q16 b_q18)) ?_
      refine rs_c6 h158 h160 h193 h195 h217 h58 b_q16 b_q18 b_x0 b_q25 b_q27 b_z31 b_r7 ?_
      refine rs_c5 h58 h60 h71 h72 h82 h73 h62 h85 h87 h80 b_r7 b_x3 b_z8 ?_
      refine ask_q (fun g => ?_) (fun g => ?_)
      · have k12 : ¬ ((z118 : Int) ≤ r7 + z8 + (-10)) := Zleqf h521 h111 g
        clear g
        have f12_0 := rs_f137 b_r7 b_z118 b_z8 b_x1 b_m119 b_m123 b_m125 k12 m123e m119e m125e
        have f12_1 := rs_f138 b_r7 b_z118 b_z8 b_x2 b_m120 b_m124 b_m126 k12 m124e m120e m126e
        exact rfl
      have k12 : (z118 : Int) ≤ r7 + z8 + (-10) := Zleqt h521 h111 g
      clear g
      have f12_0 := rs_f139 b_r7 b_z118 b_z8 b_x1 b_m119 b_m123 b_m125 k12 m123e m119e m125e
      have f12_1 := rs_f140 b_r7 b_z118 b_z8 b_x2 b_m120 b_m124 b_m126 k12 m124e m120e m126e
      refine ask_p (fun g => ?_) (fun g => ?_)
      · have k13 : (z31 + 9995000 : Int) ≤ (-1) * r7 + (-1) * z8 + 9995010 := Zleqt h218 h87 g
        clear g
        have f13_0 := rs_f62 b_r7 b_z31 b_z8 b_x1 b_m123 b_m125 b_m32 k13 m123e m32e m125e
        have f13_1 := rs_f63 b_r7 b_z31 b_z8 b_x2 b_m124 b_m126 b_m33 k13 m124e m33e m126e
        exact rfl
      have k13 : ¬ ((z31 + 9995000 : Int) ≤ (-1) * r7 + (-1) * z8 + 9995010) := Zleqf h218 h87 g
      clear g
      have f13_0 := rs_f64 b_r7 b_z31 b_z8 b_x1 b_m123 b_m125 b_m32 k13 m123e m32e m125e
      have f13_1 := rs_f65 b_r7 b_z31 b_z8 b_x2 b_m124 b_m126 b_m33 k13 m124e m33e m126e
      exact rfl
    have k10 : ¬ ((x5 : Int) ≤ 3) := Zleqf e5 (Zc 3) g
    clear g
    refine ask_p (fun g => ?_) (fun g => ?_)
    · have k11 : (x5 : Int) ≤ 4 := Zleqt e5 (Zc 4) g
      clear g
      refine rs_c0 h2 h4 h6 b_x0 b_x1 b_x2 ?_
      refine rs_c1 h6 h9 h8 h10 h13 h14 b_x2 b_x3 b_m1 b_m2 b_x1 b_x0 ?_
      refine rs_c19 h332 h334 h372 h374 h405 h407 h438 h440 h471 h473 h504 h506 b_q61 b_q63 b_x0 b_q68 b_q70 b_q79 b_q81 b_q90 b_q92 b_q101 b_q103 b_q112 b_q114 ?_
      refine rs_c21 h506 h12 h121 h123 b_q112 b_q114 b_x0 b_x1 b_x2 b_q11 b_q9 ?_
      refine aT (Pleq h123 h158 (rs_t48 b_q11 b_q9 b_x0 b_q16 b_q18)) ?_
      refine rs_c7 h158 h160 h193 h195 h228 b_q16 b_q18 b_x0 b_q25 b_q27 b_q34 b_q36 ?_
      refine rs_c8 h228 h230 b_q34 b_q36 b_x0 ?_
      refine aT (Pleq (Zc 0) h252 (rs_t69 b_z40)) ?_
      refine rs_c9 h252 h58 b_z40 b_r7 ?_
      refine rs_c5 h58 h60 h71 h72 h82 h73 h62 h85 h87 h80 b_r7 b_x3 b_z8 ?_
      refine ask_q (fun g => ?_) (fun g => ?_)
      · have k14 : ¬ ((z118 : Int) ≤ r7 + z8 + (-10)) := Zleqf h521 h111 g
        clear g
        have f14_0 := rs_f137 b_r7 b_z118 b_z8 b_x1 b_m119 b_m123 b_m125 k14 m123e m119e m125e
        have f14_1 := rs_f138 b_r7 b_z118 b_z8 b_x2 b_m120 b_m124 b_m126 k14 m124e m120e m126e
        exact rfl
      have k14 : (z118 : Int) ≤ r7 + z8 + (-10) := Zleqt h521 h111 g
      clear g
      have f14_0 := rs_f139 b_r7 b_z118 b_z8 b_x1 b_m119 b_m123 b_m125 k14 m123e m119e m125e
      have f14_1 := rs_f140 b_r7 b_z118 b_z8 b_x2 b_m120 b_m124 b_m126 k14 m124e m120e m126e
      refine ask_p (fun g => ?_) (fun g => ?_)
      · have k15 : (z40 + 9995000 : Int) ≤ (-1) * r7 + (-1) * z8 + 9995010 := Zleqt h253 h87 g
        clear g
        have f15_0 := rs_f71 b_r7 b_z40 b_z8 b_x1 b_m123 b_m125 b_m41 k15 m123e m41e m125e
        have f15_1 := rs_f72 b_r7 b_z40 b_z8 b_x2 b_m124 b_m126 b_m42 k15 m124e m42e m126e
        exact rfl
      have k15 : ¬ ((z40 + 9995000 : Int) ≤ (-1) * r7 + (-1) * z8 + 9995010) := Zleqf h253 h87 g
      clear g
      have f15_0 := rs_f73 b_r7 b_z40 b_z8 b_x1 b_m123 b_m125 b_m41 k15 m123e m41e m125e
      have f15_1 := rs_f74 b_r7 b_z40 b_z8 b_x2 b_m124 b_m126 b_m42 k15 m124e m42e m126e
      exact rfl
    have k11 : ¬ ((x5 : Int) ≤ 4) := Zleqf e5 (Zc 4) g
    clear g
    refine ask_p (fun g => ?_) (fun g => ?_)
    · have k12 : (x5 : Int) ≤ 5 := Zleqt e5 (Zc 5) g
      clear g
      refine rs_c0 h2 h4 h6 b_x0 b_x1 b_x2 ?_
      refine rs_c1 h6 h9 h8 h10 h13 h14 b_x2 b_x3 b_m1 b_m2 b_x1 b_x0 ?_
      refine rs_c19 h332 h334 h372 h374 h405 h407 h438 h440 h471 h473 h504 h506 b_q61 b_q63 b_x0 b_q68 b_q70 b_q79 b_q81 b_q90 b_q92 b_q101 b_q103 b_q112 b_q114 ?_
      refine rs_c21 h506 h12 h121 h123 b_q112 b_q114 b_x0 b_x1 b_x2 b_q11 b_q9 ?_
      refine aT (Pleq h123 h158 (rs_t48 b_q11 b_q9 b_x0 b_q16 b_q18)) ?_
      refine rs_c7 h158 h160 h193 h195 h228 b_q16 b_q18 b_x0 b_q25 b_q27 b_q34 b_q36 ?_
      refine rs_c10 h228 h230 h263 h265 h287 h58 b_q34 b_q36 b_x0 b_q43 b_q45 b_z49 b_r7 ?_
      refine rs_c5 h58 h60 h71 h72 h82 h73 h62 h85 h87 h80 b_r7 b_x3 b_z8 ?_
      refine ask_q (fun g => ?_) (fun g => ?_)
      · have k14 : ¬ ((z118 : Int) ≤ r7 + z8 + (-10)) := Zleqf h521 h111 g
        clear g
        have f14_0 := rs_f137 b_r7 b_z118 b_z8 b_x1 b_m119 b_m123 b_m125 k14 m123e m119e m125e
        have f14_1 := rs_f138 b_r7 b_z118 b_z8 b_x2 b_m120 b_m124 b_m126 k14 m124e m120e m126e
        exact rfl
      have k14 : (z118 : Int) ≤ r7 + z8 + (-10) := Zleqt h521 h111 g
      clear g
      have f14_0 := rs_f139 b_r7 b_z118 b_z8 b_x1 b_m119 b_m123 b_m125 k14 m123e m119e m125e
      have f14_1 := rs_f140 b_r7 b_z118 b_z8 b_x2 b_m120 b_m124 b_m126 k14 m124e m120e m126e
      refine ask_p (fun g => ?_) (fun g => ?_)
      · have k15 : (z49 + 9995000 : Int) ≤ (-1) * r7 + (-1) * z8 + 9995010 := Zleqt h288 h87 g
        clear g
        have f15_0 := rs_f80 b_r7 b_z49 b_z8 b_x1 b_m123 b_m125 b_m50 k15 m123e m50e m125e
        have f15_1 := rs_f81 b_r7 b_z49 b_z8 b_x2 b_m124 b_m126 b_m51 k15 m124e m51e m126e
        exact rfl
      have k15 : ¬ ((z49 + 9995000 : Int) ≤ (-1) * r7 + (-1) * z8 + 9995010) := Zleqf h288 h87 g
      clear g
      have f15_0 := rs_f82 b_r7 b_z49 b_z8 b_x1 b_m123 b_m125 b_m50 k15 m123e m50e m125e
      have f15_1 := rs_f83 b_r7 b_z49 b_z8 b_x2 b_m124 b_m126 b_m51 k15 m124e m51e m126e
      exact rfl
    have k12 : ¬ ((x5 : Int) ≤ 5) := Zleqf e5 (Zc 5) g
    clear g
    refine ask_p (fun g => ?_) (fun g => ?_)
    · have k13 : (x5 : Int) ≤ 6 := Zleqt e5 (Zc 6) g
      clear g
      refine rs_c0 h2 h4 h6 b_x0 b_x1 b_x2 ?_
      refine rs_c1 h6 h9 h8 h10 h13 h14 b_x2 b_x3 b_m1 b_m2 b_x1 b_x0 ?_
      refine rs_c19 h332 h334 h372 h374 h405 h407 h438 h440 h471 h473 h504 h506 b_q61 b_q63 b_x0 b_q68 b_q70 b_q79 b_q81 b_q90 b_q92 b_q101 b_q103 b_q112 b_q114 ?_
      refine rs_c21 h506 h12 h121 h123 b_q112 b_q114 b_x0 b_x1 b_x2 b_q11 b_q9 ?_
      refine aT (Pleq h123 h158 (rs_t48 b_q11 b_q9 b_x0 b_q16 b_q18)) ?_
      refine rs_c7 h158 h160 h193 h195 h228 b_q16 b_q18 b_x0 b_q25 b_q27 b_q34 b_q36 ?_
      refine rs_c11 h228 h230 h263 h265 h298 b_q34 b_q36 b_x0 b_q43 b_q45 b_q52 b_q54 ?_
      refine aT (Pleq h298 h300 (rs_t85 b_q52 b_q54 b_x0)) ?_
      refine rs_c12 h300 h322 b_q52 b_q54 b_x0 b_z58 ?_
      refine aT (Pleq h322 (Zc 10000000) (rs_t88 b_z58)) ?_
      refine aT (Pleq (Zc 4990) h58 (rs_t20 b_r7)) ?_
      refine rs_c5 h58 h60 h71 h72 h82 h73 h62 h85 h87 h80 b_r7 b_x3 b_z8 ?_
      refine ask_p (fun g => ?_) (fun g => ?_)
      · have k18 : (0 : Int) ≤ u121 + (-1) * u122 := Zleqt (Zc 0) h528 g
        clear g
        refine ask_q (fun g => ?_) (fun g => ?_)
        · have k19 : ¬ ((z118 : Int) ≤ r7 + z8 + (-10)) := Zleqf h521 h111 g
          clear g
          have f19_0 := rs_f137 b_r7 b_z118 b_z8 b_x1 b_m119 b_m123 b_m125 k19 m123e m119e m125e
          have f19_1 := rs_f138 b_r7 b_z118 b_z8 b_x2 b_m120 b_m124 b_m126 k19 m124e m120e m126e
          exact rfl
        have k19 : (z118 : Int) ≤ r7 + z8 + (-10) := Zleqt h521 h111 g
        clear g
        have f19_0 := rs_f139 b_r7 b_z118 b_z8 b_x1 b_m119 b_m123 b_m125 k19 m123e m119e m125e
        have f19_1 := rs_f140 b_r7 b_z118 b_z8 b_x2 b_m120 b_m124 b_m126 k19 m124e m120e m126e
        refine ask_p (fun g => ?_) (fun g => ?_)
        · have k20 : (z58 + 9995000 : Int) ≤ (-1) * r7 + (-1) * z8 + 9995010 := Zleqt h323 h87 g
          clear g
          have f20_0 := rs_f89 b_r7 b_z58 b_z8 b_x1 b_m123 b_m125 b_m59 k20 m123e m59e m125e
          have f20_1 := rs_f90 b_r7 b_z58 b_z8 b_x2 b_m124 b_m126 b_m60 k20 m124e m60e m126e
          exact rfl
        have k20 : ¬ ((z58 + 9995000 : Int) ≤ (-1) * r7 + (-1) * z8 + 9995010) := Zleqf h323 h87 g
        clear g
        have f20_0 := rs_f91 b_r7 b_z58 b_z8 b_x1 b_m123 b_m125 b_m59 k20 m123e m59e m125e
        have f20_1 := rs_f92 b_r7 b_z58 b_z8 b_x2 b_m124 b_m126 b_m60 k20 m124e m60e m126e
        exact rfl
      have k18 : ¬ ((0 : Int) ≤ u121 + (-1) * u122) := Zleqf (Zc 0) h528 g
      clear g
      refine ask_q (fun g => ?_) (fun g => ?_)
      · have k19 : ¬ ((z118 : Int) ≤ r7 + z8 + (-10)) := Zleqf h521 h111 g
        clear g
        have f19_0 := rs_f137 b_r7 b_z118 b_z8 b_x1 b_m119 b_m123 b_m125 k19 m123e m119e m125e
        have f19_1 := rs_f138 b_r7 b_z118 b_z8 b_x2 b_m120 b_m124 b_m126 k19 m124e m120e m126e
        exact rfl
      have k19 : (z118 : Int) ≤ r7 + z8 + (-10) := Zleqt h521 h111 g
      clear g
      have f19_0 := rs_f139 b_r7 b_z118 b_z8 b_x1 b_m119 b_m123 b_m125 k19 m123e m119e m125e
      have f19_1 := rs_f140 b_r7 b_z118 b_z8 b_x2 b_m120 b_m124 b_m126 k19 m124e m120e m126e
      refine ask_p (fun g => ?_) (fun g => ?_)
      · have k20 : (z58 + 9995000 : Int) ≤ (-1) * r7 + (-1) * z8 + 9995010 := Zleqt h323 h87 g
        clear g
        have f20_0 := rs_f89 b_r7 b_z58 b_z8 b_x1 b_m123 b_m125 b_m59 k20 m123e m59e m125e
        have f20_1 := rs_f90 b_r7 b_z58 b_z8 b_x2 b_m124 b_m126 b_m60 k20 m124e m60e m126e
        exact rs_d6 b_m119 b_m120 b_m123 b_m124 b_m125 b_m126 b_m59 b_m60 b_r7 b_u116 b_u117 b_u121 b_u122 b_u56 b_u57 b_x1 b_x2 b_x3 b_z118 b_z58 b_z8 k19 k20 z58s z8s z118s f19_0 f19_1 f20_0 f20_1 s8 s9 m59f1 m59f2 m59f3 m59f4 m60f1 m60f2 m60f3 m60f4 m119f1 m119f2 m119f3 m119f4 m120f1 m120f2 m120f3 m120f4 m123f1 m123f2 m123f3 m123f4 m125f1 m125f2 m125f3 m125f4 m124f1 m124f2 m124f3 m124f4 m126f1 m126f2 m126f3 m126f4 k18
      have k20 : ¬ ((z58 + 9995000 : Int) ≤ (-1) * r7 + (-1) * z8 + 9995010) := Zleqf h323 h87 g
      clear g
      have f20_0 := rs_f91 b_r7 b_z58 b_z8 b_x1 b_m123 b_m125 b_m59 k20 m123e m59e m125e
      have f20_1 := rs_f92 b_r7 b_z58 b_z8 b_x2 b_m124 b_m126 b_m60 k20 m124e m60e m126e
      exact rfl
    have k13 : ¬ ((x5 : Int) ≤ 6) := Zleqf e5 (Zc 6) g
    clear g
    refine rs_c0 h2 h4 h6 b_x0 b_x1 b_x2 ?_
    refine rs_c1 h6 h9 h8 h10 h13 h14 b_x2 b_x3 b_m1 b_m2 b_x1 b_x0 ?_
    refine rs_c19 h332 h334 h372 h374 h405 h407 h438 h440 h471 h473 h504 h506 b_q61 b_q63 b_x0 b_q68 b_q70 b_q79 b_q81 b_q90 b_q92 b_q101 b_q103 b_q112 b_q114 ?_
    refine rs_c21 h506 h12 h121 h123 b_q112 b_q114 b_x0 b_x1 b_x2 b_q11 b_q9 ?_
    refine aT (Pleq h123 h158 (rs_t48 b_q11 b_q9 b_x0 b_q16 b_q18)) ?_
    refine rs_c7 h158 h160 h193 h195 h228 b_q16 b_q18 b_x0 b_q25 b_q27 b_q34 b_q36 ?_
    refine rs_c11 h228 h230 h263 h265 h298 b_q34 b_q36 b_x0 b_q43 b_q45 b_q52 b_q54 ?_
    refine aT (Pleq h298 h300 (rs_t85 b_q52 b_q54 b_x0)) ?_
    refine rs_c12 h300 h322 b_q52 b_q54 b_x0 b_z58 ?_
    refine aT (Pleq h322 (Zc 10000000) (rs_t88 b_z58)) ?_
    refine aT (Pleq (Zc 4990) h58 (rs_t20 b_r7)) ?_
    refine rs_c5 h58 h60 h71 h72 h82 h73 h62 h85 h87 h80 b_r7 b_x3 b_z8 ?_
    refine ask_p (fun g => ?_) (fun g => ?_)
    · have k18 : (0 : Int) ≤ u121 + (-1) * u122 := Zleqt (Zc 0) h528 g
      clear g
      refine ask_q (fun g => ?_) (fun g => ?_)
      · have k19 : ¬ ((z118 : Int) ≤ r7 + z8 + (-10)) := Zleqf h521 h111 g
        clear g
        have f19_0 := rs_f137 b_r7 b_z118 b_z8 b_x1 b_m119 b_m123 b_m125 k19 m123e m119e m125e
        have f19_1 := rs_f138 b_r7 b_z118 b_z8 b_x2 b_m120 b_m124 b_m126 k19 m124e m120e m126e
        exact rfl
      have k19 : (z118 : Int) ≤ r7 + z8 + (-10) := Zleqt h521 h111 g
      clear g
      have f19_0 := rs_f139 b_r7 b_z118 b_z8 b_x1 b_m119 b_m123 b_m125 k19 m123e m119e m125e
      have f19_1 := rs_f140 b_r7 b_z118 b_z8 b_x2 b_m120 b_m124 b_m126 k19 m124e m120e m126e
      refine ask_p (fun g => ?_) (fun g => ?_)
      · have k20 : (z58 + 9995000 : Int) ≤ (-1) * r7 + (-1) * z8 + 9995010 := Zleqt h323 h87 g
        clear g
        have f20_0 := rs_f89 b_r7 b_z58 b_z8 b_x1 b_m123 b_m125 b_m59 k20 m123e m59e m125e
        have f20_1 := rs_f90 b_r7 b_z58 b_z8 b_x2 b_m124 b_m126 b_m60 k20 m124e m60e m126e
        exact rfl
      have k20 : ¬ ((z58 + 9995000 : Int) ≤ (-1) * r7 + (-1) * z8 + 9995010) := Zleqf h323 h87 g
      clear g
      have f20_0 := rs_f91 b_r7 b_z58 b_z8 b_x1 b_m123 b_m125 b_m59 k20 m123e m59e m125e
      have f20_1 := rs_f92 b_r7 b_z58 b_z8 b_x2 b_m124 b_m126 b_m60 k20 m124e m60e m126e
      exact rfl
    have k18 : ¬ ((0 : Int) ≤ u121 + (-1) * u122) := Zleqf (Zc 0) h528 g
    clear g
    refine ask_q (fun g => ?_) (fun g => ?_)
    · have k19 : ¬ ((z118 : Int) ≤ r7 + z8 + (-10)) := Zleqf h521 h111 g
      clear g
      have f19_0 := rs_f137 b_r7 b_z118 b_z8 b_x1 b_m119 b_m123 b_m125 k19 m123e m119e m125e
      have f19_1 := rs_f138 b_r7 b_z118 b_z8 b_x2 b_m120 b_m124 b_m126 k19 m124e m120e m126e
      exact rfl
    have k19 : (z118 : Int) ≤ r7 + z8 + (-10) := Zleqt h521 h111 g
    clear g
    have f19_0 := rs_f139 b_r7 b_z118 b_z8 b_x1 b_m119 b_m123 b_m125 k19 m123e m119e m125e
    have f19_1 := rs_f140 b_r7 b_z118 b_z8 b_x2 b_m120 b_m124 b_m126 k19 m124e m120e m126e
    refine ask_p (fun g => ?_) (fun g => ?_)
    · have k20 : (z58 + 9995000 : Int) ≤ (-1) * r7 + (-1) * z8 + 9995010 := Zleqt h323 h87 g
      clear g
      have f20_0 := rs_f89 b_r7 b_z58 b_z8 b_x1 b_m123 b_m125 b_m59 k20 m123e m59e m125e
      have f20_1 := rs_f90 b_r7 b_z58 b_z8 b_x2 b_m124 b_m126 b_m60 k20 m124e m60e m126e
      exact rs_d6 b_m119 b_m120 b_m123 b_m124 b_m125 b_m126 b_m59 b_m60 b_r7 b_u116 b_u117 b_u121 b_u122 b_u56 b_u57 b_x1 b_x2 b_x3 b_z118 b_z58 b_z8 k19 k20 z58s z8s z118s f19_0 f19_1 f20_0 f20_1 s8 s9 m59f1 m59f2 m59f3 m59f4 m60f1 m60f2 m60f3 m60f4 m119f1 m119f2 m119f3 m119f4 m120f1 m120f2 m120f3 m120f4 m123f1 m123f2 m123f3 m123f4 m125f1 m125f2 m125f3 m125f4 m124f1 m124f2 m124f3 m124f4 m126f1 m126f2 m126f3 m126f4 k18
    have k20 : ¬ ((z58 + 9995000 : Int) ≤ (-1) * r7 + (-1) * z8 + 9995010) := Zleqf h323 h87 g
    clear g
    have f20_0 := rs_f91 b_r7 b_z58 b_z8 b_x1 b_m123 b_m125 b_m59 k20 m123e m59e m125e
    have f20_1 := rs_f92 b_r7 b_z58 b_z8 b_x2 b_m124 b_m126 b_m60 k20 m124e m60e m126e
    exact rfl
  have k6 : ¬ ((x4 : Int) ≤ 6) := Zleqf e4 (Zc 6) g
  clear g
  refine ask_p (fun g => ?_) (fun g => ?_)
  · have k7 : (x5 : Int) ≤ 0 := Zleqt e5 (Zc 0) g
    clear g
    refine ask_q (fun g => ?_) (fun g => ?_)
    · have k8 : ¬ ((x5 : Int) ≤ 1) := Zleqf e5 (Zc 1) g
      clear g
      exact rs_d1 b_x5 k7 k8
    have k8 : (x5 : Int) ≤ 1 := Zleqt e5 (Zc 1) g
    clear g
    refine rs_c0 h2 h4 h6 b_x0 b_x1 b_x2 ?_
    refine rs_c1 h6 h9 h8 h10 h13 h14 b_x2 b_x3 b_m1 b_m2 b_x1 b_x0 ?_
    refine rs_c19 h332 h334 h372 h374 h405 h407 h438 h440 h471 h473 h504 h506 b_q61 b_q63 b_x0 b_q68 b_q70 b_q79 b_q81 b_q90 b_q92 b_q101 b_q103 b_q112 b_q114 ?_
    refine rs_c20 h506 h12 h20 h22 h56 b_q112 b_q114 b_x0 b_x1 b_x2 b_z3 ?_
    refine aT (Pleq (Zc 4990) h58 (rs_t20 b_r7)) ?_
    refine rs_c5 h58 h60 h71 h72 h82 h73 h62 h85 h87 h80 b_r7 b_x3 b_z8 ?_
    refine ask_q (fun g => ?_) (fun g => ?_)
    · have k10 : ¬ ((z118 : Int) ≤ r7 + z8 + (-10)) := Zleqf h521 h111 g
      clear g
      have f10_0 := rs_f137 b_r7 b_z118 b_z8 b_x1 b_m119 b_m123 b_m125 k10 m123e m119e m125e
      have f10_1 := rs_f138 b_r7 b_z118 b_z8 b_x2 b_m120 b_m124 b_m126 k10 m124e m120e m126e
      exact rfl
    have k10 : (z118 : Int) ≤ r7 + z8 + (-10) := Zleqt h521 h111 g
    clear g
    have f10_0 := rs_f139 b_r7 b_z118 b_z8 b_x1 b_m119 b_m123 b_m125 k10 m123e m119e m125e
    have f10_1 := rs_f140 b_r7 b_z118 b_z8 b_x2 b_m120 b_m124 b_m126 k10 m124e m120e m126e
    refine ask_p (fun g => ?_) (fun g => ?_)
    · have k11 : (z3 + 9995000 : Int) ≤ (-1) * r7 + (-1) * z8 + 9995010 := Zleqt h112 h87 g
      clear g
      have f11_0 := rs_f34 b_r7 b_z3 b_z8 b_x1 b_m123 b_m125 b_m4 k11 m123e m4e m125e
      have f11_1 := rs_f35 b_r7 b_z3 b_z8 b_x2 b_m124 b_m126 b_m5 k11 m124e m5e m126e
      exact rfl
    have k11 : ¬ ((z3 + 9995000 : Int) ≤ (-1) * r7 + (-1) * z8 + 9995010) := Zleqf h112 h87 g
    clear g
    have f11_0 := rs_f36 b_r7 b_z3 b_z8 b_x1 b_m123 b_m125 b_m4 k11 m123e m4e m125e
    have f11_1 := rs_f37 b_r7 b_z3 b_z8 b_x2 b_m124 b_m126 b_m5 k11 m124e m5e m126e
    exact rfl
  have k7 : ¬ ((x5 : Int) ≤ 0) := Zleqf e5 (Zc 0) g
  clear g
  refine ask_p (fun g => ?_) (fun g => ?_)
  · have k8 : (x5 : Int) ≤ 1 := Zleqt e5 (Zc 1) g
    clear g
    refine rs_c0 h2 h4 h6 b_x0 b_x1 b_x2 ?_
    refine rs_c1 h6 h9 h8 h10 h13 h14 b_x2 b_x3 b_m1 b_m2 b_x1 b_x0 ?_
    refine rs_c19 h332 h334 h372 h374 h405 h407 h438 h440 h471 h473 h504 h506 b_q61 b_q63 b_x0 b_q68 b_q70 b_q79 b_q81 b_q90 b_q92 b_q101 b_q103 b_q112 b_q114 ?_
    refine rs_c21 h506 h12 h121 h123 b_q112 b_q114 b_x0 b_x1 b_x2 b_q11 b_q9 ?_
    refine rs_c3 h123 h140 b_q11 b_q9 b_x0 b_z13 ?_
    refine aT (Pleq (Zc 4990) h58 (rs_t20 b_r7)) ?_
    refine rs_c5 h58 h60 h71 h72 h82 h73 h62 h85 h87 h80 b_r7 b_x3 b_z8 ?_
    refine ask_q (fun g => ?_) (fun g => ?_)
    · have k10 : ¬ ((z118 : Int) ≤ r7 + z8 + (-10)) := Zleqf h521 h111 g
      clear g
      have f10_0 := rs_f137 b_r7 b_z118 b_z8 b_x1 b_m119 b_m123 b_m125 k10 m123e m119e m125e
      have f10_1 := rs_f138 b_r7 b_z118 b_z8 b_x2 b_m120 b_m124 b_m126 k10 m124e m120e m126e
      exact rfl
    have k10 : (z118 : Int) ≤ r7 + z8 + (-10) := Zleqt h521 h111 g
    clear g
    have f10_0 := rs_f139 b_r7 b_z118 b_z8 b_x1 b_m119 b_m123 b_m125 k10 m123e m119e m125e
    have f10_1 := rs_f140 b_r7 b_z118 b_z8 b_x2 b_m120 b_m124 b_m126 k10 m124e m120e m126e
    refine ask_p (fun g => ?_) (fun g => ?_)
    · have k11 : (z13 + 9995000 : Int) ≤ (-1) * r7 + (-1) * z8 + 9995010 := Zleqt h148 h87 g
      clear g
      have f11_0 := rs_f44 b_r7 b_z13 b_z8 b_x1 b_m123 b_m125 b_m14 k11 m123e m14e m125e
      have f11_1 := rs_f45 b_r7 b_z13 b_z8 b_x2 b_m124 b_m126 b_m15 k11 m124e m15e m126e
      exact rfl
    have k11 : ¬ ((z13 + 9995000 : Int) ≤ (-1) * r7 + (-1) * z8 + 9995010) := Zleqf h148 h87 g
    clear g
    have f11_0 := rs_f46 b_r7 b_z13 b_z8 b_x1 b_m123 b_m125 b_m14 k11 m123e m14e m125e
    have f11_1 := rs_f47 b_r7 b_z13 b_z8 b_x2 b_m124 b_m126 b_m15 k11 m124e m15e m126e
    exact rfl
  have k8 : ¬ ((x5 : Int) ≤ 1) := Zleqf e5 (Zc 1) g
  clear g
  refine ask_p (fun g => ?_) (fun g => ?_)
  · have k9 : (x5 : Int) ≤ 2 := Zleqt e5 (Zc 2) g
    clear g
    refine rs_c0 h2 h4 h6 b_x0 b_x1 b_x2 ?_
    refine rs_c1 h6 h9 h8 h10 h13 h14 b_x2 b_x3 b_m1 b_m2 b_x1 b_x0 ?_
    refine rs_c19 h332 h334 h372 h374 h405 h407 h438 h440 h471 h473 h504 h506 b_q61 b_q63 b_x0 b_q68 b_q70 b_q79 b_q81 b_q90 b_q92 b_q101 b_q103 b_q112 b_q114 ?_
    refine rs_c21 h506 h12 h121 h123 b_q112 b_q114 b_x0 b_x1 b_x2 b_q11 b_q9 ?_
    refine aT (Pleq h123 h158 (rs_t48 b_q11 b_q9 b_x0 b_q16 b_q18)) ?_
    refine rs_c4 h158 h160 h182 h58 b_q16 b_q18 b_x0 b_z22 b_r7 ?_
    refine rs_c5 h58 h60 h71 h72 h82 h73 h62 h85 h87 h80 b_r7 b_x3 b_z8 ?_
    refine ask_q (fun g => ?_) (fun g => ?_)
    · have k11 : ¬ ((z118 : Int) ≤ r7 + z8 + (-10)) := Zleqf h521 h111 g
      clear g
      have f11_0 := rs_f137 b_r7 b_z118 b_z8 b_x1 b_m119 b_m123 b_m125 k11 m123e m119e m125e
      have f11_1 := rs_f138 b_r7 b_z118 b_z8 b_x2 b_m120 b_m124 b_m126 k11 m124e m120e m126e
      exact rfl
    have k11 : (z118 : Int) ≤ r7 + z8 + (-10) := Zleqt h521 h111 g
    clear g
    have f11_0 := rs_f139 b_r7 b_z118 b_z8 b_x1 b_m119 b_m123 b_m125 k11 m123e m119e m125e
    have f11_1 := rs_f140 b_r7 b_z118 b_z8 b_x2 b_m120 b_m124 b_m126 k11 m124e m120e m126e
    refine ask_p (fun g => ?_) (fun g => ?_)
    · have k12 : (z22 + 9995000 : Int) ≤ (-1) * r7 + (-1) * z8 + 9995010 := Zleqt h183 h87 g
      clear g
      have f12_0 := rs_f53 b_r7 b_z22 b_z8 b_x1 b_m123 b_m125 b_m23 k12 m123e m23e m125e
      have f12_1 := rs_f54 b_r7 b_z22 b_z8 b_x2 b_m124 b_m126 b_m24 k12 m124e m24e m126e
      exact rfl
    have k12 : ¬ ((z22 + 9995000 : Int) ≤ (-1) * r7 + (-1) * z8 + 9995010) := Zleqf h183 h87 g
    clear g
    have f12_0 := rs_f55 b_r7 b_z22 b_z8 b_x1 b_m123 b_m125 b_m23 k12 m123e m23e m125e
    have f12_1 := rs_f56 b_r7 b_z22 b_z8 b_x2 b_m124 b_m126 b_m24 k12 m124e m24e m126e
    exact rfl
  have k9 : ¬ ((x5 : Int) ≤ 2) := Zleqf e5 (Zc 2) g
  clear g
  refine ask_p (fun g => ?_) (fun g => ?_)
  · have k10 : (x5 : Int) ≤ 3 := Zleqt e5 (Zc 3) g
    clear g
    refine rs_c0 h2 h4 h6 b_x0 b_x1 b_x2 ?_
    refine rs_c1 h6 h9 h8 h10 h13 h14 b_x2 b_x3 b_m1 b_m2 b_x1 b_x0 ?_
    refine rs_c19 h332 h334 h372 h374 h405 h407 h438 h440 h471 h473 h504 h506 b_q61 b_q63 b_x0 b_q68 b_q70 b_q79 b_q81 b_q90 b_q92 b_q101 b_q103 b_q112 b_q114 ?_
    refine rs_c21 h506 h12 h121 h123 b_q112 b_q114 b_x0 b_x1 b_x2 b_q11 b_q9 ?_
    refine aT (Pleq h123 h158 (rs_t48 b_q11 b_q9 b_x0 b_q16 b_q18)) ?_
    refine rs_c6 h158 h160 h193 h195 h217 h58 b_q16 b_q18 b_x0 b_q25 b_q27 b_z31 b_r7 ?_
    refine rs_c5 h58 h60 h71 h72 h82 h73 h62 h85 h87 h80 b_r7 b_x3 b_z8 ?_
    refine ask_q (fun g => ?_) (fun g => ?_)
    · have k12 : ¬ ((z118 : Int) ≤ r7 + z8 + (-10)) := Zleqf h521 h111 g
      clear g
      have f12_0 := rs_f137 b_r7 b_z118 b_z8 b_x1 b_m119 b_m123 b_m125 k12 m123e m119e m125e
      have f12_1 := rs_f138 b_r7 b_z118 b_z8 b_x2 b_m120 b_m124 b_m126 k12 m124e m120e m126e
      exact rfl
    have k12 : (z118 : Int) ≤ r7 + z8 + (-10) := Zleqt h521 h111 g
    clear g
    have f12_0 := rs_f139 b_r7 b_z118 b_z8 b_x1 b_m119 b_m123 b_m125 k12 m123e m119e m125e
    have f12_1 := rs_f140 b_r7 b_z118 b_z8 b_x2 b_m120 b_m124 b_m126 k12 m124e m120e m126e
    refine ask_p (fun g => ?_) (fun g => ?_)
    · have k13 : (z31 + 9995000 : Int) ≤ (-1) * r7 + (-1) * z8 + 9995010 := Zleqt h218 h87 g
      clear g
      have f13_0 := rs_f62 b_r7 b_z31 b_z8 b_x1 b_m123 b_m125 b_m32 k13 m123e m32e m125e
      have f13_1 := rs_f63 b_r7 b_z31 b_z8 b_x2 b_m124 b_m126 b_m33 k13 m124e m33e m126e
      exact rfl
    have k13 : ¬ ((z31 + 9995000 : Int) ≤ (-1) * r7 + (-1) * z8 + 9995010) := Zleqf h218 h87 g
    clear g
    have f13_0 := rs_f64 b_r7 b_z31 b_z8 b_x1 b_m123 b_m125 b_m32 k13 m123e m32e m125e
    have f13_1 := rs_f65 b_r7 b_z31 b_z8 b_x2 b_m124 b_m126 b_m33 k13 m124e m33e m126e
    exact rfl
  have k10 : ¬ ((x5 : Int) ≤ 3) := Zleqf e5 (Zc 3) g
  clear g
  refine ask_p (fun g => ?_) (fun g => ?_)
  · have k11 : (x5 : Int) ≤ 4 := Zleqt e5 (Zc 4) g
    clear g
    refine rs_c0 h2 h4 h6 b_x0 b_x1 b_x2 ?_
    refine rs_c1 h6 h9 h8 h10 h13 h14 b_x2 b_x3 b_m1 b_m2 b_x1 b_x0 ?_
    refine rs_c19 h332 h334 h372 h374 h405 h407 h438 h440 h471 h473 h504 h506 b_q61 b_q63 b_x0 b_q68 b_q70 b_q79 b_q81 b_q90 b_q92 b_q101 b_q103 b_q112 b_q114 ?_
    refine rs_c21 h506 h12 h121 h123 b_q112 b_q114 b_x0 b_x1 b_x2 b_q11 b_q9 ?_
    refine aT (Pleq h123 h158 (rs_t48 b_q11 b_q9 b_x0 b_q16 b_q18)) ?_
    refine rs_c7 h158 h160 h193 h195 h228 b_q16 b_q18 b_x0 b_q25 b_q27 b_q34 b_q36 ?_
    refine rs_c8 h228 h230 b_q34 b_q36 b_x0 ?_
    refine aT (Pleq (Zc 0) h252 (rs_t69 b_z40)) ?_
    refine rs_c9 h252 h58 b_z40 b_r7 ?_
    refine rs_c5 h58 h60 h71 h72 h82 h73 h62 h85 h87 h80 b_r7 b_x3 b_z8 ?_
    refine ask_q (fun g => ?_) (fun g => ?_)
    · have k14 : ¬ ((z118 : Int) ≤ r7 + z8 + (-10)) := Zleqf h521 h111 g
      clear g
      have f14_0 := rs_f137 b_r7 b_z118 b_z8 b_x1 b_m119 b_m123 b_m125 k14 m123e m119e m125e
      have f14_1 := rs_f138 b_r7 b_z118 b_z8 b_x2 b_m120 b_m124 b_m126 k14 m124e m120e m126e
      exact rfl
    have k14 : (z118 : Int) ≤ r7 + z8 + (-10) := Zleqt h521 h111 g
    clear g
    have f14_0 := rs_f139 b_r7 b_z118 b_z8 b_x1 b_m119 b_m123 b_m125 k14 m123e m119e m125e
    have f14_1 := rs_f140 b_r7 b_z118 b_z8 b_x2 b_m120 b_m124 b_m126 k14 m124e m120e m126e
    refine ask_p (fun g => ?_) (fun g => ?_)
    · have k15 : (z40 + 9995000 : Int) ≤ (-1) * r7 + (-1) * z8 + 9995010 := Zleqt h253 h87 g
      clear g
      have f15_0 := rs_f71 b_r7 b_z40 b_z8 b_x1 b_m123 b_m125 b_m41 k15 m123e m41e m125e
      have f15_1 := rs_f72 b_r7 b_z40 b_z8 b_x2 b_m124 b_m126 b_m42 k15 m124e m42e m126e
      exact rfl
    have k15 : ¬ ((z40 + 9995000 : Int) ≤ (-1) * r7 + (-1) * z8 + 9995010) := Zleqf h253 h87 g
    clear g
    have f15_0 := rs_f73 b_r7 b_z40 b_z8 b_x1 b_m123 b_m125 b_m41 k15 m123e m41e m125e
    have f15_1 := rs_f74 b_r7 b_z40 b_z8 b_x2 b_m124 b_m126 b_m42 k15 m124e m42e m126e
    exact rfl
  have k11 : ¬ ((x5 : Int) ≤ 4) := Zleqf e5 (Zc 4) g
  clear g
  refine ask_p (fun g => ?_) (fun g => ?_)
  · have k12 : (x5 : Int) ≤ 5 := Zleqt e5 (Zc 5) g
    clear g
    refine rs_c0 h2 h4 h6 b_x0 b_x1 b_x2 ?_
    refine rs_c1 h6 h9 h8 h10 h13 h14 b_x2 b_x3 b_m1 b_m2 b_x1 b_x0 ?_
    refine rs_c19 h332 h334 h372 h374 h405 h407 h438 h440 h471 h473 h504 h506 b_q61 b_q63 b_x0 b_q68 b_q70 b_q79 b_q81 b_q90 b_q92 b_q101 b_q103 b_q112 b_q114 ?_
    refine rs_c21 h506 h12 h121 h123 b_q112 b_q114 b_x0 b_x1 b_x2 b_q11 b_q9 ?_
    refine aT (Pleq h123 h158 (rs_t48 b_q11 b_q9 b_x0 b_q16 b_q18)) ?_
    refine rs_c7 h158 h160 h193 h195 h228 b_q16 b_q18 b_x0 b_q25 b_q27 b_q34 b_q36 ?_
    refine rs_c10 h228 h230 h263 h265 h287 h58 b_q34 b_q36 b_x0 b_q43 b_q45 b_z49 b_r7 ?_
    refine rs_c5 h58 h60 h71 h72 h82 h73 h62 h85 h87 h80 b_r7 b_x3 b_z8 ?_
    refine ask_q (fun g => ?_) (fun g => ?_)
    · have k14 : ¬ ((z118 : Int) ≤ r7 + z8 + (-10)) := Zleqf h521 h111 g
      clear g
      have f14_0 := rs_f137 b_r7 b_z118 b_z8 b_x1 b_m119 b_m123 b_m125 k14 m123e m119e m125e
      have f14_1 := rs_f138 b_r7 b_z118 b_z8 b_x2 b_m120 b_m124 b_m126 k14 m124e m120e m126e
      exact rfl
    have k14 : (z118 : Int) ≤ r7 + z8 + (-10) := Zleqt h521 h111 g
    clear g
    have f14_0 := rs_f139 b_r7 b_z118 b_z8 b_x1 b_m119 b_m123 b_m125 k14 m123e m119e m125e
    have f14_1 := rs_f140 b_r7 b_z118 b_z8 b_x2 b_m120 b_m124 b_m126 k14 m124e m120e m126e
    refine ask_p (fun g => ?_) (fun g => ?_)
    · have k15 : (z49 + 9995000 : Int) ≤ (-1) * r7 + (-1) * z8 + 9995010 := Zleqt h288 h87 g
      clear g
      have f15_0 := rs_f80 b_r7 b_z49 b_z8 b_x1 b_m123 b_m125 b_m50 k15 m123e m50e m125e
      have f15_1 := rs_f81 b_r7 b_z49 b_z8 b_x2 b_m124 b_m126 b_m51 k15 m124e m51e m126e
      exact rfl
    have k15 : ¬ ((z49 + 9995000 : Int) ≤ (-1) * r7 + (-1) * z8 + 9995010) := Zleqf h288 h87 g
    clear g
    have f15_0 := rs_f82 b_r7 b_z49 b_z8 b_x1 b_m123 b_m125 b_m50 k15 m123e m50e m125e
    have f15_1 := rs_f83 b_r7 b_z49 b_z8 b_x2 b_m124 b_m126 b_m51 k15 m124e m51e m126e
    exact rfl
  have k12 : ¬ ((x5 : Int) ≤ 5) := Zleqf e5 (Zc 5) g
  clear g
  refine ask_p (fun g => ?_) (fun g => ?_)
  · have k13 : (x5 : Int) ≤ 6 := Zleqt e5 (Zc 6) g
    clear g
    refine rs_c0 h2 h4 h6 b_x0 b_x1 b_x2 ?_
    refine rs_c1 h6 h9 h8 h10 h13 h14 b_x2 b_x3 b_m1 b_m2 b_x1 b_x0 ?_
    refine rs_c19 h332 h334 h372 h374 h405 h407 h438 h440 h471 h473 h504 h506 b_q61 b_q63 b_x0 b_q68 b_q70 b_q79 b_q81 b_q90 b_q92 b_q101 b_q103 b_q112 b_q114 ?_
    refine rs_c21 h506 h12 h121 h123 b_q112 b_q114 b_x0 b_x1 b_x2 b_q11 b_q9 ?_
    refine aT (Pleq h123 h158 (rs_t48 b_q11 b_q9 b_x0 b_q16 b_q18)) ?_
    refine rs_c7 h158 h160 h193 h195 h228 b_q16 b_q18 b_x0 b_q25 b_q27 b_q34 b_q36 ?_
    refine rs_c11 h228 h230 h263 h265 h298 b_q34 b_q36 b_x0 b_q43 b_q45 b_q52 b_q54 ?_
    refine aT (Pleq h298 h300 (rs_t85 b_q52 b_q54 b_x0)) ?_
    refine rs_c12 h300 h322 b_q52 b_q54 b_x0 b_z58 ?_
    refine aT (Pleq h322 (Zc 10000000) (rs_t88 b_z58)) ?_
    refine aT (Pleq (Zc 4990) h58 (rs_t20 b_r7)) ?_
    refine rs_c5 h58 h60 h71 h72 h82 h73 h62 h85 h87 h80 b_r7 b_x3 b_z8 ?_
    refine ask_p (fun g => ?_) (fun g => ?_)
    · have k18 : (0 : Int) ≤ u121 + (-1) * u122 := Zleqt (Zc 0) h528 g
      clear g
      refine ask_q (fun g => ?_) (fun g => ?_)
      · have k19 : ¬ ((z118 : Int) ≤ r7 + z8 + (-10)) := Zleqf h521 h111 g
        clear g
        have f19_0 := rs_f137 b_r7 b_z118 b_z8 b_x1 b_m119 b_m123 b_m125 k19 m123e m119e m125e
        have f19_1 := rs_f138 b_r7 b_z118 b_z8 b_x2 b_m120 b_m124 b_m126 k19 m124e m120e m126e
        exact rfl
      have k19 : (z118 : Int) ≤ r7 + z8 + (-10) := Zleqt h521 h111 g
      clear g
      have f19_0 := rs_f139 b_r7 b_z118 b_z8 b_x1 b_m119 b_m123 b_m125 k19 m123e m119e m125e
      have f19_1 := rs_f140 b_r7 b_z118 b_z8 b_x2 b_m120 b_m124 b_m126 k19 m124e m120e m126e
      refine ask_p (fun g => ?_) (fun g => ?_)
      · have k20 : (z58 + 9995000 : Int) ≤ (-1) * r7 + (-1) * z8 + 9995010 := Zleqt h323 h87 g
        clear g
        have f20_0 := rs_f89 b_r7 b_z58 b_z8 b_x1 b_m123 b_m125 b_m59 k20 m123e m59e m125e
        have f20_1 := rs_f90 b_r7 b_z58 b_z8 b_x2 b_m124 b_m126 b_m60 k20 m124e m60e m126e
        exact rfl
      have k20 : ¬ ((z58 + 9995000 : Int) ≤ (-1) * r7 + (-1) * z8 + 9995010) := Zleqf h323 h87 g
      clear g
      have f20_0 := rs_f91 b_r7 b_z58 b_z8 b_x1 b_m123 b_m125 b_m59 k20 m123e m59e m125e
      have f20_1 := rs_f92 b_r7 b_z58 b_z8 b_x2 b_m124 b_m126 b_m60 k20 m124e m60e m126e
      exact rfl
    have k18 : ¬ ((0 : Int) ≤ u121 + (-1) * u122) := Zleqf (Zc 0) h528 g
    clear g
    refine ask_q (fun g => ?_) (fun g => ?_)
    · have k19 : ¬ ((z118 : Int) ≤ r7 + z8 + (-10)) := Zleqf h521 h111 g
      clear g
      have f19_0 := rs_f137 b_r7 b_z118 b_z8 b_x1 b_m119 b_m123 b_m125 k19 m123e m119e m125e
      have f19_1 := rs_f138 b_r7 b_z118 b_z8 b_x2 b_m120 b_m124 b_m126 k19 m124e m120e m126e
      exact rfl
    have k19 : (z118 : Int) ≤ r7 + z8 + (-10) := Zleqt h521 h111 g
    clear g
    have f19_0 := rs_f139 b_r7 b_z118 b_z8 b_x1 b_m119 b_m123 b_m125 k19 m123e m119e m125e
    have f19_1 := rs_f140 b_r7 b_z118 b_z8 b_x2 b_m120 b_m124 b_m126 k19 m124e m120e m126e
    refine ask_p (fun g => ?_) (fun g => ?_)
    · have k20 : (z58 + 9995000 : Int) ≤ (-1) * r7 + (-1) * z8 + 9995010 := Zleqt h323 h87 g
      clear g
      have f20_0 := rs_f89 b_r7 b_z58 b_z8 b_x1 b_m123 b_m125 b_m59 k20 m123e m59e m125e
      have f20_1 := rs_f90 b_r7 b_z58 b_z8 b_x2 b_m124 b_m126 b_m60 k20 m124e m60e m126e
      exact rs_d6 b_m119 b_m120 b_m123 b_m124 b_m125 b_m126 b_m59 b_m60 b_r7 b_u116 b_u117 b_u121 b_u122 b_u56 b_u57 b_x1 b_x2 b_x3 b_z118 b_z58 b_z8 k19 k20 z58s z8s z118s f19_0 f19_1 f20_0 f20_1 s8 s9 m59f1 m59f2 m59f3 m59f4 m60f1 m60f2 m60f3 m60f4 m119f1 m119f2 m119f3 m119f4 m120f1 m120f2 m120f3 m120f4 m123f1 m123f2 m123f3 m123f4 m125f1 m125f2 m125f3 m125f4 m124f1 m124f2 m124f3 m124f4 m126f1 m126f2 m126f3 m126f4 k18
    have k20 : ¬ ((z58 + 9995000 : Int) ≤ (-1) * r7 + (-1) * z8 + 9995010) := Zleqf h323 h87 g
    clear g
    have f20_0 := rs_f91 b_r7 b_z58 b_z8 b_x1 b_m123 b_m125 b_m59 k20 m123e m59e m125e
    have f20_1 := rs_f92 b_r7 b_z58 b_z8 b_x2 b_m124 b_m126 b_m60 k20 m124e m60e m126e
    exact rfl
  have k13 : ¬ ((x5 : Int) ≤ 6) := Zleqf e5 (Zc 6) g
  clear g
  refine rs_c0 h2 h4 h6 b_x0 b_x1 b_x2 ?_
  refine rs_c1 h6 h9 h8 h10 h13 h14 b_x2 b_x3 b_m1 b_m2 b_x1 b_x0 ?_
  refine rs_c19 h332 h334 h372 h374 h405 h407 h438 h440 h471 h473 h504 h506 b_q61 b_q63 b_x0 b_q68 b_q70 b_q79 b_q81 b_q90 b_q92 b_q101 b_q103 b_q112 b_q114 ?_
  refine rs_c21 h506 h12 h121 h123 b_q112 b_q114 b_x0 b_x1 b_x2 b_q11 b_q9 ?_
  refine aT (Pleq h123 h158 (rs_t48 b_q11 b_q9 b_x0 b_q16 b_q18)) ?_
  refine rs_c7 h158 h160 h193 h195 h228 b_q16 b_q18 b_x0 b_q25 b_q27 b_q34 b_q36 ?_
  refine rs_c11 h228 h230 h263 h265 h298 b_q34 b_q36 b_x0 b_q43 b_q45 b_q52 b_q54 ?_
  refine aT (Pleq h298 h300 (rs_t85 b_q52 b_q54 b_x0)) ?_
  refine rs_c12 h300 h322 b_q52 b_q54 b_x0 b_z58 ?_
  refine aT (Pleq h322 (Zc 10000000) (rs_t88 b_z58)) ?_
  refine aT (Pleq (Zc 4990) h58 (rs_t20 b_r7)) ?_
  refine rs_c5 h58 h60 h71 h72 h82 h73 h62 h85 h87 h80 b_r7 b_x3 b_z8 ?_
  refine ask_p (fun g => ?_) (fun g => ?_)
  · have k18 : (0 : Int) ≤ u121 + (-1) * u122 := Zleqt (Zc 0) h528 g
    clear g
    refine ask_q (fun g => ?_) (fun g => ?_)
    · have k19 : ¬ ((z118 : Int) ≤ r7 + z8 + (-10)) := Zleqf h521 h111 g
      clear g
      have f19_0 := rs_f137 b_r7 b_z118 b_z8 b_x1 b_m119 b_m123 b_m125 k19 m123e m119e m125e
      have f19_1 := rs_f138 b_r7 b_z118 b_z8 b_x2 b_m120 b_m124 b_m126 k19 m124e m120e m126e
      exact rfl
    have k19 : (z118 : Int) ≤ r7 + z8 + (-10) := Zleqt h521 h111 g
    clear g
    have f19_0 := rs_f139 b_r7 b_z118 b_z8 b_x1 b_m119 b_m123 b_m125 k19 m123e m119e m125e
    have f19_1 := rs_f140 b_r7 b_z118 b_z8 b_x2 b_m120 b_m124 b_m126 k19 m124e m120e m126e
    refine ask_p (fun g => ?_) (fun g => ?_)
    · have k20 : (z58 + 9995000 : Int) ≤ (-1) * r7 + (-1) * z8 + 9995010 := Zleqt h323 h87 g
      clear g
      have f20_0 := rs_f89 b_r7 b_z58 b_z8 b_x1 b_m123 b_m125 b_m59 k20 m123e m59e m125e
      have f20_1 := rs_f90 b_r7 b_z58 b_z8 b_x2 b_m124 b_m126 b_m60 k20 m124e m60e m126e
      exact rfl
    have k20 : ¬ ((z58 + 9995000 : Int) ≤ (-1) * r7 + (-1) * z8 + 9995010) := Zleqf h323 h87 g
    clear g
    have f20_0 := rs_f91 b_r7 b_z58 b_z8 b_x1 b_m123 b_m125 b_m59 k20 m123e m59e m125e
    have f20_1 := rs_f92 b_r7 b_z58 b_z8 b_x2 b_m124 b_m126 b_m60 k20 m124e m60e m126e
    exact rfl
  have k18 : ¬ ((0 : Int) ≤ u121 + (-1) * u122) := Zleqf (Zc 0) h528 g
  clear g
  refine ask_q (fun g => ?_) (fun g => ?_)
  · have k19 : ¬ ((z118 : Int) ≤ r7 + z8 + (-10)) := Zleqf h521 h111 g
    clear g
    have f19_0 := rs_f137 b_r7 b_z118 b_z8 b_x1 b_m119 b_m123 b_m125 k19 m123e m119e m125e
    have f19_1 := rs_f138 b_r7 b_z118 b_z8 b_x2 b_m120 b_m124 b_m126 k19 m124e m120e m126e
    exact rfl
  have k19 : (z118 : Int) ≤ r7 + z8 + (-10) := Zleqt h521 h111 g
  clear g
  have f19_0 := rs_f139 b_r7 b_z118 b_z8 b_x1 b_m119 b_m123 b_m125 k19 m123e m119e m125e
  have f19_1 := rs_f140 b_r7 b_z118 b_z8 b_x2 b_m120 b_m124 b_m126 k19 m124e m120e m126e
  refine ask_p (fun g => ?_) (fun g => ?_)
  · have k20 : (z58 + 9995000 : Int) ≤ (-1) * r7 + (-1) * z8 + 9995010 := Zleqt h323 h87 g
    clear g
    have f20_0 := rs_f89 b_r7 b_z58 b_z8 b_x1 b_m123 b_m125 b_m59 k20 m123e m59e m125e
    have f20_1 := rs_f90 b_r7 b_z58 b_z8 b_x2 b_m124 b_m126 b_m60 k20 m124e m60e m126e
    exact rs_d6 b_m119 b_m120 b_m123 b_m124 b_m125 b_m126 b_m59 b_m60 b_r7 b_u116 b_u117 b_u121 b_u122 b_u56 b_u57 b_x1 b_x2 b_x3 b_z118 b_z58 b_z8 k19 k20 z58s z8s z118s f19_0 f19_1 f20_0 f20_1 s8 s9 m59f1 m59f2 m59f3 m59f4 m60f1 m60f2 m60f3 m60f4 m119f1 m119f2 m119f3 m119f4 m120f1 m120f2 m120f3 m120f4 m123f1 m123f2 m123f3 m123f4 m125f1 m125f2 m125f3 m125f4 m124f1 m124f2 m124f3 m124f4 m126f1 m126f2 m126f3 m126f4 k18
  have k20 : ¬ ((z58 + 9995000 : Int) ≤ (-1) * r7 + (-1) * z8 + 9995010) := Zleqf h323 h87 g
  clear g
  have f20_0 := rs_f91 b_r7 b_z58 b_z8 b_x1 b_m123 b_m125 b_m59 k20 m123e m59e m125e
  have f20_1 := rs_f92 b_r7 b_z58 b_z8 b_x2 b_m124 b_m126 b_m60 k20 m124e m60e m126e
  exact rfl
end Go.Proofs.Ytdicfkocjakhcaa.Cx
