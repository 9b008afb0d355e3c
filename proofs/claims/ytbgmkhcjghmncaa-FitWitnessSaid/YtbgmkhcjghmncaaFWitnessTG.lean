/- FitWitness: the tests of the law and their arithmetic. Made by tools/cxroot.py. -/
import Derived.Test.YtbgmkhcjghmncaaFWitnessTN0
import Derived.Test.YtbgmkhcjghmncaaFWitnessTN1
import Derived.Test.YtbgmkhcjghmncaaFWitnessTN2
set_option linter.unusedSimpArgs false
set_option linter.unusedVariables false
set_option maxRecDepth 100000
set_option maxHeartbeats 4000000
namespace Go.Proofs.Ytbgmkhcjghmncaa.Cx
open Go Go.RowKit

theorem fw_goal {ρ : Env} {x0 x1 x2 x3 x4 x5 x6 x7 x8 x9 : Int} (e0 : Is ρ (.v 0) x0) (b_x0 : 0 ≤ x0 ∧ x0 ≤ 65535) (e1 : Is ρ (.v 1) x1) (b_x1 : 0 ≤ x1 ∧ x1 ≤ 65535) (e2 : Is ρ (.v 2) x2) (b_x2 : 0 ≤ x2 ∧ x2 ≤ 65535) (e3 : Is ρ (.v 3) x3) (b_x3 : 0 ≤ x3 ∧ x3 ≤ 9223372036854775807) (e4 : Is ρ (.v 4) x4) (b_x4 : -128 ≤ x4 ∧ x4 ≤ 127) (e5 : Is ρ (.v 5) x5) (b_x5 : -128 ≤ x5 ∧ x5 ≤ 127) (e6 : Is ρ (.v 6) x6) (b_x6 : -32768 ≤ x6 ∧ x6 ≤ 32767) (e7 : Is ρ (.v 7) x7) (b_x7 : -32768 ≤ x7 ∧ x7 ≤ 32767) (e8 : Is ρ (.v 8) x8) (b_x8 : -128 ≤ x8 ∧ x8 ≤ 127) (e9 : Is ρ (.v 9) x9) (b_x9 : -128 ≤ x9 ∧ x9 ≤ 127) : fwTree.goal ρ := by
  have h0 := fw_n0 (ρ := ρ) e0 b_x0
  obtain ⟨q1, r2, q1e, r2e, q1s, b_q1, b_r2⟩ := fw_aq1 b_x0
  have h1 := fw_n1 (ρ := ρ) h0 r2e b_x0 b_r2
  have h2 := fw_n2 (ρ := ρ) h1 b_r2
  have h3 := fw_n3 (ρ := ρ) e1 b_x1
  obtain ⟨q3, r4, q3e, r4e, q3s, b_q3, b_r4⟩ := fw_aq3 b_x1
  have h4 := fw_n4 (ρ := ρ) h3 r4e b_x1 b_r4
  have h5 := fw_n5 (ρ := ρ) h4 b_r4
  have h6 := fw_n6 (ρ := ρ) e2 b_x2
  obtain ⟨q5, r6, q5e, r6e, q5s, b_q5, b_r6⟩ := fw_aq5 b_x2
  have h7 := fw_n7 (ρ := ρ) h6 r6e b_x2 b_r6
  have h8 := fw_n8 (ρ := ρ) h5 h7 b_r4 b_r6
  have h9 := fw_n9 (ρ := ρ) h8 b_r4 b_r6
  have h10 := fw_n10 (ρ := ρ) h2 b_r2
  obtain ⟨u7, u7s, b_u7⟩ := fw_au7 b_x3
  have h11 := fw_n11 (ρ := ρ) e3 u7s b_x3 b_u7
  obtain ⟨u8, u8s, b_u8⟩ := fw_au8 b_u7
  have h12 := fw_n12 (ρ := ρ) h11 u8s b_u7 b_u8
  have h13 := fw_n13 (ρ := ρ) e6 b_x6
  obtain ⟨q9, r10, q9e, r10e, q9s, q9g, b_q9, b_r10⟩ := fw_aq9 b_x6
  have h14 := fw_n14 (ρ := ρ) h13 r10e b_x6 b_r10
  have h15 := fw_n15 (ρ := ρ) e7 b_x7
  obtain ⟨q11, r12, q11e, r12e, q11s, q11g, b_q11, b_r12⟩ := fw_aq11 b_x7
  have h16 := fw_n16 (ρ := ρ) h15 r12e b_x7 b_r12
  have h17 := fw_n17 (ρ := ρ) e8 b_x8
  have h18 := fw_n18 (ρ := ρ) h17 b_x8
  have h19 := fw_n19 (ρ := ρ) e9 b_x9
  have h20 := fw_n20 (ρ := ρ) h19 b_x9
  obtain ⟨u13, u13s, b_u13⟩ := fw_au13 b_x8 b_x9
  have h21 := fw_n21 (ρ := ρ) h18 h20 u13s b_x8 b_x9 b_u13
  obtain ⟨u14, u14s, b_u14⟩ := fw_au14 b_x8 b_x9
  have h22 := fw_n22 (ρ := ρ) h18 h20 u14s b_x8 b_x9 b_u14
  have h23 := fw_n23 (ρ := ρ) h2 b_r2
  have h24 := fw_n24 (ρ := ρ) h23 b_r2
  have h25 := fw_n25 (ρ := ρ) h2 b_r2
  have h26 := fw_n26 (ρ := ρ) h24 h25 b_r2
  obtain ⟨m15, m15e, m15f1, m15f2, m15f3, m15f4, b_m15⟩ := fw_am15 b_r10 b_r4
  have h27 := fw_n27 (ρ := ρ) h14 h5 m15e b_r10 b_r4 b_m15
  have h28 := fw_n28 (ρ := ρ) h26 h27 b_r2 b_m15 b_r10
  obtain ⟨z16, z16s, b_z16⟩ := fw_az16 b_m15 b_r10 b_r2
  have h33 := fw_n33 (ρ := ρ) h28 z16s b_m15 b_r10 b_r2 b_z16
  have h34 := fw_n34 (ρ := ρ) h24 h25 b_r2
  obtain ⟨m17, m17e, m17f1, m17f2, m17f3, m17f4, b_m17⟩ := fw_am17 b_r10 b_r6
  have h35 := fw_n35 (ρ := ρ) h14 h7 m17e b_r10 b_r6 b_m17
  have h36 := fw_n36 (ρ := ρ) h34 h35 b_r2 b_m17
  have h37 := fw_n37 (ρ := ρ) h36 b_m17 b_r2
  obtain ⟨z18, z18s, b_z18⟩ := fw_az18 b_m17 b_r2
  have h42 := fw_n42 (ρ := ρ) h37 z18s b_m17 b_r2 b_z18
  have h43 := fw_n43 (ρ := ρ) h42 b_z18
  obtain ⟨m19, m19e, m19f1, m19f2, m19f3, m19f4, b_m19⟩ := fw_am19 b_r12 b_r4
  have h44 := fw_n44 (ρ := ρ) h16 h5 m19e b_r12 b_r4 b_m19
  have h45 := fw_n45 (ρ := ρ) h26 h44 b_r2 b_m19 b_r12
  have h46 := fw_n46 (ρ := ρ) h45 b_m19 b_r12 b_r2
  obtain ⟨z20, z20s, b_z20⟩ := fw_az20 b_m19 b_r12 b_r2
  have h51 := fw_n51 (ρ := ρ) h46 z20s b_m19 b_r12 b_r2 b_z20
  have h52 := fw_n52 (ρ := ρ) h51 b_z20
  obtain ⟨m21, m21e, m21f1, m21f2, m21f3, m21f4, b_m21⟩ := fw_am21 b_r12 b_r6
  have h53 := fw_n53 (ρ := ρ) h16 h7 m21e b_r12 b_r6 b_m21
  have h54 := fw_n54 (ρ := ρ) h34 h53 b_r2 b_m21
  obtain ⟨z22, z22s, b_z22⟩ := fw_az22 b_m21 b_r2
  have h59 := fw_n59 (ρ := ρ) h54 z22s b_m21 b_r2 b_z22
  have h60 := fw_n60 (ρ := ρ) h52 b_z20
  have h61 := fw_n61 (ρ := ρ) h33 b_z16
  have h62 := fw_n62 (ρ := ρ) h60 h61 b_z20 b_z16
  have h63 := fw_n63 (ρ := ρ) h62 b_z16 b_z20
  have h64 := fw_n64 (ρ := ρ) h5 h5 b_r4
  have h65 := fw_n65 (ρ := ρ) h21 h64 b_u13
  have h66 := fw_n66 (ρ := ρ) h22 h64 b_u14
  have h67 := fw_n67 (ρ := ρ) h65 h66
  have h68 := fw_n68 (ρ := ρ) h63 h67 b_z16 b_z20
  have h69 := fw_n69 (ρ := ρ) h59 b_z22
  have h70 := fw_n70 (ρ := ρ) h43 b_z18
  have h71 := fw_n71 (ρ := ρ) h69 h70 b_z22 b_z18
  have h72 := fw_n72 (ρ := ρ) h71 b_z18 b_z22
  have h73 := fw_n73 (ρ := ρ) h7 h7 b_r6
  have h74 := fw_n74 (ρ := ρ) h21 h73 b_u13
  have h75 := fw_n75 (ρ := ρ) h22 h73 b_u14
  have h76 := fw_n76 (ρ := ρ) h74 h75
  have h77 := fw_n77 (ρ := ρ) h72 h76 b_z18 b_z22
  have h78 := fw_n78 (ρ := ρ) h77 h68 b_z18 b_z22 b_z16 b_z20
  have h79 := fw_n79 (ρ := ρ) h7 b_r6
  have h80 := fw_n80 (ρ := ρ) h34 h79 b_r2
  have h81 := fw_n81 (ρ := ρ) h80 h70 b_r2 b_z18
  have h82 := fw_n82 (ρ := ρ) h81 b_r2 b_z18
  have h83 := fw_n83 (ρ := ρ) h82 h76 b_r2 b_z18
  have h84 := fw_n84 (ρ := ρ) h5 b_r4
  have h85 := fw_n85 (ρ := ρ) h26 h84 b_r2
  have h86 := fw_n86 (ρ := ρ) h85 h61 b_r2 b_z16
  have h87 := fw_n87 (ρ := ρ) h86 b_r2 b_z16
  have h88 := fw_n88 (ρ := ρ) h87 h67 b_r2 b_z16
  have h89 := fw_n89 (ρ := ρ) h83 h88 b_r2 b_z18 b_z16
  have h90 := fw_n90 (ρ := ρ) h89 b_r2 b_z16 b_z18
  obtain ⟨z23, z23h, b_z23⟩ := fw_az23 b_r2 b_z16 b_z18 b_r4 b_r6
  obtain ⟨m24, m24e, m24f1, m24f2, m24f3, m24f4, b_m24⟩ := fw_am24 b_r4 b_z23
  obtain ⟨m25, m25e, m25f1, m25f2, m25f3, m25f4, b_m25⟩ := fw_am25 b_r6 b_z23
  have z23s := fw_yz23 z23h m24e m25e
  have h95 := fw_n95 (ρ := ρ) h90 h8 z23h b_r2 b_z16 b_z18 b_r4 b_r6 b_z23
  have h96 := fw_n96 (ρ := ρ) h69 h80 b_z22 b_r2
  have h97 := fw_n97 (ρ := ρ) h96 b_r2 b_z22
  have h98 := fw_n98 (ρ := ρ) h97 h76 b_r2 b_z22
  have h99 := fw_n99 (ρ := ρ) h60 h85 b_z20 b_r2
  have h100 := fw_n100 (ρ := ρ) h99 b_r2 b_z20
  have h101 := fw_n101 (ρ := ρ) h100 h67 b_r2 b_z20
  have h102 := fw_n102 (ρ := ρ) h98 h101 b_r2 b_z22 b_z20
  have h103 := fw_n103 (ρ := ρ) h102 b_r2 b_z20 b_z22
  obtain ⟨z26, z26h, b_z26⟩ := fw_az26 b_r2 b_z20 b_z22 b_r4 b_r6
  obtain ⟨m27, m27e, m27f1, m27f2, m27f3, m27f4, b_m27⟩ := fw_am27 b_r4 b_z26
  obtain ⟨m28, m28e, m28f1, m28f2, m28f3, m28f4, b_m28⟩ := fw_am28 b_r6 b_z26
  have z26s := fw_yz26 z26h m27e m28e
  have h108 := fw_n108 (ρ := ρ) h103 h8 z26h b_r2 b_z20 b_z22 b_r4 b_r6 b_z26
  have h109 := fw_n109 (ρ := ρ) h108 b_z26
  have h110 := fw_n110 (ρ := ρ) h14 h16 b_r10 b_r12
  have h111 := fw_n111 (ρ := ρ) h110 h8 m15e m17e m19e m21e b_r10 b_r12 b_r4 b_r6 b_m15 b_m17 b_m19 b_m21
  have h112 := fw_n112 (ρ := ρ) h23 b_r2
  have h113 := fw_n113 (ρ := ρ) h112 h25 b_r2
  have h114 := fw_n114 (ρ := ρ) h113 h27 b_r2 b_m15 b_r10
  have h119 := fw_n119 (ρ := ρ) h114 z16s b_m15 b_r10 b_r2 b_z16
  have h120 := fw_n120 (ρ := ρ) h112 h25 b_r2
  have h121 := fw_n121 (ρ := ρ) h120 h35 b_r2 b_m17
  have h122 := fw_n122 (ρ := ρ) h121 b_m17 b_r2
  have h127 := fw_n127 (ρ := ρ) h122 z18s b_m17 b_r2 b_z18
  have h128 := fw_n128 (ρ := ρ) h127 b_r2 b_z18
  have h129 := fw_n129 (ρ := ρ) h113 h44 b_r2 b_m19 b_r12
  have h130 := fw_n130 (ρ := ρ) h129 b_m19 b_r12 b_r2
  have h135 := fw_n135 (ρ := ρ) h130 z20s b_m19 b_r12 b_r2 b_z20
  have h136 := fw_n136 (ρ := ρ) h135 b_r2 b_z20
  have h137 := fw_n137 (ρ := ρ) h120 h53 b_r2 b_m21
  have h142 := fw_n142 (ρ := ρ) h137 z22s b_m21 b_r2 b_z22
  have h143 := fw_n143 (ρ := ρ) h136 b_r2 b_z20
  have h144 := fw_n144 (ρ := ρ) h119 b_r2 b_z16
  have h145 := fw_n145 (ρ := ρ) h143 h144 b_r2 b_z20 b_z16
  have h146 := fw_n146 (ρ := ρ) h63 h145 b_z16 b_z20
  have h147 := fw_n147 (ρ := ρ) h146 h67 b_z16 b_z20
  have h148 := fw_n148 (ρ := ρ) h142 b_r2 b_z22
  have h149 := fw_n149 (ρ := ρ) h128 b_r2 b_z18
  have h150 := fw_n150 (ρ := ρ) h148 h149 b_r2 b_z22 b_z18
  have h151 := fw_n151 (ρ := ρ) h72 h150 b_z18 b_z22
  have h152 := fw_n152 (ρ := ρ) h151 h76 b_z18 b_z22
  have h153 := fw_n153 (ρ := ρ) h152 h147 b_z18 b_z22 b_z16 b_z20
  have h154 := fw_n154 (ρ := ρ) h120 h79 b_r2
  have h155 := fw_n155 (ρ := ρ) h154 h149 b_r2 b_z18
  have h156 := fw_n156 (ρ := ρ) h82 h155 b_r2 b_z18
  have h157 := fw_n157 (ρ := ρ) h156 h76 b_r2 b_z18
  have h158 := fw_n158 (ρ := ρ) h113 h84 b_r2
  have h159 := fw_n159 (ρ := ρ) h158 h144 b_r2 b_z16
  have h160 := fw_n160 (ρ := ρ) h87 h159 b_r2 b_z16
  have h161 := fw_n161 (ρ := ρ) h160 h67 b_r2 b_z16
  have h162 := fw_n162 (ρ := ρ) h157 h161 b_r2 b_z18 b_z16
  have h163 := fw_n163 (ρ := ρ) h162 b_r2 b_z16 b_z18
  have h168 := fw_n168 (ρ := ρ) h163 h8 z23h b_r2 b_z16 b_z18 b_r4 b_r6 b_z23
  have h169 := fw_n169 (ρ := ρ) h148 h154 b_r2 b_z22
  have h170 := fw_n170 (ρ := ρ) h97 h169 b_r2 b_z22
  have h171 := fw_n171 (ρ := ρ) h170 h76 b_r2 b_z22
  have h172 := fw_n172 (ρ := ρ) h143 h158 b_r2 b_z20
  have h173 := fw_n173 (ρ := ρ) h100 h172 b_r2 b_z20
  have h174 := fw_n174 (ρ := ρ) h173 h67 b_r2 b_z20
  have h175 := fw_n175 (ρ := ρ) h171 h174 b_r2 b_z22 b_z20
  have h176 := fw_n176 (ρ := ρ) h175 b_r2 b_z20 b_z22
  have h181 := fw_n181 (ρ := ρ) h176 h8 z26h b_r2 b_z20 b_z22 b_r4 b_r6 b_z26
  have h182 := fw_n182 (ρ := ρ) h181 b_z26
  have h183 := fw_n183 (ρ := ρ) h23 b_r2
  have h184 := fw_n184 (ρ := ρ) h183 h25 b_r2
  have h185 := fw_n185 (ρ := ρ) h184 h27 b_r2 b_m15 b_r10
  have h190 := fw_n190 (ρ := ρ) h185 z16s b_m15 b_r10 b_r2 b_z16
  have h191 := fw_n191 (ρ := ρ) h183 h25 b_r2
  have h192 := fw_n192 (ρ := ρ) h191 h35 b_r2 b_m17
  have h193 := fw_n193 (ρ := ρ) h192 b_m17 b_r2
  have h198 := fw_n198 (ρ := ρ) h193 z18s b_m17 b_r2 b_z18
  have h199 := fw_n199 (ρ := ρ) h198 b_r2 b_z18
  have h200 := fw_n200 (ρ := ρ) h184 h44 b_r2 b_m19 b_r12
  have h201 := fw_n201 (ρ := ρ) h200 b_m19 b_r12 b_r2
  have h206 := fw_n206 (ρ := ρ) h201 z20s b_m19 b_r12 b_r2 b_z20
  have h207 := fw_n207 (ρ := ρ) h206 b_r2 b_z20
  have h208 := fw_n208 (ρ := ρ) h191 h53 b_r2 b_m21
  have h213 := fw_n213 (ρ := ρ) h208 z22s b_m21 b_r2 b_z22
  have h214 := fw_n214 (ρ := ρ) h207 b_r2 b_z20
  have h215 := fw_n215 (ρ := ρ) h190 b_r2 b_z16
  have h216 := fw_n216 (ρ := ρ) h214 h215 b_r2 b_z20 b_z16
  have h217 := fw_n217 (ρ := ρ) h146 h216 b_z16 b_z20
  have h218 := fw_n218 (ρ := ρ) h217 h67 b_z16 b_z20
  have h219 := fw_n219 (ρ := ρ) h213 b_r2 b_z22
  have h220 := fw_n220 (ρ := ρ) h199 b_r2 b_z18
  have h221 := fw_n221 (ρ := ρ) h219 h220 b_r2 b_z22 b_z18
  have h222 := fw_n222 (ρ := ρ) h151 h221 b_z18 b_z22
  have h223 := fw_n223 (ρ := ρ) h222 h76 b_z18 b_z22
  have h224 := fw_n224 (ρ := ρ) h223 h218 b_z18 b_z22 b_z16 b_z20
  have h225 := fw_n225 (ρ := ρ) h191 h79 b_r2
  have h226 := fw_n226 (ρ := ρ) h225 h220 b_r2 b_z18
  have h227 := fw_n227 (ρ := ρ) h156 h226 b_r2 b_z18
  have h228 := fw_n228 (ρ := ρ) h227 h76 b_r2 b_z18
  have h229 := fw_n229 (ρ := ρ) h184 h84 b_r2
  have h230 := fw_n230 (ρ := ρ) h229 h215 b_r2 b_z16
  have h231 := fw_n231 (ρ := ρ) h160 h230 b_r2 b_z16
  have h232 := fw_n232 (ρ := ρ) h231 h67 b_r2 b_z16
  have h233 := fw_n233 (ρ := ρ) h228 h232 b_r2 b_z18 b_z16
  have h234 := fw_n234 (ρ := ρ) h233 b_r2 b_z16 b_z18
  have h239 := fw_n239 (ρ := ρ) h234 h8 z23h b_r2 b_z16 b_z18 b_r4 b_r6 b_z23
  have h240 := fw_n240 (ρ := ρ) h219 h225 b_r2 b_z22
  have h241 := fw_n241 (ρ := ρ) h170 h240 b_r2 b_z22
  have h242 := fw_n242 (ρ := ρ) h241 h76 b_r2 b_z22
  have h243 := fw_n243 (ρ := ρ) h214 h229 b_r2 b_z20
  have h244 := fw_n244 (ρ := ρ) h173 h243 b_r2 b_z20
  have h245 := fw_n245 (ρ := ρ) h244 h67 b_r2 b_z20
  have h246 := fw_n246 (ρ := ρ) h242 h245 b_r2 b_z22 b_z20
  have h247 := fw_n247 (ρ := ρ) h246 b_r2 b_z20 b_z22
  have h252 := fw_n252 (ρ := ρ) h247 h8 z26h b_r2 b_z20 b_z22 b_r4 b_r6 b_z26
  have h253 := fw_n253 (ρ := ρ) h252 b_z26
  have h254 := fw_n254 (ρ := ρ) h23 b_r2
  have h255 := fw_n255 (ρ := ρ) h254 h25 b_r2
  have h256 := fw_n256 (ρ := ρ) h255 h27 b_r2 b_m15 b_r10
  have h261 := fw_n261 (ρ := ρ) h256 z16s b_m15 b_r10 b_r2 b_z16
  have h262 := fw_n262 (ρ := ρ) h254 h25 b_r2
  have h263 := fw_n263 (ρ := ρ) h262 h35 b_r2 b_m17
  have h264 := fw_n264 (ρ := ρ) h263 b_m17 b_r2
  have h269 := fw_n269 (ρ := ρ) h264 z18s b_m17 b_r2 b_z18
  have h270 := fw_n270 (ρ := ρ) h269 b_r2 b_z18
  have h271 := fw_n271 (ρ := ρ) h255 h44 b_r2 b_m19 b_r12
  have h272 := fw_n272 (ρ := ρ) h271 b_m19 b_r12 b_r2
  have h277 := fw_n277 (ρ := ρ) h272 z20s b_m19 b_r12 b_r2 b_z20
  have h278 := fw_n278 (ρ := ρ) h277 b_r2 b_z20
  have h279 := fw_n279 (ρ := ρ) h262 h53 b_r2 b_m21
  have h284 := fw_n284 (ρ := ρ) h279 z22s b_m21 b_r2 b_z22
  have h285 := fw_n285 (ρ := ρ) h278 b_r2 b_z20
  have h286 := fw_n286 (ρ := ρ) h261 b_r2 b_z16
  have h287 := fw_n287 (ρ := ρ) h285 h286 b_r2 b_z20 b_z16
  have h288 := fw_n288 (ρ := ρ) h217 h287 b_z16 b_z20
  have h289 := fw_n289 (ρ := ρ) h288 h67 b_z16 b_z20
  have h290 := fw_n290 (ρ := ρ) h284 b_r2 b_z22
  have h291 := fw_n291 (ρ := ρ) h270 b_r2 b_z18
  have h292 := fw_n292 (ρ := ρ) h290 h291 b_r2 b_z22 b_z18
  have h293 := fw_n293 (ρ := ρ) h222 h292 b_z18 b_z22
  have h294 := fw_n294 (ρ := ρ) h293 h76 b_z18 b_z22
  have h295 := fw_n295 (ρ := ρ) h294 h289 b_z18 b_z22 b_z16 b_z20
  have h296 := fw_n296 (ρ := ρ) h262 h79 b_r2
  have h297 := fw_n297 (ρ := ρ) h296 h291 b_r2 b_z18
  have h298 := fw_n298 (ρ := ρ) h227 h297 b_r2 b_z18
  have h299 := fw_n299 (ρ := ρ) h298 h76 b_r2 b_z18
  have h300 := fw_n300 (ρ := ρ) h255 h84 b_r2
  have h301 := fw_n301 (ρ := ρ) h300 h286 b_r2 b_z16
  have h302 := fw_n302 (ρ := ρ) h231 h301 b_r2 b_z16
  have h303 := fw_n303 (ρ := ρ) h302 h67 b_r2 b_z16
  have h304 := fw_n304 (ρ := ρ) h299 h303 b_r2 b_z18 b_z16
  have h305 := fw_n305 (ρ := ρ) h304 b_r2 b_z16 b_z18
  have h310 := fw_n310 (ρ := ρ) h305 h8 z23h b_r2 b_z16 b_z18 b_r4 b_r6 b_z23
  have h311 := fw_n311 (ρ := ρ) h290 h296 b_r2 b_z22
  have h312 := fw_n312 (ρ := ρ) h241 h311 b_r2 b_z22
  have h313 := fw_n313 (ρ := ρ) h312 h76 b_r2 b_z22
  have h314 := fw_n314 (ρ := ρ) h285 h300 b_r2 b_z20
  have h315 := fw_n315 (ρ := ρ) h244 h314 b_r2 b_z20
  have h316 := fw_n316 (ρ := ρ) h315 h67 b_r2 b_z20
  have h317 := fw_n317 (ρ := ρ) h313 h316 b_r2 b_z22 b_z20
  have h318 := fw_n318 (ρ := ρ) h317 b_r2 b_z20 b_z22
  have h323 := fw_n323 (ρ := ρ) h318 h8 z26h b_r2 b_z20 b_z22 b_r4 b_r6 b_z26
  have h324 := fw_n324 (ρ := ρ) h323 b_z26
  have h325 := fw_n325 (ρ := ρ) h23 b_r2
  have h326 := fw_n326 (ρ := ρ) h325 h25 b_r2
  have h327 := fw_n327 (ρ := ρ) h326 h27 b_r2 b_m15 b_r10
  have h332 := fw_n332 (ρ := ρ) h327 z16s b_m15 b_r10 b_r2 b_z16
  have h333 := fw_n333 (ρ := ρ) h325 h25 b_r2
  have h334 := fw_n334 (ρ := ρ) h333 h35 b_r2 b_m17
  have h335 := fw_n335 (ρ := ρ) h334 b_m17 b_r2
  have h340 := fw_n340 (ρ := ρ) h335 z18s b_m17 b_r2 b_z18
  have h341 := fw_n341 (ρ := ρ) h340 b_r2 b_z18
  have h342 := fw_n342 (ρ := ρ) h326 h44 b_r2 b_m19 b_r12
  have h343 := fw_n343 (ρ := ρ) h342 b_m19 b_r12 b_r2
  have h348 := fw_n348 (ρ := ρ) h343 z20s b_m19 b_r12 b_r2 b_z20
  have h349 := fw_n349 (ρ := ρ) h348 b_r2 b_z20
  have h350 := fw_n350 (ρ := ρ) h333 h53 b_r2 b_m21
  have h355 := fw_n355 (ρ := ρ) h350 z22s b_m21 b_r2 b_z22
  have h356 := fw_n356 (ρ := ρ) h349 b_r2 b_z20
  have h357 := fw_n357 (ρ := ρ) h332 b_r2 b_z16
  have h358 := fw_n358 (ρ := ρ) h356 h357 b_r2 b_z20 b_z16
  have h359 := fw_n359 (ρ := ρ) h288 h358 b_z16 b_z20
  have h360 := fw_n360 (ρ := ρ) h359 h67 b_z16 b_z20
  have h361 := fw_n361 (ρ := ρ) h355 b_r2 b_z22
  have h362 := fw_n362 (ρ := ρ) h341 b_r2 b_z18
  have h363 := fw_n363 (ρ := ρ) h361 h362 b_r2 b_z22 b_z18
  have h364 := fw_n364 (ρ := ρ) h293 h363 b_z18 b_z22
  have h365 := fw_n365 (ρ := ρ) h364 h76 b_z18 b_z22
  have h366 := fw_n366 (ρ := ρ) h365 h360 b_z18 b_z22 b_z16 b_z20
  have h367 := fw_n367 (ρ := ρ) h333 h79 b_r2
  have h368 := fw_n368 (ρ := ρ) h367 h362 b_r2 b_z18
  have h369 := fw_n369 (ρ := ρ) h298 h368 b_r2 b_z18
  have h370 := fw_n370 (ρ := ρ) h369 h76 b_r2 b_z18
  have h371 := fw_n371 (ρ := ρ) h326 h84 b_r2
  have h372 := fw_n372 (ρ := ρ) h371 h357 b_r2 b_z16
  have h373 := fw_n373 (ρ := ρ) h302 h372 b_r2 b_z16
  have h374 := fw_n374 (ρ := ρ) h373 h67 b_r2 b_z16
  have h375 := fw_n375 (ρ := ρ) h370 h374 b_r2 b_z18 b_z16
  have h376 := fw_n376 (ρ := ρ) h375 b_r2 b_z16 b_z18
  have h381 := fw_n381 (ρ := ρ) h376 h8 z23h b_r2 b_z16 b_z18 b_r4 b_r6 b_z23
  have h382 := fw_n382 (ρ := ρ) h361 h367 b_r2 b_z22
  have h383 := fw_n383 (ρ := ρ) h312 h382 b_r2 b_z22
  have h384 := fw_n384 (ρ := ρ) h383 h76 b_r2 b_z22
  have h385 := fw_n385 (ρ := ρ) h356 h371 b_r2 b_z20
  have h386 := fw_n386 (ρ := ρ) h315 h385 b_r2 b_z20
  have h387 := fw_n387 (ρ := ρ) h386 h67 b_r2 b_z20
  have h388 := fw_n388 (ρ := ρ) h384 h387 b_r2 b_z22 b_z20
  have h389 := fw_n389 (ρ := ρ) h388 b_r2 b_z20 b_z22
  have h394 := fw_n394 (ρ := ρ) h389 h8 z26h b_r2 b_z20 b_z22 b_r4 b_r6 b_z26
  have h395 := fw_n395 (ρ := ρ) h394 b_z26
  have h396 := fw_n396 (ρ := ρ) h23 b_r2
  have h397 := fw_n397 (ρ := ρ) h396 h25 b_r2
  have h398 := fw_n398 (ρ := ρ) h397 h27 b_r2 b_m15 b_r10
  have h403 := fw_n403 (ρ := ρ) h398 z16s b_m15 b_r10 b_r2 b_z16
  have h404 := fw_n404 (ρ := ρ) h396 h25 b_r2
  have h405 := fw_n405 (ρ := ρ) h404 h35 b_r2 b_m17
  have h406 := fw_n406 (ρ := ρ) h405 b_m17 b_r2
  have h411 := fw_n411 (ρ := ρ) h406 z18s b_m17 b_r2 b_z18
  have h412 := fw_n412 (ρ := ρ) h411 b_r2 b_z18
  have h413 := fw_n413 (ρ := ρ) h397 h44 b_r2 b_m19 b_r12
  have h414 := fw_n414 (ρ := ρ) h413 b_m19 b_r12 b_r2
  have h419 := fw_n419 (ρ := ρ) h414 z20s b_m19 b_r12 b_r2 b_z20
  have h420 := fw_n420 (ρ := ρ) h419 b_r2 b_z20
  have h421 := fw_n421 (ρ := ρ) h404 h53 b_r2 b_m21
  have h426 := fw_n426 (ρ := ρ) h421 z22s b_m21 b_r2 b_z22
  have h427 := fw_n427 (ρ := ρ) h420 b_r2 b_z20
  have h428 := fw_n428 (ρ := ρ) h403 b_r2 b_z16
  have h429 := fw_n429 (ρ := ρ) h427 h428 b_r2 b_z20 b_z16
  have h430 := fw_n430 (ρ := ρ) h359 h429 b_z16 b_z20
  have h431 := fw_n431 (ρ := ρ) h430 h67 b_z16 b_z20
  have h432 := fw_n432 (ρ := ρ) h426 b_r2 b_z22
  have h433 := fw_n433 (ρ := ρ) h412 b_r2 b_z18
  have h434 := fw_n434 (ρ := ρ) h432 h433 b_r2 b_z22 b_z18
  have h435 := fw_n435 (ρ := ρ) h364 h434 b_z18 b_z22
  have h436 := fw_n436 (ρ := ρ) h435 h76 b_z18 b_z22
  have h437 := fw_n437 (ρ := ρ) h436 h431 b_z18 b_z22 b_z16 b_z20
  have h438 := fw_n438 (ρ := ρ) h404 h79 b_r2
  have h439 := fw_n439 (ρ := ρ) h438 h433 b_r2 b_z18
  have h440 := fw_n440 (ρ := ρ) h369 h439 b_r2 b_z18
  have h441 := fw_n441 (ρ := ρ) h440 h76 b_r2 b_z18
  have h442 := fw_n442 (ρ := ρ) h397 h84 b_r2
  have h443 := fw_n443 (ρ := ρ) h442 h428 b_r2 b_z16
  have h444 := fw_n444 (ρ := ρ) h373 h443 b_r2 b_z16
  have h445 := fw_n445 (ρ := ρ) h444 h67 b_r2 b_z16
  have h446 := fw_n446 (ρ := ρ) h441 h445 b_r2 b_z18 b_z16
  have h447 := fw_n447 (ρ := ρ) h446 b_r2 b_z16 b_z18
  have h452 := fw_n452 (ρ := ρ) h447 h8 z23h b_r2 b_z16 b_z18 b_r4 b_r6 b_z23
  have h453 := fw_n453 (ρ := ρ) h432 h438 b_r2 b_z22
  have h454 := fw_n454 (ρ := ρ) h383 h453 b_r2 b_z22
  have h455 := fw_n455 (ρ := ρ) h454 h76 b_r2 b_z22
  have h456 := fw_n456 (ρ := ρ) h427 h442 b_r2 b_z20
  have h457 := fw_n457 (ρ := ρ) h386 h456 b_r2 b_z20
  have h458 := fw_n458 (ρ := ρ) h457 h67 b_r2 b_z20
  have h459 := fw_n459 (ρ := ρ) h455 h458 b_r2 b_z22 b_z20
  have h460 := fw_n460 (ρ := ρ) h459 b_r2 b_z20 b_z22
  have h465 := fw_n465 (ρ := ρ) h460 h8 z26h b_r2 b_z20 b_z22 b_r4 b_r6 b_z26
  have h466 := fw_n466 (ρ := ρ) h465 b_z26
  have h467 := fw_n467 (ρ := ρ) h23 b_r2
  have h468 := fw_n468 (ρ := ρ) h467 h25 b_r2
  have h469 := fw_n469 (ρ := ρ) h468 h27 b_r2 b_m15 b_r10
  have h474 := fw_n474 (ρ := ρ) h469 z16s b_m15 b_r10 b_r2 b_z16
  have h475 := fw_n475 (ρ := ρ) h467 h25 b_r2
  have h476 := fw_n476 (ρ := ρ) h475 h35 b_r2 b_m17
  have h477 := fw_n477 (ρ := ρ) h476 b_m17 b_r2
  have h482 := fw_n482 (ρ := ρ) h477 z18s b_m17 b_r2 b_z18
  have h483 := fw_n483 (ρ := ρ) h482 b_r2 b_z18
  have h484 := fw_n484 (ρ := ρ) h468 h44 b_r2 b_m19 b_r12
  have h485 := fw_n485 (ρ := ρ) h484 b_m19 b_r12 b_r2
  have h490 := fw_n490 (ρ := ρ) h485 z20s b_m19 b_r12 b_r2 b_z20
  have h491 := fw_n491 (ρ := ρ) h490 b_r2 b_z20
  have h492 := fw_n492 (ρ := ρ) h475 h53 b_r2 b_m21
  have h497 := fw_n497 (ρ := ρ) h492 z22s b_m21 b_r2 b_z22
  have h498 := fw_n498 (ρ := ρ) h491 b_r2 b_z20
  have h499 := fw_n499 (ρ := ρ) h474 b_r2 b_z16
  have h500 := fw_n500 (ρ := ρ) h498 h499 b_r2 b_z20 b_z16
  have h501 := fw_n501 (ρ := ρ) h430 h500 b_z16 b_z20
  have h502 := fw_n502 (ρ := ρ) h501 h67 b_z16 b_z20
  have h503 := fw_n503 (ρ := ρ) h497 b_r2 b_z22
  have h504 := fw_n504 (ρ := ρ) h483 b_r2 b_z18
  have h505 := fw_n505 (ρ := ρ) h503 h504 b_r2 b_z22 b_z18
  have h506 := fw_n506 (ρ := ρ) h435 h505 b_z18 b_z22
  have h507 := fw_n507 (ρ := ρ) h506 h76 b_z18 b_z22
  have h508 := fw_n508 (ρ := ρ) h507 h502 b_z18 b_z22 b_z16 b_z20
  have h509 := fw_n509 (ρ := ρ) h475 h79 b_r2
  have h510 := fw_n510 (ρ := ρ) h509 h504 b_r2 b_z18
  have h511 := fw_n511 (ρ := ρ) h440 h510 b_r2 b_z18
  have h512 := fw_n512 (ρ := ρ) h511 h76 b_r2 b_z18
  have h513 := fw_n513 (ρ := ρ) h468 h84 b_r2
  have h514 := fw_n514 (ρ := ρ) h513 h499 b_r2 b_z16
  have h515 := fw_n515 (ρ := ρ) h444 h514 b_r2 b_z16
  have h516 := fw_n516 (ρ := ρ) h515 h67 b_r2 b_z16
  have h517 := fw_n517 (ρ := ρ) h512 h516 b_r2 b_z18 b_z16
  have h518 := fw_n518 (ρ := ρ) h517 b_r2 b_z16 b_z18
  have h523 := fw_n523 (ρ := ρ) h518 h8 z23h b_r2 b_z16 b_z18 b_r4 b_r6 b_z23
  have h524 := fw_n524 (ρ := ρ) h503 h509 b_r2 b_z22
  have h525 := fw_n525 (ρ := ρ) h454 h524 b_r2 b_z22
  have h526 := fw_n526 (ρ := ρ) h525 h76 b_r2 b_z22
  have h527 := fw_n527 (ρ := ρ) h498 h513 b_r2 b_z20
  have h528 := fw_n528 (ρ := ρ) h457 h527 b_r2 b_z20
  have h529 := fw_n529 (ρ := ρ) h528 h67 b_r2 b_z20
  have h530 := fw_n530 (ρ := ρ) h526 h529 b_r2 b_z22 b_z20
  have h531 := fw_n531 (ρ := ρ) h530 b_r2 b_z20 b_z22
  have h536 := fw_n536 (ρ := ρ) h531 h8 z26h b_r2 b_z20 b_z22 b_r4 b_r6 b_z26
  have h537 := fw_n537 (ρ := ρ) h536 b_z26
  have h538 := fw_n538 (ρ := ρ) h23 b_r2
  have h539 := fw_n539 (ρ := ρ) h538 h25 b_r2
  have h540 := fw_n540 (ρ := ρ) h539 h27 b_r2 b_m15 b_r10
  have h545 := fw_n545 (ρ := ρ) h540 z16s b_m15 b_r10 b_r2 b_z16
  have h546 := fw_n546 (ρ := ρ) h538 h25 b_r2
  have h547 := fw_n547 (ρ := ρ) h546 h35 b_r2 b_m17
  have h548 := fw_n548 (ρ := ρ) h547 b_m17 b_r2
  have h553 := fw_n553 (ρ := ρ) h548 z18s b_m17 b_r2 b_z18
  have h554 := fw_n554 (ρ := ρ) h553 b_r2 b_z18
  have h555 := fw_n555 (ρ := ρ) h539 h44 b_r2 b_m19 b_r12
  have h556 := fw_n556 (ρ := ρ) h555 b_m19 b_r12 b_r2
  have h561 := fw_n561 (ρ := ρ) h556 z20s b_m19 b_r12 b_r2 b_z20
  have h562 := fw_n562 (ρ := ρ) h561 b_r2 b_z20
  have h563 := fw_n563 (ρ := ρ) h546 h53 b_r2 b_m21
  have h568 := fw_n568 (ρ := ρ) h563 z22s b_m21 b_r2 b_z22
  have h569 := fw_n569 (ρ := ρ) h562 b_r2 b_z20
  have h570 := fw_n570 (ρ := ρ) h545 b_r2 b_z16
  have h571 := fw_n571 (ρ := ρ) h569 h570 b_r2 b_z20 b_z16
  have h572 := fw_n572 (ρ := ρ) h501 h571 b_z16 b_z20
  have h573 := fw_n573 (ρ := ρ) h572 h67 b_z16 b_z20
  have h574 := fw_n574 (ρ := ρ) h568 b_r2 b_z22
  have h575 := fw_n575 (ρ := ρ) h554 b_r2 b_z18
  have h576 := fw_n576 (ρ := ρ) h574 h575 b_r2 b_z22 b_z18
  have h577 := fw_n577 (ρ := ρ) h506 h576 b_z18 b_z22
  have h578 := fw_n578 (ρ := ρ) h577 h76 b_z18 b_z22
  have h579 := fw_n579 (ρ := ρ) h578 h573 b_z18 b_z22 b_z16 b_z20
  have h580 := fw_n580 (ρ := ρ) h546 h79 b_r2
  have h581 := fw_n581 (ρ := ρ) h580 h575 b_r2 b_z18
  have h582 := fw_n582 (ρ := ρ) h511 h581 b_r2 b_z18
  have h583 := fw_n583 (ρ := ρ) h582 h76 b_r2 b_z18
  have h584 := fw_n584 (ρ := ρ) h539 h84 b_r2
  have h585 := fw_n585 (ρ := ρ) h584 h570 b_r2 b_z16
  have h586 := fw_n586 (ρ := ρ) h515 h585 b_r2 b_z16
  have h587 := fw_n587 (ρ := ρ) h586 h67 b_r2 b_z16
  have h588 := fw_n588 (ρ := ρ) h583 h587 b_r2 b_z18 b_z16
  have h589 := fw_n589 (ρ := ρ) h588 b_r2 b_z16 b_z18
  have h594 := fw_n594 (ρ := ρ) h589 h8 z23h b_r2 b_z16 b_z18 b_r4 b_r6 b_z23
  have h595 := fw_n595 (ρ := ρ) h574 h580 b_r2 b_z22
  have h596 := fw_n596 (ρ := ρ) h525 h595 b_r2 b_z22
  have h597 := fw_n597 (ρ := ρ) h596 h76 b_r2 b_z22
  have h598 := fw_n598 (ρ := ρ) h569 h584 b_r2 b_z20
  have h599 := fw_n599 (ρ := ρ) h528 h598 b_r2 b_z20
  have h600 := fw_n600 (ρ := ρ) h599 h67 b_r2 b_z20
  have h601 := fw_n601 (ρ := ρ) h597 h600 b_r2 b_z22 b_z20
  have h602 := fw_n602 (ρ := ρ) h601 b_r2 b_z20 b_z22
  have h607 := fw_n607 (ρ := ρ) h602 h8 z26h b_r2 b_z20 b_z22 b_r4 b_r6 b_z26
  have h608 := fw_n608 (ρ := ρ) h607 b_z26
  refine ask_t (Pleq (Zc 100) h2 (fw_t0 b_r2)) ?_
  refine ask_t (Pleq h2 (Zc 200000) (fw_t1 b_r2)) ?_
  refine ask_t (Pleq (Zc 0) h5 (fw_t2 b_r4)) ?_
  refine ask_t (Pleq h5 (Zc 3000) (fw_t3 b_r4)) ?_
  refine ask_t (Pleq (Zc 0) h7 (fw_t4 b_r6)) ?_
  refine ask_t (Pleq h7 (Zc 3000) (fw_t5 b_r6)) ?_
  refine ask_t (Pleq h9 h10 (fw_t6 b_r4 b_r6 b_r2)) ?_
  refine ask_t (Pleq (Zc 1) h12 (fw_t7 b_u8)) ?_
  refine ask_t (Pleq h12 (Zc 60) (fw_t8 b_u8)) ?_
  refine ask_t (Pleq (Zc (-10000)) h14 (fw_t9 b_r10)) ?_
  refine ask_t (Pleq h14 (Zc 10000) (fw_t10 b_r10)) ?_
  refine ask_t (Pleq (Zc (-10000)) h16 (fw_t11 b_r12)) ?_
  refine ask_t (Pleq h16 (Zc 10000) (fw_t12 b_r12)) ?_
  refine ask_t (Pleq (Zc (-200000)) h21 (fw_t13 b_u13)) ?_
  refine ⟨fun g14 => ?_, fun g14 => ?_⟩
  · have k14 : (u13 : Int) ≤ u14 := Zleqt h21 h22 g14
    clear g14
    refine ask_t (Pleq h22 (Zc 200000) (fw_t14 b_u14)) ?_
    refine ask_f (Nleq h12 (Zc 0) (fw_t15 b_u8)) ?_
    refine ⟨fun g17 => ?_, fun g17 => ?_⟩
    · have k17 : (u8 : Int) ≤ 1 := Zleqt h12 (Zc 1) g17
      clear g17
      refine ask_t (Pleq (Zc (-10000000)) h33 (fw_t16 b_z16)) ?_
      refine ask_t (Pleq h33 h43 (fw_t17 b_z16 b_z18)) ?_
      refine ask_t (Pleq h43 (Zc 10000000) (fw_t18 b_z18)) ?_
      refine ask_t (Pleq (Zc (-10000000)) h52 (fw_t19 b_z20)) ?_
      refine ask_t (Pleq h52 h59 (fw_t20 b_z20 b_z22)) ?_
      refine ask_t (Pleq h59 (Zc 10000000) (fw_t21 b_z22)) ?_
      refine ⟨fun g24 => ?_, fun g24 => ?_⟩
      · have k24 : (1 : Int) = u8 := Zeqlt (Zc 1) h12 g24
        clear g24
        refine ask_f (Neql h8 (Zc 0) (fw_t22 b_r4 b_r6)) ?_
        refine ⟨fun g26 => ?_, fun g26 => ?_⟩
        · have k26 : ((-1000) * z16 + (-1000) * z20 : Int) ≤ 1000 * z18 + 1000 * z22 := Zleqt h68 h77 g26
          clear g26
          refine ⟨fun g27 => ?_, fun g27 => ?_⟩
          · have k27 : (0 : Int) ≤ 1000 * z16 + 1000 * z18 + 1000 * z20 + 1000 * z22 := Zleqt (Zc 0) h78 g27
            clear g27
            refine ⟨fun g28 => ?_, fun g28 => ?_⟩
            · have k28 : (z23 : Int) ≤ r10 := Zleqt h95 h14 g28
              clear g28
              refine ⟨fun g29 => ?_, fun g29 => ?_⟩
              · have k29 : (r12 : Int) ≤ (-1) * z26 := Zleqt h16 h109 g29
                clear g29
                refine ⟨fun g30 => ?_, fun g30 => ?_⟩
                · have k30 : (r10 : Int) ≤ r12 := Zleqt h14 h16 g30
                  clear g30
                  refine ⟨fun g31 => ?_, fun g31 => ?_⟩
                  · have k31 : (m15 + m17 + (-1) * m19 + (-1) * m21 + r10 + (-1) * r12 : Int) ≤ 4000 := Zleqt h111 (Zc 4000) g31
                    clear g31
                    exact rfl
                  · have k31 : ¬ ((m15 + m17 + (-1) * m19 + (-1) * m21 + r10 + (-1) * r12 : Int) ≤ 4000) := Zleqf h111 (Zc 4000) g31
                    clear g31
                    exact fw_d0 b_m15 b_m17 b_m19 b_m21 b_m24 b_m25 b_m27 b_m28 b_r10 b_r12 b_r2 b_r4 b_r6 b_z16 b_z18 b_z20 b_z22 b_z23 b_z26 k28 k29 k30 k31 m15f1 m15f2 m15f3 m15f4 m17f1 m17f2 m17f3 m17f4 m19f1 m19f2 m19f3 m19f4 m21f1 m21f2 m21f3 m21f4 z23s z26s k26 k27 z16s z18s m24f1 m24f2 m24f3 m24f4 m25f1 m25f2 m25f3 m25f4 z20s z22s m27f1 m27f2 m27f3 m27f4 m28f1 m28f2 m28f3 m28f4
                · have k30 : ¬ ((r10 : Int) ≤ r12) := Zleqf h14 h16 g30
                  clear g30
                  refine ⟨fun g31 => ?_, fun g31 => ?_⟩
                  · have k31 : (m15 + m17 + (-1) * m19 + (-1) * m21 + r10 + (-1) * r12 : Int) ≤ 4000 := Zleqt h111 (Zc 4000) g31
                    clear g31
                    exact rfl
                  · have k31 : ¬ ((m15 + m17 + (-1) * m19 + (-1) * m21 + r10 + (-1) * r12 : Int) ≤ 4000) := Zleqf h111 (Zc 4000) g31
                    clear g31
                    exact fw_d1 b_m15 b_m17 b_m19 b_m21 b_m24 b_m25 b_m27 b_m28 b_r10 b_r12 b_r2 b_r4 b_r6 b_z16 b_z18 b_z20 b_z22 b_z23 b_z26 k28 k29 k30 k31 m15f1 m15f2 m15f3 m15f4 m17f1 m17f2 m17f3 m17f4 m19f1 m19f2 m19f3 m19f4 m21f1 m21f2 m21f3 m21f4 z23s z26s k26 k27 z16s z18s m24f1 m24f2 m24f3 m24f4 m25f1 m25f2 m25f3 m25f4 z20s z22s m27f1 m27f2 m27f3 m27f4 m28f1 m28f2 m28f3 m28f4
              · have k29 : ¬ ((r12 : Int) ≤ (-1) * z26) := Zleqf h16 h109 g29
                clear g29
                have f29_0 := fw_f25 b_r12 b_z26 b_r4 b_m19 b_m27 k29 m19e m27e
                have f29_1 := fw_f26 b_r12 b_z26 b_r6 b_m21 b_m28 k29 m21e m28e
                exact fw_d2 b_m15 b_m17 b_m19 b_m21 b_m24 b_m25 b_m27 b_m28 b_r10 b_r12 b_r2 b_r4 b_r6 b_z16 b_z18 b_z20 b_z22 b_z23 b_z26 k29 z26s k26 k27 f29_0 f29_1 z20s z22s m27f1 m27f2 m27f3 m27f4 m28f1 m28f2 m28f3 m28f4 z16s z18s m19f1 m19f2 m19f3 m19f4 m21f1 m21f2 m21f3 m21f4 k28 m15f1 m15f2 m15f3 m15f4 m17f1 m17f2 m17f3 m17f4 z23s m24f1 m24f2 m24f3 m24f4 m25f1 m25f2 m25f3 m25f4
            · have k28 : ¬ ((z23 : Int) ≤ r10) := Zleqf h95 h14 g28
              clear g28
              have f28_0 := fw_f28 b_r10 b_z23 b_r4 b_m15 b_m24 k28 m15e m24e
              have f28_1 := fw_f29 b_r10 b_z23 b_r6 b_m17 b_m25 k28 m17e m25e
              exact fw_d3 b_m15 b_m17 b_m19 b_m21 b_m24 b_m25 b_r10 b_r12 b_r2 b_r4 b_r6 b_z16 b_z18 b_z20 b_z22 b_z23 k28 z23s k26 k27 f28_0 f28_1 z16s z18s m24f1 m24f2 m24f3 m24f4 m25f1 m25f2 m25f3 m25f4 z20s z22s m15f1 m15f2 m15f3 m15f4 m17f1 m17f2 m17f3 m17f4 m19f1 m19f2 m19f3 m19f4 m21f1 m21f2 m21f3 m21f4
          · have k27 : ¬ ((0 : Int) ≤ 1000 * z16 + 1000 * z18 + 1000 * z20 + 1000 * z22) := Zleqf (Zc 0) h78 g27
            clear g27
            exact fw_d4 b_m15 b_m17 b_m19 b_m21 b_r10 b_r12 b_r2 b_r4 b_r6 b_z16 b_z18 b_z20 b_z22 k26 k27 z16s z18s z20s z22s m15f1 m15f2 m15f3 m15f4 m17f1 m17f2 m17f3 m17f4 m19f1 m19f2 m19f3 m19f4 m21f1 m21f2 m21f3 m21f4
        · have k26 : ¬ (((-1000) * z16 + (-1000) * z20 : Int) ≤ 1000 * z18 + 1000 * z22) := Zleqf h68 h77 g26
          clear g26
          refine ⟨fun g27 => ?_, fun g27 => ?_⟩
          · have k27 : (0 : Int) ≤ 1000 * z16 + 1000 * z18 + 1000 * z20 + 1000 * z22 := Zleqt (Zc 0) h78 g27
            clear g27
            exact fw_d5 b_m15 b_m17 b_m19 b_m21 b_r10 b_r12 b_r2 b_r4 b_r6 b_z16 b_z18 b_z20 b_z22 k26 k27 z16s z18s z20s z22s m15f1 m15f2 m15f3 m15f4 m17f1 m17f2 m17f3 m17f4 m19f1 m19f2 m19f3 m19f4 m21f1 m21f2 m21f3 m21f4
          · have k27 : ¬ ((0 : Int) ≤ 1000 * z16 + 1000 * z18 + 1000 * z20 + 1000 * z22) := Zleqf (Zc 0) h78 g27
            clear g27
            refine ⟨fun g28 => ?_, fun g28 => ?_⟩
            · have k28 : (z23 : Int) ≤ r10 := Zleqt h95 h14 g28
              clear g28
              refine ⟨fun g29 => ?_, fun g29 => ?_⟩
              · have k29 : (r12 : Int) ≤ (-1) * z26 := Zleqt h16 h109 g29
                clear g29
                refine ⟨fun g30 => ?_, fun g30 => ?_⟩
                · have k30 : (r10 : Int) ≤ r12 := Zleqt h14 h16 g30
                  clear g30
                  have f30_0 := fw_f33 b_r10 b_r12 b_r4 b_m15 b_m19 k30 m15e m19e
                  have f30_1 := fw_f34 b_r10 b_r12 b_r6 b_m17 b_m21 k30 m17e m21e
                  exact fw_d6 b_m15 b_m17 b_m19 b_m21 b_m24 b_m25 b_m27 b_m28 b_r10 b_r12 b_r2 b_r4 b_r6 b_z16 b_z18 b_z20 b_z22 b_z23 b_z26 k28 k29 k30 z23s z26s k26 k27 z16s z18s m24f1 m24f2 m24f3 m24f4 m25f1 m25f2 m25f3 m25f4 z20s z22s m27f1 m27f2 m27f3 m27f4 m28f1 m28f2 m28f3 m28f4 f30_0 f30_1 m15f1 m15f2 m15f3 m15f4 m17f1 m17f2 m17f3 m17f4 m19f1 m19f2 m19f3 m19f4 m21f1 m21f2 m21f3 m21f4
                · have k30 : ¬ ((r10 : Int) ≤ r12) := Zleqf h14 h16 g30
                  clear g30
                  refine ⟨fun g31 => ?_, fun g31 => ?_⟩
                  · have k31 : (m15 + m17 + (-1) * m19 + (-1) * m21 + r10 + (-1) * r12 : Int) ≤ 4000 := Zleqt h111 (Zc 4000) g31
                    clear g31
                    exact rfl
                  · have k31 : ¬ ((m15 + m17 + (-1) * m19 + (-1) * m21 + r10 + (-1) * r12 : Int) ≤ 4000) := Zleqf h111 (Zc 4000) g31
                    clear g31
                    exact rfl
              · have k29 : ¬ ((r12 : Int) ≤ (-1) * z26) := Zleqf h16 h109 g29
                clear g29
                have f29_0 := fw_f25 b_r12 b_z26 b_r4 b_m19 b_m27 k29 m19e m27e
                have f29_1 := fw_f26 b_r12 b_z26 b_r6 b_m21 b_m28 k29 m21e m28e
                exact fw_d7 b_m15 b_m17 b_m19 b_m21 b_m24 b_m25 b_m27 b_m28 b_r10 b_r12 b_r2 b_r4 b_r6 b_z16 b_z18 b_z20 b_z22 b_z23 b_z26 k29 z26s k26 k27 f29_0 f29_1 z20s z22s m27f1 m27f2 m27f3 m27f4 m28f1 m28f2 m28f3 m28f4 z16s z18s m19f1 m19f2 m19f3 m19f4 m21f1 m21f2 m21f3 m21f4 k28 m15f1 m15f2 m15f3 m15f4 m17f1 m17f2 m17f3 m17f4 z23s m24f1 m24f2 m24f3 m24f4 m25f1 m25f2 m25f3 m25f4
            · have k28 : ¬ ((z23 : Int) ≤ r10) := Zleqf h95 h14 g28
              clear g28
              have f28_0 := fw_f28 b_r10 b_z23 b_r4 b_m15 b_m24 k28 m15e m24e
              have f28_1 := fw_f29 b_r10 b_z23 b_r6 b_m17 b_m25 k28 m17e m25e
              exact fw_d8 b_m15 b_m17 b_m19 b_m21 b_m24 b_m25 b_r10 b_r12 b_r2 b_r4 b_r6 b_z16 b_z18 b_z20 b_z22 b_z23 k28 z23s k26 k27 f28_0 f28_1 z16s z18s m24f1 m24f2 m24f3 m24f4 m25f1 m25f2 m25f3 m25f4 z20s z22s m15f1 m15f2 m15f3 m15f4 m17f1 m17f2 m17f3 m17f4 m19f1 m19f2 m19f3 m19f4 m21f1 m21f2 m21f3 m21f4
      · have k24 : ¬ ((1 : Int) = u8) := Zeqlf (Zc 1) h12 g24
        clear g24
        exact fw_d9 b_u7 b_u8 b_x3 k17 k24 u8s u7s
    · have k17 : ¬ ((u8 : Int) ≤ 1) := Zleqf h12 (Zc 1) g17
      clear g17
      refine ⟨fun g18 => ?_, fun g18 => ?_⟩
      · have k18 : (u8 : Int) ≤ 2 := Zleqt h12 (Zc 2) g18
        clear g18
        refine ask_t (Pleq (Zc (-10000000)) h33 (fw_t16 b_z16)) ?_
        refine ask_t (Pleq h33 h43 (fw_t17 b_z16 b_z18)) ?_
        refine ⟨fun g21 => ?_, fun g21 => ?_⟩
        · have k21 : ((-1) * z18 + 500 : Int) ≤ r2 + z16 + 1500 := Zleqt h43 h119 g21
          clear g21
          refine ask_t (Pleq h119 h128 (fw_t39 b_r2 b_z16 b_z18)) ?_
          refine ask_t (Pleq h128 (Zc 10000000) (fw_t40 b_r2 b_z18)) ?_
          refine ask_t (Pleq (Zc (-10000000)) h52 (fw_t19 b_z20)) ?_
          refine ask_t (Pleq h52 h59 (fw_t20 b_z20 b_z22)) ?_
          refine ⟨fun g26 => ?_, fun g26 => ?_⟩
          · have k26 : (z22 + 500 : Int) ≤ r2 + (-1) * z20 + 1500 := Zleqt h59 h136 g26
            clear g26
            refine ask_t (Pleq h136 h142 (fw_t41 b_r2 b_z20 b_z22)) ?_
            refine ask_t (Pleq h142 (Zc 10000000) (fw_t42 b_r2 b_z22)) ?_
            refine ⟨fun g29 => ?_, fun g29 => ?_⟩
            · have k29 : (2 : Int) = u8 := Zeqlt (Zc 2) h12 g29
              clear g29
              refine ask_f (Neql h8 (Zc 0) (fw_t22 b_r4 b_r6)) ?_
              refine ⟨fun g31 => ?_, fun g31 => ?_⟩
              · have k31 : ((-1000) * z16 + (-1000) * z20 : Int) ≤ 1000 * z18 + 1000 * z22 := Zleqt h147 h152 g31
                clear g31
                refine ⟨fun g32 => ?_, fun g32 => ?_⟩
                · have k32 : (0 : Int) ≤ 1000 * z16 + 1000 * z18 + 1000 * z20 + 1000 * z22 := Zleqt (Zc 0) h153 g32
                  clear g32
                  refine ⟨fun g33 => ?_, fun g33 => ?_⟩
                  · have k33 : (z23 : Int) ≤ r10 := Zleqt h168 h14 g33
                    clear g33
                    refine ⟨fun g34 => ?_, fun g34 => ?_⟩
                    · have k34 : (r12 : Int) ≤ (-1) * z26 := Zleqt h16 h182 g34
                      clear g34
                      refine ⟨fun g35 => ?_, fun g35 => ?_⟩
                      · have k35 : (r10 : Int) ≤ r12 := Zleqt h14 h16 g35
                        clear g35
                        refine ⟨fun g36 => ?_, fun g36 => ?_⟩
                        · have k36 : (m15 + m17 + (-1) * m19 + (-1) * m21 + r10 + (-1) * r12 : Int) ≤ 4000 := Zleqt h111 (Zc 4000) g36
                          clear g36
                          exact rfl
                        · have k36 : ¬ ((m15 + m17 + (-1) * m19 + (-1) * m21 + r10 + (-1) * r12 : Int) ≤ 4000) := Zleqf h111 (Zc 4000) g36
                          clear g36
                          exact fw_d10 b_m15 b_m17 b_m19 b_m21 b_m24 b_m25 b_m27 b_m28 b_r10 b_r12 b_r2 b_r4 b_r6 b_z16 b_z18 b_z20 b_z22 b_z23 b_z26 k33 k34 k35 k36 m15f1 m15f2 m15f3 m15f4 m17f1 m17f2 m17f3 m17f4 m19f1 m19f2 m19f3 m19f4 m21f1 m21f2 m21f3 m21f4 z23s z26s k21 k26 k31 k32 z16s z18s m24f1 m24f2 m24f3 m24f4 m25f1 m25f2 m25f3 m25f4 z20s z22s m27f1 m27f2 m27f3 m27f4 m28f1 m28f2 m28f3 m28f4
                      · have k35 : ¬ ((r10 : Int) ≤ r12) := Zleqf h14 h16 g35
                        clear g35
                        refine ⟨fun g36 => ?_, fun g36 => ?_⟩
                        · have k36 : (m15 + m17 + (-1) * m19 + (-1) * m21 + r10 + (-1) * r12 : Int) ≤ 4000 := Zleqt h111 (Zc 4000) g36
                          clear g36
                          exact rfl
                        · have k36 : ¬ ((m15 + m17 + (-1) * m19 + (-1) * m21 + r10 + (-1) * r12 : Int) ≤ 4000) := Zleqf h111 (Zc 4000) g36
                          clear g36
                          exact fw_d11 b_m15 b_m17 b_m19 b_m21 b_m24 b_m25 b_m27 b_m28 b_r10 b_r12 b_r2 b_r4 b_r6 b_z16 b_z18 b_z20 b_z22 b_z23 b_z26 k33 k34 k35 k36 m15f1 m15f2 m15f3 m15f4 m17f1 m17f2 m17f3 m17f4 m19f1 m19f2 m19f3 m19f4 m21f1 m21f2 m21f3 m21f4 z23s z26s k21 k26 k31 k32 z16s z18s m24f1 m24f2 m24f3 m24f4 m25f1 m25f2 m25f3 m25f4 z20s z22s m27f1 m27f2 m27f3 m27f4 m28f1 m28f2 m28f3 m28f4
                    · have k34 : ¬ ((r12 : Int) ≤ (-1) * z26) := Zleqf h16 h182 g34
                      clear g34
                      have f34_0 := fw_f25 b_r12 b_z26 b_r4 b_m19 b_m27 k34 m19e m27e
                      have f34_1 := fw_f26 b_r12 b_z26 b_r6 b_m21 b_m28 k34 m21e m28e
                      exact fw_d12 b_m15 b_m17 b_m19 b_m21 b_m24 b_m25 b_m27 b_m28 b_r10 b_r12 b_r2 b_r4 b_r6 b_z16 b_z18 b_z20 b_z22 b_z23 b_z26 k34 z26s k21 k26 k31 k32 f34_0 f34_1 z20s z22s m27f1 m27f2 m27f3 m27f4 m28f1 m28f2 m28f3 m28f4 z18s z16s m19f1 m19f2 m19f3 m19f4 m21f1 m21f2 m21f3 m21f4 k33 m17f1 m17f2 m17f3 m17f4 m15f1 m15f2 m15f3 m15f4 z23s m24f1 m24f2 m24f3 m24f4 m25f1 m25f2 m25f3 m25f4
                  · have k33 : ¬ ((z23 : Int) ≤ r10) := Zleqf h168 h14 g33
                    clear g33
                    have f33_0 := fw_f28 b_r10 b_z23 b_r4 b_m15 b_m24 k33 m15e m24e
                    have f33_1 := fw_f29 b_r10 b_z23 b_r6 b_m17 b_m25 k33 m17e m25e
                    exact fw_d13 b_m15 b_m17 b_m19 b_m21 b_m24 b_m25 b_r10 b_r12 b_r2 b_r4 b_r6 b_z16 b_z18 b_z20 b_z22 b_z23 k33 z23s k21 k26 k31 k32 f33_0 f33_1 z16s z18s m24f1 m24f2 m24f3 m24f4 m25f1 m25f2 m25f3 m25f4 z22s z20s m15f1 m15f2 m15f3 m15f4 m17f1 m17f2 m17f3 m17f4 m21f1 m21f2 m21f3 m21f4 m19f1 m19f2 m19f3 m19f4
                · have k32 : ¬ ((0 : Int) ≤ 1000 * z16 + 1000 * z18 + 1000 * z20 + 1000 * z22) := Zleqf (Zc 0) h153 g32
                  clear g32
                  exact fw_d14 b_m15 b_m17 b_m19 b_m21 b_r10 b_r12 b_r2 b_r4 b_r6 b_z16 b_z18 b_z20 b_z22 k21 k26 k31 k32 z16s z18s z20s z22s m15f1 m15f2 m15f3 m15f4 m17f1 m17f2 m17f3 m17f4 m19f1 m19f2 m19f3 m19f4 m21f1 m21f2 m21f3 m21f4
              · have k31 : ¬ (((-1000) * z16 + (-1000) * z20 : Int) ≤ 1000 * z18 + 1000 * z22) := Zleqf h147 h152 g31
                clear g31
                refine ⟨fun g32 => ?_, fun g32 => ?_⟩
                · have k32 : (0 : Int) ≤ 1000 * z16 + 1000 * z18 + 1000 * z20 + 1000 * z22 := Zleqt (Zc 0) h153 g32
                  clear g32
                  exact fw_d15 b_m15 b_m17 b_m19 b_m21 b_r10 b_r12 b_r2 b_r4 b_r6 b_z16 b_z18 b_z20 b_z22 k21 k26 k31 k32 z16s z18s z20s z22s m15f1 m15f2 m15f3 m15f4 m17f1 m17f2 m17f3 m17f4 m19f1 m19f2 m19f3 m19f4 m21f1 m21f2 m21f3 m21f4
                · have k32 : ¬ ((0 : Int) ≤ 1000 * z16 + 1000 * z18 + 1000 * z20 + 1000 * z22) := Zleqf (Zc 0) h153 g32
                  clear g32
                  refine ⟨fun g33 => ?_, fun g33 => ?_⟩
                  · have k33 : (z23 : Int) ≤ r10 := Zleqt h168 h14 g33
                    clear g33
                    refine ⟨fun g34 => ?_, fun g34 => ?_⟩
                    · have k34 : (r12 : Int) ≤ (-1) * z26 := Zleqt h16 h182 g34
                      clear g34
                      refine ⟨fun g35 => ?_, fun g35 => ?_⟩
                      · have k35 : (r10 : Int) ≤ r12 := Zleqt h14 h16 g35
                        clear g35
                        have f35_0 := fw_f33 b_r10 b_r12 b_r4 b_m15 b_m19 k35 m15e m19e
                        have f35_1 := fw_f34 b_r10 b_r12 b_r6 b_m17 b_m21 k35 m17e m21e
                        exact fw_d16 b_m15 b_m17 b_m19 b_m21 b_m24 b_m25 b_m27 b_m28 b_r10 b_r12 b_r2 b_r4 b_r6 b_z16 b_z18 b_z20 b_z22 b_z23 b_z26 k33 k34 k35 z23s z26s k21 k26 k31 k32 z16s z18s m24f1 m24f2 m24f3 m24f4 m25f1 m25f2 m25f3 m25f4 z20s z22s m27f1 m27f2 m27f3 m27f4 m28f1 m28f2 m28f3 m28f4 f35_0 f35_1 m15f1 m15f2 m15f3 m15f4 m17f1 m17f2 m17f3 m17f4 m19f1 m19f2 m19f3 m19f4 m21f1 m21f2 m21f3 m21f4
                      · have k35 : ¬ ((r10 : Int) ≤ r12) := Zleqf h14 h16 g35
                        clear g35
                        refine ⟨fun g36 => ?_, fun g36 => ?_⟩
                        · have k36 : (m15 + m17 + (-1) * m19 + (-1) * m21 + r10 + (-1) * r12 : Int) ≤ 4000 := Zleqt h111 (Zc 4000) g36
                          clear g36
                          exact rfl
                        · have k36 : ¬ ((m15 + m17 + (-1) * m19 + (-1) * m21 + r10 + (-1) * r12 : Int) ≤ 4000) := Zleqf h111 (Zc 4000) g36
                          clear g36
                          exact rfl
                    · have k34 : ¬ ((r12 : Int) ≤ (-1) * z26) := Zleqf h16 h182 g34
                      clear g34
                      have f34_0 := fw_f25 b_r12 b_z26 b_r4 b_m19 b_m27 k34 m19e m27e
                      have f34_1 := fw_f26 b_r12 b_z26 b_r6 b_m21 b_m28 k34 m21e m28e
                      exact fw_d17 b_m15 b_m17 b_m19 b_m21 b_m24 b_m25 b_m27 b_m28 b_r10 b_r12 b_r2 b_r4 b_r6 b_z16 b_z18 b_z20 b_z22 b_z23 b_z26 k34 z26s k21 k26 k31 k32 f34_0 f34_1 z20s z22s m27f1 m27f2 m27f3 m27f4 m28f1 m28f2 m28f3 m28f4 z18s z16s m19f1 m19f2 m19f3 m19f4 m21f1 m21f2 m21f3 m21f4 k33 m17f1 m17f2 m17f3 m17f4 m15f1 m15f2 m15f3 m15f4 z23s m24f1 m24f2 m24f3 m24f4 m25f1 m25f2 m25f3 m25f4
                  · have k33 : ¬ ((z23 : Int) ≤ r10) := Zleqf h168 h14 g33
                    clear g33
                    have f33_0 := fw_f28 b_r10 b_z23 b_r4 b_m15 b_m24 k33 m15e m24e
                    have f33_1 := fw_f29 b_r10 b_z23 b_r6 b_m17 b_m25 k33 m17e m25e
                    exact fw_d18 b_m15 b_m17 b_m19 b_m21 b_m24 b_m25 b_r10 b_r12 b_r2 b_r4 b_r6 b_z16 b_z18 b_z20 b_z22 b_z23 k33 z23s k21 k26 k31 k32 f33_0 f33_1 z16s z18s m24f1 m24f2 m24f3 m24f4 m25f1 m25f2 m25f3 m25f4 z22s z20s m15f1 m15f2 m15f3 m15f4 m17f1 m17f2 m17f3 m17f4 m21f1 m21f2 m21f3 m21f4 m19f1 m19f2 m19f3 m19f4
            · have k29 : ¬ ((2 : Int) = u8) := Zeqlf (Zc 2) h12 g29
              clear g29
              exact fw_d19 b_u7 b_u8 b_x3 k17 k18 k29 u8s u7s
          · have k26 : ¬ ((z22 + 500 : Int) ≤ r2 + (-1) * z20 + 1500) := Zleqf h59 h136 g26
            clear g26
            exact fw_d20 b_m15 b_m17 b_m19 b_m21 b_r10 b_r12 b_r2 b_r4 b_r6 b_z16 b_z18 b_z20 b_z22 k21 k26 z22s z20s z18s z16s m21f1 m21f2 m21f3 m21f4 m19f1 m19f2 m19f3 m19f4 m17f1 m17f2 m17f3 m17f4 m15f1 m15f2 m15f3 m15f4
        · have k21 : ¬ (((-1) * z18 + 500 : Int) ≤ r2 + z16 + 1500) := Zleqf h43 h119 g21
          clear g21
          exact fw_d21 b_m15 b_m17 b_r10 b_r2 b_r4 b_r6 b_z16 b_z18 k21 z18s z16s m17f1 m17f2 m17f3 m17f4 m15f1 m15f2 m15f3 m15f4
      · have k18 : ¬ ((u8 : Int) ≤ 2) := Zleqf h12 (Zc 2) g18
        clear g18
        refine ⟨fun g19 => ?_, fun g19 => ?_⟩
        · have k19 : (u8 : Int) ≤ 3 := Zleqt h12 (Zc 3) g19
          clear g19
          refine ask_t (Pleq (Zc (-10000000)) h33 (fw_t16 b_z16)) ?_
          refine ask_t (Pleq h33 h43 (fw_t17 b_z16 b_z18)) ?_
          refine ⟨fun g22 => ?_, fun g22 => ?_⟩
          · have k22 : ((-1) * z18 + 500 : Int) ≤ r2 + z16 + 1500 := Zleqt h43 h119 g22
            clear g22
            refine ask_t (Pleq h119 h128 (fw_t39 b_r2 b_z16 b_z18)) ?_
            refine ⟨fun g24 => ?_, fun g24 => ?_⟩
            · have k24 : (r2 + (-1) * z18 + 2500 : Int) ≤ 2 * r2 + z16 + 3500 := Zleqt h128 h190 g24
              clear g24
              refine ask_t (Pleq h190 h199 (fw_t55 b_r2 b_z16 b_z18)) ?_
              refine ask_t (Pleq h199 (Zc 10000000) (fw_t56 b_r2 b_z18)) ?_
              refine ask_t (Pleq (Zc (-10000000)) h52 (fw_t19 b_z20)) ?_
              refine ask_t (Pleq h52 h59 (fw_t20 b_z20 b_z22)) ?_
              refine ⟨fun g29 => ?_, fun g29 => ?_⟩
              · have k29 : (z22 + 500 : Int) ≤ r2 + (-1) * z20 + 1500 := Zleqt h59 h136 g29
                clear g29
                refine ask_t (Pleq h136 h142 (fw_t41 b_r2 b_z20 b_z22)) ?_
                refine ⟨fun g31 => ?_, fun g31 => ?_⟩
                · have k31 : (r2 + z22 + 2500 : Int) ≤ 2 * r2 + (-1) * z20 + 3500 := Zleqt h142 h207 g31
                  clear g31
                  refine ask_t (Pleq h207 h213 (fw_t57 b_r2 b_z20 b_z22)) ?_
                  refine ask_t (Pleq h213 (Zc 10000000) (fw_t58 b_r2 b_z22)) ?_
                  refine ⟨fun g34 => ?_, fun g34 => ?_⟩
                  · have k34 : (3 : Int) = u8 := Zeqlt (Zc 3) h12 g34
                    clear g34
                    refine ask_f (Neql h8 (Zc 0) (fw_t22 b_r4 b_r6)) ?_
                    refine ⟨fun g36 => ?_, fun g36 => ?_⟩
                    · have k36 : ((-1000) * z16 + (-1000) * z20 : Int) ≤ 1000 * z18 + 1000 * z22 := Zleqt h218 h223 g36
                      clear g36
                      refine ⟨fun g37 => ?_, fun g37 => ?_⟩
                      · have k37 : (0 : Int) ≤ 1000 * z16 + 1000 * z18 + 1000 * z20 + 1000 * z22 := Zleqt (Zc 0) h224 g37
                        clear g37
                        refine ⟨fun g38 => ?_, fun g38 => ?_⟩
                        · have k38 : (z23 : Int) ≤ r10 := Zleqt h239 h14 g38
                          clear g38
                          refine ⟨fun g39 => ?_, fun g39 => ?_⟩
                          · have k39 : (r12 : Int) ≤ (-1) * z26 := Zleqt h16 h253 g39
                            clear g39
                            refine ⟨fun g40 => ?_, fun g40 => ?_⟩
                            · have k40 : (r10 : Int) ≤ r12 := Zleqt h14 h16 g40
                              clear g40
                              refine ⟨fun g41 => ?_, fun g41 => ?_⟩
                              · have k41 : (m15 + m17 + (-1) * m19 + (-1) * m21 + r10 + (-1) * r12 : Int) ≤ 4000 := Zleqt h111 (Zc 4000) g41
                                clear g41
                                exact rfl
                              · have k41 : ¬ ((m15 + m17 + (-1) * m19 + (-1) * m21 + r10 + (-1) * r12 : Int) ≤ 4000) := Zleqf h111 (Zc 4000) g41
                                clear g41
                                exact fw_d22 b_m15 b_m17 b_m19 b_m21 b_m24 b_m25 b_m27 b_m28 b_r10 b_r12 b_r2 b_r4 b_r6 b_z16 b_z18 b_z20 b_z22 b_z23 b_z26 k38 k39 k40 k41 m15f1 m15f2 m15f3 m15f4 m17f1 m17f2 m17f3 m17f4 m19f1 m19f2 m19f3 m19f4 m21f1 m21f2 m21f3 m21f4 z23s z26s k22 k24 k29 k31 k36 k37 z16s z18s m24f1 m24f2 m24f3 m24f4 m25f1 m25f2 m25f3 m25f4 z20s z22s m27f1 m27f2 m27f3 m27f4 m28f1 m28f2 m28f3 m28f4
                            · have k40 : ¬ ((r10 : Int) ≤ r12) := Zleqf h14 h16 g40
                              clear g40
                              refine ⟨fun g41 => ?_, fun g41 => ?_⟩
                              · have k41 : (m15 + m17 + (-1) * m19 + (-1) * m21 + r10 + (-1) * r12 : Int) ≤ 4000 := Zleqt h111 (Zc 4000) g41
                                clear g41
                                exact rfl
                              · have k41 : ¬ ((m15 + m17 + (-1) * m19 + (-1) * m21 + r10 + (-1) * r12 : Int) ≤ 4000) := Zleqf h111 (Zc 4000) g41
                                clear g41
                                exact fw_d23 b_m15 b_m17 b_m19 b_m21 b_m24 b_m25 b_m27 b_m28 b_r10 b_r12 b_r2 b_r4 b_r6 b_z16 b_z18 b_z20 b_z22 b_z23 b_z26 k38 k39 k40 k41 m15f1 m15f2 m15f3 m15f4 m17f1 m17f2 m17f3 m17f4 m19f1 m19f2 m19f3 m19f4 m21f1 m21f2 m21f3 m21f4 z23s z26s k22 k24 k29 k31 k36 k37 z16s z18s m24f1 m24f2 m24f3 m24f4 m25f1 m25f2 m25f3 m25f4 z20s z22s m27f1 m27f2 m27f3 m27f4 m28f1 m28f2 m28f3 m28f4
                          · have k39 : ¬ ((r12 : Int) ≤ (-1) * z26) := Zleqf h16 h253 g39
                            clear g39
                            have f39_0 := fw_f25 b_r12 b_z26 b_r4 b_m19 b_m27 k39 m19e m27e
                            have f39_1 := fw_f26 b_r12 b_z26 b_r6 b_m21 b_m28 k39 m21e m28e
                            exact fw_d24 b_m15 b_m17 b_m19 b_m21 b_m24 b_m25 b_m27 b_m28 b_r10 b_r12 b_r2 b_r4 b_r6 b_z16 b_z18 b_z20 b_z22 b_z23 b_z26 k39 z26s k22 k24 k29 k31 k36 k37 f39_0 f39_1 z20s z22s m27f1 m27f2 m27f3 m27f4 m28f1 m28f2 m28f3 m28f4 z18s z16s m19f1 m19f2 m19f3 m19f4 m21f1 m21f2 m21f3 m21f4 k38 m17f1 m17f2 m17f3 m17f4 m15f1 m15f2 m15f3 m15f4 z23s m24f1 m24f2 m24f3 m24f4 m25f1 m25f2 m25f3 m25f4
                        · have k38 : ¬ ((z23 : Int) ≤ r10) := Zleqf h239 h14 g38
                          clear g38
                          have f38_0 := fw_f28 b_r10 b_z23 b_r4 b_m15 b_m24 k38 m15e m24e
                          have f38_1 := fw_f29 b_r10 b_z23 b_r6 b_m17 b_m25 k38 m17e m25e
                          exact fw_d25 b_m15 b_m17 b_m19 b_m21 b_m24 b_m25 b_r10 b_r12 b_r2 b_r4 b_r6 b_z16 b_z18 b_z20 b_z22 b_z23 k38 z23s k22 k24 k29 k31 k36 k37 f38_0 f38_1 z16s z18s m24f1 m24f2 m24f3 m24f4 m25f1 m25f2 m25f3 m25f4 z22s z20s m15f1 m15f2 m15f3 m15f4 m17f1 m17f2 m17f3 m17f4 m21f1 m21f2 m21f3 m21f4 m19f1 m19f2 m19f3 m19f4
                      · have k37 : ¬ ((0 : Int) ≤ 1000 * z16 + 1000 * z18 + 1000 * z20 + 1000 * z22) := Zleqf (Zc 0) h224 g37
                        clear g37
                        exact fw_d26 b_m15 b_m17 b_m19 b_m21 b_r10 b_r12 b_r2 b_r4 b_r6 b_z16 b_z18 b_z20 b_z22 k22 k24 k29 k31 k36 k37 z16s z18s z20s z22s m15f1 m15f2 m15f3 m15f4 m17f1 m17f2 m17f3 m17f4 m19f1 m19f2 m19f3 m19f4 m21f1 m21f2 m21f3 m21f4
                    · have k36 : ¬ (((-1000) * z16 + (-1000) * z20 : Int) ≤ 1000 * z18 + 1000 * z22) := Zleqf h218 h223 g36
                      clear g36
                      refine ⟨fun g37 => ?_, fun g37 => ?_⟩
                      · have k37 : (0 : Int) ≤ 1000 * z16 + 1000 * z18 + 1000 * z20 + 1000 * z22 := Zleqt (Zc 0) h224 g37
                        clear g37
                        exact fw_d27 b_m15 b_m17 b_m19 b_m21 b_r10 b_r12 b_r2 b_r4 b_r6 b_z16 b_z18 b_z20 b_z22 k22 k24 k29 k31 k36 k37 z16s z18s z20s z22s m15f1 m15f2 m15f3 m15f4 m17f1 m17f2 m17f3 m17f4 m19f1 m19f2 m19f3 m19f4 m21f1 m21f2 m21f3 m21f4
                      · have k37 : ¬ ((0 : Int) ≤ 1000 * z16 + 1000 * z18 + 1000 * z20 + 1000 * z22) := Zleqf (Zc 0) h224 g37
                        clear g37
                        refine ⟨fun g38 => ?_, fun g38 => ?_⟩
                        · have k38 : (z23 : Int) ≤ r10 := Zleqt h239 h14 g38
                          clear g38
                          refine ⟨fun g39 => ?_, fun g39 => ?_⟩
                          · have k39 : (r12 : Int) ≤ (-1) * z26 := Zleqt h16 h253 g39
                            clear g39
                            refine ⟨fun g40 => ?_, fun g40 => ?_⟩
                            · have k40 : (r10 : Int) ≤ r12 := Zleqt h14 h16 g40
                              clear g40
                              have f40_0 := fw_f33 b_r10 b_r12 b_r4 b_m15 b_m19 k40 m15e m19e
                              have f40_1 := fw_f34 b_r10 b_r12 b_r6 b_m17 b_m21 k40 m17e m21e
                              exact fw_d28 b_m15 b_m17 b_m19 b_m21 b_m24 b_m25 b_m27 b_m28 b_r10 b_r12 b_r2 b_r4 b_r6 b_z16 b_z18 b_z20 b_z22 b_z23 b_z26 k38 k39 k40 z23s z26s k22 k24 k29 k31 k36 k37 z16s z18s m24f1 m24f2 m24f3 m24f4 m25f1 m25f2 m25f3 m25f4 z20s z22s m27f1 m27f2 m27f3 m27f4 m28f1 m28f2 m28f3 m28f4 f40_0 f40_1 m15f1 m15f2 m15f3 m15f4 m17f1 m17f2 m17f3 m17f4 m19f1 m19f2 m19f3 m19f4 m21f1 m21f2 m21f3 m21f4
                            · have k40 : ¬ ((r10 : Int) ≤ r12) := Zleqf h14 h16 g40
                              clear g40
                              refine ⟨fun g41 => ?_, fun g41 => ?_⟩
                              · have k41 : (m15 + m17 + (-1) * m19 + (-1) * m21 + r10 + (-1) * r12 : Int) ≤ 4000 := Zleqt h111 (Zc 4000) g41
                                clear g41
                                exact rfl
                              · have k41 : ¬ ((m15 + m17 + (-1) * m19 + (-1) * m21 + r10 + (-1) * r12 : Int) ≤ 4000) := Zleqf h111 (Zc 4000) g41
                                clear g41
                                exact rfl
                          · have k39 : ¬ ((r12 : Int) ≤ (-1) * z26) := Zleqf h16 h253 g39
                            clear g39
                            have f39_0 := fw_f25 b_r12 b_z26 b_r4 b_m19 b_m27 k39 m19e m27e
                            have f39_1 := fw_f26 b_r12 b_z26 b_r6 b_m21 b_m28 k39 m21e m28e
                            exact fw_d29 b_m15 b_m17 b_m19 b_m21 b_m24 b_m25 b_m27 b_m28 b_r10 b_r12 b_r2 b_r4 b_r6 b_z16 b_z18 b_z20 b_z22 b_z23 b_z26 k39 z26s k22 k24 k29 k31 k36 k37 f39_0 f39_1 z20s z22s m27f1 m27f2 m27f3 m27f4 m28f1 m28f2 m28f3 m28f4 z18s z16s m19f1 m19f2 m19f3 m19f4 m21f1 m21f2 m21f3 m21f4 k38 m17f1 m17f2 m17f3 m17f4 m15f1 m15f2 m15f3 m15f4 z23s m24f1 m24f2 m24f3 m24f4 m25f1 m25f2 m25f3 m25f4
                        · have k38 : ¬ ((z23 : Int) ≤ r10) := Zleqf h239 h14 g38
                          clear g38
                          have f38_0 := fw_f28 b_r10 b_z23 b_r4 b_m15 b_m24 k38 m15e m24e
                          have f38_1 := fw_f29 b_r10 b_z23 b_r6 b_m17 b_m25 k38 m17e m25e
                          exact fw_d30 b_m15 b_m17 b_m19 b_m21 b_m24 b_m25 b_r10 b_r12 b_r2 b_r4 b_r6 b_z16 b_z18 b_z20 b_z22 b_z23 k38 z23s k22 k24 k29 k31 k36 k37 f38_0 f38_1 z16s z18s m24f1 m24f2 m24f3 m24f4 m25f1 m25f2 m25f3 m25f4 z22s z20s m15f1 m15f2 m15f3 m15f4 m17f1 m17f2 m17f3 m17f4 m21f1 m21f2 m21f3 m21f4 m19f1 m19f2 m19f3 m19f4
                  · have k34 : ¬ ((3 : Int) = u8) := Zeqlf (Zc 3) h12 g34
                    clear g34
                    exact fw_d31 b_u7 b_u8 b_x3 k17 k18 k19 k34 u8s u7s
                · have k31 : ¬ ((r2 + z22 + 2500 : Int) ≤ 2 * r2 + (-1) * z20 + 3500) := Zleqf h142 h207 g31
                  clear g31
                  exact fw_d32 b_m15 b_m17 b_m19 b_m21 b_r10 b_r12 b_r2 b_r4 b_r6 b_z16 b_z18 b_z20 b_z22 k22 k24 k29 k31 z22s z20s z18s z16s m21f1 m21f2 m21f3 m21f4 m19f1 m19f2 m19f3 m19f4 m17f1 m17f2 m17f3 m17f4 m15f1 m15f2 m15f3 m15f4
              · have k29 : ¬ ((z22 + 500 : Int) ≤ r2 + (-1) * z20 + 1500) := Zleqf h59 h136 g29
                clear g29
                exact fw_d33 b_m15 b_m17 b_m19 b_m21 b_r10 b_r12 b_r2 b_r4 b_r6 b_z16 b_z18 b_z20 b_z22 k22 k24 k29 z22s z20s z18s z16s m21f1 m21f2 m21f3 m21f4 m19f1 m19f2 m19f3 m19f4 m17f1 m17f2 m17f3 m17f4 m15f1 m15f2 m15f3 m15f4
            · have k24 : ¬ ((r2 + (-1) * z18 + 2500 : Int) ≤ 2 * r2 + z16 + 3500) := Zleqf h128 h190 g24
              clear g24
              exact fw_d34 b_m15 b_m17 b_r10 b_r2 b_r4 b_r6 b_z16 b_z18 k22 k24 z18s z16s m17f1 m17f2 m17f3 m17f4 m15f1 m15f2 m15f3 m15f4
          · have k22 : ¬ (((-1) * z18 + 500 : Int) ≤ r2 + z16 + 1500) := Zleqf h43 h119 g22
            clear g22
            exact fw_d21 b_m15 b_m17 b_r10 b_r2 b_r4 b_r6 b_z16 b_z18 k22 z18s z16s m17f1 m17f2 m17f3 m17f4 m15f1 m15f2 m15f3 m15f4
        · have k19 : ¬ ((u8 : Int) ≤ 3) := Zleqf h12 (Zc 3) g19
          clear g19
          refine ⟨fun g20 => ?_, fun g20 => ?_⟩
          · have k20 : (u8 : Int) ≤ 4 := Zleqt h12 (Zc 4) g20
            clear g20
            refine ask_t (Pleq (Zc (-10000000)) h33 (fw_t16 b_z16)) ?_
            refine ask_t (Pleq h33 h43 (fw_t17 b_z16 b_z18)) ?_
            refine ⟨fun g23 => ?_, fun g23 => ?_⟩
            · have k23 : ((-1) * z18 + 500 : Int) ≤ r2 + z16 + 1500 := Zleqt h43 h119 g23
              clear g23
              refine ask_t (Pleq h119 h128 (fw_t39 b_r2 b_z16 b_z18)) ?_
              refine ⟨fun g25 => ?_, fun g25 => ?_⟩
              · have k25 : (r2 + (-1) * z18 + 2500 : Int) ≤ 2 * r2 + z16 + 3500 := Zleqt h128 h190 g25
                clear g25
                refine ask_t (Pleq h190 h199 (fw_t55 b_r2 b_z16 b_z18)) ?_
                refine ⟨fun g27 => ?_, fun g27 => ?_⟩
                · have k27 : (2 * r2 + (-1) * z18 + 4500 : Int) ≤ 3 * r2 + z16 + 5500 := Zleqt h199 h261 g27
                  clear g27
                  refine ask_t (Pleq h261 h270 (fw_t72 b_r2 b_z16 b_z18)) ?_
                  refine ask_t (Pleq h270 (Zc 10000000) (fw_t73 b_r2 b_z18)) ?_
                  refine ask_t (Pleq (Zc (-10000000)) h52 (fw_t19 b_z20)) ?_
                  refine ask_t (Pleq h52 h59 (fw_t20 b_z20 b_z22)) ?_
                  refine ⟨fun g32 => ?_, fun g32 => ?_⟩
                  · have k32 : (z22 + 500 : Int) ≤ r2 + (-1) * z20 + 1500 := Zleqt h59 h136 g32
                    clear g32
                    refine ask_t (Pleq h136 h142 (fw_t41 b_r2 b_z20 b_z22)) ?_
                    refine ⟨fun g34 => ?_, fun g34 => ?_⟩
                    · have k34 : (r2 + z22 + 2500 : Int) ≤ 2 * r2 + (-1) * z20 + 3500 := Zleqt h142 h207 g34
                      clear g34
                      refine ask_t (Pleq h207 h213 (fw_t57 b_r2 b_z20 b_z22)) ?_
                      refine ⟨fun g36 => ?_, fun g36 => ?_⟩
                      · have k36 : (2 * r2 + z22 + 4500 : Int) ≤ 3 * r2 + (-1) * z20 + 5500 := Zleqt h213 h278 g36
                        clear g36
                        refine ask_t (Pleq h278 h284 (fw_t74 b_r2 b_z20 b_z22)) ?_
                        refine ask_t (Pleq h284 (Zc 10000000) (fw_t75 b_r2 b_z22)) ?_
                        refine ⟨fun g39 => ?_, fun g39 => ?_⟩
                        · have k39 : (4 : Int) = u8 := Zeqlt (Zc 4) h12 g39
                          clear g39
                          refine ask_f (Neql h8 (Zc 0) (fw_t22 b_r4 b_r6)) ?_
                          refine ⟨fun g41 => ?_, fun g41 => ?_⟩
                          · have k41 : ((-1000) * z16 + (-1000) * z20 : Int) ≤ 1000 * z18 + 1000 * z22 := Zleqt h289 h294 g41
                            clear g41
                            refine ⟨fun g42 => ?_, fun g42 => ?_⟩
                            · have k42 : (0 : Int) ≤ 1000 * z16 + 1000 * z18 + 1000 * z20 + 1000 * z22 := Zleqt (Zc 0) h295 g42
                              clear g42
                              refine ⟨fun g43 => ?_, fun g43 => ?_⟩
                              · have k43 : (z23 : Int) ≤ r10 := Zleqt h310 h14 g43
                                clear g43
                                refine ⟨fun g44 => ?_, fun g44 => ?_⟩
                                · have k44 : (r12 : Int) ≤ (-1) * z26 := Zleqt h16 h324 g44
                                  clear g44
                                  refine ⟨fun g45 => ?_, fun g45 => ?_⟩
                                  · have k45 : (r10 : Int) ≤ r12 := Zleqt h14 h16 g45
                                    clear g45
                                    refine ⟨fun g46 => ?_, fun g46 => ?_⟩
                                    · have k46 : (m15 + m17 + (-1) * m19 + (-1) * m21 + r10 + (-1) * r12 : Int) ≤ 4000 := Zleqt h111 (Zc 4000) g46
                                      clear g46
                                      exact rfl
                                    · have k46 : ¬ ((m15 + m17 + (-1) * m19 + (-1) * m21 + r10 + (-1) * r12 : Int) ≤ 4000) := Zleqf h111 (Zc 4000) g46
                                      clear g46
                                      exact fw_d35 b_m15 b_m17 b_m19 b_m21 b_m24 b_m25 b_m27 b_m28 b_r10 b_r12 b_r2 b_r4 b_r6 b_z16 b_z18 b_z20 b_z22 b_z23 b_z26 k43 k44 k45 k46 m15f1 m15f2 m15f3 m15f4 m17f1 m17f2 m17f3 m17f4 m19f1 m19f2 m19f3 m19f4 m21f1 m21f2 m21f3 m21f4 z23s z26s k23 k25 k27 k32 k34 k36 k41 k42 z16s z18s m24f1 m24f2 m24f3 m24f4 m25f1 m25f2 m25f3 m25f4 z20s z22s m27f1 m27f2 m27f3 m27f4 m28f1 m28f2 m28f3 m28f4
                                  · have k45 : ¬ ((r10 : Int) ≤ r12) := Zleqf h14 h16 g45
                                    clear g45
                                    refine ⟨fun g46 => ?_, fun g46 => ?_⟩
                                    · have k46 : (m15 + m17 + (-1) * m19 + (-1) * m21 + r10 + (-1) * r12 : Int) ≤ 4000 := Zleqt h111 (Zc 4000) g46
                                      clear g46
                                      exact rfl
                                    · have k46 : ¬ ((m15 + m17 + (-1) * m19 + (-1) * m21 + r10 + (-1) * r12 : Int) ≤ 4000) := Zleqf h111 (Zc 4000) g46
                                      clear g46
                                      exact fw_d36 b_m15 b_m17 b_m19 b_m21 b_m24 b_m25 b_m27 b_m28 b_r10 b_r12 b_r2 b_r4 b_r6 b_z16 b_z18 b_z20 b_z22 b_z23 b_z26 k43 k44 k45 k46 m15f1 m15f2 m15f3 m15f4 m17f1 m17f2 m17f3 m17f4 m19f1 m19f2 m19f3 m19f4 m21f1 m21f2 m21f3 m21f4 z23s z26s k23 k25 k27 k32 k34 k36 k41 k42 z16s z18s m24f1 m24f2 m24f3 m24f4 m25f1 m25f2 m25f3 m25f4 z20s z22s m27f1 m27f2 m27f3 m27f4 m28f1 m28f2 m28f3 m28f4
                                · have k44 : ¬ ((r12 : Int) ≤ (-1) * z26) := Zleqf h16 h324 g44
                                  clear g44
                                  have f44_0 := fw_f25 b_r12 b_z26 b_r4 b_m19 b_m27 k44 m19e m27e
                                  have f44_1 := fw_f26 b_r12 b_z26 b_r6 b_m21 b_m28 k44 m21e m28e
                                  exact fw_d37 b_m15 b_m17 b_m19 b_m21 b_m24 b_m25 b_m27 b_m28 b_r10 b_r12 b_r2 b_r4 b_r6 b_z16 b_z18 b_z20 b_z22 b_z23 b_z26 k44 z26s k23 k25 k27 k32 k34 k36 k41 k42 f44_0 f44_1 z20s z22s m27f1 m27f2 m27f3 m27f4 m28f1 m28f2 m28f3 m28f4 z18s z16s m19f1 m19f2 m19f3 m19f4 m21f1 m21f2 m21f3 m21f4 k43 m17f1 m17f2 m17f3 m17f4 m15f1 m15f2 m15f3 m15f4 z23s m24f1 m24f2 m24f3 m24f4 m25f1 m25f2 m25f3 m25f4
                              · have k43 : ¬ ((z23 : Int) ≤ r10) := Zleqf h310 h14 g43
                                clear g43
                                have f43_0 := fw_f28 b_r10 b_z23 b_r4 b_m15 b_m24 k43 m15e m24e
                                have f43_1 := fw_f29 b_r10 b_z23 b_r6 b_m17 b_m25 k43 m17e m25e
                                exact fw_d38 b_m15 b_m17 b_m19 b_m21 b_m24 b_m25 b_r10 b_r12 b_r2 b_r4 b_r6 b_z16 b_z18 b_z20 b_z22 b_z23 k43 z23s k23 k25 k27 k32 k34 k36 k41 k42 f43_0 f43_1 z16s z18s m24f1 m24f2 m24f3 m24f4 m25f1 m25f2 m25f3 m25f4 z22s z20s m15f1 m15f2 m15f3 m15f4 m17f1 m17f2 m17f3 m17f4 m21f1 m21f2 m21f3 m21f4 m19f1 m19f2 m19f3 m19f4
                            · have k42 : ¬ ((0 : Int) ≤ 1000 * z16 + 1000 * z18 + 1000 * z20 + 1000 * z22) := Zleqf (Zc 0) h295 g42
                              clear g42
                              exact fw_d39 b_m15 b_m17 b_m19 b_m21 b_r10 b_r12 b_r2 b_r4 b_r6 b_z16 b_z18 b_z20 b_z22 k23 k25 k27 k32 k34 k36 k41 k42 z16s z18s z20s z22s m15f1 m15f2 m15f3 m15f4 m17f1 m17f2 m17f3 m17f4 m19f1 m19f2 m19f3 m19f4 m21f1 m21f2 m21f3 m21f4
                          · have k41 : ¬ (((-1000) * z16 + (-1000) * z20 : Int) ≤ 1000 * z18 + 1000 * z22) := Zleqf h289 h294 g41
                            clear g41
                            refine ⟨fun g42 => ?_, fun g42 => ?_⟩
                            · have k42 : (0 : Int) ≤ 1000 * z16 + 1000 * z18 + 1000 * z20 + 1000 * z22 := Zleqt (Zc 0) h295 g42
                              clear g42
                              exact fw_d40 b_m15 b_m17 b_m19 b_m21 b_r10 b_r12 b_r2 b_r4 b_r6 b_z16 b_z18 b_z20 b_z22 k23 k25 k27 k32 k34 k36 k41 k42 z16s z18s z20s z22s m15f1 m15f2 m15f3 m15f4 m17f1 m17f2 m17f3 m17f4 m19f1 m19f2 m19f3 m19f4 m21f1 m21f2 m21f3 m21f4
                            · have k42 : ¬ ((0 : Int) ≤ 1000 * z16 + 1000 * z18 + 1000 * z20 + 1000 * z22) := Zleqf (Zc 0) h295 g42
                              clear g42
                              refine ⟨fun g43 => ?_, fun g43 => ?_⟩
                              · have k43 : (z23 : Int) ≤ r10 := Zleqt h310 h14 g43
                                clear g43
                                refine ⟨fun g44 => ?_, fun g44 => ?_⟩
                                · have k44 : (r12 : Int) ≤ (-1) * z26 := Zleqt h16 h324 g44
                                  clear g44
                                  refine ⟨fun g45 => ?_, fun g45 => ?_⟩
                                  · have k45 : (r10 : Int) ≤ r12 := Zleqt h14 h16 g45
                                    clear g45
                                    have f45_0 := fw_f33 b_r10 b_r12 b_r4 b_m15 b_m19 k45 m15e m19e
                                    have f45_1 := fw_f34 b_r10 b_r12 b_r6 b_m17 b_m21 k45 m17e m21e
                                    exact fw_d41 b_m15 b_m17 b_m19 b_m21 b_m24 b_m25 b_m27 b_m28 b_r10 b_r12 b_r2 b_r4 b_r6 b_z16 b_z18 b_z20 b_z22 b_z23 b_z26 k43 k44 k45 z23s z26s k23 k25 k27 k32 k34 k36 k41 k42 z16s z18s m24f1 m24f2 m24f3 m24f4 m25f1 m25f2 m25f3 m25f4 z20s z22s m27f1 m27f2 m27f3 m27f4 m28f1 m28f2 m28f3 m28f4 f45_0 f45_1 m15f1 m15f2 m15f3 m15f4 m17f1 m17f2 m17f3 m17f4 m19f1 m19f2 m19f3 m19f4 m21f1 m21f2 m21f3 m21f4
                                  · have k45 : ¬ ((r10 : Int) ≤ r12) := Zleqf h14 h16 g45
                                    clear g45
                                    refine ⟨fun g46 => ?_, fun g46 => ?_⟩
                                    · have k46 : (m15 + m17 + (-1) * m19 + (-1) * m21 + r10 + (-1) * r12 : Int) ≤ 4000 := Zleqt h111 (Zc 4000) g46
                                      clear g46
                                      exact rfl
                                    · have k46 : ¬ ((m15 + m17 + (-1) * m19 + (-1) * m21 + r10 + (-1) * r12 : Int) ≤ 4000) := Zleqf h111 (Zc 4000) g46
                                      clear g46
                                      exact rfl
                                · have k44 : ¬ ((r12 : Int) ≤ (-1) * z26) := Zleqf h16 h324 g44
                                  clear g44
                                  have f44_0 := fw_f25 b_r12 b_z26 b_r4 b_m19 b_m27 k44 m19e m27e
                                  have f44_1 := fw_f26 b_r12 b_z26 b_r6 b_m21 b_m28 k44 m21e m28e
                                  exact fw_d42 b_m15 b_m17 b_m19 b_m21 b_m24 b_m25 b_m27 b_m28 b_r10 b_r12 b_r2 b_r4 b_r6 b_z16 b_z18 b_z20 b_z22 b_z23 b_z26 k44 z26s k23 k25 k27 k32 k34 k36 k41 k42 f44_0 f44_1 z20s z22s m27f1 m27f2 m27f3 m27f4 m28f1 m28f2 m28f3 m28f4 z18s z16s m19f1 m19f2 m19f3 m19f4 m21f1 m21f2 m21f3 m21f4 k43 m17f1 m17f2 m17f3 m17f4 m15f1 m15f2 m15f3 m15f4 z23s m24f1 m24f2 m24f3 m24f4 m25f1 m25f2 m25f3 m25f4
                              · have k43 : ¬ ((z23 : Int) ≤ r10) := Zleqf h310 h14 g43
                                clear g43
                                have f43_0 := fw_f28 b_r10 b_z23 b_r4 b_m15 b_m24 k43 m15e m24e
                                have f43_1 := fw_f29 b_r10 b_z23 b_r6 b_m17 b_m25 k43 m17e m25e
                                exact fw_d43 b_m15 b_m17 b_m19 b_m21 b_m24 b_m25 b_r10 b_r12 b_r2 b_r4 b_r6 b_z16 b_z18 b_z20 b_z22 b_z23 k43 z23s k23 k25 k27 k32 k34 k36 k41 k42 f43_0 f43_1 z16s z18s m24f1 m24f2 m24f3 m24f4 m25f1 m25f2 m25f3 m25f4 z22s z20s m15f1 m15f2 m15f3 m15f4 m17f1 m17f2 m17f3 m17f4 m21f1 m21f2 m21f3 m21f4 m19f1 m19f2 m19f3 m19f4
                        · have k39 : ¬ ((4 : Int) = u8) := Zeqlf (Zc 4) h12 g39
                          clear g39
                          exact fw_d44 b_u7 b_u8 b_x3 k17 k18 k19 k20 k39 u8s u7s
                      · have k36 : ¬ ((2 * r2 + z22 + 4500 : Int) ≤ 3 * r2 + (-1) * z20 + 5500) := Zleqf h213 h278 g36
                        clear g36
                        exact fw_d45 b_m15 b_m17 b_m19 b_m21 b_r10 b_r12 b_r2 b_r4 b_r6 b_z16 b_z18 b_z20 b_z22 k23 k25 k27 k32 k34 k36 z22s z20s z18s z16s m21f1 m21f2 m21f3 m21f4 m19f1 m19f2 m19f3 m19f4 m17f1 m17f2 m17f3 m17f4 m15f1 m15f2 m15f3 m15f4
                    · have k34 : ¬ ((r2 + z22 + 2500 : Int) ≤ 2 * r2 + (-1) * z20 + 3500) := Zleqf h142 h207 g34
                      clear g34
                      exact fw_d46 b_m15 b_m17 b_m19 b_m21 b_r10 b_r12 b_r2 b_r4 b_r6 b_z16 b_z18 b_z20 b_z22 k23 k25 k27 k32 k34 z22s z20s z18s z16s m21f1 m21f2 m21f3 m21f4 m19f1 m19f2 m19f3 m19f4 m17f1 m17f2 m17f3 m17f4 m15f1 m15f2 m15f3 m15f4
                  · have k32 : ¬ ((z22 + 500 : Int) ≤ r2 + (-1) * z20 + 1500) := Zleqf h59 h136 g32
                    clear g32
                    exact fw_d47 b_m15 b_m17 b_m19 b_m21 b_r10 b_r12 b_r2 b_r4 b_r6 b_z16 b_z18 b_z20 b_z22 k23 k25 k27 k32 z22s z20s z18s z16s m21f1 m21f2 m21f3 m21f4 m19f1 m19f2 m19f3 m19f4 m17f1 m17f2 m17f3 m17f4 m15f1 m15f2 m15f3 m15f4
                · have k27 : ¬ ((2 * r2 + (-1) * z18 + 4500 : Int) ≤ 3 * r2 + z16 + 5500) := Zleqf h199 h261 g27
                  clear g27
                  exact fw_d48 b_m15 b_m17 b_r10 b_r2 b_r4 b_r6 b_z16 b_z18 k23 k25 k27 z18s z16s m17f1 m17f2 m17f3 m17f4 m15f1 m15f2 m15f3 m15f4
              · have k25 : ¬ ((r2 + (-1) * z18 + 2500 : Int) ≤ 2 * r2 + z16 + 3500) := Zleqf h128 h190 g25
                clear g25
                exact fw_d34 b_m15 b_m17 b_r10 b_r2 b_r4 b_r6 b_z16 b_z18 k23 k25 z18s z16s m17f1 m17f2 m17f3 m17f4 m15f1 m15f2 m15f3 m15f4
            · have k23 : ¬ (((-1) * z18 + 500 : Int) ≤ r2 + z16 + 1500) := Zleqf h43 h119 g23
              clear g23
              exact fw_d21 b_m15 b_m17 b_r10 b_r2 b_r4 b_r6 b_z16 b_z18 k23 z18s z16s m17f1 m17f2 m17f3 m17f4 m15f1 m15f2 m15f3 m15f4
          · have k20 : ¬ ((u8 : Int) ≤ 4) := Zleqf h12 (Zc 4) g20
            clear g20
            refine ⟨fun g21 => ?_, fun g21 => ?_⟩
            · have k21 : (u8 : Int) ≤ 5 := Zleqt h12 (Zc 5) g21
              clear g21
              refine ask_t (Pleq (Zc (-10000000)) h33 (fw_t16 b_z16)) ?_
              refine ask_t (Pleq h33 h43 (fw_t17 b_z16 b_z18)) ?_
              refine ⟨fun g24 => ?_, fun g24 => ?_⟩
              · have k24 : ((-1) * z18 + 500 : Int) ≤ r2 + z16 + 1500 := Zleqt h43 h119 g24
                clear g24
                refine ask_t (Pleq h119 h128 (fw_t39 b_r2 b_z16 b_z18)) ?_
                refine ⟨fun g26 => ?_, fun g26 => ?_⟩
                · have k26 : (r2 + (-1) * z18 + 2500 : Int) ≤ 2 * r2 + z16 + 3500 := Zleqt h128 h190 g26
                  clear g26
                  refine ask_t (Pleq h190 h199 (fw_t55 b_r2 b_z16 b_z18)) ?_
                  refine ⟨fun g28 => ?_, fun g28 => ?_⟩
                  · have k28 : (2 * r2 + (-1) * z18 + 4500 : Int) ≤ 3 * r2 + z16 + 5500 := Zleqt h199 h261 g28
                    clear g28
                    refine ask_t (Pleq h261 h270 (fw_t72 b_r2 b_z16 b_z18)) ?_
                    refine ⟨fun g30 => ?_, fun g30 => ?_⟩
                    · have k30 : (3 * r2 + (-1) * z18 + 6500 : Int) ≤ 4 * r2 + z16 + 7500 := Zleqt h270 h332 g30
                      clear g30
                      refine ask_t (Pleq h332 h341 (fw_t90 b_r2 b_z16 b_z18)) ?_
                      refine ask_t (Pleq h341 (Zc 10000000) (fw_t91 b_r2 b_z18)) ?_
                      refine ask_t (Pleq (Zc (-10000000)) h52 (fw_t19 b_z20)) ?_
                      refine ask_t (Pleq h52 h59 (fw_t20 b_z20 b_z22)) ?_
                      refine ⟨fun g35 => ?_, fun g35 => ?_⟩
                      · have k35 : (z22 + 500 : Int) ≤ r2 + (-1) * z20 + 1500 := Zleqt h59 h136 g35
                        clear g35
                        refine ask_t (Pleq h136 h142 (fw_t41 b_r2 b_z20 b_z22)) ?_
                        refine ⟨fun g37 => ?_, fun g37 => ?_⟩
                        · have k37 : (r2 + z22 + 2500 : Int) ≤ 2 * r2 + (-1) * z20 + 3500 := Zleqt h142 h207 g37
                          clear g37
                          refine ask_t (Pleq h207 h213 (fw_t57 b_r2 b_z20 b_z22)) ?_
                          refine ⟨fun g39 => ?_, fun g39 => ?_⟩
                          · have k39 : (2 * r2 + z22 + 4500 : Int) ≤ 3 * r2 + (-1) * z20 + 5500 := Zleqt h213 h278 g39
                            clear g39
                            refine ask_t (Pleq h278 h284 (fw_t74 b_r2 b_z20 b_z22)) ?_
                            refine ⟨fun g41 => ?_, fun g41 => ?_⟩
                            · have k41 : (3 * r2 + z22 + 6500 : Int) ≤ 4 * r2 + (-1) * z20 + 7500 := Zleqt h284 h349 g41
                              clear g41
                              refine ask_t (Pleq h349 h355 (fw_t92 b_r2 b_z20 b_z22)) ?_
                              refine ask_t (Pleq h355 (Zc 10000000) (fw_t93 b_r2 b_z22)) ?_
                              refine ⟨fun g44 => ?_, fun g44 => ?_⟩
                              · have k44 : (5 : Int) = u8 := Zeqlt (Zc 5) h12 g44
                                clear g44
                                refine ask_f (Neql h8 (Zc 0) (fw_t22 b_r4 b_r6)) ?_
                                refine ⟨fun g46 => ?_, fun g46 => ?_⟩
                                · have k46 : ((-1000) * z16 + (-1000) * z20 : Int) ≤ 1000 * z18 + 1000 * z22 := Zleqt h360 h365 g46
                                  clear g46
                                  refine ⟨fun g47 => ?_, fun g47 => ?_⟩
                                  · have k47 : (0 : Int) ≤ 1000 * z16 + 1000 * z18 + 1000 * z20 + 1000 * z22 := Zleqt (Zc 0) h366 g47
                                    clear g47
                                    refine ⟨fun g48 => ?_, fun g48 => ?_⟩
                                    · have k48 : (z23 : Int) ≤ r10 := Zleqt h381 h14 g48
                                      clear g48
                                      refine ⟨fun g49 => ?_, fun g49 => ?_⟩
                                      · have k49 : (r12 : Int) ≤ (-1) * z26 := Zleqt h16 h395 g49
                                        clear g49
                                        refine ⟨fun g50 => ?_, fun g50 => ?_⟩
                                        · have k50 : (r10 : Int) ≤ r12 := Zleqt h14 h16 g50
                                          clear g50
                                          refine ⟨fun g51 => ?_, fun g51 => ?_⟩
                                          · have k51 : (m15 + m17 + (-1) * m19 + (-1) * m21 + r10 + (-1) * r12 : Int) ≤ 4000 := Zleqt h111 (Zc 4000) g51
                                            clear g51
                                            exact rfl
                                          · have k51 : ¬ ((m15 + m17 + (-1) * m19 + (-1) * m21 + r10 + (-1) * r12 : Int) ≤ 4000) := Zleqf h111 (Zc 4000) g51
                                            clear g51
                                            exact fw_d49 b_m15 b_m17 b_m19 b_m21 b_m24 b_m25 b_m27 b_m28 b_r10 b_r12 b_r2 b_r4 b_r6 b_z16 b_z18 b_z20 b_z22 b_z23 b_z26 k48 k49 k50 k51 m15f1 m15f2 m15f3 m15f4 m17f1 m17f2 m17f3 m17f4 m19f1 m19f2 m19f3 m19f4 m21f1 m21f2 m21f3 m21f4 z23s z26s k24 k26 k28 k30 k35 k37 k39 k41 k46 k47 z16s z18s m24f1 m24f2 m24f3 m24f4 m25f1 m25f2 m25f3 m25f4 z20s z22s m27f1 m27f2 m27f3 m27f4 m28f1 m28f2 m28f3 m28f4
                                        · have k50 : ¬ ((r10 : Int) ≤ r12) := Zleqf h14 h16 g50
                                          clear g50
                                          refine ⟨fun g51 => ?_, fun g51 => ?_⟩
                                          · have k51 : (m15 + m17 + (-1) * m19 + (-1) * m21 + r10 + (-1) * r12 : Int) ≤ 4000 := Zleqt h111 (Zc 4000) g51
                                            clear g51
                                            exact rfl
                                          · have k51 : ¬ ((m15 + m17 + (-1) * m19 + (-1) * m21 + r10 + (-1) * r12 : Int) ≤ 4000) := Zleqf h111 (Zc 4000) g51
                                            clear g51
                                            exact fw_d50 b_m15 b_m17 b_m19 b_m21 b_m24 b_m25 b_m27 b_m28 b_r10 b_r12 b_r2 b_r4 b_r6 b_z16 b_z18 b_z20 b_z22 b_z23 b_z26 k48 k49 k50 k51 m15f1 m15f2 m15f3 m15f4 m17f1 m17f2 m17f3 m17f4 m19f1 m19f2 m19f3 m19f4 m21f1 m21f2 m21f3 m21f4 z23s z26s k24 k26 k28 k30 k35 k37 k39 k41 k46 k47 z16s z18s m24f1 m24f2 m24f3 m24f4 m25f1 m25f2 m25f3 m25f4 z20s z22s m27f1 m27f2 m27f3 m27f4 m28f1 m28f2 m28f3 m28f4
                                      · have k49 : ¬ ((r12 : Int) ≤ (-1) * z26) := Zleqf h16 h395 g49
                                        clear g49
                                        have f49_0 := fw_f25 b_r12 b_z26 b_r4 b_m19 b_m27 k49 m19e m27e
                                        have f49_1 := fw_f26 b_r12 b_z26 b_r6 b_m21 b_m28 k49 m21e m28e
                                        exact fw_d51 b_m15 b_m17 b_m19 b_m21 b_m24 b_m25 b_m27 b_m28 b_r10 b_r12 b_r2 b_r4 b_r6 b_z16 b_z18 b_z20 b_z22 b_z23 b_z26 k49 z26s k24 k26 k28 k30 k35 k37 k39 k41 k46 k47 f49_0 f49_1 z20s z22s m27f1 m27f2 m27f3 m27f4 m28f1 m28f2 m28f3 m28f4 z18s z16s m19f1 m19f2 m19f3 m19f4 m21f1 m21f2 m21f3 m21f4 k48 m17f1 m17f2 m17f3 m17f4 m15f1 m15f2 m15f3 m15f4 z23s m24f1 m24f2 m24f3 m24f4 m25f1 m25f2 m25f3 m25f4
                                    · have k48 : ¬ ((z23 : Int) ≤ r10) := Zleqf h381 h14 g48
                                      clear g48
                                      have f48_0 := fw_f28 b_r10 b_z23 b_r4 b_m15 b_m24 k48 m15e m24e
                                      have f48_1 := fw_f29 b_r10 b_z23 b_r6 b_m17 b_m25 k48 m17e m25e
                                      exact fw_d52 b_m15 b_m17 b_m19 b_m21 b_m24 b_m25 b_r10 b_r12 b_r2 b_r4 b_r6 b_z16 b_z18 b_z20 b_z22 b_z23 k48 z23s k24 k26 k28 k30 k35 k37 k39 k41 k46 k47 f48_0 f48_1 z16s z18s m24f1 m24f2 m24f3 m24f4 m25f1 m25f2 m25f3 m25f4 z22s z20s m15f1 m15f2 m15f3 m15f4 m17f1 m17f2 m17f3 m17f4 m21f1 m21f2 m21f3 m21f4 m19f1 m19f2 m19f3 m19f4
                                  · have k47 : ¬ ((0 : Int) ≤ 1000 * z16 + 1000 * z18 + 1000 * z20 + 1000 * z22) := Zleqf (Zc 0) h366 g47
                                    clear g47
                                    exact fw_d53 b_m15 b_m17 b_m19 b_m21 b_r10 b_r12 b_r2 b_r4 b_r6 b_z16 b_z18 b_z20 b_z22 k24 k26 k28 k30 k35 k37 k39 k41 k46 k47 z16s z18s z20s z22s m15f1 m15f2 m15f3 m15f4 m17f1 m17f2 m17f3 m17f4 m19f1 m19f2 m19f3 m19f4 m21f1 m21f2 m21f3 m21f4
                                · have k46 : ¬ (((-1000) * z16 + (-1000) * z20 : Int) ≤ 1000 * z18 + 1000 * z22) := Zleqf h360 h365 g46
                                  clear g46
                                  refine ⟨fun g47 => ?_, fun g47 => ?_⟩
                                  · have k47 : (0 : Int) ≤ 1000 * z16 + 1000 * z18 + 1000 * z20 + 1000 * z22 := Zleqt (Zc 0) h366 g47
                                    clear g47
                                    exact fw_d54 b_m15 b_m17 b_m19 b_m21 b_r10 b_r12 b_r2 b_r4 b_r6 b_z16 b_z18 b_z20 b_z22 k24 k26 k28 k30 k35 k37 k39 k41 k46 k47 z16s z18s z20s z22s m15f1 m15f2 m15f3 m15f4 m17f1 m17f2 m17f3 m17f4 m19f1 m19f2 m19f3 m19f4 m21f1 m21f2 m21f3 m21f4
                                  · have k47 : ¬ ((0 : Int) ≤ 1000 * z16 + 1000 * z18 + 1000 * z20 + 1000 * z22) := Zleqf (Zc 0) h366 g47
                                    clear g47
                                    refine ⟨fun g48 => ?_, fun g48 => ?_⟩
                                    · have k48 : (z23 : Int) ≤ r10 := Zleqt h381 h14 g48
                                      clear g48
                                      refine ⟨fun g49 => ?_, fun g49 => ?_⟩
                                      · have k49 : (r12 : Int) ≤ (-1) * z26 := Zleqt h16 h395 g49
                                        clear g49
                                        refine ⟨fun g50 => ?_, fun g50 => ?_⟩
                                        · have k50 : (r10 : Int) ≤ r12 := Zleqt h14 h16 g50
                                          clear g50
                                          have f50_0 := fw_f33 b_r10 b_r12 b_r4 b_m15 b_m19 k50 m15e m19e
                                          have f50_1 := fw_f34 b_r10 b_r12 b_r6 b_m17 b_m21 k50 m17e m21e
                                          exact fw_d55 b_m15 b_m17 b_m19 b_m21 b_m24 b_m25 b_m27 b_m28 b_r10 b_r12 b_r2 b_r4 b_r6 b_z16 b_z18 b_z20 b_z22 b_z23 b_z26 k48 k49 k50 z23s z26s k24 k26 k28 k30 k35 k37 k39 k41 k46 k47 z16s z18s m24f1 m24f2 m24f3 m24f4 m25f1 m25f2 m25f3 m25f4 z20s z22s m27f1 m27f2 m27f3 m27f4 m28f1 m28f2 m28f3 m28f4 f50_0 f50_1 m15f1 m15f2 m15f3 m15f4 m17f1 m17f2 m17f3 m17f4 m19f1 m19f2 m19f3 m19f4 m21f1 m21f2 m21f3 m21f4
                                        · have k50 : ¬ ((r10 : Int) ≤ r12) := Zleqf h14 h16 g50
                                          clear g50
                                          refine ⟨fun g51 => ?_, fun g51 => ?_⟩
                                          · have k51 : (m15 + m17 + (-1) * m19 + (-1) * m21 + r10 + (-1) * r12 : Int) ≤ 4000 := Zleqt h111 (Zc 4000) g51
                                            clear g51
                                            exact rfl
                                          · have k51 : ¬ ((m15 + m17 + (-1) * m19 + (-1) * m21 + r10 + (-1) * r12 : Int) ≤ 4000) := Zleqf h111 (Zc 4000) g51
                                            clear g51
                                            exact rfl
                                      · have k49 : ¬ ((r12 : Int) ≤ (-1) * z26) := Zleqf h16 h395 g49
                                        clear g49
                                        have f49_0 := fw_f25 b_r12 b_z26 b_r4 b_m19 b_m27 k49 m19e m27e
                                        have f49_1 := fw_f26 b_r12 b_z26 b_r6 b_m21 b_m28 k49 m21e m28e
                                        exact fw_d56 b_m15 b_m17 b_m19 b_m21 b_m24 b_m25 b_m27 b_m28 b_r10 b_r12 b_r2 b_r4 b_r6 b_z16 b_z18 b_z20 b_z22 b_z23 b_z26 k49 z26s k24 k26 k28 k30 k35 k37 k39 k41 k46 k47 f49_0 f49_1 z20s z22s m27f1 m27f2 m27f3 m27f4 m28f1 m28f2 m28f3 m28f4 z18s z16s m19f1 m19f2 m19f3 m19f4 m21f1 m21f2 m21f3 m21f4 k48 m17f1 m17f2 m17f3 m17f4 m15f1 m15f2 m15f3 m15f4 z23s m24f1 m24f2 m24f3 m24f4 m25f1 m25f2 m25f3 m25f4
                                    · have k48 : ¬ ((z23 : Int) ≤ r10) := Zleqf h381 h14 g48
                                      clear g48
                                      have f48_0 := fw_f28 b_r10 b_z23 b_r4 b_m15 b_m24 k48 m15e m24e
                                      have f48_1 := fw_f29 b_r10 b_z23 b_r6 b_m17 b_m25 k48 m17e m25e
                                      exact fw_d57 b_m15 b_m17 b_m19 b_m21 b_m24 b_m25 b_r10 b_r12 b_r2 b_r4 b_r6 b_z16 b_z18 b_z20 b_z22 b_z23 k48 z23s k24 k26 k28 k30 k35 k37 k39 k41 k46 k47 f48_0 f48_1 z16s z18s m24f1 m24f2 m24f3 m24f4 m25f1 m25f2 m25f3 m25f4 z22s z20s m15f1 m15f2 m15f3 m15f4 m17f1 m17f2 m17f3 m17f4 m21f1 m21f2 m21f3 m21f4 m19f1 m19f2 m19f3 m19f4
                              · have k44 : ¬ ((5 : Int) = u8) := Zeqlf (Zc 5) h12 g44
                                clear g44
                                exact fw_d58 b_u7 b_u8 b_x3 k17 k18 k19 k20 k21 k44 u8s u7s
                            · have k41 : ¬ ((3 * r2 + z22 + 6500 : Int) ≤ 4 * r2 + (-1) * z20 + 7500) := Zleqf h284 h349 g41
                              clear g41
                              exact fw_d59 b_m15 b_m17 b_m19 b_m21 b_r10 b_r12 b_r2 b_r4 b_r6 b_z16 b_z18 b_z20 b_z22 k24 k26 k28 k30 k35 k37 k39 k41 z22s z20s z18s z16s m21f1 m21f2 m21f3 m21f4 m19f1 m19f2 m19f3 m19f4 m17f1 m17f2 m17f3 m17f4 m15f1 m15f2 m15f3 m15f4
                          · have k39 : ¬ ((2 * r2 + z22 + 4500 : Int) ≤ 3 * r2 + (-1) * z20 + 5500) := Zleqf h213 h278 g39
                            clear g39
                            exact fw_d60 b_m15 b_m17 b_m19 b_m21 b_r10 b_r12 b_r2 b_r4 b_r6 b_z16 b_z18 b_z20 b_z22 k24 k26 k28 k30 k35 k37 k39 z22s z20s z18s z16s m21f1 m21f2 m21f3 m21f4 m19f1 m19f2 m19f3 m19f4 m17f1 m17f2 m17f3 m17f4 m15f1 m15f2 m15f3 m15f4
                        · have k37 : ¬ ((r2 + z22 + 2500 : Int) ≤ 2 * r2 + (-1) * z20 + 3500) := Zleqf h142 h207 g37
                          clear g37
                          exact fw_d61 b_m15 b_m17 b_m19 b_m21 b_r10 b_r12 b_r2 b_r4 b_r6 b_z16 b_z18 b_z20 b_z22 k24 k26 k28 k30 k35 k37 z22s z20s z18s z16s m21f1 m21f2 m21f3 m21f4 m19f1 m19f2 m19f3 m19f4 m17f1 m17f2 m17f3 m17f4 m15f1 m15f2 m15f3 m15f4
                      · have k35 : ¬ ((z22 + 500 : Int) ≤ r2 + (-1) * z20 + 1500) := Zleqf h59 h136 g35
                        clear g35
                        exact fw_d62 b_m15 b_m17 b_m19 b_m21 b_r10 b_r12 b_r2 b_r4 b_r6 b_z16 b_z18 b_z20 b_z22 k24 k26 k28 k30 k35 z22s z20s z18s z16s m21f1 m21f2 m21f3 m21f4 m19f1 m19f2 m19f3 m19f4 m17f1 m17f2 m17f3 m17f4 m15f1 m15f2 m15f3 m15f4
                    · have k30 : ¬ ((3 * r2 + (-1) * z18 + 6500 : Int) ≤ 4 * r2 + z16 + 7500) := Zleqf h270 h332 g30
                      clear g30
                      exact fw_d63 b_m15 b_m17 b_r10 b_r2 b_r4 b_r6 b_z16 b_z18 k24 k26 k28 k30 z18s z16s m17f1 m17f2 m17f3 m17f4 m15f1 m15f2 m15f3 m15f4
                  · have k28 : ¬ ((2 * r2 + (-1) * z18 + 4500 : Int) ≤ 3 * r2 + z16 + 5500) := Zleqf h199 h261 g28
                    clear g28
                    exact fw_d48 b_m15 b_m17 b_r10 b_r2 b_r4 b_r6 b_z16 b_z18 k24 k26 k28 z18s z16s m17f1 m17f2 m17f3 m17f4 m15f1 m15f2 m15f3 m15f4
                · have k26 : ¬ ((r2 + (-1) * z18 + 2500 : Int) ≤ 2 * r2 + z16 + 3500) := Zleqf h128 h190 g26
                  clear g26
                  exact fw_d34 b_m15 b_m17 b_r10 b_r2 b_r4 b_r6 b_z16 b_z18 k24 k26 z18s z16s m17f1 m17f2 m17f3 m17f4 m15f1 m15f2 m15f3 m15f4
              · have k24 : ¬ (((-1) * z18 + 500 : Int) ≤ r2 + z16 + 1500) := Zleqf h43 h119 g24
                clear g24
                exact fw_d21 b_m15 b_m17 b_r10 b_r2 b_r4 b_r6 b_z16 b_z18 k24 z18s z16s m17f1 m17f2 m17f3 m17f4 m15f1 m15f2 m15f3 m15f4
            · have k21 : ¬ ((u8 : Int) ≤ 5) := Zleqf h12 (Zc 5) g21
              clear g21
              refine ⟨fun g22 => ?_, fun g22 => ?_⟩
              · have k22 : (u8 : Int) ≤ 6 := Zleqt h12 (Zc 6) g22
                clear g22
                refine ask_t (Pleq (Zc (-10000000)) h33 (fw_t16 b_z16)) ?_
                refine ask_t (Pleq h33 h43 (fw_t17 b_z16 b_z18)) ?_
                refine ⟨fun g25 => ?_, fun g25 => ?_⟩
                · have k25 : ((-1) * z18 + 500 : Int) ≤ r2 + z16 + 1500 := Zleqt h43 h119 g25
                  clear g25
                  refine ask_t (Pleq h119 h128 (fw_t39 b_r2 b_z16 b_z18)) ?_
                  refine ⟨fun g27 => ?_, fun g27 => ?_⟩
                  · have k27 : (r2 + (-1) * z18 + 2500 : Int) ≤ 2 * r2 + z16 + 3500 := Zleqt h128 h190 g27
                    clear g27
                    refine ask_t (Pleq h190 h199 (fw_t55 b_r2 b_z16 b_z18)) ?_
                    refine ⟨fun g29 => ?_, fun g29 => ?_⟩
                    · have k29 : (2 * r2 + (-1) * z18 + 4500 : Int) ≤ 3 * r2 + z16 + 5500 := Zleqt h199 h261 g29
                      clear g29
                      refine ask_t (Pleq h261 h270 (fw_t72 b_r2 b_z16 b_z18)) ?_
                      refine ⟨fun g31 => ?_, fun g31 => ?_⟩
                      · have k31 : (3 * r2 + (-1) * z18 + 6500 : Int) ≤ 4 * r2 + z16 + 7500 := Zleqt h270 h332 g31
                        clear g31
                        refine ask_t (Pleq h332 h341 (fw_t90 b_r2 b_z16 b_z18)) ?_
                        refine ⟨fun g33 => ?_, fun g33 => ?_⟩
                        · have k33 : (4 * r2 + (-1) * z18 + 8500 : Int) ≤ 5 * r2 + z16 + 9500 := Zleqt h341 h403 g33
                          clear g33
                          refine ask_t (Pleq h403 h412 (fw_t109 b_r2 b_z16 b_z18)) ?_
                          refine ask_t (Pleq h412 (Zc 10000000) (fw_t110 b_r2 b_z18)) ?_
                          refine ask_t (Pleq (Zc (-10000000)) h52 (fw_t19 b_z20)) ?_
                          refine ask_t (Pleq h52 h59 (fw_t20 b_z20 b_z22)) ?_
                          refine ⟨fun g38 => ?_, fun g38 => ?_⟩
                          · have k38 : (z22 + 500 : Int) ≤ r2 + (-1) * z20 + 1500 := Zleqt h59 h136 g38
                            clear g38
                            refine ask_t (Pleq h136 h142 (fw_t41 b_r2 b_z20 b_z22)) ?_
                            refine ⟨fun g40 => ?_, fun g40 => ?_⟩
                            · have k40 : (r2 + z22 + 2500 : Int) ≤ 2 * r2 + (-1) * z20 + 3500 := Zleqt h142 h207 g40
                              clear g40
                              refine ask_t (Pleq h207 h213 (fw_t57 b_r2 b_z20 b_z22)) ?_
                              refine ⟨fun g42 => ?_, fun g42 => ?_⟩
                              · have k42 : (2 * r2 + z22 + 4500 : Int) ≤ 3 * r2 + (-1) * z20 + 5500 := Zleqt h213 h278 g42
                                clear g42
                                refine ask_t (Pleq h278 h284 (fw_t74 b_r2 b_z20 b_z22)) ?_
                                refine ⟨fun g44 => ?_, fun g44 => ?_⟩
                                · have k44 : (3 * r2 + z22 + 6500 : Int) ≤ 4 * r2 + (-1) * z20 + 7500 := Zleqt h284 h349 g44
                                  clear g44
                                  refine ask_t (Pleq h349 h355 (fw_t92 b_r2 b_z20 b_z22)) ?_
                                  refine ⟨fun g46 => ?_, fun g46 => ?_⟩
                                  · have k46 : (4 * r2 + z22 + 8500 : Int) ≤ 5 * r2 + (-1) * z20 + 9500 := Zleqt h355 h420 g46
                                    clear g46
                                    refine ask_t (Pleq h420 h426 (fw_t111 b_r2 b_z20 b_z22)) ?_
                                    refine ask_t (Pleq h426 (Zc 10000000) (fw_t112 b_r2 b_z22)) ?_
                                    refine ⟨fun g49 => ?_, fun g49 => ?_⟩
                                    · have k49 : (6 : Int) = u8 := Zeqlt (Zc 6) h12 g49
                                      clear g49
                                      refine ask_f (Neql h8 (Zc 0) (fw_t22 b_r4 b_r6)) ?_
                                      refine ⟨fun g51 => ?_, fun g51 => ?_⟩
                                      · have k51 : ((-1000) * z16 + (-1000) * z20 : Int) ≤ 1000 * z18 + 1000 * z22 := Zleqt h431 h436 g51
                                        clear g51
                                        refine ⟨fun g52 => ?_, fun g52 => ?_⟩
                                        · have k52 : (0 : Int) ≤ 1000 * z16 + 1000 * z18 + 1000 * z20 + 1000 * z22 := Zleqt (Zc 0) h437 g52
                                          clear g52
                                          refine ⟨fun g53 => ?_, fun g53 => ?_⟩
                                          · have k53 : (z23 : Int) ≤ r10 := Zleqt h452 h14 g53
                                            clear g53
                                            refine ⟨fun g54 => ?_, fun g54 => ?_⟩
                                            · have k54 : (r12 : Int) ≤ (-1) * z26 := Zleqt h16 h466 g54
                                              clear g54
                                              refine ⟨fun g55 => ?_, fun g55 => ?_⟩
                                              · have k55 : (r10 : Int) ≤ r12 := Zleqt h14 h16 g55
                                                clear g55
                                                refine ⟨fun g56 => ?_, fun g56 => ?_⟩
                                                · have k56 : (m15 + m17 + (-1) * m19 + (-1) * m21 + r10 + (-1) * r12 : Int) ≤ 4000 := Zleqt h111 (Zc 4000) g56
                                                  clear g56
                                                  exact rfl
                                                · have k56 : ¬ ((m15 + m17 + (-1) * m19 + (-1) * m21 + r10 + (-1) * r12 : Int) ≤ 4000) := Zleqf h111 (Zc 4000) g56
                                                  clear g56
                                                  exact fw_d64 b_m15 b_m17 b_m19 b_m21 b_m24 b_m25 b_m27 b_m28 b_r10 b_r12 b_r2 b_r4 b_r6 b_z16 b_z18 b_z20 b_z22 b_z23 b_z26 k53 k54 k55 k56 m15f1 m15f2 m15f3 m15f4 m17f1 m17f2 m17f3 m17f4 m19f1 m19f2 m19f3 m19f4 m21f1 m21f2 m21f3 m21f4 z23s z26s k25 k27 k29 k31 k33 k38 k40 k42 k44 k46 k51 k52 z16s z18s m24f1 m24f2 m24f3 m24f4 m25f1 m25f2 m25f3 m25f4 z20s z22s m27f1 m27f2 m27f3 m27f4 m28f1 m28f2 m28f3 m28f4
                                              · have k55 : ¬ ((r10 : Int) ≤ r12) := Zleqf h14 h16 g55
                                                clear g55
                                                refine ⟨fun g56 => ?_, fun g56 => ?_⟩
                                                · have k56 : (m15 + m17 + (-1) * m19 + (-1) * m21 + r10 + (-1) * r12 : Int) ≤ 4000 := Zleqt h111 (Zc 4000) g56
                                                  clear g56
                                                  exact rfl
                                                · have k56 : ¬ ((m15 + m17 + (-1) * m19 + (-1) * m21 + r10 + (-1) * r12 : Int) ≤ 4000) := Zleqf h111 (Zc 4000) g56
                                                  clear g56
                                                  exact fw_d65 b_m15 b_m17 b_m19 b_m21 b_m24 b_m25 b_m27 b_m28 b_r10 b_r12 b_r2 b_r4 b_r6 b_z16 b_z18 b_z20 b_z22 b_z23 b_z26 k53 k54 k55 k56 m15f1 m15f2 m15f3 m15f4 m17f1 m17f2 m17f3 m17f4 m19f1 m19f2 m19f3 m19f4 m21f1 m21f2 m21f3 m21f4 z23s z26s k25 k27 k29 k31 k33 k38 k40 k42 k44 k46 k51 k52 z16s z18s m24f1 m24f2 m24f3 m24f4 m25f1 m25f2 m25f3 m25f4 z20s z22s m27f1 m27f2 m27f3 m27f4 m28f1 m28f2 m28f3 m28f4
                                            · have k54 : ¬ ((r12 : Int) ≤ (-1) * z26) := Zleqf h16 h466 g54
                                              clear g54
                                              have f54_0 := fw_f25 b_r12 b_z26 b_r4 b_m19 b_m27 k54 m19e m27e
                                              have f54_1 := fw_f26 b_r12 b_z26 b_r6 b_m21 b_m28 k54 m21e m28e
                                              exact fw_d66 b_m15 b_m17 b_m19 b_m21 b_m24 b_m25 b_m27 b_m28 b_r10 b_r12 b_r2 b_r4 b_r6 b_z16 b_z18 b_z20 b_z22 b_z23 b_z26 k54 z26s k25 k27 k29 k31 k33 k38 k40 k42 k44 k46 k51 k52 f54_0 f54_1 z20s z22s m27f1 m27f2 m27f3 m27f4 m28f1 m28f2 m28f3 m28f4 z18s z16s m19f1 m19f2 m19f3 m19f4 m21f1 m21f2 m21f3 m21f4 k53 m17f1 m17f2 m17f3 m17f4 m15f1 m15f2 m15f3 m15f4 z23s m24f1 m24f2 m24f3 m24f4 m25f1 m25f2 m25f3 m25f4
                                          · have k53 : ¬ ((z23 : Int) ≤ r10) := Zleqf h452 h14 g53
                                            clear g53
                                            have f53_0 := fw_f28 b_r10 b_z23 b_r4 b_m15 b_m24 k53 m15e m24e
                                            have f53_1 := fw_f29 b_r10 b_z23 b_r6 b_m17 b_m25 k53 m17e m25e
                                            exact fw_d67 b_m15 b_m17 b_m19 b_m21 b_m24 b_m25 b_r10 b_r12 b_r2 b_r4 b_r6 b_z16 b_z18 b_z20 b_z22 b_z23 k53 z23s k25 k27 k29 k31 k33 k38 k40 k42 k44 k46 k51 k52 f53_0 f53_1 z16s z18s m24f1 m24f2 m24f3 m24f4 m25f1 m25f2 m25f3 m25f4 z22s z20s m15f1 m15f2 m15f3 m15f4 m17f1 m17f2 m17f3 m17f4 m21f1 m21f2 m21f3 m21f4 m19f1 m19f2 m19f3 m19f4
                                        · have k52 : ¬ ((0 : Int) ≤ 1000 * z16 + 1000 * z18 + 1000 * z20 + 1000 * z22) := Zleqf (Zc 0) h437 g52
                                          clear g52
                                          exact fw_d68 b_m15 b_m17 b_m19 b_m21 b_r10 b_r12 b_r2 b_r4 b_r6 b_z16 b_z18 b_z20 b_z22 k25 k27 k29 k31 k33 k38 k40 k42 k44 k46 k51 k52 z16s z18s z20s z22s m15f1 m15f2 m15f3 m15f4 m17f1 m17f2 m17f3 m17f4 m19f1 m19f2 m19f3 m19f4 m21f1 m21f2 m21f3 m21f4
                                      · have k51 : ¬ (((-1000) * z16 + (-1000) * z20 : Int) ≤ 1000 * z18 + 1000 * z22) := Zleqf h431 h436 g51
                                        clear g51
                                        refine ⟨fun g52 => ?_, fun g52 => ?_⟩
                                        · have k52 : (0 : Int) ≤ 1000 * z16 + 1000 * z18 + 1000 * z20 + 1000 * z22 := Zleqt (Zc 0) h437 g52
                                          clear g52
                                          exact fw_d69 b_m15 b_m17 b_m19 b_m21 b_r10 b_r12 b_r2 b_r4 b_r6 b_z16 b_z18 b_z20 b_z22 k25 k27 k29 k31 k33 k38 k40 k42 k44 k46 k51 k52 z16s z18s z20s z22s m15f1 m15f2 m15f3 m15f4 m17f1 m17f2 m17f3 m17f4 m19f1 m19f2 m19f3 m19f4 m21f1 m21f2 m21f3 m21f4
                                        · have k52 : ¬ ((0 : Int) ≤ 1000 * z16 + 1000 * z18 + 1000 * z20 + 1000 * z22) := Zleqf (Zc 0) h437 g52
                                          clear g52
                                          refine ⟨fun g53 => ?_, fun g53 => ?_⟩
                                          · have k53 : (z23 : Int) ≤ r10 := Zleqt h452 h14 g53
                                            clear g53
                                            refine ⟨fun g54 => ?_, fun g54 => ?_⟩
                                            · have k54 : (r12 : Int) ≤ (-1) * z26 := Zleqt h16 h466 g54
                                              clear g54
                                              refine ⟨fun g55 => ?_, fun g55 => ?_⟩
                                              · have k55 : (r10 : Int) ≤ r12 := Zleqt h14 h16 g55
                                                clear g55
                                                have f55_0 := fw_f33 b_r10 b_r12 b_r4 b_m15 b_m19 k55 m15e m19e
                                                have f55_1 := fw_f34 b_r10 b_r12 b_r6 b_m17 b_m21 k55 m17e m21e
                                                exact fw_d70 b_m15 b_m17 b_m19 b_m21 b_m24 b_m25 b_m27 b_m28 b_r10 b_r12 b_r2 b_r4 b_r6 b_z16 b_z18 b_z20 b_z22 b_z23 b_z26 k53 k54 k55 z23s z26s k25 k27 k29 k31 k33 k38 k40 k42 k44 k46 k51 k52 z16s z18s m24f1 m24f2 m24f3 m24f4 m25f1 m25f2 m25f3 m25f4 z20s z22s m27f1 m27f2 m27f3 m27f4 m28f1 m28f2 m28f3 m28f4 f55_0 f55_1 m15f1 m15f2 m15f3 m15f4 m17f1 m17f2 m17f3 m17f4 m19f1 m19f2 m19f3 m19f4 m21f1 m21f2 m21f3 m21f4
                                              · have k55 : ¬ ((r10 : Int) ≤ r12) := Zleqf h14 h16 g55
                                                clear g55
                                                refine ⟨fun g56 => ?_, fun g56 => ?_⟩
                                                · have k56 : (m15 + m17 + (-1) * m19 + (-1) * m21 + r10 + (-1) * r12 : Int) ≤ 4000 := Zleqt h111 (Zc 4000) g56
                                                  clear g56
                                                  exact rfl
                                                · have k56 : ¬ ((m15 + m17 + (-1) * m19 + (-1) * m21 + r10 + (-1) * r12 : Int) ≤ 4000) := Zleqf h111 (Zc 4000) g56
                                                  clear g56
                                                  exact rfl
                                            · have k54 : ¬ ((r12 : Int) ≤ (-1) * z26) := Zleqf h16 h466 g54
                                              clear g54
                                              have f54_0 := fw_f25 b_r12 b_z26 b_r4 b_m19 b_m27 k54 m19e m27e
                                              have f54_1 := fw_f26 b_r12 b_z26 b_r6 b_m21 b_m28 k54 m21e m28e
                                              exact fw_d71 b_m15 b_m17 b_m19 b_m21 b_m24 b_m25 b_m27 b_m28 b_r10 b_r12 b_r2 b_r4 b_r6 b_z16 b_z18 b_z20 b_z22 b_z23 b_z26 k54 z26s k25 k27 k29 k31 k33 k38 k40 k42 k44 k46 k51 k52 f54_0 f54_1 z20s z22s m27f1 m27f2 m27f3 m27f4 m28f1 m28f2 m28f3 m28f4 z18s z16s m19f1 m19f2 m19f3 m19f4 m21f1 m21f2 m21f3 m21f4 k53 m17f1 m17f2 m17f3 m17f4 m15f1 m15f2 m15f3 m15f4 z23s m24f1 m24f2 m24f3 m24f4 m25f1 m25f2 m25f3 m25f4
                                          · have k53 : ¬ ((z23 : Int) ≤ r10) := Zleqf h452 h14 g53
                                            clear g53
                                            have f53_0 := fw_f28 b_r10 b_z23 b_r4 b_m15 b_m24 k53 m15e m24e
                                            have f53_1 := fw_f29 b_r10 b_z23 b_r6 b_m17 b_m25 k53 m17e m25e
                                            exact fw_d72 b_m15 b_m17 b_m19 b_m21 b_m24 b_m25 b_r10 b_r12 b_r2 b_r4 b_r6 b_z16 b_z18 b_z20 b_z22 b_z23 k53 z23s k25 k27 k29 k31 k33 k38 k40 k42 k44 k46 k51 k52 f53_0 f53_1 z16s z18s m24f1 m24f2 m24f3 m24f4 m25f1 m25f2 m25f3 m25f4 z22s z20s m15f1 m15f2 m15f3 m15f4 m17f1 m17f2 m17f3 m17f4 m21f1 m21f2 m21f3 m21f4 m19f1 m19f2 m19f3 m19f4
                                    · have k49 : ¬ ((6 : Int) = u8) := Zeqlf (Zc 6) h12 g49
                                      clear g49
                                      exact fw_d73 b_u7 b_u8 b_x3 k17 k18 k19 k20 k21 k22 k49 u8s u7s
                                  · have k46 : ¬ ((4 * r2 + z22 + 8500 : Int) ≤ 5 * r2 + (-1) * z20 + 9500) := Zleqf h355 h420 g46
                                    clear g46
                                    exact fw_d74 b_m15 b_m17 b_m19 b_m21 b_r10 b_r12 b_r2 b_r4 b_r6 b_z16 b_z18 b_z20 b_z22 k25 k27 k29 k31 k33 k38 k40 k42 k44 k46 z22s z20s z18s z16s m21f1 m21f2 m21f3 m21f4 m19f1 m19f2 m19f3 m19f4 m17f1 m17f2 m17f3 m17f4 m15f1 m15f2 m15f3 m15f4
                                · have k44 : ¬ ((3 * r2 + z22 + 6500 : Int) ≤ 4 * r2 + (-1) * z20 + 7500) := Zleqf h284 h349 g44
                                  clear g44
                                  exact fw_d75 b_m15 b_m17 b_m19 b_m21 b_r10 b_r12 b_r2 b_r4 b_r6 b_z16 b_z18 b_z20 b_z22 k25 k27 k29 k31 k33 k38 k40 k42 k44 z22s z20s z18s z16s m21f1 m21f2 m21f3 m21f4 m19f1 m19f2 m19f3 m19f4 m17f1 m17f2 m17f3 m17f4 m15f1 m15f2 m15f3 m15f4
                              · have k42 : ¬ ((2 * r2 + z22 + 4500 : Int) ≤ 3 * r2 + (-1) * z20 + 5500) := Zleqf h213 h278 g42
                                clear g42
                                exact fw_d76 b_m15 b_m17 b_m19 b_m21 b_r10 b_r12 b_r2 b_r4 b_r6 b_z16 b_z18 b_z20 b_z22 k25 k27 k29 k31 k33 k38 k40 k42 z22s z20s z18s z16s m21f1 m21f2 m21f3 m21f4 m19f1 m19f2 m19f3 m19f4 m17f1 m17f2 m17f3 m17f4 m15f1 m15f2 m15f3 m15f4
                            · have k40 : ¬ ((r2 + z22 + 2500 : Int) ≤ 2 * r2 + (-1) * z20 + 3500) := Zleqf h142 h207 g40
                              clear g40
                              exact fw_d77 b_m15 b_m17 b_m19 b_m21 b_r10 b_r12 b_r2 b_r4 b_r6 b_z16 b_z18 b_z20 b_z22 k25 k27 k29 k31 k33 k38 k40 z22s z20s z18s z16s m21f1 m21f2 m21f3 m21f4 m19f1 m19f2 m19f3 m19f4 m17f1 m17f2 m17f3 m17f4 m15f1 m15f2 m15f3 m15f4
                          · have k38 : ¬ ((z22 + 500 : Int) ≤ r2 + (-1) * z20 + 1500) := Zleqf h59 h136 g38
                            clear g38
                            exact fw_d78 b_m15 b_m17 b_m19 b_m21 b_r10 b_r12 b_r2 b_r4 b_r6 b_z16 b_z18 b_z20 b_z22 k25 k27 k29 k31 k33 k38 z22s z20s z18s z16s m21f1 m21f2 m21f3 m21f4 m19f1 m19f2 m19f3 m19f4 m17f1 m17f2 m17f3 m17f4 m15f1 m15f2 m15f3 m15f4
                        · have k33 : ¬ ((4 * r2 + (-1) * z18 + 8500 : Int) ≤ 5 * r2 + z16 + 9500) := Zleqf h341 h403 g33
                          clear g33
                          exact fw_d79 b_m15 b_m17 b_r10 b_r2 b_r4 b_r6 b_z16 b_z18 k25 k27 k29 k31 k33 z18s z16s m17f1 m17f2 m17f3 m17f4 m15f1 m15f2 m15f3 m15f4
                      · have k31 : ¬ ((3 * r2 + (-1) * z18 + 6500 : Int) ≤ 4 * r2 + z16 + 7500) := Zleqf h270 h332 g31
                        clear g31
                        exact fw_d63 b_m15 b_m17 b_r10 b_r2 b_r4 b_r6 b_z16 b_z18 k25 k27 k29 k31 z18s z16s m17f1 m17f2 m17f3 m17f4 m15f1 m15f2 m15f3 m15f4
                    · have k29 : ¬ ((2 * r2 + (-1) * z18 + 4500 : Int) ≤ 3 * r2 + z16 + 5500) := Zleqf h199 h261 g29
                      clear g29
                      exact fw_d48 b_m15 b_m17 b_r10 b_r2 b_r4 b_r6 b_z16 b_z18 k25 k27 k29 z18s z16s m17f1 m17f2 m17f3 m17f4 m15f1 m15f2 m15f3 m15f4
                  · have k27 : ¬ ((r2 + (-1) * z18 + 2500 : Int) ≤ 2 * r2 + z16 + 3500) := Zleqf h128 h190 g27
                    clear g27
                    exact fw_d34 b_m15 b_m17 b_r10 b_r2 b_r4 b_r6 b_z16 b_z18 k25 k27 z18s z16s m17f1 m17f2 m17f3 m17f4 m15f1 m15f2 m15f3 m15f4
                · have k25 : ¬ (((-1) * z18 + 500 : Int) ≤ r2 + z16 + 1500) := Zleqf h43 h119 g25
                  clear g25
                  exact fw_d21 b_m15 b_m17 b_r10 b_r2 b_r4 b_r6 b_z16 b_z18 k25 z18s z16s m17f1 m17f2 m17f3 m17f4 m15f1 m15f2 m15f3 m15f4
              · have k22 : ¬ ((u8 : Int) ≤ 6) := Zleqf h12 (Zc 6) g22
                clear g22
                refine ⟨fun g23 => ?_, fun g23 => ?_⟩
                · have k23 : (u8 : Int) ≤ 7 := Zleqt h12 (Zc 7) g23
                  clear g23
                  refine ask_t (Pleq (Zc (-10000000)) h33 (fw_t16 b_z16)) ?_
                  refine ask_t (Pleq h33 h43 (fw_t17 b_z16 b_z18)) ?_
                  refine ⟨fun g26 => ?_, fun g26 => ?_⟩
                  · have k26 : ((-1) * z18 + 500 : Int) ≤ r2 + z16 + 1500 := Zleqt h43 h119 g26
                    clear g26
                    refine ask_t (Pleq h119 h128 (fw_t39 b_r2 b_z16 b_z18)) ?_
                    refine ⟨fun g28 => ?_, fun g28 => ?_⟩
                    · have k28 : (r2 + (-1) * z18 + 2500 : Int) ≤ 2 * r2 + z16 + 3500 := Zleqt h128 h190 g28
                      clear g28
                      refine ask_t (Pleq h190 h199 (fw_t55 b_r2 b_z16 b_z18)) ?_
                      refine ⟨fun g30 => ?_, fun g30 => ?_⟩
                      · have k30 : (2 * r2 + (-1) * z18 + 4500 : Int) ≤ 3 * r2 + z16 + 5500 := Zleqt h199 h261 g30
                        clear g30
                        refine ask_t (Pleq h261 h270 (fw_t72 b_r2 b_z16 b_z18)) ?_
                        refine ⟨fun g32 => ?_, fun g32 => ?_⟩
                        · have k32 : (3 * r2 + (-1) * z18 + 6500 : Int) ≤ 4 * r2 + z16 + 7500 := Zleqt h270 h332 g32
                          clear g32
                          refine ask_t (Pleq h332 h341 (fw_t90 b_r2 b_z16 b_z18)) ?_
                          refine ⟨fun g34 => ?_, fun g34 => ?_⟩
                          · have k34 : (4 * r2 + (-1) * z18 + 8500 : Int) ≤ 5 * r2 + z16 + 9500 := Zleqt h341 h403 g34
                            clear g34
                            refine ask_t (Pleq h403 h412 (fw_t109 b_r2 b_z16 b_z18)) ?_
                            refine ⟨fun g36 => ?_, fun g36 => ?_⟩
                            · have k36 : (5 * r2 + (-1) * z18 + 10500 : Int) ≤ 6 * r2 + z16 + 11500 := Zleqt h412 h474 g36
                              clear g36
                              refine ask_t (Pleq h474 h483 (fw_t129 b_r2 b_z16 b_z18)) ?_
                              refine ask_t (Pleq h483 (Zc 10000000) (fw_t130 b_r2 b_z18)) ?_
                              refine ask_t (Pleq (Zc (-10000000)) h52 (fw_t19 b_z20)) ?_
                              refine ask_t (Pleq h52 h59 (fw_t20 b_z20 b_z22)) ?_
                              refine ⟨fun g41 => ?_, fun g41 => ?_⟩
                              · have k41 : (z22 + 500 : Int) ≤ r2 + (-1) * z20 + 1500 := Zleqt h59 h136 g41
                                clear g41
                                refine ask_t (Pleq h136 h142 (fw_t41 b_r2 b_z20 b_z22)) ?_
                                refine ⟨fun g43 => ?_, fun g43 => ?_⟩
                                · have k43 : (r2 + z22 + 2500 : Int) ≤ 2 * r2 + (-1) * z20 + 3500 := Zleqt h142 h207 g43
                                  clear g43
                                  refine ask_t (Pleq h207 h213 (fw_t57 b_r2 b_z20 b_z22)) ?_
                                  refine ⟨fun g45 => ?_, fun g45 => ?_⟩
                                  · have k45 : (2 * r2 + z22 + 4500 : Int) ≤ 3 * r2 + (-1) * z20 + 5500 := Zleqt h213 h278 g45
                                    clear g45
                                    refine ask_t (Pleq h278 h284 (fw_t74 b_r2 b_z20 b_z22)) ?_
                                    refine ⟨fun g47 => ?_, fun g47 => ?_⟩
                                    · have k47 : (3 * r2 + z22 + 6500 : Int) ≤ 4 * r2 + (-1) * z20 + 7500 := Zleqt h284 h349 g47
                                      clear g47
                                      refine ask_t (Pleq h349 h355 (fw_t92 b_r2 b_z20 b_z22)) ?_
                                      refine ⟨fun g49 => ?_, fun g49 => ?_⟩
                                      · have k49 : (4 * r2 + z22 + 8500 : Int) ≤ 5 * r2 + (-1) * z20 + 9500 := Zleqt h355 h420 g49
                                        clear g49
                                        refine ask_t (Pleq h420 h426 (fw_t111 b_r2 b_z20 b_z22)) ?_
                                        refine ⟨fun g51 => ?_, fun g51 => ?_⟩
                                        · have k51 : (5 * r2 + z22 + 10500 : Int) ≤ 6 * r2 + (-1) * z20 + 11500 := Zleqt h426 h491 g51
                                          clear g51
                                          refine ask_t (Pleq h491 h497 (fw_t131 b_r2 b_z20 b_z22)) ?_
                                          refine ask_t (Pleq h497 (Zc 10000000) (fw_t132 b_r2 b_z22)) ?_
                                          refine ⟨fun g54 => ?_, fun g54 => ?_⟩
                                          · have k54 : (7 : Int) = u8 := Zeqlt (Zc 7) h12 g54
                                            clear g54
                                            refine ask_f (Neql h8 (Zc 0) (fw_t22 b_r4 b_r6)) ?_
                                            refine ⟨fun g56 => ?_, fun g56 => ?_⟩
                                            · have k56 : ((-1000) * z16 + (-1000) * z20 : Int) ≤ 1000 * z18 + 1000 * z22 := Zleqt h502 h507 g56
                                              clear g56
                                              refine ⟨fun g57 => ?_, fun g57 => ?_⟩
                                              · have k57 : (0 : Int) ≤ 1000 * z16 + 1000 * z18 + 1000 * z20 + 1000 * z22 := Zleqt (Zc 0) h508 g57
                                                clear g57
                                                refine ⟨fun g58 => ?_, fun g58 => ?_⟩
                                                · have k58 : (z23 : Int) ≤ r10 := Zleqt h523 h14 g58
                                                  clear g58
                                                  refine ⟨fun g59 => ?_, fun g59 => ?_⟩
                                                  · have k59 : (r12 : Int) ≤ (-1) * z26 := Zleqt h16 h537 g59
                                                    clear g59
                                                    refine ⟨fun g60 => ?_, fun g60 => ?_⟩
                                                    · have k60 : (r10 : Int) ≤ r12 := Zleqt h14 h16 g60
                                                      clear g60
                                                      refine ⟨fun g61 => ?_, fun g61 => ?_⟩
                                                      · have k61 : (m15 + m17 + (-1) * m19 + (-1) * m21 + r10 + (-1) * r12 : Int) ≤ 4000 := Zleqt h111 (Zc 4000) g61
                                                        clear g61
                                                        exact rfl
                                                      · have k61 : ¬ ((m15 + m17 + (-1) * m19 + (-1) * m21 + r10 + (-1) * r12 : Int) ≤ 4000) := Zleqf h111 (Zc 4000) g61
                                                        clear g61
                                                        exact fw_d80 b_m15 b_m17 b_m19 b_m21 b_m24 b_m25 b_m27 b_m28 b_r10 b_r12 b_r2 b_r4 b_r6 b_z16 b_z18 b_z20 b_z22 b_z23 b_z26 k58 k59 k60 k61 m15f1 m15f2 m15f3 m15f4 m17f1 m17f2 m17f3 m17f4 m19f1 m19f2 m19f3 m19f4 m21f1 m21f2 m21f3 m21f4 z23s z26s k26 k28 k30 k32 k34 k36 k41 k43 k45 k47 k49 k51 k56 k57 z16s z18s m24f1 m24f2 m24f3 m24f4 m25f1 m25f2 m25f3 m25f4 z20s z22s m27f1 m27f2 m27f3 m27f4 m28f1 m28f2 m28f3 m28f4
                                                    · have k60 : ¬ ((r10 : Int) ≤ r12) := Zleqf h14 h16 g60
                                                      clear g60
                                                      refine ⟨fun g61 => ?_, fun g61 => ?_⟩
                                                      · have k61 : (m15 + m17 + (-1) * m19 + (-1) * m21 + r10 + (-1) * r12 : Int) ≤ 4000 := Zleqt h111 (Zc 4000) g61
                                                        clear g61
                                                        exact rfl
                                                      · have k61 : ¬ ((m15 + m17 + (-1) * m19 + (-1) * m21 + r10 + (-1) * r12 : Int) ≤ 4000) := Zleqf h111 (Zc 4000) g61
                                                        clear g61
                                                        exact fw_d81 b_m15 b_m17 b_m19 b_m21 b_m24 b_m25 b_m27 b_m28 b_r10 b_r12 b_r2 b_r4 b_r6 b_z16 b_z18 b_z20 b_z22 b_z23 b_z26 k58 k59 k60 k61 m15f1 m15f2 m15f3 m15f4 m17f1 m17f2 m17f3 m17f4 m19f1 m19f2 m19f3 m19f4 m21f1 m21f2 m21f3 m21f4 z23s z26s k26 k28 k30 k32 k34 k36 k41 k43 k45 k47 k49 k51 k56 k57 z16s z18s m24f1 m24f2 m24f3 m24f4 m25f1 m25f2 m25f3 m25f4 z20s z22s m27f1 m27f2 m27f3 m27f4 m28f1 m28f2 m28f3 m28f4
                                                  · have k59 : ¬ ((r12 : Int) ≤ (-1) * z26) := Zleqf h16 h537 g59
                                                    clear g59
                                                    have f59_0 := fw_f25 b_r12 b_z26 b_r4 b_m19 b_m27 k59 m19e m27e
                                                    have f59_1 := fw_f26 b_r12 b_z26 b_r6 b_m21 b_m28 k59 m21e m28e
                                                    exact fw_d82 b_m15 b_m17 b_m19 b_m21 b_m24 b_m25 b_m27 b_m28 b_r10 b_r12 b_r2 b_r4 b_r6 b_z16 b_z18 b_z20 b_z22 b_z23 b_z26 k59 z26s k26 k28 k30 k32 k34 k36 k41 k43 k45 k47 k49 k51 k56 k57 f59_0 f59_1 z20s z22s m27f1 m27f2 m27f3 m27f4 m28f1 m28f2 m28f3 m28f4 z18s z16s m19f1 m19f2 m19f3 m19f4 m21f1 m21f2 m21f3 m21f4 k58 m17f1 m17f2 m17f3 m17f4 m15f1 m15f2 m15f3 m15f4 z23s m24f1 m24f2 m24f3 m24f4 m25f1 m25f2 m25f3 m25f4
                                                · have k58 : ¬ ((z23 : Int) ≤ r10) := Zleqf h523 h14 g58
                                                  clear g58
                                                  have f58_0 := fw_f28 b_r10 b_z23 b_r4 b_m15 b_m24 k58 m15e m24e
                                                  have f58_1 := fw_f29 b_r10 b_z23 b_r6 b_m17 b_m25 k58 m17e m25e
                                                  exact fw_d83 b_m15 b_m17 b_m19 b_m21 b_m24 b_m25 b_r10 b_r12 b_r2 b_r4 b_r6 b_z16 b_z18 b_z20 b_z22 b_z23 k58 z23s k26 k28 k30 k32 k34 k36 k41 k43 k45 k47 k49 k51 k56 k57 f58_0 f58_1 z16s z18s m24f1 m24f2 m24f3 m24f4 m25f1 m25f2 m25f3 m25f4 z22s z20s m15f1 m15f2 m15f3 m15f4 m17f1 m17f2 m17f3 m17f4 m21f1 m21f2 m21f3 m21f4 m19f1 m19f2 m19f3 m19f4
                                              · have k57 : ¬ ((0 : Int) ≤ 1000 * z16 + 1000 * z18 + 1000 * z20 + 1000 * z22) := Zleqf (Zc 0) h508 g57
                                                clear g57
                                                exact fw_d84 b_m15 b_m17 b_m19 b_m21 b_r10 b_r12 b_r2 b_r4 b_r6 b_z16 b_z18 b_z20 b_z22 k26 k28 k30 k32 k34 k36 k41 k43 k45 k47 k49 k51 k56 k57 z16s z18s z20s z22s m15f1 m15f2 m15f3 m15f4 m17f1 m17f2 m17f3 m17f4 m19f1 m19f2 m19f3 m19f4 m21f1 m21f2 m21f3 m21f4
                                            · have k56 : ¬ (((-1000) * z16 + (-1000) * z20 : Int) ≤ 1000 * z18 + 1000 * z22) := Zleqf h502 h507 g56
                                              clear g56
                                              refine ⟨fun g57 => ?_, fun g57 => ?_⟩
                                              · have k57 : (0 : Int) ≤ 1000 * z16 + 1000 * z18 + 1000 * z20 + 1000 * z22 := Zleqt (Zc 0) h508 g57
                                                clear g57
                                                exact fw_d85 b_m15 b_m17 b_m19 b_m21 b_r10 b_r12 b_r2 b_r4 b_r6 b_z16 b_z18 b_z20 b_z22 k26 k28 k30 k32 k34 k36 k41 k43 k45 k47 k49 k51 k56 k57 z16s z18s z20s z22s m15f1 m15f2 m15f3 m15f4 m17f1 m17f2 m17f3 m17f4 m19f1 m19f2 m19f3 m19f4 m21f1 m21f2 m21f3 m21f4
                                              · have k57 : ¬ ((0 : Int) ≤ 1000 * z16 + 1000 * z18 + 1000 * z20 + 1000 * z22) := Zleqf (Zc 0) h508 g57
                                                clear g57
                                                refine ⟨fun g58 => ?_, fun g58 => ?_⟩
                                                · have k58 : (z23 : Int) ≤ r10 := Zleqt h523 h14 g58
                                                  clear g58
                                                  refine ⟨fun g59 => ?_, fun g59 => ?_⟩
                                                  · have k59 : (r12 : Int) ≤ (-1) * z26 := Zleqt h16 h537 g59
                                                    clear g59
                                                    refine ⟨fun g60 => ?_, fun g60 => ?_⟩
                                                    · have k60 : (r10 : Int) ≤ r12 := Zleqt h14 h16 g60
                                                      clear g60
                                                      have f60_0 := fw_f33 b_r10 b_r12 b_r4 b_m15 b_m19 k60 m15e m19e
                                                      have f60_1 := fw_f34 b_r10 b_r12 b_r6 b_m17 b_m21 k60 m17e m21e
                                                      exact fw_d86 b_m15 b_m17 b_m19 b_m21 b_m24 b_m25 b_m27 b_m28 b_r10 b_r12 b_r2 b_r4 b_r6 b_z16 b_z18 b_z20 b_z22 b_z23 b_z26 k58 k59 k60 z23s z26s k26 k28 k30 k32 k34 k36 k41 k43 k45 k47 k49 k51 k56 k57 z16s z18s m24f1 m24f2 m24f3 m24f4 m25f1 m25f2 m25f3 m25f4 z20s z22s m27f1 m27f2 m27f3 m27f4 m28f1 m28f2 m28f3 m28f4 f60_0 f60_1 m15f1 m15f2 m15f3 m15f4 m17f1 m17f2 m17f3 m17f4 m19f1 m19f2 m19f3 m19f4 m21f1 m21f2 m21f3 m21f4
                                                    · have k60 : ¬ ((r10 : Int) ≤ r12) := Zleqf h14 h16 g60
                                                      clear g60
                                                      refine ⟨fun g61 => ?_, fun g61 => ?_⟩
                                                      · have k61 : (m15 + m17 + (-1) * m19 + (-1) * m21 + r10 + (-1) * r12 : Int) ≤ 4000 := Zleqt h111 (Zc 4000) g61
                                                        clear g61
                                                        exact rfl
                                                      · have k61 : ¬ ((m15 + m17 + (-1) * m19 + (-1) * m21 + r10 + (-1) * r12 : Int) ≤ 4000) := Zleqf h111 (Zc 4000) g61
                                                        clear g61
                                                        exact rfl
                                                  · have k59 : ¬ ((r12 : Int) ≤ (-1) * z26) := Zleqf h16 h537 g59
                                                    clear g59
                                                    have f59_0 := fw_f25 b_r12 b_z26 b_r4 b_m19 b_m27 k59 m19e m27e
                                                    have f59_1 := fw_f26 b_r12 b_z26 b_r6 b_m21 b_m28 k59 m21e m28e
                                                    exact fw_d87 b_m15 b_m17 b_m19 b_m21 b_m24 b_m25 b_m27 b_m28 b_r10 b_r12 b_r2 b_r4 b_r6 b_z16 b_z18 b_z20 b_z22 b_z23 b_z26 k59 z26s k26 k28 k30 k32 k34 k36 k41 k43 k45 k47 k49 k51 k56 k57 f59_0 f59_1 z20s z22s m27f1 m27f2 m27f3 m27f4 m28f1 m28f2 m28f3 m28f4 z18s z16s m19f1 m19f2 m19f3 m19f4 m21f1 m21f2 m21f3 m21f4 k58 m17f1 m17f2 m17f3 m17f4 m15f1 m15f2 m15f3 m15f4 z23s m24f1 m24f2 m24f3 m24f4 m25f1 m25f2 m25f3 m25f4
                                                · have k58 : ¬ ((z23 : Int) ≤ r10) := Zleqf h523 h14 g58
                                                  clear g58
                                                  have f58_0 := fw_f28 b_r10 b_z23 b_r4 b_m15 b_m24 k58 m15e m24e
                                                  have f58_1 := fw_f29 b_r10 b_z23 b_r6 b_m17 b_m25 k58 m17e m25e
                                                  exact fw_d88 b_m15 b_m17 b_m19 b_m21 b_m24 b_m25 b_r10 b_r12 b_r2 b_r4 b_r6 b_z16 b_z18 b_z20 b_z22 b_z23 k58 z23s k26 k28 k30 k32 k34 k36 k41 k43 k45 k47 k49 k51 k56 k57 f58_0 f58_1 z16s z18s m24f1 m24f2 m24f3 m24f4 m25f1 m25f2 m25f3 m25f4 z22s z20s m15f1 m15f2 m15f3 m15f4 m17f1 m17f2 m17f3 m17f4 m21f1 m21f2 m21f3 m21f4 m19f1 m19f2 m19f3 m19f4
                                          · have k54 : ¬ ((7 : Int) = u8) := Zeqlf (Zc 7) h12 g54
                                            clear g54
                                            exact fw_d89 b_u7 b_u8 b_x3 k17 k18 k19 k20 k21 k22 k23 k54 u8s u7s
                                        · have k51 : ¬ ((5 * r2 + z22 + 10500 : Int) ≤ 6 * r2 + (-1) * z20 + 11500) := Zleqf h426 h491 g51
                                          clear g51
                                          exact fw_d90 b_m15 b_m17 b_m19 b_m21 b_r10 b_r12 b_r2 b_r4 b_r6 b_z16 b_z18 b_z20 b_z22 k26 k28 k30 k32 k34 k36 k41 k43 k45 k47 k49 k51 z22s z20s z18s z16s m21f1 m21f2 m21f3 m21f4 m19f1 m19f2 m19f3 m19f4 m17f1 m17f2 m17f3 m17f4 m15f1 m15f2 m15f3 m15f4
                                      · have k49 : ¬ ((4 * r2 + z22 + 8500 : Int) ≤ 5 * r2 + (-1) * z20 + 9500) := Zleqf h355 h420 g49
                                        clear g49
                                        exact fw_d91 b_m15 b_m17 b_m19 b_m21 b_r10 b_r12 b_r2 b_r4 b_r6 b_z16 b_z18 b_z20 b_z22 k26 k28 k30 k32 k34 k36 k41 k43 k45 k47 k49 z22s z20s z18s z16s m21f1 m21f2 m21f3 m21f4 m19f1 m19f2 m19f3 m19f4 m17f1 m17f2 m17f3 m17f4 m15f1 m15f2 m15f3 m15f4
                                    · have k47 : ¬ ((3 * r2 + z22 + 6500 : Int) ≤ 4 * r2 + (-1) * z20 + 7500) := Zleqf h284 h349 g47
                                      clear g47
                                      exact fw_d92 b_m15 b_m17 b_m19 b_m21 b_r10 b_r12 b_r2 b_r4 b_r6 b_z16 b_z18 b_z20 b_z22 k26 k28 k30 k32 k34 k36 k41 k43 k45 k47 z22s z20s z18s z16s m21f1 m21f2 m21f3 m21f4 m19f1 m19f2 m19f3 m19f4 m17f1 m17f2 m17f3 m17f4 m15f1 m15f2 m15f3 m15f4
                                  · have k45 : ¬ ((2 * r2 + z22 + 4500 : Int) ≤ 3 * r2 + (-1) * z20 + 5500) := Zleqf h213 h278 g45
                                    clear g45
                                    exact fw_d93 b_m15 b_m17 b_m19 b_m21 b_r10 b_r12 b_r2 b_r4 b_r6 b_z16 b_z18 b_z20 b_z22 k26 k28 k30 k32 k34 k36 k41 k43 k45 z22s z20s z18s z16s m21f1 m21f2 m21f3 m21f4 m19f1 m19f2 m19f3 m19f4 m17f1 m17f2 m17f3 m17f4 m15f1 m15f2 m15f3 m15f4
                                · have k43 : ¬ ((r2 + z22 + 2500 : Int) ≤ 2 * r2 + (-1) * z20 + 3500) := Zleqf h142 h207 g43
                                  clear g43
                                  exact fw_d94 b_m15 b_m17 b_m19 b_m21 b_r10 b_r12 b_r2 b_r4 b_r6 b_z16 b_z18 b_z20 b_z22 k26 k28 k30 k32 k34 k36 k41 k43 z22s z20s z18s z16s m21f1 m21f2 m21f3 m21f4 m19f1 m19f2 m19f3 m19f4 m17f1 m17f2 m17f3 m17f4 m15f1 m15f2 m15f3 m15f4
                              · have k41 : ¬ ((z22 + 500 : Int) ≤ r2 + (-1) * z20 + 1500) := Zleqf h59 h136 g41
                                clear g41
                                exact fw_d95 b_m15 b_m17 b_m19 b_m21 b_r10 b_r12 b_r2 b_r4 b_r6 b_z16 b_z18 b_z20 b_z22 k26 k28 k30 k32 k34 k36 k41 z22s z20s z18s z16s m21f1 m21f2 m21f3 m21f4 m19f1 m19f2 m19f3 m19f4 m17f1 m17f2 m17f3 m17f4 m15f1 m15f2 m15f3 m15f4
                            · have k36 : ¬ ((5 * r2 + (-1) * z18 + 10500 : Int) ≤ 6 * r2 + z16 + 11500) := Zleqf h412 h474 g36
                              clear g36
                              exact fw_d96 b_m15 b_m17 b_r10 b_r2 b_r4 b_r6 b_z16 b_z18 k26 k28 k30 k32 k34 k36 z18s z16s m17f1 m17f2 m17f3 m17f4 m15f1 m15f2 m15f3 m15f4
                          · have k34 : ¬ ((4 * r2 + (-1) * z18 + 8500 : Int) ≤ 5 * r2 + z16 + 9500) := Zleqf h341 h403 g34
                            clear g34
                            exact fw_d79 b_m15 b_m17 b_r10 b_r2 b_r4 b_r6 b_z16 b_z18 k26 k28 k30 k32 k34 z18s z16s m17f1 m17f2 m17f3 m17f4 m15f1 m15f2 m15f3 m15f4
                        · have k32 : ¬ ((3 * r2 + (-1) * z18 + 6500 : Int) ≤ 4 * r2 + z16 + 7500) := Zleqf h270 h332 g32
                          clear g32
                          exact fw_d63 b_m15 b_m17 b_r10 b_r2 b_r4 b_r6 b_z16 b_z18 k26 k28 k30 k32 z18s z16s m17f1 m17f2 m17f3 m17f4 m15f1 m15f2 m15f3 m15f4
                      · have k30 : ¬ ((2 * r2 + (-1) * z18 + 4500 : Int) ≤ 3 * r2 + z16 + 5500) := Zleqf h199 h261 g30
                        clear g30
                        exact fw_d48 b_m15 b_m17 b_r10 b_r2 b_r4 b_r6 b_z16 b_z18 k26 k28 k30 z18s z16s m17f1 m17f2 m17f3 m17f4 m15f1 m15f2 m15f3 m15f4
                    · have k28 : ¬ ((r2 + (-1) * z18 + 2500 : Int) ≤ 2 * r2 + z16 + 3500) := Zleqf h128 h190 g28
                      clear g28
                      exact fw_d34 b_m15 b_m17 b_r10 b_r2 b_r4 b_r6 b_z16 b_z18 k26 k28 z18s z16s m17f1 m17f2 m17f3 m17f4 m15f1 m15f2 m15f3 m15f4
                  · have k26 : ¬ (((-1) * z18 + 500 : Int) ≤ r2 + z16 + 1500) := Zleqf h43 h119 g26
                    clear g26
                    exact fw_d21 b_m15 b_m17 b_r10 b_r2 b_r4 b_r6 b_z16 b_z18 k26 z18s z16s m17f1 m17f2 m17f3 m17f4 m15f1 m15f2 m15f3 m15f4
                · have k23 : ¬ ((u8 : Int) ≤ 7) := Zleqf h12 (Zc 7) g23
                  clear g23
                  refine ask_t (Pleq h12 (Zc 8) (fw_t150 b_u8)) ?_
                  refine ask_t (Pleq (Zc (-10000000)) h33 (fw_t16 b_z16)) ?_
                  refine ask_t (Pleq h33 h43 (fw_t17 b_z16 b_z18)) ?_
                  refine ⟨fun g27 => ?_, fun g27 => ?_⟩
                  · have k27 : ((-1) * z18 + 500 : Int) ≤ r2 + z16 + 1500 := Zleqt h43 h119 g27
                    clear g27
                    refine ask_t (Pleq h119 h128 (fw_t39 b_r2 b_z16 b_z18)) ?_
                    refine ⟨fun g29 => ?_, fun g29 => ?_⟩
                    · have k29 : (r2 + (-1) * z18 + 2500 : Int) ≤ 2 * r2 + z16 + 3500 := Zleqt h128 h190 g29
                      clear g29
                      refine ask_t (Pleq h190 h199 (fw_t55 b_r2 b_z16 b_z18)) ?_
                      refine ⟨fun g31 => ?_, fun g31 => ?_⟩
                      · have k31 : (2 * r2 + (-1) * z18 + 4500 : Int) ≤ 3 * r2 + z16 + 5500 := Zleqt h199 h261 g31
                        clear g31
                        refine ask_t (Pleq h261 h270 (fw_t72 b_r2 b_z16 b_z18)) ?_
                        refine ⟨fun g33 => ?_, fun g33 => ?_⟩
                        · have k33 : (3 * r2 + (-1) * z18 + 6500 : Int) ≤ 4 * r2 + z16 + 7500 := Zleqt h270 h332 g33
                          clear g33
                          refine ask_t (Pleq h332 h341 (fw_t90 b_r2 b_z16 b_z18)) ?_
                          refine ⟨fun g35 => ?_, fun g35 => ?_⟩
                          · have k35 : (4 * r2 + (-1) * z18 + 8500 : Int) ≤ 5 * r2 + z16 + 9500 := Zleqt h341 h403 g35
                            clear g35
                            refine ask_t (Pleq h403 h412 (fw_t109 b_r2 b_z16 b_z18)) ?_
                            refine ⟨fun g37 => ?_, fun g37 => ?_⟩
                            · have k37 : (5 * r2 + (-1) * z18 + 10500 : Int) ≤ 6 * r2 + z16 + 11500 := Zleqt h412 h474 g37
                              clear g37
                              refine ask_t (Pleq h474 h483 (fw_t129 b_r2 b_z16 b_z18)) ?_
                              refine ⟨fun g39 => ?_, fun g39 => ?_⟩
                              · have k39 : (6 * r2 + (-1) * z18 + 12500 : Int) ≤ 7 * r2 + z16 + 13500 := Zleqt h483 h545 g39
                                clear g39
                                refine ask_t (Pleq h545 h554 (fw_t151 b_r2 b_z16 b_z18)) ?_
                                refine ask_t (Pleq h554 (Zc 10000000) (fw_t152 b_r2 b_z18)) ?_
                                refine ask_t (Pleq (Zc (-10000000)) h52 (fw_t19 b_z20)) ?_
                                refine ask_t (Pleq h52 h59 (fw_t20 b_z20 b_z22)) ?_
                                refine ⟨fun g44 => ?_, fun g44 => ?_⟩
                                · have k44 : (z22 + 500 : Int) ≤ r2 + (-1) * z20 + 1500 := Zleqt h59 h136 g44
                                  clear g44
                                  refine ask_t (Pleq h136 h142 (fw_t41 b_r2 b_z20 b_z22)) ?_
                                  refine ⟨fun g46 => ?_, fun g46 => ?_⟩
                                  · have k46 : (r2 + z22 + 2500 : Int) ≤ 2 * r2 + (-1) * z20 + 3500 := Zleqt h142 h207 g46
                                    clear g46
                                    refine ask_t (Pleq h207 h213 (fw_t57 b_r2 b_z20 b_z22)) ?_
                                    refine ⟨fun g48 => ?_, fun g48 => ?_⟩
                                    · have k48 : (2 * r2 + z22 + 4500 : Int) ≤ 3 * r2 + (-1) * z20 + 5500 := Zleqt h213 h278 g48
                                      clear g48
                                      refine ask_t (Pleq h278 h284 (fw_t74 b_r2 b_z20 b_z22)) ?_
                                      refine ⟨fun g50 => ?_, fun g50 => ?_⟩
                                      · have k50 : (3 * r2 + z22 + 6500 : Int) ≤ 4 * r2 + (-1) * z20 + 7500 := Zleqt h284 h349 g50
                                        clear g50
                                        refine ask_t (Pleq h349 h355 (fw_t92 b_r2 b_z20 b_z22)) ?_
                                        refine ⟨fun g52 => ?_, fun g52 => ?_⟩
                                        · have k52 : (4 * r2 + z22 + 8500 : Int) ≤ 5 * r2 + (-1) * z20 + 9500 := Zleqt h355 h420 g52
                                          clear g52
                                          refine ask_t (Pleq h420 h426 (fw_t111 b_r2 b_z20 b_z22)) ?_
                                          refine ⟨fun g54 => ?_, fun g54 => ?_⟩
                                          · have k54 : (5 * r2 + z22 + 10500 : Int) ≤ 6 * r2 + (-1) * z20 + 11500 := Zleqt h426 h491 g54
                                            clear g54
                                            refine ask_t (Pleq h491 h497 (fw_t131 b_r2 b_z20 b_z22)) ?_
                                            refine ⟨fun g56 => ?_, fun g56 => ?_⟩
                                            · have k56 : (6 * r2 + z22 + 12500 : Int) ≤ 7 * r2 + (-1) * z20 + 13500 := Zleqt h497 h562 g56
                                              clear g56
                                              refine ask_t (Pleq h562 h568 (fw_t153 b_r2 b_z20 b_z22)) ?_
                                              refine ask_t (Pleq h568 (Zc 10000000) (fw_t154 b_r2 b_z22)) ?_
                                              refine ⟨fun g59 => ?_, fun g59 => ?_⟩
                                              · have k59 : (8 : Int) = u8 := Zeqlt (Zc 8) h12 g59
                                                clear g59
                                                refine ask_f (Neql h8 (Zc 0) (fw_t22 b_r4 b_r6)) ?_
                                                refine ⟨fun g61 => ?_, fun g61 => ?_⟩
                                                · have k61 : ((-1000) * z16 + (-1000) * z20 : Int) ≤ 1000 * z18 + 1000 * z22 := Zleqt h573 h578 g61
                                                  clear g61
                                                  refine ⟨fun g62 => ?_, fun g62 => ?_⟩
                                                  · have k62 : (0 : Int) ≤ 1000 * z16 + 1000 * z18 + 1000 * z20 + 1000 * z22 := Zleqt (Zc 0) h579 g62
                                                    clear g62
                                                    refine ⟨fun g63 => ?_, fun g63 => ?_⟩
                                                    · have k63 : (z23 : Int) ≤ r10 := Zleqt h594 h14 g63
                                                      clear g63
                                                      refine ⟨fun g64 => ?_, fun g64 => ?_⟩
                                                      · have k64 : (r12 : Int) ≤ (-1) * z26 := Zleqt h16 h608 g64
                                                        clear g64
                                                        refine ⟨fun g65 => ?_, fun g65 => ?_⟩
                                                        · have k65 : (r10 : Int) ≤ r12 := Zleqt h14 h16 g65
                                                          clear g65
                                                          refine ⟨fun g66 => ?_, fun g66 => ?_⟩
                                                          · have k66 : (m15 + m17 + (-1) * m19 + (-1) * m21 + r10 + (-1) * r12 : Int) ≤ 4000 := Zleqt h111 (Zc 4000) g66
                                                            clear g66
                                                            exact rfl
                                                          · have k66 : ¬ ((m15 + m17 + (-1) * m19 + (-1) * m21 + r10 + (-1) * r12 : Int) ≤ 4000) := Zleqf h111 (Zc 4000) g66
                                                            clear g66
                                                            exact fw_d97 b_m15 b_m17 b_m19 b_m21 b_m24 b_m25 b_m27 b_m28 b_r10 b_r12 b_r2 b_r4 b_r6 b_z16 b_z18 b_z20 b_z22 b_z23 b_z26 k63 k64 k65 k66 m15f1 m15f2 m15f3 m15f4 m17f1 m17f2 m17f3 m17f4 m19f1 m19f2 m19f3 m19f4 m21f1 m21f2 m21f3 m21f4 z23s z26s k27 k29 k31 k33 k35 k37 k39 k44 k46 k48 k50 k52 k54 k56 k61 k62 z16s z18s m24f1 m24f2 m24f3 m24f4 m25f1 m25f2 m25f3 m25f4 z20s z22s m27f1 m27f2 m27f3 m27f4 m28f1 m28f2 m28f3 m28f4
                                                        · have k65 : ¬ ((r10 : Int) ≤ r12) := Zleqf h14 h16 g65
                                                          clear g65
                                                          refine ⟨fun g66 => ?_, fun g66 => ?_⟩
                                                          · have k66 : (m15 + m17 + (-1) * m19 + (-1) * m21 + r10 + (-1) * r12 : Int) ≤ 4000 := Zleqt h111 (Zc 4000) g66
                                                            clear g66
                                                            exact rfl
                                                          · have k66 : ¬ ((m15 + m17 + (-1) * m19 + (-1) * m21 + r10 + (-1) * r12 : Int) ≤ 4000) := Zleqf h111 (Zc 4000) g66
                                                            clear g66
                                                            exact fw_d98 b_m15 b_m17 b_m19 b_m21 b_m24 b_m25 b_m27 b_m28 b_r10 b_r12 b_r2 b_r4 b_r6 b_z16 b_z18 b_z20 b_z22 b_z23 b_z26 k63 k64 k65 k66 m15f1 m15f2 m15f3 m15f4 m17f1 m17f2 m17f3 m17f4 m19f1 m19f2 m19f3 m19f4 m21f1 m21f2 m21f3 m21f4 z23s z26s k27 k29 k31 k33 k35 k37 k39 k44 k46 k48 k50 k52 k54 k56 k61 k62 z16s z18s m24f1 m24f2 m24f3 m24f4 m25f1 m25f2 m25f3 m25f4 z20s z22s m27f1 m27f2 m27f3 m27f4 m28f1 m28f2 m28f3 m28f4
                                                      · have k64 : ¬ ((r12 : Int) ≤ (-1) * z26) := Zleqf h16 h608 g64
                                                        clear g64
                                                        have f64_0 := fw_f25 b_r12 b_z26 b_r4 b_m19 b_m27 k64 m19e m27e
                                                        have f64_1 := fw_f26 b_r12 b_z26 b_r6 b_m21 b_m28 k64 m21e m28e
                                                        exact fw_d99 b_m15 b_m17 b_m19 b_m21 b_m24 b_m25 b_m27 b_m28 b_r10 b_r12 b_r2 b_r4 b_r6 b_z16 b_z18 b_z20 b_z22 b_z23 b_z26 k64 z26s k27 k29 k31 k33 k35 k37 k39 k44 k46 k48 k50 k52 k54 k56 k61 k62 f64_0 f64_1 z20s z22s m27f1 m27f2 m27f3 m27f4 m28f1 m28f2 m28f3 m28f4 z18s z16s m19f1 m19f2 m19f3 m19f4 m21f1 m21f2 m21f3 m21f4 k63 m17f1 m17f2 m17f3 m17f4 m15f1 m15f2 m15f3 m15f4 z23s m24f1 m24f2 m24f3 m24f4 m25f1 m25f2 m25f3 m25f4
                                                    · have k63 : ¬ ((z23 : Int) ≤ r10) := Zleqf h594 h14 g63
                                                      clear g63
                                                      have f63_0 := fw_f28 b_r10 b_z23 b_r4 b_m15 b_m24 k63 m15e m24e
                                                      have f63_1 := fw_f29 b_r10 b_z23 b_r6 b_m17 b_m25 k63 m17e m25e
                                                      exact fw_d100 b_m15 b_m17 b_m19 b_m21 b_m24 b_m25 b_r10 b_r12 b_r2 b_r4 b_r6 b_z16 b_z18 b_z20 b_z22 b_z23 k63 z23s k27 k29 k31 k33 k35 k37 k39 k44 k46 k48 k50 k52 k54 k56 k61 k62 f63_0 f63_1 z16s z18s m24f1 m24f2 m24f3 m24f4 m25f1 m25f2 m25f3 m25f4 z22s z20s m15f1 m15f2 m15f3 m15f4 m17f1 m17f2 m17f3 m17f4 m21f1 m21f2 m21f3 m21f4 m19f1 m19f2 m19f3 m19f4
                                                  · have k62 : ¬ ((0 : Int) ≤ 1000 * z16 + 1000 * z18 + 1000 * z20 + 1000 * z22) := Zleqf (Zc 0) h579 g62
                                                    clear g62
                                                    exact fw_d101 b_m15 b_m17 b_m19 b_m21 b_r10 b_r12 b_r2 b_r4 b_r6 b_z16 b_z18 b_z20 b_z22 k27 k29 k31 k33 k35 k37 k39 k44 k46 k48 k50 k52 k54 k56 k61 k62 z16s z18s z20s z22s m15f1 m15f2 m15f3 m15f4 m17f1 m17f2 m17f3 m17f4 m19f1 m19f2 m19f3 m19f4 m21f1 m21f2 m21f3 m21f4
                                                · have k61 : ¬ (((-1000) * z16 + (-1000) * z20 : Int) ≤ 1000 * z18 + 1000 * z22) := Zleqf h573 h578 g61
                                                  clear g61
                                                  refine ⟨fun g62 => ?_, fun g62 => ?_⟩
                                                  · have k62 : (0 : Int) ≤ 1000 * z16 + 1000 * z18 + 1000 * z20 + 1000 * z22 := Zleqt (Zc 0) h579 g62
                                                    clear g62
                                                    exact fw_d102 b_m15 b_m17 b_m19 b_m21 b_r10 b_r12 b_r2 b_r4 b_r6 b_z16 b_z18 b_z20 b_z22 k27 k29 k31 k33 k35 k37 k39 k44 k46 k48 k50 k52 k54 k56 k61 k62 z16s z18s z20s z22s m15f1 m15f2 m15f3 m15f4 m17f1 m17f2 m17f3 m17f4 m19f1 m19f2 m19f3 m19f4 m21f1 m21f2 m21f3 m21f4
                                                  · have k62 : ¬ ((0 : Int) ≤ 1000 * z16 + 1000 * z18 + 1000 * z20 + 1000 * z22) := Zleqf (Zc 0) h579 g62
                                                    clear g62
                                                    refine ⟨fun g63 => ?_, fun g63 => ?_⟩
                                                    · have k63 : (z23 : Int) ≤ r10 := Zleqt h594 h14 g63
                                                      clear g63
                                                      refine ⟨fun g64 => ?_, fun g64 => ?_⟩
                                                      · have k64 : (r12 : Int) ≤ (-1) * z26 := Zleqt h16 h608 g64
                                                        clear g64
                                                        refine ⟨fun g65 => ?_, fun g65 => ?_⟩
                                                        · have k65 : (r10 : Int) ≤ r12 := Zleqt h14 h16 g65
                                                          clear g65
                                                          have f65_0 := fw_f33 b_r10 b_r12 b_r4 b_m15 b_m19 k65 m15e m19e
                                                          have f65_1 := fw_f34 b_r10 b_r12 b_r6 b_m17 b_m21 k65 m17e m21e
                                                          exact fw_d103 b_m15 b_m17 b_m19 b_m21 b_m24 b_m25 b_m27 b_m28 b_r10 b_r12 b_r2 b_r4 b_r6 b_z16 b_z18 b_z20 b_z22 b_z23 b_z26 k63 k64 k65 z23s z26s k27 k29 k31 k33 k35 k37 k39 k44 k46 k48 k50 k52 k54 k56 k61 k62 z16s z18s m24f1 m24f2 m24f3 m24f4 m25f1 m25f2 m25f3 m25f4 z20s z22s m27f1 m27f2 m27f3 m27f4 m28f1 m28f2 m28f3 m28f4 f65_0 f65_1 m15f1 m15f2 m15f3 m15f4 m17f1 m17f2 m17f3 m17f4 m19f1 m19f2 m19f3 m19f4 m21f1 m21f2 m21f3 m21f4
                                                        · have k65 : ¬ ((r10 : Int) ≤ r12) := Zleqf h14 h16 g65
                                                          clear g65
                                                          refine ⟨fun g66 => ?_, fun g66 => ?_⟩
                                                          · have k66 : (m15 + m17 + (-1) * m19 + (-1) * m21 + r10 + (-1) * r12 : Int) ≤ 4000 := Zleqt h111 (Zc 4000) g66
                                                            clear g66
                                                            exact rfl
                                                          · have k66 : ¬ ((m15 + m17 + (-1) * m19 + (-1) * m21 + r10 + (-1) * r12 : Int) ≤ 4000) := Zleqf h111 (Zc 4000) g66
                                                            clear g66
                                                            exact rfl
                                                      · have k64 : ¬ ((r12 : Int) ≤ (-1) * z26) := Zleqf h16 h608 g64
                                                        clear g64
                                                        have f64_0 := fw_f25 b_r12 b_z26 b_r4 b_m19 b_m27 k64 m19e m27e
                                                        have f64_1 := fw_f26 b_r12 b_z26 b_r6 b_m21 b_m28 k64 m21e m28e
                                                        exact fw_d104 b_m15 b_m17 b_m19 b_m21 b_m24 b_m25 b_m27 b_m28 b_r10 b_r12 b_r2 b_r4 b_r6 b_z16 b_z18 b_z20 b_z22 b_z23 b_z26 k64 z26s k27 k29 k31 k33 k35 k37 k39 k44 k46 k48 k50 k52 k54 k56 k61 k62 f64_0 f64_1 z20s z22s m27f1 m27f2 m27f3 m27f4 m28f1 m28f2 m28f3 m28f4 z18s z16s m19f1 m19f2 m19f3 m19f4 m21f1 m21f2 m21f3 m21f4 k63 m17f1 m17f2 m17f3 m17f4 m15f1 m15f2 m15f3 m15f4 z23s m24f1 m24f2 m24f3 m24f4 m25f1 m25f2 m25f3 m25f4
                                                    · have k63 : ¬ ((z23 : Int) ≤ r10) := Zleqf h594 h14 g63
                                                      clear g63
                                                      have f63_0 := fw_f28 b_r10 b_z23 b_r4 b_m15 b_m24 k63 m15e m24e
                                                      have f63_1 := fw_f29 b_r10 b_z23 b_r6 b_m17 b_m25 k63 m17e m25e
                                                      exact fw_d105 b_m15 b_m17 b_m19 b_m21 b_m24 b_m25 b_r10 b_r12 b_r2 b_r4 b_r6 b_z16 b_z18 b_z20 b_z22 b_z23 k63 z23s k27 k29 k31 k33 k35 k37 k39 k44 k46 k48 k50 k52 k54 k56 k61 k62 f63_0 f63_1 z16s z18s m24f1 m24f2 m24f3 m24f4 m25f1 m25f2 m25f3 m25f4 z22s z20s m15f1 m15f2 m15f3 m15f4 m17f1 m17f2 m17f3 m17f4 m21f1 m21f2 m21f3 m21f4 m19f1 m19f2 m19f3 m19f4
                                              · have k59 : ¬ ((8 : Int) = u8) := Zeqlf (Zc 8) h12 g59
                                                clear g59
                                                exact fw_d106 b_u7 b_u8 b_x3 k17 k18 k19 k20 k21 k22 k23 k59 u8s u7s
                                            · have k56 : ¬ ((6 * r2 + z22 + 12500 : Int) ≤ 7 * r2 + (-1) * z20 + 13500) := Zleqf h497 h562 g56
                                              clear g56
                                              exact fw_d107 b_m15 b_m17 b_m19 b_m21 b_r10 b_r12 b_r2 b_r4 b_r6 b_z16 b_z18 b_z20 b_z22 k27 k29 k31 k33 k35 k37 k39 k44 k46 k48 k50 k52 k54 k56 z22s z20s z18s z16s m21f1 m21f2 m21f3 m21f4 m19f1 m19f2 m19f3 m19f4 m17f1 m17f2 m17f3 m17f4 m15f1 m15f2 m15f3 m15f4
                                          · have k54 : ¬ ((5 * r2 + z22 + 10500 : Int) ≤ 6 * r2 + (-1) * z20 + 11500) := Zleqf h426 h491 g54
                                            clear g54
                                            exact fw_d108 b_m15 b_m17 b_m19 b_m21 b_r10 b_r12 b_r2 b_r4 b_r6 b_z16 b_z18 b_z20 b_z22 k27 k29 k31 k33 k35 k37 k39 k44 k46 k48 k50 k52 k54 z22s z20s z18s z16s m21f1 m21f2 m21f3 m21f4 m19f1 m19f2 m19f3 m19f4 m17f1 m17f2 m17f3 m17f4 m15f1 m15f2 m15f3 m15f4
                                        · have k52 : ¬ ((4 * r2 + z22 + 8500 : Int) ≤ 5 * r2 + (-1) * z20 + 9500) := Zleqf h355 h420 g52
                                          clear g52
                                          exact fw_d109 b_m15 b_m17 b_m19 b_m21 b_r10 b_r12 b_r2 b_r4 b_r6 b_z16 b_z18 b_z20 b_z22 k27 k29 k31 k33 k35 k37 k39 k44 k46 k48 k50 k52 z22s z20s z18s z16s m21f1 m21f2 m21f3 m21f4 m19f1 m19f2 m19f3 m19f4 m17f1 m17f2 m17f3 m17f4 m15f1 m15f2 m15f3 m15f4
                                      · have k50 : ¬ ((3 * r2 + z22 + 6500 : Int) ≤ 4 * r2 + (-1) * z20 + 7500) := Zleqf h284 h349 g50
                                        clear g50
                                        exact fw_d110 b_m15 b_m17 b_m19 b_m21 b_r10 b_r12 b_r2 b_r4 b_r6 b_z16 b_z18 b_z20 b_z22 k27 k29 k31 k33 k35 k37 k39 k44 k46 k48 k50 z22s z20s z18s z16s m21f1 m21f2 m21f3 m21f4 m19f1 m19f2 m19f3 m19f4 m17f1 m17f2 m17f3 m17f4 m15f1 m15f2 m15f3 m15f4
                                    · have k48 : ¬ ((2 * r2 + z22 + 4500 : Int) ≤ 3 * r2 + (-1) * z20 + 5500) := Zleqf h213 h278 g48
                                      clear g48
                                      exact fw_d111 b_m15 b_m17 b_m19 b_m21 b_r10 b_r12 b_r2 b_r4 b_r6 b_z16 b_z18 b_z20 b_z22 k27 k29 k31 k33 k35 k37 k39 k44 k46 k48 z22s z20s z18s z16s m21f1 m21f2 m21f3 m21f4 m19f1 m19f2 m19f3 m19f4 m17f1 m17f2 m17f3 m17f4 m15f1 m15f2 m15f3 m15f4
                                  · have k46 : ¬ ((r2 + z22 + 2500 : Int) ≤ 2 * r2 + (-1) * z20 + 3500) := Zleqf h142 h207 g46
                                    clear g46
                                    exact fw_d112 b_m15 b_m17 b_m19 b_m21 b_r10 b_r12 b_r2 b_r4 b_r6 b_z16 b_z18 b_z20 b_z22 k27 k29 k31 k33 k35 k37 k39 k44 k46 z22s z20s z18s z16s m21f1 m21f2 m21f3 m21f4 m19f1 m19f2 m19f3 m19f4 m17f1 m17f2 m17f3 m17f4 m15f1 m15f2 m15f3 m15f4
                                · have k44 : ¬ ((z22 + 500 : Int) ≤ r2 + (-1) * z20 + 1500) := Zleqf h59 h136 g44
                                  clear g44
                                  exact fw_d113 b_m15 b_m17 b_m19 b_m21 b_r10 b_r12 b_r2 b_r4 b_r6 b_z16 b_z18 b_z20 b_z22 k27 k29 k31 k33 k35 k37 k39 k44 z22s z20s z18s z16s m21f1 m21f2 m21f3 m21f4 m19f1 m19f2 m19f3 m19f4 m17f1 m17f2 m17f3 m17f4 m15f1 m15f2 m15f3 m15f4
                              · have k39 : ¬ ((6 * r2 + (-1) * z18 + 12500 : Int) ≤ 7 * r2 + z16 + 13500) := Zleqf h483 h545 g39
                                clear g39
                                exact fw_d114 b_m15 b_m17 b_r10 b_r2 b_r4 b_r6 b_z16 b_z18 k27 k29 k31 k33 k35 k37 k39 z18s z16s m17f1 m17f2 m17f3 m17f4 m15f1 m15f2 m15f3 m15f4
                            · have k37 : ¬ ((5 * r2 + (-1) * z18 + 10500 : Int) ≤ 6 * r2 + z16 + 11500) := Zleqf h412 h474 g37
                              clear g37
                              exact fw_d96 b_m15 b_m17 b_r10 b_r2 b_r4 b_r6 b_z16 b_z18 k27 k29 k31 k33 k35 k37 z18s z16s m17f1 m17f2 m17f3 m17f4 m15f1 m15f2 m15f3 m15f4
                          · have k35 : ¬ ((4 * r2 + (-1) * z18 + 8500 : Int) ≤ 5 * r2 + z16 + 9500) := Zleqf h341 h403 g35
                            clear g35
                            exact fw_d79 b_m15 b_m17 b_r10 b_r2 b_r4 b_r6 b_z16 b_z18 k27 k29 k31 k33 k35 z18s z16s m17f1 m17f2 m17f3 m17f4 m15f1 m15f2 m15f3 m15f4
                        · have k33 : ¬ ((3 * r2 + (-1) * z18 + 6500 : Int) ≤ 4 * r2 + z16 + 7500) := Zleqf h270 h332 g33
                          clear g33
                          exact fw_d63 b_m15 b_m17 b_r10 b_r2 b_r4 b_r6 b_z16 b_z18 k27 k29 k31 k33 z18s z16s m17f1 m17f2 m17f3 m17f4 m15f1 m15f2 m15f3 m15f4
                      · have k31 : ¬ ((2 * r2 + (-1) * z18 + 4500 : Int) ≤ 3 * r2 + z16 + 5500) := Zleqf h199 h261 g31
                        clear g31
                        exact fw_d48 b_m15 b_m17 b_r10 b_r2 b_r4 b_r6 b_z16 b_z18 k27 k29 k31 z18s z16s m17f1 m17f2 m17f3 m17f4 m15f1 m15f2 m15f3 m15f4
                    · have k29 : ¬ ((r2 + (-1) * z18 + 2500 : Int) ≤ 2 * r2 + z16 + 3500) := Zleqf h128 h190 g29
                      clear g29
                      exact fw_d34 b_m15 b_m17 b_r10 b_r2 b_r4 b_r6 b_z16 b_z18 k27 k29 z18s z16s m17f1 m17f2 m17f3 m17f4 m15f1 m15f2 m15f3 m15f4
                  · have k27 : ¬ (((-1) * z18 + 500 : Int) ≤ r2 + z16 + 1500) := Zleqf h43 h119 g27
                    clear g27
                    exact fw_d21 b_m15 b_m17 b_r10 b_r2 b_r4 b_r6 b_z16 b_z18 k27 z18s z16s m17f1 m17f2 m17f3 m17f4 m15f1 m15f2 m15f3 m15f4
  · have k14 : ¬ ((u13 : Int) ≤ u14) := Zleqf h21 h22 g14
    clear g14
    exact fw_d115 b_u13 b_u14 b_x8 b_x9 k14 u13s u14s
end Go.Proofs.Ytbgmkhcjghmncaa.Cx
