/- TopBoltZone: the tests of the law and their arithmetic. Made by tools/cxroot.py. -/
import Derived.Test.YtknphpihipkdpaaBZoneTN
set_option linter.unusedSimpArgs false
set_option linter.unusedVariables false
set_option maxRecDepth 100000
set_option maxHeartbeats 4000000
namespace Go.Proofs.Ytknphpihipkdpaa.Cx
open Go Go.RowKit

theorem bz_goal {ρ : Env} {x0 x1 x2 x3 x4 x5 x6 x7 x8 x9 x10 x11 x12 x13 : Int} (e0 : Is ρ (.v 0) x0) (b_x0 : 0 ≤ x0 ∧ x0 ≤ 255) (e1 : Is ρ (.v 1) x1) (b_x1 : 0 ≤ x1 ∧ x1 ≤ 255) (e2 : Is ρ (.v 2) x2) (b_x2 : 0 ≤ x2 ∧ x2 ≤ 255) (e3 : Is ρ (.v 3) x3) (b_x3 : 0 ≤ x3 ∧ x3 ≤ 255) (e4 : Is ρ (.v 4) x4) (b_x4 : 0 ≤ x4 ∧ x4 ≤ 255) (e5 : Is ρ (.v 5) x5) (b_x5 : 0 ≤ x5 ∧ x5 ≤ 255) (e6 : Is ρ (.v 6) x6) (b_x6 : 0 ≤ x6 ∧ x6 ≤ 255) (e7 : Is ρ (.v 7) x7) (b_x7 : 0 ≤ x7 ∧ x7 ≤ 255) (e8 : Is ρ (.v 8) x8) (b_x8 : 0 ≤ x8 ∧ x8 ≤ 255) (e9 : Is ρ (.v 9) x9) (b_x9 : 0 ≤ x9 ∧ x9 ≤ 65535) (e10 : Is ρ (.v 10) x10) (b_x10 : 0 ≤ x10 ∧ x10 ≤ 65535) (e11 : Is ρ (.v 11) x11) (b_x11 : 0 ≤ x11 ∧ x11 ≤ 255) (e12 : Is ρ (.v 12) x12) (b_x12 : 0 ≤ x12 ∧ x12 ≤ 255) (e13 : Is ρ (.v 13) x13) (b_x13 : 0 ≤ x13 ∧ x13 ≤ 255) : bzTree.goal ρ := by
  obtain ⟨q1, r2, q1e, r2e, q1s, b_q1, b_r2⟩ := bz_aq1 b_x4
  obtain ⟨q3, r4, q3e, r4e, q3s, b_q3, b_r4⟩ := bz_aq3 b_x6
  obtain ⟨q5, r6, q5e, r6e, q5s, b_q5, b_r6⟩ := bz_aq5 b_x8
  obtain ⟨q7, r8, q7e, r8e, q7s, b_q7, b_r8⟩ := bz_aq7 b_x9
  obtain ⟨q9, r10, q9e, r10e, q9s, b_q9, b_r10⟩ := bz_aq9 b_x10
  obtain ⟨m11, m11e, m11f1, m11f2, m11f3, m11f4, b_m11⟩ := bz_am11 b_r2 b_x1
  obtain ⟨m12, m12e, m12f1, m12f2, m12f3, m12f4, b_m12⟩ := bz_am12 b_x1 b_x3
  obtain ⟨w13, w13s, b_w13⟩ := bz_aw13 b_m11 b_m12
  obtain ⟨m14, m14e, m14f1, m14f2, m14f3, m14f4, b_m14⟩ := bz_am14 b_r4 b_x2
  obtain ⟨m15, m15e, m15f1, m15f2, m15f3, m15f4, b_m15⟩ := bz_am15 b_x2 b_x5
  obtain ⟨w16, w16s, b_w16⟩ := bz_aw16 b_m14 b_m15
  obtain ⟨m17, m17e, m17f1, m17f2, m17f3, m17f4, b_m17⟩ := bz_am17 b_q7 b_w13
  obtain ⟨m18, m18e, m18f1, m18f2, m18f3, m18f4, b_m18⟩ := bz_am18 b_q7 b_w16
  obtain ⟨w19, w19s, b_w19⟩ := bz_aw19 b_m17 b_m18 b_q7
  obtain ⟨z20, z20s, b_z20⟩ := bz_az20 b_w19
  obtain ⟨w21, w21s, b_w21⟩ := bz_aw21 b_m12
  obtain ⟨w22, w22s, b_w22⟩ := bz_aw22 b_m15
  obtain ⟨u23, u23s, b_u23⟩ := bz_au23 b_q7 b_q9
  obtain ⟨m24, m24e, m24f1, m24f2, m24f3, m24f4, b_m24⟩ := bz_am24 b_u23 b_w21
  obtain ⟨m25, m25e, m25f1, m25f2, m25f3, m25f4, b_m25⟩ := bz_am25 b_u23 b_w22
  obtain ⟨w26, w26s, b_w26⟩ := bz_aw26 b_m24 b_m25 b_u23 b_w21 b_w22
  obtain ⟨z27, z27s, b_z27⟩ := bz_az27 b_w26
  obtain ⟨q28, r29, q28e, r29e, q28s, b_q28, b_r29⟩ := bz_aq28 b_x11
  obtain ⟨q30, r31, q30e, r31e, q30s, b_q30, b_r31⟩ := bz_aq30 b_x12
  obtain ⟨z32, z32s, b_z32⟩ := bz_az32 b_r29
  obtain ⟨z33, z33s, b_z33⟩ := bz_az33 b_r29 b_r31
  obtain ⟨q34, r35, q34e, r35e, q34s, b_q34, b_r35⟩ := bz_aq34 b_r2
  obtain ⟨m36, m36e, m36f1, m36f2, m36f3, m36f4, b_m36⟩ := bz_am36 b_q34 b_x1
  obtain ⟨w37, w37s, b_w37⟩ := bz_aw37 b_m12 b_m36
  obtain ⟨w38, w38s, b_w38⟩ := bz_aw38 
  obtain ⟨w39, w39s, b_w39⟩ := bz_aw39 b_w16 b_w37
  obtain ⟨q40, q40e, q40h, b_q40⟩ := bz_aq40 b_w38 b_w39
  obtain ⟨m41, m41e, m41f1, m41f2, m41f3, m41f4, b_m41⟩ := bz_am41 b_q40 b_w39
  have q40d := qD_is q40h m41e.out
  obtain ⟨w42, w42s, b_w42⟩ := bz_aw42 
  obtain ⟨w43, w43s, b_w43⟩ := bz_aw43 b_w21 b_w22
  obtain ⟨q44, q44e, q44h, b_q44⟩ := bz_aq44 b_w42 b_w43
  obtain ⟨m45, m45e, m45f1, m45f2, m45f3, m45f4, b_m45⟩ := bz_am45 b_q44 b_w43
  have q44d := qD_is q44h m45e.out
  obtain ⟨u46, u46s, b_u46⟩ := bz_au46 b_z27
  obtain ⟨w47, w47s, b_w47⟩ := bz_aw47 b_u46
  obtain ⟨q48, q48e, q48h, b_q48⟩ := bz_aq48 b_w47 b_w39
  obtain ⟨m49, m49e, m49f1, m49f2, m49f3, m49f4, b_m49⟩ := bz_am49 b_q48 b_w39
  have q48d := qD_is q48h m49e.out
  obtain ⟨w50, w50s, b_w50⟩ := bz_aw50 b_z27
  obtain ⟨q51, q51e, q51h, b_q51⟩ := bz_aq51 b_w50 b_w43
  obtain ⟨m52, m52e, m52f1, m52f2, m52f3, m52f4, b_m52⟩ := bz_am52 b_q51 b_w43
  have q51d := qD_is q51h m52e.out
  obtain ⟨m53, m53e, m53f1, m53f2, m53f3, m53f4, b_m53⟩ := bz_am53 b_q7 b_w37
  obtain ⟨w54, w54s, b_w54⟩ := bz_aw54 b_m18 b_m53 b_q7
  obtain ⟨z55, z55s, b_z55⟩ := bz_az55 b_w54
  obtain ⟨w56, w56s, b_w56⟩ := bz_aw56 b_w13 b_w16
  obtain ⟨q57, q57e, q57h, b_q57⟩ := bz_aq57 b_w38 b_w56
  obtain ⟨m58, m58e, m58f1, m58f2, m58f3, m58f4, b_m58⟩ := bz_am58 b_q57 b_w56
  have q57d := qD_is q57h m58e.out
  obtain ⟨w59, w59s, b_w59⟩ := bz_aw59 b_w22 b_w37
  obtain ⟨q60, q60e, q60h, b_q60⟩ := bz_aq60 b_w42 b_w59
  obtain ⟨m61, m61e, m61f1, m61f2, m61f3, m61f4, b_m61⟩ := bz_am61 b_q60 b_w59
  have q60d := qD_is q60h m61e.out
  obtain ⟨q62, q62e, q62h, b_q62⟩ := bz_aq62 b_w47 b_w56
  obtain ⟨m63, m63e, m63f1, m63f2, m63f3, m63f4, b_m63⟩ := bz_am63 b_q62 b_w56
  have q62d := qD_is q62h m63e.out
  obtain ⟨q64, q64e, q64h, b_q64⟩ := bz_aq64 b_w50 b_w59
  obtain ⟨m65, m65e, m65f1, m65f2, m65f3, m65f4, b_m65⟩ := bz_am65 b_q64 b_w59
  have q64d := qD_is q64h m65e.out
  obtain ⟨m66, m66e, m66f1, m66f2, m66f3, m66f4, b_m66⟩ := bz_am66 b_u23 b_w37
  obtain ⟨w67, w67s, b_w67⟩ := bz_aw67 b_m25 b_m66 b_u23 b_w22 b_w37
  obtain ⟨z68, z68s, b_z68⟩ := bz_az68 b_w67
  obtain ⟨w69, w69s, b_w69⟩ := bz_aw69 b_z20
  obtain ⟨q70, q70e, q70h, b_q70⟩ := bz_aq70 b_w69 b_w39
  obtain ⟨m71, m71e, m71f1, m71f2, m71f3, m71f4, b_m71⟩ := bz_am71 b_q70 b_w39
  have q70d := qD_is q70h m71e.out
  obtain ⟨w72, w72s, b_w72⟩ := bz_aw72 b_z20
  obtain ⟨q73, q73e, q73h, b_q73⟩ := bz_aq73 b_w72 b_w43
  obtain ⟨m74, m74e, m74f1, m74f2, m74f3, m74f4, b_m74⟩ := bz_am74 b_q73 b_w43
  have q73d := qD_is q73h m74e.out
  obtain ⟨q75, q75e, q75h, b_q75⟩ := bz_aq75 b_w69 b_w56
  obtain ⟨m76, m76e, m76f1, m76f2, m76f3, m76f4, b_m76⟩ := bz_am76 b_q75 b_w56
  have q75d := qD_is q75h m76e.out
  obtain ⟨q77, q77e, q77h, b_q77⟩ := bz_aq77 b_w72 b_w59
  obtain ⟨m78, m78e, m78f1, m78f2, m78f3, m78f4, b_m78⟩ := bz_am78 b_q77 b_w59
  have q77d := qD_is q77h m78e.out
  have rf1 := bz_rf1 b_r2 b_r35 q34s
  have rf1_0 := bz_rf1_0 b_x1 rf1 m36e m11e
  have rf2 := bz_rf2  w13s w37s rf1_0
  have rf2_0 := bz_rf2_0 b_q7 rf2 m17e m53e
  have rf3 := bz_rf3 b_m36 w21s w37s
  have rf3_0 := bz_rf3_0 b_u23 rf3 m24e m66e
  have rf4 := bz_rf4 b_w39 q40h m18e m53e w39s
  have rf5 := bz_rf5 b_w43 q44h m24e m25e w43s
  have rf6 := bz_rf6 b_w39 q48h m18e m53e w39s
  have rf7 := bz_rf7 b_w43 q51h m24e m25e w43s
  have rf8 := bz_rf8 b_w56 q57h m17e m18e w56s
  have rf9 := bz_rf9 b_w59 q60h m25e m66e w59s
  have rf10 := bz_rf10 b_w56 q62h m17e m18e w56s
  have rf11 := bz_rf11 b_w59 q64h m25e m66e w59s
  have rf12 := bz_rf12 b_w39 q70h m18e m53e w39s
  have rf13 := bz_rf13 b_w43 q73h m24e m25e w43s
  have rf14 := bz_rf14 b_w56 q75h m17e m18e w56s
  have rf15 := bz_rf15 b_w59 q77h m25e m66e w59s
  obtain ⟨h1, h3, h4, h7, h8, h11, h13, h16, h18, h21, h25, h31, h37, h46, h48, h50, h53, h62, h69, h70, h71, h74, h77, h79, h81, h83, h84, h87, h90, h96, h98, h100, h102, h104, h106, h115, h117, h119, h120, h123, h126, h128, h130, h132⟩ := bz_g0 (ρ := ρ) e1 e2 e3 e4 r2e e5 e6 r4e e7 e8 r6e e9 q7e e10 q9e m11e m12e ⟨w13s⟩ m14e m15e ⟨w16s⟩ m17e m18e ⟨w19s⟩ ⟨z20s⟩ ⟨w21s⟩ ⟨w22s⟩ ⟨u23s⟩ m24e m25e ⟨w26s⟩ ⟨z27s⟩ e13 e11 r29e e12 r31e ⟨z32s⟩ ⟨z33s⟩ q34e m36e ⟨w37s⟩ q40e ⟨w38s⟩ ⟨w39s⟩ q44e ⟨w42s⟩ ⟨w43s⟩ ⟨u46s⟩ q48e ⟨w47s⟩ q51e ⟨w50s⟩ m53e ⟨w54s⟩ ⟨z55s⟩ q57e ⟨w56s⟩ q60e ⟨w59s⟩ q62e q64e m66e ⟨w67s⟩ ⟨z68s⟩ q70e ⟨w69s⟩ q73e ⟨w72s⟩ q75e q77e b_x1 b_x2 b_x3 b_x4 b_r2 b_x5 b_x6 b_r4 b_x7 b_x8 b_r6 b_x9 b_q7 b_x10 b_q9 b_w13 b_m11 b_m12 b_w16 b_m14 b_m15 b_w19 b_m17 b_m18 b_z20 b_w21 b_w22 b_u23 b_w26 b_m24 b_m25 b_z27 b_x13 b_x11 b_r29 b_x12 b_r31 b_z32 b_z33 b_q34 b_w37 b_m36 b_q40 b_w38 b_w39 b_q44 b_w42 b_w43 b_u46 b_q48 b_w47 b_q51 b_w50 b_w54 b_m53 b_z55 b_q57 b_w56 b_q60 b_w59 b_q62 b_q64 b_w67 b_m66 b_z68 b_q70 b_w69 b_q73 b_w72 b_q75 b_q77
  refine aT (Pleq (Zc 0) h1 (bz_t6 b_x1)) ?_
  refine aT (Pleq h1 (Zc 100000) (bz_t7 b_x1)) ?_
  refine aT (Pleq (Zc 0) h3 (bz_t8 b_x2)) ?_
  refine aT (Pleq h3 (Zc 100000) (bz_t9 b_x2)) ?_
  refine aT (Pleq (Zc 0) h4 (bz_t10 b_x3)) ?_
  refine aT (Pleq h4 h7 (bz_t11 b_x3 b_r2)) ?_
  refine aT (Pleq h7 (Zc 1000) (bz_t12 b_r2 b_x3)) ?_
  refine aT (Pleq (Zc 0) h8 (bz_t13 b_x5)) ?_
  refine aT (Pleq h8 h11 (bz_t14 b_x5 b_r4)) ?_
  refine aT (Pleq h11 (Zc 1000) (bz_t15 b_r4 b_x5)) ?_
  refine aT (Pleq (Zc 1) h13 (bz_t16 b_x7)) ?_
  refine aT (Pleq h13 h16 (bz_t17 b_x7 b_r6)) ?_
  refine aT (Pleq h16 (Zc 100000) (bz_t18 b_r6 b_x7)) ?_
  refine aT (Pleq (Zc 0) h18 (bz_t19 b_q7)) ?_
  refine aT (Pleq h18 h21 (bz_t20 b_q7 b_q9)) ?_
  refine aT (Pleq h21 (Zc 100000000) (bz_t21 b_q7 b_q9)) ?_
  refine ask_p (fun g => ?_) (fun g => ?_)
  · have k16 := Zleqt h31 (Zc 0) g; clear g
    refine aT (Pleq (Zc 0) h46 (bz_d0 b_u23 b_w21 b_w22 z27s w26s m24f3 m25f3)) ?_
    refine aT (Pleq (Zc 90000) h48 (bz_t22 b_x13)) ?_
    refine aT (Pleq h48 (Zc 20000000) (bz_t23 b_x13)) ?_
    refine aT (Pleq (Zc 0) h50 (bz_t24 b_r29)) ?_
    refine aT (Pleq h50 h53 (bz_t25 b_r29 b_r31)) ?_
    refine aT (Pleq h53 (Zc 10000) (bz_t26 b_r29 b_r31)) ?_
    refine ask_q (fun g => ?_) (fun g => ?_)
    · have k23 := Zleqf h62 h69 g; clear g
      refine bz_c1 h4 h74 h77 h37 b_x3 b_q34 b_w16 b_w37 b_w21 b_w22 ?_
      refine aT (Pleq h18 h79 (bz_d6 b_q40 m18f1 m17f1 k16 z20s w19s)) ?_
      refine bz_c2 h81 h21 h83 h84 u46s z27s w26s m24f3 m25f3 b_q44 b_q7 b_q9 b_u46 b_u23 b_w21 b_w22 ?_
      refine aT (Pleq h84 (Zc 10000000000000) (bz_t34 b_z27)) ?_
      refine aT (Pleq h18 h87 (bz_d7 b_q48 m18f1 m17f1 k16 z20s w19s)) ?_
      refine aT (Pleq h90 h21 (bz_d8 b_u23 rf7 w50s u23s z27s w26s)) ?_
      refine aT (Pleq h96 (Zc 0) (bz_d9 z55s w54s m18f1 m53f4 m17f1 k16 z20s w19s)) ?_
      refine bz_c3 h74 h7 rf1 h25 b_q34 b_x3 b_w13 b_w16 ?_
      refine aF (Neql h98 (Zc 0) (bz_t40 b_w22 b_w37)) ?_
      refine aT (Pleq h18 h100 (bz_d10 b_q57 m18f1 m17f1 k16 z20s w19s)) ?_
      refine aT (Pleq h102 h21 (bz_t42 b_q60 b_q7 b_q9)) ?_
      refine aT (Pleq h18 h104 (bz_d11 b_q62 m18f1 m17f1 k16 z20s w19s)) ?_
      refine aT (Pleq h106 h21 (bz_d12 b_u23 rf11 w50s u23s rf3_0 z27s w26s)) ?_
      refine bz_c4 h115 z68s w67s m25f3 m66f3 h46 z27s w26s rf3_0 b_u23 b_w22 b_w37 ?_
      exact rfl
    have k23 := Zleqt h62 h69 g; clear g
    refine bz_c0 h62 h69 h70 h71 h48 b_r29 b_z32 b_r31 b_x13 b_z33 ?_
    refine bz_c1 h4 h74 h77 h37 b_x3 b_q34 b_w16 b_w37 b_w21 b_w22 ?_
    refine aT (Pleq h18 h79 (bz_d6 b_q40 m18f1 m17f1 k16 z20s w19s)) ?_
    refine bz_c2 h81 h21 h83 h84 u46s z27s w26s m24f3 m25f3 b_q44 b_q7 b_q9 b_u46 b_u23 b_w21 b_w22 ?_
    refine aT (Pleq h84 (Zc 10000000000000) (bz_t34 b_z27)) ?_
    refine aT (Pleq h18 h87 (bz_d7 b_q48 m18f1 m17f1 k16 z20s w19s)) ?_
    refine aT (Pleq h90 h21 (bz_d8 b_u23 rf7 w50s u23s z27s w26s)) ?_
    refine aT (Pleq h96 (Zc 0) (bz_d9 z55s w54s m18f1 m53f4 m17f1 k16 z20s w19s)) ?_
    refine bz_c3 h74 h7 rf1 h25 b_q34 b_x3 b_w13 b_w16 ?_
    refine aF (Neql h98 (Zc 0) (bz_t40 b_w22 b_w37)) ?_
    refine aT (Pleq h18 h100 (bz_d10 b_q57 m18f1 m17f1 k16 z20s w19s)) ?_
    refine aT (Pleq h102 h21 (bz_t42 b_q60 b_q7 b_q9)) ?_
    refine aT (Pleq h18 h104 (bz_d11 b_q62 m18f1 m17f1 k16 z20s w19s)) ?_
    refine aT (Pleq h106 h21 (bz_d12 b_u23 rf11 w50s u23s rf3_0 z27s w26s)) ?_
    refine bz_c4 h115 z68s w67s m25f3 m66f3 h46 z27s w26s rf3_0 b_u23 b_w22 b_w37 ?_
    exact rfl
  have k16 := Zleqf h31 (Zc 0) g; clear g
  refine ask_q (fun g => ?_) (fun g => ?_)
  · have k17 := Zleqf h117 h46 g; clear g
    refine bz_c5 h48 h50 h53 b_x13 b_r29 b_r31 ?_
    refine ask_q (fun g => ?_) (fun g => ?_)
    · have k18 := Zleqf h62 h69 g; clear g
      exact rfl
    have k18 := Zleqt h62 h69 g; clear g
    refine bz_c0 h62 h69 h70 h71 h48 b_r29 b_z32 b_r31 b_x13 b_z33 ?_
    exact rfl
  have k17 := Zleqt h117 h46 g; clear g
  refine bz_c5 h48 h50 h53 b_x13 b_r29 b_r31 ?_
  refine ask_q (fun g => ?_) (fun g => ?_)
  · have k18 := Zleqf h62 h69 g; clear g
    refine bz_c6 h4 h74 h119 h120 b_x3 b_q34 b_z20 ?_
    refine bz_c7 h77 h37 b_w16 b_w37 b_w21 b_w22 ?_
    refine aT (Pleq h18 h123 (bz_d13 b_w69 rf12 rf2_0 w69s z20s w19s)) ?_
    refine aT (Pleq h126 h21 (bz_d14 b_u23 rf13 w72s u23s k17 z27s w26s)) ?_
    refine bz_c8 h83 h84 u46s z27s w26s m24f3 m25f3 b_u46 b_u23 b_w21 b_w22 ?_
    refine aT (Pleq h84 (Zc 10000000000000) (bz_t34 b_z27)) ?_
    refine aT (Pleq h18 h87 (bz_d15 rf6 rf2_0 w47s k17 u46s z20s w19s)) ?_
    refine aT (Pleq h90 h21 (bz_d8 b_u23 rf7 w50s u23s z27s w26s)) ?_
    refine aF (Nleq h96 (Zc 0) (bz_d16 z55s w54s m18f1 m53f1 m17f4 k16 z20s w19s)) ?_
    refine aT (Pleq h128 h46 (bz_d17 k17 z55s z20s w54s w19s rf2_0)) ?_
    refine bz_c9 h128 h117 z55s z20s w54s w19s rf2_0 h74 h7 rf1 h25 b_q34 b_x3 b_w13 b_w16 ?_
    refine aF (Neql h98 (Zc 0) (bz_t40 b_w22 b_w37)) ?_
    refine aT (Pleq h18 h130 (bz_d18 b_w69 rf14 w69s z20s w19s)) ?_
    refine aT (Pleq h132 h21 (bz_d19 b_u23 rf15 w72s u23s rf3_0 k17 z27s w26s)) ?_
    refine aT (Pleq h18 h104 (bz_d20 rf10 w47s k17 u46s z20s w19s)) ?_
    refine aT (Pleq h106 h21 (bz_d12 b_u23 rf11 w50s u23s rf3_0 z27s w26s)) ?_
    refine aT (Pleq h117 h115 (bz_d21 k17 z68s z27s w67s w26s rf3_0)) ?_
    refine aT (Pleq h46 h115 (bz_d4 z27s z68s w26s w67s rf3_0)) ?_
    exact rfl
  have k18 := Zleqt h62 h69 g; clear g
  refine bz_c0 h62 h69 h70 h71 h48 b_r29 b_z32 b_r31 b_x13 b_z33 ?_
  refine bz_c6 h4 h74 h119 h120 b_x3 b_q34 b_z20 ?_
  refine bz_c7 h77 h37 b_w16 b_w37 b_w21 b_w22 ?_
  refine aT (Pleq h18 h123 (bz_d13 b_w69 rf12 rf2_0 w69s z20s w19s)) ?_
  refine aT (Pleq h126 h21 (bz_d14 b_u23 rf13 w72s u23s k17 z27s w26s)) ?_
  refine bz_c8 h83 h84 u46s z27s w26s m24f3 m25f3 b_u46 b_u23 b_w21 b_w22 ?_
  refine aT (Pleq h84 (Zc 10000000000000) (bz_t34 b_z27)) ?_
  refine aT (Pleq h18 h87 (bz_d15 rf6 rf2_0 w47s k17 u46s z20s w19s)) ?_
  refine aT (Pleq h90 h21 (bz_d8 b_u23 rf7 w50s u23s z27s w26s)) ?_
  refine aF (Nleq h96 (Zc 0) (bz_d16 z55s w54s m18f1 m53f1 m17f4 k16 z20s w19s)) ?_
  refine aT (Pleq h128 h46 (bz_d17 k17 z55s z20s w54s w19s rf2_0)) ?_
  refine bz_c9 h128 h117 z55s z20s w54s w19s rf2_0 h74 h7 rf1 h25 b_q34 b_x3 b_w13 b_w16 ?_
  refine aF (Neql h98 (Zc 0) (bz_t40 b_w22 b_w37)) ?_
  refine aT (Pleq h18 h130 (bz_d18 b_w69 rf14 w69s z20s w19s)) ?_
  refine aT (Pleq h132 h21 (bz_d19 b_u23 rf15 w72s u23s rf3_0 k17 z27s w26s)) ?_
  refine aT (Pleq h18 h104 (bz_d20 rf10 w47s k17 u46s z20s w19s)) ?_
  refine aT (Pleq h106 h21 (bz_d12 b_u23 rf11 w50s u23s rf3_0 z27s w26s)) ?_
  refine aT (Pleq h117 h115 (bz_d21 k17 z68s z27s w67s w26s rf3_0)) ?_
  refine aT (Pleq h46 h115 (bz_d4 z27s z68s w26s w67s rf3_0)) ?_
  exact rfl
end Go.Proofs.Ytknphpihipkdpaa.Cx
