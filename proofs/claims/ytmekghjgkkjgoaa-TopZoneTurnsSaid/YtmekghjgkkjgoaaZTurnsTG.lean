/- TopZoneTurns: the tests of the law and their arithmetic. Made by tools/cxroot.py. -/
import Derived.Test.YtmekghjgkkjgoaaZTurnsTN
set_option linter.unusedSimpArgs false
set_option linter.unusedVariables false
set_option maxRecDepth 100000
set_option maxHeartbeats 4000000
namespace Go.Proofs.Ytmekghjgkkjgoaa.Cx
open Go Go.RowKit

theorem zu_goal {ρ : Env} {x0 x1 x2 x3 x4 x5 x6 x7 : Int} (e0 : Is ρ (.v 0) x0) (b_x0 : 0 ≤ x0 ∧ x0 ≤ 255) (e1 : Is ρ (.v 1) x1) (b_x1 : 0 ≤ x1 ∧ x1 ≤ 255) (e2 : Is ρ (.v 2) x2) (b_x2 : 0 ≤ x2 ∧ x2 ≤ 255) (e3 : Is ρ (.v 3) x3) (b_x3 : 0 ≤ x3 ∧ x3 ≤ 255) (e4 : Is ρ (.v 4) x4) (b_x4 : 0 ≤ x4 ∧ x4 ≤ 255) (e5 : Is ρ (.v 5) x5) (b_x5 : 0 ≤ x5 ∧ x5 ≤ 255) (e6 : Is ρ (.v 6) x6) (b_x6 : 0 ≤ x6 ∧ x6 ≤ 255) (e7 : Is ρ (.v 7) x7) (b_x7 : 0 ≤ x7 ∧ x7 ≤ 255) : zuTree.goal ρ := by
  obtain ⟨m1, m1e, m1f1, m1f2, m1f3, m1f4, b_m1⟩ := zu_am1 b_x1 b_x4
  obtain ⟨m2, m2e, m2f1, m2f2, m2f3, m2f4, b_m2⟩ := zu_am2 b_x1 b_x5
  obtain ⟨w3, w3s, b_w3⟩ := zu_aw3 b_m1 b_m2 b_x1 b_x4 b_x5
  obtain ⟨m4, m4e, m4f1, m4f2, m4f3, m4f4, b_m4⟩ := zu_am4 b_x0 b_x4
  obtain ⟨m5, m5e, m5f1, m5f2, m5f3, m5f4, b_m5⟩ := zu_am5 b_x0 b_x5
  obtain ⟨w6, w6s, b_w6⟩ := zu_aw6 b_m4 b_m5 b_x0 b_x4 b_x5
  obtain ⟨m7, m7e, m7f1, m7f2, m7f3, m7f4, b_m7⟩ := zu_am7 b_x3 b_x4
  obtain ⟨m8, m8e, m8f1, m8f2, m8f3, m8f4, b_m8⟩ := zu_am8 b_x3 b_x5
  obtain ⟨w9, w9s, b_w9⟩ := zu_aw9 b_m1 b_m2 b_m7 b_m8 b_x1 b_x3 b_x4 b_x5
  obtain ⟨m10, m10e, m10f1, m10f2, m10f3, m10f4, b_m10⟩ := zu_am10 b_x2 b_x4
  obtain ⟨m11, m11e, m11f1, m11f2, m11f3, m11f4, b_m11⟩ := zu_am11 b_x2 b_x5
  obtain ⟨w12, w12s, b_w12⟩ := zu_aw12 b_m10 b_m11 b_m4 b_m5 b_x0 b_x2 b_x4 b_x5
  obtain ⟨q13, r14, q13e, r14e, q13s, b_q13, b_r14⟩ := zu_aq13 b_x4
  obtain ⟨h1, h3, h6, h9, h12, h14, h15, h17, h18, h22, h24, h27, h30, h33, h36, h52, h54, h60, h62, h63, h64⟩ := zu_g0 (ρ := ρ) e2 e3 e0 e1 e4 e5 e6 e7 m1e m2e w3s m4e m5e w6s m7e m8e w9s m10e m11e w12s r14e b_x2 b_x3 b_x0 b_x1 b_x4 b_x5 b_x6 b_x7 b_w3 b_m1 b_m2 b_w6 b_m4 b_m5 b_w9 b_m7 b_m8 b_w12 b_m10 b_m11 b_r14
  refine aT (Pleq (Zc 0) h1 (zu_t0 b_x2)) ?_
  refine aT (Pleq h1 (Zc 100000) (zu_t1 b_x2)) ?_
  refine aT (Pleq (Zc 0) h3 (zu_t2 b_x3)) ?_
  refine aT (Pleq h3 (Zc 100000) (zu_t3 b_x3)) ?_
  refine aT (Pleq (Zc (-100000)) h6 (zu_t4 b_x0)) ?_
  refine aT (Pleq h6 (Zc 100000) (zu_t5 b_x0)) ?_
  refine aT (Pleq (Zc (-100000)) h9 (zu_t6 b_x1)) ?_
  refine aT (Pleq h9 (Zc 100000) (zu_t7 b_x1)) ?_
  refine aT (Pleq (Zc 100) h12 (zu_t8 b_x4)) ?_
  refine aT (Pleq h12 (Zc 200000) (zu_t9 b_x4)) ?_
  refine aT (Pleq (Zc 0) h14 (zu_t10 b_x5)) ?_
  refine aT (Pleq h14 (Zc 3000) (zu_t11 b_x5)) ?_
  refine aT (Pleq (Zc 0) h15 (zu_t12 b_x4)) ?_
  refine aT (Pleq h15 (Zc 3000) (zu_t13 b_x4)) ?_
  refine aT (Pleq h17 h18 (zu_t14 b_x4 b_x5)) ?_
  refine aT (Pleq (Zc (-10000)) h22 (zu_t15 b_x0 b_x2)) ?_
  refine aT (Pleq h22 h24 (zu_t16 b_x0 b_x2)) ?_
  refine aT (Pleq h24 (Zc 10000) (zu_t17 b_x0)) ?_
  refine aT (Pleq (Zc (-10000)) h27 (zu_t18 b_x1)) ?_
  refine aT (Pleq h27 h30 (zu_t19 b_x1 b_x3)) ?_
  refine aT (Pleq h30 (Zc 10000) (zu_t20 b_x1 b_x3)) ?_
  refine aT (Pleq (Zc (-200000)) h33 (zu_t21 b_x6)) ?_
  refine aT (Pleq h33 h36 (zu_t22 b_x6 b_x7)) ?_
  refine aT (Pleq h36 (Zc 200000) (zu_t23 b_x6 b_x7)) ?_
  refine ask_p (fun g => ?_) (fun g => ?_)
  · have k24 := Zleqt (Zc 0) h52 g; clear g
    refine aT (Peql h54 (Zc 0) (zu_t24 )) ?_
    refine aT (Pleq (Zc 0) h60 (zu_d0 b_x2 b_x3 k24 w12s w9s w3s w6s m10f1 m11f1 m7f1 m8f1)) ?_
    refine aT (Pleq (Zc 1) h62 (zu_t26 b_r14)) ?_
    refine aT (Pleq h62 (Zc 100) (zu_t27 b_r14)) ?_
    refine aT (Pleq (Zc 0) h63 (zu_d1 b_x4 b_x5 k24 w3s w6s m1f3 m2f3 m4f3 m5f3 m4e m1e m5e m2e)) ?_
    refine aT (Pleq (Zc 0) h64 (zu_d2 b_x2 b_x3 b_x4 b_x5 k24 w3s w6s m1f3 m2f3 m4f3 m5f3 m10f1 m7f1 m11f1 m8f1 m4e m1e m10e m7e m5e m2e m11e m8e)) ?_
    exact rfl
  have k24 := Zleqf (Zc 0) h52 g; clear g
  refine ask_q (fun g => ?_) (fun g => ?_)
  · have k25 := Zleqf (Zc 0) h60 g; clear g
    refine zu_c0 h62 b_r14 ?_
    refine aF (Nleq (Zc 0) h63 (zu_d3 b_x4 b_x5 k24 w3s w6s m4e m1e m5e m2e)) ?_
    refine aF (Nleq (Zc 0) h64 (zu_d4 b_x4 b_x5 k25 w12s w9s m4e m1e m10e m7e m5e m2e m11e m8e)) ?_
    exact rfl
  have k25 := Zleqt (Zc 0) h60 g; clear g
  refine aT (Peql h54 (Zc 0) (zu_t24 )) ?_
  refine zu_c0 h62 b_r14 ?_
  refine aF (Nleq (Zc 0) h63 (zu_d3 b_x4 b_x5 k24 w3s w6s m4e m1e m5e m2e)) ?_
  refine aT (Pleq (Zc 0) h64 (zu_d5 b_x4 b_x5 k25 w12s w9s m2f3 m5f3 m11f3 m8f3 m4e m1e m10e m7e m5e m2e m11e m8e)) ?_
  exact rfl
end Go.Proofs.Ytmekghjgkkjgoaa.Cx
