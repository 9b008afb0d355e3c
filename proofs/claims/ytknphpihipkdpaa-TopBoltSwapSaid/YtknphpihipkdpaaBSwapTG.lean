/- TopBoltSwap: the tests of the law and their arithmetic. Made by tools/cxroot.py. -/
import Derived.Test.YtknphpihipkdpaaBSwapTN
set_option linter.unusedSimpArgs false
set_option linter.unusedVariables false
set_option maxRecDepth 100000
set_option maxHeartbeats 4000000
namespace Go.Proofs.Ytknphpihipkdpaa.Cx
open Go Go.RowKit

theorem bs_goal {ρ : Env} {x0 x1 x2 x3 x4 x5 x6 x7 x8 x9 x10 x11 x12 : Int} (e0 : Is ρ (.v 0) x0) (b_x0 : 0 ≤ x0 ∧ x0 ≤ 255) (e1 : Is ρ (.v 1) x1) (b_x1 : 0 ≤ x1 ∧ x1 ≤ 255) (e2 : Is ρ (.v 2) x2) (b_x2 : 0 ≤ x2 ∧ x2 ≤ 255) (e3 : Is ρ (.v 3) x3) (b_x3 : 0 ≤ x3 ∧ x3 ≤ 255) (e4 : Is ρ (.v 4) x4) (b_x4 : 0 ≤ x4 ∧ x4 ≤ 255) (e5 : Is ρ (.v 5) x5) (b_x5 : 0 ≤ x5 ∧ x5 ≤ 255) (e6 : Is ρ (.v 6) x6) (b_x6 : 0 ≤ x6 ∧ x6 ≤ 255) (e7 : Is ρ (.v 7) x7) (b_x7 : 0 ≤ x7 ∧ x7 ≤ 255) (e8 : Is ρ (.v 8) x8) (b_x8 : 0 ≤ x8 ∧ x8 ≤ 255) (e9 : Is ρ (.v 9) x9) (b_x9 : 0 ≤ x9 ∧ x9 ≤ 255) (e10 : Is ρ (.v 10) x10) (b_x10 : 0 ≤ x10 ∧ x10 ≤ 255) (e11 : Is ρ (.v 11) x11) (b_x11 : 0 ≤ x11 ∧ x11 ≤ 255) (e12 : Is ρ (.v 12) x12) (b_x12 : 0 ≤ x12 ∧ x12 ≤ 255) : bsTree.goal ρ := by
  obtain ⟨q1, r2, q1e, r2e, q1s, b_q1, b_r2⟩ := bs_aq1 b_x9
  obtain ⟨q3, r4, q3e, r4e, q3s, b_q3, b_r4⟩ := bs_aq3 b_x11
  obtain ⟨q5, r6, q5e, r6e, q5s, q5g, b_q5, b_r6⟩ := bs_aq5 b_x12
  obtain ⟨q7, r8, q7e, r8e, q7s, b_q7, b_r8⟩ := bs_aq7 b_x12
  obtain ⟨q9, r10, q9e, r10e, q9s, b_q9, b_r10⟩ := bs_aq9 b_x4
  obtain ⟨q11, r12, q11e, r12e, q11s, b_q11, b_r12⟩ := bs_aq11 b_x6
  obtain ⟨q13, r14, q13e, r14e, q13s, b_q13, b_r14⟩ := bs_aq13 b_x8
  obtain ⟨m15, m15e, m15f1, m15f2, m15f3, m15f4, b_m15⟩ := bs_am15 b_r10 b_x1
  obtain ⟨m16, m16e, m16f1, m16f2, m16f3, m16f4, b_m16⟩ := bs_am16 b_x1 b_x3
  obtain ⟨w17, w17s, b_w17⟩ := bs_aw17 b_m15 b_m16
  obtain ⟨m18, m18e, m18f1, m18f2, m18f3, m18f4, b_m18⟩ := bs_am18 b_r12 b_x2
  obtain ⟨m19, m19e, m19f1, m19f2, m19f3, m19f4, b_m19⟩ := bs_am19 b_x2 b_x5
  obtain ⟨w20, w20s, b_w20⟩ := bs_aw20 b_m18 b_m19
  obtain ⟨w21, w21s, b_w21⟩ := bs_aw21 b_m16
  obtain ⟨w22, w22s, b_w22⟩ := bs_aw22 b_m19
  obtain ⟨w23, w23s, b_w23⟩ := bs_aw23 
  obtain ⟨w24, w24s, b_w24⟩ := bs_aw24 b_w17 b_w20
  obtain ⟨q25, q25e, q25h, b_q25⟩ := bs_aq25 b_w23 b_w24
  obtain ⟨m26, m26e, m26f1, m26f2, m26f3, m26f4, b_m26⟩ := bs_am26 b_q25 b_w24
  have q25d := qD_is q25h m26e.out
  obtain ⟨w27, w27s, b_w27⟩ := bs_aw27 b_w21 b_w22
  obtain ⟨q28, q28e, q28h, b_q28⟩ := bs_aq28 b_w23 b_w27
  obtain ⟨m29, m29e, m29f1, m29f2, m29f3, m29f4, b_m29⟩ := bs_am29 b_q28 b_w27
  have q28d := qD_is q28h m29e.out
  obtain ⟨w30, w30s, b_w30⟩ := bs_aw30 b_r2 b_r4 b_x10
  obtain ⟨w31, w31s, b_w31⟩ := bs_aw31 b_r2
  obtain ⟨q32, q32e, q32h, b_q32⟩ := bs_aq32 b_w30 b_w31
  obtain ⟨m33, m33e, m33f1, m33f2, m33f3, m33f4, b_m33⟩ := bs_am33 b_q32 b_w31
  have q32d := qZ_is q32h m33e.out
  obtain ⟨u34, u34s, b_u34⟩ := bs_au34 b_q32
  obtain ⟨w35, w35s, b_w35⟩ := bs_aw35 b_r2 b_r4 b_x10
  obtain ⟨q36, q36e, q36h, b_q36⟩ := bs_aq36 b_w35 b_w31
  obtain ⟨m37, m37e, m37f1, m37f2, m37f3, m37f4, b_m37⟩ := bs_am37 b_q36 b_w31
  have q36d := qZ_is q36h m37e.out
  obtain ⟨u38, u38s, b_u38⟩ := bs_au38 b_q36
  have rf1 : 1 ≤ w31 → 1 ≤ w31 → w35 ≤ w30 → w31 ≤ w31 → 0 ≤ w30 → q36 ≤ q32 := qZ_mono q36h q32h
  have rf2 := bs_rf2 b_q32 m33e
  obtain ⟨h2, h3, h5, h7, h10, h11, h22, h25, h26, h30, h31, h32, h37, h39, h41, h42, h45, h46, h49, h51, h54, h58, h62, h64, h66, h67, h70, h73, h76, h77, h78, h81, h84⟩ := bs_g0 (ρ := ρ) e9 r2e e10 e11 r4e e12 r6e q7e e1 e2 e3 e4 r10e e5 e6 r12e e7 e8 r14e m15e m16e ⟨w17s⟩ m18e m19e ⟨w20s⟩ ⟨w21s⟩ ⟨w22s⟩ q25e ⟨w23s⟩ ⟨w24s⟩ q28e ⟨w27s⟩ q32e ⟨w30s⟩ ⟨w31s⟩ ⟨u34s⟩ q36e ⟨w35s⟩ ⟨u38s⟩ b_x9 b_r2 b_x10 b_x11 b_r4 b_x12 b_r6 b_q7 b_x1 b_x2 b_x3 b_x4 b_r10 b_x5 b_x6 b_r12 b_x7 b_x8 b_r14 b_w17 b_m15 b_m16 b_w20 b_m18 b_m19 b_w21 b_w22 b_q25 b_w23 b_w24 b_q28 b_w27 b_q32 b_w30 b_w31 b_u34 b_q36 b_w35 b_u38
  refine aT (Pleq (Zc 100) h2 (bs_t0 b_r2)) ?_
  refine aT (Pleq h2 (Zc 200000) (bs_t1 b_r2)) ?_
  refine aT (Pleq (Zc 3462000) h3 (bs_t2 b_r2)) ?_
  refine aT (Pleq (Zc (-10000)) h5 (bs_t3 b_x10)) ?_
  refine aT (Pleq h5 (Zc 10000) (bs_t4 b_x10)) ?_
  refine aT (Pleq (Zc (-10000)) h7 (bs_t5 b_r4)) ?_
  refine aT (Pleq h7 (Zc 10000) (bs_t6 b_r4)) ?_
  refine aT (Pleq (Zc (-200000)) h10 (bs_t7 b_r6)) ?_
  refine aT (Pleq h10 h11 (bs_t8 b_r6 b_q7)) ?_
  refine aT (Pleq h11 (Zc 200000) (bs_t9 b_q7)) ?_
  refine aT (Pleq (Zc 0) h22 (bs_t10 b_r2 b_r4 b_x10)) ?_
  refine ask_p (fun g => ?_) (fun g => ?_)
  · have k11 := Zeqlt h25 (Zc 0) g; clear g
    refine aT (Pleq (Zc (-10000)) h26 (bs_t11 b_x10)) ?_
    refine aT (Pleq h26 (Zc 10000) (bs_t12 b_x10)) ?_
    refine ask_p (fun g => ?_) (fun g => ?_)
    · have k14 := Zleqt (Zc 0) h30 g; clear g
      refine bs_c0 h31 h32 b_r6 b_q7 ?_
      refine aT (Pleq (Zc 0) h37 (bs_t10 b_r2 b_r4 b_x10)) ?_
      refine bs_c1 h39 h41 h42 h45 h46 h49 b_x1 b_x2 b_x3 b_r10 b_x5 b_r12 ?_
      refine aT (Pleq h49 (Zc 1000) (bs_t25 b_r12 b_x5)) ?_
      refine aT (Pleq (Zc 1) h51 (bs_t26 b_x7)) ?_
      refine aT (Pleq h51 h54 (bs_t27 b_x7 b_r14)) ?_
      refine aT (Pleq h54 (Zc 100000) (bs_t28 b_r14 b_x7)) ?_
      refine aF (Neql h58 (Zc 0) (bs_t29 b_w17 b_w20)) ?_
      refine aF (Neql h62 (Zc 0) (bs_t30 b_w21 b_w22)) ?_
      refine aT (Peql h64 (Zc 0) (bs_t31 b_q25)) ?_
      refine aT (Peql h66 (Zc 100000) (bs_t32 b_q28)) ?_
      refine aF (Nleq h66 (Zc 20000) (bs_t33 b_q28)) ?_
      exact rfl
    have k14 := Zleqf (Zc 0) h30 g; clear g
    refine bs_c0 h31 h32 b_r6 b_q7 ?_
    refine aT (Pleq (Zc 0) h37 (bs_t10 b_r2 b_r4 b_x10)) ?_
    refine bs_c1 h39 h41 h42 h45 h46 h49 b_x1 b_x2 b_x3 b_r10 b_x5 b_r12 ?_
    refine aT (Pleq h49 (Zc 1000) (bs_t25 b_r12 b_x5)) ?_
    refine aT (Pleq (Zc 1) h51 (bs_t26 b_x7)) ?_
    refine aT (Pleq h51 h54 (bs_t27 b_x7 b_r14)) ?_
    refine aT (Pleq h54 (Zc 100000) (bs_t28 b_r14 b_x7)) ?_
    refine aF (Neql h58 (Zc 0) (bs_t29 b_w17 b_w20)) ?_
    refine aF (Neql h62 (Zc 0) (bs_t30 b_w21 b_w22)) ?_
    refine aT (Peql h64 (Zc 0) (bs_t31 b_q25)) ?_
    refine aT (Peql h66 (Zc 100000) (bs_t32 b_q28)) ?_
    refine aT (Pleq h67 h66 (bs_t34 b_q28)) ?_
    refine aF (Nleq h66 (Zc 20000) (bs_t33 b_q28)) ?_
    exact rfl
  have k11 := Zeqlf h25 (Zc 0) g; clear g
  refine aT (Pleq (Zc (-10000)) h26 (bs_t11 b_x10)) ?_
  refine aT (Pleq h26 (Zc 10000) (bs_t12 b_x10)) ?_
  refine ask_q (fun g => ?_) (fun g => ?_)
  · have k14 := Zleqf (Zc 0) h30 g; clear g
    refine bs_c0 h31 h32 b_r6 b_q7 ?_
    refine aT (Pleq (Zc 0) h37 (bs_t10 b_r2 b_r4 b_x10)) ?_
    refine bs_c2 h70 b_u34 ?_
    refine bs_c3 h76 h70 h39 h41 h42 h45 h46 h49 b_u34 b_x1 b_x2 b_x3 b_r10 b_x5 b_r12 ?_
    refine aT (Pleq h49 (Zc 1000) (bs_t25 b_r12 b_x5)) ?_
    refine bs_c4 h51 h54 h77 b_x7 b_r14 b_u34 ?_
    refine aT (Pleq h77 (Zc 100000) (bs_t39 b_u34)) ?_
    refine aF (Neql h58 (Zc 0) (bs_t29 b_w17 b_w20)) ?_
    refine aF (Neql h62 (Zc 0) (bs_t30 b_w21 b_w22)) ?_
    refine aT (Peql h64 (Zc 0) (bs_t31 b_q25)) ?_
    refine aT (Peql h81 h77 (bs_t40 b_q28 b_u34)) ?_
    refine aT (Pleq h67 h81 (bs_t41 b_q28 b_u34)) ?_
    refine aT (Pleq h81 (Zc 20000) (bs_d0 b_q28 b_r2 u34s q32d rf2 w30s w31s k11 k14)) ?_
    refine aT (Pleq h77 (Zc 20000) (bs_d1 b_r2 u34s q32d rf2 w30s w31s k11 k14)) ?_
    exact rfl
  have k14 := Zleqt (Zc 0) h30 g; clear g
  refine bs_c0 h31 h32 b_r6 b_q7 ?_
  refine aT (Pleq (Zc 0) h37 (bs_t10 b_r2 b_r4 b_x10)) ?_
  refine bs_c2 h70 b_u34 ?_
  refine aT (Pleq h73 h70 (bs_d2 b_r2 b_w30 u38s u34s rf1 w35s w31s w30s k11)) ?_
  refine bs_c3 h76 h70 h39 h41 h42 h45 h46 h49 b_u34 b_x1 b_x2 b_x3 b_r10 b_x5 b_r12 ?_
  refine aT (Pleq h49 (Zc 1000) (bs_t25 b_r12 b_x5)) ?_
  refine bs_c4 h51 h54 h77 b_x7 b_r14 b_u34 ?_
  refine aT (Pleq h77 (Zc 100000) (bs_t39 b_u34)) ?_
  refine aF (Neql h58 (Zc 0) (bs_t29 b_w17 b_w20)) ?_
  refine aF (Neql h62 (Zc 0) (bs_t30 b_w21 b_w22)) ?_
  refine aT (Pleq (Zc 0) h78 (bs_d3 b_r2 u38s q36d w35s w31s k11 k14)) ?_
  refine aT (Pleq h78 (Zc 100000) (bs_t46 b_u38)) ?_
  refine aT (Peql h64 (Zc 0) (bs_t31 b_q25)) ?_
  refine aT (Peql h81 h77 (bs_t40 b_q28 b_u34)) ?_
  refine aT (Pleq h84 h81 (bs_d4 b_r2 b_w30 u38s u34s rf1 w35s w31s w30s k11)) ?_
  refine ask_p (fun g => ?_) (fun g => ?_)
  · have k26 := Zleqt h81 (Zc 20000) g; clear g
    refine aT (Pleq h77 (Zc 20000) (bs_d5 b_q28 k26)) ?_
    exact rfl
  have k26 := Zleqf h81 (Zc 20000) g; clear g
  refine aF (Nleq h77 (Zc 20000) (bs_d6 b_q28 k26)) ?_
  exact rfl
end Go.Proofs.Ytknphpihipkdpaa.Cx
