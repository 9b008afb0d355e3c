/- The tests of a law and their arithmetic. Made by tools/cxgoal.py. -/
import Derived.Test.YtlffofemajfdjaaPGaugeT
set_option linter.unusedSimpArgs false
set_option linter.unusedVariables false
set_option maxRecDepth 100000
set_option maxHeartbeats 4000000
namespace Go.Proofs.Ytlffofemajfdjaa.Cx
open Go Go.RowKit

theorem pg_goal4 {ρ : Env} {x0 x1 x2 x3 x4 x5 x6 : Int} (e0 : Is ρ (.v 0) x0) (r0 : 0 ≤ x0 ∧ x0 ≤ 255) (e1 : Is ρ (.v 1) x1) (r1 : 0 ≤ x1 ∧ x1 ≤ 255) (e2 : Is ρ (.v 2) x2) (r2 : 0 ≤ x2 ∧ x2 ≤ 255) (e3 : Is ρ (.v 3) x3) (r3 : 0 ≤ x3 ∧ x3 ≤ 255) (e4 : Is ρ (.v 4) x4) (r4 : 0 ≤ x4 ∧ x4 ≤ 255) (e5 : Is ρ (.v 5) x5) (r5 : 0 ≤ x5 ∧ x5 ≤ 255) (e6 : Is ρ (.v 6) x6) (r6 : 0 ≤ x6 ∧ x6 ≤ 65535) (s : x4 % 7 = 4) : pgTree.goal ρ := by
  have h0 : Is ρ pg0 (x0) := Zconv e0 (by omega)
  have h1 : Is ρ pg1 (x0 + 50000) := Zadd (Zc 50000) h0 (by omega) (by omega)
  refine ⟨fun g0 => ?_, fun g0 => ?_⟩
  · have k0 : ((50000 : Int) ≤ x0 + 50000) := Zleqt (Zc 50000) h1 g0
    clear g0
    clear k0
    refine ⟨fun g1 => ?_, fun g1 => ?_⟩
    · have k1 : ((x0 + 50000 : Int) ≤ 20000000) := Zleqt h1 (Zc 20000000) g1
      clear g1
      clear k1
      have h2 : Is ρ pg2 (x1) := Zconv e1 (by omega)
      obtain ⟨q1, q1e⟩ : ∃ q : Int, Hd ((x1) / 20 = q) := ⟨_, ⟨rfl⟩⟩
      obtain ⟨r2, r2e⟩ : ∃ q : Int, Hd ((x1) % 20 = q) := ⟨_, ⟨rfl⟩⟩
      have q11 : x1 = 20 * q1 + r2 := by have i1 := q1e.out; have i2 := r2e.out; omega
      have q12 : 0 ≤ r2 ∧ r2 ≤ 19 ∧ 0 ≤ q1 ∧ q1 ≤ 12 := by have i1 := q1e.out; have i2 := r2e.out; omega
      have h3 : Is ρ pg3 (r2) := Zremp h2 (Zc 20) (by omega) r2e.out
      refine ⟨fun g2 => ?_, fun g2 => ?_⟩
      · have k2 : ((0 : Int) ≤ r2) := Zleqt (Zc 0) h3 g2
        clear g2
        clear k2
        have h4 : Is ρ pg4 (x2) := Zconv e2 (by omega)
        obtain ⟨q3, q3e⟩ : ∃ q : Int, Hd ((x2) / 9 = q) := ⟨_, ⟨rfl⟩⟩
        obtain ⟨r4, r4e⟩ : ∃ q : Int, Hd ((x2) % 9 = q) := ⟨_, ⟨rfl⟩⟩
        have q31 : x2 = 9 * q3 + r4 := by have i1 := q3e.out; have i2 := r4e.out; omega
        have q32 : 0 ≤ r4 ∧ r4 ≤ 8 ∧ 0 ≤ q3 ∧ q3 ≤ 28 := by have i1 := q3e.out; have i2 := r4e.out; omega
        have h5 : Is ρ pg5 (r4) := Zremp h4 (Zc 9) (by omega) r4e.out
        have h6 : Is ρ pg6 (r2 + r4) := Zadd h3 h5 (by omega) (by omega)
        refine ⟨fun g3 => ?_, fun g3 => ?_⟩
        · have k3 : ((r2 : Int) ≤ r2 + r4) := Zleqt h3 h6 g3
          clear g3
          clear k3
          refine ⟨fun g4 => ?_, fun g4 => ?_⟩
          · have k4 : ((r2 + r4 : Int) ≤ 10000) := Zleqt h6 (Zc 10000) g4
            clear g4
            clear k4
            have h7 : Is ρ pg7 (x3) := Zconv e3 (by omega)
            obtain ⟨q5, q5e⟩ : ∃ q : Int, Hd ((x3) / 30 = q) := ⟨_, ⟨rfl⟩⟩
            obtain ⟨r6, r6e⟩ : ∃ q : Int, Hd ((x3) % 30 = q) := ⟨_, ⟨rfl⟩⟩
            have q51 : x3 = 30 * q5 + r6 := by have i1 := q5e.out; have i2 := r6e.out; omega
            have q52 : 0 ≤ r6 ∧ r6 ≤ 29 ∧ 0 ≤ q5 ∧ q5 ≤ 8 := by have i1 := q5e.out; have i2 := r6e.out; omega
            have h8 : Is ρ pg8 (r6) := Zremp h7 (Zc 30) (by omega) r6e.out
            have h9 : Is ρ pg9 (r6 + 1) := Zadd (Zc 1) h8 (by omega) (by omega)
            refine ⟨fun g5 => ?_, fun g5 => ?_⟩
            · have k5 : ((1 : Int) ≤ r6 + 1) := Zleqt (Zc 1) h9 g5
              clear g5
              clear k5
              refine ⟨fun g6 => ?_, fun g6 => ?_⟩
              · have k6 : ((r6 + 1 : Int) ≤ 1000) := Zleqt h9 (Zc 1000) g6
                clear g6
                clear k6
                have h10 : Is ρ pg10 (x4) := Zconv e4 (by omega)
                obtain ⟨q7, q7e⟩ : ∃ q : Int, Hd ((x4) / 7 = q) := ⟨_, ⟨rfl⟩⟩
                obtain ⟨r8, r8e⟩ : ∃ q : Int, Hd ((x4) % 7 = q) := ⟨_, ⟨rfl⟩⟩
                have q71 : x4 = 7 * q7 + r8 := by have i1 := q7e.out; have i2 := r8e.out; omega
                have q72 : 0 ≤ r8 ∧ r8 ≤ 6 ∧ 0 ≤ q7 ∧ q7 ≤ 36 := by have i1 := q7e.out; have i2 := r8e.out; omega
                have h11 : Is ρ pg11 (4) := Zremp h10 (Zc 7) (by omega) s
                have h12 : Is ρ pg12 (5) := Zadd (Zc 1) h11 (by omega) (by omega)
                refine ⟨fun g7 => ?_, fun g7 => ?_⟩
                · have k7 : ((1 : Int) ≤ 5) := Zleqt (Zc 1) h12 g7
                  clear g7
                  clear k7
                  refine ⟨fun g8 => ?_, fun g8 => ?_⟩
                  · have k8 : ((5 : Int) ≤ 1000) := Zleqt h12 (Zc 1000) g8
                    clear g8
                    clear k8
                    refine ⟨fun g9 => ?_, fun g9 => ?_⟩
                    · have k9 : ((5 : Int) = 0) := Zeqlt h12 (Zc 0) g9
                      clear g9
                      omega
                    · have k9 : ¬ (((5 : Int) = 0)) := Zeqlf h12 (Zc 0) g9
                      clear g9
                      obtain ⟨m9, m9e⟩ : ∃ m : Int, Hd (r2 * r6 = m) := ⟨_, ⟨rfl⟩⟩
                      have m91 : 0 ≤ m9 := m9e.out ▸ Int.mul_nonneg (by omega) (by omega)
                      have m92 : m9 ≤ 551 := m9e.out ▸ (Int.mul_le_mul (by omega : r2 ≤ 19) (by omega : r6 ≤ 29) (by omega) (by omega) : r2 * r6 ≤ 19 * 29)
                      have h13 : Is ρ pg13 (m9 + r2) := Zmul h3 h9 (by omega) (by simp only [Int.add_mul, Int.mul_add, Int.mul_assoc, Int.mul_comm, Int.mul_left_comm, m9e.out] ; omega)
                      have h14 : Is ρ pg14 ((-1) * m9 + (-1) * r2) := Zsub (Zc 0) h13 (by omega) (by omega)
                      obtain ⟨q10, q10e⟩ : ∃ q : Int, Hd ((m9 + r2) / 5 = q) := ⟨_, ⟨rfl⟩⟩
                      obtain ⟨r11, r11e⟩ : ∃ q : Int, Hd ((m9 + r2) % 5 = q) := ⟨_, ⟨rfl⟩⟩
                      have q101 : m9 + r2 = 5 * q10 + r11 := by have i1 := q10e.out; have i2 := r11e.out; omega
                      have q102 : 0 ≤ r11 ∧ r11 ≤ 4 ∧ 0 ≤ q10 ∧ q10 ≤ 114 := by have i1 := q10e.out; have i2 := r11e.out; omega
                      have h15 : Is ρ pg15 ((-1) * r11) := Zremn h14 h12 (by omega) (by have i1 := q10e.out; have i2 := r11e.out; omega)
                      refine ⟨fun g10 => ?_, fun g10 => ?_⟩
                      · have k10 : (((-1) * r11 : Int) ≤ 0) := Zleqt h15 (Zc 0) g10
                        clear g10
                        clear k10
                        obtain ⟨m12, m12e⟩ : ∃ m : Int, Hd (r4 * r6 = m) := ⟨_, ⟨rfl⟩⟩
                        have m121 : 0 ≤ m12 := m12e.out ▸ Int.mul_nonneg (by omega) (by omega)
                        have m122 : m12 ≤ 232 := m12e.out ▸ (Int.mul_le_mul (by omega : r4 ≤ 8) (by omega : r6 ≤ 29) (by omega) (by omega) : r4 * r6 ≤ 8 * 29)
                        have h16 : Is ρ pg16 (m12 + m9 + r2 + r4) := Zmul h6 h9 (by omega) (by simp only [Int.add_mul, Int.mul_add, Int.mul_assoc, Int.mul_comm, Int.mul_left_comm, m9e.out, m12e.out] ; omega)
                        obtain ⟨q13, q13e⟩ : ∃ q : Int, Hd ((m12 + m9 + r2 + r4) / 5 = q) := ⟨_, ⟨rfl⟩⟩
                        obtain ⟨r14, r14e⟩ : ∃ q : Int, Hd ((m12 + m9 + r2 + r4) % 5 = q) := ⟨_, ⟨rfl⟩⟩
                        have q131 : m12 + m9 + r2 + r4 = 5 * q13 + r14 := by have i1 := q13e.out; have i2 := r14e.out; omega
                        have q132 : 0 ≤ r14 ∧ r14 ≤ 4 ∧ 0 ≤ q13 ∧ q13 ≤ 162 := by have i1 := q13e.out; have i2 := r14e.out; omega
                        have h17 : Is ρ pg17 (r14) := Zremp h16 h12 (by omega) r14e.out
                        refine ⟨fun g11 => ?_, fun g11 => ?_⟩
                        · have k11 : ((r14 : Int) ≤ 0) := Zleqt h17 (Zc 0) g11
                          clear g11
                          have h18 : Is ρ pg18 ((-1) * q10) := Zquon h14 h12 (by omega) (by omega) (by have i1 := q10e.out; have i2 := r11e.out; omega)
                          have h19 : Is ρ pg19 (q10) := Zsub (Zc 0) h18 (by omega) (by omega)
                          have h20 : Is ρ pg20 ((-1) * q10 + 50000) := Zsub (Zc 50000) h19 (by omega) (by omega)
                          have h21 : Is ρ pg21 (q13) := Zquop h16 h12 (by omega) (by omega) q13e.out
                          have h22 : Is ρ pg22 ((-1) * q13 + x0 + 50000) := Zsub h1 h21 (by omega) (by omega)
                          refine ⟨fun g12 => ?_, fun g12 => ?_⟩
                          · have k12 : (((-1) * q10 + 50000 : Int) ≤ (-1) * q13 + x0 + 50000) := Zleqt h20 h22 g12
                            clear g12
                            refine ⟨fun g13 => ?_, fun g13 => ?_⟩
                            · have k13 : ((1000 : Int) ≤ (-1) * q13 + x0 + 50000) := Zleqt (Zc 1000) h22 g13
                              clear g13
                              clear k13
                              have h23 : Is ρ pg23 ((-1) * q13 + x0 + 49940) := Zsub h22 (Zc 60) (by omega) (by omega)
                              refine ⟨fun g14 => ?_, fun g14 => ?_⟩
                              · have k14 : ((0 : Int) ≤ (-1) * q13 + x0 + 49940) := Zleqt (Zc 0) h23 g14
                                clear g14
                                clear k14
                                have h24 : Is ρ pg24 (x5) := Zconv e5 (by omega)
                                obtain ⟨q15, q15e⟩ : ∃ q : Int, Hd ((x5) / 40 = q) := ⟨_, ⟨rfl⟩⟩
                                obtain ⟨r16, r16e⟩ : ∃ q : Int, Hd ((x5) % 40 = q) := ⟨_, ⟨rfl⟩⟩
                                have q151 : x5 = 40 * q15 + r16 := by have i1 := q15e.out; have i2 := r16e.out; omega
                                have q152 : 0 ≤ r16 ∧ r16 ≤ 39 ∧ 0 ≤ q15 ∧ q15 ≤ 6 := by have i1 := q15e.out; have i2 := r16e.out; omega
                                have h25 : Is ρ pg25 (r16) := Zremp h24 (Zc 40) (by omega) r16e.out
                                have h26 : Is ρ pg26 ((-1) * q13 + r16 + x0 + 49940) := Zadd h23 h25 (by omega) (by omega)
                                refine ⟨fun g15 => ?_, fun g15 => ?_⟩
                                · have k15 : (((-1) * q13 + x0 + 49940 : Int) ≤ (-1) * q13 + r16 + x0 + 49940) := Zleqt h23 h26 g15
                                  clear g15
                                  clear k15
                                  refine ⟨fun g16 => ?_, fun g16 => ?_⟩
                                  · have k16 : (((-1) * q13 + r16 + x0 + 49940 : Int) ≤ 10000000) := Zleqt h26 (Zc 10000000) g16
                                    clear g16
                                    clear k16
                                    have h27 : Is ρ pg27 (x6) := Zconv e6 (by omega)
                                    obtain ⟨q17, q17e⟩ : ∃ q : Int, Hd ((x6) / 1000 = q) := ⟨_, ⟨rfl⟩⟩
                                    obtain ⟨r18, r18e⟩ : ∃ q : Int, Hd ((x6) % 1000 = q) := ⟨_, ⟨rfl⟩⟩
                                    have q171 : x6 = 1000 * q17 + r18 := by have i1 := q17e.out; have i2 := r18e.out; omega
                                    have q172 : 0 ≤ r18 ∧ r18 ≤ 999 ∧ 0 ≤ q17 ∧ q17 ≤ 65 := by have i1 := q17e.out; have i2 := r18e.out; omega
                                    have h28 : Is ρ pg28 (r18) := Zremp h27 (Zc 1000) (by omega) r18e.out
                                    have h29 : Is ρ pg29 (r18 + 1) := Zadd (Zc 1) h28 (by omega) (by omega)
                                    refine ⟨fun g17 => ?_, fun g17 => ?_⟩
                                    · have k17 : ((1 : Int) ≤ r18 + 1) := Zleqt (Zc 1) h29 g17
                                      clear g17
                                      clear k17
                                      refine ⟨fun g18 => ?_, fun g18 => ?_⟩
                                      · have k18 : ((r18 + 1 : Int) ≤ 100000) := Zleqt h29 (Zc 100000) g18
                                        clear g18
                                        clear k18
                                        refine ⟨fun g19 => ?_, fun g19 => ?_⟩
                                        · have k19 : ((0 : Int) ≤ (-1) * q13 + x0 + 50000) := Zleqt (Zc 0) h22 g19
                                          clear g19
                                          clear k19
                                          refine ⟨fun g20 => ?_, fun g20 => ?_⟩
                                          · have k20 : (((-1) * q13 + x0 + 50000 : Int) ≤ 10000000) := Zleqt h22 (Zc 10000000) g20
                                            clear g20
                                            clear k20
                                            have h30 : Is ρ pg30 (5 * r18 + 5) := Zmul (Zc 5) h29 (by omega) (by omega)
                                            have h31 : Is ρ pg31 ((-5) * r18 + (-5)) := Zsub (Zc 0) h30 (by omega) (by omega)
                                            obtain ⟨q19, q19e⟩ : ∃ q : Int, Hd ((5 * r18 + 5) / 1000 = q) := ⟨_, ⟨rfl⟩⟩
                                            obtain ⟨r20, r20e⟩ : ∃ q : Int, Hd ((5 * r18 + 5) % 1000 = q) := ⟨_, ⟨rfl⟩⟩
                                            have q191 : 5 * r18 + 5 = 1000 * q19 + r20 := by have i1 := q19e.out; have i2 := r20e.out; omega
                                            have q192 : 0 ≤ r20 ∧ r20 ≤ 999 ∧ 0 ≤ q19 ∧ q19 ≤ 5 := by have i1 := q19e.out; have i2 := r20e.out; omega
                                            have h32 : Is ρ pg32 ((-1) * r20) := Zremn h31 (Zc 1000) (by omega) (by have i1 := q19e.out; have i2 := r20e.out; omega)
                                            refine ⟨fun g21 => ?_, fun g21 => ?_⟩
                                            · have k21 : (((-1) * r20 : Int) ≤ 0) := Zleqt h32 (Zc 0) g21
                                              clear g21
                                              clear k21
                                              have h33 : Is ρ pg33 (40 * r18 + 40) := Zmul (Zc 40) h29 (by omega) (by omega)
                                              obtain ⟨q21, q21e⟩ : ∃ q : Int, Hd ((40 * r18 + 40) / 1000 = q) := ⟨_, ⟨rfl⟩⟩
                                              obtain ⟨r22, r22e⟩ : ∃ q : Int, Hd ((40 * r18 + 40) % 1000 = q) := ⟨_, ⟨rfl⟩⟩
                                              have q211 : 40 * r18 + 40 = 1000 * q21 + r22 := by have i1 := q21e.out; have i2 := r22e.out; omega
                                              have q212 : 0 ≤ r22 ∧ r22 ≤ 999 ∧ 0 ≤ q21 ∧ q21 ≤ 40 := by have i1 := q21e.out; have i2 := r22e.out; omega
                                              have h34 : Is ρ pg34 (r22) := Zremp h33 (Zc 1000) (by omega) r22e.out
                                              refine ⟨fun g22 => ?_, fun g22 => ?_⟩
                                              · have k22 : ((r22 : Int) ≤ 0) := Zleqt h34 (Zc 0) g22
                                                clear g22
                                                have h35 : Is ρ pg35 (q13 + (-1) * x0 + 9950060) := Zsub (Zc 10000000) h23 (by omega) (by omega)
                                                have h36 : Is ρ pg36 (q13 + (-1) * r16 + (-1) * x0 + 9950060) := Zsub (Zc 10000000) h26 (by omega) (by omega)
                                                have h37 : Is ρ pg37 (q13 + (-1) * x0 + 9950060) := Zmx h35 h36 (by omega)
                                                have h38 : Is ρ pg38 ((-1) * q19) := Zquon h31 (Zc 1000) (by omega) (by omega) (by have i1 := q19e.out; have i2 := r20e.out; omega)
                                                have h39 : Is ρ pg39 (q19) := Zsub (Zc 0) h38 (by omega) (by omega)
                                                have h40 : Is ρ pg40 (q13 + (-1) * q19 + (-1) * x0 + 9950060) := Zsub h37 h39 (by omega) (by omega)
                                                have h41 : Is ρ pg41 (q13 + (-1) * q19 + (-1) * x0 + 9950060) := Zmn h40 h40 (by omega)
                                                refine ⟨fun g23 => ?_, fun g23 => ?_⟩
                                                · have k23 : ((q13 + (-1) * q19 + (-1) * x0 + 9950060 : Int) ≤ q13 + (-1) * q19 + (-1) * x0 + 9950060) := Zleqt h40 h41 g23
                                                  clear g23
                                                  clear k23
                                                  have h42 : Is ρ pg42 (q13 + (-1) * r16 + (-1) * x0 + 9950060) := Zmn h35 h36 (by omega)
                                                  have h43 : Is ρ pg43 (q21) := Zquop h33 (Zc 1000) (by omega) (by omega) q21e.out
                                                  have h44 : Is ρ pg44 (q13 + (-1) * q21 + (-1) * r16 + (-1) * x0 + 9950060) := Zsub h42 h43 (by omega) (by omega)
                                                  have h45 : Is ρ pg45 (q13 + q19 + (-1) * q21 + (-1) * r16 + (-1) * x0 + 9950060) := Zadd h44 h39 (by omega) (by omega)
                                                  obtain ⟨u23, u23e⟩ : ∃ m : Int, max (q13 + (-1) * r16 + (-1) * x0 + 9950060) (q13 + q19 + (-1) * q21 + (-1) * r16 + (-1) * x0 + 9950060) = m := ⟨_, rfl⟩
                                                  have h46 : Is ρ pg46 (u23) := Zmx h42 h45 (by omega)
                                                  refine ⟨fun g24 => ?_, fun g24 => ?_⟩
                                                  · have k24 : ((u23 : Int) ≤ q13 + (-1) * r16 + (-1) * x0 + 9950060) := Zleqt h46 h42 g24
                                                    clear g24
                                                    have h47 : Is ρ pg47 ((-1) * q21) := Zsub (Zc 0) h43 (by omega) (by omega)
                                                    have h48 : Is ρ pg48 (q13 + (-1) * q19 + q21 + (-1) * x0 + 9950060) := Zsub h41 h47 (by omega) (by omega)
                                                    obtain ⟨u24, u24e⟩ : ∃ m : Int, min (q13 + (-1) * x0 + 9950060) (q13 + (-1) * q19 + q21 + (-1) * x0 + 9950060) = m := ⟨_, rfl⟩
                                                    have h49 : Is ρ pg49 (u24) := Zmn h37 h48 (by omega)
                                                    refine ⟨fun g25 => ?_, fun g25 => ?_⟩
                                                    · have k25 : ((q13 + (-1) * x0 + 9950060 : Int) ≤ u24) := Zleqt h37 h49 g25
                                                      clear g25
                                                      have h50 : Is ρ pg50 ((-1) * q21 + u23) := Zadd h46 h47 (by omega) (by omega)
                                                      obtain ⟨u25, u25e⟩ : ∃ m : Int, max (q13 + (-1) * q21 + (-1) * r16 + (-1) * x0 + 9950060) ((-1) * q21 + u23) = m := ⟨_, rfl⟩
                                                      have h51 : Is ρ pg51 (u25) := Zmx h44 h50 (by omega)
                                                      refine ⟨fun g26 => ?_, fun g26 => ?_⟩
                                                      · have k26 : ((u25 : Int) ≤ q13 + (-1) * q21 + (-1) * r16 + (-1) * x0 + 9950060) := Zleqt h51 h44 g26
                                                        clear g26
                                                        refine ⟨fun g27 => ?_, fun g27 => ?_⟩
                                                        · have k27 : ((u23 : Int) ≤ u24) := Zleqt h46 h49 g27
                                                          clear g27
                                                          refine ⟨fun g28 => ?_, fun g28 => ?_⟩
                                                          · have k28 : ((u25 : Int) ≤ q13 + (-1) * q19 + (-1) * x0 + 9950060) := Zleqt h51 h41 g28
                                                            clear g28
                                                            have h52 : Is ρ pg52 (q13 + (-1) * x0 + 9950000) := Zsub (Zc 10000000) h22 (by omega) (by omega)
                                                            refine ⟨fun g29 => ?_, fun g29 => ?_⟩
                                                            · have k29 : ((q13 + (-1) * x0 + 9950000 : Int) ≤ q13 + (-1) * q19 + (-1) * x0 + 9950060) := Zleqt h52 h41 g29
                                                              clear g29
                                                              clear k29
                                                              have h53 : Is ρ pg53 ((-1) * u25 + 10000000) := Zsub (Zc 10000000) h51 (by omega) (by omega)
                                                              have h54 : Is ρ pg54 ((-1) * q13 + q19 + x0 + 49940) := Zsub (Zc 10000000) h41 (by omega) (by omega)
                                                              obtain ⟨u26, u26e⟩ : ∃ m : Int, min ((-1) * u25 + 10000000) ((-1) * q13 + q19 + x0 + 49940) = m := ⟨_, rfl⟩
                                                              have h55 : Is ρ pg55 (u26) := Zmn h53 h54 (by omega)
                                                              refine ⟨fun g30 => ?_, fun g30 => ?_⟩
                                                              · have k30 : ((u26 : Int) ≤ (-1) * q13 + x0 + 50000) := Zleqt h55 h22 g30
                                                                clear g30
                                                                refine ⟨fun g31 => ?_, fun g31 => ?_⟩
                                                                · have k31 : ((q13 + (-1) * x0 + 9950000 : Int) ≤ u25) := Zleqt h52 h51 g31
                                                                  clear g31
                                                                  obtain ⟨u27, u27e⟩ : ∃ m : Int, max ((-1) * u25 + 10000000) ((-1) * q13 + q19 + x0 + 49940) = m := ⟨_, rfl⟩
                                                                  have h56 : Is ρ pg56 (u27) := Zmx h53 h54 (by omega)
                                                                  refine ⟨fun g32 => ?_, fun g32 => ?_⟩
                                                                  · have k32 : ((u27 : Int) ≤ (-1) * q13 + x0 + 50000) := Zleqt h56 h22 g32
                                                                    clear g32
                                                                    have h57 : Is ρ pg57 (5 * u27) := Zmul h56 h12 (by omega) (by omega)
                                                                    have h58 : Is ρ pg58 (m12 + m9 + r2 + r4 + 5 * u27) := Zadd h57 h16 (by omega) (by omega)
                                                                    have h59 : Is ρ pg59 (5 * x0 + 250000) := Zmul h1 h12 (by omega) (by omega)
                                                                    refine ⟨fun g33 => ?_, fun g33 => ?_⟩
                                                                    · have k33 : ((m12 + m9 + r2 + r4 + 5 * u27 : Int) ≤ 5 * x0 + 250000) := Zleqt h58 h59 g33
                                                                      clear g33
                                                                      exact rfl
                                                                    · have k33 : ¬ (((m12 + m9 + r2 + r4 + 5 * u27 : Int) ≤ 5 * x0 + 250000)) := Zleqf h58 h59 g33
                                                                      clear g33
                                                                      omega
                                                                  · have k32 : ¬ (((u27 : Int) ≤ (-1) * q13 + x0 + 50000)) := Zleqf h56 h22 g32
                                                                    clear g32
                                                                    omega
                                                                · have k31 : ¬ (((q13 + (-1) * x0 + 9950000 : Int) ≤ u25)) := Zleqf h52 h51 g31
                                                                  clear g31
                                                                  obtain ⟨u28, u28e⟩ : ∃ m : Int, max ((-1) * u25 + 10000000) ((-1) * q13 + q19 + x0 + 49940) = m := ⟨_, rfl⟩
                                                                  have h56 : Is ρ pg56 (u28) := Zmx h53 h54 (by omega)
                                                                  refine ⟨fun g32 => ?_, fun g32 => ?_⟩
                                                                  · have k32 : ((u28 : Int) ≤ (-1) * q13 + x0 + 50000) := Zleqt h56 h22 g32
                                                                    clear g32
                                                                    omega
                                                                  · have k32 : ¬ (((u28 : Int) ≤ (-1) * q13 + x0 + 50000)) := Zleqf h56 h22 g32
                                                                    clear g32
                                                                    have h57 : Is ρ pg57 (5 * u28) := Zmul h56 h12 (by omega) (by omega)
                                                                    have h58 : Is ρ pg58 (m12 + m9 + r2 + r4 + 5 * u28) := Zadd h57 h16 (by omega) (by omega)
                                                                    have h59 : Is ρ pg59 (5 * x0 + 250000) := Zmul h1 h12 (by omega) (by omega)
                                                                    refine ⟨fun g33 => ?_, fun g33 => ?_⟩
                                                                    · have k33 : ((m12 + m9 + r2 + r4 + 5 * u28 : Int) ≤ 5 * x0 + 250000) := Zleqt h58 h59 g33
                                                                      clear g33
                                                                      omega
                                                                    · have k33 : ¬ (((m12 + m9 + r2 + r4 + 5 * u28 : Int) ≤ 5 * x0 + 250000)) := Zleqf h58 h59 g33
                                                                      clear g33
                                                                      exact rfl
                                                              · have k30 : ¬ (((u26 : Int) ≤ (-1) * q13 + x0 + 50000)) := Zleqf h55 h22 g30
                                                                clear g30
                                                                omega
                                                            · have k29 : ¬ (((q13 + (-1) * x0 + 9950000 : Int) ≤ q13 + (-1) * q19 + (-1) * x0 + 9950060)) := Zleqf h52 h41 g29
                                                              clear g29
                                                              omega
                                                          · have k28 : ¬ (((u25 : Int) ≤ q13 + (-1) * q19 + (-1) * x0 + 9950060)) := Zleqf h51 h41 g28
                                                            clear g28
                                                            omega
                                                        · have k27 : ¬ (((u23 : Int) ≤ u24)) := Zleqf h46 h49 g27
                                                          clear g27
                                                          omega
                                                      · have k26 : ¬ (((u25 : Int) ≤ q13 + (-1) * q21 + (-1) * r16 + (-1) * x0 + 9950060)) := Zleqf h51 h44 g26
                                                        clear g26
                                                        omega
                                                    · have k25 : ¬ (((q13 + (-1) * x0 + 9950060 : Int) ≤ u24)) := Zleqf h37 h49 g25
                                                      clear g25
                                                      omega
                                                  · have k24 : ¬ (((u23 : Int) ≤ q13 + (-1) * r16 + (-1) * x0 + 9950060)) := Zleqf h46 h42 g24
                                                    clear g24
                                                    omega
                                                · have k23 : ¬ (((q13 + (-1) * q19 + (-1) * x0 + 9950060 : Int) ≤ q13 + (-1) * q19 + (-1) * x0 + 9950060)) := Zleqf h40 h41 g23
                                                  clear g23
                                                  omega
                                              · have k22 : ¬ (((r22 : Int) ≤ 0)) := Zleqf h34 (Zc 0) g22
                                                clear g22
                                                have h35 : Is ρ pg35 (q13 + (-1) * x0 + 9950060) := Zsub (Zc 10000000) h23 (by omega) (by omega)
                                                have h36 : Is ρ pg36 (q13 + (-1) * r16 + (-1) * x0 + 9950060) := Zsub (Zc 10000000) h26 (by omega) (by omega)
                                                have h37 : Is ρ pg37 (q13 + (-1) * x0 + 9950060) := Zmx h35 h36 (by omega)
                                                have h38 : Is ρ pg38 ((-1) * q19) := Zquon h31 (Zc 1000) (by omega) (by omega) (by have i1 := q19e.out; have i2 := r20e.out; omega)
                                                have h39 : Is ρ pg39 (q19) := Zsub (Zc 0) h38 (by omega) (by omega)
                                                have h40 : Is ρ pg40 (q13 + (-1) * q19 + (-1) * x0 + 9950060) := Zsub h37 h39 (by omega) (by omega)
                                                have h41 : Is ρ pg41 (q13 + (-1) * q19 + (-1) * x0 + 9950060) := Zmn h40 h40 (by omega)
                                                refine ⟨fun g23 => ?_, fun g23 => ?_⟩
                                                · have k23 : ((q13 + (-1) * q19 + (-1) * x0 + 9950060 : Int) ≤ q13 + (-1) * q19 + (-1) * x0 + 9950060) := Zleqt h40 h41 g23
                                                  clear g23
                                                  clear k23
                                                  have h42 : Is ρ pg42 (q13 + (-1) * r16 + (-1) * x0 + 9950060) := Zmn h35 h36 (by omega)
                                                  have h43 : Is ρ pg43 (q21) := Zquop h33 (Zc 1000) (by omega) (by omega) q21e.out
                                                  have h60 : Is ρ pg60 (q21 + 1) := Zadd h43 (Zc 1) (by omega) (by omega)
                                                  have h61 : Is ρ pg61 (q13 + (-1) * q21 + (-1) * r16 + (-1) * x0 + 9950059) := Zsub h42 h60 (by omega) (by omega)
                                                  have h62 : Is ρ pg62 (q13 + q19 + (-1) * q21 + (-1) * r16 + (-1) * x0 + 9950059) := Zadd h61 h39 (by omega) (by omega)
                                                  obtain ⟨u29, u29e⟩ : ∃ m : Int, max (q13 + (-1) * r16 + (-1) * x0 + 9950060) (q13 + q19 + (-1) * q21 + (-1) * r16 + (-1) * x0 + 9950059) = m := ⟨_, rfl⟩
                                                  have h63 : Is ρ pg63 (u29) := Zmx h42 h62 (by omega)
                                                  refine ⟨fun g24 => ?_, fun g24 => ?_⟩
                                                  · have k24 : ((u29 : Int) ≤ q13 + (-1) * r16 + (-1) * x0 + 9950060) := Zleqt h63 h42 g24
                                                    clear g24
                                                    have h64 : Is ρ pg64 ((-1) * q21 + (-1)) := Zsub (Zc 0) h60 (by omega) (by omega)
                                                    have h65 : Is ρ pg65 (q13 + (-1) * q19 + q21 + (-1) * x0 + 9950061) := Zsub h41 h64 (by omega) (by omega)
                                                    obtain ⟨u30, u30e⟩ : ∃ m : Int, min (q13 + (-1) * x0 + 9950060) (q13 + (-1) * q19 + q21 + (-1) * x0 + 9950061) = m := ⟨_, rfl⟩
                                                    have h66 : Is ρ pg66 (u30) := Zmn h37 h65 (by omega)
                                                    refine ⟨fun g25 => ?_, fun g25 => ?_⟩
                                                    · have k25 : ((q13 + (-1) * x0 + 9950060 : Int) ≤ u30) := Zleqt h37 h66 g25
                                                      clear g25
                                                      have h67 : Is ρ pg67 ((-1) * q21 + u29 + (-1)) := Zadd h63 h64 (by omega) (by omega)
                                                      obtain ⟨u31, u31e⟩ : ∃ m : Int, max (q13 + (-1) * q21 + (-1) * r16 + (-1) * x0 + 9950059) ((-1) * q21 + u29 + (-1)) = m := ⟨_, rfl⟩
                                                      have h68 : Is ρ pg68 (u31) := Zmx h61 h67 (by omega)
                                                      refine ⟨fun g26 => ?_, fun g26 => ?_⟩
                                                      · have k26 : ((u31 : Int) ≤ q13 + (-1) * q21 + (-1) * r16 + (-1) * x0 + 9950059) := Zleqt h68 h61 g26
                                                        clear g26
                                                        refine ⟨fun g27 => ?_, fun g27 => ?_⟩
                                                        · have k27 : ((u29 : Int) ≤ u30) := Zleqt h63 h66 g27
                                                          clear g27
                                                          refine ⟨fun g28 => ?_, fun g28 => ?_⟩
                                                          · have k28 : ((u31 : Int) ≤ q13 + (-1) * q19 + (-1) * x0 + 9950060) := Zleqt h68 h41 g28
                                                            clear g28
                                                            have h52 : Is ρ pg52 (q13 + (-1) * x0 + 9950000) := Zsub (Zc 10000000) h22 (by omega) (by omega)
                                                            refine ⟨fun g29 => ?_, fun g29 => ?_⟩
                                                            · have k29 : ((q13 + (-1) * x0 + 9950000 : Int) ≤ q13 + (-1) * q19 + (-1) * x0 + 9950060) := Zleqt h52 h41 g29
                                                              clear g29
                                                              clear k29
                                                              have h69 : Is ρ pg69 ((-1) * u31 + 10000000) := Zsub (Zc 10000000) h68 (by omega) (by omega)
                                                              have h54 : Is ρ pg54 ((-1) * q13 + q19 + x0 + 49940) := Zsub (Zc 10000000) h41 (by omega) (by omega)
                                                              obtain ⟨u32, u32e⟩ : ∃ m : Int, min ((-1) * u31 + 10000000) ((-1) * q13 + q19 + x0 + 49940) = m := ⟨_, rfl⟩
                                                              have h70 : Is ρ pg70 (u32) := Zmn h69 h54 (by omega)
                                                              refine ⟨fun g30 => ?_, fun g30 => ?_⟩
                                                              · have k30 : ((u32 : Int) ≤ (-1) * q13 + x0 + 50000) := Zleqt h70 h22 g30
                                                                clear g30
                                                                refine ⟨fun g31 => ?_, fun g31 => ?_⟩
                                                                · have k31 : ((q13 + (-1) * x0 + 9950000 : Int) ≤ u31) := Zleqt h52 h68 g31
                                                                  clear g31
                                                                  obtain ⟨u33, u33e⟩ : ∃ m : Int, max ((-1) * u31 + 10000000) ((-1) * q13 + q19 + x0 + 49940) = m := ⟨_, rfl⟩
                                                                  have h71 : Is ρ pg71 (u33) := Zmx h69 h54 (by omega)
                                                                  refine ⟨fun g32 => ?_, fun g32 => ?_⟩
                                                                  · have k32 : ((u33 : Int) ≤ (-1) * q13 + x0 + 50000) := Zleqt h71 h22 g32
                                                                    clear g32
                                                                    have h72 : Is ρ pg72 (5 * u33) := Zmul h71 h12 (by omega) (by omega)
                                                                    have h73 : Is ρ pg73 (m12 + m9 + r2 + r4 + 5 * u33) := Zadd h72 h16 (by omega) (by omega)
                                                                    have h59 : Is ρ pg59 (5 * x0 + 250000) := Zmul h1 h12 (by omega) (by omega)
                                                                    refine ⟨fun g33 => ?_, fun g33 => ?_⟩
                                                                    · have k33 : ((m12 + m9 + r2 + r4 + 5 * u33 : Int) ≤ 5 * x0 + 250000) := Zleqt h73 h59 g33
                                                                      clear g33
                                                                      exact rfl
                                                                    · have k33 : ¬ (((m12 + m9 + r2 + r4 + 5 * u33 : Int) ≤ 5 * x0 + 250000)) := Zleqf h73 h59 g33
                                                                      clear g33
                                                                      omega
                                                                  · have k32 : ¬ (((u33 : Int) ≤ (-1) * q13 + x0 + 50000)) := Zleqf h71 h22 g32
                                                                    clear g32
                                                                    omega
                                                                · have k31 : ¬ (((q13 + (-1) * x0 + 9950000 : Int) ≤ u31)) := Zleqf h52 h68 g31
                                                                  clear g31
                                                                  obtain ⟨u34, u34e⟩ : ∃ m : Int, max ((-1) * u31 + 10000000) ((-1) * q13 + q19 + x0 + 49940) = m := ⟨_, rfl⟩
                                                                  have h71 : Is ρ pg71 (u34) := Zmx h69 h54 (by omega)
                                                                  refine ⟨fun g32 => ?_, fun g32 => ?_⟩
                                                                  · have k32 : ((u34 : Int) ≤ (-1) * q13 + x0 + 50000) := Zleqt h71 h22 g32
                                                                    clear g32
                                                                    omega
                                                                  · have k32 : ¬ (((u34 : Int) ≤ (-1) * q13 + x0 + 50000)) := Zleqf h71 h22 g32
                                                                    clear g32
                                                                    have h72 : Is ρ pg72 (5 * u34) := Zmul h71 h12 (by omega) (by omega)
                                                                    have h73 : Is ρ pg73 (m12 + m9 + r2 + r4 + 5 * u34) := Zadd h72 h16 (by omega) (by omega)
                                                                    have h59 : Is ρ pg59 (5 * x0 + 250000) := Zmul h1 h12 (by omega) (by omega)
                                                                    refine ⟨fun g33 => ?_, fun g33 => ?_⟩
                                                                    · have k33 : ((m12 + m9 + r2 + r4 + 5 * u34 : Int) ≤ 5 * x0 + 250000) := Zleqt h73 h59 g33
                                                                      clear g33
                                                                      omega
                                                                    · have k33 : ¬ (((m12 + m9 + r2 + r4 + 5 * u34 : Int) ≤ 5 * x0 + 250000)) := Zleqf h73 h59 g33
                                                                      clear g33
                                                                      exact rfl
                                                              · have k30 : ¬ (((u32 : Int) ≤ (-1) * q13 + x0 + 50000)) := Zleqf h70 h22 g30
                                                                clear g30
                                                                omega
                                                            · have k29 : ¬ (((q13 + (-1) * x0 + 9950000 : Int) ≤ q13 + (-1) * q19 + (-1) * x0 + 9950060)) := Zleqf h52 h41 g29
                                                              clear g29
                                                              omega
                                                          · have k28 : ¬ (((u31 : Int) ≤ q13 + (-1) * q19 + (-1) * x0 + 9950060)) := Zleqf h68 h41 g28
                                                            clear g28
                                                            omega
                                                        · have k27 : ¬ (((u29 : Int) ≤ u30)) := Zleqf h63 h66 g27
                                                          clear g27
                                                          omega
                                                      · have k26 : ¬ (((u31 : Int) ≤ q13 + (-1) * q21 + (-1) * r16 + (-1) * x0 + 9950059)) := Zleqf h68 h61 g26
                                                        clear g26
                                                        omega
                                                    · have k25 : ¬ (((q13 + (-1) * x0 + 9950060 : Int) ≤ u30)) := Zleqf h37 h66 g25
                                                      clear g25
                                                      omega
                                                  · have k24 : ¬ (((u29 : Int) ≤ q13 + (-1) * r16 + (-1) * x0 + 9950060)) := Zleqf h63 h42 g24
                                                    clear g24
                                                    omega
                                                · have k23 : ¬ (((q13 + (-1) * q19 + (-1) * x0 + 9950060 : Int) ≤ q13 + (-1) * q19 + (-1) * x0 + 9950060)) := Zleqf h40 h41 g23
                                                  clear g23
                                                  omega
                                            · have k21 : ¬ ((((-1) * r20 : Int) ≤ 0)) := Zleqf h32 (Zc 0) g21
                                              clear g21
                                              omega
                                          · have k20 : ¬ ((((-1) * q13 + x0 + 50000 : Int) ≤ 10000000)) := Zleqf h22 (Zc 10000000) g20
                                            clear g20
                                            omega
                                        · have k19 : ¬ (((0 : Int) ≤ (-1) * q13 + x0 + 50000)) := Zleqf (Zc 0) h22 g19
                                          clear g19
                                          omega
                                      · have k18 : ¬ (((r18 + 1 : Int) ≤ 100000)) := Zleqf h29 (Zc 100000) g18
                                        clear g18
                                        omega
                                    · have k17 : ¬ (((1 : Int) ≤ r18 + 1)) := Zleqf (Zc 1) h29 g17
                                      clear g17
                                      omega
                                  · have k16 : ¬ ((((-1) * q13 + r16 + x0 + 49940 : Int) ≤ 10000000)) := Zleqf h26 (Zc 10000000) g16
                                    clear g16
                                    omega
                                · have k15 : ¬ ((((-1) * q13 + x0 + 49940 : Int) ≤ (-1) * q13 + r16 + x0 + 49940)) := Zleqf h23 h26 g15
                                  clear g15
                                  omega
                              · have k14 : ¬ (((0 : Int) ≤ (-1) * q13 + x0 + 49940)) := Zleqf (Zc 0) h23 g14
                                clear g14
                                omega
                            · have k13 : ¬ (((1000 : Int) ≤ (-1) * q13 + x0 + 50000)) := Zleqf (Zc 1000) h22 g13
                              clear g13
                              omega
                          · have k12 : ¬ ((((-1) * q10 + 50000 : Int) ≤ (-1) * q13 + x0 + 50000)) := Zleqf h20 h22 g12
                            clear g12
                            exact rfl
                        · have k11 : ¬ (((r14 : Int) ≤ 0)) := Zleqf h17 (Zc 0) g11
                          clear g11
                          have h18 : Is ρ pg18 ((-1) * q10) := Zquon h14 h12 (by omega) (by omega) (by have i1 := q10e.out; have i2 := r11e.out; omega)
                          have h19 : Is ρ pg19 (q10) := Zsub (Zc 0) h18 (by omega) (by omega)
                          have h20 : Is ρ pg20 ((-1) * q10 + 50000) := Zsub (Zc 50000) h19 (by omega) (by omega)
                          have h21 : Is ρ pg21 (q13) := Zquop h16 h12 (by omega) (by omega) q13e.out
                          have h74 : Is ρ pg74 (q13 + 1) := Zadd h21 (Zc 1) (by omega) (by omega)
                          have h75 : Is ρ pg75 ((-1) * q13 + x0 + 49999) := Zsub h1 h74 (by omega) (by omega)
                          refine ⟨fun g12 => ?_, fun g12 => ?_⟩
                          · have k12 : (((-1) * q10 + 50000 : Int) ≤ (-1) * q13 + x0 + 49999) := Zleqt h20 h75 g12
                            clear g12
                            refine ⟨fun g13 => ?_, fun g13 => ?_⟩
                            · have k13 : ((1000 : Int) ≤ (-1) * q13 + x0 + 49999) := Zleqt (Zc 1000) h75 g13
                              clear g13
                              clear k13
                              have h76 : Is ρ pg76 ((-1) * q13 + x0 + 49939) := Zsub h75 (Zc 60) (by omega) (by omega)
                              refine ⟨fun g14 => ?_, fun g14 => ?_⟩
                              · have k14 : ((0 : Int) ≤ (-1) * q13 + x0 + 49939) := Zleqt (Zc 0) h76 g14
                                clear g14
                                clear k14
                                have h24 : Is ρ pg24 (x5) := Zconv e5 (by omega)
                                obtain ⟨q35, q35e⟩ : ∃ q : Int, Hd ((x5) / 40 = q) := ⟨_, ⟨rfl⟩⟩
                                obtain ⟨r36, r36e⟩ : ∃ q : Int, Hd ((x5) % 40 = q) := ⟨_, ⟨rfl⟩⟩
                                have q351 : x5 = 40 * q35 + r36 := by have i1 := q35e.out; have i2 := r36e.out; omega
                                have q352 : 0 ≤ r36 ∧ r36 ≤ 39 ∧ 0 ≤ q35 ∧ q35 ≤ 6 := by have i1 := q35e.out; have i2 := r36e.out; omega
                                have h25 : Is ρ pg25 (r36) := Zremp h24 (Zc 40) (by omega) r36e.out
                                have h77 : Is ρ pg77 ((-1) * q13 + r36 + x0 + 49939) := Zadd h76 h25 (by omega) (by omega)
                                refine ⟨fun g15 => ?_, fun g15 => ?_⟩
                                · have k15 : (((-1) * q13 + x0 + 49939 : Int) ≤ (-1) * q13 + r36 + x0 + 49939) := Zleqt h76 h77 g15
                                  clear g15
                                  clear k15
                                  refine ⟨fun g16 => ?_, fun g16 => ?_⟩
                                  · have k16 : (((-1) * q13 + r36 + x0 + 49939 : Int) ≤ 10000000) := Zleqt h77 (Zc 10000000) g16
                                    clear g16
                                    clear k16
                                    have h27 : Is ρ pg27 (x6) := Zconv e6 (by omega)
                                    obtain ⟨q37, q37e⟩ : ∃ q : Int, Hd ((x6) / 1000 = q) := ⟨_, ⟨rfl⟩⟩
                                    obtain ⟨r38, r38e⟩ : ∃ q : Int, Hd ((x6) % 1000 = q) := ⟨_, ⟨rfl⟩⟩
                                    have q371 : x6 = 1000 * q37 + r38 := by have i1 := q37e.out; have i2 := r38e.out; omega
                                    have q372 : 0 ≤ r38 ∧ r38 ≤ 999 ∧ 0 ≤ q37 ∧ q37 ≤ 65 := by have i1 := q37e.out; have i2 := r38e.out; omega
                                    have h28 : Is ρ pg28 (r38) := Zremp h27 (Zc 1000) (by omega) r38e.out
                                    have h29 : Is ρ pg29 (r38 + 1) := Zadd (Zc 1) h28 (by omega) (by omega)
                                    refine ⟨fun g17 => ?_, fun g17 => ?_⟩
                                    · have k17 : ((1 : Int) ≤ r38 + 1) := Zleqt (Zc 1) h29 g17
                                      clear g17
                                      clear k17
                                      refine ⟨fun g18 => ?_, fun g18 => ?_⟩
                                      · have k18 : ((r38 + 1 : Int) ≤ 100000) := Zleqt h29 (Zc 100000) g18
                                        clear g18
                                        clear k18
                                        refine ⟨fun g19 => ?_, fun g19 => ?_⟩
                                        · have k19 : ((0 : Int) ≤ (-1) * q13 + x0 + 49999) := Zleqt (Zc 0) h75 g19
                                          clear g19
                                          clear k19
                                          refine ⟨fun g20 => ?_, fun g20 => ?_⟩
                                          · have k20 : (((-1) * q13 + x0 + 49999 : Int) ≤ 10000000) := Zleqt h75 (Zc 10000000) g20
                                            clear g20
                                            clear k20
                                            have h30 : Is ρ pg30 (5 * r38 + 5) := Zmul (Zc 5) h29 (by omega) (by omega)
                                            have h31 : Is ρ pg31 ((-5) * r38 + (-5)) := Zsub (Zc 0) h30 (by omega) (by omega)
                                            obtain ⟨q39, q39e⟩ : ∃ q : Int, Hd ((5 * r38 + 5) / 1000 = q) := ⟨_, ⟨rfl⟩⟩
                                            obtain ⟨r40, r40e⟩ : ∃ q : Int, Hd ((5 * r38 + 5) % 1000 = q) := ⟨_, ⟨rfl⟩⟩
                                            have q391 : 5 * r38 + 5 = 1000 * q39 + r40 := by have i1 := q39e.out; have i2 := r40e.out; omega
                                            have q392 : 0 ≤ r40 ∧ r40 ≤ 999 ∧ 0 ≤ q39 ∧ q39 ≤ 5 := by have i1 := q39e.out; have i2 := r40e.out; omega
                                            have h32 : Is ρ pg32 ((-1) * r40) := Zremn h31 (Zc 1000) (by omega) (by have i1 := q39e.out; have i2 := r40e.out; omega)
                                            refine ⟨fun g21 => ?_, fun g21 => ?_⟩
                                            · have k21 : (((-1) * r40 : Int) ≤ 0) := Zleqt h32 (Zc 0) g21
                                              clear g21
                                              clear k21
                                              have h33 : Is ρ pg33 (40 * r38 + 40) := Zmul (Zc 40) h29 (by omega) (by omega)
                                              obtain ⟨q41, q41e⟩ : ∃ q : Int, Hd ((40 * r38 + 40) / 1000 = q) := ⟨_, ⟨rfl⟩⟩
                                              obtain ⟨r42, r42e⟩ : ∃ q : Int, Hd ((40 * r38 + 40) % 1000 = q) := ⟨_, ⟨rfl⟩⟩
                                              have q411 : 40 * r38 + 40 = 1000 * q41 + r42 := by have i1 := q41e.out; have i2 := r42e.out; omega
                                              have q412 : 0 ≤ r42 ∧ r42 ≤ 999 ∧ 0 ≤ q41 ∧ q41 ≤ 40 := by have i1 := q41e.out; have i2 := r42e.out; omega
                                              have h34 : Is ρ pg34 (r42) := Zremp h33 (Zc 1000) (by omega) r42e.out
                                              refine ⟨fun g22 => ?_, fun g22 => ?_⟩
                                              · have k22 : ((r42 : Int) ≤ 0) := Zleqt h34 (Zc 0) g22
                                                clear g22
                                                have h78 : Is ρ pg78 (q13 + (-1) * x0 + 9950061) := Zsub (Zc 10000000) h76 (by omega) (by omega)
                                                have h79 : Is ρ pg79 (q13 + (-1) * r36 + (-1) * x0 + 9950061) := Zsub (Zc 10000000) h77 (by omega) (by omega)
                                                have h80 : Is ρ pg80 (q13 + (-1) * x0 + 9950061) := Zmx h78 h79 (by omega)
                                                have h38 : Is ρ pg38 ((-1) * q39) := Zquon h31 (Zc 1000) (by omega) (by omega) (by have i1 := q39e.out; have i2 := r40e.out; omega)
                                                have h39 : Is ρ pg39 (q39) := Zsub (Zc 0) h38 (by omega) (by omega)
                                                have h81 : Is ρ pg81 (q13 + (-1) * q39 + (-1) * x0 + 9950061) := Zsub h80 h39 (by omega) (by omega)
                                                have h82 : Is ρ pg82 (q13 + (-1) * q39 + (-1) * x0 + 9950061) := Zmn h81 h81 (by omega)
                                                refine ⟨fun g23 => ?_, fun g23 => ?_⟩
                                                · have k23 : ((q13 + (-1) * q39 + (-1) * x0 + 9950061 : Int) ≤ q13 + (-1) * q39 + (-1) * x0 + 9950061) := Zleqt h81 h82 g23
                                                  clear g23
                                                  clear k23
                                                  have h83 : Is ρ pg83 (q13 + (-1) * r36 + (-1) * x0 + 9950061) := Zmn h78 h79 (by omega)
                                                  have h43 : Is ρ pg43 (q41) := Zquop h33 (Zc 1000) (by omega) (by omega) q41e.out
                                                  have h84 : Is ρ pg84 (q13 + (-1) * q41 + (-1) * r36 + (-1) * x0 + 9950061) := Zsub h83 h43 (by omega) (by omega)
                                                  have h85 : Is ρ pg85 (q13 + q39 + (-1) * q41 + (-1) * r36 + (-1) * x0 + 9950061) := Zadd h84 h39 (by omega) (by omega)
                                                  obtain ⟨u43, u43e⟩ : ∃ m : Int, max (q13 + (-1) * r36 + (-1) * x0 + 9950061) (q13 + q39 + (-1) * q41 + (-1) * r36 + (-1) * x0 + 9950061) = m := ⟨_, rfl⟩
                                                  have h86 : Is ρ pg86 (u43) := Zmx h83 h85 (by omega)
                                                  refine ⟨fun g24 => ?_, fun g24 => ?_⟩
                                                  · have k24 : ((u43 : Int) ≤ q13 + (-1) * r36 + (-1) * x0 + 9950061) := Zleqt h86 h83 g24
                                                    clear g24
                                                    have h47 : Is ρ pg47 ((-1) * q41) := Zsub (Zc 0) h43 (by omega) (by omega)
                                                    have h87 : Is ρ pg87 (q13 + (-1) * q39 + q41 + (-1) * x0 + 9950061) := Zsub h82 h47 (by omega) (by omega)
                                                    obtain ⟨u44, u44e⟩ : ∃ m : Int, min (q13 + (-1) * x0 + 9950061) (q13 + (-1) * q39 + q41 + (-1) * x0 + 9950061) = m := ⟨_, rfl⟩
                                                    have h88 : Is ρ pg88 (u44) := Zmn h80 h87 (by omega)
                                                    refine ⟨fun g25 => ?_, fun g25 => ?_⟩
                                                    · have k25 : ((q13 + (-1) * x0 + 9950061 : Int) ≤ u44) := Zleqt h80 h88 g25
                                                      clear g25
                                                      have h89 : Is ρ pg89 ((-1) * q41 + u43) := Zadd h86 h47 (by omega) (by omega)
                                                      obtain ⟨u45, u45e⟩ : ∃ m : Int, max (q13 + (-1) * q41 + (-1) * r36 + (-1) * x0 + 9950061) ((-1) * q41 + u43) = m := ⟨_, rfl⟩
                                                      have h90 : Is ρ pg90 (u45) := Zmx h84 h89 (by omega)
                                                      refine ⟨fun g26 => ?_, fun g26 => ?_⟩
                                                      · have k26 : ((u45 : Int) ≤ q13 + (-1) * q41 + (-1) * r36 + (-1) * x0 + 9950061) := Zleqt h90 h84 g26
                                                        clear g26
                                                        refine ⟨fun g27 => ?_, fun g27 => ?_⟩
                                                        · have k27 : ((u43 : Int) ≤ u44) := Zleqt h86 h88 g27
                                                          clear g27
                                                          refine ⟨fun g28 => ?_, fun g28 => ?_⟩
                                                          · have k28 : ((u45 : Int) ≤ q13 + (-1) * q39 + (-1) * x0 + 9950061) := Zleqt h90 h82 g28
                                                            clear g28
                                                            have h91 : Is ρ pg91 (q13 + (-1) * x0 + 9950001) := Zsub (Zc 10000000) h75 (by omega) (by omega)
                                                            refine ⟨fun g29 => ?_, fun g29 => ?_⟩
                                                            · have k29 : ((q13 + (-1) * x0 + 9950001 : Int) ≤ q13 + (-1) * q39 + (-1) * x0 + 9950061) := Zleqt h91 h82 g29
                                                              clear g29
                                                              clear k29
                                                              have h92 : Is ρ pg92 ((-1) * u45 + 10000000) := Zsub (Zc 10000000) h90 (by omega) (by omega)
                                                              have h93 : Is ρ pg93 ((-1) * q13 + q39 + x0 + 49939) := Zsub (Zc 10000000) h82 (by omega) (by omega)
                                                              obtain ⟨u46, u46e⟩ : ∃ m : Int, min ((-1) * u45 + 10000000) ((-1) * q13 + q39 + x0 + 49939) = m := ⟨_, rfl⟩
                                                              have h94 : Is ρ pg94 (u46) := Zmn h92 h93 (by omega)
                                                              refine ⟨fun g30 => ?_, fun g30 => ?_⟩
                                                              · have k30 : ((u46 : Int) ≤ (-1) * q13 + x0 + 49999) := Zleqt h94 h75 g30
                                                                clear g30
                                                                refine ⟨fun g31 => ?_, fun g31 => ?_⟩
                                                                · have k31 : ((q13 + (-1) * x0 + 9950001 : Int) ≤ u45) := Zleqt h91 h90 g31
                                                                  clear g31
                                                                  obtain ⟨u47, u47e⟩ : ∃ m : Int, max ((-1) * u45 + 10000000) ((-1) * q13 + q39 + x0 + 49939) = m := ⟨_, rfl⟩
                                                                  have h95 : Is ρ pg95 (u47) := Zmx h92 h93 (by omega)
                                                                  refine ⟨fun g32 => ?_, fun g32 => ?_⟩
                                                                  · have k32 : ((u47 : Int) ≤ (-1) * q13 + x0 + 49999) := Zleqt h95 h75 g32
                                                                    clear g32
                                                                    have h96 : Is ρ pg96 (5 * u47) := Zmul h95 h12 (by omega) (by omega)
                                                                    have h97 : Is ρ pg97 (m12 + m9 + r2 + r4 + 5 * u47) := Zadd h96 h16 (by omega) (by omega)
                                                                    have h59 : Is ρ pg59 (5 * x0 + 250000) := Zmul h1 h12 (by omega) (by omega)
                                                                    refine ⟨fun g33 => ?_, fun g33 => ?_⟩
                                                                    · have k33 : ((m12 + m9 + r2 + r4 + 5 * u47 : Int) ≤ 5 * x0 + 250000) := Zleqt h97 h59 g33
                                                                      clear g33
                                                                      exact rfl
                                                                    · have k33 : ¬ (((m12 + m9 + r2 + r4 + 5 * u47 : Int) ≤ 5 * x0 + 250000)) := Zleqf h97 h59 g33
                                                                      clear g33
                                                                      omega
                                                                  · have k32 : ¬ (((u47 : Int) ≤ (-1) * q13 + x0 + 49999)) := Zleqf h95 h75 g32
                                                                    clear g32
                                                                    omega
                                                                · have k31 : ¬ (((q13 + (-1) * x0 + 9950001 : Int) ≤ u45)) := Zleqf h91 h90 g31
                                                                  clear g31
                                                                  obtain ⟨u48, u48e⟩ : ∃ m : Int, max ((-1) * u45 + 10000000) ((-1) * q13 + q39 + x0 + 49939) = m := ⟨_, rfl⟩
                                                                  have h95 : Is ρ pg95 (u48) := Zmx h92 h93 (by omega)
                                                                  refine ⟨fun g32 => ?_, fun g32 => ?_⟩
                                                                  · have k32 : ((u48 : Int) ≤ (-1) * q13 + x0 + 49999) := Zleqt h95 h75 g32
                                                                    clear g32
                                                                    omega
                                                                  · have k32 : ¬ (((u48 : Int) ≤ (-1) * q13 + x0 + 49999)) := Zleqf h95 h75 g32
                                                                    clear g32
                                                                    have h96 : Is ρ pg96 (5 * u48) := Zmul h95 h12 (by omega) (by omega)
                                                                    have h97 : Is ρ pg97 (m12 + m9 + r2 + r4 + 5 * u48) := Zadd h96 h16 (by omega) (by omega)
                                                                    have h59 : Is ρ pg59 (5 * x0 + 250000) := Zmul h1 h12 (by omega) (by omega)
                                                                    refine ⟨fun g33 => ?_, fun g33 => ?_⟩
                                                                    · have k33 : ((m12 + m9 + r2 + r4 + 5 * u48 : Int) ≤ 5 * x0 + 250000) := Zleqt h97 h59 g33
                                                                      clear g33
                                                                      omega
                                                                    · have k33 : ¬ (((m12 + m9 + r2 + r4 + 5 * u48 : Int) ≤ 5 * x0 + 250000)) := Zleqf h97 h59 g33
                                                                      clear g33
                                                                      exact rfl
                                                              · have k30 : ¬ (((u46 : Int) ≤ (-1) * q13 + x0 + 49999)) := Zleqf h94 h75 g30
                                                                clear g30
                                                                omega
                                                            · have k29 : ¬ (((q13 + (-1) * x0 + 9950001 : Int) ≤ q13 + (-1) * q39 + (-1) * x0 + 9950061)) := Zleqf h91 h82 g29
                                                              clear g29
                                                              omega
                                                          · have k28 : ¬ (((u45 : Int) ≤ q13 + (-1) * q39 + (-1) * x0 + 9950061)) := Zleqf h90 h82 g28
                                                            clear g28
                                                            omega
                                                        · have k27 : ¬ (((u43 : Int) ≤ u44)) := Zleqf h86 h88 g27
                                                          clear g27
                                                          omega
                                                      · have k26 : ¬ (((u45 : Int) ≤ q13 + (-1) * q41 + (-1) * r36 + (-1) * x0 + 9950061)) := Zleqf h90 h84 g26
                                                        clear g26
                                                        omega
                                                    · have k25 : ¬ (((q13 + (-1) * x0 + 9950061 : Int) ≤ u44)) := Zleqf h80 h88 g25
                                                      clear g25
                                                      omega
                                                  · have k24 : ¬ (((u43 : Int) ≤ q13 + (-1) * r36 + (-1) * x0 + 9950061)) := Zleqf h86 h83 g24
                                                    clear g24
                                                    omega
                                                · have k23 : ¬ (((q13 + (-1) * q39 + (-1) * x0 + 9950061 : Int) ≤ q13 + (-1) * q39 + (-1) * x0 + 9950061)) := Zleqf h81 h82 g23
                                                  clear g23
                                                  omega
                                              · have k22 : ¬ (((r42 : Int) ≤ 0)) := Zleqf h34 (Zc 0) g22
                                                clear g22
                                                have h78 : Is ρ pg78 (q13 + (-1) * x0 + 9950061) := Zsub (Zc 10000000) h76 (by omega) (by omega)
                                                have h79 : Is ρ pg79 (q13 + (-1) * r36 + (-1) * x0 + 9950061) := Zsub (Zc 10000000) h77 (by omega) (by omega)
                                                have h80 : Is ρ pg80 (q13 + (-1) * x0 + 9950061) := Zmx h78 h79 (by omega)
                                                have h38 : Is ρ pg38 ((-1) * q39) := Zquon h31 (Zc 1000) (by omega) (by omega) (by have i1 := q39e.out; have i2 := r40e.out; omega)
                                                have h39 : Is ρ pg39 (q39) := Zsub (Zc 0) h38 (by omega) (by omega)
                                                have h81 : Is ρ pg81 (q13 + (-1) * q39 + (-1) * x0 + 9950061) := Zsub h80 h39 (by omega) (by omega)
                                                have h82 : Is ρ pg82 (q13 + (-1) * q39 + (-1) * x0 + 9950061) := Zmn h81 h81 (by omega)
                                                refine ⟨fun g23 => ?_, fun g23 => ?_⟩
                                                · have k23 : ((q13 + (-1) * q39 + (-1) * x0 + 9950061 : Int) ≤ q13 + (-1) * q39 + (-1) * x0 + 9950061) := Zleqt h81 h82 g23
                                                  clear g23
                                                  clear k23
                                                  have h83 : Is ρ pg83 (q13 + (-1) * r36 + (-1) * x0 + 9950061) := Zmn h78 h79 (by omega)
                                                  have h43 : Is ρ pg43 (q41) := Zquop h33 (Zc 1000) (by omega) (by omega) q41e.out
                                                  have h60 : Is ρ pg60 (q41 + 1) := Zadd h43 (Zc 1) (by omega) (by omega)
                                                  have h98 : Is ρ pg98 (q13 + (-1) * q41 + (-1) * r36 + (-1) * x0 + 9950060) := Zsub h83 h60 (by omega) (by omega)
                                                  have h99 : Is ρ pg99 (q13 + q39 + (-1) * q41 + (-1) * r36 + (-1) * x0 + 9950060) := Zadd h98 h39 (by omega) (by omega)
                                                  obtain ⟨u49, u49e⟩ : ∃ m : Int, max (q13 + (-1) * r36 + (-1) * x0 + 9950061) (q13 + q39 + (-1) * q41 + (-1) * r36 + (-1) * x0 + 9950060) = m := ⟨_, rfl⟩
                                                  have h100 : Is ρ pg100 (u49) := Zmx h83 h99 (by omega)
                                                  refine ⟨fun g24 => ?_, fun g24 => ?_⟩
                                                  · have k24 : ((u49 : Int) ≤ q13 + (-1) * r36 + (-1) * x0 + 9950061) := Zleqt h100 h83 g24
                                                    clear g24
                                                    have h64 : Is ρ pg64 ((-1) * q41 + (-1)) := Zsub (Zc 0) h60 (by omega) (by omega)
                                                    have h101 : Is ρ pg101 (q13 + (-1) * q39 + q41 + (-1) * x0 + 9950062) := Zsub h82 h64 (by omega) (by omega)
                                                    obtain ⟨u50, u50e⟩ : ∃ m : Int, min (q13 + (-1) * x0 + 9950061) (q13 + (-1) * q39 + q41 + (-1) * x0 + 9950062) = m := ⟨_, rfl⟩
                                                    have h102 : Is ρ pg102 (u50) := Zmn h80 h101 (by omega)
                                                    refine ⟨fun g25 => ?_, fun g25 => ?_⟩
                                                    · have k25 : ((q13 + (-1) * x0 + 9950061 : Int) ≤ u50) := Zleqt h80 h102 g25
                                                      clear g25
                                                      have h103 : Is ρ pg103 ((-1) * q41 + u49 + (-1)) := Zadd h100 h64 (by omega) (by omega)
                                                      obtain ⟨u51, u51e⟩ : ∃ m : Int, max (q13 + (-1) * q41 + (-1) * r36 + (-1) * x0 + 9950060) ((-1) * q41 + u49 + (-1)) = m := ⟨_, rfl⟩
                                                      have h104 : Is ρ pg104 (u51) := Zmx h98 h103 (by omega)
                                                      refine ⟨fun g26 => ?_, fun g26 => ?_⟩
                                                      · have k26 : ((u51 : Int) ≤ q13 + (-1) * q41 + (-1) * r36 + (-1) * x0 + 9950060) := Zleqt h104 h98 g26
                                                        clear g26
                                                        refine ⟨fun g27 => ?_, fun g27 => ?_⟩
                                                        · have k27 : ((u49 : Int) ≤ u50) := Zleqt h100 h102 g27
                                                          clear g27
                                                          refine ⟨fun g28 => ?_, fun g28 => ?_⟩
                                                          · have k28 : ((u51 : Int) ≤ q13 + (-1) * q39 + (-1) * x0 + 9950061) := Zleqt h104 h82 g28
                                                            clear g28
                                                            have h91 : Is ρ pg91 (q13 + (-1) * x0 + 9950001) := Zsub (Zc 10000000) h75 (by omega) (by omega)
                                                            refine ⟨fun g29 => ?_, fun g29 => ?_⟩
                                                            · have k29 : ((q13 + (-1) * x0 + 9950001 : Int) ≤ q13 + (-1) * q39 + (-1) * x0 + 9950061) := Zleqt h91 h82 g29
                                                              clear g29
                                                              clear k29
                                                              have h105 : Is ρ pg105 ((-1) * u51 + 10000000) := Zsub (Zc 10000000) h104 (by omega) (by omega)
                                                              have h93 : Is ρ pg93 ((-1) * q13 + q39 + x0 + 49939) := Zsub (Zc 10000000) h82 (by omega) (by omega)
                                                              obtain ⟨u52, u52e⟩ : ∃ m : Int, min ((-1) * u51 + 10000000) ((-1) * q13 + q39 + x0 + 49939) = m := ⟨_, rfl⟩
                                                              have h106 : Is ρ pg106 (u52) := Zmn h105 h93 (by omega)
                                                              refine ⟨fun g30 => ?_, fun g30 => ?_⟩
                                                              · have k30 : ((u52 : Int) ≤ (-1) * q13 + x0 + 49999) := Zleqt h106 h75 g30
                                                                clear g30
                                                                refine ⟨fun g31 => ?_, fun g31 => ?_⟩
                                                                · have k31 : ((q13 + (-1) * x0 + 9950001 : Int) ≤ u51) := Zleqt h91 h104 g31
                                                                  clear g31
                                                                  obtain ⟨u53, u53e⟩ : ∃ m : Int, max ((-1) * u51 + 10000000) ((-1) * q13 + q39 + x0 + 49939) = m := ⟨_, rfl⟩
                                                                  have h107 : Is ρ pg107 (u53) := Zmx h105 h93 (by omega)
                                                                  refine ⟨fun g32 => ?_, fun g32 => ?_⟩
                                                                  · have k32 : ((u53 : Int) ≤ (-1) * q13 + x0 + 49999) := Zleqt h107 h75 g32
                                                                    clear g32
                                                                    have h108 : Is ρ pg108 (5 * u53) := Zmul h107 h12 (by omega) (by omega)
                                                                    have h109 : Is ρ pg109 (m12 + m9 + r2 + r4 + 5 * u53) := Zadd h108 h16 (by omega) (by omega)
                                                                    have h59 : Is ρ pg59 (5 * x0 + 250000) := Zmul h1 h12 (by omega) (by omega)
                                                                    refine ⟨fun g33 => ?_, fun g33 => ?_⟩
                                                                    · have k33 : ((m12 + m9 + r2 + r4 + 5 * u53 : Int) ≤ 5 * x0 + 250000) := Zleqt h109 h59 g33
                                                                      clear g33
                                                                      exact rfl
                                                                    · have k33 : ¬ (((m12 + m9 + r2 + r4 + 5 * u53 : Int) ≤ 5 * x0 + 250000)) := Zleqf h109 h59 g33
                                                                      clear g33
                                                                      omega
                                                                  · have k32 : ¬ (((u53 : Int) ≤ (-1) * q13 + x0 + 49999)) := Zleqf h107 h75 g32
                                                                    clear g32
                                                                    omega
                                                                · have k31 : ¬ (((q13 + (-1) * x0 + 9950001 : Int) ≤ u51)) := Zleqf h91 h104 g31
                                                                  clear g31
                                                                  obtain ⟨u54, u54e⟩ : ∃ m : Int, max ((-1) * u51 + 10000000) ((-1) * q13 + q39 + x0 + 49939) = m := ⟨_, rfl⟩
                                                                  have h107 : Is ρ pg107 (u54) := Zmx h105 h93 (by omega)
                                                                  refine ⟨fun g32 => ?_, fun g32 => ?_⟩
                                                                  · have k32 : ((u54 : Int) ≤ (-1) * q13 + x0 + 49999) := Zleqt h107 h75 g32
                                                                    clear g32
                                                                    omega
                                                                  · have k32 : ¬ (((u54 : Int) ≤ (-1) * q13 + x0 + 49999)) := Zleqf h107 h75 g32
                                                                    clear g32
                                                                    have h108 : Is ρ pg108 (5 * u54) := Zmul h107 h12 (by omega) (by omega)
                                                                    have h109 : Is ρ pg109 (m12 + m9 + r2 + r4 + 5 * u54) := Zadd h108 h16 (by omega) (by omega)
                                                                    have h59 : Is ρ pg59 (5 * x0 + 250000) := Zmul h1 h12 (by omega) (by omega)
                                                                    refine ⟨fun g33 => ?_, fun g33 => ?_⟩
                                                                    · have k33 : ((m12 + m9 + r2 + r4 + 5 * u54 : Int) ≤ 5 * x0 + 250000) := Zleqt h109 h59 g33
                                                                      clear g33
                                                                      omega
                                                                    · have k33 : ¬ (((m12 + m9 + r2 + r4 + 5 * u54 : Int) ≤ 5 * x0 + 250000)) := Zleqf h109 h59 g33
                                                                      clear g33
                                                                      exact rfl
                                                              · have k30 : ¬ (((u52 : Int) ≤ (-1) * q13 + x0 + 49999)) := Zleqf h106 h75 g30
                                                                clear g30
                                                                omega
                                                            · have k29 : ¬ (((q13 + (-1) * x0 + 9950001 : Int) ≤ q13 + (-1) * q39 + (-1) * x0 + 9950061)) := Zleqf h91 h82 g29
                                                              clear g29
                                                              omega
                                                          · have k28 : ¬ (((u51 : Int) ≤ q13 + (-1) * q39 + (-1) * x0 + 9950061)) := Zleqf h104 h82 g28
                                                            clear g28
                                                            omega
                                                        · have k27 : ¬ (((u49 : Int) ≤ u50)) := Zleqf h100 h102 g27
                                                          clear g27
                                                          omega
                                                      · have k26 : ¬ (((u51 : Int) ≤ q13 + (-1) * q41 + (-1) * r36 + (-1) * x0 + 9950060)) := Zleqf h104 h98 g26
                                                        clear g26
                                                        omega
                                                    · have k25 : ¬ (((q13 + (-1) * x0 + 9950061 : Int) ≤ u50)) := Zleqf h80 h102 g25
                                                      clear g25
                                                      omega
                                                  · have k24 : ¬ (((u49 : Int) ≤ q13 + (-1) * r36 + (-1) * x0 + 9950061)) := Zleqf h100 h83 g24
                                                    clear g24
                                                    omega
                                                · have k23 : ¬ (((q13 + (-1) * q39 + (-1) * x0 + 9950061 : Int) ≤ q13 + (-1) * q39 + (-1) * x0 + 9950061)) := Zleqf h81 h82 g23
                                                  clear g23
                                                  omega
                                            · have k21 : ¬ ((((-1) * r40 : Int) ≤ 0)) := Zleqf h32 (Zc 0) g21
                                              clear g21
                                              omega
                                          · have k20 : ¬ ((((-1) * q13 + x0 + 49999 : Int) ≤ 10000000)) := Zleqf h75 (Zc 10000000) g20
                                            clear g20
                                            omega
                                        · have k19 : ¬ (((0 : Int) ≤ (-1) * q13 + x0 + 49999)) := Zleqf (Zc 0) h75 g19
                                          clear g19
                                          omega
                                      · have k18 : ¬ (((r38 + 1 : Int) ≤ 100000)) := Zleqf h29 (Zc 100000) g18
                                        clear g18
                                        omega
                                    · have k17 : ¬ (((1 : Int) ≤ r38 + 1)) := Zleqf (Zc 1) h29 g17
                                      clear g17
                                      omega
                                  · have k16 : ¬ ((((-1) * q13 + r36 + x0 + 49939 : Int) ≤ 10000000)) := Zleqf h77 (Zc 10000000) g16
                                    clear g16
                                    omega
                                · have k15 : ¬ ((((-1) * q13 + x0 + 49939 : Int) ≤ (-1) * q13 + r36 + x0 + 49939)) := Zleqf h76 h77 g15
                                  clear g15
                                  omega
                              · have k14 : ¬ (((0 : Int) ≤ (-1) * q13 + x0 + 49939)) := Zleqf (Zc 0) h76 g14
                                clear g14
                                omega
                            · have k13 : ¬ (((1000 : Int) ≤ (-1) * q13 + x0 + 49999)) := Zleqf (Zc 1000) h75 g13
                              clear g13
                              omega
                          · have k12 : ¬ ((((-1) * q10 + 50000 : Int) ≤ (-1) * q13 + x0 + 49999)) := Zleqf h20 h75 g12
                            clear g12
                            exact rfl
                      · have k10 : ¬ ((((-1) * r11 : Int) ≤ 0)) := Zleqf h15 (Zc 0) g10
                        clear g10
                        omega
                  · have k8 : ¬ (((5 : Int) ≤ 1000)) := Zleqf h12 (Zc 1000) g8
                    clear g8
                    omega
                · have k7 : ¬ (((1 : Int) ≤ 5)) := Zleqf (Zc 1) h12 g7
                  clear g7
                  omega
              · have k6 : ¬ (((r6 + 1 : Int) ≤ 1000)) := Zleqf h9 (Zc 1000) g6
                clear g6
                omega
            · have k5 : ¬ (((1 : Int) ≤ r6 + 1)) := Zleqf (Zc 1) h9 g5
              clear g5
              omega
          · have k4 : ¬ (((r2 + r4 : Int) ≤ 10000)) := Zleqf h6 (Zc 10000) g4
            clear g4
            omega
        · have k3 : ¬ (((r2 : Int) ≤ r2 + r4)) := Zleqf h3 h6 g3
          clear g3
          omega
      · have k2 : ¬ (((0 : Int) ≤ r2)) := Zleqf (Zc 0) h3 g2
        clear g2
        omega
    · have k1 : ¬ (((x0 + 50000 : Int) ≤ 20000000)) := Zleqf h1 (Zc 20000000) g1
      clear g1
      omega
  · have k0 : ¬ (((50000 : Int) ≤ x0 + 50000)) := Zleqf (Zc 50000) h1 g0
    clear g0
    omega
end Go.Proofs.Ytlffofemajfdjaa.Cx
