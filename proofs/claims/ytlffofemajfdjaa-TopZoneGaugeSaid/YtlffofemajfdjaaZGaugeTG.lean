/- The tests of a law and their arithmetic. Made by tools/cxgoal.py. -/
import Derived.Test.YtlffofemajfdjaaZGaugeT
set_option linter.unusedSimpArgs false
set_option linter.unusedVariables false
set_option maxRecDepth 100000
set_option maxHeartbeats 4000000
namespace Go.Proofs.Ytlffofemajfdjaa.Cx
open Go Go.RowKit

theorem zg_goal {ρ : Env} {x0 x1 x2 x3 x4 x5 x6 : Int} (e0 : Is ρ (.v 0) x0) (r0 : 0 ≤ x0 ∧ x0 ≤ 255) (e1 : Is ρ (.v 1) x1) (r1 : 0 ≤ x1 ∧ x1 ≤ 255) (e2 : Is ρ (.v 2) x2) (r2 : 0 ≤ x2 ∧ x2 ≤ 255) (e3 : Is ρ (.v 3) x3) (r3 : 0 ≤ x3 ∧ x3 ≤ 255) (e4 : Is ρ (.v 4) x4) (r4 : 0 ≤ x4 ∧ x4 ≤ 255) (e5 : Is ρ (.v 5) x5) (r5 : 0 ≤ x5 ∧ x5 ≤ 255) (e6 : Is ρ (.v 6) x6) (r6 : 0 ≤ x6 ∧ x6 ≤ 65535)  : zgTree.goal ρ := by
  have h0 : Is ρ zg0 (x1) := Zconv e1 (by omega)
  refine ⟨fun g0 => ?_, fun g0 => ?_⟩
  · have k0 : ((0 : Int) ≤ x1) := Zleqt (Zc 0) h0 g0
    clear g0
    clear k0
    refine ⟨fun g1 => ?_, fun g1 => ?_⟩
    · have k1 : ((x1 : Int) ≤ 100000) := Zleqt h0 (Zc 100000) g1
      clear g1
      clear k1
      have h1 : Is ρ zg1 (x0) := Zconv e0 (by omega)
      refine ⟨fun g2 => ?_, fun g2 => ?_⟩
      · have k2 : (((-100000) : Int) ≤ x0) := Zleqt (Zc (-100000)) h1 g2
        clear g2
        clear k2
        refine ⟨fun g3 => ?_, fun g3 => ?_⟩
        · have k3 : ((x0 : Int) ≤ 100000) := Zleqt h1 (Zc 100000) g3
          clear g3
          clear k3
          have h2 : Is ρ zg2 (x6) := Zconv e6 (by omega)
          have h3 : Is ρ zg3 (x6 + 40000) := Zadd (Zc 40000) h2 (by omega) (by omega)
          refine ⟨fun g4 => ?_, fun g4 => ?_⟩
          · have k4 : ((x6 + 40000 : Int) ≤ 10000000) := Zleqt h3 (Zc 10000000) g4
            clear g4
            clear k4
            refine ⟨fun g5 => ?_, fun g5 => ?_⟩
            · have k5 : ((10000000 : Int) = x6 + 40000) := Zeqlt (Zc 10000000) h3 g5
              clear g5
              omega
            · have k5 : ¬ (((10000000 : Int) = x6 + 40000)) := Zeqlf (Zc 10000000) h3 g5
              clear g5
              refine ⟨fun g6 => ?_, fun g6 => ?_⟩
              · have k6 : ((1 : Int) ≤ x6 + 40000) := Zleqt (Zc 1) h3 g6
                clear g6
                clear k6
                have h4 : Is ρ zg4 (x2) := Zconv e2 (by omega)
                obtain ⟨q1, q1e⟩ : ∃ q : Int, Hd ((x2) / 50 = q) := ⟨_, ⟨rfl⟩⟩
                obtain ⟨r2, r2e⟩ : ∃ q : Int, Hd ((x2) % 50 = q) := ⟨_, ⟨rfl⟩⟩
                have q11 : x2 = 50 * q1 + r2 := by have i1 := q1e.out; have i2 := r2e.out; omega
                have q12 : 0 ≤ r2 ∧ r2 ≤ 49 ∧ 0 ≤ q1 ∧ q1 ≤ 5 := by have i1 := q1e.out; have i2 := r2e.out; omega
                have h5 : Is ρ zg5 (r2) := Zremp h4 (Zc 50) (by omega) r2e.out
                refine ⟨fun g7 => ?_, fun g7 => ?_⟩
                · have k7 : ((0 : Int) ≤ r2) := Zleqt (Zc 0) h5 g7
                  clear g7
                  clear k7
                  have h6 : Is ρ zg6 (x3) := Zconv e3 (by omega)
                  obtain ⟨q3, q3e⟩ : ∃ q : Int, Hd ((x3) / 50 = q) := ⟨_, ⟨rfl⟩⟩
                  obtain ⟨r4, r4e⟩ : ∃ q : Int, Hd ((x3) % 50 = q) := ⟨_, ⟨rfl⟩⟩
                  have q31 : x3 = 50 * q3 + r4 := by have i1 := q3e.out; have i2 := r4e.out; omega
                  have q32 : 0 ≤ r4 ∧ r4 ≤ 49 ∧ 0 ≤ q3 ∧ q3 ≤ 5 := by have i1 := q3e.out; have i2 := r4e.out; omega
                  have h7 : Is ρ zg7 (r4) := Zremp h6 (Zc 50) (by omega) r4e.out
                  have h8 : Is ρ zg8 (r2 + r4) := Zadd h5 h7 (by omega) (by omega)
                  refine ⟨fun g8 => ?_, fun g8 => ?_⟩
                  · have k8 : ((r2 : Int) ≤ r2 + r4) := Zleqt h5 h8 g8
                    clear g8
                    clear k8
                    refine ⟨fun g9 => ?_, fun g9 => ?_⟩
                    · have k9 : ((r2 + r4 : Int) ≤ 10000) := Zleqt h8 (Zc 10000) g9
                      clear g9
                      clear k9
                      have h9 : Is ρ zg9 (x4) := Zconv e4 (by omega)
                      have h10 : Is ρ zg10 (100 * x4) := Zmul (Zc 100) h9 (by omega) (by omega)
                      refine ⟨fun g10 => ?_, fun g10 => ?_⟩
                      · have k10 : ((0 : Int) ≤ 100 * x4) := Zleqt (Zc 0) h10 g10
                        clear g10
                        clear k10
                        refine ⟨fun g11 => ?_, fun g11 => ?_⟩
                        · have k11 : ((100 * x4 : Int) ≤ 100000) := Zleqt h10 (Zc 100000) g11
                          clear g11
                          clear k11
                          have h11 : Is ρ zg11 (x5) := Zconv e5 (by omega)
                          refine ⟨fun g12 => ?_, fun g12 => ?_⟩
                          · have k12 : ((0 : Int) ≤ x5) := Zleqt (Zc 0) h11 g12
                            clear g12
                            clear k12
                            refine ⟨fun g13 => ?_, fun g13 => ?_⟩
                            · have k13 : ((x5 : Int) ≤ 100000) := Zleqt h11 (Zc 100000) g13
                              clear g13
                              clear k13
                              have h12 : Is ρ zg12 (x0 + x6 + 40000) := Zadd h3 h1 (by omega) (by omega)
                              refine ⟨fun g14 => ?_, fun g14 => ?_⟩
                              · have k14 : ((0 : Int) ≤ x0 + x6 + 40000) := Zleqt (Zc 0) h12 g14
                                clear g14
                                clear k14
                                refine ⟨fun g15 => ?_, fun g15 => ?_⟩
                                · have k15 : ((x0 + x6 + 40000 : Int) ≤ 10000000) := Zleqt h12 (Zc 10000000) g15
                                  clear g15
                                  clear k15
                                  obtain ⟨m5, m5e⟩ : ∃ m : Int, Hd (r2 * x4 = m) := ⟨_, ⟨rfl⟩⟩
                                  have m51 : 0 ≤ m5 := m5e.out ▸ Int.mul_nonneg (by omega) (by omega)
                                  have m52 : m5 ≤ 12495 := m5e.out ▸ (Int.mul_le_mul (by omega : r2 ≤ 49) (by omega : x4 ≤ 255) (by omega) (by omega) : r2 * x4 ≤ 49 * 255)
                                  have h13 : Is ρ zg13 (100 * m5) := Zmul h5 h10 (by omega) ((by simp only [Int.add_mul, Int.mul_add, Int.mul_assoc, Int.mul_comm, Int.mul_left_comm] <;> omega : (r2) * (100 * x4) = 100 * (r2 * x4)).trans (by (try simp only [m5e.out]) <;> omega))
                                  have h14 : Is ρ zg14 ((-100) * m5) := Zsub (Zc 0) h13 (by omega) (by omega)
                                  obtain ⟨q6, q6e⟩ : ∃ q : Int, Hd ((100 * m5) / 1000 = q) := ⟨_, ⟨rfl⟩⟩
                                  obtain ⟨r7, r7e⟩ : ∃ q : Int, Hd ((100 * m5) % 1000 = q) := ⟨_, ⟨rfl⟩⟩
                                  have q61 : 100 * m5 = 1000 * q6 + r7 := by have i1 := q6e.out; have i2 := r7e.out; omega
                                  have q62 : 0 ≤ r7 ∧ r7 ≤ 999 ∧ 0 ≤ q6 ∧ q6 ≤ 1249 := by have i1 := q6e.out; have i2 := r7e.out; omega
                                  have h15 : Is ρ zg15 ((-1) * r7) := Zremn h14 (Zc 1000) (by omega) (by have i1 := q6e.out; have i2 := r7e.out; omega)
                                  refine ⟨fun g16 => ?_, fun g16 => ?_⟩
                                  · have k16 : (((-1) * r7 : Int) ≤ 0) := Zleqt h15 (Zc 0) g16
                                    clear g16
                                    clear k16
                                    obtain ⟨m8, m8e⟩ : ∃ m : Int, Hd (r4 * x4 = m) := ⟨_, ⟨rfl⟩⟩
                                    have m81 : 0 ≤ m8 := m8e.out ▸ Int.mul_nonneg (by omega) (by omega)
                                    have m82 : m8 ≤ 12495 := m8e.out ▸ (Int.mul_le_mul (by omega : r4 ≤ 49) (by omega : x4 ≤ 255) (by omega) (by omega) : r4 * x4 ≤ 49 * 255)
                                    have h16 : Is ρ zg16 (100 * m5 + 100 * m8) := Zmul h8 h10 (by omega) ((by simp only [Int.add_mul, Int.mul_add, Int.mul_assoc, Int.mul_comm, Int.mul_left_comm] <;> omega : (r2 + r4) * (100 * x4) = 100 * (r2 * x4) + 100 * (r4 * x4)).trans (by (try simp only [m5e.out, m8e.out]) <;> omega))
                                    obtain ⟨q9, q9e⟩ : ∃ q : Int, Hd ((100 * m5 + 100 * m8) / 1000 = q) := ⟨_, ⟨rfl⟩⟩
                                    obtain ⟨r10, r10e⟩ : ∃ q : Int, Hd ((100 * m5 + 100 * m8) % 1000 = q) := ⟨_, ⟨rfl⟩⟩
                                    have q91 : 100 * m5 + 100 * m8 = 1000 * q9 + r10 := by have i1 := q9e.out; have i2 := r10e.out; omega
                                    have q92 : 0 ≤ r10 ∧ r10 ≤ 999 ∧ 0 ≤ q9 ∧ q9 ≤ 2499 := by have i1 := q9e.out; have i2 := r10e.out; omega
                                    have h17 : Is ρ zg17 (r10) := Zremp h16 (Zc 1000) (by omega) r10e.out
                                    refine ⟨fun g17 => ?_, fun g17 => ?_⟩
                                    · have k17 : ((r10 : Int) ≤ 0) := Zleqt h17 (Zc 0) g17
                                      clear g17
                                      have h18 : Is ρ zg18 (q9) := Zquop h16 (Zc 1000) (by omega) (by omega) q9e.out
                                      have h19 : Is ρ zg19 (q9 + x0 + x6 + 40000) := Zadd h12 h18 (by omega) (by omega)
                                      refine ⟨fun g18 => ?_, fun g18 => ?_⟩
                                      · have k18 : ((0 : Int) ≤ q9 + x0 + x6 + 40000) := Zleqt (Zc 0) h19 g18
                                        clear g18
                                        clear k18
                                        have h20 : Is ρ zg20 (q9 + x0 + x5 + x6 + 40000) := Zadd h19 h11 (by omega) (by omega)
                                        refine ⟨fun g19 => ?_, fun g19 => ?_⟩
                                        · have k19 : ((q9 + x0 + x6 + 40000 : Int) ≤ q9 + x0 + x5 + x6 + 40000) := Zleqt h19 h20 g19
                                          clear g19
                                          clear k19
                                          refine ⟨fun g20 => ?_, fun g20 => ?_⟩
                                          · have k20 : ((q9 + x0 + x5 + x6 + 40000 : Int) ≤ 10000000) := Zleqt h20 (Zc 10000000) g20
                                            clear g20
                                            clear k20
                                            refine ⟨fun g21 => ?_, fun g21 => ?_⟩
                                            · have k21 : ((1 : Int) ≤ x0 + x6 + 40000) := Zleqt (Zc 1) h12 g21
                                              clear g21
                                              clear k21
                                              have h21 : Is ρ zg21 (q9 + x0 + x5 + x6 + 40000) := Zmx h19 h20 (by omega)
                                              have h22 : Is ρ zg22 (q9 + x0 + x6 + 40000) := Zmn h19 h20 (by omega)
                                              have h23 : Is ρ zg23 (x5) := Zsub h21 h22 (by omega) (by omega)
                                              have h24 : Is ρ zg24 (x5 + 1) := Zadd h23 (Zc 1) (by omega) (by omega)
                                              refine ⟨fun g22 => ?_, fun g22 => ?_⟩
                                              · have k22 : ((x5 + 1 : Int) = 0) := Zeqlt h24 (Zc 0) g22
                                                clear g22
                                                omega
                                              · have k22 : ¬ (((x5 + 1 : Int) = 0)) := Zeqlf h24 (Zc 0) g22
                                                clear g22
                                                have h25 : Is ρ zg25 (100 * x4 + 1) := Zadd h10 (Zc 1) (by omega) (by omega)
                                                refine ⟨fun g23 => ?_, fun g23 => ?_⟩
                                                · have k23 : ((100 * x4 + 1 : Int) = 0) := Zeqlt h25 (Zc 0) g23
                                                  clear g23
                                                  omega
                                                · have k23 : ¬ (((100 * x4 + 1 : Int) = 0)) := Zeqlf h25 (Zc 0) g23
                                                  clear g23
                                                  obtain ⟨r11, r11e⟩ : ∃ q : Int, Hd ((x6) % (100 * x4 + 1) = q) := ⟨_, ⟨rfl⟩⟩
                                                  have r111 : 0 ≤ r11 ∧ r11 ≤ 65535 ∧ r11 ≤ 100 * x4 + 1 - 1 := r11e.out ▸ rem_bd (by omega) (by omega) (by omega)
                                                  have h26 : Is ρ zg26 (r11) := Zremp h2 h25 (by omega) r11e.out
                                                  refine ⟨fun g24 => ?_, fun g24 => ?_⟩
                                                  · have k24 : ((r11 : Int) ≤ 0) := Zleqt h26 (Zc 0) g24
                                                    clear g24
                                                    obtain ⟨r12, r12e⟩ : ∃ q : Int, Hd ((x6) % (x5 + 1) = q) := ⟨_, ⟨rfl⟩⟩
                                                    have r121 : 0 ≤ r12 ∧ r12 ≤ 65535 ∧ r12 ≤ x5 + 1 - 1 := r12e.out ▸ rem_bd (by omega) (by omega) (by omega)
                                                    have h27 : Is ρ zg27 (r12) := Zremp h2 h24 (by omega) r12e.out
                                                    have h28 : Is ρ zg28 (q9 + r12 + x0 + x6 + 40000) := Zadd h22 h27 (by omega) (by omega)
                                                    refine ⟨fun g25 => ?_, fun g25 => ?_⟩
                                                    · have k25 : ((0 : Int) ≤ q9 + r12 + x0 + x6 + 40000) := Zleqt (Zc 0) h28 g25
                                                      clear g25
                                                      clear k25
                                                      refine ⟨fun g26 => ?_, fun g26 => ?_⟩
                                                      · have k26 : ((q9 + r12 + x0 + x6 + 40000 : Int) ≤ 10000000) := Zleqt h28 (Zc 10000000) g26
                                                        clear g26
                                                        clear k26
                                                        have h29 : Is ρ zg29 (q9 + r12 + x0 + x6 + 40000) := Zmn h28 h28 (by omega)
                                                        have h30 : Is ρ zg30 (q9 + r12 + x0 + x6 + 40000) := Zmx h28 h28 (by omega)
                                                        refine ⟨fun g27 => ?_, fun g27 => ?_⟩
                                                        · have k27 : ((q9 + r12 + x0 + x6 + 40000 : Int) ≤ q9 + r12 + x0 + x6 + 40000) := Zleqt h29 h30 g27
                                                          clear g27
                                                          clear k27
                                                          have h31 : Is ρ zg31 (q9 + r12) := Zsub h29 h12 (by omega) (by omega)
                                                          refine ⟨fun g28 => ?_, fun g28 => ?_⟩
                                                          · have k28 : ((0 : Int) ≤ q9 + r12) := Zleqt (Zc 0) h31 g28
                                                            clear g28
                                                            clear k28
                                                            refine ⟨fun g29 => ?_, fun g29 => ?_⟩
                                                            · have k29 : ((r2 + r4 : Int) = 0) := Zeqlt h8 (Zc 0) g29
                                                              clear g29
                                                              have m5z : m5 = 0 := (by have i1 : r2 = 0 := (by omega); rw [← m5e.out, i1]; simp)
                                                              have m8z : m8 = 0 := (by have i1 : r4 = 0 := (by omega); rw [← m8e.out, i1]; simp)
                                                              have h32 : Is ρ zg32 (q9 + r12 + x0 + x6 + 40000) := Zmn h29 h30 (by omega)
                                                              refine ⟨fun g30 => ?_, fun g30 => ?_⟩
                                                              · have k30 : ((x0 + x6 + 40000 : Int) ≤ q9 + r12 + x0 + x6 + 40000) := Zleqt h12 h32 g30
                                                                clear g30
                                                                clear k30
                                                                have h33 : Is ρ zg33 (q9 + r12 + x0 + x6 + 40000) := Zmx h29 h30 (by omega)
                                                                refine ⟨fun g31 => ?_, fun g31 => ?_⟩
                                                                · have k31 : ((q9 + r12 + x0 + x6 + 40000 : Int) ≤ q9 + x0 + x5 + x6 + 40000) := Zleqt h33 h21 g31
                                                                  clear g31
                                                                  have h34 : Is ρ zg34 (100 * m5 + 100 * m8 + 999) := Zadd h16 (Zc 999) (by omega) (by omega)
                                                                  obtain ⟨q13, q13e⟩ : ∃ q : Int, Hd ((100 * m5 + 100 * m8 + 999) / 1000 = q) := ⟨_, ⟨rfl⟩⟩
                                                                  obtain ⟨r14, r14e⟩ : ∃ q : Int, Hd ((100 * m5 + 100 * m8 + 999) % 1000 = q) := ⟨_, ⟨rfl⟩⟩
                                                                  have q131 : 100 * m5 + 100 * m8 + 999 = 1000 * q13 + r14 := by have i1 := q13e.out; have i2 := r14e.out; omega
                                                                  have q132 : 0 ≤ r14 ∧ r14 ≤ 999 ∧ 0 ≤ q13 ∧ q13 ≤ 2499 := by have i1 := q13e.out; have i2 := r14e.out; omega
                                                                  have h35 : Is ρ zg35 (q13) := Zquop h34 (Zc 1000) (by omega) (by omega) q13e.out
                                                                  have h36 : Is ρ zg36 (q13 + x0 + x6 + 40000) := Zadd h12 h35 (by omega) (by omega)
                                                                  have h37 : Is ρ zg37 (q13 + x0 + x5 + x6 + 40000) := Zadd h36 h11 (by omega) (by omega)
                                                                  refine ⟨fun g32 => ?_, fun g32 => ?_⟩
                                                                  · have k32 : ((q9 + x0 + x5 + x6 + 40000 : Int) = q13 + x0 + x5 + x6 + 40000) := Zeqlt h21 h37 g32
                                                                    clear g32
                                                                    exact rfl
                                                                  · have k32 : ¬ (((q9 + x0 + x5 + x6 + 40000 : Int) = q13 + x0 + x5 + x6 + 40000)) := Zeqlf h21 h37 g32
                                                                    clear g32
                                                                    omega
                                                                · have k31 : ¬ (((q9 + r12 + x0 + x6 + 40000 : Int) ≤ q9 + x0 + x5 + x6 + 40000)) := Zleqf h33 h21 g31
                                                                  clear g31
                                                                  omega
                                                              · have k30 : ¬ (((x0 + x6 + 40000 : Int) ≤ q9 + r12 + x0 + x6 + 40000)) := Zleqf h12 h32 g30
                                                                clear g30
                                                                omega
                                                            · have k29 : ¬ (((r2 + r4 : Int) = 0)) := Zeqlf h8 (Zc 0) g29
                                                              clear g29
                                                              have h38 : Is ρ zg38 (1000 * q9 + 1000 * r12) := Zmul (Zc 1000) h31 (by omega) (by omega)
                                                              have h39 : Is ρ zg39 ((-1000) * q9 + (-1000) * r12) := Zsub (Zc 0) h38 (by omega) (by omega)
                                                              obtain ⟨r15, r15e⟩ : ∃ q : Int, Hd ((1000 * q9 + 1000 * r12) % (r2 + r4) = q) := ⟨_, ⟨rfl⟩⟩
                                                              have r151 : 0 ≤ r15 ∧ r15 ≤ 68034000 ∧ r15 ≤ r2 + r4 - 1 := r15e.out ▸ rem_bd (by omega) (by omega) (by omega)
                                                              have h40 : Is ρ zg40 ((-1) * r15) := Zremn h39 h8 (by omega) (by rw [show -((-1000) * q9 + (-1000) * r12) = 1000 * q9 + 1000 * r12 by omega, r15e.out]; omega)
                                                              refine ⟨fun g30 => ?_, fun g30 => ?_⟩
                                                              · have k30 : (((-1) * r15 : Int) ≤ 0) := Zleqt h40 (Zc 0) g30
                                                                clear g30
                                                                clear k30
                                                                obtain ⟨q16, q16e⟩ : ∃ q : Int, Hd ((1000 * q9 + 1000 * r12) / (r2 + r4) = q) := ⟨_, ⟨rfl⟩⟩
                                                                have q161 : 0 ≤ q16 ∧ q16 ≤ 68034000 := q16e.out ▸ quo_bd (by omega) (by omega) (by omega)
                                                                have h41 : Is ρ zg41 ((-1) * q16) := Zquon h39 h8 (by omega) (by omega) (by rw [show -((-1000) * q9 + (-1000) * r12) = 1000 * q9 + 1000 * r12 by omega, q16e.out]; omega)
                                                                have h42 : Is ρ zg42 (q16) := Zsub (Zc 0) h41 (by omega) (by omega)
                                                                obtain ⟨u17, u17e⟩ : ∃ m : Int, min (q16) (100000) = m := ⟨_, rfl⟩
                                                                have h43 : Is ρ zg43 (u17) := Zmn h42 (Zc 100000) (by omega)
                                                                refine ⟨fun g31 => ?_, fun g31 => ?_⟩
                                                                · have k31 : ((0 : Int) ≤ u17) := Zleqt (Zc 0) h43 g31
                                                                  clear g31
                                                                  clear k31
                                                                  have h32 : Is ρ zg32 (q9 + r12 + x0 + x6 + 40000) := Zmn h29 h30 (by omega)
                                                                  refine ⟨fun g32 => ?_, fun g32 => ?_⟩
                                                                  · have k32 : ((x0 + x6 + 40000 : Int) ≤ q9 + r12 + x0 + x6 + 40000) := Zleqt h12 h32 g32
                                                                    clear g32
                                                                    clear k32
                                                                    have h33 : Is ρ zg33 (q9 + r12 + x0 + x6 + 40000) := Zmx h29 h30 (by omega)
                                                                    refine ⟨fun g33 => ?_, fun g33 => ?_⟩
                                                                    · have k33 : ((q9 + r12 + x0 + x6 + 40000 : Int) ≤ q9 + x0 + x5 + x6 + 40000) := Zleqt h33 h21 g33
                                                                      clear g33
                                                                      have h34 : Is ρ zg34 (100 * m5 + 100 * m8 + 999) := Zadd h16 (Zc 999) (by omega) (by omega)
                                                                      obtain ⟨q18, q18e⟩ : ∃ q : Int, Hd ((100 * m5 + 100 * m8 + 999) / 1000 = q) := ⟨_, ⟨rfl⟩⟩
                                                                      obtain ⟨r19, r19e⟩ : ∃ q : Int, Hd ((100 * m5 + 100 * m8 + 999) % 1000 = q) := ⟨_, ⟨rfl⟩⟩
                                                                      have q181 : 100 * m5 + 100 * m8 + 999 = 1000 * q18 + r19 := by have i1 := q18e.out; have i2 := r19e.out; omega
                                                                      have q182 : 0 ≤ r19 ∧ r19 ≤ 999 ∧ 0 ≤ q18 ∧ q18 ≤ 2499 := by have i1 := q18e.out; have i2 := r19e.out; omega
                                                                      have h35 : Is ρ zg35 (q18) := Zquop h34 (Zc 1000) (by omega) (by omega) q18e.out
                                                                      have h36 : Is ρ zg36 (q18 + x0 + x6 + 40000) := Zadd h12 h35 (by omega) (by omega)
                                                                      have h37 : Is ρ zg37 (q18 + x0 + x5 + x6 + 40000) := Zadd h36 h11 (by omega) (by omega)
                                                                      refine ⟨fun g34 => ?_, fun g34 => ?_⟩
                                                                      · have k34 : ((q9 + x0 + x5 + x6 + 40000 : Int) = q18 + x0 + x5 + x6 + 40000) := Zeqlt h21 h37 g34
                                                                        clear g34
                                                                        exact rfl
                                                                      · have k34 : ¬ (((q9 + x0 + x5 + x6 + 40000 : Int) = q18 + x0 + x5 + x6 + 40000)) := Zeqlf h21 h37 g34
                                                                        clear g34
                                                                        omega
                                                                    · have k33 : ¬ (((q9 + r12 + x0 + x6 + 40000 : Int) ≤ q9 + x0 + x5 + x6 + 40000)) := Zleqf h33 h21 g33
                                                                      clear g33
                                                                      omega
                                                                  · have k32 : ¬ (((x0 + x6 + 40000 : Int) ≤ q9 + r12 + x0 + x6 + 40000)) := Zleqf h12 h32 g32
                                                                    clear g32
                                                                    omega
                                                                · have k31 : ¬ (((0 : Int) ≤ u17)) := Zleqf (Zc 0) h43 g31
                                                                  clear g31
                                                                  omega
                                                              · have k30 : ¬ ((((-1) * r15 : Int) ≤ 0)) := Zleqf h40 (Zc 0) g30
                                                                clear g30
                                                                omega
                                                          · have k28 : ¬ (((0 : Int) ≤ q9 + r12)) := Zleqf (Zc 0) h31 g28
                                                            clear g28
                                                            omega
                                                        · have k27 : ¬ (((q9 + r12 + x0 + x6 + 40000 : Int) ≤ q9 + r12 + x0 + x6 + 40000)) := Zleqf h29 h30 g27
                                                          clear g27
                                                          omega
                                                      · have k26 : ¬ (((q9 + r12 + x0 + x6 + 40000 : Int) ≤ 10000000)) := Zleqf h28 (Zc 10000000) g26
                                                        clear g26
                                                        omega
                                                    · have k25 : ¬ (((0 : Int) ≤ q9 + r12 + x0 + x6 + 40000)) := Zleqf (Zc 0) h28 g25
                                                      clear g25
                                                      omega
                                                  · have k24 : ¬ (((r11 : Int) ≤ 0)) := Zleqf h26 (Zc 0) g24
                                                    clear g24
                                                    obtain ⟨r20, r20e⟩ : ∃ q : Int, Hd ((x6) % (x5 + 1) = q) := ⟨_, ⟨rfl⟩⟩
                                                    have r201 : 0 ≤ r20 ∧ r20 ≤ 65535 ∧ r20 ≤ x5 + 1 - 1 := r20e.out ▸ rem_bd (by omega) (by omega) (by omega)
                                                    have h27 : Is ρ zg27 (r20) := Zremp h2 h24 (by omega) r20e.out
                                                    have h28 : Is ρ zg28 (q9 + r20 + x0 + x6 + 40000) := Zadd h22 h27 (by omega) (by omega)
                                                    refine ⟨fun g25 => ?_, fun g25 => ?_⟩
                                                    · have k25 : ((0 : Int) ≤ q9 + r20 + x0 + x6 + 40000) := Zleqt (Zc 0) h28 g25
                                                      clear g25
                                                      clear k25
                                                      refine ⟨fun g26 => ?_, fun g26 => ?_⟩
                                                      · have k26 : ((q9 + r20 + x0 + x6 + 40000 : Int) ≤ 10000000) := Zleqt h28 (Zc 10000000) g26
                                                        clear g26
                                                        clear k26
                                                        refine ⟨fun g27 => ?_, fun g27 => ?_⟩
                                                        · have k27 : ((1 : Int) ≤ r11) := Zleqt (Zc 1) h26 g27
                                                          clear g27
                                                          refine ⟨fun g28 => ?_, fun g28 => ?_⟩
                                                          · have k28 : ((r11 : Int) ≤ 100000) := Zleqt h26 (Zc 100000) g28
                                                            clear g28
                                                            clear k28
                                                            obtain ⟨m21, m21e⟩ : ∃ m : Int, Hd (r11 * r2 = m) := ⟨_, ⟨rfl⟩⟩
                                                            have m211 : 0 ≤ m21 := m21e.out ▸ Int.mul_nonneg (by omega) (by omega)
                                                            have m212 : m21 ≤ 3211215 := m21e.out ▸ (Int.mul_le_mul (by omega : r11 ≤ 65535) (by omega : r2 ≤ 49) (by omega) (by omega) : r11 * r2 ≤ 65535 * 49)
                                                            have m213 : m21 ≤ 100 * m5 := by have i1 : r11 * r2 ≤ (100 * x4) * r2 := Int.mul_le_mul_of_nonneg_right (by omega) (by omega); rw [(by simp only [Int.add_mul, Int.mul_add, Int.mul_assoc, Int.mul_comm, Int.mul_left_comm] <;> omega : (100 * x4) * r2 = 100 * (r2 * x4)), m21e.out] at i1; simp only [m5e.out] at i1; omega
                                                            have h44 : Is ρ zg44 (m21) := Zmul h5 h26 (by omega) ((by simp only [Int.add_mul, Int.mul_add, Int.mul_assoc, Int.mul_comm, Int.mul_left_comm] <;> omega : (r2) * (r11) = r11 * r2).trans (by (try simp only [m21e.out]) <;> omega))
                                                            have h45 : Is ρ zg45 ((-1) * m21) := Zsub (Zc 0) h44 (by omega) (by omega)
                                                            obtain ⟨q22, q22e⟩ : ∃ q : Int, Hd ((m21) / 1000 = q) := ⟨_, ⟨rfl⟩⟩
                                                            obtain ⟨r23, r23e⟩ : ∃ q : Int, Hd ((m21) % 1000 = q) := ⟨_, ⟨rfl⟩⟩
                                                            have q221 : m21 = 1000 * q22 + r23 := by have i1 := q22e.out; have i2 := r23e.out; omega
                                                            have q222 : 0 ≤ r23 ∧ r23 ≤ 999 ∧ 0 ≤ q22 ∧ q22 ≤ 3211 := by have i1 := q22e.out; have i2 := r23e.out; omega
                                                            have h46 : Is ρ zg46 ((-1) * r23) := Zremn h45 (Zc 1000) (by omega) (by have i1 := q22e.out; have i2 := r23e.out; omega)
                                                            refine ⟨fun g29 => ?_, fun g29 => ?_⟩
                                                            · have k29 : (((-1) * r23 : Int) ≤ 0) := Zleqt h46 (Zc 0) g29
                                                              clear g29
                                                              clear k29
                                                              obtain ⟨m24, m24e⟩ : ∃ m : Int, Hd (r11 * r4 = m) := ⟨_, ⟨rfl⟩⟩
                                                              have m241 : 0 ≤ m24 := m24e.out ▸ Int.mul_nonneg (by omega) (by omega)
                                                              have m242 : m24 ≤ 3211215 := m24e.out ▸ (Int.mul_le_mul (by omega : r11 ≤ 65535) (by omega : r4 ≤ 49) (by omega) (by omega) : r11 * r4 ≤ 65535 * 49)
                                                              have m243 : m24 ≤ 100 * m8 := by have i1 : r11 * r4 ≤ (100 * x4) * r4 := Int.mul_le_mul_of_nonneg_right (by omega) (by omega); rw [(by simp only [Int.add_mul, Int.mul_add, Int.mul_assoc, Int.mul_comm, Int.mul_left_comm] <;> omega : (100 * x4) * r4 = 100 * (r4 * x4)), m24e.out] at i1; simp only [m8e.out] at i1; omega
                                                              have h47 : Is ρ zg47 (m21 + m24) := Zmul h8 h26 (by omega) ((by simp only [Int.add_mul, Int.mul_add, Int.mul_assoc, Int.mul_comm, Int.mul_left_comm] <;> omega : (r2 + r4) * (r11) = r11 * r2 + r11 * r4).trans (by (try simp only [m21e.out, m24e.out]) <;> omega))
                                                              obtain ⟨q25, q25e⟩ : ∃ q : Int, Hd ((m21 + m24) / 1000 = q) := ⟨_, ⟨rfl⟩⟩
                                                              obtain ⟨r26, r26e⟩ : ∃ q : Int, Hd ((m21 + m24) % 1000 = q) := ⟨_, ⟨rfl⟩⟩
                                                              have q251 : m21 + m24 = 1000 * q25 + r26 := by have i1 := q25e.out; have i2 := r26e.out; omega
                                                              have q252 : 0 ≤ r26 ∧ r26 ≤ 999 ∧ 0 ≤ q25 ∧ q25 ≤ 6422 := by have i1 := q25e.out; have i2 := r26e.out; omega
                                                              have h48 : Is ρ zg48 (r26) := Zremp h47 (Zc 1000) (by omega) r26e.out
                                                              refine ⟨fun g30 => ?_, fun g30 => ?_⟩
                                                              · have k30 : ((r26 : Int) ≤ 0) := Zleqt h48 (Zc 0) g30
                                                                clear g30
                                                                have h30 : Is ρ zg30 (q9 + r20 + x0 + x6 + 40000) := Zmx h28 h28 (by omega)
                                                                have h49 : Is ρ zg49 ((-1) * q22) := Zquon h45 (Zc 1000) (by omega) (by omega) (by have i1 := q22e.out; have i2 := r23e.out; omega)
                                                                have h50 : Is ρ zg50 (q22) := Zsub (Zc 0) h49 (by omega) (by omega)
                                                                have h51 : Is ρ zg51 ((-1) * q22 + q9 + r20 + x0 + x6 + 40000) := Zsub h30 h50 (by omega) (by omega)
                                                                have h52 : Is ρ zg52 ((-1) * q22 + q9 + r20 + x0 + x6 + 40000) := Zmn h51 h51 (by omega)
                                                                refine ⟨fun g31 => ?_, fun g31 => ?_⟩
                                                                · have k31 : (((-1) * q22 + q9 + r20 + x0 + x6 + 40000 : Int) ≤ (-1) * q22 + q9 + r20 + x0 + x6 + 40000) := Zleqt h51 h52 g31
                                                                  clear g31
                                                                  clear k31
                                                                  have h29 : Is ρ zg29 (q9 + r20 + x0 + x6 + 40000) := Zmn h28 h28 (by omega)
                                                                  have h53 : Is ρ zg53 (q25) := Zquop h47 (Zc 1000) (by omega) (by omega) q25e.out
                                                                  have h54 : Is ρ zg54 ((-1) * q25 + q9 + r20 + x0 + x6 + 40000) := Zsub h29 h53 (by omega) (by omega)
                                                                  have h55 : Is ρ zg55 (q22 + (-1) * q25 + q9 + r20 + x0 + x6 + 40000) := Zadd h54 h50 (by omega) (by omega)
                                                                  obtain ⟨u27, u27e⟩ : ∃ m : Int, max (q9 + r20 + x0 + x6 + 40000) (q22 + (-1) * q25 + q9 + r20 + x0 + x6 + 40000) = m := ⟨_, rfl⟩
                                                                  have h56 : Is ρ zg56 (u27) := Zmx h29 h55 (by omega)
                                                                  refine ⟨fun g32 => ?_, fun g32 => ?_⟩
                                                                  · have k32 : ((u27 : Int) ≤ q9 + r20 + x0 + x6 + 40000) := Zleqt h56 h29 g32
                                                                    clear g32
                                                                    have h57 : Is ρ zg57 ((-1) * q25) := Zsub (Zc 0) h53 (by omega) (by omega)
                                                                    have h58 : Is ρ zg58 ((-1) * q22 + q25 + q9 + r20 + x0 + x6 + 40000) := Zsub h52 h57 (by omega) (by omega)
                                                                    obtain ⟨u28, u28e⟩ : ∃ m : Int, min (q9 + r20 + x0 + x6 + 40000) ((-1) * q22 + q25 + q9 + r20 + x0 + x6 + 40000) = m := ⟨_, rfl⟩
                                                                    have h59 : Is ρ zg59 (u28) := Zmn h30 h58 (by omega)
                                                                    refine ⟨fun g33 => ?_, fun g33 => ?_⟩
                                                                    · have k33 : ((q9 + r20 + x0 + x6 + 40000 : Int) ≤ u28) := Zleqt h30 h59 g33
                                                                      clear g33
                                                                      have h60 : Is ρ zg60 ((-1) * q25 + u27) := Zadd h56 h57 (by omega) (by omega)
                                                                      obtain ⟨u29, u29e⟩ : ∃ m : Int, max ((-1) * q25 + q9 + r20 + x0 + x6 + 40000) ((-1) * q25 + u27) = m := ⟨_, rfl⟩
                                                                      have h61 : Is ρ zg61 (u29) := Zmx h54 h60 (by omega)
                                                                      refine ⟨fun g34 => ?_, fun g34 => ?_⟩
                                                                      · have k34 : ((u29 : Int) ≤ (-1) * q25 + q9 + r20 + x0 + x6 + 40000) := Zleqt h61 h54 g34
                                                                        clear g34
                                                                        refine ⟨fun g35 => ?_, fun g35 => ?_⟩
                                                                        · have k35 : ((u27 : Int) ≤ u28) := Zleqt h56 h59 g35
                                                                          clear g35
                                                                          refine ⟨fun g36 => ?_, fun g36 => ?_⟩
                                                                          · have k36 : ((u29 : Int) ≤ (-1) * q22 + q9 + r20 + x0 + x6 + 40000) := Zleqt h61 h52 g36
                                                                            clear g36
                                                                            have h62 : Is ρ zg62 (u29 + (-1) * x0 + (-1) * x6 + (-40000)) := Zsub h61 h12 (by omega) (by omega)
                                                                            refine ⟨fun g37 => ?_, fun g37 => ?_⟩
                                                                            · have k37 : ((0 : Int) ≤ u29 + (-1) * x0 + (-1) * x6 + (-40000)) := Zleqt (Zc 0) h62 g37
                                                                              clear g37
                                                                              refine ⟨fun g38 => ?_, fun g38 => ?_⟩
                                                                              · have k38 : ((r2 + r4 : Int) = 0) := Zeqlt h8 (Zc 0) g38
                                                                                clear g38
                                                                                have m5z : m5 = 0 := (by have i1 : r2 = 0 := (by omega); rw [← m5e.out, i1]; simp)
                                                                                have m8z : m8 = 0 := (by have i1 : r4 = 0 := (by omega); rw [← m8e.out, i1]; simp)
                                                                                have m21z : m21 = 0 := (by have i1 : r2 = 0 := (by omega); rw [← m21e.out, i1]; simp)
                                                                                have m24z : m24 = 0 := (by have i1 : r4 = 0 := (by omega); rw [← m24e.out, i1]; simp)
                                                                                obtain ⟨u30, u30e⟩ : ∃ m : Int, min (u29) ((-1) * q22 + q9 + r20 + x0 + x6 + 40000) = m := ⟨_, rfl⟩
                                                                                have h63 : Is ρ zg63 (u30) := Zmn h61 h52 (by omega)
                                                                                refine ⟨fun g39 => ?_, fun g39 => ?_⟩
                                                                                · have k39 : ((x0 + x6 + 40000 : Int) ≤ u30) := Zleqt h12 h63 g39
                                                                                  clear g39
                                                                                  obtain ⟨u31, u31e⟩ : ∃ m : Int, max (u29) ((-1) * q22 + q9 + r20 + x0 + x6 + 40000) = m := ⟨_, rfl⟩
                                                                                  have h64 : Is ρ zg64 (u31) := Zmx h61 h52 (by omega)
                                                                                  refine ⟨fun g40 => ?_, fun g40 => ?_⟩
                                                                                  · have k40 : ((u31 : Int) ≤ q9 + x0 + x5 + x6 + 40000) := Zleqt h64 h21 g40
                                                                                    clear g40
                                                                                    have h34 : Is ρ zg34 (100 * m5 + 100 * m8 + 999) := Zadd h16 (Zc 999) (by omega) (by omega)
                                                                                    obtain ⟨q32, q32e⟩ : ∃ q : Int, Hd ((100 * m5 + 100 * m8 + 999) / 1000 = q) := ⟨_, ⟨rfl⟩⟩
                                                                                    obtain ⟨r33, r33e⟩ : ∃ q : Int, Hd ((100 * m5 + 100 * m8 + 999) % 1000 = q) := ⟨_, ⟨rfl⟩⟩
                                                                                    have q321 : 100 * m5 + 100 * m8 + 999 = 1000 * q32 + r33 := by have i1 := q32e.out; have i2 := r33e.out; omega
                                                                                    have q322 : 0 ≤ r33 ∧ r33 ≤ 999 ∧ 0 ≤ q32 ∧ q32 ≤ 2499 := by have i1 := q32e.out; have i2 := r33e.out; omega
                                                                                    have h35 : Is ρ zg35 (q32) := Zquop h34 (Zc 1000) (by omega) (by omega) q32e.out
                                                                                    have h36 : Is ρ zg36 (q32 + x0 + x6 + 40000) := Zadd h12 h35 (by omega) (by omega)
                                                                                    have h37 : Is ρ zg37 (q32 + x0 + x5 + x6 + 40000) := Zadd h36 h11 (by omega) (by omega)
                                                                                    refine ⟨fun g41 => ?_, fun g41 => ?_⟩
                                                                                    · have k41 : ((q9 + x0 + x5 + x6 + 40000 : Int) = q32 + x0 + x5 + x6 + 40000) := Zeqlt h21 h37 g41
                                                                                      clear g41
                                                                                      exact rfl
                                                                                    · have k41 : ¬ (((q9 + x0 + x5 + x6 + 40000 : Int) = q32 + x0 + x5 + x6 + 40000)) := Zeqlf h21 h37 g41
                                                                                      clear g41
                                                                                      omega
                                                                                  · have k40 : ¬ (((u31 : Int) ≤ q9 + x0 + x5 + x6 + 40000)) := Zleqf h64 h21 g40
                                                                                    clear g40
                                                                                    omega
                                                                                · have k39 : ¬ (((x0 + x6 + 40000 : Int) ≤ u30)) := Zleqf h12 h63 g39
                                                                                  clear g39
                                                                                  omega
                                                                              · have k38 : ¬ (((r2 + r4 : Int) = 0)) := Zeqlf h8 (Zc 0) g38
                                                                                clear g38
                                                                                have h65 : Is ρ zg65 (1000 * u29 + (-1000) * x0 + (-1000) * x6 + (-40000000)) := Zmul (Zc 1000) h62 (by omega) (by omega)
                                                                                have h66 : Is ρ zg66 ((-1000) * u29 + 1000 * x0 + 1000 * x6 + 40000000) := Zsub (Zc 0) h65 (by omega) (by omega)
                                                                                obtain ⟨r34, r34e⟩ : ∃ q : Int, Hd ((1000 * u29 + (-1000) * x0 + (-1000) * x6 + (-40000000)) % (r2 + r4) = q) := ⟨_, ⟨rfl⟩⟩
                                                                                have r341 : 0 ≤ r34 ∧ r34 ≤ 137035000 ∧ r34 ≤ r2 + r4 - 1 := r34e.out ▸ rem_bd (by omega) (by omega) (by omega)
                                                                                have h67 : Is ρ zg67 ((-1) * r34) := Zremn h66 h8 (by omega) (by rw [show -((-1000) * u29 + 1000 * x0 + 1000 * x6 + 40000000) = 1000 * u29 + (-1000) * x0 + (-1000) * x6 + (-40000000) by omega, r34e.out]; omega)
                                                                                refine ⟨fun g39 => ?_, fun g39 => ?_⟩
                                                                                · have k39 : (((-1) * r34 : Int) ≤ 0) := Zleqt h67 (Zc 0) g39
                                                                                  clear g39
                                                                                  clear k39
                                                                                  obtain ⟨q35, q35e⟩ : ∃ q : Int, Hd ((1000 * u29 + (-1000) * x0 + (-1000) * x6 + (-40000000)) / (r2 + r4) = q) := ⟨_, ⟨rfl⟩⟩
                                                                                  have q351 : 0 ≤ q35 ∧ q35 ≤ 137035000 := q35e.out ▸ quo_bd (by omega) (by omega) (by omega)
                                                                                  have h68 : Is ρ zg68 ((-1) * q35) := Zquon h66 h8 (by omega) (by omega) (by rw [show -((-1000) * u29 + 1000 * x0 + 1000 * x6 + 40000000) = 1000 * u29 + (-1000) * x0 + (-1000) * x6 + (-40000000) by omega, q35e.out]; omega)
                                                                                  have h69 : Is ρ zg69 (q35) := Zsub (Zc 0) h68 (by omega) (by omega)
                                                                                  obtain ⟨u36, u36e⟩ : ∃ m : Int, min (q35) (100000) = m := ⟨_, rfl⟩
                                                                                  have h70 : Is ρ zg70 (u36) := Zmn h69 (Zc 100000) (by omega)
                                                                                  refine ⟨fun g40 => ?_, fun g40 => ?_⟩
                                                                                  · have k40 : ((0 : Int) ≤ u36) := Zleqt (Zc 0) h70 g40
                                                                                    clear g40
                                                                                    clear k40
                                                                                    obtain ⟨u37, u37e⟩ : ∃ m : Int, min (u29) ((-1) * q22 + q9 + r20 + x0 + x6 + 40000) = m := ⟨_, rfl⟩
                                                                                    have h63 : Is ρ zg63 (u37) := Zmn h61 h52 (by omega)
                                                                                    refine ⟨fun g41 => ?_, fun g41 => ?_⟩
                                                                                    · have k41 : ((x0 + x6 + 40000 : Int) ≤ u37) := Zleqt h12 h63 g41
                                                                                      clear g41
                                                                                      obtain ⟨u38, u38e⟩ : ∃ m : Int, max (u29) ((-1) * q22 + q9 + r20 + x0 + x6 + 40000) = m := ⟨_, rfl⟩
                                                                                      have h64 : Is ρ zg64 (u38) := Zmx h61 h52 (by omega)
                                                                                      refine ⟨fun g42 => ?_, fun g42 => ?_⟩
                                                                                      · have k42 : ((u38 : Int) ≤ q9 + x0 + x5 + x6 + 40000) := Zleqt h64 h21 g42
                                                                                        clear g42
                                                                                        have h34 : Is ρ zg34 (100 * m5 + 100 * m8 + 999) := Zadd h16 (Zc 999) (by omega) (by omega)
                                                                                        obtain ⟨q39, q39e⟩ : ∃ q : Int, Hd ((100 * m5 + 100 * m8 + 999) / 1000 = q) := ⟨_, ⟨rfl⟩⟩
                                                                                        obtain ⟨r40, r40e⟩ : ∃ q : Int, Hd ((100 * m5 + 100 * m8 + 999) % 1000 = q) := ⟨_, ⟨rfl⟩⟩
                                                                                        have q391 : 100 * m5 + 100 * m8 + 999 = 1000 * q39 + r40 := by have i1 := q39e.out; have i2 := r40e.out; omega
                                                                                        have q392 : 0 ≤ r40 ∧ r40 ≤ 999 ∧ 0 ≤ q39 ∧ q39 ≤ 2499 := by have i1 := q39e.out; have i2 := r40e.out; omega
                                                                                        have h35 : Is ρ zg35 (q39) := Zquop h34 (Zc 1000) (by omega) (by omega) q39e.out
                                                                                        have h36 : Is ρ zg36 (q39 + x0 + x6 + 40000) := Zadd h12 h35 (by omega) (by omega)
                                                                                        have h37 : Is ρ zg37 (q39 + x0 + x5 + x6 + 40000) := Zadd h36 h11 (by omega) (by omega)
                                                                                        refine ⟨fun g43 => ?_, fun g43 => ?_⟩
                                                                                        · have k43 : ((q9 + x0 + x5 + x6 + 40000 : Int) = q39 + x0 + x5 + x6 + 40000) := Zeqlt h21 h37 g43
                                                                                          clear g43
                                                                                          exact rfl
                                                                                        · have k43 : ¬ (((q9 + x0 + x5 + x6 + 40000 : Int) = q39 + x0 + x5 + x6 + 40000)) := Zeqlf h21 h37 g43
                                                                                          clear g43
                                                                                          omega
                                                                                      · have k42 : ¬ (((u38 : Int) ≤ q9 + x0 + x5 + x6 + 40000)) := Zleqf h64 h21 g42
                                                                                        clear g42
                                                                                        omega
                                                                                    · have k41 : ¬ (((x0 + x6 + 40000 : Int) ≤ u37)) := Zleqf h12 h63 g41
                                                                                      clear g41
                                                                                      omega
                                                                                  · have k40 : ¬ (((0 : Int) ≤ u36)) := Zleqf (Zc 0) h70 g40
                                                                                    clear g40
                                                                                    omega
                                                                                · have k39 : ¬ ((((-1) * r34 : Int) ≤ 0)) := Zleqf h67 (Zc 0) g39
                                                                                  clear g39
                                                                                  omega
                                                                            · have k37 : ¬ (((0 : Int) ≤ u29 + (-1) * x0 + (-1) * x6 + (-40000))) := Zleqf (Zc 0) h62 g37
                                                                              clear g37
                                                                              omega
                                                                          · have k36 : ¬ (((u29 : Int) ≤ (-1) * q22 + q9 + r20 + x0 + x6 + 40000)) := Zleqf h61 h52 g36
                                                                            clear g36
                                                                            omega
                                                                        · have k35 : ¬ (((u27 : Int) ≤ u28)) := Zleqf h56 h59 g35
                                                                          clear g35
                                                                          omega
                                                                      · have k34 : ¬ (((u29 : Int) ≤ (-1) * q25 + q9 + r20 + x0 + x6 + 40000)) := Zleqf h61 h54 g34
                                                                        clear g34
                                                                        omega
                                                                    · have k33 : ¬ (((q9 + r20 + x0 + x6 + 40000 : Int) ≤ u28)) := Zleqf h30 h59 g33
                                                                      clear g33
                                                                      omega
                                                                  · have k32 : ¬ (((u27 : Int) ≤ q9 + r20 + x0 + x6 + 40000)) := Zleqf h56 h29 g32
                                                                    clear g32
                                                                    omega
                                                                · have k31 : ¬ ((((-1) * q22 + q9 + r20 + x0 + x6 + 40000 : Int) ≤ (-1) * q22 + q9 + r20 + x0 + x6 + 40000)) := Zleqf h51 h52 g31
                                                                  clear g31
                                                                  omega
                                                              · have k30 : ¬ (((r26 : Int) ≤ 0)) := Zleqf h48 (Zc 0) g30
                                                                clear g30
                                                                have h30 : Is ρ zg30 (q9 + r20 + x0 + x6 + 40000) := Zmx h28 h28 (by omega)
                                                                have h49 : Is ρ zg49 ((-1) * q22) := Zquon h45 (Zc 1000) (by omega) (by omega) (by have i1 := q22e.out; have i2 := r23e.out; omega)
                                                                have h50 : Is ρ zg50 (q22) := Zsub (Zc 0) h49 (by omega) (by omega)
                                                                have h51 : Is ρ zg51 ((-1) * q22 + q9 + r20 + x0 + x6 + 40000) := Zsub h30 h50 (by omega) (by omega)
                                                                have h52 : Is ρ zg52 ((-1) * q22 + q9 + r20 + x0 + x6 + 40000) := Zmn h51 h51 (by omega)
                                                                refine ⟨fun g31 => ?_, fun g31 => ?_⟩
                                                                · have k31 : (((-1) * q22 + q9 + r20 + x0 + x6 + 40000 : Int) ≤ (-1) * q22 + q9 + r20 + x0 + x6 + 40000) := Zleqt h51 h52 g31
                                                                  clear g31
                                                                  clear k31
                                                                  have h29 : Is ρ zg29 (q9 + r20 + x0 + x6 + 40000) := Zmn h28 h28 (by omega)
                                                                  have h53 : Is ρ zg53 (q25) := Zquop h47 (Zc 1000) (by omega) (by omega) q25e.out
                                                                  have h71 : Is ρ zg71 (q25 + 1) := Zadd h53 (Zc 1) (by omega) (by omega)
                                                                  have h72 : Is ρ zg72 ((-1) * q25 + q9 + r20 + x0 + x6 + 39999) := Zsub h29 h71 (by omega) (by omega)
                                                                  have h73 : Is ρ zg73 (q22 + (-1) * q25 + q9 + r20 + x0 + x6 + 39999) := Zadd h72 h50 (by omega) (by omega)
                                                                  obtain ⟨u41, u41e⟩ : ∃ m : Int, max (q9 + r20 + x0 + x6 + 40000) (q22 + (-1) * q25 + q9 + r20 + x0 + x6 + 39999) = m := ⟨_, rfl⟩
                                                                  have h74 : Is ρ zg74 (u41) := Zmx h29 h73 (by omega)
                                                                  refine ⟨fun g32 => ?_, fun g32 => ?_⟩
                                                                  · have k32 : ((u41 : Int) ≤ q9 + r20 + x0 + x6 + 40000) := Zleqt h74 h29 g32
                                                                    clear g32
                                                                    have h75 : Is ρ zg75 ((-1) * q25 + (-1)) := Zsub (Zc 0) h71 (by omega) (by omega)
                                                                    have h76 : Is ρ zg76 ((-1) * q22 + q25 + q9 + r20 + x0 + x6 + 40001) := Zsub h52 h75 (by omega) (by omega)
                                                                    obtain ⟨u42, u42e⟩ : ∃ m : Int, min (q9 + r20 + x0 + x6 + 40000) ((-1) * q22 + q25 + q9 + r20 + x0 + x6 + 40001) = m := ⟨_, rfl⟩
                                                                    have h77 : Is ρ zg77 (u42) := Zmn h30 h76 (by omega)
                                                                    refine ⟨fun g33 => ?_, fun g33 => ?_⟩
                                                                    · have k33 : ((q9 + r20 + x0 + x6 + 40000 : Int) ≤ u42) := Zleqt h30 h77 g33
                                                                      clear g33
                                                                      have h78 : Is ρ zg78 ((-1) * q25 + u41 + (-1)) := Zadd h74 h75 (by omega) (by omega)
                                                                      obtain ⟨u43, u43e⟩ : ∃ m : Int, max ((-1) * q25 + q9 + r20 + x0 + x6 + 39999) ((-1) * q25 + u41 + (-1)) = m := ⟨_, rfl⟩
                                                                      have h79 : Is ρ zg79 (u43) := Zmx h72 h78 (by omega)
                                                                      refine ⟨fun g34 => ?_, fun g34 => ?_⟩
                                                                      · have k34 : ((u43 : Int) ≤ (-1) * q25 + q9 + r20 + x0 + x6 + 39999) := Zleqt h79 h72 g34
                                                                        clear g34
                                                                        refine ⟨fun g35 => ?_, fun g35 => ?_⟩
                                                                        · have k35 : ((u41 : Int) ≤ u42) := Zleqt h74 h77 g35
                                                                          clear g35
                                                                          refine ⟨fun g36 => ?_, fun g36 => ?_⟩
                                                                          · have k36 : ((u43 : Int) ≤ (-1) * q22 + q9 + r20 + x0 + x6 + 40000) := Zleqt h79 h52 g36
                                                                            clear g36
                                                                            have h80 : Is ρ zg80 (u43 + (-1) * x0 + (-1) * x6 + (-40000)) := Zsub h79 h12 (by omega) (by omega)
                                                                            refine ⟨fun g37 => ?_, fun g37 => ?_⟩
                                                                            · have k37 : ((0 : Int) ≤ u43 + (-1) * x0 + (-1) * x6 + (-40000)) := Zleqt (Zc 0) h80 g37
                                                                              clear g37
                                                                              refine ⟨fun g38 => ?_, fun g38 => ?_⟩
                                                                              · have k38 : ((r2 + r4 : Int) = 0) := Zeqlt h8 (Zc 0) g38
                                                                                clear g38
                                                                                have m5z : m5 = 0 := (by have i1 : r2 = 0 := (by omega); rw [← m5e.out, i1]; simp)
                                                                                have m8z : m8 = 0 := (by have i1 : r4 = 0 := (by omega); rw [← m8e.out, i1]; simp)
                                                                                have m21z : m21 = 0 := (by have i1 : r2 = 0 := (by omega); rw [← m21e.out, i1]; simp)
                                                                                have m24z : m24 = 0 := (by have i1 : r4 = 0 := (by omega); rw [← m24e.out, i1]; simp)
                                                                                omega
                                                                              · have k38 : ¬ (((r2 + r4 : Int) = 0)) := Zeqlf h8 (Zc 0) g38
                                                                                clear g38
                                                                                have h81 : Is ρ zg81 (1000 * u43 + (-1000) * x0 + (-1000) * x6 + (-40000000)) := Zmul (Zc 1000) h80 (by omega) (by omega)
                                                                                have h82 : Is ρ zg82 ((-1000) * u43 + 1000 * x0 + 1000 * x6 + 40000000) := Zsub (Zc 0) h81 (by omega) (by omega)
                                                                                obtain ⟨r44, r44e⟩ : ∃ q : Int, Hd ((1000 * u43 + (-1000) * x0 + (-1000) * x6 + (-40000000)) % (r2 + r4) = q) := ⟨_, ⟨rfl⟩⟩
                                                                                have r441 : 0 ≤ r44 ∧ r44 ≤ 137033000 ∧ r44 ≤ r2 + r4 - 1 := r44e.out ▸ rem_bd (by omega) (by omega) (by omega)
                                                                                have h83 : Is ρ zg83 ((-1) * r44) := Zremn h82 h8 (by omega) (by rw [show -((-1000) * u43 + 1000 * x0 + 1000 * x6 + 40000000) = 1000 * u43 + (-1000) * x0 + (-1000) * x6 + (-40000000) by omega, r44e.out]; omega)
                                                                                refine ⟨fun g39 => ?_, fun g39 => ?_⟩
                                                                                · have k39 : (((-1) * r44 : Int) ≤ 0) := Zleqt h83 (Zc 0) g39
                                                                                  clear g39
                                                                                  clear k39
                                                                                  obtain ⟨q45, q45e⟩ : ∃ q : Int, Hd ((1000 * u43 + (-1000) * x0 + (-1000) * x6 + (-40000000)) / (r2 + r4) = q) := ⟨_, ⟨rfl⟩⟩
                                                                                  have q451 : 0 ≤ q45 ∧ q45 ≤ 137033000 := q45e.out ▸ quo_bd (by omega) (by omega) (by omega)
                                                                                  have h84 : Is ρ zg84 ((-1) * q45) := Zquon h82 h8 (by omega) (by omega) (by rw [show -((-1000) * u43 + 1000 * x0 + 1000 * x6 + 40000000) = 1000 * u43 + (-1000) * x0 + (-1000) * x6 + (-40000000) by omega, q45e.out]; omega)
                                                                                  have h85 : Is ρ zg85 (q45) := Zsub (Zc 0) h84 (by omega) (by omega)
                                                                                  obtain ⟨u46, u46e⟩ : ∃ m : Int, min (q45) (100000) = m := ⟨_, rfl⟩
                                                                                  have h86 : Is ρ zg86 (u46) := Zmn h85 (Zc 100000) (by omega)
                                                                                  refine ⟨fun g40 => ?_, fun g40 => ?_⟩
                                                                                  · have k40 : ((0 : Int) ≤ u46) := Zleqt (Zc 0) h86 g40
                                                                                    clear g40
                                                                                    clear k40
                                                                                    obtain ⟨u47, u47e⟩ : ∃ m : Int, min (u43) ((-1) * q22 + q9 + r20 + x0 + x6 + 40000) = m := ⟨_, rfl⟩
                                                                                    have h87 : Is ρ zg87 (u47) := Zmn h79 h52 (by omega)
                                                                                    refine ⟨fun g41 => ?_, fun g41 => ?_⟩
                                                                                    · have k41 : ((x0 + x6 + 40000 : Int) ≤ u47) := Zleqt h12 h87 g41
                                                                                      clear g41
                                                                                      obtain ⟨u48, u48e⟩ : ∃ m : Int, max (u43) ((-1) * q22 + q9 + r20 + x0 + x6 + 40000) = m := ⟨_, rfl⟩
                                                                                      have h88 : Is ρ zg88 (u48) := Zmx h79 h52 (by omega)
                                                                                      refine ⟨fun g42 => ?_, fun g42 => ?_⟩
                                                                                      · have k42 : ((u48 : Int) ≤ q9 + x0 + x5 + x6 + 40000) := Zleqt h88 h21 g42
                                                                                        clear g42
                                                                                        have h34 : Is ρ zg34 (100 * m5 + 100 * m8 + 999) := Zadd h16 (Zc 999) (by omega) (by omega)
                                                                                        obtain ⟨q49, q49e⟩ : ∃ q : Int, Hd ((100 * m5 + 100 * m8 + 999) / 1000 = q) := ⟨_, ⟨rfl⟩⟩
                                                                                        obtain ⟨r50, r50e⟩ : ∃ q : Int, Hd ((100 * m5 + 100 * m8 + 999) % 1000 = q) := ⟨_, ⟨rfl⟩⟩
                                                                                        have q491 : 100 * m5 + 100 * m8 + 999 = 1000 * q49 + r50 := by have i1 := q49e.out; have i2 := r50e.out; omega
                                                                                        have q492 : 0 ≤ r50 ∧ r50 ≤ 999 ∧ 0 ≤ q49 ∧ q49 ≤ 2499 := by have i1 := q49e.out; have i2 := r50e.out; omega
                                                                                        have h35 : Is ρ zg35 (q49) := Zquop h34 (Zc 1000) (by omega) (by omega) q49e.out
                                                                                        have h36 : Is ρ zg36 (q49 + x0 + x6 + 40000) := Zadd h12 h35 (by omega) (by omega)
                                                                                        have h37 : Is ρ zg37 (q49 + x0 + x5 + x6 + 40000) := Zadd h36 h11 (by omega) (by omega)
                                                                                        refine ⟨fun g43 => ?_, fun g43 => ?_⟩
                                                                                        · have k43 : ((q9 + x0 + x5 + x6 + 40000 : Int) = q49 + x0 + x5 + x6 + 40000) := Zeqlt h21 h37 g43
                                                                                          clear g43
                                                                                          exact rfl
                                                                                        · have k43 : ¬ (((q9 + x0 + x5 + x6 + 40000 : Int) = q49 + x0 + x5 + x6 + 40000)) := Zeqlf h21 h37 g43
                                                                                          clear g43
                                                                                          omega
                                                                                      · have k42 : ¬ (((u48 : Int) ≤ q9 + x0 + x5 + x6 + 40000)) := Zleqf h88 h21 g42
                                                                                        clear g42
                                                                                        omega
                                                                                    · have k41 : ¬ (((x0 + x6 + 40000 : Int) ≤ u47)) := Zleqf h12 h87 g41
                                                                                      clear g41
                                                                                      omega
                                                                                  · have k40 : ¬ (((0 : Int) ≤ u46)) := Zleqf (Zc 0) h86 g40
                                                                                    clear g40
                                                                                    omega
                                                                                · have k39 : ¬ ((((-1) * r44 : Int) ≤ 0)) := Zleqf h83 (Zc 0) g39
                                                                                  clear g39
                                                                                  omega
                                                                            · have k37 : ¬ (((0 : Int) ≤ u43 + (-1) * x0 + (-1) * x6 + (-40000))) := Zleqf (Zc 0) h80 g37
                                                                              clear g37
                                                                              omega
                                                                          · have k36 : ¬ (((u43 : Int) ≤ (-1) * q22 + q9 + r20 + x0 + x6 + 40000)) := Zleqf h79 h52 g36
                                                                            clear g36
                                                                            omega
                                                                        · have k35 : ¬ (((u41 : Int) ≤ u42)) := Zleqf h74 h77 g35
                                                                          clear g35
                                                                          omega
                                                                      · have k34 : ¬ (((u43 : Int) ≤ (-1) * q25 + q9 + r20 + x0 + x6 + 39999)) := Zleqf h79 h72 g34
                                                                        clear g34
                                                                        omega
                                                                    · have k33 : ¬ (((q9 + r20 + x0 + x6 + 40000 : Int) ≤ u42)) := Zleqf h30 h77 g33
                                                                      clear g33
                                                                      omega
                                                                  · have k32 : ¬ (((u41 : Int) ≤ q9 + r20 + x0 + x6 + 40000)) := Zleqf h74 h29 g32
                                                                    clear g32
                                                                    omega
                                                                · have k31 : ¬ ((((-1) * q22 + q9 + r20 + x0 + x6 + 40000 : Int) ≤ (-1) * q22 + q9 + r20 + x0 + x6 + 40000)) := Zleqf h51 h52 g31
                                                                  clear g31
                                                                  omega
                                                            · have k29 : ¬ ((((-1) * r23 : Int) ≤ 0)) := Zleqf h46 (Zc 0) g29
                                                              clear g29
                                                              omega
                                                          · have k28 : ¬ (((r11 : Int) ≤ 100000)) := Zleqf h26 (Zc 100000) g28
                                                            clear g28
                                                            omega
                                                        · have k27 : ¬ (((1 : Int) ≤ r11)) := Zleqf (Zc 1) h26 g27
                                                          clear g27
                                                          omega
                                                      · have k26 : ¬ (((q9 + r20 + x0 + x6 + 40000 : Int) ≤ 10000000)) := Zleqf h28 (Zc 10000000) g26
                                                        clear g26
                                                        omega
                                                    · have k25 : ¬ (((0 : Int) ≤ q9 + r20 + x0 + x6 + 40000)) := Zleqf (Zc 0) h28 g25
                                                      clear g25
                                                      omega
                                            · have k21 : ¬ (((1 : Int) ≤ x0 + x6 + 40000)) := Zleqf (Zc 1) h12 g21
                                              clear g21
                                              omega
                                          · have k20 : ¬ (((q9 + x0 + x5 + x6 + 40000 : Int) ≤ 10000000)) := Zleqf h20 (Zc 10000000) g20
                                            clear g20
                                            omega
                                        · have k19 : ¬ (((q9 + x0 + x6 + 40000 : Int) ≤ q9 + x0 + x5 + x6 + 40000)) := Zleqf h19 h20 g19
                                          clear g19
                                          omega
                                      · have k18 : ¬ (((0 : Int) ≤ q9 + x0 + x6 + 40000)) := Zleqf (Zc 0) h19 g18
                                        clear g18
                                        omega
                                    · have k17 : ¬ (((r10 : Int) ≤ 0)) := Zleqf h17 (Zc 0) g17
                                      clear g17
                                      have h18 : Is ρ zg18 (q9) := Zquop h16 (Zc 1000) (by omega) (by omega) q9e.out
                                      have h89 : Is ρ zg89 (q9 + 1) := Zadd h18 (Zc 1) (by omega) (by omega)
                                      have h90 : Is ρ zg90 (q9 + x0 + x6 + 40001) := Zadd h12 h89 (by omega) (by omega)
                                      refine ⟨fun g18 => ?_, fun g18 => ?_⟩
                                      · have k18 : ((0 : Int) ≤ q9 + x0 + x6 + 40001) := Zleqt (Zc 0) h90 g18
                                        clear g18
                                        clear k18
                                        have h91 : Is ρ zg91 (q9 + x0 + x5 + x6 + 40001) := Zadd h90 h11 (by omega) (by omega)
                                        refine ⟨fun g19 => ?_, fun g19 => ?_⟩
                                        · have k19 : ((q9 + x0 + x6 + 40001 : Int) ≤ q9 + x0 + x5 + x6 + 40001) := Zleqt h90 h91 g19
                                          clear g19
                                          clear k19
                                          refine ⟨fun g20 => ?_, fun g20 => ?_⟩
                                          · have k20 : ((q9 + x0 + x5 + x6 + 40001 : Int) ≤ 10000000) := Zleqt h91 (Zc 10000000) g20
                                            clear g20
                                            clear k20
                                            refine ⟨fun g21 => ?_, fun g21 => ?_⟩
                                            · have k21 : ((1 : Int) ≤ x0 + x6 + 40000) := Zleqt (Zc 1) h12 g21
                                              clear g21
                                              clear k21
                                              have h92 : Is ρ zg92 (q9 + x0 + x5 + x6 + 40001) := Zmx h90 h91 (by omega)
                                              have h93 : Is ρ zg93 (q9 + x0 + x6 + 40001) := Zmn h90 h91 (by omega)
                                              have h94 : Is ρ zg94 (x5) := Zsub h92 h93 (by omega) (by omega)
                                              have h95 : Is ρ zg95 (x5 + 1) := Zadd h94 (Zc 1) (by omega) (by omega)
                                              refine ⟨fun g22 => ?_, fun g22 => ?_⟩
                                              · have k22 : ((x5 + 1 : Int) = 0) := Zeqlt h95 (Zc 0) g22
                                                clear g22
                                                omega
                                              · have k22 : ¬ (((x5 + 1 : Int) = 0)) := Zeqlf h95 (Zc 0) g22
                                                clear g22
                                                have h25 : Is ρ zg25 (100 * x4 + 1) := Zadd h10 (Zc 1) (by omega) (by omega)
                                                refine ⟨fun g23 => ?_, fun g23 => ?_⟩
                                                · have k23 : ((100 * x4 + 1 : Int) = 0) := Zeqlt h25 (Zc 0) g23
                                                  clear g23
                                                  omega
                                                · have k23 : ¬ (((100 * x4 + 1 : Int) = 0)) := Zeqlf h25 (Zc 0) g23
                                                  clear g23
                                                  obtain ⟨r51, r51e⟩ : ∃ q : Int, Hd ((x6) % (100 * x4 + 1) = q) := ⟨_, ⟨rfl⟩⟩
                                                  have r511 : 0 ≤ r51 ∧ r51 ≤ 65535 ∧ r51 ≤ 100 * x4 + 1 - 1 := r51e.out ▸ rem_bd (by omega) (by omega) (by omega)
                                                  have h26 : Is ρ zg26 (r51) := Zremp h2 h25 (by omega) r51e.out
                                                  refine ⟨fun g24 => ?_, fun g24 => ?_⟩
                                                  · have k24 : ((r51 : Int) ≤ 0) := Zleqt h26 (Zc 0) g24
                                                    clear g24
                                                    obtain ⟨r52, r52e⟩ : ∃ q : Int, Hd ((x6) % (x5 + 1) = q) := ⟨_, ⟨rfl⟩⟩
                                                    have r521 : 0 ≤ r52 ∧ r52 ≤ 65535 ∧ r52 ≤ x5 + 1 - 1 := r52e.out ▸ rem_bd (by omega) (by omega) (by omega)
                                                    have h96 : Is ρ zg96 (r52) := Zremp h2 h95 (by omega) r52e.out
                                                    have h97 : Is ρ zg97 (q9 + r52 + x0 + x6 + 40001) := Zadd h93 h96 (by omega) (by omega)
                                                    refine ⟨fun g25 => ?_, fun g25 => ?_⟩
                                                    · have k25 : ((0 : Int) ≤ q9 + r52 + x0 + x6 + 40001) := Zleqt (Zc 0) h97 g25
                                                      clear g25
                                                      clear k25
                                                      refine ⟨fun g26 => ?_, fun g26 => ?_⟩
                                                      · have k26 : ((q9 + r52 + x0 + x6 + 40001 : Int) ≤ 10000000) := Zleqt h97 (Zc 10000000) g26
                                                        clear g26
                                                        clear k26
                                                        have h98 : Is ρ zg98 (q9 + r52 + x0 + x6 + 40001) := Zmn h97 h97 (by omega)
                                                        have h99 : Is ρ zg99 (q9 + r52 + x0 + x6 + 40001) := Zmx h97 h97 (by omega)
                                                        refine ⟨fun g27 => ?_, fun g27 => ?_⟩
                                                        · have k27 : ((q9 + r52 + x0 + x6 + 40001 : Int) ≤ q9 + r52 + x0 + x6 + 40001) := Zleqt h98 h99 g27
                                                          clear g27
                                                          clear k27
                                                          have h100 : Is ρ zg100 (q9 + r52 + 1) := Zsub h98 h12 (by omega) (by omega)
                                                          refine ⟨fun g28 => ?_, fun g28 => ?_⟩
                                                          · have k28 : ((0 : Int) ≤ q9 + r52 + 1) := Zleqt (Zc 0) h100 g28
                                                            clear g28
                                                            clear k28
                                                            refine ⟨fun g29 => ?_, fun g29 => ?_⟩
                                                            · have k29 : ((r2 + r4 : Int) = 0) := Zeqlt h8 (Zc 0) g29
                                                              clear g29
                                                              have m5z : m5 = 0 := (by have i1 : r2 = 0 := (by omega); rw [← m5e.out, i1]; simp)
                                                              have m8z : m8 = 0 := (by have i1 : r4 = 0 := (by omega); rw [← m8e.out, i1]; simp)
                                                              omega
                                                            · have k29 : ¬ (((r2 + r4 : Int) = 0)) := Zeqlf h8 (Zc 0) g29
                                                              clear g29
                                                              have h101 : Is ρ zg101 (1000 * q9 + 1000 * r52 + 1000) := Zmul (Zc 1000) h100 (by omega) (by omega)
                                                              have h102 : Is ρ zg102 ((-1000) * q9 + (-1000) * r52 + (-1000)) := Zsub (Zc 0) h101 (by omega) (by omega)
                                                              obtain ⟨r53, r53e⟩ : ∃ q : Int, Hd ((1000 * q9 + 1000 * r52 + 1000) % (r2 + r4) = q) := ⟨_, ⟨rfl⟩⟩
                                                              have r531 : 0 ≤ r53 ∧ r53 ≤ 68035000 ∧ r53 ≤ r2 + r4 - 1 := r53e.out ▸ rem_bd (by omega) (by omega) (by omega)
                                                              have h103 : Is ρ zg103 ((-1) * r53) := Zremn h102 h8 (by omega) (by rw [show -((-1000) * q9 + (-1000) * r52 + (-1000)) = 1000 * q9 + 1000 * r52 + 1000 by omega, r53e.out]; omega)
                                                              refine ⟨fun g30 => ?_, fun g30 => ?_⟩
                                                              · have k30 : (((-1) * r53 : Int) ≤ 0) := Zleqt h103 (Zc 0) g30
                                                                clear g30
                                                                clear k30
                                                                obtain ⟨q54, q54e⟩ : ∃ q : Int, Hd ((1000 * q9 + 1000 * r52 + 1000) / (r2 + r4) = q) := ⟨_, ⟨rfl⟩⟩
                                                                have q541 : 0 ≤ q54 ∧ q54 ≤ 68035000 := q54e.out ▸ quo_bd (by omega) (by omega) (by omega)
                                                                have h104 : Is ρ zg104 ((-1) * q54) := Zquon h102 h8 (by omega) (by omega) (by rw [show -((-1000) * q9 + (-1000) * r52 + (-1000)) = 1000 * q9 + 1000 * r52 + 1000 by omega, q54e.out]; omega)
                                                                have h105 : Is ρ zg105 (q54) := Zsub (Zc 0) h104 (by omega) (by omega)
                                                                obtain ⟨u55, u55e⟩ : ∃ m : Int, min (q54) (100000) = m := ⟨_, rfl⟩
                                                                have h106 : Is ρ zg106 (u55) := Zmn h105 (Zc 100000) (by omega)
                                                                refine ⟨fun g31 => ?_, fun g31 => ?_⟩
                                                                · have k31 : ((0 : Int) ≤ u55) := Zleqt (Zc 0) h106 g31
                                                                  clear g31
                                                                  clear k31
                                                                  have h107 : Is ρ zg107 (q9 + r52 + x0 + x6 + 40001) := Zmn h98 h99 (by omega)
                                                                  refine ⟨fun g32 => ?_, fun g32 => ?_⟩
                                                                  · have k32 : ((x0 + x6 + 40000 : Int) ≤ q9 + r52 + x0 + x6 + 40001) := Zleqt h12 h107 g32
                                                                    clear g32
                                                                    clear k32
                                                                    have h108 : Is ρ zg108 (q9 + r52 + x0 + x6 + 40001) := Zmx h98 h99 (by omega)
                                                                    refine ⟨fun g33 => ?_, fun g33 => ?_⟩
                                                                    · have k33 : ((q9 + r52 + x0 + x6 + 40001 : Int) ≤ q9 + x0 + x5 + x6 + 40001) := Zleqt h108 h92 g33
                                                                      clear g33
                                                                      have h34 : Is ρ zg34 (100 * m5 + 100 * m8 + 999) := Zadd h16 (Zc 999) (by omega) (by omega)
                                                                      obtain ⟨q56, q56e⟩ : ∃ q : Int, Hd ((100 * m5 + 100 * m8 + 999) / 1000 = q) := ⟨_, ⟨rfl⟩⟩
                                                                      obtain ⟨r57, r57e⟩ : ∃ q : Int, Hd ((100 * m5 + 100 * m8 + 999) % 1000 = q) := ⟨_, ⟨rfl⟩⟩
                                                                      have q561 : 100 * m5 + 100 * m8 + 999 = 1000 * q56 + r57 := by have i1 := q56e.out; have i2 := r57e.out; omega
                                                                      have q562 : 0 ≤ r57 ∧ r57 ≤ 999 ∧ 0 ≤ q56 ∧ q56 ≤ 2499 := by have i1 := q56e.out; have i2 := r57e.out; omega
                                                                      have h35 : Is ρ zg35 (q56) := Zquop h34 (Zc 1000) (by omega) (by omega) q56e.out
                                                                      have h36 : Is ρ zg36 (q56 + x0 + x6 + 40000) := Zadd h12 h35 (by omega) (by omega)
                                                                      have h37 : Is ρ zg37 (q56 + x0 + x5 + x6 + 40000) := Zadd h36 h11 (by omega) (by omega)
                                                                      refine ⟨fun g34 => ?_, fun g34 => ?_⟩
                                                                      · have k34 : ((q9 + x0 + x5 + x6 + 40001 : Int) = q56 + x0 + x5 + x6 + 40000) := Zeqlt h92 h37 g34
                                                                        clear g34
                                                                        exact rfl
                                                                      · have k34 : ¬ (((q9 + x0 + x5 + x6 + 40001 : Int) = q56 + x0 + x5 + x6 + 40000)) := Zeqlf h92 h37 g34
                                                                        clear g34
                                                                        omega
                                                                    · have k33 : ¬ (((q9 + r52 + x0 + x6 + 40001 : Int) ≤ q9 + x0 + x5 + x6 + 40001)) := Zleqf h108 h92 g33
                                                                      clear g33
                                                                      omega
                                                                  · have k32 : ¬ (((x0 + x6 + 40000 : Int) ≤ q9 + r52 + x0 + x6 + 40001)) := Zleqf h12 h107 g32
                                                                    clear g32
                                                                    omega
                                                                · have k31 : ¬ (((0 : Int) ≤ u55)) := Zleqf (Zc 0) h106 g31
                                                                  clear g31
                                                                  omega
                                                              · have k30 : ¬ ((((-1) * r53 : Int) ≤ 0)) := Zleqf h103 (Zc 0) g30
                                                                clear g30
                                                                omega
                                                          · have k28 : ¬ (((0 : Int) ≤ q9 + r52 + 1)) := Zleqf (Zc 0) h100 g28
                                                            clear g28
                                                            omega
                                                        · have k27 : ¬ (((q9 + r52 + x0 + x6 + 40001 : Int) ≤ q9 + r52 + x0 + x6 + 40001)) := Zleqf h98 h99 g27
                                                          clear g27
                                                          omega
                                                      · have k26 : ¬ (((q9 + r52 + x0 + x6 + 40001 : Int) ≤ 10000000)) := Zleqf h97 (Zc 10000000) g26
                                                        clear g26
                                                        omega
                                                    · have k25 : ¬ (((0 : Int) ≤ q9 + r52 + x0 + x6 + 40001)) := Zleqf (Zc 0) h97 g25
                                                      clear g25
                                                      omega
                                                  · have k24 : ¬ (((r51 : Int) ≤ 0)) := Zleqf h26 (Zc 0) g24
                                                    clear g24
                                                    obtain ⟨r58, r58e⟩ : ∃ q : Int, Hd ((x6) % (x5 + 1) = q) := ⟨_, ⟨rfl⟩⟩
                                                    have r581 : 0 ≤ r58 ∧ r58 ≤ 65535 ∧ r58 ≤ x5 + 1 - 1 := r58e.out ▸ rem_bd (by omega) (by omega) (by omega)
                                                    have h96 : Is ρ zg96 (r58) := Zremp h2 h95 (by omega) r58e.out
                                                    have h97 : Is ρ zg97 (q9 + r58 + x0 + x6 + 40001) := Zadd h93 h96 (by omega) (by omega)
                                                    refine ⟨fun g25 => ?_, fun g25 => ?_⟩
                                                    · have k25 : ((0 : Int) ≤ q9 + r58 + x0 + x6 + 40001) := Zleqt (Zc 0) h97 g25
                                                      clear g25
                                                      clear k25
                                                      refine ⟨fun g26 => ?_, fun g26 => ?_⟩
                                                      · have k26 : ((q9 + r58 + x0 + x6 + 40001 : Int) ≤ 10000000) := Zleqt h97 (Zc 10000000) g26
                                                        clear g26
                                                        clear k26
                                                        refine ⟨fun g27 => ?_, fun g27 => ?_⟩
                                                        · have k27 : ((1 : Int) ≤ r51) := Zleqt (Zc 1) h26 g27
                                                          clear g27
                                                          refine ⟨fun g28 => ?_, fun g28 => ?_⟩
                                                          · have k28 : ((r51 : Int) ≤ 100000) := Zleqt h26 (Zc 100000) g28
                                                            clear g28
                                                            clear k28
                                                            obtain ⟨m59, m59e⟩ : ∃ m : Int, Hd (r2 * r51 = m) := ⟨_, ⟨rfl⟩⟩
                                                            have m591 : 0 ≤ m59 := m59e.out ▸ Int.mul_nonneg (by omega) (by omega)
                                                            have m592 : m59 ≤ 3211215 := m59e.out ▸ (Int.mul_le_mul (by omega : r2 ≤ 49) (by omega : r51 ≤ 65535) (by omega) (by omega) : r2 * r51 ≤ 49 * 65535)
                                                            have m593 : m59 ≤ 100 * m5 := by have i1 : r2 * r51 ≤ r2 * (100 * x4) := Int.mul_le_mul_of_nonneg_left (by omega) (by omega); rw [(by simp only [Int.add_mul, Int.mul_add, Int.mul_assoc, Int.mul_comm, Int.mul_left_comm] <;> omega : r2 * (100 * x4) = 100 * (r2 * x4)), m59e.out] at i1; simp only [m5e.out] at i1; omega
                                                            have h44 : Is ρ zg44 (m59) := Zmul h5 h26 (by omega) ((by simp only [Int.add_mul, Int.mul_add, Int.mul_assoc, Int.mul_comm, Int.mul_left_comm] <;> omega : (r2) * (r51) = r2 * r51).trans (by (try simp only [m59e.out]) <;> omega))
                                                            have h45 : Is ρ zg45 ((-1) * m59) := Zsub (Zc 0) h44 (by omega) (by omega)
                                                            obtain ⟨q60, q60e⟩ : ∃ q : Int, Hd ((m59) / 1000 = q) := ⟨_, ⟨rfl⟩⟩
                                                            obtain ⟨r61, r61e⟩ : ∃ q : Int, Hd ((m59) % 1000 = q) := ⟨_, ⟨rfl⟩⟩
                                                            have q601 : m59 = 1000 * q60 + r61 := by have i1 := q60e.out; have i2 := r61e.out; omega
                                                            have q602 : 0 ≤ r61 ∧ r61 ≤ 999 ∧ 0 ≤ q60 ∧ q60 ≤ 3211 := by have i1 := q60e.out; have i2 := r61e.out; omega
                                                            have h46 : Is ρ zg46 ((-1) * r61) := Zremn h45 (Zc 1000) (by omega) (by have i1 := q60e.out; have i2 := r61e.out; omega)
                                                            refine ⟨fun g29 => ?_, fun g29 => ?_⟩
                                                            · have k29 : (((-1) * r61 : Int) ≤ 0) := Zleqt h46 (Zc 0) g29
                                                              clear g29
                                                              clear k29
                                                              obtain ⟨m62, m62e⟩ : ∃ m : Int, Hd (r4 * r51 = m) := ⟨_, ⟨rfl⟩⟩
                                                              have m621 : 0 ≤ m62 := m62e.out ▸ Int.mul_nonneg (by omega) (by omega)
                                                              have m622 : m62 ≤ 3211215 := m62e.out ▸ (Int.mul_le_mul (by omega : r4 ≤ 49) (by omega : r51 ≤ 65535) (by omega) (by omega) : r4 * r51 ≤ 49 * 65535)
                                                              have m623 : m62 ≤ 100 * m8 := by have i1 : r4 * r51 ≤ r4 * (100 * x4) := Int.mul_le_mul_of_nonneg_left (by omega) (by omega); rw [(by simp only [Int.add_mul, Int.mul_add, Int.mul_assoc, Int.mul_comm, Int.mul_left_comm] <;> omega : r4 * (100 * x4) = 100 * (r4 * x4)), m62e.out] at i1; simp only [m8e.out] at i1; omega
                                                              have h47 : Is ρ zg47 (m59 + m62) := Zmul h8 h26 (by omega) ((by simp only [Int.add_mul, Int.mul_add, Int.mul_assoc, Int.mul_comm, Int.mul_left_comm] <;> omega : (r2 + r4) * (r51) = r2 * r51 + r4 * r51).trans (by (try simp only [m59e.out, m62e.out]) <;> omega))
                                                              obtain ⟨q63, q63e⟩ : ∃ q : Int, Hd ((m59 + m62) / 1000 = q) := ⟨_, ⟨rfl⟩⟩
                                                              obtain ⟨r64, r64e⟩ : ∃ q : Int, Hd ((m59 + m62) % 1000 = q) := ⟨_, ⟨rfl⟩⟩
                                                              have q631 : m59 + m62 = 1000 * q63 + r64 := by have i1 := q63e.out; have i2 := r64e.out; omega
                                                              have q632 : 0 ≤ r64 ∧ r64 ≤ 999 ∧ 0 ≤ q63 ∧ q63 ≤ 6422 := by have i1 := q63e.out; have i2 := r64e.out; omega
                                                              have h48 : Is ρ zg48 (r64) := Zremp h47 (Zc 1000) (by omega) r64e.out
                                                              refine ⟨fun g30 => ?_, fun g30 => ?_⟩
                                                              · have k30 : ((r64 : Int) ≤ 0) := Zleqt h48 (Zc 0) g30
                                                                clear g30
                                                                have h99 : Is ρ zg99 (q9 + r58 + x0 + x6 + 40001) := Zmx h97 h97 (by omega)
                                                                have h49 : Is ρ zg49 ((-1) * q60) := Zquon h45 (Zc 1000) (by omega) (by omega) (by have i1 := q60e.out; have i2 := r61e.out; omega)
                                                                have h50 : Is ρ zg50 (q60) := Zsub (Zc 0) h49 (by omega) (by omega)
                                                                have h109 : Is ρ zg109 ((-1) * q60 + q9 + r58 + x0 + x6 + 40001) := Zsub h99 h50 (by omega) (by omega)
                                                                have h110 : Is ρ zg110 ((-1) * q60 + q9 + r58 + x0 + x6 + 40001) := Zmn h109 h109 (by omega)
                                                                refine ⟨fun g31 => ?_, fun g31 => ?_⟩
                                                                · have k31 : (((-1) * q60 + q9 + r58 + x0 + x6 + 40001 : Int) ≤ (-1) * q60 + q9 + r58 + x0 + x6 + 40001) := Zleqt h109 h110 g31
                                                                  clear g31
                                                                  clear k31
                                                                  have h98 : Is ρ zg98 (q9 + r58 + x0 + x6 + 40001) := Zmn h97 h97 (by omega)
                                                                  have h53 : Is ρ zg53 (q63) := Zquop h47 (Zc 1000) (by omega) (by omega) q63e.out
                                                                  have h111 : Is ρ zg111 ((-1) * q63 + q9 + r58 + x0 + x6 + 40001) := Zsub h98 h53 (by omega) (by omega)
                                                                  have h112 : Is ρ zg112 (q60 + (-1) * q63 + q9 + r58 + x0 + x6 + 40001) := Zadd h111 h50 (by omega) (by omega)
                                                                  obtain ⟨u65, u65e⟩ : ∃ m : Int, max (q9 + r58 + x0 + x6 + 40001) (q60 + (-1) * q63 + q9 + r58 + x0 + x6 + 40001) = m := ⟨_, rfl⟩
                                                                  have h113 : Is ρ zg113 (u65) := Zmx h98 h112 (by omega)
                                                                  refine ⟨fun g32 => ?_, fun g32 => ?_⟩
                                                                  · have k32 : ((u65 : Int) ≤ q9 + r58 + x0 + x6 + 40001) := Zleqt h113 h98 g32
                                                                    clear g32
                                                                    have h57 : Is ρ zg57 ((-1) * q63) := Zsub (Zc 0) h53 (by omega) (by omega)
                                                                    have h114 : Is ρ zg114 ((-1) * q60 + q63 + q9 + r58 + x0 + x6 + 40001) := Zsub h110 h57 (by omega) (by omega)
                                                                    obtain ⟨u66, u66e⟩ : ∃ m : Int, min (q9 + r58 + x0 + x6 + 40001) ((-1) * q60 + q63 + q9 + r58 + x0 + x6 + 40001) = m := ⟨_, rfl⟩
                                                                    have h115 : Is ρ zg115 (u66) := Zmn h99 h114 (by omega)
                                                                    refine ⟨fun g33 => ?_, fun g33 => ?_⟩
                                                                    · have k33 : ((q9 + r58 + x0 + x6 + 40001 : Int) ≤ u66) := Zleqt h99 h115 g33
                                                                      clear g33
                                                                      have h116 : Is ρ zg116 ((-1) * q63 + u65) := Zadd h113 h57 (by omega) (by omega)
                                                                      obtain ⟨u67, u67e⟩ : ∃ m : Int, max ((-1) * q63 + q9 + r58 + x0 + x6 + 40001) ((-1) * q63 + u65) = m := ⟨_, rfl⟩
                                                                      have h117 : Is ρ zg117 (u67) := Zmx h111 h116 (by omega)
                                                                      refine ⟨fun g34 => ?_, fun g34 => ?_⟩
                                                                      · have k34 : ((u67 : Int) ≤ (-1) * q63 + q9 + r58 + x0 + x6 + 40001) := Zleqt h117 h111 g34
                                                                        clear g34
                                                                        refine ⟨fun g35 => ?_, fun g35 => ?_⟩
                                                                        · have k35 : ((u65 : Int) ≤ u66) := Zleqt h113 h115 g35
                                                                          clear g35
                                                                          refine ⟨fun g36 => ?_, fun g36 => ?_⟩
                                                                          · have k36 : ((u67 : Int) ≤ (-1) * q60 + q9 + r58 + x0 + x6 + 40001) := Zleqt h117 h110 g36
                                                                            clear g36
                                                                            have h118 : Is ρ zg118 (u67 + (-1) * x0 + (-1) * x6 + (-40000)) := Zsub h117 h12 (by omega) (by omega)
                                                                            refine ⟨fun g37 => ?_, fun g37 => ?_⟩
                                                                            · have k37 : ((0 : Int) ≤ u67 + (-1) * x0 + (-1) * x6 + (-40000)) := Zleqt (Zc 0) h118 g37
                                                                              clear g37
                                                                              refine ⟨fun g38 => ?_, fun g38 => ?_⟩
                                                                              · have k38 : ((r2 + r4 : Int) = 0) := Zeqlt h8 (Zc 0) g38
                                                                                clear g38
                                                                                have m5z : m5 = 0 := (by have i1 : r2 = 0 := (by omega); rw [← m5e.out, i1]; simp)
                                                                                have m8z : m8 = 0 := (by have i1 : r4 = 0 := (by omega); rw [← m8e.out, i1]; simp)
                                                                                have m59z : m59 = 0 := (by have i1 : r2 = 0 := (by omega); rw [← m59e.out, i1]; simp)
                                                                                have m62z : m62 = 0 := (by have i1 : r4 = 0 := (by omega); rw [← m62e.out, i1]; simp)
                                                                                omega
                                                                              · have k38 : ¬ (((r2 + r4 : Int) = 0)) := Zeqlf h8 (Zc 0) g38
                                                                                clear g38
                                                                                have h119 : Is ρ zg119 (1000 * u67 + (-1000) * x0 + (-1000) * x6 + (-40000000)) := Zmul (Zc 1000) h118 (by omega) (by omega)
                                                                                have h120 : Is ρ zg120 ((-1000) * u67 + 1000 * x0 + 1000 * x6 + 40000000) := Zsub (Zc 0) h119 (by omega) (by omega)
                                                                                obtain ⟨r68, r68e⟩ : ∃ q : Int, Hd ((1000 * u67 + (-1000) * x0 + (-1000) * x6 + (-40000000)) % (r2 + r4) = q) := ⟨_, ⟨rfl⟩⟩
                                                                                have r681 : 0 ≤ r68 ∧ r68 ≤ 137036000 ∧ r68 ≤ r2 + r4 - 1 := r68e.out ▸ rem_bd (by omega) (by omega) (by omega)
                                                                                have h121 : Is ρ zg121 ((-1) * r68) := Zremn h120 h8 (by omega) (by rw [show -((-1000) * u67 + 1000 * x0 + 1000 * x6 + 40000000) = 1000 * u67 + (-1000) * x0 + (-1000) * x6 + (-40000000) by omega, r68e.out]; omega)
                                                                                refine ⟨fun g39 => ?_, fun g39 => ?_⟩
                                                                                · have k39 : (((-1) * r68 : Int) ≤ 0) := Zleqt h121 (Zc 0) g39
                                                                                  clear g39
                                                                                  clear k39
                                                                                  obtain ⟨q69, q69e⟩ : ∃ q : Int, Hd ((1000 * u67 + (-1000) * x0 + (-1000) * x6 + (-40000000)) / (r2 + r4) = q) := ⟨_, ⟨rfl⟩⟩
                                                                                  have q691 : 0 ≤ q69 ∧ q69 ≤ 137036000 := q69e.out ▸ quo_bd (by omega) (by omega) (by omega)
                                                                                  have h122 : Is ρ zg122 ((-1) * q69) := Zquon h120 h8 (by omega) (by omega) (by rw [show -((-1000) * u67 + 1000 * x0 + 1000 * x6 + 40000000) = 1000 * u67 + (-1000) * x0 + (-1000) * x6 + (-40000000) by omega, q69e.out]; omega)
                                                                                  have h123 : Is ρ zg123 (q69) := Zsub (Zc 0) h122 (by omega) (by omega)
                                                                                  obtain ⟨u70, u70e⟩ : ∃ m : Int, min (q69) (100000) = m := ⟨_, rfl⟩
                                                                                  have h124 : Is ρ zg124 (u70) := Zmn h123 (Zc 100000) (by omega)
                                                                                  refine ⟨fun g40 => ?_, fun g40 => ?_⟩
                                                                                  · have k40 : ((0 : Int) ≤ u70) := Zleqt (Zc 0) h124 g40
                                                                                    clear g40
                                                                                    clear k40
                                                                                    obtain ⟨u71, u71e⟩ : ∃ m : Int, min (u67) ((-1) * q60 + q9 + r58 + x0 + x6 + 40001) = m := ⟨_, rfl⟩
                                                                                    have h125 : Is ρ zg125 (u71) := Zmn h117 h110 (by omega)
                                                                                    refine ⟨fun g41 => ?_, fun g41 => ?_⟩
                                                                                    · have k41 : ((x0 + x6 + 40000 : Int) ≤ u71) := Zleqt h12 h125 g41
                                                                                      clear g41
                                                                                      obtain ⟨u72, u72e⟩ : ∃ m : Int, max (u67) ((-1) * q60 + q9 + r58 + x0 + x6 + 40001) = m := ⟨_, rfl⟩
                                                                                      have h126 : Is ρ zg126 (u72) := Zmx h117 h110 (by omega)
                                                                                      refine ⟨fun g42 => ?_, fun g42 => ?_⟩
                                                                                      · have k42 : ((u72 : Int) ≤ q9 + x0 + x5 + x6 + 40001) := Zleqt h126 h92 g42
                                                                                        clear g42
                                                                                        have h34 : Is ρ zg34 (100 * m5 + 100 * m8 + 999) := Zadd h16 (Zc 999) (by omega) (by omega)
                                                                                        obtain ⟨q73, q73e⟩ : ∃ q : Int, Hd ((100 * m5 + 100 * m8 + 999) / 1000 = q) := ⟨_, ⟨rfl⟩⟩
                                                                                        obtain ⟨r74, r74e⟩ : ∃ q : Int, Hd ((100 * m5 + 100 * m8 + 999) % 1000 = q) := ⟨_, ⟨rfl⟩⟩
                                                                                        have q731 : 100 * m5 + 100 * m8 + 999 = 1000 * q73 + r74 := by have i1 := q73e.out; have i2 := r74e.out; omega
                                                                                        have q732 : 0 ≤ r74 ∧ r74 ≤ 999 ∧ 0 ≤ q73 ∧ q73 ≤ 2499 := by have i1 := q73e.out; have i2 := r74e.out; omega
                                                                                        have h35 : Is ρ zg35 (q73) := Zquop h34 (Zc 1000) (by omega) (by omega) q73e.out
                                                                                        have h36 : Is ρ zg36 (q73 + x0 + x6 + 40000) := Zadd h12 h35 (by omega) (by omega)
                                                                                        have h37 : Is ρ zg37 (q73 + x0 + x5 + x6 + 40000) := Zadd h36 h11 (by omega) (by omega)
                                                                                        refine ⟨fun g43 => ?_, fun g43 => ?_⟩
                                                                                        · have k43 : ((q9 + x0 + x5 + x6 + 40001 : Int) = q73 + x0 + x5 + x6 + 40000) := Zeqlt h92 h37 g43
                                                                                          clear g43
                                                                                          exact rfl
                                                                                        · have k43 : ¬ (((q9 + x0 + x5 + x6 + 40001 : Int) = q73 + x0 + x5 + x6 + 40000)) := Zeqlf h92 h37 g43
                                                                                          clear g43
                                                                                          omega
                                                                                      · have k42 : ¬ (((u72 : Int) ≤ q9 + x0 + x5 + x6 + 40001)) := Zleqf h126 h92 g42
                                                                                        clear g42
                                                                                        omega
                                                                                    · have k41 : ¬ (((x0 + x6 + 40000 : Int) ≤ u71)) := Zleqf h12 h125 g41
                                                                                      clear g41
                                                                                      omega
                                                                                  · have k40 : ¬ (((0 : Int) ≤ u70)) := Zleqf (Zc 0) h124 g40
                                                                                    clear g40
                                                                                    omega
                                                                                · have k39 : ¬ ((((-1) * r68 : Int) ≤ 0)) := Zleqf h121 (Zc 0) g39
                                                                                  clear g39
                                                                                  omega
                                                                            · have k37 : ¬ (((0 : Int) ≤ u67 + (-1) * x0 + (-1) * x6 + (-40000))) := Zleqf (Zc 0) h118 g37
                                                                              clear g37
                                                                              omega
                                                                          · have k36 : ¬ (((u67 : Int) ≤ (-1) * q60 + q9 + r58 + x0 + x6 + 40001)) := Zleqf h117 h110 g36
                                                                            clear g36
                                                                            omega
                                                                        · have k35 : ¬ (((u65 : Int) ≤ u66)) := Zleqf h113 h115 g35
                                                                          clear g35
                                                                          omega
                                                                      · have k34 : ¬ (((u67 : Int) ≤ (-1) * q63 + q9 + r58 + x0 + x6 + 40001)) := Zleqf h117 h111 g34
                                                                        clear g34
                                                                        omega
                                                                    · have k33 : ¬ (((q9 + r58 + x0 + x6 + 40001 : Int) ≤ u66)) := Zleqf h99 h115 g33
                                                                      clear g33
                                                                      omega
                                                                  · have k32 : ¬ (((u65 : Int) ≤ q9 + r58 + x0 + x6 + 40001)) := Zleqf h113 h98 g32
                                                                    clear g32
                                                                    omega
                                                                · have k31 : ¬ ((((-1) * q60 + q9 + r58 + x0 + x6 + 40001 : Int) ≤ (-1) * q60 + q9 + r58 + x0 + x6 + 40001)) := Zleqf h109 h110 g31
                                                                  clear g31
                                                                  omega
                                                              · have k30 : ¬ (((r64 : Int) ≤ 0)) := Zleqf h48 (Zc 0) g30
                                                                clear g30
                                                                have h99 : Is ρ zg99 (q9 + r58 + x0 + x6 + 40001) := Zmx h97 h97 (by omega)
                                                                have h49 : Is ρ zg49 ((-1) * q60) := Zquon h45 (Zc 1000) (by omega) (by omega) (by have i1 := q60e.out; have i2 := r61e.out; omega)
                                                                have h50 : Is ρ zg50 (q60) := Zsub (Zc 0) h49 (by omega) (by omega)
                                                                have h109 : Is ρ zg109 ((-1) * q60 + q9 + r58 + x0 + x6 + 40001) := Zsub h99 h50 (by omega) (by omega)
                                                                have h110 : Is ρ zg110 ((-1) * q60 + q9 + r58 + x0 + x6 + 40001) := Zmn h109 h109 (by omega)
                                                                refine ⟨fun g31 => ?_, fun g31 => ?_⟩
                                                                · have k31 : (((-1) * q60 + q9 + r58 + x0 + x6 + 40001 : Int) ≤ (-1) * q60 + q9 + r58 + x0 + x6 + 40001) := Zleqt h109 h110 g31
                                                                  clear g31
                                                                  clear k31
                                                                  have h98 : Is ρ zg98 (q9 + r58 + x0 + x6 + 40001) := Zmn h97 h97 (by omega)
                                                                  have h53 : Is ρ zg53 (q63) := Zquop h47 (Zc 1000) (by omega) (by omega) q63e.out
                                                                  have h71 : Is ρ zg71 (q63 + 1) := Zadd h53 (Zc 1) (by omega) (by omega)
                                                                  have h127 : Is ρ zg127 ((-1) * q63 + q9 + r58 + x0 + x6 + 40000) := Zsub h98 h71 (by omega) (by omega)
                                                                  have h128 : Is ρ zg128 (q60 + (-1) * q63 + q9 + r58 + x0 + x6 + 40000) := Zadd h127 h50 (by omega) (by omega)
                                                                  obtain ⟨u75, u75e⟩ : ∃ m : Int, max (q9 + r58 + x0 + x6 + 40001) (q60 + (-1) * q63 + q9 + r58 + x0 + x6 + 40000) = m := ⟨_, rfl⟩
                                                                  have h129 : Is ρ zg129 (u75) := Zmx h98 h128 (by omega)
                                                                  refine ⟨fun g32 => ?_, fun g32 => ?_⟩
                                                                  · have k32 : ((u75 : Int) ≤ q9 + r58 + x0 + x6 + 40001) := Zleqt h129 h98 g32
                                                                    clear g32
                                                                    have h75 : Is ρ zg75 ((-1) * q63 + (-1)) := Zsub (Zc 0) h71 (by omega) (by omega)
                                                                    have h130 : Is ρ zg130 ((-1) * q60 + q63 + q9 + r58 + x0 + x6 + 40002) := Zsub h110 h75 (by omega) (by omega)
                                                                    obtain ⟨u76, u76e⟩ : ∃ m : Int, min (q9 + r58 + x0 + x6 + 40001) ((-1) * q60 + q63 + q9 + r58 + x0 + x6 + 40002) = m := ⟨_, rfl⟩
                                                                    have h131 : Is ρ zg131 (u76) := Zmn h99 h130 (by omega)
                                                                    refine ⟨fun g33 => ?_, fun g33 => ?_⟩
                                                                    · have k33 : ((q9 + r58 + x0 + x6 + 40001 : Int) ≤ u76) := Zleqt h99 h131 g33
                                                                      clear g33
                                                                      have h132 : Is ρ zg132 ((-1) * q63 + u75 + (-1)) := Zadd h129 h75 (by omega) (by omega)
                                                                      obtain ⟨u77, u77e⟩ : ∃ m : Int, max ((-1) * q63 + q9 + r58 + x0 + x6 + 40000) ((-1) * q63 + u75 + (-1)) = m := ⟨_, rfl⟩
                                                                      have h133 : Is ρ zg133 (u77) := Zmx h127 h132 (by omega)
                                                                      refine ⟨fun g34 => ?_, fun g34 => ?_⟩
                                                                      · have k34 : ((u77 : Int) ≤ (-1) * q63 + q9 + r58 + x0 + x6 + 40000) := Zleqt h133 h127 g34
                                                                        clear g34
                                                                        refine ⟨fun g35 => ?_, fun g35 => ?_⟩
                                                                        · have k35 : ((u75 : Int) ≤ u76) := Zleqt h129 h131 g35
                                                                          clear g35
                                                                          refine ⟨fun g36 => ?_, fun g36 => ?_⟩
                                                                          · have k36 : ((u77 : Int) ≤ (-1) * q60 + q9 + r58 + x0 + x6 + 40001) := Zleqt h133 h110 g36
                                                                            clear g36
                                                                            have h134 : Is ρ zg134 (u77 + (-1) * x0 + (-1) * x6 + (-40000)) := Zsub h133 h12 (by omega) (by omega)
                                                                            refine ⟨fun g37 => ?_, fun g37 => ?_⟩
                                                                            · have k37 : ((0 : Int) ≤ u77 + (-1) * x0 + (-1) * x6 + (-40000)) := Zleqt (Zc 0) h134 g37
                                                                              clear g37
                                                                              refine ⟨fun g38 => ?_, fun g38 => ?_⟩
                                                                              · have k38 : ((r2 + r4 : Int) = 0) := Zeqlt h8 (Zc 0) g38
                                                                                clear g38
                                                                                have m5z : m5 = 0 := (by have i1 : r2 = 0 := (by omega); rw [← m5e.out, i1]; simp)
                                                                                have m8z : m8 = 0 := (by have i1 : r4 = 0 := (by omega); rw [← m8e.out, i1]; simp)
                                                                                have m59z : m59 = 0 := (by have i1 : r2 = 0 := (by omega); rw [← m59e.out, i1]; simp)
                                                                                have m62z : m62 = 0 := (by have i1 : r4 = 0 := (by omega); rw [← m62e.out, i1]; simp)
                                                                                omega
                                                                              · have k38 : ¬ (((r2 + r4 : Int) = 0)) := Zeqlf h8 (Zc 0) g38
                                                                                clear g38
                                                                                have h135 : Is ρ zg135 (1000 * u77 + (-1000) * x0 + (-1000) * x6 + (-40000000)) := Zmul (Zc 1000) h134 (by omega) (by omega)
                                                                                have h136 : Is ρ zg136 ((-1000) * u77 + 1000 * x0 + 1000 * x6 + 40000000) := Zsub (Zc 0) h135 (by omega) (by omega)
                                                                                obtain ⟨r78, r78e⟩ : ∃ q : Int, Hd ((1000 * u77 + (-1000) * x0 + (-1000) * x6 + (-40000000)) % (r2 + r4) = q) := ⟨_, ⟨rfl⟩⟩
                                                                                have r781 : 0 ≤ r78 ∧ r78 ≤ 137034000 ∧ r78 ≤ r2 + r4 - 1 := r78e.out ▸ rem_bd (by omega) (by omega) (by omega)
                                                                                have h137 : Is ρ zg137 ((-1) * r78) := Zremn h136 h8 (by omega) (by rw [show -((-1000) * u77 + 1000 * x0 + 1000 * x6 + 40000000) = 1000 * u77 + (-1000) * x0 + (-1000) * x6 + (-40000000) by omega, r78e.out]; omega)
                                                                                refine ⟨fun g39 => ?_, fun g39 => ?_⟩
                                                                                · have k39 : (((-1) * r78 : Int) ≤ 0) := Zleqt h137 (Zc 0) g39
                                                                                  clear g39
                                                                                  clear k39
                                                                                  obtain ⟨q79, q79e⟩ : ∃ q : Int, Hd ((1000 * u77 + (-1000) * x0 + (-1000) * x6 + (-40000000)) / (r2 + r4) = q) := ⟨_, ⟨rfl⟩⟩
                                                                                  have q791 : 0 ≤ q79 ∧ q79 ≤ 137034000 := q79e.out ▸ quo_bd (by omega) (by omega) (by omega)
                                                                                  have h138 : Is ρ zg138 ((-1) * q79) := Zquon h136 h8 (by omega) (by omega) (by rw [show -((-1000) * u77 + 1000 * x0 + 1000 * x6 + 40000000) = 1000 * u77 + (-1000) * x0 + (-1000) * x6 + (-40000000) by omega, q79e.out]; omega)
                                                                                  have h139 : Is ρ zg139 (q79) := Zsub (Zc 0) h138 (by omega) (by omega)
                                                                                  obtain ⟨u80, u80e⟩ : ∃ m : Int, min (q79) (100000) = m := ⟨_, rfl⟩
                                                                                  have h140 : Is ρ zg140 (u80) := Zmn h139 (Zc 100000) (by omega)
                                                                                  refine ⟨fun g40 => ?_, fun g40 => ?_⟩
                                                                                  · have k40 : ((0 : Int) ≤ u80) := Zleqt (Zc 0) h140 g40
                                                                                    clear g40
                                                                                    clear k40
                                                                                    obtain ⟨u81, u81e⟩ : ∃ m : Int, min (u77) ((-1) * q60 + q9 + r58 + x0 + x6 + 40001) = m := ⟨_, rfl⟩
                                                                                    have h141 : Is ρ zg141 (u81) := Zmn h133 h110 (by omega)
                                                                                    refine ⟨fun g41 => ?_, fun g41 => ?_⟩
                                                                                    · have k41 : ((x0 + x6 + 40000 : Int) ≤ u81) := Zleqt h12 h141 g41
                                                                                      clear g41
                                                                                      obtain ⟨u82, u82e⟩ : ∃ m : Int, max (u77) ((-1) * q60 + q9 + r58 + x0 + x6 + 40001) = m := ⟨_, rfl⟩
                                                                                      have h142 : Is ρ zg142 (u82) := Zmx h133 h110 (by omega)
                                                                                      refine ⟨fun g42 => ?_, fun g42 => ?_⟩
                                                                                      · have k42 : ((u82 : Int) ≤ q9 + x0 + x5 + x6 + 40001) := Zleqt h142 h92 g42
                                                                                        clear g42
                                                                                        have h34 : Is ρ zg34 (100 * m5 + 100 * m8 + 999) := Zadd h16 (Zc 999) (by omega) (by omega)
                                                                                        obtain ⟨q83, q83e⟩ : ∃ q : Int, Hd ((100 * m5 + 100 * m8 + 999) / 1000 = q) := ⟨_, ⟨rfl⟩⟩
                                                                                        obtain ⟨r84, r84e⟩ : ∃ q : Int, Hd ((100 * m5 + 100 * m8 + 999) % 1000 = q) := ⟨_, ⟨rfl⟩⟩
                                                                                        have q831 : 100 * m5 + 100 * m8 + 999 = 1000 * q83 + r84 := by have i1 := q83e.out; have i2 := r84e.out; omega
                                                                                        have q832 : 0 ≤ r84 ∧ r84 ≤ 999 ∧ 0 ≤ q83 ∧ q83 ≤ 2499 := by have i1 := q83e.out; have i2 := r84e.out; omega
                                                                                        have h35 : Is ρ zg35 (q83) := Zquop h34 (Zc 1000) (by omega) (by omega) q83e.out
                                                                                        have h36 : Is ρ zg36 (q83 + x0 + x6 + 40000) := Zadd h12 h35 (by omega) (by omega)
                                                                                        have h37 : Is ρ zg37 (q83 + x0 + x5 + x6 + 40000) := Zadd h36 h11 (by omega) (by omega)
                                                                                        refine ⟨fun g43 => ?_, fun g43 => ?_⟩
                                                                                        · have k43 : ((q9 + x0 + x5 + x6 + 40001 : Int) = q83 + x0 + x5 + x6 + 40000) := Zeqlt h92 h37 g43
                                                                                          clear g43
                                                                                          exact rfl
                                                                                        · have k43 : ¬ (((q9 + x0 + x5 + x6 + 40001 : Int) = q83 + x0 + x5 + x6 + 40000)) := Zeqlf h92 h37 g43
                                                                                          clear g43
                                                                                          omega
                                                                                      · have k42 : ¬ (((u82 : Int) ≤ q9 + x0 + x5 + x6 + 40001)) := Zleqf h142 h92 g42
                                                                                        clear g42
                                                                                        omega
                                                                                    · have k41 : ¬ (((x0 + x6 + 40000 : Int) ≤ u81)) := Zleqf h12 h141 g41
                                                                                      clear g41
                                                                                      omega
                                                                                  · have k40 : ¬ (((0 : Int) ≤ u80)) := Zleqf (Zc 0) h140 g40
                                                                                    clear g40
                                                                                    omega
                                                                                · have k39 : ¬ ((((-1) * r78 : Int) ≤ 0)) := Zleqf h137 (Zc 0) g39
                                                                                  clear g39
                                                                                  omega
                                                                            · have k37 : ¬ (((0 : Int) ≤ u77 + (-1) * x0 + (-1) * x6 + (-40000))) := Zleqf (Zc 0) h134 g37
                                                                              clear g37
                                                                              omega
                                                                          · have k36 : ¬ (((u77 : Int) ≤ (-1) * q60 + q9 + r58 + x0 + x6 + 40001)) := Zleqf h133 h110 g36
                                                                            clear g36
                                                                            omega
                                                                        · have k35 : ¬ (((u75 : Int) ≤ u76)) := Zleqf h129 h131 g35
                                                                          clear g35
                                                                          omega
                                                                      · have k34 : ¬ (((u77 : Int) ≤ (-1) * q63 + q9 + r58 + x0 + x6 + 40000)) := Zleqf h133 h127 g34
                                                                        clear g34
                                                                        omega
                                                                    · have k33 : ¬ (((q9 + r58 + x0 + x6 + 40001 : Int) ≤ u76)) := Zleqf h99 h131 g33
                                                                      clear g33
                                                                      omega
                                                                  · have k32 : ¬ (((u75 : Int) ≤ q9 + r58 + x0 + x6 + 40001)) := Zleqf h129 h98 g32
                                                                    clear g32
                                                                    omega
                                                                · have k31 : ¬ ((((-1) * q60 + q9 + r58 + x0 + x6 + 40001 : Int) ≤ (-1) * q60 + q9 + r58 + x0 + x6 + 40001)) := Zleqf h109 h110 g31
                                                                  clear g31
                                                                  omega
                                                            · have k29 : ¬ ((((-1) * r61 : Int) ≤ 0)) := Zleqf h46 (Zc 0) g29
                                                              clear g29
                                                              omega
                                                          · have k28 : ¬ (((r51 : Int) ≤ 100000)) := Zleqf h26 (Zc 100000) g28
                                                            clear g28
                                                            omega
                                                        · have k27 : ¬ (((1 : Int) ≤ r51)) := Zleqf (Zc 1) h26 g27
                                                          clear g27
                                                          omega
                                                      · have k26 : ¬ (((q9 + r58 + x0 + x6 + 40001 : Int) ≤ 10000000)) := Zleqf h97 (Zc 10000000) g26
                                                        clear g26
                                                        omega
                                                    · have k25 : ¬ (((0 : Int) ≤ q9 + r58 + x0 + x6 + 40001)) := Zleqf (Zc 0) h97 g25
                                                      clear g25
                                                      omega
                                            · have k21 : ¬ (((1 : Int) ≤ x0 + x6 + 40000)) := Zleqf (Zc 1) h12 g21
                                              clear g21
                                              omega
                                          · have k20 : ¬ (((q9 + x0 + x5 + x6 + 40001 : Int) ≤ 10000000)) := Zleqf h91 (Zc 10000000) g20
                                            clear g20
                                            omega
                                        · have k19 : ¬ (((q9 + x0 + x6 + 40001 : Int) ≤ q9 + x0 + x5 + x6 + 40001)) := Zleqf h90 h91 g19
                                          clear g19
                                          omega
                                      · have k18 : ¬ (((0 : Int) ≤ q9 + x0 + x6 + 40001)) := Zleqf (Zc 0) h90 g18
                                        clear g18
                                        omega
                                  · have k16 : ¬ ((((-1) * r7 : Int) ≤ 0)) := Zleqf h15 (Zc 0) g16
                                    clear g16
                                    omega
                                · have k15 : ¬ (((x0 + x6 + 40000 : Int) ≤ 10000000)) := Zleqf h12 (Zc 10000000) g15
                                  clear g15
                                  omega
                              · have k14 : ¬ (((0 : Int) ≤ x0 + x6 + 40000)) := Zleqf (Zc 0) h12 g14
                                clear g14
                                omega
                            · have k13 : ¬ (((x5 : Int) ≤ 100000)) := Zleqf h11 (Zc 100000) g13
                              clear g13
                              omega
                          · have k12 : ¬ (((0 : Int) ≤ x5)) := Zleqf (Zc 0) h11 g12
                            clear g12
                            omega
                        · have k11 : ¬ (((100 * x4 : Int) ≤ 100000)) := Zleqf h10 (Zc 100000) g11
                          clear g11
                          omega
                      · have k10 : ¬ (((0 : Int) ≤ 100 * x4)) := Zleqf (Zc 0) h10 g10
                        clear g10
                        omega
                    · have k9 : ¬ (((r2 + r4 : Int) ≤ 10000)) := Zleqf h8 (Zc 10000) g9
                      clear g9
                      omega
                  · have k8 : ¬ (((r2 : Int) ≤ r2 + r4)) := Zleqf h5 h8 g8
                    clear g8
                    omega
                · have k7 : ¬ (((0 : Int) ≤ r2)) := Zleqf (Zc 0) h5 g7
                  clear g7
                  omega
              · have k6 : ¬ (((1 : Int) ≤ x6 + 40000)) := Zleqf (Zc 1) h3 g6
                clear g6
                omega
          · have k4 : ¬ (((x6 + 40000 : Int) ≤ 10000000)) := Zleqf h3 (Zc 10000000) g4
            clear g4
            omega
        · have k3 : ¬ (((x0 : Int) ≤ 100000)) := Zleqf h1 (Zc 100000) g3
          clear g3
          omega
      · have k2 : ¬ ((((-100000) : Int) ≤ x0)) := Zleqf (Zc (-100000)) h1 g2
        clear g2
        omega
    · have k1 : ¬ (((x1 : Int) ≤ 100000)) := Zleqf h0 (Zc 100000) g1
      clear g1
      omega
  · have k0 : ¬ (((0 : Int) ≤ x1)) := Zleqf (Zc 0) h0 g0
    clear g0
    omega
end Go.Proofs.Ytlffofemajfdjaa.Cx
