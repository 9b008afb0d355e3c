/- The tests of a law and their arithmetic. Made by tools/cxgoal.py. -/
import Derived.Test.YtkmhmmibdfalpaaGreatWSeatsT
set_option linter.unusedSimpArgs false
set_option linter.unusedVariables false
set_option maxRecDepth 100000
set_option maxHeartbeats 4000000
namespace Go.Proofs.YtkmhmmibdfalpaaGreat.Cx
open Go Go.RowKit

theorem ws_goal {ρ : Env} {x0 x1 x2 x3 x4 x5 x6 x7 x8 x9 : Int} (e0 : Is ρ (.v 0) x0) (r0 : -9223372036854775808 ≤ x0 ∧ x0 ≤ 9223372036854775807) (e1 : Is ρ (.v 1) x1) (r1 : -9223372036854775808 ≤ x1 ∧ x1 ≤ 9223372036854775807) (e2 : Is ρ (.v 2) x2) (r2 : -9223372036854775808 ≤ x2 ∧ x2 ≤ 9223372036854775807) (e3 : Is ρ (.v 3) x3) (r3 : -9223372036854775808 ≤ x3 ∧ x3 ≤ 9223372036854775807) (e4 : Is ρ (.v 4) x4) (r4 : -9223372036854775808 ≤ x4 ∧ x4 ≤ 9223372036854775807) (e5 : Is ρ (.v 5) x5) (r5 : -9223372036854775808 ≤ x5 ∧ x5 ≤ 9223372036854775807) (e6 : Is ρ (.v 6) x6) (r6 : -9223372036854775808 ≤ x6 ∧ x6 ≤ 9223372036854775807) (e7 : Is ρ (.v 7) x7) (r7 : -9223372036854775808 ≤ x7 ∧ x7 ≤ 9223372036854775807) (e8 : Is ρ (.v 8) x8) (r8 : -9223372036854775808 ≤ x8 ∧ x8 ≤ 9223372036854775807) (e9 : Is ρ (.v 9) x9) (r9 : -9223372036854775808 ≤ x9 ∧ x9 ≤ 9223372036854775807)  : wsTree.goal ρ := by
  refine ⟨fun g0 => ?_, fun g0 => ?_⟩
  · have k0 : ((100 : Int) ≤ x0) := Zleqt (Zc 100) e0 g0
    clear g0
    refine ⟨fun g1 => ?_, fun g1 => ?_⟩
    · have k1 : ((x0 : Int) ≤ 200000) := Zleqt e0 (Zc 200000) g1
      clear g1
      refine ⟨fun g2 => ?_, fun g2 => ?_⟩
      · have k2 : ((0 : Int) ≤ x1) := Zleqt (Zc 0) e1 g2
        clear g2
        refine ⟨fun g3 => ?_, fun g3 => ?_⟩
        · have k3 : ((x1 : Int) ≤ 3000) := Zleqt e1 (Zc 3000) g3
          clear g3
          refine ⟨fun g4 => ?_, fun g4 => ?_⟩
          · have k4 : ((0 : Int) ≤ x2) := Zleqt (Zc 0) e2 g4
            clear g4
            refine ⟨fun g5 => ?_, fun g5 => ?_⟩
            · have k5 : ((x2 : Int) ≤ 3000) := Zleqt e2 (Zc 3000) g5
              clear g5
              refine ⟨fun g6 => ?_, fun g6 => ?_⟩
              · have k6 : ((0 : Int) ≤ x3) := Zleqt (Zc 0) e3 g6
                clear g6
                refine ⟨fun g7 => ?_, fun g7 => ?_⟩
                · have k7 : ((x3 : Int) ≤ 200000) := Zleqt e3 (Zc 200000) g7
                  clear g7
                  refine ⟨fun g8 => ?_, fun g8 => ?_⟩
                  · have k8 : ((0 : Int) ≤ x4) := Zleqt (Zc 0) e4 g8
                    clear g8
                    refine ⟨fun g9 => ?_, fun g9 => ?_⟩
                    · have k9 : ((x4 : Int) ≤ 200000) := Zleqt e4 (Zc 200000) g9
                      clear g9
                      refine ⟨fun g10 => ?_, fun g10 => ?_⟩
                      · have k10 : ((1 : Int) ≤ x5) := Zleqt (Zc 1) e5 g10
                        clear g10
                        refine ⟨fun g11 => ?_, fun g11 => ?_⟩
                        · have k11 : ((x5 : Int) ≤ 8) := Zleqt e5 (Zc 8) g11
                          clear g11
                          refine ⟨fun g12 => ?_, fun g12 => ?_⟩
                          · have k12 : ((0 : Int) ≤ x6) := Zleqt (Zc 0) e6 g12
                            clear g12
                            refine ⟨fun g13 => ?_, fun g13 => ?_⟩
                            · have k13 : ((x6 : Int) ≤ 100) := Zleqt e6 (Zc 100) g13
                              clear g13
                              have h0 : Is ρ ws0 (x3 + x4) := Zadd e3 e4 (by omega) (by omega)
                              refine ⟨fun g14 => ?_, fun g14 => ?_⟩
                              · have k14 : ((1 : Int) ≤ x3 + x4) := Zleqt (Zc 1) h0 g14
                                clear g14
                                rcases Int.le_total (x3) (x4) with s1 | s1
                                · have h1 : Is ρ ws1 (x4) := Zmx e3 e4 (by omega)
                                  have h2 : Is ρ ws2 (x1 + x2) := Zadd e1 e2 (by omega) (by omega)
                                  obtain ⟨m1, m1e⟩ : ∃ m : Int, Hd (x1 * x4 = m) := ⟨_, ⟨rfl⟩⟩
                                  have m11 : 0 ≤ m1 := m1e.out ▸ Int.mul_nonneg (by omega) (by omega)
                                  have m12 : m1 ≤ 600000000 := m1e.out ▸ (Int.mul_le_mul (by omega : x1 ≤ 3000) (by omega : x4 ≤ 200000) (by omega) (by omega) : x1 * x4 ≤ 3000 * 200000)
                                  obtain ⟨m2, m2e⟩ : ∃ m : Int, Hd (x2 * x4 = m) := ⟨_, ⟨rfl⟩⟩
                                  have m21 : 0 ≤ m2 := m2e.out ▸ Int.mul_nonneg (by omega) (by omega)
                                  have m22 : m2 ≤ 600000000 := m2e.out ▸ (Int.mul_le_mul (by omega : x2 ≤ 3000) (by omega : x4 ≤ 200000) (by omega) (by omega) : x2 * x4 ≤ 3000 * 200000)
                                  have h3 : Is ρ ws3 (m1 + m2) := Zmul h1 h2 (by omega) ((by simp only [Int.add_mul, Int.mul_add, Int.mul_assoc, Int.mul_comm, Int.mul_left_comm] <;> omega : (x4) * (x1 + x2) = x1 * x4 + x2 * x4).trans (by (try simp only [m1e.out, m2e.out]) <;> omega))
                                  have h4 : Is ρ ws4 (500 * x0) := Zmul (Zc 500) e0 (by omega) (by omega)
                                  refine ⟨fun g15 => ?_, fun g15 => ?_⟩
                                  · have k15 : ((m1 + m2 : Int) ≤ 500 * x0) := Zleqt h3 h4 g15
                                    clear g15
                                    refine ⟨fun g16 => ?_, fun g16 => ?_⟩
                                    · have k16 : ((1001 : Int) ≤ x7) := Zleqt (Zc 1001) e7 g16
                                      clear g16
                                      refine ⟨fun g17 => ?_, fun g17 => ?_⟩
                                      · have k17 : ((x7 : Int) ≤ 20000) := Zleqt e7 (Zc 20000) g17
                                        clear g17
                                        refine ⟨fun g18 => ?_, fun g18 => ?_⟩
                                        · have k18 : ((0 : Int) ≤ x8) := Zleqt (Zc 0) e8 g18
                                          clear g18
                                          refine ⟨fun g19 => ?_, fun g19 => ?_⟩
                                          · have k19 : ((x8 : Int) ≤ 20000) := Zleqt e8 (Zc 20000) g19
                                            clear g19
                                            refine ⟨fun g20 => ?_, fun g20 => ?_⟩
                                            · have k20 : ((1 : Int) ≤ x9) := Zleqt (Zc 1) e9 g20
                                              clear g20
                                              refine ⟨fun g21 => ?_, fun g21 => ?_⟩
                                              · have k21 : ((x9 : Int) ≤ 100000) := Zleqt e9 (Zc 100000) g21
                                                clear g21
                                                have h5 : Is ρ ws5 (x7 + (-1000)) := Zsub e7 (Zc 1000) (by omega) (by omega)
                                                obtain ⟨m3, m3e⟩ : ∃ m : Int, Hd (x7 * x9 = m) := ⟨_, ⟨rfl⟩⟩
                                                have m31 : 0 ≤ m3 := m3e.out ▸ Int.mul_nonneg (by omega) (by omega)
                                                have m32 : m3 ≤ 2000000000 := m3e.out ▸ (Int.mul_le_mul (by omega : x7 ≤ 20000) (by omega : x9 ≤ 100000) (by omega) (by omega) : x7 * x9 ≤ 20000 * 100000)
                                                have h6 : Is ρ ws6 (m3 + (-1000) * x9) := Zmul h5 e9 (by omega) ((by simp only [Int.add_mul, Int.mul_add, Int.mul_assoc, Int.mul_comm, Int.mul_left_comm] <;> omega : (x7 + (-1000)) * (x9) = x7 * x9 + (-1000) * x9).trans (by (try simp only [m3e.out]) <;> omega))
                                                obtain ⟨m4, m4e⟩ : ∃ m : Int, Hd (x0 * x8 = m) := ⟨_, ⟨rfl⟩⟩
                                                have m41 : 0 ≤ m4 := m4e.out ▸ Int.mul_nonneg (by omega) (by omega)
                                                have m42 : m4 ≤ 4000000000 := m4e.out ▸ (Int.mul_le_mul (by omega : x0 ≤ 200000) (by omega : x8 ≤ 20000) (by omega) (by omega) : x0 * x8 ≤ 200000 * 20000)
                                                have h7 : Is ρ ws7 (m4) := Zmul e8 e0 (by omega) ((by simp only [Int.add_mul, Int.mul_add, Int.mul_assoc, Int.mul_comm, Int.mul_left_comm] <;> omega : (x8) * (x0) = x0 * x8).trans (by (try simp only [m4e.out]) <;> omega))
                                                have h8 : Is ρ ws8 (m3 + (-1) * m4 + (-1000) * x9) := Zsub h6 h7 (by omega) (by omega)
                                                obtain ⟨m5, m5e⟩ : ∃ m : Int, Hd (m3 * x7 = m) := ⟨_, ⟨rfl⟩⟩
                                                have m51 : 0 ≤ m5 := m5e.out ▸ Int.mul_nonneg (by omega) (by omega)
                                                have m52 : m5 ≤ 40000000000000 := m5e.out ▸ (Int.mul_le_mul (by omega : m3 ≤ 2000000000) (by omega : x7 ≤ 20000) (by omega) (by omega) : m3 * x7 ≤ 2000000000 * 20000)
                                                obtain ⟨m6, m6e⟩ : ∃ m : Int, Hd (m4 * x7 = m) := ⟨_, ⟨rfl⟩⟩
                                                have m61 : 0 ≤ m6 := m6e.out ▸ Int.mul_nonneg (by omega) (by omega)
                                                have m62 : m6 ≤ 80000000000000 := m6e.out ▸ (Int.mul_le_mul (by omega : m4 ≤ 4000000000) (by omega : x7 ≤ 20000) (by omega) (by omega) : m4 * x7 ≤ 4000000000 * 20000)
                                                have h9 : Is ρ ws9 ((-2000) * m3 + 1000 * m4 + m5 + (-1) * m6 + 1000000 * x9) := Zmul h8 h5 (by omega) ((by simp only [Int.add_mul, Int.mul_add, Int.mul_assoc, Int.mul_comm, Int.mul_left_comm] <;> omega : (m3 + (-1) * m4 + (-1000) * x9) * (x7 + (-1000)) = m3 * x7 + (-1) * (m4 * x7) + (-1000) * (x7 * x9) + (-1000) * m3 + 1000 * m4 + 1000000 * x9).trans (by (try simp only [m5e.out, m6e.out, m3e.out]) <;> omega))
                                                have h10 : Is ρ ws10 (1000000 * x9) := Zmul (Zc 1000000) e9 (by omega) (by omega)
                                                have h11 : Is ρ ws11 ((-2000) * m3 + 1000 * m4 + m5 + (-1) * m6) := Zsub h9 h10 (by omega) (by omega)
                                                refine ⟨fun g22 => ?_, fun g22 => ?_⟩
                                                · have k22 : (((-9223372036854775807) : Int) ≤ (-2000) * m3 + 1000 * m4 + m5 + (-1) * m6) := Zleqt (Zc (-9223372036854775807)) h11 g22
                                                  clear g22
                                                  clear k22
                                                  refine ⟨fun g23 => ?_, fun g23 => ?_⟩
                                                  · have k23 : (((-2000) * m3 + 1000 * m4 + m5 + (-1) * m6 : Int) ≤ 9223372036854775807) := Zleqt h11 (Zc 9223372036854775807) g23
                                                    clear g23
                                                    clear k23
                                                    have h12 : Is ρ ws12 (2000 * x7 + (-2000000)) := Zmul (Zc 2000) h5 (by omega) (by omega)
                                                    refine ⟨fun g24 => ?_, fun g24 => ?_⟩
                                                    · have k24 : ((1 : Int) ≤ 2000 * x7 + (-2000000)) := Zleqt (Zc 1) h12 g24
                                                      clear g24
                                                      clear k24
                                                      refine ⟨fun g25 => ?_, fun g25 => ?_⟩
                                                      · have k25 : ((2000 * x7 + (-2000000) : Int) ≤ 9223372036854775807) := Zleqt h12 (Zc 9223372036854775807) g25
                                                        clear g25
                                                        clear k25
                                                        have h13 : Is ρ ws13 (1000 * x9) := Zmul (Zc 1000) e9 (by omega) (by omega)
                                                        have h14 : Is ρ ws14 (m3 + (-1) * m4) := Zadd h8 h13 (by omega) (by omega)
                                                        refine ⟨fun g26 => ?_, fun g26 => ?_⟩
                                                        · have k26 : (((-9223372036854775807) : Int) ≤ m3 + (-1) * m4) := Zleqt (Zc (-9223372036854775807)) h14 g26
                                                          clear g26
                                                          clear k26
                                                          refine ⟨fun g27 => ?_, fun g27 => ?_⟩
                                                          · have k27 : ((m3 + (-1) * m4 : Int) ≤ 9223372036854775807) := Zleqt h14 (Zc 9223372036854775807) g27
                                                            clear g27
                                                            clear k27
                                                            refine ⟨fun g28 => ?_, fun g28 => ?_⟩
                                                            · clear g28
                                                              refine ⟨fun g29 => ?_, fun g29 => ?_⟩
                                                              · clear g29
                                                                refine ⟨fun g30 => ?_, fun g30 => ?_⟩
                                                                · have k30 : ((x3 + x4 : Int) = 0) := Zeqlt h0 (Zc 0) g30
                                                                  clear g30
                                                                  have m1z : m1 = 0 := (by have i1 : x4 = 0 := (by omega); rw [← m1e.out, i1]; simp)
                                                                  have m2z : m2 = 0 := (by have i1 : x4 = 0 := (by omega); rw [← m2e.out, i1]; simp)
                                                                  omega
                                                                · have k30 : ¬ (((x3 + x4 : Int) = 0)) := Zeqlf h0 (Zc 0) g30
                                                                  clear g30
                                                                  have h21 : Is ρ ws21 (1000 * x0) := Zmul (Zc 1000) e0 (by omega) (by omega)
                                                                  have h22 : Is ρ ws22 (2 * x3) := Zmul (Zc 2) e3 (by omega) (by omega)
                                                                  obtain ⟨m7, m7e⟩ : ∃ m : Int, Hd (x1 * x3 = m) := ⟨_, ⟨rfl⟩⟩
                                                                  have m71 : 0 ≤ m7 := m7e.out ▸ Int.mul_nonneg (by omega) (by omega)
                                                                  have m72 : m7 ≤ 600000000 := m7e.out ▸ (Int.mul_le_mul (by omega : x1 ≤ 3000) (by omega : x3 ≤ 200000) (by omega) (by omega) : x1 * x3 ≤ 3000 * 200000)
                                                                  have m7o : m7 ≤ m1 := ((Int.mul_comm _ _).trans m7e.out) ▸ ((Int.mul_comm _ _).trans m1e.out) ▸ (Int.mul_le_mul_of_nonneg_right (by omega) (by omega) : x3 * x1 ≤ x4 * x1)
                                                                  obtain ⟨m8, m8e⟩ : ∃ m : Int, Hd (x2 * x3 = m) := ⟨_, ⟨rfl⟩⟩
                                                                  have m81 : 0 ≤ m8 := m8e.out ▸ Int.mul_nonneg (by omega) (by omega)
                                                                  have m82 : m8 ≤ 600000000 := m8e.out ▸ (Int.mul_le_mul (by omega : x2 ≤ 3000) (by omega : x3 ≤ 200000) (by omega) (by omega) : x2 * x3 ≤ 3000 * 200000)
                                                                  have m8o : m8 ≤ m2 := ((Int.mul_comm _ _).trans m8e.out) ▸ ((Int.mul_comm _ _).trans m2e.out) ▸ (Int.mul_le_mul_of_nonneg_right (by omega) (by omega) : x3 * x2 ≤ x4 * x2)
                                                                  have h23 : Is ρ ws23 (2 * m7 + 2 * m8) := Zmul h22 h2 (by omega) ((by simp only [Int.add_mul, Int.mul_add, Int.mul_assoc, Int.mul_comm, Int.mul_left_comm] <;> omega : (2 * x3) * (x1 + x2) = 2 * (x1 * x3) + 2 * (x2 * x3)).trans (by (try simp only [m7e.out, m8e.out]) <;> omega))
                                                                  have h24 : Is ρ ws24 ((-2) * m7 + (-2) * m8 + 1000 * x0) := Zsub h21 h23 (by omega) (by omega)
                                                                  refine ⟨fun g31 => ?_, fun g31 => ?_⟩
                                                                  · have k31 : ((0 : Int) ≤ (-2) * m7 + (-2) * m8 + 1000 * x0) := Zleqt (Zc 0) h24 g31
                                                                    clear g31
                                                                    have h15 : Is ρ ws15 ((-1) * x4) := Zsub (Zc 0) e4 (by omega) (by omega)
                                                                    have h25 : Is ρ ws25 ((-2) * x4) := Zmul (Zc 2) h15 (by omega) (by omega)
                                                                    have h26 : Is ρ ws26 ((-2) * m1 + (-2) * m2) := Zmul h25 h2 (by omega) ((by simp only [Int.add_mul, Int.mul_add, Int.mul_assoc, Int.mul_comm, Int.mul_left_comm] <;> omega : ((-2) * x4) * (x1 + x2) = (-2) * (x1 * x4) + (-2) * (x2 * x4)).trans (by (try simp only [m1e.out, m2e.out]) <;> omega))
                                                                    have h27 : Is ρ ws27 (2 * m1 + 2 * m2 + 1000 * x0) := Zsub h21 h26 (by omega) (by omega)
                                                                    have h28 : Is ρ ws28 (2000 * x0) := Zmul (Zc 2000) e0 (by omega) (by omega)
                                                                    refine ⟨fun g32 => ?_, fun g32 => ?_⟩
                                                                    · have k32 : ((2 * m1 + 2 * m2 + 1000 * x0 : Int) ≤ 2000 * x0) := Zleqt h27 h28 g32
                                                                      clear g32
                                                                      refine ⟨fun g33 => ?_, fun g33 => ?_⟩
                                                                      · clear g33
                                                                        exact rfl
                                                                      · clear g33
                                                                        exact rfl
                                                                    · have k32 : ¬ (((2 * m1 + 2 * m2 + 1000 * x0 : Int) ≤ 2000 * x0)) := Zleqf h27 h28 g32
                                                                      clear g32
                                                                      omega
                                                                  · have k31 : ¬ (((0 : Int) ≤ (-2) * m7 + (-2) * m8 + 1000 * x0)) := Zleqf (Zc 0) h24 g31
                                                                    clear g31
                                                                    omega
                                                              · clear g29
                                                                refine ⟨fun g30 => ?_, fun g30 => ?_⟩
                                                                · have k30 : ((x3 + x4 : Int) = 0) := Zeqlt h0 (Zc 0) g30
                                                                  clear g30
                                                                  have m1z : m1 = 0 := (by have i1 : x4 = 0 := (by omega); rw [← m1e.out, i1]; simp)
                                                                  have m2z : m2 = 0 := (by have i1 : x4 = 0 := (by omega); rw [← m2e.out, i1]; simp)
                                                                  omega
                                                                · have k30 : ¬ (((x3 + x4 : Int) = 0)) := Zeqlf h0 (Zc 0) g30
                                                                  clear g30
                                                                  have h21 : Is ρ ws21 (1000 * x0) := Zmul (Zc 1000) e0 (by omega) (by omega)
                                                                  have h22 : Is ρ ws22 (2 * x3) := Zmul (Zc 2) e3 (by omega) (by omega)
                                                                  obtain ⟨m9, m9e⟩ : ∃ m : Int, Hd (x1 * x3 = m) := ⟨_, ⟨rfl⟩⟩
                                                                  have m91 : 0 ≤ m9 := m9e.out ▸ Int.mul_nonneg (by omega) (by omega)
                                                                  have m92 : m9 ≤ 600000000 := m9e.out ▸ (Int.mul_le_mul (by omega : x1 ≤ 3000) (by omega : x3 ≤ 200000) (by omega) (by omega) : x1 * x3 ≤ 3000 * 200000)
                                                                  have m9o : m9 ≤ m1 := ((Int.mul_comm _ _).trans m9e.out) ▸ ((Int.mul_comm _ _).trans m1e.out) ▸ (Int.mul_le_mul_of_nonneg_right (by omega) (by omega) : x3 * x1 ≤ x4 * x1)
                                                                  obtain ⟨m10, m10e⟩ : ∃ m : Int, Hd (x2 * x3 = m) := ⟨_, ⟨rfl⟩⟩
                                                                  have m101 : 0 ≤ m10 := m10e.out ▸ Int.mul_nonneg (by omega) (by omega)
                                                                  have m102 : m10 ≤ 600000000 := m10e.out ▸ (Int.mul_le_mul (by omega : x2 ≤ 3000) (by omega : x3 ≤ 200000) (by omega) (by omega) : x2 * x3 ≤ 3000 * 200000)
                                                                  have m10o : m10 ≤ m2 := ((Int.mul_comm _ _).trans m10e.out) ▸ ((Int.mul_comm _ _).trans m2e.out) ▸ (Int.mul_le_mul_of_nonneg_right (by omega) (by omega) : x3 * x2 ≤ x4 * x2)
                                                                  have h23 : Is ρ ws23 (2 * m10 + 2 * m9) := Zmul h22 h2 (by omega) ((by simp only [Int.add_mul, Int.mul_add, Int.mul_assoc, Int.mul_comm, Int.mul_left_comm] <;> omega : (2 * x3) * (x1 + x2) = 2 * (x1 * x3) + 2 * (x2 * x3)).trans (by (try simp only [m9e.out, m10e.out]) <;> omega))
                                                                  have h24 : Is ρ ws24 ((-2) * m10 + (-2) * m9 + 1000 * x0) := Zsub h21 h23 (by omega) (by omega)
                                                                  refine ⟨fun g31 => ?_, fun g31 => ?_⟩
                                                                  · have k31 : ((0 : Int) ≤ (-2) * m10 + (-2) * m9 + 1000 * x0) := Zleqt (Zc 0) h24 g31
                                                                    clear g31
                                                                    have h15 : Is ρ ws15 ((-1) * x4) := Zsub (Zc 0) e4 (by omega) (by omega)
                                                                    have h25 : Is ρ ws25 ((-2) * x4) := Zmul (Zc 2) h15 (by omega) (by omega)
                                                                    have h26 : Is ρ ws26 ((-2) * m1 + (-2) * m2) := Zmul h25 h2 (by omega) ((by simp only [Int.add_mul, Int.mul_add, Int.mul_assoc, Int.mul_comm, Int.mul_left_comm] <;> omega : ((-2) * x4) * (x1 + x2) = (-2) * (x1 * x4) + (-2) * (x2 * x4)).trans (by (try simp only [m1e.out, m2e.out]) <;> omega))
                                                                    have h27 : Is ρ ws27 (2 * m1 + 2 * m2 + 1000 * x0) := Zsub h21 h26 (by omega) (by omega)
                                                                    have h28 : Is ρ ws28 (2000 * x0) := Zmul (Zc 2000) e0 (by omega) (by omega)
                                                                    refine ⟨fun g32 => ?_, fun g32 => ?_⟩
                                                                    · have k32 : ((2 * m1 + 2 * m2 + 1000 * x0 : Int) ≤ 2000 * x0) := Zleqt h27 h28 g32
                                                                      clear g32
                                                                      exact rfl
                                                                    · have k32 : ¬ (((2 * m1 + 2 * m2 + 1000 * x0 : Int) ≤ 2000 * x0)) := Zleqf h27 h28 g32
                                                                      clear g32
                                                                      omega
                                                                  · have k31 : ¬ (((0 : Int) ≤ (-2) * m10 + (-2) * m9 + 1000 * x0)) := Zleqf (Zc 0) h24 g31
                                                                    clear g31
                                                                    omega
                                                            · clear g28
                                                              refine ⟨fun g29 => ?_, fun g29 => ?_⟩
                                                              · have k29 : ((x3 + x4 : Int) = 0) := Zeqlt h0 (Zc 0) g29
                                                                clear g29
                                                                have m1z : m1 = 0 := (by have i1 : x4 = 0 := (by omega); rw [← m1e.out, i1]; simp)
                                                                have m2z : m2 = 0 := (by have i1 : x4 = 0 := (by omega); rw [← m2e.out, i1]; simp)
                                                                omega
                                                              · have k29 : ¬ (((x3 + x4 : Int) = 0)) := Zeqlf h0 (Zc 0) g29
                                                                clear g29
                                                                have h21 : Is ρ ws21 (1000 * x0) := Zmul (Zc 1000) e0 (by omega) (by omega)
                                                                have h22 : Is ρ ws22 (2 * x3) := Zmul (Zc 2) e3 (by omega) (by omega)
                                                                obtain ⟨m11, m11e⟩ : ∃ m : Int, Hd (x1 * x3 = m) := ⟨_, ⟨rfl⟩⟩
                                                                have m111 : 0 ≤ m11 := m11e.out ▸ Int.mul_nonneg (by omega) (by omega)
                                                                have m112 : m11 ≤ 600000000 := m11e.out ▸ (Int.mul_le_mul (by omega : x1 ≤ 3000) (by omega : x3 ≤ 200000) (by omega) (by omega) : x1 * x3 ≤ 3000 * 200000)
                                                                have m11o : m11 ≤ m1 := ((Int.mul_comm _ _).trans m11e.out) ▸ ((Int.mul_comm _ _).trans m1e.out) ▸ (Int.mul_le_mul_of_nonneg_right (by omega) (by omega) : x3 * x1 ≤ x4 * x1)
                                                                obtain ⟨m12, m12e⟩ : ∃ m : Int, Hd (x2 * x3 = m) := ⟨_, ⟨rfl⟩⟩
                                                                have m121 : 0 ≤ m12 := m12e.out ▸ Int.mul_nonneg (by omega) (by omega)
                                                                have m122 : m12 ≤ 600000000 := m12e.out ▸ (Int.mul_le_mul (by omega : x2 ≤ 3000) (by omega : x3 ≤ 200000) (by omega) (by omega) : x2 * x3 ≤ 3000 * 200000)
                                                                have m12o : m12 ≤ m2 := ((Int.mul_comm _ _).trans m12e.out) ▸ ((Int.mul_comm _ _).trans m2e.out) ▸ (Int.mul_le_mul_of_nonneg_right (by omega) (by omega) : x3 * x2 ≤ x4 * x2)
                                                                have h23 : Is ρ ws23 (2 * m11 + 2 * m12) := Zmul h22 h2 (by omega) ((by simp only [Int.add_mul, Int.mul_add, Int.mul_assoc, Int.mul_comm, Int.mul_left_comm] <;> omega : (2 * x3) * (x1 + x2) = 2 * (x1 * x3) + 2 * (x2 * x3)).trans (by (try simp only [m11e.out, m12e.out]) <;> omega))
                                                                have h24 : Is ρ ws24 ((-2) * m11 + (-2) * m12 + 1000 * x0) := Zsub h21 h23 (by omega) (by omega)
                                                                refine ⟨fun g30 => ?_, fun g30 => ?_⟩
                                                                · have k30 : ((0 : Int) ≤ (-2) * m11 + (-2) * m12 + 1000 * x0) := Zleqt (Zc 0) h24 g30
                                                                  clear g30
                                                                  have h15 : Is ρ ws15 ((-1) * x4) := Zsub (Zc 0) e4 (by omega) (by omega)
                                                                  have h25 : Is ρ ws25 ((-2) * x4) := Zmul (Zc 2) h15 (by omega) (by omega)
                                                                  have h26 : Is ρ ws26 ((-2) * m1 + (-2) * m2) := Zmul h25 h2 (by omega) ((by simp only [Int.add_mul, Int.mul_add, Int.mul_assoc, Int.mul_comm, Int.mul_left_comm] <;> omega : ((-2) * x4) * (x1 + x2) = (-2) * (x1 * x4) + (-2) * (x2 * x4)).trans (by (try simp only [m1e.out, m2e.out]) <;> omega))
                                                                  have h27 : Is ρ ws27 (2 * m1 + 2 * m2 + 1000 * x0) := Zsub h21 h26 (by omega) (by omega)
                                                                  have h28 : Is ρ ws28 (2000 * x0) := Zmul (Zc 2000) e0 (by omega) (by omega)
                                                                  refine ⟨fun g31 => ?_, fun g31 => ?_⟩
                                                                  · have k31 : ((2 * m1 + 2 * m2 + 1000 * x0 : Int) ≤ 2000 * x0) := Zleqt h27 h28 g31
                                                                    clear g31
                                                                    exact rfl
                                                                  · have k31 : ¬ (((2 * m1 + 2 * m2 + 1000 * x0 : Int) ≤ 2000 * x0)) := Zleqf h27 h28 g31
                                                                    clear g31
                                                                    omega
                                                                · have k30 : ¬ (((0 : Int) ≤ (-2) * m11 + (-2) * m12 + 1000 * x0)) := Zleqf (Zc 0) h24 g30
                                                                  clear g30
                                                                  omega
                                                          · have k27 : ¬ (((m3 + (-1) * m4 : Int) ≤ 9223372036854775807)) := Zleqf h14 (Zc 9223372036854775807) g27
                                                            clear g27
                                                            omega
                                                        · have k26 : ¬ ((((-9223372036854775807) : Int) ≤ m3 + (-1) * m4)) := Zleqf (Zc (-9223372036854775807)) h14 g26
                                                          clear g26
                                                          omega
                                                      · have k25 : ¬ (((2000 * x7 + (-2000000) : Int) ≤ 9223372036854775807)) := Zleqf h12 (Zc 9223372036854775807) g25
                                                        clear g25
                                                        omega
                                                    · have k24 : ¬ (((1 : Int) ≤ 2000 * x7 + (-2000000))) := Zleqf (Zc 1) h12 g24
                                                      clear g24
                                                      omega
                                                  · have k23 : ¬ ((((-2000) * m3 + 1000 * m4 + m5 + (-1) * m6 : Int) ≤ 9223372036854775807)) := Zleqf h11 (Zc 9223372036854775807) g23
                                                    clear g23
                                                    omega
                                                · have k22 : ¬ ((((-9223372036854775807) : Int) ≤ (-2000) * m3 + 1000 * m4 + m5 + (-1) * m6)) := Zleqf (Zc (-9223372036854775807)) h11 g22
                                                  clear g22
                                                  omega
                                              · have k21 : ¬ (((x9 : Int) ≤ 100000)) := Zleqf e9 (Zc 100000) g21
                                                clear g21
                                                refine ⟨fun g22 => ?_, fun g22 => ?_⟩
                                                · have k22 : ((x3 + x4 : Int) = 0) := Zeqlt h0 (Zc 0) g22
                                                  clear g22
                                                  have m1z : m1 = 0 := (by have i1 : x4 = 0 := (by omega); rw [← m1e.out, i1]; simp)
                                                  have m2z : m2 = 0 := (by have i1 : x4 = 0 := (by omega); rw [← m2e.out, i1]; simp)
                                                  omega
                                                · have k22 : ¬ (((x3 + x4 : Int) = 0)) := Zeqlf h0 (Zc 0) g22
                                                  clear g22
                                                  have h21 : Is ρ ws21 (1000 * x0) := Zmul (Zc 1000) e0 (by omega) (by omega)
                                                  have h22 : Is ρ ws22 (2 * x3) := Zmul (Zc 2) e3 (by omega) (by omega)
                                                  obtain ⟨m13, m13e⟩ : ∃ m : Int, Hd (x1 * x3 = m) := ⟨_, ⟨rfl⟩⟩
                                                  have m131 : 0 ≤ m13 := m13e.out ▸ Int.mul_nonneg (by omega) (by omega)
                                                  have m132 : m13 ≤ 600000000 := m13e.out ▸ (Int.mul_le_mul (by omega : x1 ≤ 3000) (by omega : x3 ≤ 200000) (by omega) (by omega) : x1 * x3 ≤ 3000 * 200000)
                                                  have m13o : m13 ≤ m1 := ((Int.mul_comm _ _).trans m13e.out) ▸ ((Int.mul_comm _ _).trans m1e.out) ▸ (Int.mul_le_mul_of_nonneg_right (by omega) (by omega) : x3 * x1 ≤ x4 * x1)
                                                  obtain ⟨m14, m14e⟩ : ∃ m : Int, Hd (x2 * x3 = m) := ⟨_, ⟨rfl⟩⟩
                                                  have m141 : 0 ≤ m14 := m14e.out ▸ Int.mul_nonneg (by omega) (by omega)
                                                  have m142 : m14 ≤ 600000000 := m14e.out ▸ (Int.mul_le_mul (by omega : x2 ≤ 3000) (by omega : x3 ≤ 200000) (by omega) (by omega) : x2 * x3 ≤ 3000 * 200000)
                                                  have m14o : m14 ≤ m2 := ((Int.mul_comm _ _).trans m14e.out) ▸ ((Int.mul_comm _ _).trans m2e.out) ▸ (Int.mul_le_mul_of_nonneg_right (by omega) (by omega) : x3 * x2 ≤ x4 * x2)
                                                  have h23 : Is ρ ws23 (2 * m13 + 2 * m14) := Zmul h22 h2 (by omega) ((by simp only [Int.add_mul, Int.mul_add, Int.mul_assoc, Int.mul_comm, Int.mul_left_comm] <;> omega : (2 * x3) * (x1 + x2) = 2 * (x1 * x3) + 2 * (x2 * x3)).trans (by (try simp only [m13e.out, m14e.out]) <;> omega))
                                                  have h24 : Is ρ ws24 ((-2) * m13 + (-2) * m14 + 1000 * x0) := Zsub h21 h23 (by omega) (by omega)
                                                  refine ⟨fun g23 => ?_, fun g23 => ?_⟩
                                                  · have k23 : ((0 : Int) ≤ (-2) * m13 + (-2) * m14 + 1000 * x0) := Zleqt (Zc 0) h24 g23
                                                    clear g23
                                                    have h15 : Is ρ ws15 ((-1) * x4) := Zsub (Zc 0) e4 (by omega) (by omega)
                                                    have h25 : Is ρ ws25 ((-2) * x4) := Zmul (Zc 2) h15 (by omega) (by omega)
                                                    have h26 : Is ρ ws26 ((-2) * m1 + (-2) * m2) := Zmul h25 h2 (by omega) ((by simp only [Int.add_mul, Int.mul_add, Int.mul_assoc, Int.mul_comm, Int.mul_left_comm] <;> omega : ((-2) * x4) * (x1 + x2) = (-2) * (x1 * x4) + (-2) * (x2 * x4)).trans (by (try simp only [m1e.out, m2e.out]) <;> omega))
                                                    have h27 : Is ρ ws27 (2 * m1 + 2 * m2 + 1000 * x0) := Zsub h21 h26 (by omega) (by omega)
                                                    have h28 : Is ρ ws28 (2000 * x0) := Zmul (Zc 2000) e0 (by omega) (by omega)
                                                    refine ⟨fun g24 => ?_, fun g24 => ?_⟩
                                                    · have k24 : ((2 * m1 + 2 * m2 + 1000 * x0 : Int) ≤ 2000 * x0) := Zleqt h27 h28 g24
                                                      clear g24
                                                      exact rfl
                                                    · have k24 : ¬ (((2 * m1 + 2 * m2 + 1000 * x0 : Int) ≤ 2000 * x0)) := Zleqf h27 h28 g24
                                                      clear g24
                                                      omega
                                                  · have k23 : ¬ (((0 : Int) ≤ (-2) * m13 + (-2) * m14 + 1000 * x0)) := Zleqf (Zc 0) h24 g23
                                                    clear g23
                                                    omega
                                            · have k20 : ¬ (((1 : Int) ≤ x9)) := Zleqf (Zc 1) e9 g20
                                              clear g20
                                              refine ⟨fun g21 => ?_, fun g21 => ?_⟩
                                              · have k21 : ((x3 + x4 : Int) = 0) := Zeqlt h0 (Zc 0) g21
                                                clear g21
                                                have m1z : m1 = 0 := (by have i1 : x4 = 0 := (by omega); rw [← m1e.out, i1]; simp)
                                                have m2z : m2 = 0 := (by have i1 : x4 = 0 := (by omega); rw [← m2e.out, i1]; simp)
                                                omega
                                              · have k21 : ¬ (((x3 + x4 : Int) = 0)) := Zeqlf h0 (Zc 0) g21
                                                clear g21
                                                have h21 : Is ρ ws21 (1000 * x0) := Zmul (Zc 1000) e0 (by omega) (by omega)
                                                have h22 : Is ρ ws22 (2 * x3) := Zmul (Zc 2) e3 (by omega) (by omega)
                                                obtain ⟨m15, m15e⟩ : ∃ m : Int, Hd (x1 * x3 = m) := ⟨_, ⟨rfl⟩⟩
                                                have m151 : 0 ≤ m15 := m15e.out ▸ Int.mul_nonneg (by omega) (by omega)
                                                have m152 : m15 ≤ 600000000 := m15e.out ▸ (Int.mul_le_mul (by omega : x1 ≤ 3000) (by omega : x3 ≤ 200000) (by omega) (by omega) : x1 * x3 ≤ 3000 * 200000)
                                                have m15o : m15 ≤ m1 := ((Int.mul_comm _ _).trans m15e.out) ▸ ((Int.mul_comm _ _).trans m1e.out) ▸ (Int.mul_le_mul_of_nonneg_right (by omega) (by omega) : x3 * x1 ≤ x4 * x1)
                                                obtain ⟨m16, m16e⟩ : ∃ m : Int, Hd (x2 * x3 = m) := ⟨_, ⟨rfl⟩⟩
                                                have m161 : 0 ≤ m16 := m16e.out ▸ Int.mul_nonneg (by omega) (by omega)
                                                have m162 : m16 ≤ 600000000 := m16e.out ▸ (Int.mul_le_mul (by omega : x2 ≤ 3000) (by omega : x3 ≤ 200000) (by omega) (by omega) : x2 * x3 ≤ 3000 * 200000)
                                                have m16o : m16 ≤ m2 := ((Int.mul_comm _ _).trans m16e.out) ▸ ((Int.mul_comm _ _).trans m2e.out) ▸ (Int.mul_le_mul_of_nonneg_right (by omega) (by omega) : x3 * x2 ≤ x4 * x2)
                                                have h23 : Is ρ ws23 (2 * m15 + 2 * m16) := Zmul h22 h2 (by omega) ((by simp only [Int.add_mul, Int.mul_add, Int.mul_assoc, Int.mul_comm, Int.mul_left_comm] <;> omega : (2 * x3) * (x1 + x2) = 2 * (x1 * x3) + 2 * (x2 * x3)).trans (by (try simp only [m15e.out, m16e.out]) <;> omega))
                                                have h24 : Is ρ ws24 ((-2) * m15 + (-2) * m16 + 1000 * x0) := Zsub h21 h23 (by omega) (by omega)
                                                refine ⟨fun g22 => ?_, fun g22 => ?_⟩
                                                · have k22 : ((0 : Int) ≤ (-2) * m15 + (-2) * m16 + 1000 * x0) := Zleqt (Zc 0) h24 g22
                                                  clear g22
                                                  have h15 : Is ρ ws15 ((-1) * x4) := Zsub (Zc 0) e4 (by omega) (by omega)
                                                  have h25 : Is ρ ws25 ((-2) * x4) := Zmul (Zc 2) h15 (by omega) (by omega)
                                                  have h26 : Is ρ ws26 ((-2) * m1 + (-2) * m2) := Zmul h25 h2 (by omega) ((by simp only [Int.add_mul, Int.mul_add, Int.mul_assoc, Int.mul_comm, Int.mul_left_comm] <;> omega : ((-2) * x4) * (x1 + x2) = (-2) * (x1 * x4) + (-2) * (x2 * x4)).trans (by (try simp only [m1e.out, m2e.out]) <;> omega))
                                                  have h27 : Is ρ ws27 (2 * m1 + 2 * m2 + 1000 * x0) := Zsub h21 h26 (by omega) (by omega)
                                                  have h28 : Is ρ ws28 (2000 * x0) := Zmul (Zc 2000) e0 (by omega) (by omega)
                                                  refine ⟨fun g23 => ?_, fun g23 => ?_⟩
                                                  · have k23 : ((2 * m1 + 2 * m2 + 1000 * x0 : Int) ≤ 2000 * x0) := Zleqt h27 h28 g23
                                                    clear g23
                                                    exact rfl
                                                  · have k23 : ¬ (((2 * m1 + 2 * m2 + 1000 * x0 : Int) ≤ 2000 * x0)) := Zleqf h27 h28 g23
                                                    clear g23
                                                    omega
                                                · have k22 : ¬ (((0 : Int) ≤ (-2) * m15 + (-2) * m16 + 1000 * x0)) := Zleqf (Zc 0) h24 g22
                                                  clear g22
                                                  omega
                                          · have k19 : ¬ (((x8 : Int) ≤ 20000)) := Zleqf e8 (Zc 20000) g19
                                            clear g19
                                            refine ⟨fun g20 => ?_, fun g20 => ?_⟩
                                            · have k20 : ((x3 + x4 : Int) = 0) := Zeqlt h0 (Zc 0) g20
                                              clear g20
                                              have m1z : m1 = 0 := (by have i1 : x4 = 0 := (by omega); rw [← m1e.out, i1]; simp)
                                              have m2z : m2 = 0 := (by have i1 : x4 = 0 := (by omega); rw [← m2e.out, i1]; simp)
                                              omega
                                            · have k20 : ¬ (((x3 + x4 : Int) = 0)) := Zeqlf h0 (Zc 0) g20
                                              clear g20
                                              have h21 : Is ρ ws21 (1000 * x0) := Zmul (Zc 1000) e0 (by omega) (by omega)
                                              have h22 : Is ρ ws22 (2 * x3) := Zmul (Zc 2) e3 (by omega) (by omega)
                                              obtain ⟨m17, m17e⟩ : ∃ m : Int, Hd (x1 * x3 = m) := ⟨_, ⟨rfl⟩⟩
                                              have m171 : 0 ≤ m17 := m17e.out ▸ Int.mul_nonneg (by omega) (by omega)
                                              have m172 : m17 ≤ 600000000 := m17e.out ▸ (Int.mul_le_mul (by omega : x1 ≤ 3000) (by omega : x3 ≤ 200000) (by omega) (by omega) : x1 * x3 ≤ 3000 * 200000)
                                              have m17o : m17 ≤ m1 := ((Int.mul_comm _ _).trans m17e.out) ▸ ((Int.mul_comm _ _).trans m1e.out) ▸ (Int.mul_le_mul_of_nonneg_right (by omega) (by omega) : x3 * x1 ≤ x4 * x1)
                                              obtain ⟨m18, m18e⟩ : ∃ m : Int, Hd (x2 * x3 = m) := ⟨_, ⟨rfl⟩⟩
                                              have m181 : 0 ≤ m18 := m18e.out ▸ Int.mul_nonneg (by omega) (by omega)
                                              have m182 : m18 ≤ 600000000 := m18e.out ▸ (Int.mul_le_mul (by omega : x2 ≤ 3000) (by omega : x3 ≤ 200000) (by omega) (by omega) : x2 * x3 ≤ 3000 * 200000)
                                              have m18o : m18 ≤ m2 := ((Int.mul_comm _ _).trans m18e.out) ▸ ((Int.mul_comm _ _).trans m2e.out) ▸ (Int.mul_le_mul_of_nonneg_right (by omega) (by omega) : x3 * x2 ≤ x4 * x2)
                                              have h23 : Is ρ ws23 (2 * m17 + 2 * m18) := Zmul h22 h2 (by omega) ((by simp only [Int.add_mul, Int.mul_add, Int.mul_assoc, Int.mul_comm, Int.mul_left_comm] <;> omega : (2 * x3) * (x1 + x2) = 2 * (x1 * x3) + 2 * (x2 * x3)).trans (by (try simp only [m17e.out, m18e.out]) <;> omega))
                                              have h24 : Is ρ ws24 ((-2) * m17 + (-2) * m18 + 1000 * x0) := Zsub h21 h23 (by omega) (by omega)
                                              refine ⟨fun g21 => ?_, fun g21 => ?_⟩
                                              · have k21 : ((0 : Int) ≤ (-2) * m17 + (-2) * m18 + 1000 * x0) := Zleqt (Zc 0) h24 g21
                                                clear g21
                                                have h15 : Is ρ ws15 ((-1) * x4) := Zsub (Zc 0) e4 (by omega) (by omega)
                                                have h25 : Is ρ ws25 ((-2) * x4) := Zmul (Zc 2) h15 (by omega) (by omega)
                                                have h26 : Is ρ ws26 ((-2) * m1 + (-2) * m2) := Zmul h25 h2 (by omega) ((by simp only [Int.add_mul, Int.mul_add, Int.mul_assoc, Int.mul_comm, Int.mul_left_comm] <;> omega : ((-2) * x4) * (x1 + x2) = (-2) * (x1 * x4) + (-2) * (x2 * x4)).trans (by (try simp only [m1e.out, m2e.out]) <;> omega))
                                                have h27 : Is ρ ws27 (2 * m1 + 2 * m2 + 1000 * x0) := Zsub h21 h26 (by omega) (by omega)
                                                have h28 : Is ρ ws28 (2000 * x0) := Zmul (Zc 2000) e0 (by omega) (by omega)
                                                refine ⟨fun g22 => ?_, fun g22 => ?_⟩
                                                · have k22 : ((2 * m1 + 2 * m2 + 1000 * x0 : Int) ≤ 2000 * x0) := Zleqt h27 h28 g22
                                                  clear g22
                                                  exact rfl
                                                · have k22 : ¬ (((2 * m1 + 2 * m2 + 1000 * x0 : Int) ≤ 2000 * x0)) := Zleqf h27 h28 g22
                                                  clear g22
                                                  omega
                                              · have k21 : ¬ (((0 : Int) ≤ (-2) * m17 + (-2) * m18 + 1000 * x0)) := Zleqf (Zc 0) h24 g21
                                                clear g21
                                                omega
                                        · have k18 : ¬ (((0 : Int) ≤ x8)) := Zleqf (Zc 0) e8 g18
                                          clear g18
                                          refine ⟨fun g19 => ?_, fun g19 => ?_⟩
                                          · have k19 : ((x3 + x4 : Int) = 0) := Zeqlt h0 (Zc 0) g19
                                            clear g19
                                            have m1z : m1 = 0 := (by have i1 : x4 = 0 := (by omega); rw [← m1e.out, i1]; simp)
                                            have m2z : m2 = 0 := (by have i1 : x4 = 0 := (by omega); rw [← m2e.out, i1]; simp)
                                            omega
                                          · have k19 : ¬ (((x3 + x4 : Int) = 0)) := Zeqlf h0 (Zc 0) g19
                                            clear g19
                                            have h21 : Is ρ ws21 (1000 * x0) := Zmul (Zc 1000) e0 (by omega) (by omega)
                                            have h22 : Is ρ ws22 (2 * x3) := Zmul (Zc 2) e3 (by omega) (by omega)
                                            obtain ⟨m19, m19e⟩ : ∃ m : Int, Hd (x1 * x3 = m) := ⟨_, ⟨rfl⟩⟩
                                            have m191 : 0 ≤ m19 := m19e.out ▸ Int.mul_nonneg (by omega) (by omega)
                                            have m192 : m19 ≤ 600000000 := m19e.out ▸ (Int.mul_le_mul (by omega : x1 ≤ 3000) (by omega : x3 ≤ 200000) (by omega) (by omega) : x1 * x3 ≤ 3000 * 200000)
                                            have m19o : m19 ≤ m1 := ((Int.mul_comm _ _).trans m19e.out) ▸ ((Int.mul_comm _ _).trans m1e.out) ▸ (Int.mul_le_mul_of_nonneg_right (by omega) (by omega) : x3 * x1 ≤ x4 * x1)
                                            obtain ⟨m20, m20e⟩ : ∃ m : Int, Hd (x2 * x3 = m) := ⟨_, ⟨rfl⟩⟩
                                            have m201 : 0 ≤ m20 := m20e.out ▸ Int.mul_nonneg (by omega) (by omega)
                                            have m202 : m20 ≤ 600000000 := m20e.out ▸ (Int.mul_le_mul (by omega : x2 ≤ 3000) (by omega : x3 ≤ 200000) (by omega) (by omega) : x2 * x3 ≤ 3000 * 200000)
                                            have m20o : m20 ≤ m2 := ((Int.mul_comm _ _).trans m20e.out) ▸ ((Int.mul_comm _ _).trans m2e.out) ▸ (Int.mul_le_mul_of_nonneg_right (by omega) (by omega) : x3 * x2 ≤ x4 * x2)
                                            have h23 : Is ρ ws23 (2 * m19 + 2 * m20) := Zmul h22 h2 (by omega) ((by simp only [Int.add_mul, Int.mul_add, Int.mul_assoc, Int.mul_comm, Int.mul_left_comm] <;> omega : (2 * x3) * (x1 + x2) = 2 * (x1 * x3) + 2 * (x2 * x3)).trans (by (try simp only [m19e.out, m20e.out]) <;> omega))
                                            have h24 : Is ρ ws24 ((-2) * m19 + (-2) * m20 + 1000 * x0) := Zsub h21 h23 (by omega) (by omega)
                                            refine ⟨fun g20 => ?_, fun g20 => ?_⟩
                                            · have k20 : ((0 : Int) ≤ (-2) * m19 + (-2) * m20 + 1000 * x0) := Zleqt (Zc 0) h24 g20
                                              clear g20
                                              have h15 : Is ρ ws15 ((-1) * x4) := Zsub (Zc 0) e4 (by omega) (by omega)
                                              have h25 : Is ρ ws25 ((-2) * x4) := Zmul (Zc 2) h15 (by omega) (by omega)
                                              have h26 : Is ρ ws26 ((-2) * m1 + (-2) * m2) := Zmul h25 h2 (by omega) ((by simp only [Int.add_mul, Int.mul_add, Int.mul_assoc, Int.mul_comm, Int.mul_left_comm] <;> omega : ((-2) * x4) * (x1 + x2) = (-2) * (x1 * x4) + (-2) * (x2 * x4)).trans (by (try simp only [m1e.out, m2e.out]) <;> omega))
                                              have h27 : Is ρ ws27 (2 * m1 + 2 * m2 + 1000 * x0) := Zsub h21 h26 (by omega) (by omega)
                                              have h28 : Is ρ ws28 (2000 * x0) := Zmul (Zc 2000) e0 (by omega) (by omega)
                                              refine ⟨fun g21 => ?_, fun g21 => ?_⟩
                                              · have k21 : ((2 * m1 + 2 * m2 + 1000 * x0 : Int) ≤ 2000 * x0) := Zleqt h27 h28 g21
                                                clear g21
                                                exact rfl
                                              · have k21 : ¬ (((2 * m1 + 2 * m2 + 1000 * x0 : Int) ≤ 2000 * x0)) := Zleqf h27 h28 g21
                                                clear g21
                                                omega
                                            · have k20 : ¬ (((0 : Int) ≤ (-2) * m19 + (-2) * m20 + 1000 * x0)) := Zleqf (Zc 0) h24 g20
                                              clear g20
                                              omega
                                      · have k17 : ¬ (((x7 : Int) ≤ 20000)) := Zleqf e7 (Zc 20000) g17
                                        clear g17
                                        refine ⟨fun g18 => ?_, fun g18 => ?_⟩
                                        · have k18 : ((x3 + x4 : Int) = 0) := Zeqlt h0 (Zc 0) g18
                                          clear g18
                                          have m1z : m1 = 0 := (by have i1 : x4 = 0 := (by omega); rw [← m1e.out, i1]; simp)
                                          have m2z : m2 = 0 := (by have i1 : x4 = 0 := (by omega); rw [← m2e.out, i1]; simp)
                                          omega
                                        · have k18 : ¬ (((x3 + x4 : Int) = 0)) := Zeqlf h0 (Zc 0) g18
                                          clear g18
                                          have h21 : Is ρ ws21 (1000 * x0) := Zmul (Zc 1000) e0 (by omega) (by omega)
                                          have h22 : Is ρ ws22 (2 * x3) := Zmul (Zc 2) e3 (by omega) (by omega)
                                          obtain ⟨m21, m21e⟩ : ∃ m : Int, Hd (x1 * x3 = m) := ⟨_, ⟨rfl⟩⟩
                                          have m211 : 0 ≤ m21 := m21e.out ▸ Int.mul_nonneg (by omega) (by omega)
                                          have m212 : m21 ≤ 600000000 := m21e.out ▸ (Int.mul_le_mul (by omega : x1 ≤ 3000) (by omega : x3 ≤ 200000) (by omega) (by omega) : x1 * x3 ≤ 3000 * 200000)
                                          have m21o : m21 ≤ m1 := ((Int.mul_comm _ _).trans m21e.out) ▸ ((Int.mul_comm _ _).trans m1e.out) ▸ (Int.mul_le_mul_of_nonneg_right (by omega) (by omega) : x3 * x1 ≤ x4 * x1)
                                          obtain ⟨m22, m22e⟩ : ∃ m : Int, Hd (x2 * x3 = m) := ⟨_, ⟨rfl⟩⟩
                                          have m221 : 0 ≤ m22 := m22e.out ▸ Int.mul_nonneg (by omega) (by omega)
                                          have m222 : m22 ≤ 600000000 := m22e.out ▸ (Int.mul_le_mul (by omega : x2 ≤ 3000) (by omega : x3 ≤ 200000) (by omega) (by omega) : x2 * x3 ≤ 3000 * 200000)
                                          have m22o : m22 ≤ m2 := ((Int.mul_comm _ _).trans m22e.out) ▸ ((Int.mul_comm _ _).trans m2e.out) ▸ (Int.mul_le_mul_of_nonneg_right (by omega) (by omega) : x3 * x2 ≤ x4 * x2)
                                          have h23 : Is ρ ws23 (2 * m21 + 2 * m22) := Zmul h22 h2 (by omega) ((by simp only [Int.add_mul, Int.mul_add, Int.mul_assoc, Int.mul_comm, Int.mul_left_comm] <;> omega : (2 * x3) * (x1 + x2) = 2 * (x1 * x3) + 2 * (x2 * x3)).trans (by (try simp only [m21e.out, m22e.out]) <;> omega))
                                          have h24 : Is ρ ws24 ((-2) * m21 + (-2) * m22 + 1000 * x0) := Zsub h21 h23 (by omega) (by omega)
                                          refine ⟨fun g19 => ?_, fun g19 => ?_⟩
                                          · have k19 : ((0 : Int) ≤ (-2) * m21 + (-2) * m22 + 1000 * x0) := Zleqt (Zc 0) h24 g19
                                            clear g19
                                            have h15 : Is ρ ws15 ((-1) * x4) := Zsub (Zc 0) e4 (by omega) (by omega)
                                            have h25 : Is ρ ws25 ((-2) * x4) := Zmul (Zc 2) h15 (by omega) (by omega)
                                            have h26 : Is ρ ws26 ((-2) * m1 + (-2) * m2) := Zmul h25 h2 (by omega) ((by simp only [Int.add_mul, Int.mul_add, Int.mul_assoc, Int.mul_comm, Int.mul_left_comm] <;> omega : ((-2) * x4) * (x1 + x2) = (-2) * (x1 * x4) + (-2) * (x2 * x4)).trans (by (try simp only [m1e.out, m2e.out]) <;> omega))
                                            have h27 : Is ρ ws27 (2 * m1 + 2 * m2 + 1000 * x0) := Zsub h21 h26 (by omega) (by omega)
                                            have h28 : Is ρ ws28 (2000 * x0) := Zmul (Zc 2000) e0 (by omega) (by omega)
                                            refine ⟨fun g20 => ?_, fun g20 => ?_⟩
                                            · have k20 : ((2 * m1 + 2 * m2 + 1000 * x0 : Int) ≤ 2000 * x0) := Zleqt h27 h28 g20
                                              clear g20
                                              exact rfl
                                            · have k20 : ¬ (((2 * m1 + 2 * m2 + 1000 * x0 : Int) ≤ 2000 * x0)) := Zleqf h27 h28 g20
                                              clear g20
                                              omega
                                          · have k19 : ¬ (((0 : Int) ≤ (-2) * m21 + (-2) * m22 + 1000 * x0)) := Zleqf (Zc 0) h24 g19
                                            clear g19
                                            omega
                                    · have k16 : ¬ (((1001 : Int) ≤ x7)) := Zleqf (Zc 1001) e7 g16
                                      clear g16
                                      refine ⟨fun g17 => ?_, fun g17 => ?_⟩
                                      · have k17 : ((x3 + x4 : Int) = 0) := Zeqlt h0 (Zc 0) g17
                                        clear g17
                                        have m1z : m1 = 0 := (by have i1 : x4 = 0 := (by omega); rw [← m1e.out, i1]; simp)
                                        have m2z : m2 = 0 := (by have i1 : x4 = 0 := (by omega); rw [← m2e.out, i1]; simp)
                                        omega
                                      · have k17 : ¬ (((x3 + x4 : Int) = 0)) := Zeqlf h0 (Zc 0) g17
                                        clear g17
                                        have h21 : Is ρ ws21 (1000 * x0) := Zmul (Zc 1000) e0 (by omega) (by omega)
                                        have h22 : Is ρ ws22 (2 * x3) := Zmul (Zc 2) e3 (by omega) (by omega)
                                        obtain ⟨m23, m23e⟩ : ∃ m : Int, Hd (x1 * x3 = m) := ⟨_, ⟨rfl⟩⟩
                                        have m231 : 0 ≤ m23 := m23e.out ▸ Int.mul_nonneg (by omega) (by omega)
                                        have m232 : m23 ≤ 600000000 := m23e.out ▸ (Int.mul_le_mul (by omega : x1 ≤ 3000) (by omega : x3 ≤ 200000) (by omega) (by omega) : x1 * x3 ≤ 3000 * 200000)
                                        have m23o : m23 ≤ m1 := ((Int.mul_comm _ _).trans m23e.out) ▸ ((Int.mul_comm _ _).trans m1e.out) ▸ (Int.mul_le_mul_of_nonneg_right (by omega) (by omega) : x3 * x1 ≤ x4 * x1)
                                        obtain ⟨m24, m24e⟩ : ∃ m : Int, Hd (x2 * x3 = m) := ⟨_, ⟨rfl⟩⟩
                                        have m241 : 0 ≤ m24 := m24e.out ▸ Int.mul_nonneg (by omega) (by omega)
                                        have m242 : m24 ≤ 600000000 := m24e.out ▸ (Int.mul_le_mul (by omega : x2 ≤ 3000) (by omega : x3 ≤ 200000) (by omega) (by omega) : x2 * x3 ≤ 3000 * 200000)
                                        have m24o : m24 ≤ m2 := ((Int.mul_comm _ _).trans m24e.out) ▸ ((Int.mul_comm _ _).trans m2e.out) ▸ (Int.mul_le_mul_of_nonneg_right (by omega) (by omega) : x3 * x2 ≤ x4 * x2)
                                        have h23 : Is ρ ws23 (2 * m23 + 2 * m24) := Zmul h22 h2 (by omega) ((by simp only [Int.add_mul, Int.mul_add, Int.mul_assoc, Int.mul_comm, Int.mul_left_comm] <;> omega : (2 * x3) * (x1 + x2) = 2 * (x1 * x3) + 2 * (x2 * x3)).trans (by (try simp only [m23e.out, m24e.out]) <;> omega))
                                        have h24 : Is ρ ws24 ((-2) * m23 + (-2) * m24 + 1000 * x0) := Zsub h21 h23 (by omega) (by omega)
                                        refine ⟨fun g18 => ?_, fun g18 => ?_⟩
                                        · have k18 : ((0 : Int) ≤ (-2) * m23 + (-2) * m24 + 1000 * x0) := Zleqt (Zc 0) h24 g18
                                          clear g18
                                          have h15 : Is ρ ws15 ((-1) * x4) := Zsub (Zc 0) e4 (by omega) (by omega)
                                          have h25 : Is ρ ws25 ((-2) * x4) := Zmul (Zc 2) h15 (by omega) (by omega)
                                          have h26 : Is ρ ws26 ((-2) * m1 + (-2) * m2) := Zmul h25 h2 (by omega) ((by simp only [Int.add_mul, Int.mul_add, Int.mul_assoc, Int.mul_comm, Int.mul_left_comm] <;> omega : ((-2) * x4) * (x1 + x2) = (-2) * (x1 * x4) + (-2) * (x2 * x4)).trans (by (try simp only [m1e.out, m2e.out]) <;> omega))
                                          have h27 : Is ρ ws27 (2 * m1 + 2 * m2 + 1000 * x0) := Zsub h21 h26 (by omega) (by omega)
                                          have h28 : Is ρ ws28 (2000 * x0) := Zmul (Zc 2000) e0 (by omega) (by omega)
                                          refine ⟨fun g19 => ?_, fun g19 => ?_⟩
                                          · have k19 : ((2 * m1 + 2 * m2 + 1000 * x0 : Int) ≤ 2000 * x0) := Zleqt h27 h28 g19
                                            clear g19
                                            exact rfl
                                          · have k19 : ¬ (((2 * m1 + 2 * m2 + 1000 * x0 : Int) ≤ 2000 * x0)) := Zleqf h27 h28 g19
                                            clear g19
                                            omega
                                        · have k18 : ¬ (((0 : Int) ≤ (-2) * m23 + (-2) * m24 + 1000 * x0)) := Zleqf (Zc 0) h24 g18
                                          clear g18
                                          omega
                                  · have k15 : ¬ (((m1 + m2 : Int) ≤ 500 * x0)) := Zleqf h3 h4 g15
                                    clear g15
                                    refine ⟨fun g16 => ?_, fun g16 => ?_⟩
                                    · have k16 : ((x3 + x4 : Int) = 0) := Zeqlt h0 (Zc 0) g16
                                      clear g16
                                      have m1z : m1 = 0 := (by have i1 : x4 = 0 := (by omega); rw [← m1e.out, i1]; simp)
                                      have m2z : m2 = 0 := (by have i1 : x4 = 0 := (by omega); rw [← m2e.out, i1]; simp)
                                      omega
                                    · have k16 : ¬ (((x3 + x4 : Int) = 0)) := Zeqlf h0 (Zc 0) g16
                                      clear g16
                                      have h21 : Is ρ ws21 (1000 * x0) := Zmul (Zc 1000) e0 (by omega) (by omega)
                                      have h22 : Is ρ ws22 (2 * x3) := Zmul (Zc 2) e3 (by omega) (by omega)
                                      obtain ⟨m25, m25e⟩ : ∃ m : Int, Hd (x1 * x3 = m) := ⟨_, ⟨rfl⟩⟩
                                      have m251 : 0 ≤ m25 := m25e.out ▸ Int.mul_nonneg (by omega) (by omega)
                                      have m252 : m25 ≤ 600000000 := m25e.out ▸ (Int.mul_le_mul (by omega : x1 ≤ 3000) (by omega : x3 ≤ 200000) (by omega) (by omega) : x1 * x3 ≤ 3000 * 200000)
                                      have m25o : m25 ≤ m1 := ((Int.mul_comm _ _).trans m25e.out) ▸ ((Int.mul_comm _ _).trans m1e.out) ▸ (Int.mul_le_mul_of_nonneg_right (by omega) (by omega) : x3 * x1 ≤ x4 * x1)
                                      obtain ⟨m26, m26e⟩ : ∃ m : Int, Hd (x2 * x3 = m) := ⟨_, ⟨rfl⟩⟩
                                      have m261 : 0 ≤ m26 := m26e.out ▸ Int.mul_nonneg (by omega) (by omega)
                                      have m262 : m26 ≤ 600000000 := m26e.out ▸ (Int.mul_le_mul (by omega : x2 ≤ 3000) (by omega : x3 ≤ 200000) (by omega) (by omega) : x2 * x3 ≤ 3000 * 200000)
                                      have m26o : m26 ≤ m2 := ((Int.mul_comm _ _).trans m26e.out) ▸ ((Int.mul_comm _ _).trans m2e.out) ▸ (Int.mul_le_mul_of_nonneg_right (by omega) (by omega) : x3 * x2 ≤ x4 * x2)
                                      have h23 : Is ρ ws23 (2 * m25 + 2 * m26) := Zmul h22 h2 (by omega) ((by simp only [Int.add_mul, Int.mul_add, Int.mul_assoc, Int.mul_comm, Int.mul_left_comm] <;> omega : (2 * x3) * (x1 + x2) = 2 * (x1 * x3) + 2 * (x2 * x3)).trans (by (try simp only [m25e.out, m26e.out]) <;> omega))
                                      have h24 : Is ρ ws24 ((-2) * m25 + (-2) * m26 + 1000 * x0) := Zsub h21 h23 (by omega) (by omega)
                                      refine ⟨fun g17 => ?_, fun g17 => ?_⟩
                                      · have k17 : ((0 : Int) ≤ (-2) * m25 + (-2) * m26 + 1000 * x0) := Zleqt (Zc 0) h24 g17
                                        clear g17
                                        have h15 : Is ρ ws15 ((-1) * x4) := Zsub (Zc 0) e4 (by omega) (by omega)
                                        have h25 : Is ρ ws25 ((-2) * x4) := Zmul (Zc 2) h15 (by omega) (by omega)
                                        have h26 : Is ρ ws26 ((-2) * m1 + (-2) * m2) := Zmul h25 h2 (by omega) ((by simp only [Int.add_mul, Int.mul_add, Int.mul_assoc, Int.mul_comm, Int.mul_left_comm] <;> omega : ((-2) * x4) * (x1 + x2) = (-2) * (x1 * x4) + (-2) * (x2 * x4)).trans (by (try simp only [m1e.out, m2e.out]) <;> omega))
                                        have h27 : Is ρ ws27 (2 * m1 + 2 * m2 + 1000 * x0) := Zsub h21 h26 (by omega) (by omega)
                                        have h28 : Is ρ ws28 (2000 * x0) := Zmul (Zc 2000) e0 (by omega) (by omega)
                                        refine ⟨fun g18 => ?_, fun g18 => ?_⟩
                                        · have k18 : ((2 * m1 + 2 * m2 + 1000 * x0 : Int) ≤ 2000 * x0) := Zleqt h27 h28 g18
                                          clear g18
                                          omega
                                        · have k18 : ¬ (((2 * m1 + 2 * m2 + 1000 * x0 : Int) ≤ 2000 * x0)) := Zleqf h27 h28 g18
                                          clear g18
                                          exact rfl
                                      · have k17 : ¬ (((0 : Int) ≤ (-2) * m25 + (-2) * m26 + 1000 * x0)) := Zleqf (Zc 0) h24 g17
                                        clear g17
                                        exact rfl
                                · have h1 : Is ρ ws1 (x3) := Zmx e3 e4 (by omega)
                                  have h2 : Is ρ ws2 (x1 + x2) := Zadd e1 e2 (by omega) (by omega)
                                  obtain ⟨m27, m27e⟩ : ∃ m : Int, Hd (x1 * x3 = m) := ⟨_, ⟨rfl⟩⟩
                                  have m271 : 0 ≤ m27 := m27e.out ▸ Int.mul_nonneg (by omega) (by omega)
                                  have m272 : m27 ≤ 600000000 := m27e.out ▸ (Int.mul_le_mul (by omega : x1 ≤ 3000) (by omega : x3 ≤ 200000) (by omega) (by omega) : x1 * x3 ≤ 3000 * 200000)
                                  obtain ⟨m28, m28e⟩ : ∃ m : Int, Hd (x2 * x3 = m) := ⟨_, ⟨rfl⟩⟩
                                  have m281 : 0 ≤ m28 := m28e.out ▸ Int.mul_nonneg (by omega) (by omega)
                                  have m282 : m28 ≤ 600000000 := m28e.out ▸ (Int.mul_le_mul (by omega : x2 ≤ 3000) (by omega : x3 ≤ 200000) (by omega) (by omega) : x2 * x3 ≤ 3000 * 200000)
                                  have h3 : Is ρ ws3 (m27 + m28) := Zmul h1 h2 (by omega) ((by simp only [Int.add_mul, Int.mul_add, Int.mul_assoc, Int.mul_comm, Int.mul_left_comm] <;> omega : (x3) * (x1 + x2) = x1 * x3 + x2 * x3).trans (by (try simp only [m27e.out, m28e.out]) <;> omega))
                                  have h4 : Is ρ ws4 (500 * x0) := Zmul (Zc 500) e0 (by omega) (by omega)
                                  refine ⟨fun g15 => ?_, fun g15 => ?_⟩
                                  · have k15 : ((m27 + m28 : Int) ≤ 500 * x0) := Zleqt h3 h4 g15
                                    clear g15
                                    refine ⟨fun g16 => ?_, fun g16 => ?_⟩
                                    · have k16 : ((1001 : Int) ≤ x7) := Zleqt (Zc 1001) e7 g16
                                      clear g16
                                      refine ⟨fun g17 => ?_, fun g17 => ?_⟩
                                      · have k17 : ((x7 : Int) ≤ 20000) := Zleqt e7 (Zc 20000) g17
                                        clear g17
                                        refine ⟨fun g18 => ?_, fun g18 => ?_⟩
                                        · have k18 : ((0 : Int) ≤ x8) := Zleqt (Zc 0) e8 g18
                                          clear g18
                                          refine ⟨fun g19 => ?_, fun g19 => ?_⟩
                                          · have k19 : ((x8 : Int) ≤ 20000) := Zleqt e8 (Zc 20000) g19
                                            clear g19
                                            refine ⟨fun g20 => ?_, fun g20 => ?_⟩
                                            · have k20 : ((1 : Int) ≤ x9) := Zleqt (Zc 1) e9 g20
                                              clear g20
                                              refine ⟨fun g21 => ?_, fun g21 => ?_⟩
                                              · have k21 : ((x9 : Int) ≤ 100000) := Zleqt e9 (Zc 100000) g21
                                                clear g21
                                                have h5 : Is ρ ws5 (x7 + (-1000)) := Zsub e7 (Zc 1000) (by omega) (by omega)
                                                obtain ⟨m29, m29e⟩ : ∃ m : Int, Hd (x7 * x9 = m) := ⟨_, ⟨rfl⟩⟩
                                                have m291 : 0 ≤ m29 := m29e.out ▸ Int.mul_nonneg (by omega) (by omega)
                                                have m292 : m29 ≤ 2000000000 := m29e.out ▸ (Int.mul_le_mul (by omega : x7 ≤ 20000) (by omega : x9 ≤ 100000) (by omega) (by omega) : x7 * x9 ≤ 20000 * 100000)
                                                have h6 : Is ρ ws6 (m29 + (-1000) * x9) := Zmul h5 e9 (by omega) ((by simp only [Int.add_mul, Int.mul_add, Int.mul_assoc, Int.mul_comm, Int.mul_left_comm] <;> omega : (x7 + (-1000)) * (x9) = x7 * x9 + (-1000) * x9).trans (by (try simp only [m29e.out]) <;> omega))
                                                obtain ⟨m30, m30e⟩ : ∃ m : Int, Hd (x0 * x8 = m) := ⟨_, ⟨rfl⟩⟩
                                                have m301 : 0 ≤ m30 := m30e.out ▸ Int.mul_nonneg (by omega) (by omega)
                                                have m302 : m30 ≤ 4000000000 := m30e.out ▸ (Int.mul_le_mul (by omega : x0 ≤ 200000) (by omega : x8 ≤ 20000) (by omega) (by omega) : x0 * x8 ≤ 200000 * 20000)
                                                have h7 : Is ρ ws7 (m30) := Zmul e8 e0 (by omega) ((by simp only [Int.add_mul, Int.mul_add, Int.mul_assoc, Int.mul_comm, Int.mul_left_comm] <;> omega : (x8) * (x0) = x0 * x8).trans (by (try simp only [m30e.out]) <;> omega))
                                                have h8 : Is ρ ws8 (m29 + (-1) * m30 + (-1000) * x9) := Zsub h6 h7 (by omega) (by omega)
                                                obtain ⟨m31, m31e⟩ : ∃ m : Int, Hd (m29 * x7 = m) := ⟨_, ⟨rfl⟩⟩
                                                have m311 : 0 ≤ m31 := m31e.out ▸ Int.mul_nonneg (by omega) (by omega)
                                                have m312 : m31 ≤ 40000000000000 := m31e.out ▸ (Int.mul_le_mul (by omega : m29 ≤ 2000000000) (by omega : x7 ≤ 20000) (by omega) (by omega) : m29 * x7 ≤ 2000000000 * 20000)
                                                obtain ⟨m32, m32e⟩ : ∃ m : Int, Hd (m30 * x7 = m) := ⟨_, ⟨rfl⟩⟩
                                                have m321 : 0 ≤ m32 := m32e.out ▸ Int.mul_nonneg (by omega) (by omega)
                                                have m322 : m32 ≤ 80000000000000 := m32e.out ▸ (Int.mul_le_mul (by omega : m30 ≤ 4000000000) (by omega : x7 ≤ 20000) (by omega) (by omega) : m30 * x7 ≤ 4000000000 * 20000)
                                                have h9 : Is ρ ws9 ((-2000) * m29 + 1000 * m30 + m31 + (-1) * m32 + 1000000 * x9) := Zmul h8 h5 (by omega) ((by simp only [Int.add_mul, Int.mul_add, Int.mul_assoc, Int.mul_comm, Int.mul_left_comm] <;> omega : (m29 + (-1) * m30 + (-1000) * x9) * (x7 + (-1000)) = m29 * x7 + (-1) * (m30 * x7) + (-1000) * (x7 * x9) + (-1000) * m29 + 1000 * m30 + 1000000 * x9).trans (by (try simp only [m31e.out, m32e.out, m29e.out]) <;> omega))
                                                have h10 : Is ρ ws10 (1000000 * x9) := Zmul (Zc 1000000) e9 (by omega) (by omega)
                                                have h11 : Is ρ ws11 ((-2000) * m29 + 1000 * m30 + m31 + (-1) * m32) := Zsub h9 h10 (by omega) (by omega)
                                                refine ⟨fun g22 => ?_, fun g22 => ?_⟩
                                                · have k22 : (((-9223372036854775807) : Int) ≤ (-2000) * m29 + 1000 * m30 + m31 + (-1) * m32) := Zleqt (Zc (-9223372036854775807)) h11 g22
                                                  clear g22
                                                  clear k22
                                                  refine ⟨fun g23 => ?_, fun g23 => ?_⟩
                                                  · have k23 : (((-2000) * m29 + 1000 * m30 + m31 + (-1) * m32 : Int) ≤ 9223372036854775807) := Zleqt h11 (Zc 9223372036854775807) g23
                                                    clear g23
                                                    clear k23
                                                    have h12 : Is ρ ws12 (2000 * x7 + (-2000000)) := Zmul (Zc 2000) h5 (by omega) (by omega)
                                                    refine ⟨fun g24 => ?_, fun g24 => ?_⟩
                                                    · have k24 : ((1 : Int) ≤ 2000 * x7 + (-2000000)) := Zleqt (Zc 1) h12 g24
                                                      clear g24
                                                      clear k24
                                                      refine ⟨fun g25 => ?_, fun g25 => ?_⟩
                                                      · have k25 : ((2000 * x7 + (-2000000) : Int) ≤ 9223372036854775807) := Zleqt h12 (Zc 9223372036854775807) g25
                                                        clear g25
                                                        clear k25
                                                        have h13 : Is ρ ws13 (1000 * x9) := Zmul (Zc 1000) e9 (by omega) (by omega)
                                                        have h14 : Is ρ ws14 (m29 + (-1) * m30) := Zadd h8 h13 (by omega) (by omega)
                                                        refine ⟨fun g26 => ?_, fun g26 => ?_⟩
                                                        · have k26 : (((-9223372036854775807) : Int) ≤ m29 + (-1) * m30) := Zleqt (Zc (-9223372036854775807)) h14 g26
                                                          clear g26
                                                          clear k26
                                                          refine ⟨fun g27 => ?_, fun g27 => ?_⟩
                                                          · have k27 : ((m29 + (-1) * m30 : Int) ≤ 9223372036854775807) := Zleqt h14 (Zc 9223372036854775807) g27
                                                            clear g27
                                                            clear k27
                                                            refine ⟨fun g28 => ?_, fun g28 => ?_⟩
                                                            · clear g28
                                                              refine ⟨fun g29 => ?_, fun g29 => ?_⟩
                                                              · clear g29
                                                                refine ⟨fun g30 => ?_, fun g30 => ?_⟩
                                                                · have k30 : ((x3 + x4 : Int) = 0) := Zeqlt h0 (Zc 0) g30
                                                                  clear g30
                                                                  have m27z : m27 = 0 := (by have i1 : x3 = 0 := (by omega); rw [← m27e.out, i1]; simp)
                                                                  have m28z : m28 = 0 := (by have i1 : x3 = 0 := (by omega); rw [← m28e.out, i1]; simp)
                                                                  omega
                                                                · have k30 : ¬ (((x3 + x4 : Int) = 0)) := Zeqlf h0 (Zc 0) g30
                                                                  clear g30
                                                                  have h21 : Is ρ ws21 (1000 * x0) := Zmul (Zc 1000) e0 (by omega) (by omega)
                                                                  have h22 : Is ρ ws22 (2 * x3) := Zmul (Zc 2) e3 (by omega) (by omega)
                                                                  have h23 : Is ρ ws23 (2 * m27 + 2 * m28) := Zmul h22 h2 (by omega) ((by simp only [Int.add_mul, Int.mul_add, Int.mul_assoc, Int.mul_comm, Int.mul_left_comm] <;> omega : (2 * x3) * (x1 + x2) = 2 * (x1 * x3) + 2 * (x2 * x3)).trans (by (try simp only [m27e.out, m28e.out]) <;> omega))
                                                                  have h24 : Is ρ ws24 ((-2) * m27 + (-2) * m28 + 1000 * x0) := Zsub h21 h23 (by omega) (by omega)
                                                                  refine ⟨fun g31 => ?_, fun g31 => ?_⟩
                                                                  · have k31 : ((0 : Int) ≤ (-2) * m27 + (-2) * m28 + 1000 * x0) := Zleqt (Zc 0) h24 g31
                                                                    clear g31
                                                                    have h15 : Is ρ ws15 ((-1) * x4) := Zsub (Zc 0) e4 (by omega) (by omega)
                                                                    have h25 : Is ρ ws25 ((-2) * x4) := Zmul (Zc 2) h15 (by omega) (by omega)
                                                                    obtain ⟨m33, m33e⟩ : ∃ m : Int, Hd (x1 * x4 = m) := ⟨_, ⟨rfl⟩⟩
                                                                    have m331 : 0 ≤ m33 := m33e.out ▸ Int.mul_nonneg (by omega) (by omega)
                                                                    have m332 : m33 ≤ 600000000 := m33e.out ▸ (Int.mul_le_mul (by omega : x1 ≤ 3000) (by omega : x4 ≤ 200000) (by omega) (by omega) : x1 * x4 ≤ 3000 * 200000)
                                                                    have m33o : m33 ≤ m27 := ((Int.mul_comm _ _).trans m33e.out) ▸ ((Int.mul_comm _ _).trans m27e.out) ▸ (Int.mul_le_mul_of_nonneg_right (by omega) (by omega) : x4 * x1 ≤ x3 * x1)
                                                                    obtain ⟨m34, m34e⟩ : ∃ m : Int, Hd (x2 * x4 = m) := ⟨_, ⟨rfl⟩⟩
                                                                    have m341 : 0 ≤ m34 := m34e.out ▸ Int.mul_nonneg (by omega) (by omega)
                                                                    have m342 : m34 ≤ 600000000 := m34e.out ▸ (Int.mul_le_mul (by omega : x2 ≤ 3000) (by omega : x4 ≤ 200000) (by omega) (by omega) : x2 * x4 ≤ 3000 * 200000)
                                                                    have m34o : m34 ≤ m28 := ((Int.mul_comm _ _).trans m34e.out) ▸ ((Int.mul_comm _ _).trans m28e.out) ▸ (Int.mul_le_mul_of_nonneg_right (by omega) (by omega) : x4 * x2 ≤ x3 * x2)
                                                                    have h26 : Is ρ ws26 ((-2) * m33 + (-2) * m34) := Zmul h25 h2 (by omega) ((by simp only [Int.add_mul, Int.mul_add, Int.mul_assoc, Int.mul_comm, Int.mul_left_comm] <;> omega : ((-2) * x4) * (x1 + x2) = (-2) * (x1 * x4) + (-2) * (x2 * x4)).trans (by (try simp only [m33e.out, m34e.out]) <;> omega))
                                                                    have h27 : Is ρ ws27 (2 * m33 + 2 * m34 + 1000 * x0) := Zsub h21 h26 (by omega) (by omega)
                                                                    have h28 : Is ρ ws28 (2000 * x0) := Zmul (Zc 2000) e0 (by omega) (by omega)
                                                                    refine ⟨fun g32 => ?_, fun g32 => ?_⟩
                                                                    · have k32 : ((2 * m33 + 2 * m34 + 1000 * x0 : Int) ≤ 2000 * x0) := Zleqt h27 h28 g32
                                                                      clear g32
                                                                      refine ⟨fun g33 => ?_, fun g33 => ?_⟩
                                                                      · clear g33
                                                                        exact rfl
                                                                      · clear g33
                                                                        exact rfl
                                                                    · have k32 : ¬ (((2 * m33 + 2 * m34 + 1000 * x0 : Int) ≤ 2000 * x0)) := Zleqf h27 h28 g32
                                                                      clear g32
                                                                      omega
                                                                  · have k31 : ¬ (((0 : Int) ≤ (-2) * m27 + (-2) * m28 + 1000 * x0)) := Zleqf (Zc 0) h24 g31
                                                                    clear g31
                                                                    omega
                                                              · clear g29
                                                                refine ⟨fun g30 => ?_, fun g30 => ?_⟩
                                                                · have k30 : ((x3 + x4 : Int) = 0) := Zeqlt h0 (Zc 0) g30
                                                                  clear g30
                                                                  have m27z : m27 = 0 := (by have i1 : x3 = 0 := (by omega); rw [← m27e.out, i1]; simp)
                                                                  have m28z : m28 = 0 := (by have i1 : x3 = 0 := (by omega); rw [← m28e.out, i1]; simp)
                                                                  omega
                                                                · have k30 : ¬ (((x3 + x4 : Int) = 0)) := Zeqlf h0 (Zc 0) g30
                                                                  clear g30
                                                                  have h21 : Is ρ ws21 (1000 * x0) := Zmul (Zc 1000) e0 (by omega) (by omega)
                                                                  have h22 : Is ρ ws22 (2 * x3) := Zmul (Zc 2) e3 (by omega) (by omega)
                                                                  have h23 : Is ρ ws23 (2 * m27 + 2 * m28) := Zmul h22 h2 (by omega) ((by simp only [Int.add_mul, Int.mul_add, Int.mul_assoc, Int.mul_comm, Int.mul_left_comm] <;> omega : (2 * x3) * (x1 + x2) = 2 * (x1 * x3) + 2 * (x2 * x3)).trans (by (try simp only [m27e.out, m28e.out]) <;> omega))
                                                                  have h24 : Is ρ ws24 ((-2) * m27 + (-2) * m28 + 1000 * x0) := Zsub h21 h23 (by omega) (by omega)
                                                                  refine ⟨fun g31 => ?_, fun g31 => ?_⟩
                                                                  · have k31 : ((0 : Int) ≤ (-2) * m27 + (-2) * m28 + 1000 * x0) := Zleqt (Zc 0) h24 g31
                                                                    clear g31
                                                                    have h15 : Is ρ ws15 ((-1) * x4) := Zsub (Zc 0) e4 (by omega) (by omega)
                                                                    have h25 : Is ρ ws25 ((-2) * x4) := Zmul (Zc 2) h15 (by omega) (by omega)
                                                                    obtain ⟨m35, m35e⟩ : ∃ m : Int, Hd (x1 * x4 = m) := ⟨_, ⟨rfl⟩⟩
                                                                    have m351 : 0 ≤ m35 := m35e.out ▸ Int.mul_nonneg (by omega) (by omega)
                                                                    have m352 : m35 ≤ 600000000 := m35e.out ▸ (Int.mul_le_mul (by omega : x1 ≤ 3000) (by omega : x4 ≤ 200000) (by omega) (by omega) : x1 * x4 ≤ 3000 * 200000)
                                                                    have m35o : m35 ≤ m27 := ((Int.mul_comm _ _).trans m35e.out) ▸ ((Int.mul_comm _ _).trans m27e.out) ▸ (Int.mul_le_mul_of_nonneg_right (by omega) (by omega) : x4 * x1 ≤ x3 * x1)
                                                                    obtain ⟨m36, m36e⟩ : ∃ m : Int, Hd (x2 * x4 = m) := ⟨_, ⟨rfl⟩⟩
                                                                    have m361 : 0 ≤ m36 := m36e.out ▸ Int.mul_nonneg (by omega) (by omega)
                                                                    have m362 : m36 ≤ 600000000 := m36e.out ▸ (Int.mul_le_mul (by omega : x2 ≤ 3000) (by omega : x4 ≤ 200000) (by omega) (by omega) : x2 * x4 ≤ 3000 * 200000)
                                                                    have m36o : m36 ≤ m28 := ((Int.mul_comm _ _).trans m36e.out) ▸ ((Int.mul_comm _ _).trans m28e.out) ▸ (Int.mul_le_mul_of_nonneg_right (by omega) (by omega) : x4 * x2 ≤ x3 * x2)
                                                                    have h26 : Is ρ ws26 ((-2) * m35 + (-2) * m36) := Zmul h25 h2 (by omega) ((by simp only [Int.add_mul, Int.mul_add, Int.mul_assoc, Int.mul_comm, Int.mul_left_comm] <;> omega : ((-2) * x4) * (x1 + x2) = (-2) * (x1 * x4) + (-2) * (x2 * x4)).trans (by (try simp only [m35e.out, m36e.out]) <;> omega))
                                                                    have h27 : Is ρ ws27 (2 * m35 + 2 * m36 + 1000 * x0) := Zsub h21 h26 (by omega) (by omega)
                                                                    have h28 : Is ρ ws28 (2000 * x0) := Zmul (Zc 2000) e0 (by omega) (by omega)
                                                                    refine ⟨fun g32 => ?_, fun g32 => ?_⟩
                                                                    · have k32 : ((2 * m35 + 2 * m36 + 1000 * x0 : Int) ≤ 2000 * x0) := Zleqt h27 h28 g32
                                                                      clear g32
                                                                      exact rfl
                                                                    · have k32 : ¬ (((2 * m35 + 2 * m36 + 1000 * x0 : Int) ≤ 2000 * x0)) := Zleqf h27 h28 g32
                                                                      clear g32
                                                                      omega
                                                                  · have k31 : ¬ (((0 : Int) ≤ (-2) * m27 + (-2) * m28 + 1000 * x0)) := Zleqf (Zc 0) h24 g31
                                                                    clear g31
                                                                    omega
                                                            · clear g28
                                                              refine ⟨fun g29 => ?_, fun g29 => ?_⟩
                                                              · have k29 : ((x3 + x4 : Int) = 0) := Zeqlt h0 (Zc 0) g29
                                                                clear g29
                                                                have m27z : m27 = 0 := (by have i1 : x3 = 0 := (by omega); rw [← m27e.out, i1]; simp)
                                                                have m28z : m28 = 0 := (by have i1 : x3 = 0 := (by omega); rw [← m28e.out, i1]; simp)
                                                                omega
                                                              · have k29 : ¬ (((x3 + x4 : Int) = 0)) := Zeqlf h0 (Zc 0) g29
                                                                clear g29
                                                                have h21 : Is ρ ws21 (1000 * x0) := Zmul (Zc 1000) e0 (by omega) (by omega)
                                                                have h22 : Is ρ ws22 (2 * x3) := Zmul (Zc 2) e3 (by omega) (by omega)
                                                                have h23 : Is ρ ws23 (2 * m27 + 2 * m28) := Zmul h22 h2 (by omega) ((by simp only [Int.add_mul, Int.mul_add, Int.mul_assoc, Int.mul_comm, Int.mul_left_comm] <;> omega : (2 * x3) * (x1 + x2) = 2 * (x1 * x3) + 2 * (x2 * x3)).trans (by (try simp only [m27e.out, m28e.out]) <;> omega))
                                                                have h24 : Is ρ ws24 ((-2) * m27 + (-2) * m28 + 1000 * x0) := Zsub h21 h23 (by omega) (by omega)
                                                                refine ⟨fun g30 => ?_, fun g30 => ?_⟩
                                                                · have k30 : ((0 : Int) ≤ (-2) * m27 + (-2) * m28 + 1000 * x0) := Zleqt (Zc 0) h24 g30
                                                                  clear g30
                                                                  have h15 : Is ρ ws15 ((-1) * x4) := Zsub (Zc 0) e4 (by omega) (by omega)
                                                                  have h25 : Is ρ ws25 ((-2) * x4) := Zmul (Zc 2) h15 (by omega) (by omega)
                                                                  obtain ⟨m37, m37e⟩ : ∃ m : Int, Hd (x1 * x4 = m) := ⟨_, ⟨rfl⟩⟩
                                                                  have m371 : 0 ≤ m37 := m37e.out ▸ Int.mul_nonneg (by omega) (by omega)
                                                                  have m372 : m37 ≤ 600000000 := m37e.out ▸ (Int.mul_le_mul (by omega : x1 ≤ 3000) (by omega : x4 ≤ 200000) (by omega) (by omega) : x1 * x4 ≤ 3000 * 200000)
                                                                  have m37o : m37 ≤ m27 := ((Int.mul_comm _ _).trans m37e.out) ▸ ((Int.mul_comm _ _).trans m27e.out) ▸ (Int.mul_le_mul_of_nonneg_right (by omega) (by omega) : x4 * x1 ≤ x3 * x1)
                                                                  obtain ⟨m38, m38e⟩ : ∃ m : Int, Hd (x2 * x4 = m) := ⟨_, ⟨rfl⟩⟩
                                                                  have m381 : 0 ≤ m38 := m38e.out ▸ Int.mul_nonneg (by omega) (by omega)
                                                                  have m382 : m38 ≤ 600000000 := m38e.out ▸ (Int.mul_le_mul (by omega : x2 ≤ 3000) (by omega : x4 ≤ 200000) (by omega) (by omega) : x2 * x4 ≤ 3000 * 200000)
                                                                  have m38o : m38 ≤ m28 := ((Int.mul_comm _ _).trans m38e.out) ▸ ((Int.mul_comm _ _).trans m28e.out) ▸ (Int.mul_le_mul_of_nonneg_right (by omega) (by omega) : x4 * x2 ≤ x3 * x2)
                                                                  have h26 : Is ρ ws26 ((-2) * m37 + (-2) * m38) := Zmul h25 h2 (by omega) ((by simp only [Int.add_mul, Int.mul_add, Int.mul_assoc, Int.mul_comm, Int.mul_left_comm] <;> omega : ((-2) * x4) * (x1 + x2) = (-2) * (x1 * x4) + (-2) * (x2 * x4)).trans (by (try simp only [m37e.out, m38e.out]) <;> omega))
                                                                  have h27 : Is ρ ws27 (2 * m37 + 2 * m38 + 1000 * x0) := Zsub h21 h26 (by omega) (by omega)
                                                                  have h28 : Is ρ ws28 (2000 * x0) := Zmul (Zc 2000) e0 (by omega) (by omega)
                                                                  refine ⟨fun g31 => ?_, fun g31 => ?_⟩
                                                                  · have k31 : ((2 * m37 + 2 * m38 + 1000 * x0 : Int) ≤ 2000 * x0) := Zleqt h27 h28 g31
                                                                    clear g31
                                                                    exact rfl
                                                                  · have k31 : ¬ (((2 * m37 + 2 * m38 + 1000 * x0 : Int) ≤ 2000 * x0)) := Zleqf h27 h28 g31
                                                                    clear g31
                                                                    omega
                                                                · have k30 : ¬ (((0 : Int) ≤ (-2) * m27 + (-2) * m28 + 1000 * x0)) := Zleqf (Zc 0) h24 g30
                                                                  clear g30
                                                                  omega
                                                          · have k27 : ¬ (((m29 + (-1) * m30 : Int) ≤ 9223372036854775807)) := Zleqf h14 (Zc 9223372036854775807) g27
                                                            clear g27
                                                            omega
                                                        · have k26 : ¬ ((((-9223372036854775807) : Int) ≤ m29 + (-1) * m30)) := Zleqf (Zc (-9223372036854775807)) h14 g26
                                                          clear g26
                                                          omega
                                                      · have k25 : ¬ (((2000 * x7 + (-2000000) : Int) ≤ 9223372036854775807)) := Zleqf h12 (Zc 9223372036854775807) g25
                                                        clear g25
                                                        omega
                                                    · have k24 : ¬ (((1 : Int) ≤ 2000 * x7 + (-2000000))) := Zleqf (Zc 1) h12 g24
                                                      clear g24
                                                      omega
                                                  · have k23 : ¬ ((((-2000) * m29 + 1000 * m30 + m31 + (-1) * m32 : Int) ≤ 9223372036854775807)) := Zleqf h11 (Zc 9223372036854775807) g23
                                                    clear g23
                                                    omega
                                                · have k22 : ¬ ((((-9223372036854775807) : Int) ≤ (-2000) * m29 + 1000 * m30 + m31 + (-1) * m32)) := Zleqf (Zc (-9223372036854775807)) h11 g22
                                                  clear g22
                                                  omega
                                              · have k21 : ¬ (((x9 : Int) ≤ 100000)) := Zleqf e9 (Zc 100000) g21
                                                clear g21
                                                refine ⟨fun g22 => ?_, fun g22 => ?_⟩
                                                · have k22 : ((x3 + x4 : Int) = 0) := Zeqlt h0 (Zc 0) g22
                                                  clear g22
                                                  have m27z : m27 = 0 := (by have i1 : x3 = 0 := (by omega); rw [← m27e.out, i1]; simp)
                                                  have m28z : m28 = 0 := (by have i1 : x3 = 0 := (by omega); rw [← m28e.out, i1]; simp)
                                                  omega
                                                · have k22 : ¬ (((x3 + x4 : Int) = 0)) := Zeqlf h0 (Zc 0) g22
                                                  clear g22
                                                  have h21 : Is ρ ws21 (1000 * x0) := Zmul (Zc 1000) e0 (by omega) (by omega)
                                                  have h22 : Is ρ ws22 (2 * x3) := Zmul (Zc 2) e3 (by omega) (by omega)
                                                  have h23 : Is ρ ws23 (2 * m27 + 2 * m28) := Zmul h22 h2 (by omega) ((by simp only [Int.add_mul, Int.mul_add, Int.mul_assoc, Int.mul_comm, Int.mul_left_comm] <;> omega : (2 * x3) * (x1 + x2) = 2 * (x1 * x3) + 2 * (x2 * x3)).trans (by (try simp only [m27e.out, m28e.out]) <;> omega))
                                                  have h24 : Is ρ ws24 ((-2) * m27 + (-2) * m28 + 1000 * x0) := Zsub h21 h23 (by omega) (by omega)
                                                  refine ⟨fun g23 => ?_, fun g23 => ?_⟩
                                                  · have k23 : ((0 : Int) ≤ (-2) * m27 + (-2) * m28 + 1000 * x0) := Zleqt (Zc 0) h24 g23
                                                    clear g23
                                                    have h15 : Is ρ ws15 ((-1) * x4) := Zsub (Zc 0) e4 (by omega) (by omega)
                                                    have h25 : Is ρ ws25 ((-2) * x4) := Zmul (Zc 2) h15 (by omega) (by omega)
                                                    obtain ⟨m39, m39e⟩ : ∃ m : Int, Hd (x1 * x4 = m) := ⟨_, ⟨rfl⟩⟩
                                                    have m391 : 0 ≤ m39 := m39e.out ▸ Int.mul_nonneg (by omega) (by omega)
                                                    have m392 : m39 ≤ 600000000 := m39e.out ▸ (Int.mul_le_mul (by omega : x1 ≤ 3000) (by omega : x4 ≤ 200000) (by omega) (by omega) : x1 * x4 ≤ 3000 * 200000)
                                                    have m39o : m39 ≤ m27 := ((Int.mul_comm _ _).trans m39e.out) ▸ ((Int.mul_comm _ _).trans m27e.out) ▸ (Int.mul_le_mul_of_nonneg_right (by omega) (by omega) : x4 * x1 ≤ x3 * x1)
                                                    obtain ⟨m40, m40e⟩ : ∃ m : Int, Hd (x2 * x4 = m) := ⟨_, ⟨rfl⟩⟩
                                                    have m401 : 0 ≤ m40 := m40e.out ▸ Int.mul_nonneg (by omega) (by omega)
                                                    have m402 : m40 ≤ 600000000 := m40e.out ▸ (Int.mul_le_mul (by omega : x2 ≤ 3000) (by omega : x4 ≤ 200000) (by omega) (by omega) : x2 * x4 ≤ 3000 * 200000)
                                                    have m40o : m40 ≤ m28 := ((Int.mul_comm _ _).trans m40e.out) ▸ ((Int.mul_comm _ _).trans m28e.out) ▸ (Int.mul_le_mul_of_nonneg_right (by omega) (by omega) : x4 * x2 ≤ x3 * x2)
                                                    have h26 : Is ρ ws26 ((-2) * m39 + (-2) * m40) := Zmul h25 h2 (by omega) ((by simp only [Int.add_mul, Int.mul_add, Int.mul_assoc, Int.mul_comm, Int.mul_left_comm] <;> omega : ((-2) * x4) * (x1 + x2) = (-2) * (x1 * x4) + (-2) * (x2 * x4)).trans (by (try simp only [m39e.out, m40e.out]) <;> omega))
                                                    have h27 : Is ρ ws27 (2 * m39 + 2 * m40 + 1000 * x0) := Zsub h21 h26 (by omega) (by omega)
                                                    have h28 : Is ρ ws28 (2000 * x0) := Zmul (Zc 2000) e0 (by omega) (by omega)
                                                    refine ⟨fun g24 => ?_, fun g24 => ?_⟩
                                                    · have k24 : ((2 * m39 + 2 * m40 + 1000 * x0 : Int) ≤ 2000 * x0) := Zleqt h27 h28 g24
                                                      clear g24
                                                      exact rfl
                                                    · have k24 : ¬ (((2 * m39 + 2 * m40 + 1000 * x0 : Int) ≤ 2000 * x0)) := Zleqf h27 h28 g24
                                                      clear g24
                                                      omega
                                                  · have k23 : ¬ (((0 : Int) ≤ (-2) * m27 + (-2) * m28 + 1000 * x0)) := Zleqf (Zc 0) h24 g23
                                                    clear g23
                                                    omega
                                            · have k20 : ¬ (((1 : Int) ≤ x9)) := Zleqf (Zc 1) e9 g20
                                              clear g20
                                              refine ⟨fun g21 => ?_, fun g21 => ?_⟩
                                              · have k21 : ((x3 + x4 : Int) = 0) := Zeqlt h0 (Zc 0) g21
                                                clear g21
                                                have m27z : m27 = 0 := (by have i1 : x3 = 0 := (by omega); rw [← m27e.out, i1]; simp)
                                                have m28z : m28 = 0 := (by have i1 : x3 = 0 := (by omega); rw [← m28e.out, i1]; simp)
                                                omega
                                              · have k21 : ¬ (((x3 + x4 : Int) = 0)) := Zeqlf h0 (Zc 0) g21
                                                clear g21
                                                have h21 : Is ρ ws21 (1000 * x0) := Zmul (Zc 1000) e0 (by omega) (by omega)
                                                have h22 : Is ρ ws22 (2 * x3) := Zmul (Zc 2) e3 (by omega) (by omega)
                                                have h23 : Is ρ ws23 (2 * m27 + 2 * m28) := Zmul h22 h2 (by omega) ((by simp only [Int.add_mul, Int.mul_add, Int.mul_assoc, Int.mul_comm, Int.mul_left_comm] <;> omega : (2 * x3) * (x1 + x2) = 2 * (x1 * x3) + 2 * (x2 * x3)).trans (by (try simp only [m27e.out, m28e.out]) <;> omega))
                                                have h24 : Is ρ ws24 ((-2) * m27 + (-2) * m28 + 1000 * x0) := Zsub h21 h23 (by omega) (by omega)
                                                refine ⟨fun g22 => ?_, fun g22 => ?_⟩
                                                · have k22 : ((0 : Int) ≤ (-2) * m27 + (-2) * m28 + 1000 * x0) := Zleqt (Zc 0) h24 g22
                                                  clear g22
                                                  have h15 : Is ρ ws15 ((-1) * x4) := Zsub (Zc 0) e4 (by omega) (by omega)
                                                  have h25 : Is ρ ws25 ((-2) * x4) := Zmul (Zc 2) h15 (by omega) (by omega)
                                                  obtain ⟨m41, m41e⟩ : ∃ m : Int, Hd (x1 * x4 = m) := ⟨_, ⟨rfl⟩⟩
                                                  have m411 : 0 ≤ m41 := m41e.out ▸ Int.mul_nonneg (by omega) (by omega)
                                                  have m412 : m41 ≤ 600000000 := m41e.out ▸ (Int.mul_le_mul (by omega : x1 ≤ 3000) (by omega : x4 ≤ 200000) (by omega) (by omega) : x1 * x4 ≤ 3000 * 200000)
                                                  have m41o : m41 ≤ m27 := ((Int.mul_comm _ _).trans m41e.out) ▸ ((Int.mul_comm _ _).trans m27e.out) ▸ (Int.mul_le_mul_of_nonneg_right (by omega) (by omega) : x4 * x1 ≤ x3 * x1)
                                                  obtain ⟨m42, m42e⟩ : ∃ m : Int, Hd (x2 * x4 = m) := ⟨_, ⟨rfl⟩⟩
                                                  have m421 : 0 ≤ m42 := m42e.out ▸ Int.mul_nonneg (by omega) (by omega)
                                                  have m422 : m42 ≤ 600000000 := m42e.out ▸ (Int.mul_le_mul (by omega : x2 ≤ 3000) (by omega : x4 ≤ 200000) (by omega) (by omega) : x2 * x4 ≤ 3000 * 200000)
                                                  have m42o : m42 ≤ m28 := ((Int.mul_comm _ _).trans m42e.out) ▸ ((Int.mul_comm _ _).trans m28e.out) ▸ (Int.mul_le_mul_of_nonneg_right (by omega) (by omega) : x4 * x2 ≤ x3 * x2)
                                                  have h26 : Is ρ ws26 ((-2) * m41 + (-2) * m42) := Zmul h25 h2 (by omega) ((by simp only [Int.add_mul, Int.mul_add, Int.mul_assoc, Int.mul_comm, Int.mul_left_comm] <;> omega : ((-2) * x4) * (x1 + x2) = (-2) * (x1 * x4) + (-2) * (x2 * x4)).trans (by (try simp only [m41e.out, m42e.out]) <;> omega))
                                                  have h27 : Is ρ ws27 (2 * m41 + 2 * m42 + 1000 * x0) := Zsub h21 h26 (by omega) (by omega)
                                                  have h28 : Is ρ ws28 (2000 * x0) := Zmul (Zc 2000) e0 (by omega) (by omega)
                                                  refine ⟨fun g23 => ?_, fun g23 => ?_⟩
                                                  · have k23 : ((2 * m41 + 2 * m42 + 1000 * x0 : Int) ≤ 2000 * x0) := Zleqt h27 h28 g23
                                                    clear g23
                                                    exact rfl
                                                  · have k23 : ¬ (((2 * m41 + 2 * m42 + 1000 * x0 : Int) ≤ 2000 * x0)) := Zleqf h27 h28 g23
                                                    clear g23
                                                    omega
                                                · have k22 : ¬ (((0 : Int) ≤ (-2) * m27 + (-2) * m28 + 1000 * x0)) := Zleqf (Zc 0) h24 g22
                                                  clear g22
                                                  omega
                                          · have k19 : ¬ (((x8 : Int) ≤ 20000)) := Zleqf e8 (Zc 20000) g19
                                            clear g19
                                            refine ⟨fun g20 => ?_, fun g20 => ?_⟩
                                            · have k20 : ((x3 + x4 : Int) = 0) := Zeqlt h0 (Zc 0) g20
                                              clear g20
                                              have m27z : m27 = 0 := (by have i1 : x3 = 0 := (by omega); rw [← m27e.out, i1]; simp)
                                              have m28z : m28 = 0 := (by have i1 : x3 = 0 := (by omega); rw [← m28e.out, i1]; simp)
                                              omega
                                            · have k20 : ¬ (((x3 + x4 : Int) = 0)) := Zeqlf h0 (Zc 0) g20
                                              clear g20
                                              have h21 : Is ρ ws21 (1000 * x0) := Zmul (Zc 1000) e0 (by omega) (by omega)
                                              have h22 : Is ρ ws22 (2 * x3) := Zmul (Zc 2) e3 (by omega) (by omega)
                                              have h23 : Is ρ ws23 (2 * m27 + 2 * m28) := Zmul h22 h2 (by omega) ((by simp only [Int.add_mul, Int.mul_add, Int.mul_assoc, Int.mul_comm, Int.mul_left_comm] <;> omega : (2 * x3) * (x1 + x2) = 2 * (x1 * x3) + 2 * (x2 * x3)).trans (by (try simp only [m27e.out, m28e.out]) <;> omega))
                                              have h24 : Is ρ ws24 ((-2) * m27 + (-2) * m28 + 1000 * x0) := Zsub h21 h23 (by omega) (by omega)
                                              refine ⟨fun g21 => ?_, fun g21 => ?_⟩
                                              · have k21 : ((0 : Int) ≤ (-2) * m27 + (-2) * m28 + 1000 * x0) := Zleqt (Zc 0) h24 g21
                                                clear g21
                                                have h15 : Is ρ ws15 ((-1) * x4) := Zsub (Zc 0) e4 (by omega) (by omega)
                                                have h25 : Is ρ ws25 ((-2) * x4) := Zmul (Zc 2) h15 (by omega) (by omega)
                                                obtain ⟨m43, m43e⟩ : ∃ m : Int, Hd (x1 * x4 = m) := ⟨_, ⟨rfl⟩⟩
                                                have m431 : 0 ≤ m43 := m43e.out ▸ Int.mul_nonneg (by omega) (by omega)
                                                have m432 : m43 ≤ 600000000 := m43e.out ▸ (Int.mul_le_mul (by omega : x1 ≤ 3000) (by omega : x4 ≤ 200000) (by omega) (by omega) : x1 * x4 ≤ 3000 * 200000)
                                                have m43o : m43 ≤ m27 := ((Int.mul_comm _ _).trans m43e.out) ▸ ((Int.mul_comm _ _).trans m27e.out) ▸ (Int.mul_le_mul_of_nonneg_right (by omega) (by omega) : x4 * x1 ≤ x3 * x1)
                                                obtain ⟨m44, m44e⟩ : ∃ m : Int, Hd (x2 * x4 = m) := ⟨_, ⟨rfl⟩⟩
                                                have m441 : 0 ≤ m44 := m44e.out ▸ Int.mul_nonneg (by omega) (by omega)
                                                have m442 : m44 ≤ 600000000 := m44e.out ▸ (Int.mul_le_mul (by omega : x2 ≤ 3000) (by omega : x4 ≤ 200000) (by omega) (by omega) : x2 * x4 ≤ 3000 * 200000)
                                                have m44o : m44 ≤ m28 := ((Int.mul_comm _ _).trans m44e.out) ▸ ((Int.mul_comm _ _).trans m28e.out) ▸ (Int.mul_le_mul_of_nonneg_right (by omega) (by omega) : x4 * x2 ≤ x3 * x2)
                                                have h26 : Is ρ ws26 ((-2) * m43 + (-2) * m44) := Zmul h25 h2 (by omega) ((by simp only [Int.add_mul, Int.mul_add, Int.mul_assoc, Int.mul_comm, Int.mul_left_comm] <;> omega : ((-2) * x4) * (x1 + x2) = (-2) * (x1 * x4) + (-2) * (x2 * x4)).trans (by (try simp only [m43e.out, m44e.out]) <;> omega))
                                                have h27 : Is ρ ws27 (2 * m43 + 2 * m44 + 1000 * x0) := Zsub h21 h26 (by omega) (by omega)
                                                have h28 : Is ρ ws28 (2000 * x0) := Zmul (Zc 2000) e0 (by omega) (by omega)
                                                refine ⟨fun g22 => ?_, fun g22 => ?_⟩
                                                · have k22 : ((2 * m43 + 2 * m44 + 1000 * x0 : Int) ≤ 2000 * x0) := Zleqt h27 h28 g22
                                                  clear g22
                                                  exact rfl
                                                · have k22 : ¬ (((2 * m43 + 2 * m44 + 1000 * x0 : Int) ≤ 2000 * x0)) := Zleqf h27 h28 g22
                                                  clear g22
                                                  omega
                                              · have k21 : ¬ (((0 : Int) ≤ (-2) * m27 + (-2) * m28 + 1000 * x0)) := Zleqf (Zc 0) h24 g21
                                                clear g21
                                                omega
                                        · have k18 : ¬ (((0 : Int) ≤ x8)) := Zleqf (Zc 0) e8 g18
                                          clear g18
                                          refine ⟨fun g19 => ?_, fun g19 => ?_⟩
                                          · have k19 : ((x3 + x4 : Int) = 0) := Zeqlt h0 (Zc 0) g19
                                            clear g19
                                            have m27z : m27 = 0 := (by have i1 : x3 = 0 := (by omega); rw [← m27e.out, i1]; simp)
                                            have m28z : m28 = 0 := (by have i1 : x3 = 0 := (by omega); rw [← m28e.out, i1]; simp)
                                            omega
                                          · have k19 : ¬ (((x3 + x4 : Int) = 0)) := Zeqlf h0 (Zc 0) g19
                                            clear g19
                                            have h21 : Is ρ ws21 (1000 * x0) := Zmul (Zc 1000) e0 (by omega) (by omega)
                                            have h22 : Is ρ ws22 (2 * x3) := Zmul (Zc 2) e3 (by omega) (by omega)
                                            have h23 : Is ρ ws23 (2 * m27 + 2 * m28) := Zmul h22 h2 (by omega) ((by simp only [Int.add_mul, Int.mul_add, Int.mul_assoc, Int.mul_comm, Int.mul_left_comm] <;> omega : (2 * x3) * (x1 + x2) = 2 * (x1 * x3) + 2 * (x2 * x3)).trans (by (try simp only [m27e.out, m28e.out]) <;> omega))
                                            have h24 : Is ρ ws24 ((-2) * m27 + (-2) * m28 + 1000 * x0) := Zsub h21 h23 (by omega) (by omega)
                                            refine ⟨fun g20 => ?_, fun g20 => ?_⟩
                                            · have k20 : ((0 : Int) ≤ (-2) * m27 + (-2) * m28 + 1000 * x0) := Zleqt (Zc 0) h24 g20
                                              clear g20
                                              have h15 : Is ρ ws15 ((-1) * x4) := Zsub (Zc 0) e4 (by omega) (by omega)
                                              have h25 : Is ρ ws25 ((-2) * x4) := Zmul (Zc 2) h15 (by omega) (by omega)
                                              obtain ⟨m45, m45e⟩ : ∃ m : Int, Hd (x1 * x4 = m) := ⟨_, ⟨rfl⟩⟩
                                              have m451 : 0 ≤ m45 := m45e.out ▸ Int.mul_nonneg (by omega) (by omega)
                                              have m452 : m45 ≤ 600000000 := m45e.out ▸ (Int.mul_le_mul (by omega : x1 ≤ 3000) (by omega : x4 ≤ 200000) (by omega) (by omega) : x1 * x4 ≤ 3000 * 200000)
                                              have m45o : m45 ≤ m27 := ((Int.mul_comm _ _).trans m45e.out) ▸ ((Int.mul_comm _ _).trans m27e.out) ▸ (Int.mul_le_mul_of_nonneg_right (by omega) (by omega) : x4 * x1 ≤ x3 * x1)
                                              obtain ⟨m46, m46e⟩ : ∃ m : Int, Hd (x2 * x4 = m) := ⟨_, ⟨rfl⟩⟩
                                              have m461 : 0 ≤ m46 := m46e.out ▸ Int.mul_nonneg (by omega) (by omega)
                                              have m462 : m46 ≤ 600000000 := m46e.out ▸ (Int.mul_le_mul (by omega : x2 ≤ 3000) (by omega : x4 ≤ 200000) (by omega) (by omega) : x2 * x4 ≤ 3000 * 200000)
                                              have m46o : m46 ≤ m28 := ((Int.mul_comm _ _).trans m46e.out) ▸ ((Int.mul_comm _ _).trans m28e.out) ▸ (Int.mul_le_mul_of_nonneg_right (by omega) (by omega) : x4 * x2 ≤ x3 * x2)
                                              have h26 : Is ρ ws26 ((-2) * m45 + (-2) * m46) := Zmul h25 h2 (by omega) ((by simp only [Int.add_mul, Int.mul_add, Int.mul_assoc, Int.mul_comm, Int.mul_left_comm] <;> omega : ((-2) * x4) * (x1 + x2) = (-2) * (x1 * x4) + (-2) * (x2 * x4)).trans (by (try simp only [m45e.out, m46e.out]) <;> omega))
                                              have h27 : Is ρ ws27 (2 * m45 + 2 * m46 + 1000 * x0) := Zsub h21 h26 (by omega) (by omega)
                                              have h28 : Is ρ ws28 (2000 * x0) := Zmul (Zc 2000) e0 (by omega) (by omega)
                                              refine ⟨fun g21 => ?_, fun g21 => ?_⟩
                                              · have k21 : ((2 * m45 + 2 * m46 + 1000 * x0 : Int) ≤ 2000 * x0) := Zleqt h27 h28 g21
                                                clear g21
                                                exact rfl
                                              · have k21 : ¬ (((2 * m45 + 2 * m46 + 1000 * x0 : Int) ≤ 2000 * x0)) := Zleqf h27 h28 g21
                                                clear g21
                                                omega
                                            · have k20 : ¬ (((0 : Int) ≤ (-2) * m27 + (-2) * m28 + 1000 * x0)) := Zleqf (Zc 0) h24 g20
                                              clear g20
                                              omega
                                      · have k17 : ¬ (((x7 : Int) ≤ 20000)) := Zleqf e7 (Zc 20000) g17
                                        clear g17
                                        refine ⟨fun g18 => ?_, fun g18 => ?_⟩
                                        · have k18 : ((x3 + x4 : Int) = 0) := Zeqlt h0 (Zc 0) g18
                                          clear g18
                                          have m27z : m27 = 0 := (by have i1 : x3 = 0 := (by omega); rw [← m27e.out, i1]; simp)
                                          have m28z : m28 = 0 := (by have i1 : x3 = 0 := (by omega); rw [← m28e.out, i1]; simp)
                                          omega
                                        · have k18 : ¬ (((x3 + x4 : Int) = 0)) := Zeqlf h0 (Zc 0) g18
                                          clear g18
                                          have h21 : Is ρ ws21 (1000 * x0) := Zmul (Zc 1000) e0 (by omega) (by omega)
                                          have h22 : Is ρ ws22 (2 * x3) := Zmul (Zc 2) e3 (by omega) (by omega)
                                          have h23 : Is ρ ws23 (2 * m27 + 2 * m28) := Zmul h22 h2 (by omega) ((by simp only [Int.add_mul, Int.mul_add, Int.mul_assoc, Int.mul_comm, Int.mul_left_comm] <;> omega : (2 * x3) * (x1 + x2) = 2 * (x1 * x3) + 2 * (x2 * x3)).trans (by (try simp only [m27e.out, m28e.out]) <;> omega))
                                          have h24 : Is ρ ws24 ((-2) * m27 + (-2) * m28 + 1000 * x0) := Zsub h21 h23 (by omega) (by omega)
                                          refine ⟨fun g19 => ?_, fun g19 => ?_⟩
                                          · have k19 : ((0 : Int) ≤ (-2) * m27 + (-2) * m28 + 1000 * x0) := Zleqt (Zc 0) h24 g19
                                            clear g19
                                            have h15 : Is ρ ws15 ((-1) * x4) := Zsub (Zc 0) e4 (by omega) (by omega)
                                            have h25 : Is ρ ws25 ((-2) * x4) := Zmul (Zc 2) h15 (by omega) (by omega)
                                            obtain ⟨m47, m47e⟩ : ∃ m : Int, Hd (x1 * x4 = m) := ⟨_, ⟨rfl⟩⟩
                                            have m471 : 0 ≤ m47 := m47e.out ▸ Int.mul_nonneg (by omega) (by omega)
                                            have m472 : m47 ≤ 600000000 := m47e.out ▸ (Int.mul_le_mul (by omega : x1 ≤ 3000) (by omega : x4 ≤ 200000) (by omega) (by omega) : x1 * x4 ≤ 3000 * 200000)
                                            have m47o : m47 ≤ m27 := ((Int.mul_comm _ _).trans m47e.out) ▸ ((Int.mul_comm _ _).trans m27e.out) ▸ (Int.mul_le_mul_of_nonneg_right (by omega) (by omega) : x4 * x1 ≤ x3 * x1)
                                            obtain ⟨m48, m48e⟩ : ∃ m : Int, Hd (x2 * x4 = m) := ⟨_, ⟨rfl⟩⟩
                                            have m481 : 0 ≤ m48 := m48e.out ▸ Int.mul_nonneg (by omega) (by omega)
                                            have m482 : m48 ≤ 600000000 := m48e.out ▸ (Int.mul_le_mul (by omega : x2 ≤ 3000) (by omega : x4 ≤ 200000) (by omega) (by omega) : x2 * x4 ≤ 3000 * 200000)
                                            have m48o : m48 ≤ m28 := ((Int.mul_comm _ _).trans m48e.out) ▸ ((Int.mul_comm _ _).trans m28e.out) ▸ (Int.mul_le_mul_of_nonneg_right (by omega) (by omega) : x4 * x2 ≤ x3 * x2)
                                            have h26 : Is ρ ws26 ((-2) * m47 + (-2) * m48) := Zmul h25 h2 (by omega) ((by simp only [Int.add_mul, Int.mul_add, Int.mul_assoc, Int.mul_comm, Int.mul_left_comm] <;> omega : ((-2) * x4) * (x1 + x2) = (-2) * (x1 * x4) + (-2) * (x2 * x4)).trans (by (try simp only [m47e.out, m48e.out]) <;> omega))
                                            have h27 : Is ρ ws27 (2 * m47 + 2 * m48 + 1000 * x0) := Zsub h21 h26 (by omega) (by omega)
                                            have h28 : Is ρ ws28 (2000 * x0) := Zmul (Zc 2000) e0 (by omega) (by omega)
                                            refine ⟨fun g20 => ?_, fun g20 => ?_⟩
                                            · have k20 : ((2 * m47 + 2 * m48 + 1000 * x0 : Int) ≤ 2000 * x0) := Zleqt h27 h28 g20
                                              clear g20
                                              exact rfl
                                            · have k20 : ¬ (((2 * m47 + 2 * m48 + 1000 * x0 : Int) ≤ 2000 * x0)) := Zleqf h27 h28 g20
                                              clear g20
                                              omega
                                          · have k19 : ¬ (((0 : Int) ≤ (-2) * m27 + (-2) * m28 + 1000 * x0)) := Zleqf (Zc 0) h24 g19
                                            clear g19
                                            omega
                                    · have k16 : ¬ (((1001 : Int) ≤ x7)) := Zleqf (Zc 1001) e7 g16
                                      clear g16
                                      refine ⟨fun g17 => ?_, fun g17 => ?_⟩
                                      · have k17 : ((x3 + x4 : Int) = 0) := Zeqlt h0 (Zc 0) g17
                                        clear g17
                                        have m27z : m27 = 0 := (by have i1 : x3 = 0 := (by omega); rw [← m27e.out, i1]; simp)
                                        have m28z : m28 = 0 := (by have i1 : x3 = 0 := (by omega); rw [← m28e.out, i1]; simp)
                                        omega
                                      · have k17 : ¬ (((x3 + x4 : Int) = 0)) := Zeqlf h0 (Zc 0) g17
                                        clear g17
                                        have h21 : Is ρ ws21 (1000 * x0) := Zmul (Zc 1000) e0 (by omega) (by omega)
                                        have h22 : Is ρ ws22 (2 * x3) := Zmul (Zc 2) e3 (by omega) (by omega)
                                        have h23 : Is ρ ws23 (2 * m27 + 2 * m28) := Zmul h22 h2 (by omega) ((by simp only [Int.add_mul, Int.mul_add, Int.mul_assoc, Int.mul_comm, Int.mul_left_comm] <;> omega : (2 * x3) * (x1 + x2) = 2 * (x1 * x3) + 2 * (x2 * x3)).trans (by (try simp only [m27e.out, m28e.out]) <;> omega))
                                        have h24 : Is ρ ws24 ((-2) * m27 + (-2) * m28 + 1000 * x0) := Zsub h21 h23 (by omega) (by omega)
                                        refine ⟨fun g18 => ?_, fun g18 => ?_⟩
                                        · have k18 : ((0 : Int) ≤ (-2) * m27 + (-2) * m28 + 1000 * x0) := Zleqt (Zc 0) h24 g18
                                          clear g18
                                          have h15 : Is ρ ws15 ((-1) * x4) := Zsub (Zc 0) e4 (by omega) (by omega)
                                          have h25 : Is ρ ws25 ((-2) * x4) := Zmul (Zc 2) h15 (by omega) (by omega)
                                          obtain ⟨m49, m49e⟩ : ∃ m : Int, Hd (x1 * x4 = m) := ⟨_, ⟨rfl⟩⟩
                                          have m491 : 0 ≤ m49 := m49e.out ▸ Int.mul_nonneg (by omega) (by omega)
                                          have m492 : m49 ≤ 600000000 := m49e.out ▸ (Int.mul_le_mul (by omega : x1 ≤ 3000) (by omega : x4 ≤ 200000) (by omega) (by omega) : x1 * x4 ≤ 3000 * 200000)
                                          have m49o : m49 ≤ m27 := ((Int.mul_comm _ _).trans m49e.out) ▸ ((Int.mul_comm _ _).trans m27e.out) ▸ (Int.mul_le_mul_of_nonneg_right (by omega) (by omega) : x4 * x1 ≤ x3 * x1)
                                          obtain ⟨m50, m50e⟩ : ∃ m : Int, Hd (x2 * x4 = m) := ⟨_, ⟨rfl⟩⟩
                                          have m501 : 0 ≤ m50 := m50e.out ▸ Int.mul_nonneg (by omega) (by omega)
                                          have m502 : m50 ≤ 600000000 := m50e.out ▸ (Int.mul_le_mul (by omega : x2 ≤ 3000) (by omega : x4 ≤ 200000) (by omega) (by omega) : x2 * x4 ≤ 3000 * 200000)
                                          have m50o : m50 ≤ m28 := ((Int.mul_comm _ _).trans m50e.out) ▸ ((Int.mul_comm _ _).trans m28e.out) ▸ (Int.mul_le_mul_of_nonneg_right (by omega) (by omega) : x4 * x2 ≤ x3 * x2)
                                          have h26 : Is ρ ws26 ((-2) * m49 + (-2) * m50) := Zmul h25 h2 (by omega) ((by simp only [Int.add_mul, Int.mul_add, Int.mul_assoc, Int.mul_comm, Int.mul_left_comm] <;> omega : ((-2) * x4) * (x1 + x2) = (-2) * (x1 * x4) + (-2) * (x2 * x4)).trans (by (try simp only [m49e.out, m50e.out]) <;> omega))
                                          have h27 : Is ρ ws27 (2 * m49 + 2 * m50 + 1000 * x0) := Zsub h21 h26 (by omega) (by omega)
                                          have h28 : Is ρ ws28 (2000 * x0) := Zmul (Zc 2000) e0 (by omega) (by omega)
                                          refine ⟨fun g19 => ?_, fun g19 => ?_⟩
                                          · have k19 : ((2 * m49 + 2 * m50 + 1000 * x0 : Int) ≤ 2000 * x0) := Zleqt h27 h28 g19
                                            clear g19
                                            exact rfl
                                          · have k19 : ¬ (((2 * m49 + 2 * m50 + 1000 * x0 : Int) ≤ 2000 * x0)) := Zleqf h27 h28 g19
                                            clear g19
                                            omega
                                        · have k18 : ¬ (((0 : Int) ≤ (-2) * m27 + (-2) * m28 + 1000 * x0)) := Zleqf (Zc 0) h24 g18
                                          clear g18
                                          omega
                                  · have k15 : ¬ (((m27 + m28 : Int) ≤ 500 * x0)) := Zleqf h3 h4 g15
                                    clear g15
                                    refine ⟨fun g16 => ?_, fun g16 => ?_⟩
                                    · have k16 : ((x3 + x4 : Int) = 0) := Zeqlt h0 (Zc 0) g16
                                      clear g16
                                      have m27z : m27 = 0 := (by have i1 : x3 = 0 := (by omega); rw [← m27e.out, i1]; simp)
                                      have m28z : m28 = 0 := (by have i1 : x3 = 0 := (by omega); rw [← m28e.out, i1]; simp)
                                      omega
                                    · have k16 : ¬ (((x3 + x4 : Int) = 0)) := Zeqlf h0 (Zc 0) g16
                                      clear g16
                                      have h21 : Is ρ ws21 (1000 * x0) := Zmul (Zc 1000) e0 (by omega) (by omega)
                                      have h22 : Is ρ ws22 (2 * x3) := Zmul (Zc 2) e3 (by omega) (by omega)
                                      have h23 : Is ρ ws23 (2 * m27 + 2 * m28) := Zmul h22 h2 (by omega) ((by simp only [Int.add_mul, Int.mul_add, Int.mul_assoc, Int.mul_comm, Int.mul_left_comm] <;> omega : (2 * x3) * (x1 + x2) = 2 * (x1 * x3) + 2 * (x2 * x3)).trans (by (try simp only [m27e.out, m28e.out]) <;> omega))
                                      have h24 : Is ρ ws24 ((-2) * m27 + (-2) * m28 + 1000 * x0) := Zsub h21 h23 (by omega) (by omega)
                                      refine ⟨fun g17 => ?_, fun g17 => ?_⟩
                                      · have k17 : ((0 : Int) ≤ (-2) * m27 + (-2) * m28 + 1000 * x0) := Zleqt (Zc 0) h24 g17
                                        clear g17
                                        have h15 : Is ρ ws15 ((-1) * x4) := Zsub (Zc 0) e4 (by omega) (by omega)
                                        have h25 : Is ρ ws25 ((-2) * x4) := Zmul (Zc 2) h15 (by omega) (by omega)
                                        obtain ⟨m51, m51e⟩ : ∃ m : Int, Hd (x1 * x4 = m) := ⟨_, ⟨rfl⟩⟩
                                        have m511 : 0 ≤ m51 := m51e.out ▸ Int.mul_nonneg (by omega) (by omega)
                                        have m512 : m51 ≤ 600000000 := m51e.out ▸ (Int.mul_le_mul (by omega : x1 ≤ 3000) (by omega : x4 ≤ 200000) (by omega) (by omega) : x1 * x4 ≤ 3000 * 200000)
                                        have m51o : m51 ≤ m27 := ((Int.mul_comm _ _).trans m51e.out) ▸ ((Int.mul_comm _ _).trans m27e.out) ▸ (Int.mul_le_mul_of_nonneg_right (by omega) (by omega) : x4 * x1 ≤ x3 * x1)
                                        obtain ⟨m52, m52e⟩ : ∃ m : Int, Hd (x2 * x4 = m) := ⟨_, ⟨rfl⟩⟩
                                        have m521 : 0 ≤ m52 := m52e.out ▸ Int.mul_nonneg (by omega) (by omega)
                                        have m522 : m52 ≤ 600000000 := m52e.out ▸ (Int.mul_le_mul (by omega : x2 ≤ 3000) (by omega : x4 ≤ 200000) (by omega) (by omega) : x2 * x4 ≤ 3000 * 200000)
                                        have m52o : m52 ≤ m28 := ((Int.mul_comm _ _).trans m52e.out) ▸ ((Int.mul_comm _ _).trans m28e.out) ▸ (Int.mul_le_mul_of_nonneg_right (by omega) (by omega) : x4 * x2 ≤ x3 * x2)
                                        have h26 : Is ρ ws26 ((-2) * m51 + (-2) * m52) := Zmul h25 h2 (by omega) ((by simp only [Int.add_mul, Int.mul_add, Int.mul_assoc, Int.mul_comm, Int.mul_left_comm] <;> omega : ((-2) * x4) * (x1 + x2) = (-2) * (x1 * x4) + (-2) * (x2 * x4)).trans (by (try simp only [m51e.out, m52e.out]) <;> omega))
                                        have h27 : Is ρ ws27 (2 * m51 + 2 * m52 + 1000 * x0) := Zsub h21 h26 (by omega) (by omega)
                                        have h28 : Is ρ ws28 (2000 * x0) := Zmul (Zc 2000) e0 (by omega) (by omega)
                                        refine ⟨fun g18 => ?_, fun g18 => ?_⟩
                                        · have k18 : ((2 * m51 + 2 * m52 + 1000 * x0 : Int) ≤ 2000 * x0) := Zleqt h27 h28 g18
                                          clear g18
                                          omega
                                        · have k18 : ¬ (((2 * m51 + 2 * m52 + 1000 * x0 : Int) ≤ 2000 * x0)) := Zleqf h27 h28 g18
                                          clear g18
                                          exact rfl
                                      · have k17 : ¬ (((0 : Int) ≤ (-2) * m27 + (-2) * m28 + 1000 * x0)) := Zleqf (Zc 0) h24 g17
                                        clear g17
                                        exact rfl
                              · have k14 : ¬ (((1 : Int) ≤ x3 + x4)) := Zleqf (Zc 1) h0 g14
                                clear g14
                                refine ⟨fun g15 => ?_, fun g15 => ?_⟩
                                · have k15 : ((x3 + x4 : Int) = 0) := Zeqlt h0 (Zc 0) g15
                                  clear g15
                                  exact rfl
                                · have k15 : ¬ (((x3 + x4 : Int) = 0)) := Zeqlf h0 (Zc 0) g15
                                  clear g15
                                  omega
                            · have k13 : ¬ (((x6 : Int) ≤ 100)) := Zleqf e6 (Zc 100) g13
                              clear g13
                              have h0 : Is ρ ws0 (x3 + x4) := Zadd e3 e4 (by omega) (by omega)
                              refine ⟨fun g14 => ?_, fun g14 => ?_⟩
                              · have k14 : ((x3 + x4 : Int) = 0) := Zeqlt h0 (Zc 0) g14
                                clear g14
                                exact rfl
                              · have k14 : ¬ (((x3 + x4 : Int) = 0)) := Zeqlf h0 (Zc 0) g14
                                clear g14
                                exact rfl
                          · have k12 : ¬ (((0 : Int) ≤ x6)) := Zleqf (Zc 0) e6 g12
                            clear g12
                            have h0 : Is ρ ws0 (x3 + x4) := Zadd e3 e4 (by omega) (by omega)
                            refine ⟨fun g13 => ?_, fun g13 => ?_⟩
                            · have k13 : ((x3 + x4 : Int) = 0) := Zeqlt h0 (Zc 0) g13
                              clear g13
                              exact rfl
                            · have k13 : ¬ (((x3 + x4 : Int) = 0)) := Zeqlf h0 (Zc 0) g13
                              clear g13
                              exact rfl
                        · have k11 : ¬ (((x5 : Int) ≤ 8)) := Zleqf e5 (Zc 8) g11
                          clear g11
                          have h0 : Is ρ ws0 (x3 + x4) := Zadd e3 e4 (by omega) (by omega)
                          refine ⟨fun g12 => ?_, fun g12 => ?_⟩
                          · have k12 : ((x3 + x4 : Int) = 0) := Zeqlt h0 (Zc 0) g12
                            clear g12
                            exact rfl
                          · have k12 : ¬ (((x3 + x4 : Int) = 0)) := Zeqlf h0 (Zc 0) g12
                            clear g12
                            exact rfl
                      · have k10 : ¬ (((1 : Int) ≤ x5)) := Zleqf (Zc 1) e5 g10
                        clear g10
                        have h0 : Is ρ ws0 (x3 + x4) := Zadd e3 e4 (by omega) (by omega)
                        refine ⟨fun g11 => ?_, fun g11 => ?_⟩
                        · have k11 : ((x3 + x4 : Int) = 0) := Zeqlt h0 (Zc 0) g11
                          clear g11
                          exact rfl
                        · have k11 : ¬ (((x3 + x4 : Int) = 0)) := Zeqlf h0 (Zc 0) g11
                          clear g11
                          exact rfl
                    · have k9 : ¬ (((x4 : Int) ≤ 200000)) := Zleqf e4 (Zc 200000) g9
                      clear g9
                      exact rfl
                  · have k8 : ¬ (((0 : Int) ≤ x4)) := Zleqf (Zc 0) e4 g8
                    clear g8
                    exact rfl
                · have k7 : ¬ (((x3 : Int) ≤ 200000)) := Zleqf e3 (Zc 200000) g7
                  clear g7
                  exact rfl
              · have k6 : ¬ (((0 : Int) ≤ x3)) := Zleqf (Zc 0) e3 g6
                clear g6
                exact rfl
            · have k5 : ¬ (((x2 : Int) ≤ 3000)) := Zleqf e2 (Zc 3000) g5
              clear g5
              exact rfl
          · have k4 : ¬ (((0 : Int) ≤ x2)) := Zleqf (Zc 0) e2 g4
            clear g4
            exact rfl
        · have k3 : ¬ (((x1 : Int) ≤ 3000)) := Zleqf e1 (Zc 3000) g3
          clear g3
          exact rfl
      · have k2 : ¬ (((0 : Int) ≤ x1)) := Zleqf (Zc 0) e1 g2
        clear g2
        exact rfl
    · have k1 : ¬ (((x0 : Int) ≤ 200000)) := Zleqf e0 (Zc 200000) g1
      clear g1
      exact rfl
  · have k0 : ¬ (((100 : Int) ≤ x0)) := Zleqf (Zc 100) e0 g0
    clear g0
    exact rfl
end Go.Proofs.YtkmhmmibdfalpaaGreat.Cx
