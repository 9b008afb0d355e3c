/- The tests of a law and their arithmetic. Made by tools/cxgoal.py. -/
import Derived.Test.YtlffofemajfdjaaTGaugeT
set_option linter.unusedSimpArgs false
set_option linter.unusedVariables false
set_option maxRecDepth 100000
set_option maxHeartbeats 4000000
namespace Go.Proofs.Ytlffofemajfdjaa.Cx
open Go Go.RowKit

theorem tg_goal {ρ : Env} {x0 x1 x2 x3 x4 x5 : Int} (e0 : Is ρ (.v 0) x0) (r0 : 0 ≤ x0 ∧ x0 ≤ 255) (e1 : Is ρ (.v 1) x1) (r1 : 0 ≤ x1 ∧ x1 ≤ 255) (e2 : Is ρ (.v 2) x2) (r2 : 0 ≤ x2 ∧ x2 ≤ 255) (e3 : Is ρ (.v 3) x3) (r3 : 0 ≤ x3 ∧ x3 ≤ 255) (e4 : Is ρ (.v 4) x4) (r4 : 0 ≤ x4 ∧ x4 ≤ 255) (e5 : Is ρ (.v 5) x5) (r5 : 0 ≤ x5 ∧ x5 ≤ 65535)  : tgTree.goal ρ := by
  have h0 : Is ρ tg0 (x4) := Zconv e4 (by omega)
  have h1 : Is ρ tg1 (x4 + 50000) := Zadd (Zc 50000) h0 (by omega) (by omega)
  refine ⟨fun g0 => ?_, fun g0 => ?_⟩
  · have k0 : ((50000 : Int) ≤ x4 + 50000) := Zleqt (Zc 50000) h1 g0
    clear g0
    clear k0
    refine ⟨fun g1 => ?_, fun g1 => ?_⟩
    · have k1 : ((x4 + 50000 : Int) ≤ 10000000) := Zleqt h1 (Zc 10000000) g1
      clear g1
      clear k1
      have h2 : Is ρ tg2 (x5) := Zconv e5 (by omega)
      obtain ⟨q1, q1e⟩ : ∃ q : Int, Hd ((x5) / 1000 = q) := ⟨_, ⟨rfl⟩⟩
      obtain ⟨r2, r2e⟩ : ∃ q : Int, Hd ((x5) % 1000 = q) := ⟨_, ⟨rfl⟩⟩
      have q11 : x5 = 1000 * q1 + r2 := by have i1 := q1e.out; have i2 := r2e.out; omega
      have q12 : 0 ≤ r2 ∧ r2 ≤ 999 ∧ 0 ≤ q1 ∧ q1 ≤ 65 := by have i1 := q1e.out; have i2 := r2e.out; omega
      have h3 : Is ρ tg3 (r2) := Zremp h2 (Zc 1000) (by omega) r2e.out
      have h4 : Is ρ tg4 (r2 + 1) := Zadd (Zc 1) h3 (by omega) (by omega)
      refine ⟨fun g2 => ?_, fun g2 => ?_⟩
      · have k2 : ((1 : Int) ≤ r2 + 1) := Zleqt (Zc 1) h4 g2
        clear g2
        clear k2
        refine ⟨fun g3 => ?_, fun g3 => ?_⟩
        · have k3 : ((r2 + 1 : Int) ≤ 100000) := Zleqt h4 (Zc 100000) g3
          clear g3
          clear k3
          have h5 : Is ρ tg5 (3 * r2 + 3) := Zmul (Zc 3) h4 (by omega) (by omega)
          have h6 : Is ρ tg6 ((-3) * r2 + (-3)) := Zsub (Zc 0) h5 (by omega) (by omega)
          obtain ⟨q3, q3e⟩ : ∃ q : Int, Hd ((3 * r2 + 3) / 1000 = q) := ⟨_, ⟨rfl⟩⟩
          obtain ⟨r4, r4e⟩ : ∃ q : Int, Hd ((3 * r2 + 3) % 1000 = q) := ⟨_, ⟨rfl⟩⟩
          have q31 : 3 * r2 + 3 = 1000 * q3 + r4 := by have i1 := q3e.out; have i2 := r4e.out; omega
          have q32 : 0 ≤ r4 ∧ r4 ≤ 999 ∧ 0 ≤ q3 ∧ q3 ≤ 3 := by have i1 := q3e.out; have i2 := r4e.out; omega
          have h7 : Is ρ tg7 ((-1) * r4) := Zremn h6 (Zc 1000) (by omega) (by have i1 := q3e.out; have i2 := r4e.out; omega)
          refine ⟨fun g4 => ?_, fun g4 => ?_⟩
          · have k4 : (((-1) * r4 : Int) ≤ 0) := Zleqt h7 (Zc 0) g4
            clear g4
            clear k4
            have h8 : Is ρ tg8 (90 * r2 + 90) := Zmul (Zc 90) h4 (by omega) (by omega)
            obtain ⟨q5, q5e⟩ : ∃ q : Int, Hd ((90 * r2 + 90) / 1000 = q) := ⟨_, ⟨rfl⟩⟩
            obtain ⟨r6, r6e⟩ : ∃ q : Int, Hd ((90 * r2 + 90) % 1000 = q) := ⟨_, ⟨rfl⟩⟩
            have q51 : 90 * r2 + 90 = 1000 * q5 + r6 := by have i1 := q5e.out; have i2 := r6e.out; omega
            have q52 : 0 ≤ r6 ∧ r6 ≤ 999 ∧ 0 ≤ q5 ∧ q5 ≤ 90 := by have i1 := q5e.out; have i2 := r6e.out; omega
            have h9 : Is ρ tg9 (r6) := Zremp h8 (Zc 1000) (by omega) r6e.out
            refine ⟨fun g5 => ?_, fun g5 => ?_⟩
            · have k5 : ((r6 : Int) ≤ 0) := Zleqt h9 (Zc 0) g5
              clear g5
              have h10 : Is ρ tg10 (x4 + 50000) := Zmx (Zc 50000) h1 (by omega)
              have h11 : Is ρ tg11 ((-1) * q3) := Zquon h6 (Zc 1000) (by omega) (by omega) (by have i1 := q3e.out; have i2 := r4e.out; omega)
              have h12 : Is ρ tg12 (q3) := Zsub (Zc 0) h11 (by omega) (by omega)
              have h13 : Is ρ tg13 ((-1) * q3 + x4 + 50000) := Zsub h10 h12 (by omega) (by omega)
              have h14 : Is ρ tg14 ((-1) * q3 + x4 + 50000) := Zmn h13 h13 (by omega)
              refine ⟨fun g6 => ?_, fun g6 => ?_⟩
              · have k6 : (((-1) * q3 + x4 + 50000 : Int) ≤ (-1) * q3 + x4 + 50000) := Zleqt h13 h14 g6
                clear g6
                clear k6
                have h15 : Is ρ tg15 (50000) := Zmn (Zc 50000) h1 (by omega)
                have h16 : Is ρ tg16 (q5) := Zquop h8 (Zc 1000) (by omega) (by omega) q5e.out
                have h17 : Is ρ tg17 ((-1) * q5 + 50000) := Zsub h15 h16 (by omega) (by omega)
                have h18 : Is ρ tg18 (q3 + (-1) * q5 + 50000) := Zadd h17 h12 (by omega) (by omega)
                obtain ⟨u7, u7e⟩ : ∃ m : Int, max (50000) (q3 + (-1) * q5 + 50000) = m := ⟨_, rfl⟩
                have h19 : Is ρ tg19 (u7) := Zmx h15 h18 (by omega)
                refine ⟨fun g7 => ?_, fun g7 => ?_⟩
                · have k7 : ((u7 : Int) ≤ 50000) := Zleqt h19 h15 g7
                  clear g7
                  have h20 : Is ρ tg20 ((-1) * q5) := Zsub (Zc 0) h16 (by omega) (by omega)
                  have h21 : Is ρ tg21 ((-1) * q3 + q5 + x4 + 50000) := Zsub h14 h20 (by omega) (by omega)
                  obtain ⟨u8, u8e⟩ : ∃ m : Int, min (x4 + 50000) ((-1) * q3 + q5 + x4 + 50000) = m := ⟨_, rfl⟩
                  have h22 : Is ρ tg22 (u8) := Zmn h10 h21 (by omega)
                  refine ⟨fun g8 => ?_, fun g8 => ?_⟩
                  · have k8 : ((x4 + 50000 : Int) ≤ u8) := Zleqt h10 h22 g8
                    clear g8
                    have h23 : Is ρ tg23 ((-1) * q5 + u7) := Zadd h19 h20 (by omega) (by omega)
                    have h24 : Is ρ tg24 ((-1) * q5 + u7) := Zmx h17 h23 (by omega)
                    refine ⟨fun g9 => ?_, fun g9 => ?_⟩
                    · have k9 : (((-1) * q5 + u7 : Int) ≤ (-1) * q5 + 50000) := Zleqt h24 h17 g9
                      clear g9
                      refine ⟨fun g10 => ?_, fun g10 => ?_⟩
                      · have k10 : ((u7 : Int) ≤ u8) := Zleqt h19 h22 g10
                        clear g10
                        refine ⟨fun g11 => ?_, fun g11 => ?_⟩
                        · have k11 : (((-1) * q5 + u7 : Int) ≤ (-1) * q3 + x4 + 50000) := Zleqt h24 h14 g11
                          clear g11
                          obtain ⟨u9, u9e⟩ : ∃ m : Int, min ((-1) * q5 + u7) ((-1) * q3 + x4 + 50000) = m := ⟨_, rfl⟩
                          have h25 : Is ρ tg25 (u9) := Zmn h24 h14 (by omega)
                          refine ⟨fun g12 => ?_, fun g12 => ?_⟩
                          · have k12 : ((1 : Int) ≤ u9) := Zleqt (Zc 1) h25 g12
                            clear g12
                            clear k12
                            obtain ⟨u10, u10e⟩ : ∃ m : Int, max ((-1) * q5 + u7) ((-1) * q3 + x4 + 50000) = m := ⟨_, rfl⟩
                            have h26 : Is ρ tg26 (u10) := Zmx h24 h14 (by omega)
                            refine ⟨fun g13 => ?_, fun g13 => ?_⟩
                            · have k13 : ((u10 : Int) ≤ x4 + 50000) := Zleqt h26 h1 g13
                              clear g13
                              have h27 : Is ρ tg27 (x0) := Zconv e0 (by omega)
                              have h28 : Is ρ tg28 (4 * x0) := Zmul (Zc 4) h27 (by omega) (by omega)
                              have h29 : Is ρ tg29 (4 * x0 + 9000) := Zadd (Zc 9000) h28 (by omega) (by omega)
                              refine ⟨fun g14 => ?_, fun g14 => ?_⟩
                              · have k14 : ((100 : Int) ≤ 4 * x0 + 9000) := Zleqt (Zc 100) h29 g14
                                clear g14
                                clear k14
                                refine ⟨fun g15 => ?_, fun g15 => ?_⟩
                                · have k15 : ((4 * x0 + 9000 : Int) ≤ 200000) := Zleqt h29 (Zc 200000) g15
                                  clear g15
                                  clear k15
                                  have h30 : Is ρ tg30 (x1) := Zconv e1 (by omega)
                                  have h31 : Is ρ tg31 (x1 + 400) := Zadd (Zc 400) h30 (by omega) (by omega)
                                  refine ⟨fun g16 => ?_, fun g16 => ?_⟩
                                  · have k16 : ((0 : Int) ≤ x1 + 400) := Zleqt (Zc 0) h31 g16
                                    clear g16
                                    clear k16
                                    refine ⟨fun g17 => ?_, fun g17 => ?_⟩
                                    · have k17 : ((x1 + 400 : Int) ≤ 3000) := Zleqt h31 (Zc 3000) g17
                                      clear g17
                                      clear k17
                                      have h32 : Is ρ tg32 (x2) := Zconv e2 (by omega)
                                      have h33 : Is ρ tg33 (x2 + 400) := Zadd (Zc 400) h32 (by omega) (by omega)
                                      refine ⟨fun g18 => ?_, fun g18 => ?_⟩
                                      · have k18 : ((0 : Int) ≤ x2 + 400) := Zleqt (Zc 0) h33 g18
                                        clear g18
                                        clear k18
                                        refine ⟨fun g19 => ?_, fun g19 => ?_⟩
                                        · have k19 : ((x2 + 400 : Int) ≤ 3000) := Zleqt h33 (Zc 3000) g19
                                          clear g19
                                          clear k19
                                          have h34 : Is ρ tg34 (x3) := Zconv e3 (by omega)
                                          obtain ⟨q11, q11e⟩ : ∃ q : Int, Hd ((x3) / 100 = q) := ⟨_, ⟨rfl⟩⟩
                                          obtain ⟨r12, r12e⟩ : ∃ q : Int, Hd ((x3) % 100 = q) := ⟨_, ⟨rfl⟩⟩
                                          have q111 : x3 = 100 * q11 + r12 := by have i1 := q11e.out; have i2 := r12e.out; omega
                                          have q112 : 0 ≤ r12 ∧ r12 ≤ 99 ∧ 0 ≤ q11 ∧ q11 ≤ 2 := by have i1 := q11e.out; have i2 := r12e.out; omega
                                          have h35 : Is ρ tg35 (r12) := Zremp h34 (Zc 100) (by omega) r12e.out
                                          have h36 : Is ρ tg36 (r12 + 1) := Zadd (Zc 1) h35 (by omega) (by omega)
                                          refine ⟨fun g20 => ?_, fun g20 => ?_⟩
                                          · have k20 : ((0 : Int) ≤ r12 + 1) := Zleqt (Zc 0) h36 g20
                                            clear g20
                                            clear k20
                                            refine ⟨fun g21 => ?_, fun g21 => ?_⟩
                                            · have k21 : ((r12 + 1 : Int) ≤ 100) := Zleqt h36 (Zc 100) g21
                                              clear g21
                                              clear k21
                                              have h37 : Is ρ tg37 (x1 + x2 + 800) := Zadd h31 h33 (by omega) (by omega)
                                              have h38 : Is ρ tg38 (46 * x1 + 46 * x2 + 36800) := Zmul (Zc 46) h37 (by omega) (by omega)
                                              have h39 : Is ρ tg39 (2000 * x0 + 4500000) := Zmul (Zc 500) h29 (by omega) (by omega)
                                              refine ⟨fun g22 => ?_, fun g22 => ?_⟩
                                              · have k22 : ((46 * x1 + 46 * x2 + 36800 : Int) ≤ 2000 * x0 + 4500000) := Zleqt h38 h39 g22
                                                clear g22
                                                clear k22
                                                refine ⟨fun g23 => ?_, fun g23 => ?_⟩
                                                · have k23 : ((u9 : Int) ≤ 51000) := Zleqt h25 (Zc 51000) g23
                                                  clear g23
                                                  clear k23
                                                  refine ⟨fun g24 => ?_, fun g24 => ?_⟩
                                                  · have k24 : ((r12 + 1 : Int) = 0) := Zeqlt h36 (Zc 0) g24
                                                    clear g24
                                                    omega
                                                  · have k24 : ¬ (((r12 + 1 : Int) = 0)) := Zeqlf h36 (Zc 0) g24
                                                    clear g24
                                                    have h40 : Is ρ tg40 ((-1) * u9 + 51000) := Zsub (Zc 51000) h25 (by omega) (by omega)
                                                    have h41 : Is ρ tg41 ((-500) * u9 + 25500000) := Zmul h40 (Zc 500) (by omega) (by omega)
                                                    refine ⟨fun g25 => ?_, fun g25 => ?_⟩
                                                    · have k25 : (((-9223372036854775807) : Int) ≤ (-500) * u9 + 25500000) := Zleqt (Zc (-9223372036854775807)) h41 g25
                                                      clear g25
                                                      clear k25
                                                      refine ⟨fun g26 => ?_, fun g26 => ?_⟩
                                                      · have k26 : (((-500) * u9 + 25500000 : Int) ≤ 9223372036854775807) := Zleqt h41 (Zc 9223372036854775807) g26
                                                        clear g26
                                                        clear k26
                                                        have h42 : Is ρ tg42 (4 * x0 + 9000) := Zmul h29 (Zc 1) (by omega) (by omega)
                                                        obtain ⟨m13, m13e⟩ : ∃ m : Int, Hd (r12 * x0 = m) := ⟨_, ⟨rfl⟩⟩
                                                        have m131 : 0 ≤ m13 := m13e.out ▸ Int.mul_nonneg (by omega) (by omega)
                                                        have m132 : m13 ≤ 25245 := m13e.out ▸ (Int.mul_le_mul (by omega : r12 ≤ 99) (by omega : x0 ≤ 255) (by omega) (by omega) : r12 * x0 ≤ 99 * 255)
                                                        have h43 : Is ρ tg43 (4 * m13 + 9000 * r12 + 4 * x0 + 9000) := Zmul h36 h42 (by omega) ((by simp only [Int.add_mul, Int.mul_add, Int.mul_assoc, Int.mul_comm, Int.mul_left_comm] <;> omega : (r12 + 1) * (4 * x0 + 9000) = 4 * (r12 * x0) + 9000 * r12 + 4 * x0 + 9000).trans (by (try simp only [m13e.out]) <;> omega))
                                                        refine ⟨fun g27 => ?_, fun g27 => ?_⟩
                                                        · have k27 : ((1 : Int) ≤ 4 * m13 + 9000 * r12 + 4 * x0 + 9000) := Zleqt (Zc 1) h43 g27
                                                          clear g27
                                                          clear k27
                                                          refine ⟨fun g28 => ?_, fun g28 => ?_⟩
                                                          · have k28 : ((4 * m13 + 9000 * r12 + 4 * x0 + 9000 : Int) ≤ 9223372036854775807) := Zleqt h43 (Zc 9223372036854775807) g28
                                                            clear g28
                                                            clear k28
                                                            refine ⟨fun g29 => ?_, fun g29 => ?_⟩
                                                            · have k29 : ((1 : Int) ≤ u10) := Zleqt (Zc 1) h26 g29
                                                              clear g29
                                                              clear k29
                                                              refine ⟨fun g30 => ?_, fun g30 => ?_⟩
                                                              · have k30 : ((u10 : Int) ≤ 51000) := Zleqt h26 (Zc 51000) g30
                                                                clear g30
                                                                clear k30
                                                                have h44 : Is ρ tg44 ((-1) * u10 + 51000) := Zsub (Zc 51000) h26 (by omega) (by omega)
                                                                have h45 : Is ρ tg45 ((-500) * u10 + 25500000) := Zmul h44 (Zc 500) (by omega) (by omega)
                                                                refine ⟨fun g31 => ?_, fun g31 => ?_⟩
                                                                · have k31 : (((-9223372036854775807) : Int) ≤ (-500) * u10 + 25500000) := Zleqt (Zc (-9223372036854775807)) h45 g31
                                                                  clear g31
                                                                  clear k31
                                                                  refine ⟨fun g32 => ?_, fun g32 => ?_⟩
                                                                  · have k32 : (((-500) * u10 + 25500000 : Int) ≤ 9223372036854775807) := Zleqt h45 (Zc 9223372036854775807) g32
                                                                    clear g32
                                                                    clear k32
                                                                    refine ⟨fun g33 => ?_, fun g33 => ?_⟩
                                                                    · have k33 : ((1 : Int) ≤ x4 + 50000) := Zleqt (Zc 1) h1 g33
                                                                      clear g33
                                                                      clear k33
                                                                      refine ⟨fun g34 => ?_, fun g34 => ?_⟩
                                                                      · have k34 : ((x4 + 50000 : Int) ≤ 51000) := Zleqt h1 (Zc 51000) g34
                                                                        clear g34
                                                                        clear k34
                                                                        have h46 : Is ρ tg46 ((-1) * x4 + 1000) := Zsub (Zc 51000) h1 (by omega) (by omega)
                                                                        have h47 : Is ρ tg47 ((-500) * x4 + 500000) := Zmul h46 (Zc 500) (by omega) (by omega)
                                                                        refine ⟨fun g35 => ?_, fun g35 => ?_⟩
                                                                        · have k35 : (((-9223372036854775807) : Int) ≤ (-500) * x4 + 500000) := Zleqt (Zc (-9223372036854775807)) h47 g35
                                                                          clear g35
                                                                          clear k35
                                                                          refine ⟨fun g36 => ?_, fun g36 => ?_⟩
                                                                          · have k36 : (((-500) * x4 + 500000 : Int) ≤ 9223372036854775807) := Zleqt h47 (Zc 9223372036854775807) g36
                                                                            clear g36
                                                                            clear k36
                                                                            obtain ⟨g14, g14e, g141⟩ := gcd_ex ((-500) * u9 + 25500000) (4 * m13 + 9000 * r12 + 4 * x0 + 9000) (by omega)
                                                                            have h48 : Is ρ tg48 (g14) := Zgcd h41 h43 g14e.out
                                                                            obtain ⟨q15, q15e, q151, q152, q153⟩ := gq_ex (X := 4 * m13 + 9000 * r12 + 4 * x0 + 9000) (h := 1002000) g14e (by omega) (by omega) (by omega) g141
                                                                            replace q153 := q153 (by omega)
                                                                            have h49 : Is ρ tg49 (q15) := Zgq h43 h48 q15e.out g141 (by omega)
                                                                            refine ⟨fun g37 => ?_, fun g37 => ?_⟩
                                                                            · have k37 : ((1 : Int) ≤ q15) := Zleqt (Zc 1) h49 g37
                                                                              clear g37
                                                                              clear k37
                                                                              obtain ⟨g16, g16e, g161⟩ := gcd_ex ((-500) * u10 + 25500000) (4 * m13 + 9000 * r12 + 4 * x0 + 9000) (by omega)
                                                                              have h50 : Is ρ tg50 (g16) := Zgcd h45 h43 g16e.out
                                                                              obtain ⟨q17, q17e, q171, q172, q173⟩ := gq_ex (X := 4 * m13 + 9000 * r12 + 4 * x0 + 9000) (h := 1002000) g16e (by omega) (by omega) (by omega) g161
                                                                              replace q173 := q173 (by omega)
                                                                              have h51 : Is ρ tg51 (q17) := Zgq h43 h50 q17e.out g161 (by omega)
                                                                              refine ⟨fun g38 => ?_, fun g38 => ?_⟩
                                                                              · have k38 : ((1 : Int) ≤ q17) := Zleqt (Zc 1) h51 g38
                                                                                clear g38
                                                                                clear k38
                                                                                obtain ⟨g18, g18e, g181⟩ := gcd_ex ((-500) * x4 + 500000) (4 * m13 + 9000 * r12 + 4 * x0 + 9000) (by omega)
                                                                                have h52 : Is ρ tg52 (g18) := Zgcd h47 h43 g18e.out
                                                                                obtain ⟨q19, q19e, q191, q192, q193⟩ := gq_ex (X := 4 * m13 + 9000 * r12 + 4 * x0 + 9000) (h := 1002000) g18e (by omega) (by omega) (by omega) g181
                                                                                replace q193 := q193 (by omega)
                                                                                have h53 : Is ρ tg53 (q19) := Zgq h43 h52 q19e.out g181 (by omega)
                                                                                refine ⟨fun g39 => ?_, fun g39 => ?_⟩
                                                                                · have k39 : ((1 : Int) ≤ q19) := Zleqt (Zc 1) h53 g39
                                                                                  clear g39
                                                                                  clear k39
                                                                                  obtain ⟨q20, q20e, q201, q202, q203⟩ := gq_ex (X := (-500) * u9 + 25500000) (h := 545000) g14e (by omega) (by omega) (by omega) g141
                                                                                  replace q203 := q203 (by omega)
                                                                                  have h54 : Is ρ tg54 (q20) := Zgq h41 h48 q20e.out g141 (by omega)
                                                                                  obtain ⟨q21, q21e, q211, q212, q213⟩ := gq_ex (X := (-500) * u10 + 25500000) (h := 501500) g16e (by omega) (by omega) (by omega) g161
                                                                                  replace q213 := q213 (by omega)
                                                                                  have h56 : Is ρ tg56 (q21) := Zgq h45 h50 q21e.out g161 (by omega)
                                                                                  obtain ⟨m22, m22e⟩ : ∃ m : Int, Hd (q17 * q20 = m) := ⟨_, ⟨rfl⟩⟩
                                                                                  have m221 : 0 ≤ m22 := m22e.out ▸ Int.mul_nonneg (by omega) (by omega)
                                                                                  have m222 : m22 ≤ 546090000000 := m22e.out ▸ (Int.mul_le_mul (by omega : q17 ≤ 1002000) (by omega : q20 ≤ 545000) (by omega) (by omega) : q17 * q20 ≤ 1002000 * 545000)
                                                                                  have h55 : Is ρ tg55 (m22) := Zmul h54 h51 (by omega) ((by simp only [Int.add_mul, Int.mul_add, Int.mul_assoc, Int.mul_comm, Int.mul_left_comm] <;> omega : (q20) * (q17) = q17 * q20).trans (by (try simp only [m22e.out]) <;> omega))
                                                                                  obtain ⟨m23, m23e⟩ : ∃ m : Int, Hd (q15 * q21 = m) := ⟨_, ⟨rfl⟩⟩
                                                                                  have m231 : 0 ≤ m23 := m23e.out ▸ Int.mul_nonneg (by omega) (by omega)
                                                                                  have m232 : m23 ≤ 502503000000 := m23e.out ▸ (Int.mul_le_mul (by omega : q15 ≤ 1002000) (by omega : q21 ≤ 501500) (by omega) (by omega) : q15 * q21 ≤ 1002000 * 501500)
                                                                                  have h57 : Is ρ tg57 (m23) := Zmul h56 h49 (by omega) ((by simp only [Int.add_mul, Int.mul_add, Int.mul_assoc, Int.mul_comm, Int.mul_left_comm] <;> omega : (q21) * (q15) = q15 * q21).trans (by (try simp only [m23e.out]) <;> omega))
                                                                                  have h58 : Is ρ tg58 (m22 + (-1) * m23) := Zsub h55 h57 (by omega) (by omega)
                                                                                  obtain ⟨v24, v24e⟩ : ∃ v : Int, Hd ((m22 + (-1) * m23) * (r12 + 1) = v) := ⟨_, ⟨rfl⟩⟩
                                                                                  have v241 := v24e.out ▸ mul_bd (x := m22 + (-1) * m23) (y := r12 + 1) (a := 546090000000) (b := 100) (by omega) (by omega) (by omega) (by omega) (by omega)
                                                                                  have h59 : Is ρ tg59 (v24) := Zmul h58 h36 (by omega) v24e.out
                                                                                  obtain ⟨m26, m26e⟩ : ∃ m : Int, Hd (q15 * q17 = m) := ⟨_, ⟨rfl⟩⟩
                                                                                  have m261 : 0 ≤ m26 := m26e.out ▸ Int.mul_nonneg (by omega) (by omega)
                                                                                  have m262 : m26 ≤ 1004004000000 := m26e.out ▸ (Int.mul_le_mul (by omega : q15 ≤ 1002000) (by omega : q17 ≤ 1002000) (by omega) (by omega) : q15 * q17 ≤ 1002000 * 1002000)
                                                                                  obtain ⟨v25, v25e⟩ : ∃ v : Int, Hd (((-500) * u9 + 25500000 - ((-500) * u10 + 25500000)) * (q15 * q17) = v) := ⟨_, ⟨rfl⟩⟩
                                                                                  have v250 : q15 * q17 = m26 := m26e.out
                                                                                  have v251 := v25e.out ▸ v250 ▸ mul_bd (x := (-500) * u9 + 25500000 - ((-500) * u10 + 25500000)) (y := m26) (a := 1000000) (b := 1004004000000) (by omega) (by omega) (by omega) (by omega) (by omega)
                                                                                  have v25d : (r12 + 1) * (4 * x0 + 9000) = 4 * m13 + 9000 * r12 + 4 * x0 + 9000 := (by simp only [Int.add_mul, Int.mul_add, Int.mul_assoc, Int.mul_comm, Int.mul_left_comm] <;> omega : (r12 + 1) * (4 * x0 + 9000) = 4 * (r12 * x0) + 9000 * r12 + 4 * x0 + 9000).trans (by (try simp only [m13e.out, m22e.out, m23e.out, m26e.out]) <;> omega)
                                                                                  have v25t : (q20 * q17 - q21 * q15) * (4 * m13 + 9000 * r12 + 4 * x0 + 9000) = v25 := (taper_eq q20e.out q15e.out q21e.out q17e.out).trans v25e.out
                                                                                  rw [show q20 * q17 = m22 from ((Int.mul_comm _ _).trans m22e.out), show q21 * q15 = m23 from ((Int.mul_comm _ _).trans m23e.out)] at v25t
                                                                                  have v25v : v24 * (4 * x0 + 9000) = v25 := by rw [← v24e.out, Int.mul_assoc, v25d, ← v25t, show (m22 + (-1) * m23 : Int) = m22 - m23 by omega]
                                                                                  replace v25t : Hd ((m22 - m23) * (4 * m13 + 9000 * r12 + 4 * x0 + 9000) = v25) := ⟨v25t⟩
                                                                                  replace v25d := Hd.mk v25d
                                                                                  have h60 : Is ρ tg60 (v25) := Zmul h59 h29 (by omega) v25v
                                                                                  replace v25v := Hd.mk v25v
                                                                                  have h61 : Is ρ tg61 (u10 + (-1) * u9) := Zsub h26 h25 (by omega) (by omega)
                                                                                  have h62 : Is ρ tg62 (500 * u10 + (-500) * u9) := Zmul h61 (Zc 500) (by omega) (by omega)
                                                                                  obtain ⟨v27, v27e⟩ : ∃ v : Int, Hd ((500 * u10 + (-500) * u9) * q15 = v) := ⟨_, ⟨rfl⟩⟩
                                                                                  have v271 := v27e.out ▸ mul_bd (x := 500 * u10 + (-500) * u9) (y := q15) (a := 1000000) (b := 1002000) (by omega) (by omega) (by omega) (by omega) (by omega)
                                                                                  have h63 : Is ρ tg63 (v27) := Zmul h62 h49 (by omega) v27e.out
                                                                                  have h64 : Is ρ tg64 (v25) := Zmul h63 h51 (by omega) (by rw [← v27e.out, ← v25e.out, Int.mul_assoc]; congr 1; omega)
                                                                                  refine ⟨fun g40 => ?_, fun g40 => ?_⟩
                                                                                  · have k40 : ((v25 : Int) = v25) := Zeqlt h60 h64 g40
                                                                                    clear g40
                                                                                    obtain ⟨q28, q28e, q281, q282, q283⟩ := gq_ex (X := (-500) * x4 + 500000) (h := 500000) g18e (by omega) (by omega) (by omega) g181
                                                                                    replace q283 := q283 (by omega)
                                                                                    have h65 : Is ρ tg65 (q28) := Zgq h47 h52 q28e.out g181 (by omega)
                                                                                    obtain ⟨m29, m29e⟩ : ∃ m : Int, Hd (q17 * q28 = m) := ⟨_, ⟨rfl⟩⟩
                                                                                    have m291 : 0 ≤ m29 := m29e.out ▸ Int.mul_nonneg (by omega) (by omega)
                                                                                    have m292 : m29 ≤ 501000000000 := m29e.out ▸ (Int.mul_le_mul (by omega : q17 ≤ 1002000) (by omega : q28 ≤ 500000) (by omega) (by omega) : q17 * q28 ≤ 1002000 * 500000)
                                                                                    have h66 : Is ρ tg66 (m29) := Zmul h65 h51 (by omega) ((by simp only [Int.add_mul, Int.mul_add, Int.mul_assoc, Int.mul_comm, Int.mul_left_comm] <;> omega : (q28) * (q17) = q17 * q28).trans (by (try simp only [m29e.out]) <;> omega))
                                                                                    obtain ⟨m30, m30e⟩ : ∃ m : Int, Hd (q19 * q21 = m) := ⟨_, ⟨rfl⟩⟩
                                                                                    have m301 : 0 ≤ m30 := m30e.out ▸ Int.mul_nonneg (by omega) (by omega)
                                                                                    have m302 : m30 ≤ 502503000000 := m30e.out ▸ (Int.mul_le_mul (by omega : q19 ≤ 1002000) (by omega : q21 ≤ 501500) (by omega) (by omega) : q19 * q21 ≤ 1002000 * 501500)
                                                                                    have h67 : Is ρ tg67 (m30) := Zmul h56 h53 (by omega) ((by simp only [Int.add_mul, Int.mul_add, Int.mul_assoc, Int.mul_comm, Int.mul_left_comm] <;> omega : (q21) * (q19) = q19 * q21).trans (by (try simp only [m30e.out]) <;> omega))
                                                                                    have le41 := taper_le q21e.out q17e.out q28e.out q19e.out g161 g181 (by omega) (by omega)
                                                                                    rw [show q28 * q17 = m29 from ((Int.mul_comm _ _).trans m29e.out), show q21 * q19 = m30 from ((Int.mul_comm _ _).trans m30e.out)] at le41
                                                                                    refine ⟨fun g41 => ?_, fun g41 => ?_⟩
                                                                                    · have k41 : ((m29 : Int) ≤ m30) := Zleqt h66 h67 g41
                                                                                      clear g41
                                                                                      exact rfl
                                                                                    · have k41 : ¬ (((m29 : Int) ≤ m30)) := Zleqf h66 h67 g41
                                                                                      clear g41
                                                                                      omega
                                                                                  · have k40 : ¬ (((v25 : Int) = v25)) := Zeqlf h60 h64 g40
                                                                                    clear g40
                                                                                    omega
                                                                                · have k39 : ¬ (((1 : Int) ≤ q19)) := Zleqf (Zc 1) h53 g39
                                                                                  clear g39
                                                                                  omega
                                                                              · have k38 : ¬ (((1 : Int) ≤ q17)) := Zleqf (Zc 1) h51 g38
                                                                                clear g38
                                                                                omega
                                                                            · have k37 : ¬ (((1 : Int) ≤ q15)) := Zleqf (Zc 1) h49 g37
                                                                              clear g37
                                                                              omega
                                                                          · have k36 : ¬ ((((-500) * x4 + 500000 : Int) ≤ 9223372036854775807)) := Zleqf h47 (Zc 9223372036854775807) g36
                                                                            clear g36
                                                                            omega
                                                                        · have k35 : ¬ ((((-9223372036854775807) : Int) ≤ (-500) * x4 + 500000)) := Zleqf (Zc (-9223372036854775807)) h47 g35
                                                                          clear g35
                                                                          omega
                                                                      · have k34 : ¬ (((x4 + 50000 : Int) ≤ 51000)) := Zleqf h1 (Zc 51000) g34
                                                                        clear g34
                                                                        omega
                                                                    · have k33 : ¬ (((1 : Int) ≤ x4 + 50000)) := Zleqf (Zc 1) h1 g33
                                                                      clear g33
                                                                      omega
                                                                  · have k32 : ¬ ((((-500) * u10 + 25500000 : Int) ≤ 9223372036854775807)) := Zleqf h45 (Zc 9223372036854775807) g32
                                                                    clear g32
                                                                    omega
                                                                · have k31 : ¬ ((((-9223372036854775807) : Int) ≤ (-500) * u10 + 25500000)) := Zleqf (Zc (-9223372036854775807)) h45 g31
                                                                  clear g31
                                                                  omega
                                                              · have k30 : ¬ (((u10 : Int) ≤ 51000)) := Zleqf h26 (Zc 51000) g30
                                                                clear g30
                                                                omega
                                                            · have k29 : ¬ (((1 : Int) ≤ u10)) := Zleqf (Zc 1) h26 g29
                                                              clear g29
                                                              omega
                                                          · have k28 : ¬ (((4 * m13 + 9000 * r12 + 4 * x0 + 9000 : Int) ≤ 9223372036854775807)) := Zleqf h43 (Zc 9223372036854775807) g28
                                                            clear g28
                                                            omega
                                                        · have k27 : ¬ (((1 : Int) ≤ 4 * m13 + 9000 * r12 + 4 * x0 + 9000)) := Zleqf (Zc 1) h43 g27
                                                          clear g27
                                                          omega
                                                      · have k26 : ¬ ((((-500) * u9 + 25500000 : Int) ≤ 9223372036854775807)) := Zleqf h41 (Zc 9223372036854775807) g26
                                                        clear g26
                                                        omega
                                                    · have k25 : ¬ ((((-9223372036854775807) : Int) ≤ (-500) * u9 + 25500000)) := Zleqf (Zc (-9223372036854775807)) h41 g25
                                                      clear g25
                                                      omega
                                                · have k23 : ¬ (((u9 : Int) ≤ 51000)) := Zleqf h25 (Zc 51000) g23
                                                  clear g23
                                                  omega
                                              · have k22 : ¬ (((46 * x1 + 46 * x2 + 36800 : Int) ≤ 2000 * x0 + 4500000)) := Zleqf h38 h39 g22
                                                clear g22
                                                omega
                                            · have k21 : ¬ (((r12 + 1 : Int) ≤ 100)) := Zleqf h36 (Zc 100) g21
                                              clear g21
                                              omega
                                          · have k20 : ¬ (((0 : Int) ≤ r12 + 1)) := Zleqf (Zc 0) h36 g20
                                            clear g20
                                            omega
                                        · have k19 : ¬ (((x2 + 400 : Int) ≤ 3000)) := Zleqf h33 (Zc 3000) g19
                                          clear g19
                                          omega
                                      · have k18 : ¬ (((0 : Int) ≤ x2 + 400)) := Zleqf (Zc 0) h33 g18
                                        clear g18
                                        omega
                                    · have k17 : ¬ (((x1 + 400 : Int) ≤ 3000)) := Zleqf h31 (Zc 3000) g17
                                      clear g17
                                      omega
                                  · have k16 : ¬ (((0 : Int) ≤ x1 + 400)) := Zleqf (Zc 0) h31 g16
                                    clear g16
                                    omega
                                · have k15 : ¬ (((4 * x0 + 9000 : Int) ≤ 200000)) := Zleqf h29 (Zc 200000) g15
                                  clear g15
                                  omega
                              · have k14 : ¬ (((100 : Int) ≤ 4 * x0 + 9000)) := Zleqf (Zc 100) h29 g14
                                clear g14
                                omega
                            · have k13 : ¬ (((u10 : Int) ≤ x4 + 50000)) := Zleqf h26 h1 g13
                              clear g13
                              omega
                          · have k12 : ¬ (((1 : Int) ≤ u9)) := Zleqf (Zc 1) h25 g12
                            clear g12
                            omega
                        · have k11 : ¬ ((((-1) * q5 + u7 : Int) ≤ (-1) * q3 + x4 + 50000)) := Zleqf h24 h14 g11
                          clear g11
                          omega
                      · have k10 : ¬ (((u7 : Int) ≤ u8)) := Zleqf h19 h22 g10
                        clear g10
                        omega
                    · have k9 : ¬ ((((-1) * q5 + u7 : Int) ≤ (-1) * q5 + 50000)) := Zleqf h24 h17 g9
                      clear g9
                      omega
                  · have k8 : ¬ (((x4 + 50000 : Int) ≤ u8)) := Zleqf h10 h22 g8
                    clear g8
                    omega
                · have k7 : ¬ (((u7 : Int) ≤ 50000)) := Zleqf h19 h15 g7
                  clear g7
                  omega
              · have k6 : ¬ ((((-1) * q3 + x4 + 50000 : Int) ≤ (-1) * q3 + x4 + 50000)) := Zleqf h13 h14 g6
                clear g6
                omega
            · have k5 : ¬ (((r6 : Int) ≤ 0)) := Zleqf h9 (Zc 0) g5
              clear g5
              have h10 : Is ρ tg10 (x4 + 50000) := Zmx (Zc 50000) h1 (by omega)
              have h11 : Is ρ tg11 ((-1) * q3) := Zquon h6 (Zc 1000) (by omega) (by omega) (by have i1 := q3e.out; have i2 := r4e.out; omega)
              have h12 : Is ρ tg12 (q3) := Zsub (Zc 0) h11 (by omega) (by omega)
              have h13 : Is ρ tg13 ((-1) * q3 + x4 + 50000) := Zsub h10 h12 (by omega) (by omega)
              have h14 : Is ρ tg14 ((-1) * q3 + x4 + 50000) := Zmn h13 h13 (by omega)
              refine ⟨fun g6 => ?_, fun g6 => ?_⟩
              · have k6 : (((-1) * q3 + x4 + 50000 : Int) ≤ (-1) * q3 + x4 + 50000) := Zleqt h13 h14 g6
                clear g6
                clear k6
                have h15 : Is ρ tg15 (50000) := Zmn (Zc 50000) h1 (by omega)
                have h16 : Is ρ tg16 (q5) := Zquop h8 (Zc 1000) (by omega) (by omega) q5e.out
                have h68 : Is ρ tg68 (q5 + 1) := Zadd h16 (Zc 1) (by omega) (by omega)
                have h69 : Is ρ tg69 ((-1) * q5 + 49999) := Zsub h15 h68 (by omega) (by omega)
                have h70 : Is ρ tg70 (q3 + (-1) * q5 + 49999) := Zadd h69 h12 (by omega) (by omega)
                obtain ⟨u31, u31e⟩ : ∃ m : Int, max (50000) (q3 + (-1) * q5 + 49999) = m := ⟨_, rfl⟩
                have h71 : Is ρ tg71 (u31) := Zmx h15 h70 (by omega)
                refine ⟨fun g7 => ?_, fun g7 => ?_⟩
                · have k7 : ((u31 : Int) ≤ 50000) := Zleqt h71 h15 g7
                  clear g7
                  have h72 : Is ρ tg72 ((-1) * q5 + (-1)) := Zsub (Zc 0) h68 (by omega) (by omega)
                  have h73 : Is ρ tg73 ((-1) * q3 + q5 + x4 + 50001) := Zsub h14 h72 (by omega) (by omega)
                  obtain ⟨u32, u32e⟩ : ∃ m : Int, min (x4 + 50000) ((-1) * q3 + q5 + x4 + 50001) = m := ⟨_, rfl⟩
                  have h74 : Is ρ tg74 (u32) := Zmn h10 h73 (by omega)
                  refine ⟨fun g8 => ?_, fun g8 => ?_⟩
                  · have k8 : ((x4 + 50000 : Int) ≤ u32) := Zleqt h10 h74 g8
                    clear g8
                    have h75 : Is ρ tg75 ((-1) * q5 + u31 + (-1)) := Zadd h71 h72 (by omega) (by omega)
                    have h76 : Is ρ tg76 ((-1) * q5 + u31 + (-1)) := Zmx h69 h75 (by omega)
                    refine ⟨fun g9 => ?_, fun g9 => ?_⟩
                    · have k9 : (((-1) * q5 + u31 + (-1) : Int) ≤ (-1) * q5 + 49999) := Zleqt h76 h69 g9
                      clear g9
                      refine ⟨fun g10 => ?_, fun g10 => ?_⟩
                      · have k10 : ((u31 : Int) ≤ u32) := Zleqt h71 h74 g10
                        clear g10
                        refine ⟨fun g11 => ?_, fun g11 => ?_⟩
                        · have k11 : (((-1) * q5 + u31 + (-1) : Int) ≤ (-1) * q3 + x4 + 50000) := Zleqt h76 h14 g11
                          clear g11
                          obtain ⟨u33, u33e⟩ : ∃ m : Int, min ((-1) * q5 + u31 + (-1)) ((-1) * q3 + x4 + 50000) = m := ⟨_, rfl⟩
                          have h77 : Is ρ tg77 (u33) := Zmn h76 h14 (by omega)
                          refine ⟨fun g12 => ?_, fun g12 => ?_⟩
                          · have k12 : ((1 : Int) ≤ u33) := Zleqt (Zc 1) h77 g12
                            clear g12
                            clear k12
                            obtain ⟨u34, u34e⟩ : ∃ m : Int, max ((-1) * q5 + u31 + (-1)) ((-1) * q3 + x4 + 50000) = m := ⟨_, rfl⟩
                            have h78 : Is ρ tg78 (u34) := Zmx h76 h14 (by omega)
                            refine ⟨fun g13 => ?_, fun g13 => ?_⟩
                            · have k13 : ((u34 : Int) ≤ x4 + 50000) := Zleqt h78 h1 g13
                              clear g13
                              have h27 : Is ρ tg27 (x0) := Zconv e0 (by omega)
                              have h28 : Is ρ tg28 (4 * x0) := Zmul (Zc 4) h27 (by omega) (by omega)
                              have h29 : Is ρ tg29 (4 * x0 + 9000) := Zadd (Zc 9000) h28 (by omega) (by omega)
                              refine ⟨fun g14 => ?_, fun g14 => ?_⟩
                              · have k14 : ((100 : Int) ≤ 4 * x0 + 9000) := Zleqt (Zc 100) h29 g14
                                clear g14
                                clear k14
                                refine ⟨fun g15 => ?_, fun g15 => ?_⟩
                                · have k15 : ((4 * x0 + 9000 : Int) ≤ 200000) := Zleqt h29 (Zc 200000) g15
                                  clear g15
                                  clear k15
                                  have h30 : Is ρ tg30 (x1) := Zconv e1 (by omega)
                                  have h31 : Is ρ tg31 (x1 + 400) := Zadd (Zc 400) h30 (by omega) (by omega)
                                  refine ⟨fun g16 => ?_, fun g16 => ?_⟩
                                  · have k16 : ((0 : Int) ≤ x1 + 400) := Zleqt (Zc 0) h31 g16
                                    clear g16
                                    clear k16
                                    refine ⟨fun g17 => ?_, fun g17 => ?_⟩
                                    · have k17 : ((x1 + 400 : Int) ≤ 3000) := Zleqt h31 (Zc 3000) g17
                                      clear g17
                                      clear k17
                                      have h32 : Is ρ tg32 (x2) := Zconv e2 (by omega)
                                      have h33 : Is ρ tg33 (x2 + 400) := Zadd (Zc 400) h32 (by omega) (by omega)
                                      refine ⟨fun g18 => ?_, fun g18 => ?_⟩
                                      · have k18 : ((0 : Int) ≤ x2 + 400) := Zleqt (Zc 0) h33 g18
                                        clear g18
                                        clear k18
                                        refine ⟨fun g19 => ?_, fun g19 => ?_⟩
                                        · have k19 : ((x2 + 400 : Int) ≤ 3000) := Zleqt h33 (Zc 3000) g19
                                          clear g19
                                          clear k19
                                          have h34 : Is ρ tg34 (x3) := Zconv e3 (by omega)
                                          obtain ⟨q35, q35e⟩ : ∃ q : Int, Hd ((x3) / 100 = q) := ⟨_, ⟨rfl⟩⟩
                                          obtain ⟨r36, r36e⟩ : ∃ q : Int, Hd ((x3) % 100 = q) := ⟨_, ⟨rfl⟩⟩
                                          have q351 : x3 = 100 * q35 + r36 := by have i1 := q35e.out; have i2 := r36e.out; omega
                                          have q352 : 0 ≤ r36 ∧ r36 ≤ 99 ∧ 0 ≤ q35 ∧ q35 ≤ 2 := by have i1 := q35e.out; have i2 := r36e.out; omega
                                          have h35 : Is ρ tg35 (r36) := Zremp h34 (Zc 100) (by omega) r36e.out
                                          have h36 : Is ρ tg36 (r36 + 1) := Zadd (Zc 1) h35 (by omega) (by omega)
                                          refine ⟨fun g20 => ?_, fun g20 => ?_⟩
                                          · have k20 : ((0 : Int) ≤ r36 + 1) := Zleqt (Zc 0) h36 g20
                                            clear g20
                                            clear k20
                                            refine ⟨fun g21 => ?_, fun g21 => ?_⟩
                                            · have k21 : ((r36 + 1 : Int) ≤ 100) := Zleqt h36 (Zc 100) g21
                                              clear g21
                                              clear k21
                                              have h37 : Is ρ tg37 (x1 + x2 + 800) := Zadd h31 h33 (by omega) (by omega)
                                              have h38 : Is ρ tg38 (46 * x1 + 46 * x2 + 36800) := Zmul (Zc 46) h37 (by omega) (by omega)
                                              have h39 : Is ρ tg39 (2000 * x0 + 4500000) := Zmul (Zc 500) h29 (by omega) (by omega)
                                              refine ⟨fun g22 => ?_, fun g22 => ?_⟩
                                              · have k22 : ((46 * x1 + 46 * x2 + 36800 : Int) ≤ 2000 * x0 + 4500000) := Zleqt h38 h39 g22
                                                clear g22
                                                clear k22
                                                refine ⟨fun g23 => ?_, fun g23 => ?_⟩
                                                · have k23 : ((u33 : Int) ≤ 51000) := Zleqt h77 (Zc 51000) g23
                                                  clear g23
                                                  clear k23
                                                  refine ⟨fun g24 => ?_, fun g24 => ?_⟩
                                                  · have k24 : ((r36 + 1 : Int) = 0) := Zeqlt h36 (Zc 0) g24
                                                    clear g24
                                                    omega
                                                  · have k24 : ¬ (((r36 + 1 : Int) = 0)) := Zeqlf h36 (Zc 0) g24
                                                    clear g24
                                                    have h79 : Is ρ tg79 ((-1) * u33 + 51000) := Zsub (Zc 51000) h77 (by omega) (by omega)
                                                    have h80 : Is ρ tg80 ((-500) * u33 + 25500000) := Zmul h79 (Zc 500) (by omega) (by omega)
                                                    refine ⟨fun g25 => ?_, fun g25 => ?_⟩
                                                    · have k25 : (((-9223372036854775807) : Int) ≤ (-500) * u33 + 25500000) := Zleqt (Zc (-9223372036854775807)) h80 g25
                                                      clear g25
                                                      clear k25
                                                      refine ⟨fun g26 => ?_, fun g26 => ?_⟩
                                                      · have k26 : (((-500) * u33 + 25500000 : Int) ≤ 9223372036854775807) := Zleqt h80 (Zc 9223372036854775807) g26
                                                        clear g26
                                                        clear k26
                                                        have h42 : Is ρ tg42 (4 * x0 + 9000) := Zmul h29 (Zc 1) (by omega) (by omega)
                                                        obtain ⟨m37, m37e⟩ : ∃ m : Int, Hd (r36 * x0 = m) := ⟨_, ⟨rfl⟩⟩
                                                        have m371 : 0 ≤ m37 := m37e.out ▸ Int.mul_nonneg (by omega) (by omega)
                                                        have m372 : m37 ≤ 25245 := m37e.out ▸ (Int.mul_le_mul (by omega : r36 ≤ 99) (by omega : x0 ≤ 255) (by omega) (by omega) : r36 * x0 ≤ 99 * 255)
                                                        have h43 : Is ρ tg43 (4 * m37 + 9000 * r36 + 4 * x0 + 9000) := Zmul h36 h42 (by omega) ((by simp only [Int.add_mul, Int.mul_add, Int.mul_assoc, Int.mul_comm, Int.mul_left_comm] <;> omega : (r36 + 1) * (4 * x0 + 9000) = 4 * (r36 * x0) + 9000 * r36 + 4 * x0 + 9000).trans (by (try simp only [m37e.out]) <;> omega))
                                                        refine ⟨fun g27 => ?_, fun g27 => ?_⟩
                                                        · have k27 : ((1 : Int) ≤ 4 * m37 + 9000 * r36 + 4 * x0 + 9000) := Zleqt (Zc 1) h43 g27
                                                          clear g27
                                                          clear k27
                                                          refine ⟨fun g28 => ?_, fun g28 => ?_⟩
                                                          · have k28 : ((4 * m37 + 9000 * r36 + 4 * x0 + 9000 : Int) ≤ 9223372036854775807) := Zleqt h43 (Zc 9223372036854775807) g28
                                                            clear g28
                                                            clear k28
                                                            refine ⟨fun g29 => ?_, fun g29 => ?_⟩
                                                            · have k29 : ((1 : Int) ≤ u34) := Zleqt (Zc 1) h78 g29
                                                              clear g29
                                                              clear k29
                                                              refine ⟨fun g30 => ?_, fun g30 => ?_⟩
                                                              · have k30 : ((u34 : Int) ≤ 51000) := Zleqt h78 (Zc 51000) g30
                                                                clear g30
                                                                clear k30
                                                                have h81 : Is ρ tg81 ((-1) * u34 + 51000) := Zsub (Zc 51000) h78 (by omega) (by omega)
                                                                have h82 : Is ρ tg82 ((-500) * u34 + 25500000) := Zmul h81 (Zc 500) (by omega) (by omega)
                                                                refine ⟨fun g31 => ?_, fun g31 => ?_⟩
                                                                · have k31 : (((-9223372036854775807) : Int) ≤ (-500) * u34 + 25500000) := Zleqt (Zc (-9223372036854775807)) h82 g31
                                                                  clear g31
                                                                  clear k31
                                                                  refine ⟨fun g32 => ?_, fun g32 => ?_⟩
                                                                  · have k32 : (((-500) * u34 + 25500000 : Int) ≤ 9223372036854775807) := Zleqt h82 (Zc 9223372036854775807) g32
                                                                    clear g32
                                                                    clear k32
                                                                    refine ⟨fun g33 => ?_, fun g33 => ?_⟩
                                                                    · have k33 : ((1 : Int) ≤ x4 + 50000) := Zleqt (Zc 1) h1 g33
                                                                      clear g33
                                                                      clear k33
                                                                      refine ⟨fun g34 => ?_, fun g34 => ?_⟩
                                                                      · have k34 : ((x4 + 50000 : Int) ≤ 51000) := Zleqt h1 (Zc 51000) g34
                                                                        clear g34
                                                                        clear k34
                                                                        have h46 : Is ρ tg46 ((-1) * x4 + 1000) := Zsub (Zc 51000) h1 (by omega) (by omega)
                                                                        have h47 : Is ρ tg47 ((-500) * x4 + 500000) := Zmul h46 (Zc 500) (by omega) (by omega)
                                                                        refine ⟨fun g35 => ?_, fun g35 => ?_⟩
                                                                        · have k35 : (((-9223372036854775807) : Int) ≤ (-500) * x4 + 500000) := Zleqt (Zc (-9223372036854775807)) h47 g35
                                                                          clear g35
                                                                          clear k35
                                                                          refine ⟨fun g36 => ?_, fun g36 => ?_⟩
                                                                          · have k36 : (((-500) * x4 + 500000 : Int) ≤ 9223372036854775807) := Zleqt h47 (Zc 9223372036854775807) g36
                                                                            clear g36
                                                                            clear k36
                                                                            obtain ⟨g38, g38e, g381⟩ := gcd_ex ((-500) * u33 + 25500000) (4 * m37 + 9000 * r36 + 4 * x0 + 9000) (by omega)
                                                                            have h83 : Is ρ tg83 (g38) := Zgcd h80 h43 g38e.out
                                                                            obtain ⟨q39, q39e, q391, q392, q393⟩ := gq_ex (X := 4 * m37 + 9000 * r36 + 4 * x0 + 9000) (h := 1002000) g38e (by omega) (by omega) (by omega) g381
                                                                            replace q393 := q393 (by omega)
                                                                            have h84 : Is ρ tg84 (q39) := Zgq h43 h83 q39e.out g381 (by omega)
                                                                            refine ⟨fun g37 => ?_, fun g37 => ?_⟩
                                                                            · have k37 : ((1 : Int) ≤ q39) := Zleqt (Zc 1) h84 g37
                                                                              clear g37
                                                                              clear k37
                                                                              obtain ⟨g40, g40e, g401⟩ := gcd_ex ((-500) * u34 + 25500000) (4 * m37 + 9000 * r36 + 4 * x0 + 9000) (by omega)
                                                                              have h85 : Is ρ tg85 (g40) := Zgcd h82 h43 g40e.out
                                                                              obtain ⟨q41, q41e, q411, q412, q413⟩ := gq_ex (X := 4 * m37 + 9000 * r36 + 4 * x0 + 9000) (h := 1002000) g40e (by omega) (by omega) (by omega) g401
                                                                              replace q413 := q413 (by omega)
                                                                              have h86 : Is ρ tg86 (q41) := Zgq h43 h85 q41e.out g401 (by omega)
                                                                              refine ⟨fun g38 => ?_, fun g38 => ?_⟩
                                                                              · have k38 : ((1 : Int) ≤ q41) := Zleqt (Zc 1) h86 g38
                                                                                clear g38
                                                                                clear k38
                                                                                obtain ⟨g42, g42e, g421⟩ := gcd_ex ((-500) * x4 + 500000) (4 * m37 + 9000 * r36 + 4 * x0 + 9000) (by omega)
                                                                                have h52 : Is ρ tg52 (g42) := Zgcd h47 h43 g42e.out
                                                                                obtain ⟨q43, q43e, q431, q432, q433⟩ := gq_ex (X := 4 * m37 + 9000 * r36 + 4 * x0 + 9000) (h := 1002000) g42e (by omega) (by omega) (by omega) g421
                                                                                replace q433 := q433 (by omega)
                                                                                have h53 : Is ρ tg53 (q43) := Zgq h43 h52 q43e.out g421 (by omega)
                                                                                refine ⟨fun g39 => ?_, fun g39 => ?_⟩
                                                                                · have k39 : ((1 : Int) ≤ q43) := Zleqt (Zc 1) h53 g39
                                                                                  clear g39
                                                                                  clear k39
                                                                                  obtain ⟨q44, q44e, q441, q442, q443⟩ := gq_ex (X := (-500) * u33 + 25500000) (h := 545500) g38e (by omega) (by omega) (by omega) g381
                                                                                  replace q443 := q443 (by omega)
                                                                                  have h87 : Is ρ tg87 (q44) := Zgq h80 h83 q44e.out g381 (by omega)
                                                                                  obtain ⟨q45, q45e, q451, q452, q453⟩ := gq_ex (X := (-500) * u34 + 25500000) (h := 501500) g40e (by omega) (by omega) (by omega) g401
                                                                                  replace q453 := q453 (by omega)
                                                                                  have h89 : Is ρ tg89 (q45) := Zgq h82 h85 q45e.out g401 (by omega)
                                                                                  obtain ⟨m46, m46e⟩ : ∃ m : Int, Hd (q41 * q44 = m) := ⟨_, ⟨rfl⟩⟩
                                                                                  have m461 : 0 ≤ m46 := m46e.out ▸ Int.mul_nonneg (by omega) (by omega)
                                                                                  have m462 : m46 ≤ 546591000000 := m46e.out ▸ (Int.mul_le_mul (by omega : q41 ≤ 1002000) (by omega : q44 ≤ 545500) (by omega) (by omega) : q41 * q44 ≤ 1002000 * 545500)
                                                                                  have h88 : Is ρ tg88 (m46) := Zmul h87 h86 (by omega) ((by simp only [Int.add_mul, Int.mul_add, Int.mul_assoc, Int.mul_comm, Int.mul_left_comm] <;> omega : (q44) * (q41) = q41 * q44).trans (by (try simp only [m46e.out]) <;> omega))
                                                                                  obtain ⟨m47, m47e⟩ : ∃ m : Int, Hd (q39 * q45 = m) := ⟨_, ⟨rfl⟩⟩
                                                                                  have m471 : 0 ≤ m47 := m47e.out ▸ Int.mul_nonneg (by omega) (by omega)
                                                                                  have m472 : m47 ≤ 502503000000 := m47e.out ▸ (Int.mul_le_mul (by omega : q39 ≤ 1002000) (by omega : q45 ≤ 501500) (by omega) (by omega) : q39 * q45 ≤ 1002000 * 501500)
                                                                                  have h90 : Is ρ tg90 (m47) := Zmul h89 h84 (by omega) ((by simp only [Int.add_mul, Int.mul_add, Int.mul_assoc, Int.mul_comm, Int.mul_left_comm] <;> omega : (q45) * (q39) = q39 * q45).trans (by (try simp only [m47e.out]) <;> omega))
                                                                                  have h91 : Is ρ tg91 (m46 + (-1) * m47) := Zsub h88 h90 (by omega) (by omega)
                                                                                  obtain ⟨v48, v48e⟩ : ∃ v : Int, Hd ((m46 + (-1) * m47) * (r36 + 1) = v) := ⟨_, ⟨rfl⟩⟩
                                                                                  have v481 := v48e.out ▸ mul_bd (x := m46 + (-1) * m47) (y := r36 + 1) (a := 546591000000) (b := 100) (by omega) (by omega) (by omega) (by omega) (by omega)
                                                                                  have h92 : Is ρ tg92 (v48) := Zmul h91 h36 (by omega) v48e.out
                                                                                  obtain ⟨m50, m50e⟩ : ∃ m : Int, Hd (q39 * q41 = m) := ⟨_, ⟨rfl⟩⟩
                                                                                  have m501 : 0 ≤ m50 := m50e.out ▸ Int.mul_nonneg (by omega) (by omega)
                                                                                  have m502 : m50 ≤ 1004004000000 := m50e.out ▸ (Int.mul_le_mul (by omega : q39 ≤ 1002000) (by omega : q41 ≤ 1002000) (by omega) (by omega) : q39 * q41 ≤ 1002000 * 1002000)
                                                                                  obtain ⟨v49, v49e⟩ : ∃ v : Int, Hd (((-500) * u33 + 25500000 - ((-500) * u34 + 25500000)) * (q39 * q41) = v) := ⟨_, ⟨rfl⟩⟩
                                                                                  have v490 : q39 * q41 = m50 := m50e.out
                                                                                  have v491 := v49e.out ▸ v490 ▸ mul_bd (x := (-500) * u33 + 25500000 - ((-500) * u34 + 25500000)) (y := m50) (a := 1000000) (b := 1004004000000) (by omega) (by omega) (by omega) (by omega) (by omega)
                                                                                  have v49d : (r36 + 1) * (4 * x0 + 9000) = 4 * m37 + 9000 * r36 + 4 * x0 + 9000 := (by simp only [Int.add_mul, Int.mul_add, Int.mul_assoc, Int.mul_comm, Int.mul_left_comm] <;> omega : (r36 + 1) * (4 * x0 + 9000) = 4 * (r36 * x0) + 9000 * r36 + 4 * x0 + 9000).trans (by (try simp only [m37e.out, m46e.out, m47e.out, m50e.out]) <;> omega)
                                                                                  have v49t : (q44 * q41 - q45 * q39) * (4 * m37 + 9000 * r36 + 4 * x0 + 9000) = v49 := (taper_eq q44e.out q39e.out q45e.out q41e.out).trans v49e.out
                                                                                  rw [show q44 * q41 = m46 from ((Int.mul_comm _ _).trans m46e.out), show q45 * q39 = m47 from ((Int.mul_comm _ _).trans m47e.out)] at v49t
                                                                                  have v49v : v48 * (4 * x0 + 9000) = v49 := by rw [← v48e.out, Int.mul_assoc, v49d, ← v49t, show (m46 + (-1) * m47 : Int) = m46 - m47 by omega]
                                                                                  replace v49t : Hd ((m46 - m47) * (4 * m37 + 9000 * r36 + 4 * x0 + 9000) = v49) := ⟨v49t⟩
                                                                                  replace v49d := Hd.mk v49d
                                                                                  have h93 : Is ρ tg93 (v49) := Zmul h92 h29 (by omega) v49v
                                                                                  replace v49v := Hd.mk v49v
                                                                                  have h94 : Is ρ tg94 ((-1) * u33 + u34) := Zsub h78 h77 (by omega) (by omega)
                                                                                  have h95 : Is ρ tg95 ((-500) * u33 + 500 * u34) := Zmul h94 (Zc 500) (by omega) (by omega)
                                                                                  obtain ⟨v51, v51e⟩ : ∃ v : Int, Hd (((-500) * u33 + 500 * u34) * q39 = v) := ⟨_, ⟨rfl⟩⟩
                                                                                  have v511 := v51e.out ▸ mul_bd (x := (-500) * u33 + 500 * u34) (y := q39) (a := 1000000) (b := 1002000) (by omega) (by omega) (by omega) (by omega) (by omega)
                                                                                  have h96 : Is ρ tg96 (v51) := Zmul h95 h84 (by omega) v51e.out
                                                                                  have h97 : Is ρ tg97 (v49) := Zmul h96 h86 (by omega) (by rw [← v51e.out, ← v49e.out, Int.mul_assoc]; congr 1; omega)
                                                                                  refine ⟨fun g40 => ?_, fun g40 => ?_⟩
                                                                                  · have k40 : ((v49 : Int) = v49) := Zeqlt h93 h97 g40
                                                                                    clear g40
                                                                                    obtain ⟨q52, q52e, q521, q522, q523⟩ := gq_ex (X := (-500) * x4 + 500000) (h := 500000) g42e (by omega) (by omega) (by omega) g421
                                                                                    replace q523 := q523 (by omega)
                                                                                    have h65 : Is ρ tg65 (q52) := Zgq h47 h52 q52e.out g421 (by omega)
                                                                                    obtain ⟨m53, m53e⟩ : ∃ m : Int, Hd (q41 * q52 = m) := ⟨_, ⟨rfl⟩⟩
                                                                                    have m531 : 0 ≤ m53 := m53e.out ▸ Int.mul_nonneg (by omega) (by omega)
                                                                                    have m532 : m53 ≤ 501000000000 := m53e.out ▸ (Int.mul_le_mul (by omega : q41 ≤ 1002000) (by omega : q52 ≤ 500000) (by omega) (by omega) : q41 * q52 ≤ 1002000 * 500000)
                                                                                    have h98 : Is ρ tg98 (m53) := Zmul h65 h86 (by omega) ((by simp only [Int.add_mul, Int.mul_add, Int.mul_assoc, Int.mul_comm, Int.mul_left_comm] <;> omega : (q52) * (q41) = q41 * q52).trans (by (try simp only [m53e.out]) <;> omega))
                                                                                    obtain ⟨m54, m54e⟩ : ∃ m : Int, Hd (q43 * q45 = m) := ⟨_, ⟨rfl⟩⟩
                                                                                    have m541 : 0 ≤ m54 := m54e.out ▸ Int.mul_nonneg (by omega) (by omega)
                                                                                    have m542 : m54 ≤ 502503000000 := m54e.out ▸ (Int.mul_le_mul (by omega : q43 ≤ 1002000) (by omega : q45 ≤ 501500) (by omega) (by omega) : q43 * q45 ≤ 1002000 * 501500)
                                                                                    have h99 : Is ρ tg99 (m54) := Zmul h89 h53 (by omega) ((by simp only [Int.add_mul, Int.mul_add, Int.mul_assoc, Int.mul_comm, Int.mul_left_comm] <;> omega : (q45) * (q43) = q43 * q45).trans (by (try simp only [m54e.out]) <;> omega))
                                                                                    have le41 := taper_le q45e.out q41e.out q52e.out q43e.out g401 g421 (by omega) (by omega)
                                                                                    rw [show q52 * q41 = m53 from ((Int.mul_comm _ _).trans m53e.out), show q45 * q43 = m54 from ((Int.mul_comm _ _).trans m54e.out)] at le41
                                                                                    refine ⟨fun g41 => ?_, fun g41 => ?_⟩
                                                                                    · have k41 : ((m53 : Int) ≤ m54) := Zleqt h98 h99 g41
                                                                                      clear g41
                                                                                      exact rfl
                                                                                    · have k41 : ¬ (((m53 : Int) ≤ m54)) := Zleqf h98 h99 g41
                                                                                      clear g41
                                                                                      omega
                                                                                  · have k40 : ¬ (((v49 : Int) = v49)) := Zeqlf h93 h97 g40
                                                                                    clear g40
                                                                                    omega
                                                                                · have k39 : ¬ (((1 : Int) ≤ q43)) := Zleqf (Zc 1) h53 g39
                                                                                  clear g39
                                                                                  omega
                                                                              · have k38 : ¬ (((1 : Int) ≤ q41)) := Zleqf (Zc 1) h86 g38
                                                                                clear g38
                                                                                omega
                                                                            · have k37 : ¬ (((1 : Int) ≤ q39)) := Zleqf (Zc 1) h84 g37
                                                                              clear g37
                                                                              omega
                                                                          · have k36 : ¬ ((((-500) * x4 + 500000 : Int) ≤ 9223372036854775807)) := Zleqf h47 (Zc 9223372036854775807) g36
                                                                            clear g36
                                                                            omega
                                                                        · have k35 : ¬ ((((-9223372036854775807) : Int) ≤ (-500) * x4 + 500000)) := Zleqf (Zc (-9223372036854775807)) h47 g35
                                                                          clear g35
                                                                          omega
                                                                      · have k34 : ¬ (((x4 + 50000 : Int) ≤ 51000)) := Zleqf h1 (Zc 51000) g34
                                                                        clear g34
                                                                        omega
                                                                    · have k33 : ¬ (((1 : Int) ≤ x4 + 50000)) := Zleqf (Zc 1) h1 g33
                                                                      clear g33
                                                                      omega
                                                                  · have k32 : ¬ ((((-500) * u34 + 25500000 : Int) ≤ 9223372036854775807)) := Zleqf h82 (Zc 9223372036854775807) g32
                                                                    clear g32
                                                                    omega
                                                                · have k31 : ¬ ((((-9223372036854775807) : Int) ≤ (-500) * u34 + 25500000)) := Zleqf (Zc (-9223372036854775807)) h82 g31
                                                                  clear g31
                                                                  omega
                                                              · have k30 : ¬ (((u34 : Int) ≤ 51000)) := Zleqf h78 (Zc 51000) g30
                                                                clear g30
                                                                omega
                                                            · have k29 : ¬ (((1 : Int) ≤ u34)) := Zleqf (Zc 1) h78 g29
                                                              clear g29
                                                              omega
                                                          · have k28 : ¬ (((4 * m37 + 9000 * r36 + 4 * x0 + 9000 : Int) ≤ 9223372036854775807)) := Zleqf h43 (Zc 9223372036854775807) g28
                                                            clear g28
                                                            omega
                                                        · have k27 : ¬ (((1 : Int) ≤ 4 * m37 + 9000 * r36 + 4 * x0 + 9000)) := Zleqf (Zc 1) h43 g27
                                                          clear g27
                                                          omega
                                                      · have k26 : ¬ ((((-500) * u33 + 25500000 : Int) ≤ 9223372036854775807)) := Zleqf h80 (Zc 9223372036854775807) g26
                                                        clear g26
                                                        omega
                                                    · have k25 : ¬ ((((-9223372036854775807) : Int) ≤ (-500) * u33 + 25500000)) := Zleqf (Zc (-9223372036854775807)) h80 g25
                                                      clear g25
                                                      omega
                                                · have k23 : ¬ (((u33 : Int) ≤ 51000)) := Zleqf h77 (Zc 51000) g23
                                                  clear g23
                                                  omega
                                              · have k22 : ¬ (((46 * x1 + 46 * x2 + 36800 : Int) ≤ 2000 * x0 + 4500000)) := Zleqf h38 h39 g22
                                                clear g22
                                                omega
                                            · have k21 : ¬ (((r36 + 1 : Int) ≤ 100)) := Zleqf h36 (Zc 100) g21
                                              clear g21
                                              omega
                                          · have k20 : ¬ (((0 : Int) ≤ r36 + 1)) := Zleqf (Zc 0) h36 g20
                                            clear g20
                                            omega
                                        · have k19 : ¬ (((x2 + 400 : Int) ≤ 3000)) := Zleqf h33 (Zc 3000) g19
                                          clear g19
                                          omega
                                      · have k18 : ¬ (((0 : Int) ≤ x2 + 400)) := Zleqf (Zc 0) h33 g18
                                        clear g18
                                        omega
                                    · have k17 : ¬ (((x1 + 400 : Int) ≤ 3000)) := Zleqf h31 (Zc 3000) g17
                                      clear g17
                                      omega
                                  · have k16 : ¬ (((0 : Int) ≤ x1 + 400)) := Zleqf (Zc 0) h31 g16
                                    clear g16
                                    omega
                                · have k15 : ¬ (((4 * x0 + 9000 : Int) ≤ 200000)) := Zleqf h29 (Zc 200000) g15
                                  clear g15
                                  omega
                              · have k14 : ¬ (((100 : Int) ≤ 4 * x0 + 9000)) := Zleqf (Zc 100) h29 g14
                                clear g14
                                omega
                            · have k13 : ¬ (((u34 : Int) ≤ x4 + 50000)) := Zleqf h78 h1 g13
                              clear g13
                              omega
                          · have k12 : ¬ (((1 : Int) ≤ u33)) := Zleqf (Zc 1) h77 g12
                            clear g12
                            omega
                        · have k11 : ¬ ((((-1) * q5 + u31 + (-1) : Int) ≤ (-1) * q3 + x4 + 50000)) := Zleqf h76 h14 g11
                          clear g11
                          omega
                      · have k10 : ¬ (((u31 : Int) ≤ u32)) := Zleqf h71 h74 g10
                        clear g10
                        omega
                    · have k9 : ¬ ((((-1) * q5 + u31 + (-1) : Int) ≤ (-1) * q5 + 49999)) := Zleqf h76 h69 g9
                      clear g9
                      omega
                  · have k8 : ¬ (((x4 + 50000 : Int) ≤ u32)) := Zleqf h10 h74 g8
                    clear g8
                    omega
                · have k7 : ¬ (((u31 : Int) ≤ 50000)) := Zleqf h71 h15 g7
                  clear g7
                  omega
              · have k6 : ¬ ((((-1) * q3 + x4 + 50000 : Int) ≤ (-1) * q3 + x4 + 50000)) := Zleqf h13 h14 g6
                clear g6
                omega
          · have k4 : ¬ ((((-1) * r4 : Int) ≤ 0)) := Zleqf h7 (Zc 0) g4
            clear g4
            omega
        · have k3 : ¬ (((r2 + 1 : Int) ≤ 100000)) := Zleqf h4 (Zc 100000) g3
          clear g3
          omega
      · have k2 : ¬ (((1 : Int) ≤ r2 + 1)) := Zleqf (Zc 1) h4 g2
        clear g2
        omega
    · have k1 : ¬ (((x4 + 50000 : Int) ≤ 10000000)) := Zleqf h1 (Zc 10000000) g1
      clear g1
      omega
  · have k0 : ¬ (((50000 : Int) ≤ x4 + 50000)) := Zleqf (Zc 50000) h1 g0
    clear g0
    omega
end Go.Proofs.Ytlffofemajfdjaa.Cx
