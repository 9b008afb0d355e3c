/- bolt.Learn: true frictions lie in what it returns. Made by tools/cxvc.py. -/
import Derived.Test.YtknphpihipkdpaaBLearnST
set_option linter.unusedSimpArgs false
set_option linter.unusedVariables false
set_option maxRecDepth 100000
set_option maxHeartbeats 4000000
namespace Go.Proofs.Ytknphpihipkdpaa.Cx
open Go Go.RowKit

theorem bles_am1 {x1 x4 : Int} (b_x1 : 0 ≤ x1 ∧ x1 ≤ 100000) (b_x4 : 0 ≤ x4 ∧ x4 ≤ 1000) : ∃ m : Int, Hd (x1 * x4 = m) ∧ ((0) * x4 + (0) * x1 - (0) ≤ m) ∧ ((100000) * x4 + (1000) * x1 - (100000000) ≤ m) ∧ (m ≤ (100000) * x4 + (0) * x1 - (0)) ∧ (m ≤ (0) * x4 + (1000) * x1 - (0)) ∧ (0 ≤ m ∧ m ≤ 100000000) := by
  obtain ⟨h1, h2, h3, h4⟩ := mcc (x := x1) (y := x4) b_x1.1 b_x1.2 b_x4.1 b_x4.2
  refine ⟨_, ⟨rfl⟩, ?_, ?_, ?_, ?_, ?_, ?_⟩ <;> omega
theorem bles_aw2 {m1 : Int} (b_m1 : 0 ≤ m1 ∧ m1 ≤ 100000000) : ∃ w : Int, (m1 = w) ∧ (0 ≤ w ∧ w ≤ 100000000) := ⟨_, rfl, by omega, by omega⟩
theorem bles_am3 {x2 x6 : Int} (b_x2 : 0 ≤ x2 ∧ x2 ≤ 100000) (b_x6 : 0 ≤ x6 ∧ x6 ≤ 1000) : ∃ m : Int, Hd (x2 * x6 = m) ∧ ((0) * x6 + (0) * x2 - (0) ≤ m) ∧ ((100000) * x6 + (1000) * x2 - (100000000) ≤ m) ∧ (m ≤ (100000) * x6 + (0) * x2 - (0)) ∧ (m ≤ (0) * x6 + (1000) * x2 - (0)) ∧ (0 ≤ m ∧ m ≤ 100000000) := by
  obtain ⟨h1, h2, h3, h4⟩ := mcc (x := x2) (y := x6) b_x2.1 b_x2.2 b_x6.1 b_x6.2
  refine ⟨_, ⟨rfl⟩, ?_, ?_, ?_, ?_, ?_, ?_⟩ <;> omega
theorem bles_aw4 {m3 : Int} (b_m3 : 0 ≤ m3 ∧ m3 ≤ 100000000) : ∃ w : Int, (m3 = w) ∧ (0 ≤ w ∧ w ≤ 100000000) := ⟨_, rfl, by omega, by omega⟩
theorem bles_aw5 {x14 : Int} (b_x14 : 0 ≤ x14 ∧ x14 ≤ 10000000000000) : ∃ w : Int, (1000 * x14 = w) ∧ (0 ≤ w ∧ w ≤ 10000000000000000) := ⟨_, rfl, by omega, by omega⟩
theorem bles_aq6 {w5 x15 : Int} (b_w5 : 0 ≤ w5 ∧ w5 ≤ 10000000000000000) (b_x15 : 0 ≤ x15 ∧ x15 ≤ 100000000) : ∃ q : Int, Hd (w5.tdiv x15 = q) ∧ (1 ≤ x15 → QD w5 x15 q) ∧ (0 ≤ q ∧ q ≤ 10000000000000000) := qZ_ex w5 x15 (0) 10000000000000000 (by omega) (by omega) (by omega) (by omega) (by omega)
theorem bles_am7 {q6 x15 : Int} (b_q6 : 0 ≤ q6 ∧ q6 ≤ 10000000000000000) (b_x15 : 0 ≤ x15 ∧ x15 ≤ 100000000) : ∃ m : Int, Hd (q6 * x15 = m) ∧ ((0) * x15 + (0) * q6 - (0) ≤ m) ∧ ((10000000000000000) * x15 + (100000000) * q6 - (1000000000000000000000000) ≤ m) ∧ (m ≤ (10000000000000000) * x15 + (0) * q6 - (0)) ∧ (m ≤ (0) * x15 + (100000000) * q6 - (0)) ∧ (0 ≤ m ∧ m ≤ 1000000000000000000000000) := by
  obtain ⟨h1, h2, h3, h4⟩ := mcc (x := q6) (y := x15) b_q6.1 b_q6.2 b_x15.1 b_x15.2
  refine ⟨_, ⟨rfl⟩, ?_, ?_, ?_, ?_, ?_, ?_⟩ <;> omega
theorem bles_au8 {q6 w2 w4 x0 : Int} (b_q6 : 0 ≤ q6 ∧ q6 ≤ 10000000000000000) (b_w2 : 0 ≤ w2 ∧ w2 ≤ 100000000) (b_w4 : 0 ≤ w4 ∧ w4 ≤ 100000000) (b_x0 : 1 ≤ x0 ∧ x0 ≤ 100000) : ∃ m : Int, (max (q6 + (-1) * w2 + (-1) * w4 + (-1000) * x0) 0 = m) ∧ (0 ≤ m ∧ m ≤ 9999999999999000) := ⟨_, rfl, by omega, by omega⟩
theorem bles_am9 {x1 x17 : Int} (b_x1 : 0 ≤ x1 ∧ x1 ≤ 100000) (b_x17 : 0 ≤ x17 ∧ x17 ≤ 1000) : ∃ m : Int, Hd (x1 * x17 = m) ∧ ((0) * x17 + (0) * x1 - (0) ≤ m) ∧ ((100000) * x17 + (1000) * x1 - (100000000) ≤ m) ∧ (m ≤ (100000) * x17 + (0) * x1 - (0)) ∧ (m ≤ (0) * x17 + (1000) * x1 - (0)) ∧ (0 ≤ m ∧ m ≤ 100000000) := by
  obtain ⟨h1, h2, h3, h4⟩ := mcc (x := x1) (y := x17) b_x1.1 b_x1.2 b_x17.1 b_x17.2
  refine ⟨_, ⟨rfl⟩, ?_, ?_, ?_, ?_, ?_, ?_⟩ <;> omega
theorem bles_am10 {x18 x2 : Int} (b_x18 : 0 ≤ x18 ∧ x18 ≤ 1000) (b_x2 : 0 ≤ x2 ∧ x2 ≤ 100000) : ∃ m : Int, Hd (x18 * x2 = m) ∧ ((0) * x2 + (0) * x18 - (0) ≤ m) ∧ ((1000) * x2 + (100000) * x18 - (100000000) ≤ m) ∧ (m ≤ (1000) * x2 + (0) * x18 - (0)) ∧ (m ≤ (0) * x2 + (100000) * x18 - (0)) ∧ (0 ≤ m ∧ m ≤ 100000000) := by
  obtain ⟨h1, h2, h3, h4⟩ := mcc (x := x18) (y := x2) b_x18.1 b_x18.2 b_x2.1 b_x2.2
  refine ⟨_, ⟨rfl⟩, ?_, ?_, ?_, ?_, ?_, ?_⟩ <;> omega
theorem bles_am11 {x16 x19 : Int} (b_x16 : 0 ≤ x16 ∧ x16 ≤ 100000000) (b_x19 : 1000 ≤ x19 ∧ x19 ≤ 300000000) : ∃ m : Int, Hd (x16 * x19 = m) ∧ ((0) * x19 + (1000) * x16 - (0) ≤ m) ∧ ((100000000) * x19 + (300000000) * x16 - (30000000000000000) ≤ m) ∧ (m ≤ (100000000) * x19 + (1000) * x16 - (100000000000)) ∧ (m ≤ (0) * x19 + (300000000) * x16 - (0)) ∧ (0 ≤ m ∧ m ≤ 30000000000000000) := by
  obtain ⟨h1, h2, h3, h4⟩ := mcc (x := x16) (y := x19) b_x16.1 b_x16.2 b_x19.1 b_x19.2
  refine ⟨_, ⟨rfl⟩, ?_, ?_, ?_, ?_, ?_, ?_⟩ <;> omega
theorem bles_am12 {x15 x19 : Int} (b_x15 : 0 ≤ x15 ∧ x15 ≤ 100000000) (b_x19 : 1000 ≤ x19 ∧ x19 ≤ 300000000) : ∃ m : Int, Hd (x15 * x19 = m) ∧ ((0) * x19 + (1000) * x15 - (0) ≤ m) ∧ ((100000000) * x19 + (300000000) * x15 - (30000000000000000) ≤ m) ∧ (m ≤ (100000000) * x19 + (1000) * x15 - (100000000000)) ∧ (m ≤ (0) * x19 + (300000000) * x15 - (0)) ∧ (0 ≤ m ∧ m ≤ 30000000000000000) := by
  obtain ⟨h1, h2, h3, h4⟩ := mcc (x := x15) (y := x19) b_x15.1 b_x15.2 b_x19.1 b_x19.2
  refine ⟨_, ⟨rfl⟩, ?_, ?_, ?_, ?_, ?_, ?_⟩ <;> omega
theorem bles_rf4 {x17 x3 : Int}  (v7 : x3 ≤ x17) : 0 ≤ x17 + (-1) * x3 := by omega
theorem bles_am13 {x1 x3 : Int} (b_x1 : 0 ≤ x1 ∧ x1 ≤ 100000) (b_x3 : 0 ≤ x3 ∧ x3 ≤ 1000) : ∃ m : Int, Hd (x1 * x3 = m) ∧ ((0) * x3 + (0) * x1 - (0) ≤ m) ∧ ((100000) * x3 + (1000) * x1 - (100000000) ≤ m) ∧ (m ≤ (100000) * x3 + (0) * x1 - (0)) ∧ (m ≤ (0) * x3 + (1000) * x1 - (0)) ∧ (0 ≤ m ∧ m ≤ 100000000) := by
  obtain ⟨h1, h2, h3, h4⟩ := mcc (x := x1) (y := x3) b_x1.1 b_x1.2 b_x3.1 b_x3.2
  refine ⟨_, ⟨rfl⟩, ?_, ?_, ?_, ?_, ?_, ?_⟩ <;> omega
theorem bles_rf4_0 {x17 x3 m13 m9 x1 : Int} (b_x1 : 0 ≤ x1 ∧ x1 ≤ 100000) (rf4 : 0 ≤ x17 + (-1) * x3) (m9e : Hd (x1 * x17 = m9)) (m13e : Hd (x1 * x3 = m13)) : 0 ≤ (-1) * m13 + m9 := by
  have e1 : (x17 + (-1) * x3) * (x1) = (-1) * m13 + m9 := ((by simp only [Int.add_mul, Int.mul_add, Int.mul_assoc, Int.mul_comm, Int.mul_left_comm, Int.reduceMul, Int.reduceNeg, Int.mul_one, Int.one_mul] <;> omega : (x17 + (-1) * x3) * (x1) = x1 * x17 + (-1) * (x1 * x3)).trans (by (try simp only [m9e.out, m13e.out]) <;> omega))
  exact e1 ▸ Int.mul_nonneg (by omega) (by omega)
theorem bles_rf5 {x17 x4 : Int}  (v8 : x17 ≤ x4) : 0 ≤ (-1) * x17 + x4 := by omega
theorem bles_rf5_0 {x17 x4 m1 m9 x1 : Int} (b_x1 : 0 ≤ x1 ∧ x1 ≤ 100000) (rf5 : 0 ≤ (-1) * x17 + x4) (m9e : Hd (x1 * x17 = m9)) (m1e : Hd (x1 * x4 = m1)) : 0 ≤ m1 + (-1) * m9 := by
  have e1 : ((-1) * x17 + x4) * (x1) = m1 + (-1) * m9 := ((by simp only [Int.add_mul, Int.mul_add, Int.mul_assoc, Int.mul_comm, Int.mul_left_comm, Int.reduceMul, Int.reduceNeg, Int.mul_one, Int.one_mul] <;> omega : ((-1) * x17 + x4) * (x1) = (-1) * (x1 * x17) + x1 * x4).trans (by (try simp only [m9e.out, m1e.out]) <;> omega))
  exact e1 ▸ Int.mul_nonneg (by omega) (by omega)
theorem bles_rf6 {x18 x5 : Int}  (v9 : x5 ≤ x18) : 0 ≤ x18 + (-1) * x5 := by omega
theorem bles_am14 {x2 x5 : Int} (b_x2 : 0 ≤ x2 ∧ x2 ≤ 100000) (b_x5 : 0 ≤ x5 ∧ x5 ≤ 1000) : ∃ m : Int, Hd (x2 * x5 = m) ∧ ((0) * x5 + (0) * x2 - (0) ≤ m) ∧ ((100000) * x5 + (1000) * x2 - (100000000) ≤ m) ∧ (m ≤ (100000) * x5 + (0) * x2 - (0)) ∧ (m ≤ (0) * x5 + (1000) * x2 - (0)) ∧ (0 ≤ m ∧ m ≤ 100000000) := by
  obtain ⟨h1, h2, h3, h4⟩ := mcc (x := x2) (y := x5) b_x2.1 b_x2.2 b_x5.1 b_x5.2
  refine ⟨_, ⟨rfl⟩, ?_, ?_, ?_, ?_, ?_, ?_⟩ <;> omega
theorem bles_rf6_0 {x18 x5 m10 m14 x2 : Int} (b_x2 : 0 ≤ x2 ∧ x2 ≤ 100000) (rf6 : 0 ≤ x18 + (-1) * x5) (m10e : Hd (x18 * x2 = m10)) (m14e : Hd (x2 * x5 = m14)) : 0 ≤ m10 + (-1) * m14 := by
  have e1 : (x18 + (-1) * x5) * (x2) = m10 + (-1) * m14 := ((by simp only [Int.add_mul, Int.mul_add, Int.mul_assoc, Int.mul_comm, Int.mul_left_comm, Int.reduceMul, Int.reduceNeg, Int.mul_one, Int.one_mul] <;> omega : (x18 + (-1) * x5) * (x2) = x18 * x2 + (-1) * (x2 * x5)).trans (by (try simp only [m10e.out, m14e.out]) <;> omega))
  exact e1 ▸ Int.mul_nonneg (by omega) (by omega)
theorem bles_rf7 {x18 x6 : Int}  (v10 : x18 ≤ x6) : 0 ≤ (-1) * x18 + x6 := by omega
theorem bles_rf7_0 {x18 x6 m10 m3 x2 : Int} (b_x2 : 0 ≤ x2 ∧ x2 ≤ 100000) (rf7 : 0 ≤ (-1) * x18 + x6) (m10e : Hd (x18 * x2 = m10)) (m3e : Hd (x2 * x6 = m3)) : 0 ≤ (-1) * m10 + m3 := by
  have e1 : ((-1) * x18 + x6) * (x2) = (-1) * m10 + m3 := ((by simp only [Int.add_mul, Int.mul_add, Int.mul_assoc, Int.mul_comm, Int.mul_left_comm, Int.reduceMul, Int.reduceNeg, Int.mul_one, Int.one_mul] <;> omega : ((-1) * x18 + x6) * (x2) = (-1) * (x18 * x2) + x2 * x6).trans (by (try simp only [m10e.out, m3e.out]) <;> omega))
  exact e1 ▸ Int.mul_nonneg (by omega) (by omega)
theorem bles_rf8 {x19 m12 q6 w5 x15 : Int} (b_x15 : 0 ≤ x15 ∧ x15 ≤ 100000000) (q6h : 1 ≤ x15 → QD w5 x15 q6) (m12e : Hd (x15 * x19 = m12)) : 1 ≤ x15 → 1 ≤ x19 ∨ 0 ≤ w5 → x19 ≤ q6 ∧ m12 ≤ w5 ∨ q6 + 1 ≤ x19 ∧ w5 + 1 ≤ m12 := qZ_gal q6h (by
  have e1 : (x19) * (x15) = m12 := ((by simp only [Int.add_mul, Int.mul_add, Int.mul_assoc, Int.mul_comm, Int.mul_left_comm, Int.reduceMul, Int.reduceNeg, Int.mul_one, Int.one_mul] <;> omega : (x19) * (x15) = x15 * x19).trans (by (try simp only [m12e.out]) <;> omega))
  exact e1)
set_option maxHeartbeats 40000000 in
theorem bles_g0 {ρ : Env} {x1 x4 w2 m1 x2 x6 w4 m3 x0 x14 x15 q6 w5 u8 x16 : Int} (e1 : Is ρ (.v 1) x1) (e4 : Is ρ (.v 4) x4) (m1e : Hd (x1 * x4 = m1)) (w2s : Hd (m1 = w2)) (e2 : Is ρ (.v 2) x2) (e6 : Is ρ (.v 6) x6) (m3e : Hd (x2 * x6 = m3)) (w4s : Hd (m3 = w4)) (e0 : Is ρ (.v 0) x0) (e14 : Is ρ (.v 14) x14) (e15 : Is ρ (.v 15) x15) (q6e : Hd (w5.tdiv x15 = q6)) (w5s : Hd (1000 * x14 = w5)) (u8s : Hd (max (q6 + (-1) * w2 + (-1) * w4 + (-1000) * x0) 0 = u8)) (e16 : Is ρ (.v 16) x16) (b_x1 : 0 ≤ x1 ∧ x1 ≤ 100000) (b_x4 : 0 ≤ x4 ∧ x4 ≤ 1000) (b_w2 : 0 ≤ w2 ∧ w2 ≤ 100000000) (b_m1 : 0 ≤ m1 ∧ m1 ≤ 100000000) (b_x2 : 0 ≤ x2 ∧ x2 ≤ 100000) (b_x6 : 0 ≤ x6 ∧ x6 ≤ 1000) (b_w4 : 0 ≤ w4 ∧ w4 ≤ 100000000) (b_m3 : 0 ≤ m3 ∧ m3 ≤ 100000000) (b_x0 : 1 ≤ x0 ∧ x0 ≤ 100000) (b_x14 : 0 ≤ x14 ∧ x14 ≤ 10000000000000) (b_x15 : 0 ≤ x15 ∧ x15 ≤ 100000000) (b_q6 : 0 ≤ q6 ∧ q6 ≤ 10000000000000000) (b_w5 : 0 ≤ w5 ∧ w5 ≤ 10000000000000000) (b_u8 : 0 ≤ u8 ∧ u8 ≤ 9999999999999000) (b_x16 : 0 ≤ x16 ∧ x16 ≤ 100000000) : Is ρ bles4 (w2 + w4 + 1000 * x0) ∧ Is ρ bles7 (q6 + (-1) * u8) ∧ Is ρ bles8 (x16 + 1) := by
  have h0 : Is ρ bles0 (w2) := by
    have w2s := w2s.out
    exact Zmul e1 e4 (by omega) (((by simp only [Int.add_mul, Int.mul_add, Int.mul_assoc, Int.mul_comm, Int.mul_left_comm, Int.reduceMul, Int.reduceNeg, Int.mul_one, Int.one_mul] <;> omega : (x1) * (x4) = x1 * x4).trans (by (try simp only [m1e.out]) <;> omega)).trans w2s)
  have h1 : Is ρ bles1 (w4) := by
    have w4s := w4s.out
    exact Zmul e2 e6 (by omega) (((by simp only [Int.add_mul, Int.mul_add, Int.mul_assoc, Int.mul_comm, Int.mul_left_comm, Int.reduceMul, Int.reduceNeg, Int.mul_one, Int.one_mul] <;> omega : (x2) * (x6) = x2 * x6).trans (by (try simp only [m3e.out]) <;> omega)).trans w4s)
  have h2 : Is ρ bles2 (w2 + w4) := Ya h0 h1 (by omega)
  have h3 : Is ρ bles3 (1000 * x0) := Ym (Zc 1000) e0 (by omega)
  have h4 : Is ρ bles4 (w2 + w4 + 1000 * x0) := Ya h2 h3 (by omega)
  have h5 : Is ρ bles5 (1000 * x14) := Ym (Zc 1000) e14 (by omega)
  have h6 : Is ρ bles6 (q6) := by
    have w5s := w5s.out
    exact Ztq (w5s ▸ h5) e15 q6e.out (by omega)
  have h7 : Is ρ bles7 (q6 + (-1) * u8) := by
    have u8s := u8s.out
    exact Zmn h4 h6 (by omega)
  have h8 : Is ρ bles8 (x16 + 1) := Ya e16 (Zc 1) (by omega)
  exact ⟨h4, h7, h8⟩
theorem bles_t1 {x0 : Int} (b_x0 : 1 ≤ x0 ∧ x0 ≤ 100000) : ¬ ((x0 : Int) ≤ 0) := by omega
theorem bles_t2 {x0 : Int} (b_x0 : 1 ≤ x0 ∧ x0 ≤ 100000) : (0 : Int) ≤ x0 := by omega
theorem bles_t3 {x0 : Int} (b_x0 : 1 ≤ x0 ∧ x0 ≤ 100000) : (x0 : Int) ≤ 100000 := by omega
theorem bles_t4 {x1 : Int} (b_x1 : 0 ≤ x1 ∧ x1 ≤ 100000) : (0 : Int) ≤ x1 := by omega
theorem bles_t5 {x1 : Int} (b_x1 : 0 ≤ x1 ∧ x1 ≤ 100000) : (x1 : Int) ≤ 100000 := by omega
theorem bles_t6 {x2 : Int} (b_x2 : 0 ≤ x2 ∧ x2 ≤ 100000) : (0 : Int) ≤ x2 := by omega
theorem bles_t7 {x2 : Int} (b_x2 : 0 ≤ x2 ∧ x2 ≤ 100000) : (x2 : Int) ≤ 100000 := by omega
theorem bles_t8 {x3 : Int} (b_x3 : 0 ≤ x3 ∧ x3 ≤ 1000) : (0 : Int) ≤ x3 := by omega
theorem bles_d0 {x3 x4 : Int}  (v0 : x3 ≤ x4) : (x3 : Int) ≤ x4 := by omega
theorem bles_t10 {x4 : Int} (b_x4 : 0 ≤ x4 ∧ x4 ≤ 1000) : (x4 : Int) ≤ 1000 := by omega
theorem bles_t11 {x5 : Int} (b_x5 : 0 ≤ x5 ∧ x5 ≤ 1000) : (0 : Int) ≤ x5 := by omega
theorem bles_d1 {x5 x6 : Int}  (v1 : x5 ≤ x6) : (x5 : Int) ≤ x6 := by omega
theorem bles_t13 {x6 : Int} (b_x6 : 0 ≤ x6 ∧ x6 ≤ 1000) : (x6 : Int) ≤ 1000 := by omega
theorem bles_t14 {x7 : Int} (b_x7 : 1 ≤ x7 ∧ x7 ≤ 100000000) : (1 : Int) ≤ x7 := by omega
theorem bles_d2 {x7 x8 : Int}  (v2 : x7 ≤ x8) : (x7 : Int) ≤ x8 := by omega
theorem bles_t16 {x8 : Int} (b_x8 : 1 ≤ x8 ∧ x8 ≤ 100000000) : (x8 : Int) ≤ 100000000 := by omega
theorem bles_t17 {x9 : Int} (b_x9 : 1 ≤ x9 ∧ x9 ≤ 100000) : (1 : Int) ≤ x9 := by omega
theorem bles_d3 {x9 x10 : Int}  (v3 : x9 ≤ x10) : (x9 : Int) ≤ x10 := by omega
theorem bles_t19 {x10 : Int} (b_x10 : 1 ≤ x10 ∧ x10 ≤ 100000) : (x10 : Int) ≤ 100000 := by omega
theorem bles_t20 {x11 : Int} (b_x11 : 1 ≤ x11 ∧ x11 ≤ 100000000) : (1 : Int) ≤ x11 := by omega
theorem bles_d4 {x11 x12 : Int}  (v4 : x11 ≤ x12) : (x11 : Int) ≤ x12 := by omega
theorem bles_t22 {x12 : Int} (b_x12 : 1 ≤ x12 ∧ x12 ≤ 100000000) : (x12 : Int) ≤ 100000000 := by omega
theorem bles_t23 {x13 : Int} (b_x13 : 0 ≤ x13 ∧ x13 ≤ 10000000000000) : (0 : Int) ≤ x13 := by omega
theorem bles_d5 {x13 x14 : Int}  (v5 : x13 ≤ x14) : (x13 : Int) ≤ x14 := by omega
theorem bles_t25 {x14 : Int} (b_x14 : 0 ≤ x14 ∧ x14 ≤ 10000000000000) : (x14 : Int) ≤ 10000000000000 := by omega
theorem bles_t26 {x15 : Int} (b_x15 : 0 ≤ x15 ∧ x15 ≤ 100000000) : (0 : Int) ≤ x15 := by omega
theorem bles_d6 {x15 x16 : Int}  (v6 : x15 ≤ x16) : (x15 : Int) ≤ x16 := by omega
theorem bles_t28 {x16 : Int} (b_x16 : 0 ≤ x16 ∧ x16 ≤ 100000000) : (x16 : Int) ≤ 100000000 := by omega
theorem bles_t29 {x16 : Int} (b_x16 : 0 ≤ x16 ∧ x16 ≤ 100000000) : ¬ ((x16 + 1 : Int) = 0) := by omega
theorem bles_d7 {x3 : Int} (b_x3 : 0 ≤ x3 ∧ x3 ≤ 1000) : (0 : Int) ≤ (x3) ∧ (x3 : Int) ≤ 1001 := by omega
theorem bles_d8  : (0 : Int) ≤ (1000) ∧ (1000 : Int) ≤ 1000 := by omega
theorem bles_d9  : (0 : Int) ≤ (0) ∧ (0 : Int) ≤ 1000 := by omega
theorem bles_d10 {w2 w4 x0 : Int} (b_w2 : 0 ≤ w2 ∧ w2 ≤ 100000000) (b_w4 : 0 ≤ w4 ∧ w4 ≤ 100000000) (b_x0 : 1 ≤ x0 ∧ x0 ≤ 100000) : (0 : Int) ≤ (w2 + w4 + 1000 * x0) ∧ (w2 + w4 + 1000 * x0 : Int) ≤ 1000000000000000000 := by omega
theorem bles_d11 {x3 : Int}  : x3 ≤ (x3) := by omega
theorem bles_d12 {w2 w4 x0 x19 m9 m10 m1 m3 : Int}  (rf1 : x19 = 1000 * x0 + m9 + m10) (w2s : m1 = w2) (w4s : m3 = w4) (rf5_0 : 0 ≤ m1 + (-1) * m9) (rf7_0 : 0 ≤ (-1) * m10 + m3) : x19 ≤ (w2 + w4 + 1000 * x0) := by omega
theorem bles_d13 {x3 x4 : Int}  (v0 : x3 ≤ x4) : (x3) ≤ x4 + 1 := by omega
theorem bles_d14 {x17 x18 x3 : Int}  (v7 : x3 ≤ x17) : x17 + 1 ≤ (x3) → (1000 : Int) ≤ x17 ∧ x17 ≤ (0 : Int) ∧ (1000 : Int) ≤ x18 ∧ x18 ≤ (0 : Int) := by omega
theorem bles_d15 {x3 x4 x5 x6 : Int}  : ((1000 : Int) = 1000 ∧ (0 : Int) = 0 ∧ (1000 : Int) = 1000 ∧ (0 : Int) = 0) ∨ (x3 ≤ (1000 : Int) ∧ (0 : Int) ≤ x4 ∧ x5 ≤ (1000 : Int) ∧ (0 : Int) ≤ x6) := by omega
theorem bles_d16 {x15 : Int}  (k7 : ¬ ((x15 : Int) ≤ 0)) : ¬ ((x15 : Int) = 0) := by omega
theorem bles_d17 {q6 u8 w2 w4 x0 : Int} (b_q6 : 0 ≤ q6 ∧ q6 ≤ 10000000000000000) (b_w2 : 0 ≤ w2 ∧ w2 ≤ 100000000) (b_w4 : 0 ≤ w4 ∧ w4 ≤ 100000000) (b_x0 : 1 ≤ x0 ∧ x0 ≤ 100000) (u8s : max (q6 + (-1) * w2 + (-1) * w4 + (-1000) * x0) 0 = u8) : (0 : Int) ≤ (q6 + (-1) * u8) ∧ (q6 + (-1) * u8 : Int) ≤ 1000000000000000000 := by omega
theorem bles_d18 {q6 u8 x19 w5 x0 m9 m10 x15 m12 w2 w4 m1 m3 x14 : Int} (b_w5 : 0 ≤ w5 ∧ w5 ≤ 10000000000000000) (rf1 : x19 = 1000 * x0 + m9 + m10) (rf8 : 1 ≤ x15 → 1 ≤ x19 ∨ 0 ≤ w5 → x19 ≤ q6 ∧ m12 ≤ w5 ∨ q6 + 1 ≤ x19 ∧ w5 + 1 ≤ m12) (u8s : max (q6 + (-1) * w2 + (-1) * w4 + (-1000) * x0) 0 = u8) (k7 : ¬ ((x15 : Int) ≤ 0)) (rf5_0 : 0 ≤ m1 + (-1) * m9) (rf7_0 : 0 ≤ (-1) * m10 + m3) (rf3 : m12 ≤ 1000 * x14) (w5s : 1000 * x14 = w5) (w2s : m1 = w2) (w4s : m3 = w4) : x19 ≤ (q6 + (-1) * u8) := by omega
end Go.Proofs.Ytknphpihipkdpaa.Cx
