/- BoltEnough: the tests of the law and their arithmetic. Made by tools/cxroot.py. -/
import Derived.Test.YtknphpihipkdpaaBEnoughT
import Derived.Test.YtknphpihipkdpaaCxDiv
set_option linter.unusedSimpArgs false
set_option linter.unusedVariables false
set_option maxRecDepth 100000
set_option maxHeartbeats 4000000
namespace Go.Proofs.Ytknphpihipkdpaa.Cx
open Go Go.RowKit

theorem be_aq1 {x4 : Int} (b_x4 : 0 ≤ x4 ∧ x4 ≤ 255) : ∃ q r : Int, Hd ((x4) / 60 = q) ∧ Hd ((x4) % 60 = r) ∧ (x4 = 60 * q + r) ∧ (0 ≤ q ∧ q ≤ 4) ∧ (0 ≤ r ∧ r ≤ 59) := ⟨_, _, ⟨rfl⟩, ⟨rfl⟩, by omega, by omega, by omega⟩
theorem be_aq3 {x6 : Int} (b_x6 : 0 ≤ x6 ∧ x6 ≤ 255) : ∃ q r : Int, Hd ((x6) / 60 = q) ∧ Hd ((x6) % 60 = r) ∧ (x6 = 60 * q + r) ∧ (0 ≤ q ∧ q ≤ 4) ∧ (0 ≤ r ∧ r ≤ 59) := ⟨_, _, ⟨rfl⟩, ⟨rfl⟩, by omega, by omega, by omega⟩
theorem be_aq5 {x10 : Int} (b_x10 : 0 ≤ x10 ∧ x10 ≤ 255) : ∃ q r : Int, Hd ((x10) / 20 = q) ∧ Hd ((x10) % 20 = r) ∧ (x10 = 20 * q + r) ∧ (0 ≤ q ∧ q ≤ 12) ∧ (0 ≤ r ∧ r ≤ 19) := ⟨_, _, ⟨rfl⟩, ⟨rfl⟩, by omega, by omega, by omega⟩
theorem be_aq7 {x26 : Int} (b_x26 : 0 ≤ x26 ∧ x26 ≤ 4294967295) : ∃ q r : Int, Hd ((x26) / 100000001 = q) ∧ Hd ((x26) % 100000001 = r) ∧ (x26 = 100000001 * q + r) ∧ (0 ≤ q ∧ q ≤ 42) ∧ (0 ≤ r ∧ r ≤ 100000000) := ⟨_, _, ⟨rfl⟩, ⟨rfl⟩, by omega, by omega, by omega⟩
theorem be_am9 {x1 x27 : Int} (b_x1 : 0 ≤ x1 ∧ x1 ≤ 255) (b_x27 : 0 ≤ x27 ∧ x27 ≤ 255) : ∃ m : Int, Hd (x1 * x27 = m) ∧ ((0) * x27 + (0) * x1 - (0) ≤ m) ∧ ((255) * x27 + (255) * x1 - (65025) ≤ m) ∧ (m ≤ (255) * x27 + (0) * x1 - (0)) ∧ (m ≤ (0) * x27 + (255) * x1 - (0)) ∧ (0 ≤ m ∧ m ≤ 65025) := by
  obtain ⟨h1, h2, h3, h4⟩ := mcc (x := x1) (y := x27) b_x1.1 b_x1.2 b_x27.1 b_x27.2
  refine ⟨_, ⟨rfl⟩, ?_, ?_, ?_, ?_, ?_, ?_⟩ <;> omega
theorem be_aw10 {m9 : Int} (b_m9 : 0 ≤ m9 ∧ m9 ≤ 65025) : ∃ w : Int, (60 * m9 = w) ∧ (0 ≤ w ∧ w ≤ 3901500) := ⟨_, rfl, by omega, by omega⟩
theorem be_am11 {x2 x28 : Int} (b_x2 : 0 ≤ x2 ∧ x2 ≤ 255) (b_x28 : 0 ≤ x28 ∧ x28 ≤ 255) : ∃ m : Int, Hd (x2 * x28 = m) ∧ ((0) * x28 + (0) * x2 - (0) ≤ m) ∧ ((255) * x28 + (255) * x2 - (65025) ≤ m) ∧ (m ≤ (255) * x28 + (0) * x2 - (0)) ∧ (m ≤ (0) * x28 + (255) * x2 - (0)) ∧ (0 ≤ m ∧ m ≤ 65025) := by
  obtain ⟨h1, h2, h3, h4⟩ := mcc (x := x2) (y := x28) b_x2.1 b_x2.2 b_x28.1 b_x28.2
  refine ⟨_, ⟨rfl⟩, ?_, ?_, ?_, ?_, ?_, ?_⟩ <;> omega
theorem be_aw12 {m11 : Int} (b_m11 : 0 ≤ m11 ∧ m11 ≤ 65025) : ∃ w : Int, (90 * m11 = w) ∧ (0 ≤ w ∧ w ≤ 5852250) := ⟨_, rfl, by omega, by omega⟩
theorem be_am13 {r8 w10 : Int} (b_r8 : 0 ≤ r8 ∧ r8 ≤ 100000000) (b_w10 : 0 ≤ w10 ∧ w10 ≤ 3901500) : ∃ m : Int, Hd (r8 * w10 = m) ∧ ((0) * w10 + (0) * r8 - (0) ≤ m) ∧ ((100000000) * w10 + (3901500) * r8 - (390150000000000) ≤ m) ∧ (m ≤ (100000000) * w10 + (0) * r8 - (0)) ∧ (m ≤ (0) * w10 + (3901500) * r8 - (0)) ∧ (0 ≤ m ∧ m ≤ 390150000000000) := by
  obtain ⟨h1, h2, h3, h4⟩ := mcc (x := r8) (y := w10) b_r8.1 b_r8.2 b_w10.1 b_w10.2
  refine ⟨_, ⟨rfl⟩, ?_, ?_, ?_, ?_, ?_, ?_⟩ <;> omega
theorem be_am14 {r8 w12 : Int} (b_r8 : 0 ≤ r8 ∧ r8 ≤ 100000000) (b_w12 : 0 ≤ w12 ∧ w12 ≤ 5852250) : ∃ m : Int, Hd (r8 * w12 = m) ∧ ((0) * w12 + (0) * r8 - (0) ≤ m) ∧ ((100000000) * w12 + (5852250) * r8 - (585225000000000) ≤ m) ∧ (m ≤ (100000000) * w12 + (0) * r8 - (0)) ∧ (m ≤ (0) * w12 + (5852250) * r8 - (0)) ∧ (0 ≤ m ∧ m ≤ 585225000000000) := by
  obtain ⟨h1, h2, h3, h4⟩ := mcc (x := r8) (y := w12) b_r8.1 b_r8.2 b_w12.1 b_w12.2
  refine ⟨_, ⟨rfl⟩, ?_, ?_, ?_, ?_, ?_, ?_⟩ <;> omega
theorem be_am15 {r8 x0 : Int} (b_r8 : 0 ≤ r8 ∧ r8 ≤ 100000000) (b_x0 : 0 ≤ x0 ∧ x0 ≤ 255) : ∃ m : Int, Hd (r8 * x0 = m) ∧ ((0) * x0 + (0) * r8 - (0) ≤ m) ∧ ((100000000) * x0 + (255) * r8 - (25500000000) ≤ m) ∧ (m ≤ (100000000) * x0 + (0) * r8 - (0)) ∧ (m ≤ (0) * x0 + (255) * r8 - (0)) ∧ (0 ≤ m ∧ m ≤ 25500000000) := by
  obtain ⟨h1, h2, h3, h4⟩ := mcc (x := r8) (y := x0) b_r8.1 b_r8.2 b_x0.1 b_x0.2
  refine ⟨_, ⟨rfl⟩, ?_, ?_, ?_, ?_, ?_, ?_⟩ <;> omega
theorem be_aw16 {m13 m14 m15 r8 : Int} (b_m13 : 0 ≤ m13 ∧ m13 ≤ 390150000000000) (b_m14 : 0 ≤ m14 ∧ m14 ≤ 585225000000000) (b_m15 : 0 ≤ m15 ∧ m15 ≤ 25500000000) (b_r8 : 0 ≤ r8 ∧ r8 ≤ 100000000) : ∃ w : Int, (m13 + m14 + 10000 * m15 + 1000 * r8 = w) ∧ (0 ≤ w ∧ w ≤ 1230475000000000) := ⟨_, rfl, by omega, by omega⟩
theorem be_az17 {w16 : Int} (b_w16 : 0 ≤ w16 ∧ w16 ≤ 1230475000000000) : ∃ z : Int, (w16 ≤ 1000 * z ∧ 1000 * z ≤ w16 + 999) ∧ (0 ≤ z ∧ z ≤ 1230475000000) := by
  obtain ⟨z, h1, h2⟩ := ru_ex (w16) 1000 (by omega)
  exact ⟨z, ⟨by omega, by omega⟩, by omega, by omega⟩
theorem be_aw18 {z17 : Int} (b_z17 : 0 ≤ z17 ∧ z17 ≤ 1230475000000) : ∃ w : Int, (1000 * z17 = w) ∧ (0 ≤ w ∧ w ≤ 1230475000000000) := ⟨_, rfl, by omega, by omega⟩
theorem be_aw19 {w10 w12 x0 : Int} (b_w10 : 0 ≤ w10 ∧ w10 ≤ 3901500) (b_w12 : 0 ≤ w12 ∧ w12 ≤ 5852250) (b_x0 : 0 ≤ x0 ∧ x0 ≤ 255) : ∃ w : Int, (w10 + w12 + 10000 * x0 + 1000 = w) ∧ (1000 ≤ w ∧ w ≤ 12304750) := ⟨_, rfl, by omega, by omega⟩
theorem be_aq20 {w18 w19 : Int} (b_w18 : 0 ≤ w18 ∧ w18 ≤ 1230475000000000) (b_w19 : 1000 ≤ w19 ∧ w19 ≤ 12304750) : ∃ q : Int, Hd (w18.tdiv w19 = q) ∧ QD w18 w19 q ∧ (0 ≤ q ∧ q ≤ 1230475000000) := by
  obtain ⟨q, h1, h2⟩ := qD_ex w18 w19 (by omega)
  obtain ⟨h3, h4⟩ := qD_rng (lo := 0) (hi := 1230475000000000) (dl := 1000) h2 (by omega) (by omega) (by omega) (by omega) (by omega) (by omega)
  have h5 := (h2.1 (by omega)).1
  exact ⟨q, h1, h2, by omega, by omega⟩
theorem be_am21 {q20 w19 : Int} (b_q20 : 0 ≤ q20 ∧ q20 ≤ 1230475000000) (b_w19 : 1000 ≤ w19 ∧ w19 ≤ 12304750) : ∃ m : Int, Hd (q20 * w19 = m) ∧ ((0) * w19 + (1000) * q20 - (0) ≤ m) ∧ ((1230475000000) * w19 + (12304750) * q20 - (15140687256250000000) ≤ m) ∧ (m ≤ (1230475000000) * w19 + (1000) * q20 - (1230475000000000)) ∧ (m ≤ (0) * w19 + (12304750) * q20 - (0)) ∧ (0 ≤ m ∧ m ≤ 15140687256250000000) := by
  obtain ⟨h1, h2, h3, h4⟩ := mcc (x := q20) (y := w19) b_q20.1 b_q20.2 b_w19.1 b_w19.2
  refine ⟨_, ⟨rfl⟩, ?_, ?_, ?_, ?_, ?_, ?_⟩ <;> omega
theorem be_aw22 {z17 : Int} (b_z17 : 0 ≤ z17 ∧ z17 ≤ 1230475000000) : ∃ w : Int, (1000 * z17 + (-1000) = w) ∧ (-1000 ≤ w ∧ w ≤ 1230474999999000) := ⟨_, rfl, by omega, by omega⟩
theorem be_aq23 {w22 w19 : Int} (b_w22 : -1000 ≤ w22 ∧ w22 ≤ 1230474999999000) (b_w19 : 1000 ≤ w19 ∧ w19 ≤ 12304750) : ∃ q : Int, Hd (w22.tdiv w19 = q) ∧ QD w22 w19 q ∧ (-1 ≤ q ∧ q ≤ 1230474999999) := by
  obtain ⟨q, h1, h2⟩ := qD_ex w22 w19 (by omega)
  obtain ⟨h3, h4⟩ := qD_rng (lo := -1000) (hi := 1230474999999000) (dl := 1000) h2 (by omega) (by omega) (by omega) (by omega) (by omega) (by omega)
  exact ⟨q, h1, h2, by omega, by omega⟩
theorem be_am24 {q23 w19 : Int} (b_q23 : -1 ≤ q23 ∧ q23 ≤ 1230474999999) (b_w19 : 1000 ≤ w19 ∧ w19 ≤ 12304750) : ∃ m : Int, Hd (q23 * w19 = m) ∧ ((-1) * w19 + (1000) * q23 - (-1000) ≤ m) ∧ ((1230474999999) * w19 + (12304750) * q23 - (15140687256237695250) ≤ m) ∧ (m ≤ (1230474999999) * w19 + (1000) * q23 - (1230474999999000)) ∧ (m ≤ (-1) * w19 + (12304750) * q23 - (-12304750)) ∧ (-12304750 ≤ m ∧ m ≤ 15140687256237695250) := by
  obtain ⟨h1, h2, h3, h4⟩ := mcc (x := q23) (y := w19) b_q23.1 b_q23.2 b_w19.1 b_w19.2
  refine ⟨_, ⟨rfl⟩, ?_, ?_, ?_, ?_, ?_, ?_⟩ <;> omega
theorem be_rf1 {r8 m13 m14 m15 q20 w18 w19 w10 w12 x0 : Int} (b_w19 : 1000 ≤ w19 ∧ w19 ≤ 12304750) (q20h : QD w18 w19 q20) (m13e : Hd (r8 * w10 = m13)) (m14e : Hd (r8 * w12 = m14)) (m15e : Hd (r8 * x0 = m15)) (w19s : w10 + w12 + 10000 * x0 + 1000 = w19) : 1 ≤ r8 ∨ 0 ≤ w18 → r8 ≤ q20 ∧ m13 + m14 + 10000 * m15 + 1000 * r8 ≤ w18 ∨ q20 + 1 ≤ r8 ∧ w18 + 1 ≤ m13 + m14 + 10000 * m15 + 1000 * r8 := qD_gal q20h (by omega) (by
  have e1 : (r8) * (w10 + w12 + 10000 * x0 + 1000) = m13 + m14 + 10000 * m15 + 1000 * r8 := ((by simp only [Int.add_mul, Int.mul_add, Int.mul_assoc, Int.mul_comm, Int.mul_left_comm, Int.reduceMul, Int.reduceNeg, Int.mul_one, Int.one_mul] <;> omega : (r8) * (w10 + w12 + 10000 * x0 + 1000) = r8 * w10 + r8 * w12 + 10000 * (r8 * x0) + 1000 * r8).trans (by (try simp only [m13e.out, m14e.out, m15e.out]) <;> omega))
  rw [w19s] at e1
  exact e1)
theorem be_rf2 {r8 m13 m14 m15 q23 w22 w19 w10 w12 x0 : Int} (b_w19 : 1000 ≤ w19 ∧ w19 ≤ 12304750) (q23h : QD w22 w19 q23) (m13e : Hd (r8 * w10 = m13)) (m14e : Hd (r8 * w12 = m14)) (m15e : Hd (r8 * x0 = m15)) (w19s : w10 + w12 + 10000 * x0 + 1000 = w19) : 1 ≤ r8 ∨ 0 ≤ w22 → r8 ≤ q23 ∧ m13 + m14 + 10000 * m15 + 1000 * r8 ≤ w22 ∨ q23 + 1 ≤ r8 ∧ w22 + 1 ≤ m13 + m14 + 10000 * m15 + 1000 * r8 := qD_gal q23h (by omega) (by
  have e1 : (r8) * (w10 + w12 + 10000 * x0 + 1000) = m13 + m14 + 10000 * m15 + 1000 * r8 := ((by simp only [Int.add_mul, Int.mul_add, Int.mul_assoc, Int.mul_comm, Int.mul_left_comm, Int.reduceMul, Int.reduceNeg, Int.mul_one, Int.one_mul] <;> omega : (r8) * (w10 + w12 + 10000 * x0 + 1000) = r8 * w10 + r8 * w12 + 10000 * (r8 * x0) + 1000 * r8).trans (by (try simp only [m13e.out, m14e.out, m15e.out]) <;> omega))
  rw [w19s] at e1
  exact e1)
set_option maxHeartbeats 40000000 in
theorem be_g0 {ρ : Env} {x0 x1 x2 x3 x4 r2 x5 x6 r4 x7 x8 x9 x10 r6 x11 x12 x26 r8 x27 x28 w10 m9 w12 m11 w16 m13 m14 m15 z17 q20 w18 w19 q23 w22 : Int} (e0 : Is ρ (.v 0) x0) (e1 : Is ρ (.v 1) x1) (e2 : Is ρ (.v 2) x2) (e3 : Is ρ (.v 3) x3) (e4 : Is ρ (.v 4) x4) (r2e : Hd ((x4) % 60 = r2)) (e5 : Is ρ (.v 5) x5) (e6 : Is ρ (.v 6) x6) (r4e : Hd ((x6) % 60 = r4)) (e7 : Is ρ (.v 7) x7) (e8 : Is ρ (.v 8) x8) (e9 : Is ρ (.v 9) x9) (e10 : Is ρ (.v 10) x10) (r6e : Hd ((x10) % 20 = r6)) (e11 : Is ρ (.v 11) x11) (e12 : Is ρ (.v 12) x12) (e26 : Is ρ (.v 26) x26) (r8e : Hd ((x26) % 100000001 = r8)) (e27 : Is ρ (.v 27) x27) (e28 : Is ρ (.v 28) x28) (m9e : Hd (x1 * x27 = m9)) (w10s : Hd (60 * m9 = w10)) (m11e : Hd (x2 * x28 = m11)) (w12s : Hd (90 * m11 = w12)) (m13e : Hd (r8 * w10 = m13)) (m14e : Hd (r8 * w12 = m14)) (m15e : Hd (r8 * x0 = m15)) (w16s : Hd (m13 + m14 + 10000 * m15 + 1000 * r8 = w16)) (z17s : Hd (w16 ≤ 1000 * z17 ∧ 1000 * z17 ≤ w16 + 999)) (q20e : Hd (w18.tdiv w19 = q20)) (w18s : Hd (1000 * z17 = w18)) (w19s : Hd (w10 + w12 + 10000 * x0 + 1000 = w19)) (q23e : Hd (w22.tdiv w19 = q23)) (w22s : Hd (1000 * z17 + (-1000) = w22)) (b_x0 : 0 ≤ x0 ∧ x0 ≤ 255) (b_x1 : 0 ≤ x1 ∧ x1 ≤ 255) (b_x2 : 0 ≤ x2 ∧ x2 ≤ 255) (b_x3 : 0 ≤ x3 ∧ x3 ≤ 255) (b_x4 : 0 ≤ x4 ∧ x4 ≤ 255) (b_r2 : 0 ≤ r2 ∧ r2 ≤ 59) (b_x5 : 0 ≤ x5 ∧ x5 ≤ 255) (b_x6 : 0 ≤ x6 ∧ x6 ≤ 255) (b_r4 : 0 ≤ r4 ∧ r4 ≤ 59) (b_x7 : 0 ≤ x7 ∧ x7 ≤ 255) (b_x8 : 0 ≤ x8 ∧ x8 ≤ 255) (b_x9 : 0 ≤ x9 ∧ x9 ≤ 255) (b_x10 : 0 ≤ x10 ∧ x10 ≤ 255) (b_r6 : 0 ≤ r6 ∧ r6 ≤ 19) (b_x11 : 0 ≤ x11 ∧ x11 ≤ 255) (b_x12 : 0 ≤ x12 ∧ x12 ≤ 255) (b_x26 : 0 ≤ x26 ∧ x26 ≤ 4294967295) (b_r8 : 0 ≤ r8 ∧ r8 ≤ 100000000) (b_x27 : 0 ≤ x27 ∧ x27 ≤ 255) (b_x28 : 0 ≤ x28 ∧ x28 ≤ 255) (b_w10 : 0 ≤ w10 ∧ w10 ≤ 3901500) (b_m9 : 0 ≤ m9 ∧ m9 ≤ 65025) (b_w12 : 0 ≤ w12 ∧ w12 ≤ 5852250) (b_m11 : 0 ≤ m11 ∧ m11 ≤ 65025) (b_w16 : 0 ≤ w16 ∧ w16 ≤ 1230475000000000) (b_m13 : 0 ≤ m13 ∧ m13 ≤ 390150000000000) (b_m14 : 0 ≤ m14 ∧ m14 ≤ 585225000000000) (b_m15 : 0 ≤ m15 ∧ m15 ≤ 25500000000) (b_z17 : 0 ≤ z17 ∧ z17 ≤ 1230475000000) (b_q20 : 0 ≤ q20 ∧ q20 ≤ 1230475000000) (b_w18 : 0 ≤ w18 ∧ w18 ≤ 1230475000000000) (b_w19 : 1000 ≤ w19 ∧ w19 ≤ 12304750) (b_q23 : -1 ≤ q23 ∧ q23 ≤ 1230474999999) (b_w22 : -1000 ≤ w22 ∧ w22 ≤ 1230474999999000) : Is ρ be2 (10 * x0 + 1) ∧ Is ρ be4 (20 * x1) ∧ Is ρ be6 (30 * x2) ∧ Is ρ be7 (x3) ∧ Is ρ be10 (r2 + x3) ∧ Is ρ be11 (x5) ∧ Is ρ be14 (r4 + x5) ∧ Is ρ be17 (100 * x7 + 1) ∧ Is ρ be20 (100 * x7 + 10 * x8 + 1) ∧ Is ρ be22 (x9 + 1) ∧ Is ρ be25 (r6 + x9 + 1) ∧ Is ρ be28 (100 * x11 + 1) ∧ Is ρ be31 (100 * x11 + 10 * x12 + 1) ∧ Is ρ be33 (r8) ∧ Is ρ be35 (3 * x27) ∧ Is ρ be37 (3 * x28) ∧ Is ρ be48 (z17) ∧ Is ρ be49 (w10 + w12 + 10000 * x0 + 1000) ∧ Is ρ be52 (q20) ∧ Is ρ be53 (z17 + (-1)) ∧ Is ρ be56 (q23) := by
  have h0 : Is ρ be0 (x0) := Zconv e0 (by omega)
  have h1 : Is ρ be1 (10 * x0) := Ym (Zc 10) h0 (by omega)
  have h2 : Is ρ be2 (10 * x0 + 1) := Ya (Zc 1) h1 (by omega)
  have h3 : Is ρ be3 (x1) := Zconv e1 (by omega)
  have h4 : Is ρ be4 (20 * x1) := Ym (Zc 20) h3 (by omega)
  have h5 : Is ρ be5 (x2) := Zconv e2 (by omega)
  have h6 : Is ρ be6 (30 * x2) := Ym (Zc 30) h5 (by omega)
  have h7 : Is ρ be7 (x3) := Zconv e3 (by omega)
  have h8 : Is ρ be8 (x4) := Zconv e4 (by omega)
  have h9 : Is ρ be9 (r2) := Zremp h8 (Zc 60) (by omega) r2e.out
  have h10 : Is ρ be10 (r2 + x3) := Ya h7 h9 (by omega)
  have h11 : Is ρ be11 (x5) := Zconv e5 (by omega)
  have h12 : Is ρ be12 (x6) := Zconv e6 (by omega)
  have h13 : Is ρ be13 (r4) := Zremp h12 (Zc 60) (by omega) r4e.out
  have h14 : Is ρ be14 (r4 + x5) := Ya h11 h13 (by omega)
  have h15 : Is ρ be15 (x7) := Zconv e7 (by omega)
  have h16 : Is ρ be16 (100 * x7) := Ym (Zc 100) h15 (by omega)
  have h17 : Is ρ be17 (100 * x7 + 1) := Ya (Zc 1) h16 (by omega)
  have h18 : Is ρ be18 (x8) := Zconv e8 (by omega)
  have h19 : Is ρ be19 (10 * x8) := Ym (Zc 10) h18 (by omega)
  have h20 : Is ρ be20 (100 * x7 + 10 * x8 + 1) := Ya h17 h19 (by omega)
  have h21 : Is ρ be21 (x9) := Zconv e9 (by omega)
  have h22 : Is ρ be22 (x9 + 1) := Ya (Zc 1) h21 (by omega)
  have h23 : Is ρ be23 (x10) := Zconv e10 (by omega)
  have h24 : Is ρ be24 (r6) := Zremp h23 (Zc 20) (by omega) r6e.out
  have h25 : Is ρ be25 (r6 + x9 + 1) := Ya h22 h24 (by omega)
  have h26 : Is ρ be26 (x11) := Zconv e11 (by omega)
  have h27 : Is ρ be27 (100 * x11) := Ym (Zc 100) h26 (by omega)
  have h28 : Is ρ be28 (100 * x11 + 1) := Ya (Zc 1) h27 (by omega)
  have h29 : Is ρ be29 (x12) := Zconv e12 (by omega)
  have h30 : Is ρ be30 (10 * x12) := Ym (Zc 10) h29 (by omega)
  have h31 : Is ρ be31 (100 * x11 + 10 * x12 + 1) := Ya h28 h30 (by omega)
  have h32 : Is ρ be32 (x26) := Zconv e26 (by omega)
  have h33 : Is ρ be33 (r8) := Zremp h32 (Zc 100000001) (by omega) r8e.out
  have h34 : Is ρ be34 (x27) := Zconv e27 (by omega)
  have h35 : Is ρ be35 (3 * x27) := Ym (Zc 3) h34 (by omega)
  have h36 : Is ρ be36 (x28) := Zconv e28 (by omega)
  have h37 : Is ρ be37 (3 * x28) := Ym (Zc 3) h36 (by omega)
  have h38 : Is ρ be38 (10000 * x0 + 1000) := Ym (Zc 1000) h2 (by omega)
  have h39 : Is ρ be39 (w10) := by
    have w10s := w10s.out
    exact Zmul h4 h35 (by omega) (((by simp only [Int.add_mul, Int.mul_add, Int.mul_assoc, Int.mul_comm, Int.mul_left_comm, Int.reduceMul, Int.reduceNeg, Int.mul_one, Int.one_mul] <;> omega : (20 * x1) * (3 * x27) = 60 * (x1 * x27)).trans (by (try simp only [m9e.out]) <;> omega)).trans w10s)
  have h40 : Is ρ be40 (w12) := by
    have w12s := w12s.out
    exact Zmul h6 h37 (by omega) (((by simp only [Int.add_mul, Int.mul_add, Int.mul_assoc, Int.mul_comm, Int.mul_left_comm, Int.reduceMul, Int.reduceNeg, Int.mul_one, Int.one_mul] <;> omega : (30 * x2) * (3 * x28) = 90 * (x2 * x28)).trans (by (try simp only [m11e.out]) <;> omega)).trans w12s)
  have h41 : Is ρ be41 (w10 + w12) := Ya h39 h40 (by omega)
  have h42 : Is ρ be42 (w10 + w12 + 10000 * x0 + 1000) := Ya h38 h41 (by omega)
  have h43 : Is ρ be43 (w16) := by
    have w16s := w16s.out
    exact Zmul h33 h42 (by omega) (((by simp only [Int.add_mul, Int.mul_add, Int.mul_assoc, Int.mul_comm, Int.mul_left_comm, Int.reduceMul, Int.reduceNeg, Int.mul_one, Int.one_mul] <;> omega : (r8) * (w10 + w12 + 10000 * x0 + 1000) = r8 * w10 + r8 * w12 + 10000 * (r8 * x0) + 1000 * r8).trans (by (try simp only [m13e.out, m14e.out, m15e.out]) <;> omega)).trans w16s)
  have h48 : Is ρ be48 (z17) := by
    have z17s := z17s.out
    exact Zru h43 (by omega) (by omega) (by omega) (by omega)
  have h49 : Is ρ be49 (w10 + w12 + 10000 * x0 + 1000) := Ya h41 h38 (by omega)
  have h50 : Is ρ be50 (1000 * z17) := Ym (Zc 1000) h48 (by omega)
  have h51 : Is ρ be51 (q20) := by
    have w18s := w18s.out
    have w19s := w19s.out
    exact Ztq (w18s ▸ h50) (w19s ▸ h49) q20e.out (by omega)
  have h52 : Is ρ be52 (q20) := Ya (Zc 0) h51 (by omega)
  have h53 : Is ρ be53 (z17 + (-1)) := Ys h48 (Zc 1) (by omega)
  have h54 : Is ρ be54 (1000 * z17 + (-1000)) := Ym (Zc 1000) h53 (by omega)
  have h55 : Is ρ be55 (q23) := by
    have w22s := w22s.out
    have w19s := w19s.out
    exact Ztq (w22s ▸ h54) (w19s ▸ h49) q23e.out (by omega)
  have h56 : Is ρ be56 (q23) := Ya (Zc 0) h55 (by omega)
  exact ⟨h2, h4, h6, h7, h10, h11, h14, h17, h20, h22, h25, h28, h31, h33, h35, h37, h48, h49, h52, h53, h56⟩
theorem be_d0 {r8 q20 w18 m13 m14 m15 z17 w16 : Int} (b_w18 : 0 ≤ w18 ∧ w18 ≤ 1230475000000000) (rf1 : 1 ≤ r8 ∨ 0 ≤ w18 → r8 ≤ q20 ∧ m13 + m14 + 10000 * m15 + 1000 * r8 ≤ w18 ∨ q20 + 1 ≤ r8 ∧ w18 + 1 ≤ m13 + m14 + 10000 * m15 + 1000 * r8) (w18s : 1000 * z17 = w18) (z17s : w16 ≤ 1000 * z17 ∧ 1000 * z17 ≤ w16 + 999) (w16s : m13 + m14 + 10000 * m15 + 1000 * r8 = w16) : (r8 : Int) ≤ q20 := by omega
theorem be_t1 {x0 : Int} (b_x0 : 0 ≤ x0 ∧ x0 ≤ 255) : ¬ ((10 * x0 + 1 : Int) ≤ 0) := by omega
theorem be_t2 {x0 : Int} (b_x0 : 0 ≤ x0 ∧ x0 ≤ 255) : (0 : Int) ≤ 10 * x0 + 1 := by omega
theorem be_t3 {x0 : Int} (b_x0 : 0 ≤ x0 ∧ x0 ≤ 255) : (10 * x0 + 1 : Int) ≤ 100000 := by omega
theorem be_t4 {x1 : Int} (b_x1 : 0 ≤ x1 ∧ x1 ≤ 255) : (0 : Int) ≤ 20 * x1 := by omega
theorem be_t5 {x1 : Int} (b_x1 : 0 ≤ x1 ∧ x1 ≤ 255) : (20 * x1 : Int) ≤ 100000 := by omega
theorem be_t6 {x2 : Int} (b_x2 : 0 ≤ x2 ∧ x2 ≤ 255) : (0 : Int) ≤ 30 * x2 := by omega
theorem be_t7 {x2 : Int} (b_x2 : 0 ≤ x2 ∧ x2 ≤ 255) : (30 * x2 : Int) ≤ 100000 := by omega
theorem be_t8 {x3 : Int} (b_x3 : 0 ≤ x3 ∧ x3 ≤ 255) : (0 : Int) ≤ x3 := by omega
theorem be_t9 {x3 r2 : Int} (b_x3 : 0 ≤ x3 ∧ x3 ≤ 255) (b_r2 : 0 ≤ r2 ∧ r2 ≤ 59) : (x3 : Int) ≤ r2 + x3 := by omega
theorem be_t10 {r2 x3 : Int} (b_r2 : 0 ≤ r2 ∧ r2 ≤ 59) (b_x3 : 0 ≤ x3 ∧ x3 ≤ 255) : (r2 + x3 : Int) ≤ 1000 := by omega
theorem be_t11 {x5 : Int} (b_x5 : 0 ≤ x5 ∧ x5 ≤ 255) : (0 : Int) ≤ x5 := by omega
theorem be_t12 {x5 r4 : Int} (b_x5 : 0 ≤ x5 ∧ x5 ≤ 255) (b_r4 : 0 ≤ r4 ∧ r4 ≤ 59) : (x5 : Int) ≤ r4 + x5 := by omega
theorem be_t13 {r4 x5 : Int} (b_r4 : 0 ≤ r4 ∧ r4 ≤ 59) (b_x5 : 0 ≤ x5 ∧ x5 ≤ 255) : (r4 + x5 : Int) ≤ 1000 := by omega
theorem be_t14 {x7 : Int} (b_x7 : 0 ≤ x7 ∧ x7 ≤ 255) : (1 : Int) ≤ 100 * x7 + 1 := by omega
theorem be_t15 {x7 x8 : Int} (b_x7 : 0 ≤ x7 ∧ x7 ≤ 255) (b_x8 : 0 ≤ x8 ∧ x8 ≤ 255) : (100 * x7 + 1 : Int) ≤ 100 * x7 + 10 * x8 + 1 := by omega
theorem be_t16 {x7 x8 : Int} (b_x7 : 0 ≤ x7 ∧ x7 ≤ 255) (b_x8 : 0 ≤ x8 ∧ x8 ≤ 255) : (100 * x7 + 10 * x8 + 1 : Int) ≤ 100000000 := by omega
theorem be_t17 {x9 : Int} (b_x9 : 0 ≤ x9 ∧ x9 ≤ 255) : (1 : Int) ≤ x9 + 1 := by omega
theorem be_t18 {x9 r6 : Int} (b_x9 : 0 ≤ x9 ∧ x9 ≤ 255) (b_r6 : 0 ≤ r6 ∧ r6 ≤ 19) : (x9 + 1 : Int) ≤ r6 + x9 + 1 := by omega
theorem be_t19 {r6 x9 : Int} (b_r6 : 0 ≤ r6 ∧ r6 ≤ 19) (b_x9 : 0 ≤ x9 ∧ x9 ≤ 255) : (r6 + x9 + 1 : Int) ≤ 100000 := by omega
theorem be_t20 {x11 : Int} (b_x11 : 0 ≤ x11 ∧ x11 ≤ 255) : (1 : Int) ≤ 100 * x11 + 1 := by omega
theorem be_t21 {x11 x12 : Int} (b_x11 : 0 ≤ x11 ∧ x11 ≤ 255) (b_x12 : 0 ≤ x12 ∧ x12 ≤ 255) : (100 * x11 + 1 : Int) ≤ 100 * x11 + 10 * x12 + 1 := by omega
theorem be_t22 {x11 x12 : Int} (b_x11 : 0 ≤ x11 ∧ x11 ≤ 255) (b_x12 : 0 ≤ x12 ∧ x12 ≤ 255) : (100 * x11 + 10 * x12 + 1 : Int) ≤ 100000000 := by omega
theorem be_t23 {r8 : Int} (b_r8 : 0 ≤ r8 ∧ r8 ≤ 100000000) : (0 : Int) ≤ r8 := by omega
theorem be_t24 {r8 : Int} (b_r8 : 0 ≤ r8 ∧ r8 ≤ 100000000) : (r8 : Int) ≤ 100000000 := by omega
theorem be_t25 {x27 : Int} (b_x27 : 0 ≤ x27 ∧ x27 ≤ 255) : (0 : Int) ≤ 3 * x27 := by omega
theorem be_t26 {x27 : Int} (b_x27 : 0 ≤ x27 ∧ x27 ≤ 255) : (3 * x27 : Int) ≤ 1000 := by omega
theorem be_t27 {x28 : Int} (b_x28 : 0 ≤ x28 ∧ x28 ≤ 255) : (0 : Int) ≤ 3 * x28 := by omega
theorem be_t28 {x28 : Int} (b_x28 : 0 ≤ x28 ∧ x28 ≤ 255) : (3 * x28 : Int) ≤ 1000 := by omega
theorem be_t29 {z17 : Int} (b_z17 : 0 ≤ z17 ∧ z17 ≤ 1230475000000) : (0 : Int) ≤ z17 := by omega
theorem be_t30 {z17 : Int} (b_z17 : 0 ≤ z17 ∧ z17 ≤ 1230475000000) : (z17 : Int) ≤ 10000000000000 := by omega
theorem be_t31 {w10 w12 x0 : Int} (b_w10 : 0 ≤ w10 ∧ w10 ≤ 3901500) (b_w12 : 0 ≤ w12 ∧ w12 ≤ 5852250) (b_x0 : 0 ≤ x0 ∧ x0 ≤ 255) : ¬ ((w10 + w12 + 10000 * x0 + 1000 : Int) = 0) := by omega
theorem be_d1 {r8 w10 m13 w12 m14 x0 m15 z17 w16 : Int} (b_r8 : 0 ≤ r8 ∧ r8 ≤ 100000000) (m13f1 : (0) * w10 + (0) * r8 - (0) ≤ m13) (m14f1 : (0) * w12 + (0) * r8 - (0) ≤ m14) (m15f1 : (0) * x0 + (0) * r8 - (0) ≤ m15) (k32 : (z17 : Int) = 0) (z17s : w16 ≤ 1000 * z17 ∧ 1000 * z17 ≤ w16 + 999) (w16s : m13 + m14 + 10000 * m15 + 1000 * r8 = w16) : (r8 : Int) = 0 := by omega
theorem be_d2 {z17 : Int} (b_z17 : 0 ≤ z17 ∧ z17 ≤ 1230475000000) (k32 : ¬ ((z17 : Int) = 0)) : (0 : Int) ≤ z17 + (-1) := by omega
theorem be_t34 {z17 : Int} (b_z17 : 0 ≤ z17 ∧ z17 ≤ 1230475000000) : (z17 + (-1) : Int) ≤ 10000000000000 := by omega
theorem be_d3 {r8 q23 z17 w22 m13 m14 m15 w16 : Int} (b_z17 : 0 ≤ z17 ∧ z17 ≤ 1230475000000) (rf2 : 1 ≤ r8 ∨ 0 ≤ w22 → r8 ≤ q23 ∧ m13 + m14 + 10000 * m15 + 1000 * r8 ≤ w22 ∨ q23 + 1 ≤ r8 ∧ w22 + 1 ≤ m13 + m14 + 10000 * m15 + 1000 * r8) (w22s : 1000 * z17 + (-1000) = w22) (k32 : ¬ ((z17 : Int) = 0)) (z17s : w16 ≤ 1000 * z17 ∧ 1000 * z17 ≤ w16 + 999) (w16s : m13 + m14 + 10000 * m15 + 1000 * r8 = w16) : ¬ ((r8 : Int) ≤ q23) := by omega
end Go.Proofs.Ytknphpihipkdpaa.Cx
