/- TopGaugeSwap: the tests of the law and their arithmetic. Made by tools/cxroot.py. -/
import Derived.Test.YtmekghjgkkjgoaaGSwapT
import Derived.Test.YtmekghjgkkjgoaaCxRoot
set_option linter.unusedSimpArgs false
set_option linter.unusedVariables false
set_option maxRecDepth 100000
set_option maxHeartbeats 4000000
namespace Go.Proofs.Ytmekghjgkkjgoaa.Cx
open Go Go.RowKit

theorem gw_aq1 {x0 : Int} (b_x0 : 0 ≤ x0 ∧ x0 ≤ 255) : ∃ q r : Int, Hd ((x0) / 20 = q) ∧ Hd ((x0) % 20 = r) ∧ (x0 = 20 * q + r) ∧ (0 ≤ q ∧ q ≤ 12) ∧ (0 ≤ r ∧ r ≤ 19) := ⟨_, _, ⟨rfl⟩, ⟨rfl⟩, by omega, by omega, by omega⟩
theorem gw_aq3 {x1 : Int} (b_x1 : 0 ≤ x1 ∧ x1 ≤ 255) : ∃ q r : Int, Hd ((x1) / 9 = q) ∧ Hd ((x1) % 9 = r) ∧ (x1 = 9 * q + r) ∧ (0 ≤ q ∧ q ≤ 28) ∧ (0 ≤ r ∧ r ≤ 8) := ⟨_, _, ⟨rfl⟩, ⟨rfl⟩, by omega, by omega, by omega⟩
theorem gw_aq5 {x1 : Int} (b_x1 : 0 ≤ x1 ∧ x1 ≤ 255) : ∃ q r : Int, Hd ((x1) / 50 = q) ∧ Hd ((x1) % 50 = r) ∧ (x1 = 50 * q + r) ∧ (0 ≤ q ∧ q ≤ 5) ∧ (0 ≤ r ∧ r ≤ 49) := ⟨_, _, ⟨rfl⟩, ⟨rfl⟩, by omega, by omega, by omega⟩
theorem gw_av7 {r2 : Int} (b_r2 : 0 ≤ r2 ∧ r2 ≤ 19) : ∃ w : Int, (1000 * r2 + (-40000) = w) ∧ (-40000 ≤ w ∧ w ≤ -21000) := ⟨_, rfl, by omega, by omega⟩
theorem gw_az8 {v7 r6 : Int} (b_v7 : -40000 ≤ v7 ∧ v7 ≤ -21000) (b_r6 : 0 ≤ r6 ∧ r6 ≤ 49) : ∃ z : Int, Hd (v7 ≤ (r6 + 10) * z ∧ (r6 + 10) * z ≤ v7 + ((r6 + 10) - 1)) ∧ (-4000 ≤ z ∧ z ≤ 0) := by
  obtain ⟨z, h1, h2⟩ := ru_ex (v7) (r6 + 10) (by omega)
  obtain ⟨h3, h4, h5⟩ := ru_rng (d := 10) (by omega) (by omega : 10 ≤ r6 + 10) h1 h2
  exact ⟨z, ⟨h1, h2⟩, by omega, by omega⟩
theorem gw_am9 {r6 z8 : Int} (b_r6 : 0 ≤ r6 ∧ r6 ≤ 49) (b_z8 : -4000 ≤ z8 ∧ z8 ≤ 0) : ∃ m : Int, Hd (r6 * z8 = m) ∧ ((0) * z8 + (-4000) * r6 - (0) ≤ m) ∧ ((49) * z8 + (0) * r6 - (0) ≤ m) ∧ (m ≤ (49) * z8 + (-4000) * r6 - (-196000)) ∧ (m ≤ (0) * z8 + (0) * r6 - (0)) ∧ (-196000 ≤ m ∧ m ≤ 0) := by
  obtain ⟨h1, h2, h3, h4⟩ := mcc (x := r6) (y := z8) b_r6.1 b_r6.2 b_z8.1 b_z8.2
  refine ⟨_, ⟨rfl⟩, ?_, ?_, ?_, ?_, ?_, ?_⟩ <;> omega
theorem gw_yz8 {v7 r6 m9 z8 : Int} (h : Hd (v7 ≤ (r6 + 10) * z8 ∧ (r6 + 10) * z8 ≤ v7 + ((r6 + 10) - 1))) (m9e : Hd (r6 * z8 = m9)) : v7 ≤ m9 + 10 * z8 ∧ m9 + 10 * z8 ≤ v7 + (r6 + 10) - 1 := by
  have e1 : (r6 + 10) * z8 = m9 + 10 * z8 := ((by simp only [Int.add_mul, Int.mul_add, Int.mul_assoc, Int.mul_comm, Int.mul_left_comm, Int.reduceMul, Int.reduceNeg, Int.mul_one, Int.one_mul] <;> omega : (r6 + 10) * z8 = r6 * z8 + 10 * z8).trans (by (try simp only [m9e.out]) <;> omega))
  obtain ⟨h1, h2⟩ := h.out
  rw [e1] at h1 h2
  omega
theorem gw_am10 {r4 z8 : Int} (b_r4 : 0 ≤ r4 ∧ r4 ≤ 8) (b_z8 : -4000 ≤ z8 ∧ z8 ≤ 0) : ∃ m : Int, Hd (r4 * z8 = m) ∧ ((0) * z8 + (-4000) * r4 - (0) ≤ m) ∧ ((8) * z8 + (0) * r4 - (0) ≤ m) ∧ (m ≤ (8) * z8 + (-4000) * r4 - (-32000)) ∧ (m ≤ (0) * z8 + (0) * r4 - (0)) ∧ (-32000 ≤ m ∧ m ≤ 0) := by
  obtain ⟨h1, h2, h3, h4⟩ := mcc (x := r4) (y := z8) b_r4.1 b_r4.2 b_z8.1 b_z8.2
  refine ⟨_, ⟨rfl⟩, ?_, ?_, ?_, ?_, ?_, ?_⟩ <;> omega
theorem gw_aw11 {m10 z8 : Int} (b_m10 : -32000 ≤ m10 ∧ m10 ≤ 0) (b_z8 : -4000 ≤ z8 ∧ z8 ≤ 0) : ∃ w : Int, ((-1) * m10 + (-1) * z8 = w) ∧ (0 ≤ w ∧ w ≤ 36000) := ⟨_, rfl, by omega, by omega⟩
theorem gw_az12 {w11 : Int} (b_w11 : 0 ≤ w11 ∧ w11 ≤ 36000) : ∃ z : Int, ((-1) * w11 ≤ 1000 * z ∧ 1000 * z ≤ (-1) * w11 + 999) ∧ (-36 ≤ z ∧ z ≤ 0) := by
  obtain ⟨z, h1, h2⟩ := ru_ex ((-1) * w11) 1000 (by omega)
  exact ⟨z, ⟨by omega, by omega⟩, by omega, by omega⟩
theorem gw_aw13 {m9 z8 : Int} (b_m9 : -196000 ≤ m9 ∧ m9 ≤ 0) (b_z8 : -4000 ≤ z8 ∧ z8 ≤ 0) : ∃ w : Int, ((-1) * m9 + (-10) * z8 = w) ∧ (0 ≤ w ∧ w ≤ 236000) := ⟨_, rfl, by omega, by omega⟩
theorem gw_az14 {w13 : Int} (b_w13 : 0 ≤ w13 ∧ w13 ≤ 236000) : ∃ z : Int, (w13 ≤ 1000 * z ∧ 1000 * z ≤ w13 + 999) ∧ (0 ≤ z ∧ z ≤ 236) := by
  obtain ⟨z, h1, h2⟩ := ru_ex (w13) 1000 (by omega)
  exact ⟨z, ⟨by omega, by omega⟩, by omega, by omega⟩
theorem gw_au15 {z12 z14 : Int} (b_z12 : -36 ≤ z12 ∧ z12 ≤ 0) (b_z14 : 0 ≤ z14 ∧ z14 ≤ 236) : ∃ m : Int, (max (z12 + z14) 0 = m) ∧ (0 ≤ m ∧ m ≤ 236) := ⟨_, rfl, by omega, by omega⟩
theorem gw_au16 {u15 z12 z14 : Int} (b_u15 : 0 ≤ u15 ∧ u15 ≤ 236) (b_z12 : -36 ≤ z12 ∧ z12 ≤ 0) (b_z14 : 0 ≤ z14 ∧ z14 ≤ 236) : ∃ m : Int, (max ((-1) * u15 + z12 + z14) 0 = m) ∧ (0 ≤ m ∧ m ≤ 236) := ⟨_, rfl, by omega, by omega⟩
theorem gw_am17 {x1 x3 : Int} (b_x1 : 0 ≤ x1 ∧ x1 ≤ 255) (b_x3 : 0 ≤ x3 ∧ x3 ≤ 255) : ∃ m : Int, Hd (x1 * x3 = m) ∧ ((0) * x3 + (0) * x1 - (0) ≤ m) ∧ ((255) * x3 + (255) * x1 - (65025) ≤ m) ∧ (m ≤ (255) * x3 + (0) * x1 - (0)) ∧ (m ≤ (0) * x3 + (255) * x1 - (0)) ∧ (0 ≤ m ∧ m ≤ 65025) := by
  obtain ⟨h1, h2, h3, h4⟩ := mcc (x := x1) (y := x3) b_x1.1 b_x1.2 b_x3.1 b_x3.2
  refine ⟨_, ⟨rfl⟩, ?_, ?_, ?_, ?_, ?_, ?_⟩ <;> omega
theorem gw_am18 {x2 x3 : Int} (b_x2 : 0 ≤ x2 ∧ x2 ≤ 255) (b_x3 : 0 ≤ x3 ∧ x3 ≤ 255) : ∃ m : Int, Hd (x2 * x3 = m) ∧ ((0) * x3 + (0) * x2 - (0) ≤ m) ∧ ((255) * x3 + (255) * x2 - (65025) ≤ m) ∧ (m ≤ (255) * x3 + (0) * x2 - (0)) ∧ (m ≤ (0) * x3 + (255) * x2 - (0)) ∧ (0 ≤ m ∧ m ≤ 65025) := by
  obtain ⟨h1, h2, h3, h4⟩ := mcc (x := x2) (y := x3) b_x2.1 b_x2.2 b_x3.1 b_x3.2
  refine ⟨_, ⟨rfl⟩, ?_, ?_, ?_, ?_, ?_, ?_⟩ <;> omega
theorem gw_aw19 {m17 m18 x1 x2 x3 : Int} (b_m17 : 0 ≤ m17 ∧ m17 ≤ 65025) (b_m18 : 0 ≤ m18 ∧ m18 ≤ 65025) (b_x1 : 0 ≤ x1 ∧ x1 ≤ 255) (b_x2 : 0 ≤ x2 ∧ x2 ≤ 255) (b_x3 : 0 ≤ x3 ∧ x3 ≤ 255) : ∃ w : Int, (5 * m17 + 5 * m18 + x1 + x2 + 4000 * x3 + 800 = w) ∧ (800 ≤ w ∧ w ≤ 1671560) := ⟨_, rfl, by omega, by omega⟩
theorem gw_au20 {r2 u15 u16 z12 z14 : Int} (b_r2 : 0 ≤ r2 ∧ r2 ≤ 19) (b_u15 : 0 ≤ u15 ∧ u15 ≤ 236) (b_u16 : 0 ≤ u16 ∧ u16 ≤ 236) (b_z12 : -36 ≤ z12 ∧ z12 ≤ 0) (b_z14 : 0 ≤ z14 ∧ z14 ≤ 236) : ∃ m : Int, (max (r2 + (-1) * u15 + (-1) * u16 + 2 * z12 + 2 * z14) 0 = m) ∧ (0 ≤ m ∧ m ≤ 491) := ⟨_, rfl, by omega, by omega⟩
theorem gw_am21 {x1 x4 : Int} (b_x1 : 0 ≤ x1 ∧ x1 ≤ 255) (b_x4 : 0 ≤ x4 ∧ x4 ≤ 255) : ∃ m : Int, Hd (x1 * x4 = m) ∧ ((0) * x4 + (0) * x1 - (0) ≤ m) ∧ ((255) * x4 + (255) * x1 - (65025) ≤ m) ∧ (m ≤ (255) * x4 + (0) * x1 - (0)) ∧ (m ≤ (0) * x4 + (255) * x1 - (0)) ∧ (0 ≤ m ∧ m ≤ 65025) := by
  obtain ⟨h1, h2, h3, h4⟩ := mcc (x := x1) (y := x4) b_x1.1 b_x1.2 b_x4.1 b_x4.2
  refine ⟨_, ⟨rfl⟩, ?_, ?_, ?_, ?_, ?_, ?_⟩ <;> omega
theorem gw_am22 {x2 x4 : Int} (b_x2 : 0 ≤ x2 ∧ x2 ≤ 255) (b_x4 : 0 ≤ x4 ∧ x4 ≤ 255) : ∃ m : Int, Hd (x2 * x4 = m) ∧ ((0) * x4 + (0) * x2 - (0) ≤ m) ∧ ((255) * x4 + (255) * x2 - (65025) ≤ m) ∧ (m ≤ (255) * x4 + (0) * x2 - (0)) ∧ (m ≤ (0) * x4 + (255) * x2 - (0)) ∧ (0 ≤ m ∧ m ≤ 65025) := by
  obtain ⟨h1, h2, h3, h4⟩ := mcc (x := x2) (y := x4) b_x2.1 b_x2.2 b_x4.1 b_x4.2
  refine ⟨_, ⟨rfl⟩, ?_, ?_, ?_, ?_, ?_, ?_⟩ <;> omega
theorem gw_aw23 {m21 m22 x4 : Int} (b_m21 : 0 ≤ m21 ∧ m21 ≤ 65025) (b_m22 : 0 ≤ m22 ∧ m22 ≤ 65025) (b_x4 : 0 ≤ x4 ∧ x4 ≤ 255) : ∃ w : Int, (m21 + m22 + 800 * x4 = w) ∧ (0 ≤ w ∧ w ≤ 334050) := ⟨_, rfl, by omega, by omega⟩
theorem gw_am24 {u20 x1 : Int} (b_u20 : 0 ≤ u20 ∧ u20 ≤ 491) (b_x1 : 0 ≤ x1 ∧ x1 ≤ 255) : ∃ m : Int, Hd (u20 * x1 = m) ∧ ((0) * x1 + (0) * u20 - (0) ≤ m) ∧ ((491) * x1 + (255) * u20 - (125205) ≤ m) ∧ (m ≤ (491) * x1 + (0) * u20 - (0)) ∧ (m ≤ (0) * x1 + (255) * u20 - (0)) ∧ (0 ≤ m ∧ m ≤ 125205) := by
  obtain ⟨h1, h2, h3, h4⟩ := mcc (x := u20) (y := x1) b_u20.1 b_u20.2 b_x1.1 b_x1.2
  refine ⟨_, ⟨rfl⟩, ?_, ?_, ?_, ?_, ?_, ?_⟩ <;> omega
theorem gw_am25 {u20 x2 : Int} (b_u20 : 0 ≤ u20 ∧ u20 ≤ 491) (b_x2 : 0 ≤ x2 ∧ x2 ≤ 255) : ∃ m : Int, Hd (u20 * x2 = m) ∧ ((0) * x2 + (0) * u20 - (0) ≤ m) ∧ ((491) * x2 + (255) * u20 - (125205) ≤ m) ∧ (m ≤ (491) * x2 + (0) * u20 - (0)) ∧ (m ≤ (0) * x2 + (255) * u20 - (0)) ∧ (0 ≤ m ∧ m ≤ 125205) := by
  obtain ⟨h1, h2, h3, h4⟩ := mcc (x := u20) (y := x2) b_u20.1 b_u20.2 b_x2.1 b_x2.2
  refine ⟨_, ⟨rfl⟩, ?_, ?_, ?_, ?_, ?_, ?_⟩ <;> omega
theorem gw_am26 {x1 z12 : Int} (b_x1 : 0 ≤ x1 ∧ x1 ≤ 255) (b_z12 : -36 ≤ z12 ∧ z12 ≤ 0) : ∃ m : Int, Hd (x1 * z12 = m) ∧ ((0) * z12 + (-36) * x1 - (0) ≤ m) ∧ ((255) * z12 + (0) * x1 - (0) ≤ m) ∧ (m ≤ (255) * z12 + (-36) * x1 - (-9180)) ∧ (m ≤ (0) * z12 + (0) * x1 - (0)) ∧ (-9180 ≤ m ∧ m ≤ 0) := by
  obtain ⟨h1, h2, h3, h4⟩ := mcc (x := x1) (y := z12) b_x1.1 b_x1.2 b_z12.1 b_z12.2
  refine ⟨_, ⟨rfl⟩, ?_, ?_, ?_, ?_, ?_, ?_⟩ <;> omega
theorem gw_am27 {x2 z12 : Int} (b_x2 : 0 ≤ x2 ∧ x2 ≤ 255) (b_z12 : -36 ≤ z12 ∧ z12 ≤ 0) : ∃ m : Int, Hd (x2 * z12 = m) ∧ ((0) * z12 + (-36) * x2 - (0) ≤ m) ∧ ((255) * z12 + (0) * x2 - (0) ≤ m) ∧ (m ≤ (255) * z12 + (-36) * x2 - (-9180)) ∧ (m ≤ (0) * z12 + (0) * x2 - (0)) ∧ (-9180 ≤ m ∧ m ≤ 0) := by
  obtain ⟨h1, h2, h3, h4⟩ := mcc (x := x2) (y := z12) b_x2.1 b_x2.2 b_z12.1 b_z12.2
  refine ⟨_, ⟨rfl⟩, ?_, ?_, ?_, ?_, ?_, ?_⟩ <;> omega
theorem gw_aw28 {m21 m22 m24 m25 m26 m27 u20 x1 x2 x4 z12 : Int} (b_m21 : 0 ≤ m21 ∧ m21 ≤ 65025) (b_m22 : 0 ≤ m22 ∧ m22 ≤ 65025) (b_m24 : 0 ≤ m24 ∧ m24 ≤ 125205) (b_m25 : 0 ≤ m25 ∧ m25 ≤ 125205) (b_m26 : -9180 ≤ m26 ∧ m26 ≤ 0) (b_m27 : -9180 ≤ m27 ∧ m27 ≤ 0) (b_u20 : 0 ≤ u20 ∧ u20 ≤ 491) (b_x1 : 0 ≤ x1 ∧ x1 ≤ 255) (b_x2 : 0 ≤ x2 ∧ x2 ≤ 255) (b_x4 : 0 ≤ x4 ∧ x4 ≤ 255) (b_z12 : -36 ≤ z12 ∧ z12 ≤ 0) : ∃ w : Int, (m21 + m22 + m24 + m25 + (-1) * m26 + (-1) * m27 + 800 * u20 + (-40) * x1 + (-40) * x2 + 800 * x4 + (-800) * z12 + (-32000) = w) ∧ (-52400 ≤ w ∧ w ≤ 992420) := ⟨_, rfl, by omega, by omega⟩
theorem gw_aq29 {x5 : Int} (b_x5 : 0 ≤ x5 ∧ x5 ≤ 255) : ∃ q r : Int, Hd ((x5) / 30 = q) ∧ Hd ((x5) % 30 = r) ∧ (x5 = 30 * q + r) ∧ (0 ≤ q ∧ q ≤ 8) ∧ (0 ≤ r ∧ r ≤ 29) := ⟨_, _, ⟨rfl⟩, ⟨rfl⟩, by omega, by omega, by omega⟩
theorem gw_ar31 {x2 r30 : Int} (b_x2 : 0 ≤ x2 ∧ x2 ≤ 255) (b_r30 : 0 ≤ r30 ∧ r30 ≤ 29) : ∃ r : Int, Hd ((x2) % (r30 + 1) = r) ∧ (r ≤ (r30 + 1) - 1) ∧ (r ≤ x2) ∧ (0 ≤ r ∧ r ≤ 29) := by
  have h1 := Int.emod_nonneg (x2) (by omega : (r30 + 1) ≠ 0)
  have h2 := Int.emod_lt_of_pos (x2) (by omega : 0 < (r30 + 1))
  have h4 := Int.mul_nonneg (by omega : 0 ≤ r30 + 1) (Int.ediv_nonneg (by omega : 0 ≤ x2) (by omega : 0 ≤ r30 + 1))
  have h3 := Int.emod_def (x2) (r30 + 1)
  exact ⟨_, ⟨rfl⟩, by omega, by omega, by omega, by omega⟩
theorem gw_am32 {r31 x1 : Int} (b_r31 : 0 ≤ r31 ∧ r31 ≤ 29) (b_x1 : 0 ≤ x1 ∧ x1 ≤ 255) : ∃ m : Int, Hd (r31 * x1 = m) ∧ ((0) * x1 + (0) * r31 - (0) ≤ m) ∧ ((29) * x1 + (255) * r31 - (7395) ≤ m) ∧ (m ≤ (29) * x1 + (0) * r31 - (0)) ∧ (m ≤ (0) * x1 + (255) * r31 - (0)) ∧ (0 ≤ m ∧ m ≤ 7395) := by
  obtain ⟨h1, h2, h3, h4⟩ := mcc (x := r31) (y := x1) b_r31.1 b_r31.2 b_x1.1 b_x1.2
  refine ⟨_, ⟨rfl⟩, ?_, ?_, ?_, ?_, ?_, ?_⟩ <;> omega
theorem gw_am33 {r31 x2 : Int} (b_r31 : 0 ≤ r31 ∧ r31 ≤ 29) (b_x2 : 0 ≤ x2 ∧ x2 ≤ 255) : ∃ m : Int, Hd (r31 * x2 = m) ∧ ((0) * x2 + (0) * r31 - (0) ≤ m) ∧ ((29) * x2 + (255) * r31 - (7395) ≤ m) ∧ (m ≤ (29) * x2 + (0) * r31 - (0)) ∧ (m ≤ (0) * x2 + (255) * r31 - (0)) ∧ (0 ≤ m ∧ m ≤ 7395) := by
  obtain ⟨h1, h2, h3, h4⟩ := mcc (x := r31) (y := x2) b_r31.1 b_r31.2 b_x2.1 b_x2.2
  refine ⟨_, ⟨rfl⟩, ?_, ?_, ?_, ?_, ?_, ?_⟩ <;> omega
theorem gw_aw34 {m21 m22 m32 m33 r31 x4 : Int} (b_m21 : 0 ≤ m21 ∧ m21 ≤ 65025) (b_m22 : 0 ≤ m22 ∧ m22 ≤ 65025) (b_m32 : 0 ≤ m32 ∧ m32 ≤ 7395) (b_m33 : 0 ≤ m33 ∧ m33 ≤ 7395) (b_r31 : 0 ≤ r31 ∧ r31 ≤ 29) (b_x4 : 0 ≤ x4 ∧ x4 ≤ 255) : ∃ w : Int, (m21 + m22 + m32 + m33 + 800 * r31 + 800 * x4 = w) ∧ (0 ≤ w ∧ w ≤ 372040) := ⟨_, rfl, by omega, by omega⟩
theorem gw_am35 {x1 x6 : Int} (b_x1 : 0 ≤ x1 ∧ x1 ≤ 255) (b_x6 : 0 ≤ x6 ∧ x6 ≤ 255) : ∃ m : Int, Hd (x1 * x6 = m) ∧ ((0) * x6 + (0) * x1 - (0) ≤ m) ∧ ((255) * x6 + (255) * x1 - (65025) ≤ m) ∧ (m ≤ (255) * x6 + (0) * x1 - (0)) ∧ (m ≤ (0) * x6 + (255) * x1 - (0)) ∧ (0 ≤ m ∧ m ≤ 65025) := by
  obtain ⟨h1, h2, h3, h4⟩ := mcc (x := x1) (y := x6) b_x1.1 b_x1.2 b_x6.1 b_x6.2
  refine ⟨_, ⟨rfl⟩, ?_, ?_, ?_, ?_, ?_, ?_⟩ <;> omega
theorem gw_am36 {x2 x6 : Int} (b_x2 : 0 ≤ x2 ∧ x2 ≤ 255) (b_x6 : 0 ≤ x6 ∧ x6 ≤ 255) : ∃ m : Int, Hd (x2 * x6 = m) ∧ ((0) * x6 + (0) * x2 - (0) ≤ m) ∧ ((255) * x6 + (255) * x2 - (65025) ≤ m) ∧ (m ≤ (255) * x6 + (0) * x2 - (0)) ∧ (m ≤ (0) * x6 + (255) * x2 - (0)) ∧ (0 ≤ m ∧ m ≤ 65025) := by
  obtain ⟨h1, h2, h3, h4⟩ := mcc (x := x2) (y := x6) b_x2.1 b_x2.2 b_x6.1 b_x6.2
  refine ⟨_, ⟨rfl⟩, ?_, ?_, ?_, ?_, ?_, ?_⟩ <;> omega
theorem gw_aw37 {m21 m22 m24 m25 m26 m27 m35 m36 u20 x1 x2 x4 x6 z12 : Int} (b_m21 : 0 ≤ m21 ∧ m21 ≤ 65025) (b_m22 : 0 ≤ m22 ∧ m22 ≤ 65025) (b_m24 : 0 ≤ m24 ∧ m24 ≤ 125205) (b_m25 : 0 ≤ m25 ∧ m25 ≤ 125205) (b_m26 : -9180 ≤ m26 ∧ m26 ≤ 0) (b_m27 : -9180 ≤ m27 ∧ m27 ≤ 0) (b_m35 : 0 ≤ m35 ∧ m35 ≤ 65025) (b_m36 : 0 ≤ m36 ∧ m36 ≤ 65025) (b_u20 : 0 ≤ u20 ∧ u20 ≤ 491) (b_x1 : 0 ≤ x1 ∧ x1 ≤ 255) (b_x2 : 0 ≤ x2 ∧ x2 ≤ 255) (b_x4 : 0 ≤ x4 ∧ x4 ≤ 255) (b_x6 : 0 ≤ x6 ∧ x6 ≤ 255) (b_z12 : -36 ≤ z12 ∧ z12 ≤ 0) : ∃ w : Int, (m21 + m22 + m24 + m25 + (-1) * m26 + (-1) * m27 + (-1) * m35 + (-1) * m36 + 800 * u20 + (-40) * x1 + (-40) * x2 + 800 * x4 + (-800) * x6 + (-800) * z12 + (-32000) = w) ∧ (-386450 ≤ w ∧ w ≤ 992420) := ⟨_, rfl, by omega, by omega⟩
theorem gw_aw38 {m10 r4 z8 : Int} (b_m10 : -32000 ≤ m10 ∧ m10 ≤ 0) (b_r4 : 0 ≤ r4 ∧ r4 ≤ 8) (b_z8 : -4000 ≤ z8 ∧ z8 ≤ 0) : ∃ w : Int, ((-1) * m10 + r4 + (-1) * z8 + 1 = w) ∧ (1 ≤ w ∧ w ≤ 36009) := ⟨_, rfl, by omega, by omega⟩
theorem gw_az39 {w38 : Int} (b_w38 : 1 ≤ w38 ∧ w38 ≤ 36009) : ∃ z : Int, ((-1) * w38 ≤ 1000 * z ∧ 1000 * z ≤ (-1) * w38 + 999) ∧ (-36 ≤ z ∧ z ≤ 0) := by
  obtain ⟨z, h1, h2⟩ := ru_ex ((-1) * w38) 1000 (by omega)
  exact ⟨z, ⟨by omega, by omega⟩, by omega, by omega⟩
theorem gw_aw40 {m9 r6 z8 : Int} (b_m9 : -196000 ≤ m9 ∧ m9 ≤ 0) (b_r6 : 0 ≤ r6 ∧ r6 ≤ 49) (b_z8 : -4000 ≤ z8 ∧ z8 ≤ 0) : ∃ w : Int, ((-1) * m9 + r6 + (-10) * z8 + 10 = w) ∧ (10 ≤ w ∧ w ≤ 236059) := ⟨_, rfl, by omega, by omega⟩
theorem gw_az41 {w40 : Int} (b_w40 : 10 ≤ w40 ∧ w40 ≤ 236059) : ∃ z : Int, (w40 ≤ 1000 * z ∧ 1000 * z ≤ w40 + 999) ∧ (1 ≤ z ∧ z ≤ 237) := by
  obtain ⟨z, h1, h2⟩ := ru_ex (w40) 1000 (by omega)
  exact ⟨z, ⟨by omega, by omega⟩, by omega, by omega⟩
theorem gw_au42 {z39 z41 : Int} (b_z39 : -36 ≤ z39 ∧ z39 ≤ 0) (b_z41 : 1 ≤ z41 ∧ z41 ≤ 237) : ∃ m : Int, (max (z39 + z41) 0 = m) ∧ (0 ≤ m ∧ m ≤ 237) := ⟨_, rfl, by omega, by omega⟩
theorem gw_au43 {u42 z39 z41 : Int} (b_u42 : 0 ≤ u42 ∧ u42 ≤ 237) (b_z39 : -36 ≤ z39 ∧ z39 ≤ 0) (b_z41 : 1 ≤ z41 ∧ z41 ≤ 237) : ∃ m : Int, (max ((-1) * u42 + z39 + z41) 0 = m) ∧ (0 ≤ m ∧ m ≤ 237) := ⟨_, rfl, by omega, by omega⟩
theorem gw_au44 {r2 u42 u43 z39 z41 : Int} (b_r2 : 0 ≤ r2 ∧ r2 ≤ 19) (b_u42 : 0 ≤ u42 ∧ u42 ≤ 237) (b_u43 : 0 ≤ u43 ∧ u43 ≤ 237) (b_z39 : -36 ≤ z39 ∧ z39 ≤ 0) (b_z41 : 1 ≤ z41 ∧ z41 ≤ 237) : ∃ m : Int, (max (r2 + (-1) * u42 + (-1) * u43 + 2 * z39 + 2 * z41) 0 = m) ∧ (0 ≤ m ∧ m ≤ 493) := ⟨_, rfl, by omega, by omega⟩
theorem gw_am45 {u44 x1 : Int} (b_u44 : 0 ≤ u44 ∧ u44 ≤ 493) (b_x1 : 0 ≤ x1 ∧ x1 ≤ 255) : ∃ m : Int, Hd (u44 * x1 = m) ∧ ((0) * x1 + (0) * u44 - (0) ≤ m) ∧ ((493) * x1 + (255) * u44 - (125715) ≤ m) ∧ (m ≤ (493) * x1 + (0) * u44 - (0)) ∧ (m ≤ (0) * x1 + (255) * u44 - (0)) ∧ (0 ≤ m ∧ m ≤ 125715) := by
  obtain ⟨h1, h2, h3, h4⟩ := mcc (x := u44) (y := x1) b_u44.1 b_u44.2 b_x1.1 b_x1.2
  refine ⟨_, ⟨rfl⟩, ?_, ?_, ?_, ?_, ?_, ?_⟩ <;> omega
theorem gw_am46 {u44 x2 : Int} (b_u44 : 0 ≤ u44 ∧ u44 ≤ 493) (b_x2 : 0 ≤ x2 ∧ x2 ≤ 255) : ∃ m : Int, Hd (u44 * x2 = m) ∧ ((0) * x2 + (0) * u44 - (0) ≤ m) ∧ ((493) * x2 + (255) * u44 - (125715) ≤ m) ∧ (m ≤ (493) * x2 + (0) * u44 - (0)) ∧ (m ≤ (0) * x2 + (255) * u44 - (0)) ∧ (0 ≤ m ∧ m ≤ 125715) := by
  obtain ⟨h1, h2, h3, h4⟩ := mcc (x := u44) (y := x2) b_u44.1 b_u44.2 b_x2.1 b_x2.2
  refine ⟨_, ⟨rfl⟩, ?_, ?_, ?_, ?_, ?_, ?_⟩ <;> omega
theorem gw_am47 {x1 z39 : Int} (b_x1 : 0 ≤ x1 ∧ x1 ≤ 255) (b_z39 : -36 ≤ z39 ∧ z39 ≤ 0) : ∃ m : Int, Hd (x1 * z39 = m) ∧ ((0) * z39 + (-36) * x1 - (0) ≤ m) ∧ ((255) * z39 + (0) * x1 - (0) ≤ m) ∧ (m ≤ (255) * z39 + (-36) * x1 - (-9180)) ∧ (m ≤ (0) * z39 + (0) * x1 - (0)) ∧ (-9180 ≤ m ∧ m ≤ 0) := by
  obtain ⟨h1, h2, h3, h4⟩ := mcc (x := x1) (y := z39) b_x1.1 b_x1.2 b_z39.1 b_z39.2
  refine ⟨_, ⟨rfl⟩, ?_, ?_, ?_, ?_, ?_, ?_⟩ <;> omega
theorem gw_am48 {x2 z39 : Int} (b_x2 : 0 ≤ x2 ∧ x2 ≤ 255) (b_z39 : -36 ≤ z39 ∧ z39 ≤ 0) : ∃ m : Int, Hd (x2 * z39 = m) ∧ ((0) * z39 + (-36) * x2 - (0) ≤ m) ∧ ((255) * z39 + (0) * x2 - (0) ≤ m) ∧ (m ≤ (255) * z39 + (-36) * x2 - (-9180)) ∧ (m ≤ (0) * z39 + (0) * x2 - (0)) ∧ (-9180 ≤ m ∧ m ≤ 0) := by
  obtain ⟨h1, h2, h3, h4⟩ := mcc (x := x2) (y := z39) b_x2.1 b_x2.2 b_z39.1 b_z39.2
  refine ⟨_, ⟨rfl⟩, ?_, ?_, ?_, ?_, ?_, ?_⟩ <;> omega
theorem gw_aw49 {m21 m22 m45 m46 m47 m48 u44 x1 x2 x4 z39 : Int} (b_m21 : 0 ≤ m21 ∧ m21 ≤ 65025) (b_m22 : 0 ≤ m22 ∧ m22 ≤ 65025) (b_m45 : 0 ≤ m45 ∧ m45 ≤ 125715) (b_m46 : 0 ≤ m46 ∧ m46 ≤ 125715) (b_m47 : -9180 ≤ m47 ∧ m47 ≤ 0) (b_m48 : -9180 ≤ m48 ∧ m48 ≤ 0) (b_u44 : 0 ≤ u44 ∧ u44 ≤ 493) (b_x1 : 0 ≤ x1 ∧ x1 ≤ 255) (b_x2 : 0 ≤ x2 ∧ x2 ≤ 255) (b_x4 : 0 ≤ x4 ∧ x4 ≤ 255) (b_z39 : -36 ≤ z39 ∧ z39 ≤ 0) : ∃ w : Int, (m21 + m22 + m45 + m46 + (-1) * m47 + (-1) * m48 + 800 * u44 + (-40) * x1 + (-40) * x2 + 800 * x4 + (-800) * z39 + (-32000) = w) ∧ (-52400 ≤ w ∧ w ≤ 995040) := ⟨_, rfl, by omega, by omega⟩
theorem gw_aw50 {m21 m22 m35 m36 m45 m46 m47 m48 u44 x1 x2 x4 x6 z39 : Int} (b_m21 : 0 ≤ m21 ∧ m21 ≤ 65025) (b_m22 : 0 ≤ m22 ∧ m22 ≤ 65025) (b_m35 : 0 ≤ m35 ∧ m35 ≤ 65025) (b_m36 : 0 ≤ m36 ∧ m36 ≤ 65025) (b_m45 : 0 ≤ m45 ∧ m45 ≤ 125715) (b_m46 : 0 ≤ m46 ∧ m46 ≤ 125715) (b_m47 : -9180 ≤ m47 ∧ m47 ≤ 0) (b_m48 : -9180 ≤ m48 ∧ m48 ≤ 0) (b_u44 : 0 ≤ u44 ∧ u44 ≤ 493) (b_x1 : 0 ≤ x1 ∧ x1 ≤ 255) (b_x2 : 0 ≤ x2 ∧ x2 ≤ 255) (b_x4 : 0 ≤ x4 ∧ x4 ≤ 255) (b_x6 : 0 ≤ x6 ∧ x6 ≤ 255) (b_z39 : -36 ≤ z39 ∧ z39 ≤ 0) : ∃ w : Int, (m21 + m22 + (-1) * m35 + (-1) * m36 + m45 + m46 + (-1) * m47 + (-1) * m48 + 800 * u44 + (-40) * x1 + (-40) * x2 + 800 * x4 + (-800) * x6 + (-800) * z39 + (-32000) = w) ∧ (-386450 ≤ w ∧ w ≤ 995040) := ⟨_, rfl, by omega, by omega⟩
theorem gw_rf1 {r2 z14 w13 m9 z8 v7 r6 : Int}  (z14s : w13 ≤ 1000 * z14 ∧ 1000 * z14 ≤ w13 + 999) (w13s : (-1) * m9 + (-10) * z8 = w13) (z8s : v7 ≤ m9 + 10 * z8 ∧ m9 + 10 * z8 ≤ v7 + (r6 + 10) - 1) (v7s : 1000 * r2 + (-40000) = v7) : 0 ≤ (-1) * r2 + (-1) * z14 + 40 := by omega
theorem gw_rf2 {u20 z12 r2 u15 u16 z14 : Int} (b_z12 : -36 ≤ z12 ∧ z12 ≤ 0) (u20s : max (r2 + (-1) * u15 + (-1) * u16 + 2 * z12 + 2 * z14) 0 = u20) (rf1 : 0 ≤ (-1) * r2 + (-1) * z14 + 40) (u16s : max ((-1) * u15 + z12 + z14) 0 = u16) : 0 ≤ (-1) * u20 + z12 + 40 := by omega
theorem gw_rf2_0 {u20 z12 m24 m26 x1 : Int} (b_x1 : 0 ≤ x1 ∧ x1 ≤ 255) (k : 0 ≤ (-1) * u20 + z12 + 40) (m24e : Hd (u20 * x1 = m24)) (m26e : Hd (x1 * z12 = m26)) : 0 ≤ (-1) * m24 + m26 + 40 * x1 := by
  have e1 : ((-1) * u20 + z12 + 40) * (x1) = (-1) * m24 + m26 + 40 * x1 := ((by simp only [Int.add_mul, Int.mul_add, Int.mul_assoc, Int.mul_comm, Int.mul_left_comm, Int.reduceMul, Int.reduceNeg, Int.mul_one, Int.one_mul] <;> omega : ((-1) * u20 + z12 + 40) * (x1) = (-1) * (u20 * x1) + x1 * z12 + 40 * x1).trans (by (try simp only [m24e.out, m26e.out]) <;> omega))
  exact e1 ▸ Int.mul_nonneg (by omega) (by omega)
theorem gw_rf2_1 {u20 z12 m25 m27 x2 : Int} (b_x2 : 0 ≤ x2 ∧ x2 ≤ 255) (k : 0 ≤ (-1) * u20 + z12 + 40) (m25e : Hd (u20 * x2 = m25)) (m27e : Hd (x2 * z12 = m27)) : 0 ≤ (-1) * m25 + m27 + 40 * x2 := by
  have e1 : ((-1) * u20 + z12 + 40) * (x2) = (-1) * m25 + m27 + 40 * x2 := ((by simp only [Int.add_mul, Int.mul_add, Int.mul_assoc, Int.mul_comm, Int.mul_left_comm, Int.reduceMul, Int.reduceNeg, Int.mul_one, Int.one_mul] <;> omega : ((-1) * u20 + z12 + 40) * (x2) = (-1) * (u20 * x2) + x2 * z12 + 40 * x2).trans (by (try simp only [m25e.out, m27e.out]) <;> omega))
  exact e1 ▸ Int.mul_nonneg (by omega) (by omega)
theorem gw_rf3 {r2 z41 w40 m9 r6 z8 v7 : Int}  (z41s : w40 ≤ 1000 * z41 ∧ 1000 * z41 ≤ w40 + 999) (w40s : (-1) * m9 + r6 + (-10) * z8 + 10 = w40) (z8s : v7 ≤ m9 + 10 * z8 ∧ m9 + 10 * z8 ≤ v7 + (r6 + 10) - 1) (v7s : 1000 * r2 + (-40000) = v7) : 0 ≤ r2 + z41 + (-41) := by omega
theorem gw_rf4 {z39 z41 r4 r6 v7 w38 w40 m10 z8 m9 : Int} (b_r4 : 0 ≤ r4 ∧ r4 ≤ 8) (b_r6 : 0 ≤ r6 ∧ r6 ≤ 49) (b_v7 : -40000 ≤ v7 ∧ v7 ≤ -21000) (z39s : (-1) * w38 ≤ 1000 * z39 ∧ 1000 * z39 ≤ (-1) * w38 + 999) (z41s : w40 ≤ 1000 * z41 ∧ 1000 * z41 ≤ w40 + 999) (w38s : (-1) * m10 + r4 + (-1) * z8 + 1 = w38) (w40s : (-1) * m9 + r6 + (-10) * z8 + 10 = w40) (m10f2 : (8) * z8 + (0) * r4 - (0) ≤ m10) (z8s : v7 ≤ m9 + 10 * z8 ∧ m9 + 10 * z8 ≤ v7 + (r6 + 10) - 1) (m9f4 : m9 ≤ (0) * z8 + (0) * r6 - (0)) : 0 ≤ z39 + z41 := by omega
theorem gw_rf5 {u44 z39 r2 u42 u43 z41 : Int}  (u44s : max (r2 + (-1) * u42 + (-1) * u43 + 2 * z39 + 2 * z41) 0 = u44) (rf4 : 0 ≤ z39 + z41) (rf3 : 0 ≤ r2 + z41 + (-41)) (u42s : max (z39 + z41) 0 = u42) (u43s : max ((-1) * u42 + z39 + z41) 0 = u43) : 0 ≤ u44 + (-1) * z39 + (-41) := by omega
theorem gw_rf5_0 {u44 z39 m45 m47 x1 : Int} (b_x1 : 0 ≤ x1 ∧ x1 ≤ 255) (k : 0 ≤ u44 + (-1) * z39 + (-41)) (m45e : Hd (u44 * x1 = m45)) (m47e : Hd (x1 * z39 = m47)) : 0 ≤ m45 + (-1) * m47 + (-41) * x1 := by
  have e1 : (u44 + (-1) * z39 + (-41)) * (x1) = m45 + (-1) * m47 + (-41) * x1 := ((by simp only [Int.add_mul, Int.mul_add, Int.mul_assoc, Int.mul_comm, Int.mul_left_comm, Int.reduceMul, Int.reduceNeg, Int.mul_one, Int.one_mul] <;> omega : (u44 + (-1) * z39 + (-41)) * (x1) = u44 * x1 + (-1) * (x1 * z39) + (-41) * x1).trans (by (try simp only [m45e.out, m47e.out]) <;> omega))
  exact e1 ▸ Int.mul_nonneg (by omega) (by omega)
theorem gw_rf5_1 {u44 z39 m46 m48 x2 : Int} (b_x2 : 0 ≤ x2 ∧ x2 ≤ 255) (k : 0 ≤ u44 + (-1) * z39 + (-41)) (m46e : Hd (u44 * x2 = m46)) (m48e : Hd (x2 * z39 = m48)) : 0 ≤ m46 + (-1) * m48 + (-41) * x2 := by
  have e1 : (u44 + (-1) * z39 + (-41)) * (x2) = m46 + (-1) * m48 + (-41) * x2 := ((by simp only [Int.add_mul, Int.mul_add, Int.mul_assoc, Int.mul_comm, Int.mul_left_comm, Int.reduceMul, Int.reduceNeg, Int.mul_one, Int.one_mul] <;> omega : (u44 + (-1) * z39 + (-41)) * (x2) = u44 * x2 + (-1) * (x2 * z39) + (-41) * x2).trans (by (try simp only [m46e.out, m48e.out]) <;> omega))
  exact e1 ▸ Int.mul_nonneg (by omega) (by omega)
set_option maxHeartbeats 40000000 in
theorem gw_g0 {ρ : Env} {x4 x0 r2 x1 r4 r6 z8 v7 w11 m10 z12 w13 m9 z14 u15 u16 x2 x3 w19 m17 m18 u20 x7 x8 w23 m21 m22 w28 m24 m25 m26 m27 x5 r30 x6 r31 w34 m32 m33 w37 m35 m36 w38 z39 w40 z41 u42 u43 u44 w49 m45 m46 m47 m48 w50 : Int} (e4 : Is ρ (.v 4) x4) (e0 : Is ρ (.v 0) x0) (r2e : Hd ((x0) % 20 = r2)) (e1 : Is ρ (.v 1) x1) (r4e : Hd ((x1) % 9 = r4)) (r6e : Hd ((x1) % 50 = r6)) (z8h : Hd (v7 ≤ (r6 + 10) * z8 ∧ (r6 + 10) * z8 ≤ v7 + ((r6 + 10) - 1))) (v7s : Hd (1000 * r2 + (-40000) = v7)) (m10e : Hd (r4 * z8 = m10)) (w11s : Hd ((-1) * m10 + (-1) * z8 = w11)) (z12s : Hd ((-1) * w11 ≤ 1000 * z12 ∧ 1000 * z12 ≤ (-1) * w11 + 999)) (m9e : Hd (r6 * z8 = m9)) (w13s : Hd ((-1) * m9 + (-10) * z8 = w13)) (z14s : Hd (w13 ≤ 1000 * z14 ∧ 1000 * z14 ≤ w13 + 999)) (u15s : Hd (max (z12 + z14) 0 = u15)) (u16s : Hd (max ((-1) * u15 + z12 + z14) 0 = u16)) (e2 : Is ρ (.v 2) x2) (e3 : Is ρ (.v 3) x3) (m17e : Hd (x1 * x3 = m17)) (m18e : Hd (x2 * x3 = m18)) (w19s : Hd (5 * m17 + 5 * m18 + x1 + x2 + 4000 * x3 + 800 = w19)) (u20s : Hd (max (r2 + (-1) * u15 + (-1) * u16 + 2 * z12 + 2 * z14) 0 = u20)) (e7 : Is ρ (.v 7) x7) (e8 : Is ρ (.v 8) x8) (m21e : Hd (x1 * x4 = m21)) (m22e : Hd (x2 * x4 = m22)) (w23s : Hd (m21 + m22 + 800 * x4 = w23)) (m24e : Hd (u20 * x1 = m24)) (m25e : Hd (u20 * x2 = m25)) (m26e : Hd (x1 * z12 = m26)) (m27e : Hd (x2 * z12 = m27)) (w28s : Hd (m21 + m22 + m24 + m25 + (-1) * m26 + (-1) * m27 + 800 * u20 + (-40) * x1 + (-40) * x2 + 800 * x4 + (-800) * z12 + (-32000) = w28)) (e5 : Is ρ (.v 5) x5) (r30e : Hd ((x5) % 30 = r30)) (e6 : Is ρ (.v 6) x6) (r31e : Hd ((x2) % (r30 + 1) = r31)) (m32e : Hd (r31 * x1 = m32)) (m33e : Hd (r31 * x2 = m33)) (w34s : Hd (m21 + m22 + m32 + m33 + 800 * r31 + 800 * x4 = w34)) (m35e : Hd (x1 * x6 = m35)) (m36e : Hd (x2 * x6 = m36)) (w37s : Hd (m21 + m22 + m24 + m25 + (-1) * m26 + (-1) * m27 + (-1) * m35 + (-1) * m36 + 800 * u20 + (-40) * x1 + (-40) * x2 + 800 * x4 + (-800) * x6 + (-800) * z12 + (-32000) = w37)) (w38s : Hd ((-1) * m10 + r4 + (-1) * z8 + 1 = w38)) (z39s : Hd ((-1) * w38 ≤ 1000 * z39 ∧ 1000 * z39 ≤ (-1) * w38 + 999)) (w40s : Hd ((-1) * m9 + r6 + (-10) * z8 + 10 = w40)) (z41s : Hd (w40 ≤ 1000 * z41 ∧ 1000 * z41 ≤ w40 + 999)) (u42s : Hd (max (z39 + z41) 0 = u42)) (u43s : Hd (max ((-1) * u42 + z39 + z41) 0 = u43)) (u44s : Hd (max (r2 + (-1) * u42 + (-1) * u43 + 2 * z39 + 2 * z41) 0 = u44)) (m45e : Hd (u44 * x1 = m45)) (m46e : Hd (u44 * x2 = m46)) (m47e : Hd (x1 * z39 = m47)) (m48e : Hd (x2 * z39 = m48)) (w49s : Hd (m21 + m22 + m45 + m46 + (-1) * m47 + (-1) * m48 + 800 * u44 + (-40) * x1 + (-40) * x2 + 800 * x4 + (-800) * z39 + (-32000) = w49)) (w50s : Hd (m21 + m22 + (-1) * m35 + (-1) * m36 + m45 + m46 + (-1) * m47 + (-1) * m48 + 800 * u44 + (-40) * x1 + (-40) * x2 + 800 * x4 + (-800) * x6 + (-800) * z39 + (-32000) = w50)) (b_x4 : 0 ≤ x4 ∧ x4 ≤ 255) (b_x0 : 0 ≤ x0 ∧ x0 ≤ 255) (b_r2 : 0 ≤ r2 ∧ r2 ≤ 19) (b_x1 : 0 ≤ x1 ∧ x1 ≤ 255) (b_r4 : 0 ≤ r4 ∧ r4 ≤ 8) (b_r6 : 0 ≤ r6 ∧ r6 ≤ 49) (b_z8 : -4000 ≤ z8 ∧ z8 ≤ 0) (b_v7 : -40000 ≤ v7 ∧ v7 ≤ -21000) (b_w11 : 0 ≤ w11 ∧ w11 ≤ 36000) (b_m10 : -32000 ≤ m10 ∧ m10 ≤ 0) (b_z12 : -36 ≤ z12 ∧ z12 ≤ 0) (b_w13 : 0 ≤ w13 ∧ w13 ≤ 236000) (b_m9 : -196000 ≤ m9 ∧ m9 ≤ 0) (b_z14 : 0 ≤ z14 ∧ z14 ≤ 236) (b_u15 : 0 ≤ u15 ∧ u15 ≤ 236) (b_u16 : 0 ≤ u16 ∧ u16 ≤ 236) (b_x2 : 0 ≤ x2 ∧ x2 ≤ 255) (b_x3 : 0 ≤ x3 ∧ x3 ≤ 255) (b_w19 : 800 ≤ w19 ∧ w19 ≤ 1671560) (b_m17 : 0 ≤ m17 ∧ m17 ≤ 65025) (b_m18 : 0 ≤ m18 ∧ m18 ≤ 65025) (b_u20 : 0 ≤ u20 ∧ u20 ≤ 491) (b_x7 : 0 ≤ x7 ∧ x7 ≤ 255) (b_x8 : 0 ≤ x8 ∧ x8 ≤ 255) (b_w23 : 0 ≤ w23 ∧ w23 ≤ 334050) (b_m21 : 0 ≤ m21 ∧ m21 ≤ 65025) (b_m22 : 0 ≤ m22 ∧ m22 ≤ 65025) (b_w28 : -52400 ≤ w28 ∧ w28 ≤ 992420) (b_m24 : 0 ≤ m24 ∧ m24 ≤ 125205) (b_m25 : 0 ≤ m25 ∧ m25 ≤ 125205) (b_m26 : -9180 ≤ m26 ∧ m26 ≤ 0) (b_m27 : -9180 ≤ m27 ∧ m27 ≤ 0) (b_x5 : 0 ≤ x5 ∧ x5 ≤ 255) (b_r30 : 0 ≤ r30 ∧ r30 ≤ 29) (b_x6 : 0 ≤ x6 ∧ x6 ≤ 255) (b_r31 : 0 ≤ r31 ∧ r31 ≤ 29) (b_w34 : 0 ≤ w34 ∧ w34 ≤ 372040) (b_m32 : 0 ≤ m32 ∧ m32 ≤ 7395) (b_m33 : 0 ≤ m33 ∧ m33 ≤ 7395) (b_w37 : -386450 ≤ w37 ∧ w37 ≤ 992420) (b_m35 : 0 ≤ m35 ∧ m35 ≤ 65025) (b_m36 : 0 ≤ m36 ∧ m36 ≤ 65025) (b_w38 : 1 ≤ w38 ∧ w38 ≤ 36009) (b_z39 : -36 ≤ z39 ∧ z39 ≤ 0) (b_w40 : 10 ≤ w40 ∧ w40 ≤ 236059) (b_z41 : 1 ≤ z41 ∧ z41 ≤ 237) (b_u42 : 0 ≤ u42 ∧ u42 ≤ 237) (b_u43 : 0 ≤ u43 ∧ u43 ≤ 237) (b_u44 : 0 ≤ u44 ∧ u44 ≤ 493) (b_w49 : -52400 ≤ w49 ∧ w49 ≤ 995040) (b_m45 : 0 ≤ m45 ∧ m45 ≤ 125715) (b_m46 : 0 ≤ m46 ∧ m46 ≤ 125715) (b_m47 : -9180 ≤ m47 ∧ m47 ≤ 0) (b_m48 : -9180 ≤ m48 ∧ m48 ≤ 0) (b_w50 : -386450 ≤ w50 ∧ w50 ≤ 995040) : Is ρ gw0 (x4) ∧ Is ρ gw1 (x4 + 5000) ∧ Is ρ gw2 (x4 + 4960) ∧ Is ρ gw5 (r2 + x4 + 4960) ∧ Is ρ gw8 (r4 + 1) ∧ Is ρ gw10 (r6 + 10) ∧ Is ρ gw13 ((-1) * r2 + (-1) * x4 + 9995040) ∧ Is ρ gw14 ((-1) * x4 + 9995040) ∧ Is ρ gw16 ((-1) * r2 + 40) ∧ Is ρ gw25 ((-1) * z8) ∧ Is ρ gw26 ((-1) * z8) ∧ Is ρ gw35 ((-1) * x4 + z12 + 9995040) ∧ Is ρ gw36 ((-1) * x4 + z12 + 9995040) ∧ Is ρ gw43 ((-1) * r2 + (-1) * x4 + (-1) * z14 + 9995040) ∧ Is ρ gw45 ((-1) * r2 + u15 + (-1) * x4 + (-1) * z12 + (-1) * z14 + 9995040) ∧ Is ρ gw48 ((-1) * u15 + (-1) * x4 + z12 + z14 + 9995040) ∧ Is ρ gw50 ((-1) * r2 + u15 + u16 + (-1) * x4 + (-1) * z12 + (-2) * z14 + 9995040) ∧ Is ρ gw52 (4 * x0 + 9000) ∧ Is ρ gw53 (x1 + 400) ∧ Is ρ gw55 (x2 + 400) ∧ Is ρ gw57 (5 * x3) ∧ Is ρ gw58 (5 * x3 + 1) ∧ Is ρ gw59 (10 * x3 + 1) ∧ Is ρ gw62 (w19) ∧ Is ρ gw63 (2000 * x0 + 4500000) ∧ Is ρ gw67 (u20 + x4 + (-1) * z12 + (-40)) ∧ Is ρ gw70 (8 * x7 + (-1200)) ∧ Is ρ gw73 (8 * x7 + 8 * x8 + (-1200)) ∧ Is ρ gw89 (w23 + (-1) * w28) ∧ Is ρ gw91 (0) ∧ Is ρ gw96 (r30 + 1) ∧ Is ρ gw98 (u20 + x4 + (-1) * x6 + (-1) * z12 + (-40)) ∧ Is ρ gw100 (r31 + x4) ∧ Is ρ gw106 (w34 + (-1) * w37) ∧ Is ρ gw107 ((-1) * z8 + 1) ∧ Is ρ gw116 ((-1) * x4 + z39 + 9995040) ∧ Is ρ gw117 ((-1) * x4 + z39 + 9995040) ∧ Is ρ gw124 ((-1) * r2 + (-1) * x4 + (-1) * z41 + 9995040) ∧ Is ρ gw126 ((-1) * r2 + u42 + (-1) * x4 + (-1) * z39 + (-1) * z41 + 9995040) ∧ Is ρ gw129 ((-1) * u42 + (-1) * x4 + z39 + z41 + 9995040) ∧ Is ρ gw131 ((-1) * r2 + u42 + u43 + (-1) * x4 + (-1) * z39 + (-2) * z41 + 9995040) ∧ Is ρ gw135 (u44 + x4 + (-1) * z39 + (-40)) ∧ Is ρ gw139 (w23 + (-1) * w49) ∧ Is ρ gw140 (u44 + x4 + (-1) * x6 + (-1) * z39 + (-40)) ∧ Is ρ gw144 (w34 + (-1) * w50) := by
  have h0 : Is ρ gw0 (x4) := Zconv e4 (by omega)
  have h1 : Is ρ gw1 (x4 + 5000) := Ya (Zc 5000) h0 (by omega)
  have h2 : Is ρ gw2 (x4 + 4960) := Ys h1 (Zc 40) (by omega)
  have h3 : Is ρ gw3 (x0) := Zconv e0 (by omega)
  have h4 : Is ρ gw4 (r2) := Zremp h3 (Zc 20) (by omega) r2e.out
  have h5 : Is ρ gw5 (r2 + x4 + 4960) := Ya h2 h4 (by omega)
  have h6 : Is ρ gw6 (x1) := Zconv e1 (by omega)
  have h7 : Is ρ gw7 (r4) := Zremp h6 (Zc 9) (by omega) r4e.out
  have h8 : Is ρ gw8 (r4 + 1) := Ya (Zc 1) h7 (by omega)
  have h9 : Is ρ gw9 (r6) := Zremp h6 (Zc 50) (by omega) r6e.out
  have h10 : Is ρ gw10 (r6 + 10) := Ya (Zc 10) h9 (by omega)
  have h11 : Is ρ gw11 ((-1) * x4 + 9995040) := Ys (Zc 10000000) h2 (by omega)
  have h12 : Is ρ gw12 ((-1) * r2 + (-1) * x4 + 9995040) := Ys (Zc 10000000) h5 (by omega)
  have h13 : Is ρ gw13 ((-1) * r2 + (-1) * x4 + 9995040) := Zmn h11 h12 (by omega)
  have h14 : Is ρ gw14 ((-1) * x4 + 9995040) := Zmx h11 h12 (by omega)
  have h15 : Is ρ gw15 ((-1) * x4 + 9995000) := Ys (Zc 10000000) h1 (by omega)
  have h16 : Is ρ gw16 ((-1) * r2 + 40) := Ys h13 h15 (by omega)
  have h17 : Is ρ gw17 ((-1000) * r2 + 40000) := Ym (Zc 1000) h16 (by omega)
  have h18 : Is ρ gw18 (1000 * r2 + (-40000)) := Ys (Zc 0) h17 (by omega)
  have h23 : Is ρ gw23 (z8) := by
    have v7s := v7s.out
    exact Zru2 (v7s ▸ h18) h10 (by omega) (by omega) z8h.out.1 z8h.out.2
  have h24 : Is ρ gw24 ((-1) * z8) := Ys (Zc 0) h23 (by omega)
  have h25 : Is ρ gw25 ((-1) * z8) := Zmn h24 (Zc 100000) (by omega)
  have h26 : Is ρ gw26 ((-1) * z8) := Ya h25 (Zc 0) (by omega)
  have h27 : Is ρ gw27 (w11) := by
    have w11s := w11s.out
    exact Zmul h8 h26 (by omega) (((by simp only [Int.add_mul, Int.mul_add, Int.mul_assoc, Int.mul_comm, Int.mul_left_comm, Int.reduceMul, Int.reduceNeg, Int.mul_one, Int.one_mul] <;> omega : (r4 + 1) * ((-1) * z8) = (-1) * (r4 * z8) + (-1) * z8).trans (by (try simp only [m10e.out]) <;> omega)).trans w11s)
  have h28 : Is ρ gw28 ((-1) * w11) := Ys (Zc 0) h27 (by omega)
  have h33 : Is ρ gw33 (z12) := by
    have z12s := z12s.out
    exact Zru h28 (by omega) (by omega) (by omega) (by omega)
  have h34 : Is ρ gw34 ((-1) * z12) := Ys (Zc 0) h33 (by omega)
  have h35 : Is ρ gw35 ((-1) * x4 + z12 + 9995040) := Ys h14 h34 (by omega)
  have h36 : Is ρ gw36 ((-1) * x4 + z12 + 9995040) := Zmn h35 h35 (by omega)
  have h37 : Is ρ gw37 (w13) := by
    have w13s := w13s.out
    exact Zmul h10 h26 (by omega) (((by simp only [Int.add_mul, Int.mul_add, Int.mul_assoc, Int.mul_comm, Int.mul_left_comm, Int.reduceMul, Int.reduceNeg, Int.mul_one, Int.one_mul] <;> omega : (r6 + 10) * ((-1) * z8) = (-1) * (r6 * z8) + (-10) * z8).trans (by (try simp only [m9e.out]) <;> omega)).trans w13s)
  have h42 : Is ρ gw42 (z14) := by
    have z14s := z14s.out
    exact Zru h37 (by omega) (by omega) (by omega) (by omega)
  have h43 : Is ρ gw43 ((-1) * r2 + (-1) * x4 + (-1) * z14 + 9995040) := Ys h13 h42 (by omega)
  have h44 : Is ρ gw44 ((-1) * r2 + (-1) * x4 + (-1) * z12 + (-1) * z14 + 9995040) := Ya h43 h34 (by omega)
  have h45 : Is ρ gw45 ((-1) * r2 + u15 + (-1) * x4 + (-1) * z12 + (-1) * z14 + 9995040) := by
    have u15s := u15s.out
    exact Zmx h13 h44 (by omega)
  have h46 : Is ρ gw46 ((-1) * z14) := Ys (Zc 0) h42 (by omega)
  have h47 : Is ρ gw47 ((-1) * x4 + z12 + z14 + 9995040) := Ys h36 h46 (by omega)
  have h48 : Is ρ gw48 ((-1) * u15 + (-1) * x4 + z12 + z14 + 9995040) := by
    have u15s := u15s.out
    exact Zmn h14 h47 (by omega)
  have h49 : Is ρ gw49 ((-1) * r2 + u15 + (-1) * x4 + (-1) * z12 + (-2) * z14 + 9995040) := Ya h45 h46 (by omega)
  have h50 : Is ρ gw50 ((-1) * r2 + u15 + u16 + (-1) * x4 + (-1) * z12 + (-2) * z14 + 9995040) := by
    have u16s := u16s.out
    exact Zmx h43 h49 (by omega)
  have h51 : Is ρ gw51 (4 * x0) := Ym (Zc 4) h3 (by omega)
  have h52 : Is ρ gw52 (4 * x0 + 9000) := Ya (Zc 9000) h51 (by omega)
  have h53 : Is ρ gw53 (x1 + 400) := Ya (Zc 400) h6 (by omega)
  have h54 : Is ρ gw54 (x2) := Zconv e2 (by omega)
  have h55 : Is ρ gw55 (x2 + 400) := Ya (Zc 400) h54 (by omega)
  have h56 : Is ρ gw56 (x3) := Zconv e3 (by omega)
  have h57 : Is ρ gw57 (5 * x3) := Ym (Zc 5) h56 (by omega)
  have h58 : Is ρ gw58 (5 * x3 + 1) := Ya (Zc 1) h57 (by omega)
  have h59 : Is ρ gw59 (10 * x3 + 1) := Ya h58 h57 (by omega)
  have h60 : Is ρ gw60 (5 * x3 + 1) := Zmx h58 h57 (by omega)
  have h61 : Is ρ gw61 (x1 + x2 + 800) := Ya h53 h55 (by omega)
  have h62 : Is ρ gw62 (w19) := by
    have w19s := w19s.out
    exact Zmul h60 h61 (by omega) (((by simp only [Int.add_mul, Int.mul_add, Int.mul_assoc, Int.mul_comm, Int.mul_left_comm, Int.reduceMul, Int.reduceNeg, Int.mul_one, Int.one_mul] <;> omega : (5 * x3 + 1) * (x1 + x2 + 800) = 5 * (x1 * x3) + 5 * (x2 * x3) + 4000 * x3 + 1 * x1 + 1 * x2 + 800).trans (by (try simp only [m17e.out, m18e.out]) <;> omega)).trans w19s)
  have h63 : Is ρ gw63 (2000 * x0 + 4500000) := Ym (Zc 500) h52 (by omega)
  have h64 : Is ρ gw64 (r2 + (-1) * u15 + (-1) * u16 + x4 + z12 + 2 * z14 + 4960) := Ys (Zc 10000000) h50 (by omega)
  have h65 : Is ρ gw65 (x4 + (-1) * z12 + 4960) := Ys (Zc 10000000) h36 (by omega)
  have h66 : Is ρ gw66 (u20 + x4 + (-1) * z12 + 4960) := by
    have u20s := u20s.out
    exact Zmx h64 h65 (by omega)
  have h67 : Is ρ gw67 (u20 + x4 + (-1) * z12 + (-40)) := Ys h66 (Zc 5000) (by omega)
  have h68 : Is ρ gw68 (x7) := Zconv e7 (by omega)
  have h69 : Is ρ gw69 (8 * x7) := Ym (Zc 8) h68 (by omega)
  have h70 : Is ρ gw70 (8 * x7 + (-1200)) := Ys h69 (Zc 1200) (by omega)
  have h71 : Is ρ gw71 (x8) := Zconv e8 (by omega)
  have h72 : Is ρ gw72 (8 * x8) := Ym (Zc 8) h71 (by omega)
  have h73 : Is ρ gw73 (8 * x7 + 8 * x8 + (-1200)) := Ya h70 h72 (by omega)
  have h74 : Is ρ gw74 (0) := Ys h52 h52 (by omega)
  have h75 : Is ρ gw75 (0) := Ym (Zc 500) h74 (by omega)
  have h76 : Is ρ gw76 (w23) := by
    have w23s := w23s.out
    exact Zmul h0 h61 (by omega) (((by simp only [Int.add_mul, Int.mul_add, Int.mul_assoc, Int.mul_comm, Int.mul_left_comm, Int.reduceMul, Int.reduceNeg, Int.mul_one, Int.one_mul] <;> omega : (x4) * (x1 + x2 + 800) = x1 * x4 + x2 * x4 + 800 * x4).trans (by (try simp only [m21e.out, m22e.out]) <;> omega)).trans w23s)
  have h77 : Is ρ gw77 (w23) := Ya h75 h76 (by omega)
  have h78 : Is ρ gw78 (w28) := by
    have w28s := w28s.out
    exact Zmul h67 h61 (by omega) (((by simp only [Int.add_mul, Int.mul_add, Int.mul_assoc, Int.mul_comm, Int.mul_left_comm, Int.reduceMul, Int.reduceNeg, Int.mul_one, Int.one_mul] <;> omega : (u20 + x4 + (-1) * z12 + (-40)) * (x1 + x2 + 800) = u20 * x1 + u20 * x2 + x1 * x4 + x2 * x4 + (-1) * (x1 * z12) + (-1) * (x2 * z12) + 800 * u20 + 800 * x4 + (-800) * z12 + (-40) * x1 + (-40) * x2 + (-32000)).trans (by (try simp only [m24e.out, m25e.out, m21e.out, m22e.out, m26e.out, m27e.out]) <;> omega)).trans w28s)
  have h79 : Is ρ gw79 (w23 + (-1) * w28) := Ys h77 h78 (by omega)
  have h80 : Is ρ gw80 (0) := Ys h53 h53 (by omega)
  have h81 : Is ρ gw81 (0) := Ym h70 h80 (by omega)
  have h82 : Is ρ gw82 (0) := Ym h73 h80 (by omega)
  have h83 : Is ρ gw83 (0) := Zmx h81 h82 (by omega)
  have h84 : Is ρ gw84 (w23 + (-1) * w28) := Ys h79 h83 (by omega)
  have h85 : Is ρ gw85 (0) := Ys h55 h55 (by omega)
  have h86 : Is ρ gw86 (0) := Ym h70 h85 (by omega)
  have h87 : Is ρ gw87 (0) := Ym h73 h85 (by omega)
  have h88 : Is ρ gw88 (0) := Zmx h86 h87 (by omega)
  have h89 : Is ρ gw89 (w23 + (-1) * w28) := Ys h84 h88 (by omega)
  have h90 : Is ρ gw90 (0) := Zmx h74 h74 (by omega)
  have h91 : Is ρ gw91 (0) := Ym (Zc 1000) h90 (by omega)
  have h92 : Is ρ gw92 (x5) := Zconv e5 (by omega)
  have h93 : Is ρ gw93 (r30) := Zremp h92 (Zc 30) (by omega) r30e.out
  have h94 : Is ρ gw94 (r30 + x4) := Ya h0 h93 (by omega)
  have h95 : Is ρ gw95 (r30) := Ys h94 h0 (by omega)
  have h96 : Is ρ gw96 (r30 + 1) := Ya h95 (Zc 1) (by omega)
  have h97 : Is ρ gw97 (x6) := Zconv e6 (by omega)
  have h98 : Is ρ gw98 (u20 + x4 + (-1) * x6 + (-1) * z12 + (-40)) := Ys h67 h97 (by omega)
  have h99 : Is ρ gw99 (r31) := Zremp h54 h96 (by omega) r31e.out
  have h100 : Is ρ gw100 (r31 + x4) := Ya h0 h99 (by omega)
  have h101 : Is ρ gw101 (w34) := by
    have w34s := w34s.out
    exact Zmul h100 h61 (by omega) (((by simp only [Int.add_mul, Int.mul_add, Int.mul_assoc, Int.mul_comm, Int.mul_left_comm, Int.reduceMul, Int.reduceNeg, Int.mul_one, Int.one_mul] <;> omega : (r31 + x4) * (x1 + x2 + 800) = r31 * x1 + r31 * x2 + x1 * x4 + x2 * x4 + 800 * r31 + 800 * x4).trans (by (try simp only [m32e.out, m33e.out, m21e.out, m22e.out]) <;> omega)).trans w34s)
  have h102 : Is ρ gw102 (w34) := Ya h75 h101 (by omega)
  have h103 : Is ρ gw103 (w37) := by
    have w37s := w37s.out
    exact Zmul h98 h61 (by omega) (((by simp only [Int.add_mul, Int.mul_add, Int.mul_assoc, Int.mul_comm, Int.mul_left_comm, Int.reduceMul, Int.reduceNeg, Int.mul_one, Int.one_mul] <;> omega : (u20 + x4 + (-1) * x6 + (-1) * z12 + (-40)) * (x1 + x2 + 800) = u20 * x1 + u20 * x2 + x1 * x4 + x2 * x4 + (-1) * (x1 * x6) + (-1) * (x2 * x6) + (-1) * (x1 * z12) + (-1) * (x2 * z12) + 800 * u20 + 800 * x4 + (-800) * x6 + (-800) * z12 + (-40) * x1 + (-40) * x2 + (-32000)).trans (by (try simp only [m24e.out, m25e.out, m21e.out, m22e.out, m35e.out, m36e.out, m26e.out, m27e.out]) <;> omega)).trans w37s)
  have h104 : Is ρ gw104 (w34 + (-1) * w37) := Ys h102 h103 (by omega)
  have h105 : Is ρ gw105 (w34 + (-1) * w37) := Ys h104 h83 (by omega)
  have h106 : Is ρ gw106 (w34 + (-1) * w37) := Ys h105 h88 (by omega)
  have h107 : Is ρ gw107 ((-1) * z8 + 1) := Ya h25 (Zc 1) (by omega)
  have h108 : Is ρ gw108 (w38) := by
    have w38s := w38s.out
    exact Zmul h8 h107 (by omega) (((by simp only [Int.add_mul, Int.mul_add, Int.mul_assoc, Int.mul_comm, Int.mul_left_comm, Int.reduceMul, Int.reduceNeg, Int.mul_one, Int.one_mul] <;> omega : (r4 + 1) * ((-1) * z8 + 1) = (-1) * (r4 * z8) + 1 * r4 + (-1) * z8 + 1).trans (by (try simp only [m10e.out]) <;> omega)).trans w38s)
  have h109 : Is ρ gw109 ((-1) * w38) := Ys (Zc 0) h108 (by omega)
  have h114 : Is ρ gw114 (z39) := by
    have z39s := z39s.out
    exact Zru h109 (by omega) (by omega) (by omega) (by omega)
  have h115 : Is ρ gw115 ((-1) * z39) := Ys (Zc 0) h114 (by omega)
  have h116 : Is ρ gw116 ((-1) * x4 + z39 + 9995040) := Ys h14 h115 (by omega)
  have h117 : Is ρ gw117 ((-1) * x4 + z39 + 9995040) := Zmn h116 h116 (by omega)
  have h118 : Is ρ gw118 (w40) := by
    have w40s := w40s.out
    exact Zmul h10 h107 (by omega) (((by simp only [Int.add_mul, Int.mul_add, Int.mul_assoc, Int.mul_comm, Int.mul_left_comm, Int.reduceMul, Int.reduceNeg, Int.mul_one, Int.one_mul] <;> omega : (r6 + 10) * ((-1) * z8 + 1) = (-1) * (r6 * z8) + 1 * r6 + (-10) * z8 + 10).trans (by (try simp only [m9e.out]) <;> omega)).trans w40s)
  have h123 : Is ρ gw123 (z41) := by
    have z41s := z41s.out
    exact Zru h118 (by omega) (by omega) (by omega) (by omega)
  have h124 : Is ρ gw124 ((-1) * r2 + (-1) * x4 + (-1) * z41 + 9995040) := Ys h13 h123 (by omega)
  have h125 : Is ρ gw125 ((-1) * r2 + (-1) * x4 + (-1) * z39 + (-1) * z41 + 9995040) := Ya h124 h115 (by omega)
  have h126 : Is ρ gw126 ((-1) * r2 + u42 + (-1) * x4 + (-1) * z39 + (-1) * z41 + 9995040) := by
    have u42s := u42s.out
    exact Zmx h13 h125 (by omega)
  have h127 : Is ρ gw127 ((-1) * z41) := Ys (Zc 0) h123 (by omega)
  have h128 : Is ρ gw128 ((-1) * x4 + z39 + z41 + 9995040) := Ys h117 h127 (by omega)
  have h129 : Is ρ gw129 ((-1) * u42 + (-1) * x4 + z39 + z41 + 9995040) := by
    have u42s := u42s.out
    exact Zmn h14 h128 (by omega)
  have h130 : Is ρ gw130 ((-1) * r2 + u42 + (-1) * x4 + (-1) * z39 + (-2) * z41 + 9995040) := Ya h126 h127 (by omega)
  have h131 : Is ρ gw131 ((-1) * r2 + u42 + u43 + (-1) * x4 + (-1) * z39 + (-2) * z41 + 9995040) := by
    have u43s := u43s.out
    exact Zmx h124 h130 (by omega)
  have h132 : Is ρ gw132 (r2 + (-1) * u42 + (-1) * u43 + x4 + z39 + 2 * z41 + 4960) := Ys (Zc 10000000) h131 (by omega)
  have h133 : Is ρ gw133 (x4 + (-1) * z39 + 4960) := Ys (Zc 10000000) h117 (by omega)
  have h134 : Is ρ gw134 (u44 + x4 + (-1) * z39 + 4960) := by
    have u44s := u44s.out
    exact Zmx h132 h133 (by omega)
  have h135 : Is ρ gw135 (u44 + x4 + (-1) * z39 + (-40)) := Ys h134 (Zc 5000) (by omega)
  have h136 : Is ρ gw136 (w49) := by
    have w49s := w49s.out
    exact Zmul h135 h61 (by omega) (((by simp only [Int.add_mul, Int.mul_add, Int.mul_assoc, Int.mul_comm, Int.mul_left_comm, Int.reduceMul, Int.reduceNeg, Int.mul_one, Int.one_mul] <;> omega : (u44 + x4 + (-1) * z39 + (-40)) * (x1 + x2 + 800) = u44 * x1 + u44 * x2 + x1 * x4 + x2 * x4 + (-1) * (x1 * z39) + (-1) * (x2 * z39) + 800 * u44 + 800 * x4 + (-800) * z39 + (-40) * x1 + (-40) * x2 + (-32000)).trans (by (try simp only [m45e.out, m46e.out, m21e.out, m22e.out, m47e.out, m48e.out]) <;> omega)).trans w49s)
  have h137 : Is ρ gw137 (w23 + (-1) * w49) := Ys h77 h136 (by omega)
  have h138 : Is ρ gw138 (w23 + (-1) * w49) := Ys h137 h83 (by omega)
  have h139 : Is ρ gw139 (w23 + (-1) * w49) := Ys h138 h88 (by omega)
  have h140 : Is ρ gw140 (u44 + x4 + (-1) * x6 + (-1) * z39 + (-40)) := Ys h135 h97 (by omega)
  have h141 : Is ρ gw141 (w50) := by
    have w50s := w50s.out
    exact Zmul h140 h61 (by omega) (((by simp only [Int.add_mul, Int.mul_add, Int.mul_assoc, Int.mul_comm, Int.mul_left_comm, Int.reduceMul, Int.reduceNeg, Int.mul_one, Int.one_mul] <;> omega : (u44 + x4 + (-1) * x6 + (-1) * z39 + (-40)) * (x1 + x2 + 800) = u44 * x1 + u44 * x2 + x1 * x4 + x2 * x4 + (-1) * (x1 * x6) + (-1) * (x2 * x6) + (-1) * (x1 * z39) + (-1) * (x2 * z39) + 800 * u44 + 800 * x4 + (-800) * x6 + (-800) * z39 + (-40) * x1 + (-40) * x2 + (-32000)).trans (by (try simp only [m45e.out, m46e.out, m21e.out, m22e.out, m35e.out, m36e.out, m47e.out, m48e.out]) <;> omega)).trans w50s)
  have h142 : Is ρ gw142 (w34 + (-1) * w50) := Ys h102 h141 (by omega)
  have h143 : Is ρ gw143 (w34 + (-1) * w50) := Ys h142 h83 (by omega)
  have h144 : Is ρ gw144 (w34 + (-1) * w50) := Ys h143 h88 (by omega)
  exact ⟨h0, h1, h2, h5, h8, h10, h13, h14, h16, h25, h26, h35, h36, h43, h45, h48, h50, h52, h53, h55, h57, h58, h59, h62, h63, h67, h70, h73, h89, h91, h96, h98, h100, h106, h107, h116, h117, h124, h126, h129, h131, h135, h139, h140, h144⟩
theorem gw_d0 {z8 r6 v7 m9 : Int} (b_r6 : 0 ≤ r6 ∧ r6 ≤ 49) (b_v7 : -40000 ≤ v7 ∧ v7 ≤ -21000) (z8s : v7 ≤ m9 + 10 * z8 ∧ m9 + 10 * z8 ≤ v7 + (r6 + 10) - 1) (m9f2 : (49) * z8 + (0) * r6 - (0) ≤ m9) : (1 : Int) ≤ (-1) * z8 := by omega
theorem gw_d1 {r2 u15 x4 z12 z14 v7 w11 w13 m10 z8 m9 r4 r6 : Int} (b_v7 : -40000 ≤ v7 ∧ v7 ≤ -21000) (u15s : max (z12 + z14) 0 = u15) (z12s : (-1) * w11 ≤ 1000 * z12 ∧ 1000 * z12 ≤ (-1) * w11 + 999) (z14s : w13 ≤ 1000 * z14 ∧ 1000 * z14 ≤ w13 + 999) (w11s : (-1) * m10 + (-1) * z8 = w11) (w13s : (-1) * m9 + (-10) * z8 = w13) (m10f2 : (8) * z8 + (0) * r4 - (0) ≤ m10) (z8s : v7 ≤ m9 + 10 * z8 ∧ m9 + 10 * z8 ≤ v7 + (r6 + 10) - 1) (m9f3 : m9 ≤ (49) * z8 + (-4000) * r6 - (-196000)) (m9f4 : m9 ≤ (0) * z8 + (0) * r6 - (0)) : ((-1) * r2 + u15 + (-1) * x4 + (-1) * z12 + (-1) * z14 + 9995040 : Int) ≤ (-1) * r2 + (-1) * x4 + 9995040 := by omega
theorem gw_d2 {x4 u15 z12 z14 v7 w11 w13 m10 z8 m9 r4 r6 : Int} (b_v7 : -40000 ≤ v7 ∧ v7 ≤ -21000) (u15s : max (z12 + z14) 0 = u15) (z12s : (-1) * w11 ≤ 1000 * z12 ∧ 1000 * z12 ≤ (-1) * w11 + 999) (z14s : w13 ≤ 1000 * z14 ∧ 1000 * z14 ≤ w13 + 999) (w11s : (-1) * m10 + (-1) * z8 = w11) (w13s : (-1) * m9 + (-10) * z8 = w13) (m10f2 : (8) * z8 + (0) * r4 - (0) ≤ m10) (z8s : v7 ≤ m9 + 10 * z8 ∧ m9 + 10 * z8 ≤ v7 + (r6 + 10) - 1) (m9f3 : m9 ≤ (49) * z8 + (-4000) * r6 - (-196000)) (m9f4 : m9 ≤ (0) * z8 + (0) * r6 - (0)) : ((-1) * x4 + 9995040 : Int) ≤ (-1) * u15 + (-1) * x4 + z12 + z14 + 9995040 := by omega
theorem gw_d3 {r2 u15 u16 x4 z12 z14 v7 w11 w13 m10 z8 m9 r4 r6 : Int} (b_v7 : -40000 ≤ v7 ∧ v7 ≤ -21000) (u15s : max (z12 + z14) 0 = u15) (u16s : max ((-1) * u15 + z12 + z14) 0 = u16) (z12s : (-1) * w11 ≤ 1000 * z12 ∧ 1000 * z12 ≤ (-1) * w11 + 999) (z14s : w13 ≤ 1000 * z14 ∧ 1000 * z14 ≤ w13 + 999) (w11s : (-1) * m10 + (-1) * z8 = w11) (w13s : (-1) * m9 + (-10) * z8 = w13) (m10f2 : (8) * z8 + (0) * r4 - (0) ≤ m10) (z8s : v7 ≤ m9 + 10 * z8 ∧ m9 + 10 * z8 ≤ v7 + (r6 + 10) - 1) (m9f3 : m9 ≤ (49) * z8 + (-4000) * r6 - (-196000)) (m9f4 : m9 ≤ (0) * z8 + (0) * r6 - (0)) : ((-1) * r2 + u15 + u16 + (-1) * x4 + (-1) * z12 + (-2) * z14 + 9995040 : Int) ≤ (-1) * r2 + (-1) * x4 + (-1) * z14 + 9995040 := by omega
theorem gw_d4 {r2 u15 x4 z12 z14 z41 w11 w13 w40 m10 z8 m9 r6 r4 : Int} (b_r2 : 0 ≤ r2 ∧ r2 ≤ 19) (rf3 : 0 ≤ r2 + z41 + (-41)) (u15s : max (z12 + z14) 0 = u15) (z12s : (-1) * w11 ≤ 1000 * z12 ∧ 1000 * z12 ≤ (-1) * w11 + 999) (z14s : w13 ≤ 1000 * z14 ∧ 1000 * z14 ≤ w13 + 999) (z41s : w40 ≤ 1000 * z41 ∧ 1000 * z41 ≤ w40 + 999) (w11s : (-1) * m10 + (-1) * z8 = w11) (w13s : (-1) * m9 + (-10) * z8 = w13) (w40s : (-1) * m9 + r6 + (-10) * z8 + 10 = w40) (m10f2 : (8) * z8 + (0) * r4 - (0) ≤ m10) (m9f3 : m9 ≤ (49) * z8 + (-4000) * r6 - (-196000)) (m9f4 : m9 ≤ (0) * z8 + (0) * r6 - (0)) : ((-1) * r2 + u15 + (-1) * x4 + (-1) * z12 + (-1) * z14 + 9995040 : Int) ≤ (-1) * u15 + (-1) * x4 + z12 + z14 + 9995040 := by omega
theorem gw_d5 {r2 u15 u16 x4 z12 z14 v7 z41 w11 w13 w40 m10 z8 m9 r6 r4 : Int} (b_r2 : 0 ≤ r2 ∧ r2 ≤ 19) (b_v7 : -40000 ≤ v7 ∧ v7 ≤ -21000) (rf3 : 0 ≤ r2 + z41 + (-41)) (u15s : max (z12 + z14) 0 = u15) (u16s : max ((-1) * u15 + z12 + z14) 0 = u16) (z12s : (-1) * w11 ≤ 1000 * z12 ∧ 1000 * z12 ≤ (-1) * w11 + 999) (z14s : w13 ≤ 1000 * z14 ∧ 1000 * z14 ≤ w13 + 999) (z41s : w40 ≤ 1000 * z41 ∧ 1000 * z41 ≤ w40 + 999) (w11s : (-1) * m10 + (-1) * z8 = w11) (w13s : (-1) * m9 + (-10) * z8 = w13) (w40s : (-1) * m9 + r6 + (-10) * z8 + 10 = w40) (m10f2 : (8) * z8 + (0) * r4 - (0) ≤ m10) (z8s : v7 ≤ m9 + 10 * z8 ∧ m9 + 10 * z8 ≤ v7 + (r6 + 10) - 1) (m9f3 : m9 ≤ (49) * z8 + (-4000) * r6 - (-196000)) (m9f4 : m9 ≤ (0) * z8 + (0) * r6 - (0)) : ((-1) * r2 + u15 + u16 + (-1) * x4 + (-1) * z12 + (-2) * z14 + 9995040 : Int) ≤ (-1) * x4 + z12 + 9995040 := by omega
theorem gw_d6 {w23 w28 m21 m22 x4 m24 m25 m26 m27 u20 x1 x2 z12 : Int}  (w23s : m21 + m22 + 800 * x4 = w23) (w28s : m21 + m22 + m24 + m25 + (-1) * m26 + (-1) * m27 + 800 * u20 + (-40) * x1 + (-40) * x2 + 800 * x4 + (-800) * z12 + (-32000) = w28) (rf2_0 : 0 ≤ (-1) * m24 + m26 + 40 * x1) (rf2_1 : 0 ≤ (-1) * m25 + m27 + 40 * x2) (rf2 : 0 ≤ (-1) * u20 + z12 + 40) : (0 : Int) ≤ w23 + (-1) * w28 := by omega
theorem gw_d7 {w34 w37 r31 x6 m21 m22 m32 m33 x4 m24 m25 m26 m27 m35 m36 u20 x1 x2 z12 : Int} (b_r31 : 0 ≤ r31 ∧ r31 ≤ 29) (b_x6 : 0 ≤ x6 ∧ x6 ≤ 255) (w34s : m21 + m22 + m32 + m33 + 800 * r31 + 800 * x4 = w34) (w37s : m21 + m22 + m24 + m25 + (-1) * m26 + (-1) * m27 + (-1) * m35 + (-1) * m36 + 800 * u20 + (-40) * x1 + (-40) * x2 + 800 * x4 + (-800) * x6 + (-800) * z12 + (-32000) = w37) (m32f1 : (0) * x1 + (0) * r31 - (0) ≤ m32) (m33f1 : (0) * x2 + (0) * r31 - (0) ≤ m33) (rf2_0 : 0 ≤ (-1) * m24 + m26 + 40 * x1) (rf2_1 : 0 ≤ (-1) * m25 + m27 + 40 * x2) (m35f1 : (0) * x6 + (0) * x1 - (0) ≤ m35) (m36f1 : (0) * x6 + (0) * x2 - (0) ≤ m36) (rf2 : 0 ≤ (-1) * u20 + z12 + 40) : (0 : Int) ≤ w34 + (-1) * w37 := by omega
theorem gw_d8 {r2 u42 x4 z39 z41 r4 r6 w38 w40 m10 z8 m9 : Int} (b_r2 : 0 ≤ r2 ∧ r2 ≤ 19) (b_r4 : 0 ≤ r4 ∧ r4 ≤ 8) (b_r6 : 0 ≤ r6 ∧ r6 ≤ 49) (rf3 : 0 ≤ r2 + z41 + (-41)) (u42s : max (z39 + z41) 0 = u42) (z39s : (-1) * w38 ≤ 1000 * z39 ∧ 1000 * z39 ≤ (-1) * w38 + 999) (z41s : w40 ≤ 1000 * z41 ∧ 1000 * z41 ≤ w40 + 999) (w38s : (-1) * m10 + r4 + (-1) * z8 + 1 = w38) (w40s : (-1) * m9 + r6 + (-10) * z8 + 10 = w40) (m10f2 : (8) * z8 + (0) * r4 - (0) ≤ m10) (m9f4 : m9 ≤ (0) * z8 + (0) * r6 - (0)) : ((-1) * r2 + u42 + (-1) * x4 + (-1) * z39 + (-1) * z41 + 9995040 : Int) ≤ (-1) * r2 + (-1) * x4 + 9995040 := by omega
theorem gw_d9 {x4 u42 z39 z41 r2 r4 r6 w38 w40 m10 z8 m9 : Int} (b_r2 : 0 ≤ r2 ∧ r2 ≤ 19) (b_r4 : 0 ≤ r4 ∧ r4 ≤ 8) (b_r6 : 0 ≤ r6 ∧ r6 ≤ 49) (u42s : max (z39 + z41) 0 = u42) (z39s : (-1) * w38 ≤ 1000 * z39 ∧ 1000 * z39 ≤ (-1) * w38 + 999) (z41s : w40 ≤ 1000 * z41 ∧ 1000 * z41 ≤ w40 + 999) (rf3 : 0 ≤ r2 + z41 + (-41)) (w38s : (-1) * m10 + r4 + (-1) * z8 + 1 = w38) (w40s : (-1) * m9 + r6 + (-10) * z8 + 10 = w40) (m10f2 : (8) * z8 + (0) * r4 - (0) ≤ m10) (m9f4 : m9 ≤ (0) * z8 + (0) * r6 - (0)) : ((-1) * x4 + 9995040 : Int) ≤ (-1) * u42 + (-1) * x4 + z39 + z41 + 9995040 := by omega
theorem gw_d10 {r2 u42 u43 x4 z39 z41 r6 z14 u44 w40 w13 m9 z8 : Int} (b_r6 : 0 ≤ r6 ∧ r6 ≤ 49) (b_z39 : -36 ≤ z39 ∧ z39 ≤ 0) (rf1 : 0 ≤ (-1) * r2 + (-1) * z14 + 40) (rf5 : 0 ≤ u44 + (-1) * z39 + (-41)) (z41s : w40 ≤ 1000 * z41 ∧ 1000 * z41 ≤ w40 + 999) (z14s : w13 ≤ 1000 * z14 ∧ 1000 * z14 ≤ w13 + 999) (u44s : max (r2 + (-1) * u42 + (-1) * u43 + 2 * z39 + 2 * z41) 0 = u44) (w40s : (-1) * m9 + r6 + (-10) * z8 + 10 = w40) (w13s : (-1) * m9 + (-10) * z8 = w13) : ((-1) * r2 + u42 + u43 + (-1) * x4 + (-1) * z39 + (-2) * z41 + 9995040 : Int) ≤ (-1) * r2 + (-1) * x4 + (-1) * z41 + 9995040 := by omega
theorem gw_d11 {r2 u42 x4 z39 z41 r4 r6 w38 w40 m10 z8 m9 : Int} (b_r2 : 0 ≤ r2 ∧ r2 ≤ 19) (b_r4 : 0 ≤ r4 ∧ r4 ≤ 8) (b_r6 : 0 ≤ r6 ∧ r6 ≤ 49) (b_z39 : -36 ≤ z39 ∧ z39 ≤ 0) (rf3 : 0 ≤ r2 + z41 + (-41)) (u42s : max (z39 + z41) 0 = u42) (z39s : (-1) * w38 ≤ 1000 * z39 ∧ 1000 * z39 ≤ (-1) * w38 + 999) (z41s : w40 ≤ 1000 * z41 ∧ 1000 * z41 ≤ w40 + 999) (w38s : (-1) * m10 + r4 + (-1) * z8 + 1 = w38) (w40s : (-1) * m9 + r6 + (-10) * z8 + 10 = w40) (m10f2 : (8) * z8 + (0) * r4 - (0) ≤ m10) (m9f4 : m9 ≤ (0) * z8 + (0) * r6 - (0)) : ((-1) * r2 + u42 + (-1) * x4 + (-1) * z39 + (-1) * z41 + 9995040 : Int) ≤ (-1) * u42 + (-1) * x4 + z39 + z41 + 9995040 := by omega
theorem gw_d12 {r2 u42 u43 x4 z39 z41 u44 : Int} (b_z39 : -36 ≤ z39 ∧ z39 ≤ 0) (rf5 : 0 ≤ u44 + (-1) * z39 + (-41)) (u44s : max (r2 + (-1) * u42 + (-1) * u43 + 2 * z39 + 2 * z41) 0 = u44) : ((-1) * r2 + u42 + u43 + (-1) * x4 + (-1) * z39 + (-2) * z41 + 9995040 : Int) ≤ (-1) * x4 + z39 + 9995040 := by omega
theorem gw_d13 {w23 w49 m21 m22 x4 m45 m46 m47 m48 u44 x1 x2 z39 : Int}  (w23s : m21 + m22 + 800 * x4 = w23) (w49s : m21 + m22 + m45 + m46 + (-1) * m47 + (-1) * m48 + 800 * u44 + (-40) * x1 + (-40) * x2 + 800 * x4 + (-800) * z39 + (-32000) = w49) (m45f1 : (0) * x1 + (0) * u44 - (0) ≤ m45) (rf5_0 : 0 ≤ m45 + (-1) * m47 + (-41) * x1) (m46f1 : (0) * x2 + (0) * u44 - (0) ≤ m46) (rf5_1 : 0 ≤ m46 + (-1) * m48 + (-41) * x2) (m47f4 : m47 ≤ (0) * z39 + (0) * x1 - (0)) (m48f4 : m48 ≤ (0) * z39 + (0) * x2 - (0)) (rf5 : 0 ≤ u44 + (-1) * z39 + (-41)) : ¬ ((0 : Int) ≤ w23 + (-1) * w49) := by omega
theorem gw_t14 {x4 : Int} (b_x4 : 0 ≤ x4 ∧ x4 ≤ 255) : (0 : Int) ≤ x4 + 4960 := by omega
theorem gw_t15 {x4 r2 : Int} (b_x4 : 0 ≤ x4 ∧ x4 ≤ 255) (b_r2 : 0 ≤ r2 ∧ r2 ≤ 19) : (x4 + 4960 : Int) ≤ r2 + x4 + 4960 := by omega
theorem gw_t16 {r2 x4 : Int} (b_r2 : 0 ≤ r2 ∧ r2 ≤ 19) (b_x4 : 0 ≤ x4 ∧ x4 ≤ 255) : (r2 + x4 + 4960 : Int) ≤ 10000000 := by omega
theorem gw_t17 {r4 : Int} (b_r4 : 0 ≤ r4 ∧ r4 ≤ 8) : (0 : Int) ≤ r4 + 1 := by omega
theorem gw_t18 {r4 r6 : Int} (b_r4 : 0 ≤ r4 ∧ r4 ≤ 8) (b_r6 : 0 ≤ r6 ∧ r6 ≤ 49) : (r4 + 1 : Int) ≤ r6 + 10 := by omega
theorem gw_t19 {r6 : Int} (b_r6 : 0 ≤ r6 ∧ r6 ≤ 49) : (r6 + 10 : Int) ≤ 10000 := by omega
theorem gw_t20 {x4 : Int} (b_x4 : 0 ≤ x4 ∧ x4 ≤ 255) : (0 : Int) ≤ x4 + 5000 := by omega
theorem gw_t21 {x4 : Int} (b_x4 : 0 ≤ x4 ∧ x4 ≤ 255) : (x4 + 5000 : Int) ≤ 10000000 := by omega
theorem gw_t22 {r2 x4 : Int} (b_r2 : 0 ≤ r2 ∧ r2 ≤ 19) (b_x4 : 0 ≤ x4 ∧ x4 ≤ 255) : ((-1) * r2 + (-1) * x4 + 9995040 : Int) ≤ (-1) * x4 + 9995040 := by omega
theorem gw_t23 {r2 : Int} (b_r2 : 0 ≤ r2 ∧ r2 ≤ 19) : (0 : Int) ≤ (-1) * r2 + 40 := by omega
theorem gw_t24 {r6 : Int} (b_r6 : 0 ≤ r6 ∧ r6 ≤ 49) : ¬ ((r6 + 10 : Int) = 0) := by omega
theorem gw_t25 {z8 : Int} (b_z8 : -4000 ≤ z8 ∧ z8 ≤ 0) : ¬ ((100000 : Int) ≤ (-1) * z8) := by omega
theorem gw_t26 {z8 : Int} (b_z8 : -4000 ≤ z8 ∧ z8 ≤ 0) : ((-1) * z8 : Int) ≤ 100000 := by omega
theorem gw_t27 {x4 z12 : Int} (b_x4 : 0 ≤ x4 ∧ x4 ≤ 255) (b_z12 : -36 ≤ z12 ∧ z12 ≤ 0) : ((-1) * x4 + z12 + 9995040 : Int) ≤ (-1) * x4 + z12 + 9995040 := by omega
theorem gw_t28 {x0 : Int} (b_x0 : 0 ≤ x0 ∧ x0 ≤ 255) : (100 : Int) ≤ 4 * x0 + 9000 := by omega
theorem gw_t29 {x0 : Int} (b_x0 : 0 ≤ x0 ∧ x0 ≤ 255) : (4 * x0 + 9000 : Int) ≤ 200000 := by omega
theorem gw_t30 {x1 : Int} (b_x1 : 0 ≤ x1 ∧ x1 ≤ 255) : (0 : Int) ≤ x1 + 400 := by omega
theorem gw_t31 {x1 : Int} (b_x1 : 0 ≤ x1 ∧ x1 ≤ 255) : (x1 + 400 : Int) ≤ 3000 := by omega
theorem gw_t32 {x2 : Int} (b_x2 : 0 ≤ x2 ∧ x2 ≤ 255) : (0 : Int) ≤ x2 + 400 := by omega
theorem gw_t33 {x2 : Int} (b_x2 : 0 ≤ x2 ∧ x2 ≤ 255) : (x2 + 400 : Int) ≤ 3000 := by omega
theorem gw_t34 {x3 : Int} (b_x3 : 0 ≤ x3 ∧ x3 ≤ 255) : (0 : Int) ≤ 5 * x3 + 1 := by omega
theorem gw_t35 {x3 : Int} (b_x3 : 0 ≤ x3 ∧ x3 ≤ 255) : (5 * x3 + 1 : Int) ≤ 200000 := by omega
theorem gw_t36 {x3 : Int} (b_x3 : 0 ≤ x3 ∧ x3 ≤ 255) : (0 : Int) ≤ 5 * x3 := by omega
theorem gw_t37 {x3 : Int} (b_x3 : 0 ≤ x3 ∧ x3 ≤ 255) : (5 * x3 : Int) ≤ 200000 := by omega
theorem gw_t38 {x3 : Int} (b_x3 : 0 ≤ x3 ∧ x3 ≤ 255) : (1 : Int) ≤ 10 * x3 + 1 := by omega
theorem gw_t39 {w19 x0 : Int} (b_w19 : 800 ≤ w19 ∧ w19 ≤ 1671560) (b_x0 : 0 ≤ x0 ∧ x0 ≤ 255) : (w19 : Int) ≤ 2000 * x0 + 4500000 := by omega
theorem gw_t40 {u20 x4 z12 : Int} (b_u20 : 0 ≤ u20 ∧ u20 ≤ 491) (b_x4 : 0 ≤ x4 ∧ x4 ≤ 255) (b_z12 : -36 ≤ z12 ∧ z12 ≤ 0) : ((-10000) : Int) ≤ u20 + x4 + (-1) * z12 + (-40) := by omega
theorem gw_t41 {u20 x4 z12 : Int} (b_u20 : 0 ≤ u20 ∧ u20 ≤ 491) (b_x4 : 0 ≤ x4 ∧ x4 ≤ 255) (b_z12 : -36 ≤ z12 ∧ z12 ≤ 0) : (u20 + x4 + (-1) * z12 + (-40) : Int) ≤ 10000 := by omega
theorem gw_t42 {x4 : Int} (b_x4 : 0 ≤ x4 ∧ x4 ≤ 255) : ((-10000) : Int) ≤ x4 := by omega
theorem gw_t43 {x4 : Int} (b_x4 : 0 ≤ x4 ∧ x4 ≤ 255) : (x4 : Int) ≤ 10000 := by omega
theorem gw_t44 {x7 : Int} (b_x7 : 0 ≤ x7 ∧ x7 ≤ 255) : ((-200000) : Int) ≤ 8 * x7 + (-1200) := by omega
theorem gw_t45 {x7 x8 : Int} (b_x7 : 0 ≤ x7 ∧ x7 ≤ 255) (b_x8 : 0 ≤ x8 ∧ x8 ≤ 255) : (8 * x7 + (-1200) : Int) ≤ 8 * x7 + 8 * x8 + (-1200) := by omega
theorem gw_t46 {x7 x8 : Int} (b_x7 : 0 ≤ x7 ∧ x7 ≤ 255) (b_x8 : 0 ≤ x8 ∧ x8 ≤ 255) : (8 * x7 + 8 * x8 + (-1200) : Int) ≤ 200000 := by omega
theorem gw_t47  : (0 : Int) = 0 := by omega
theorem gw_t48 {r30 : Int} (b_r30 : 0 ≤ r30 ∧ r30 ≤ 29) : ¬ ((r30 + 1 : Int) = 0) := by omega
theorem gw_t49 {u20 x4 x6 z12 : Int} (b_u20 : 0 ≤ u20 ∧ u20 ≤ 491) (b_x4 : 0 ≤ x4 ∧ x4 ≤ 255) (b_x6 : 0 ≤ x6 ∧ x6 ≤ 255) (b_z12 : -36 ≤ z12 ∧ z12 ≤ 0) : ((-10000) : Int) ≤ u20 + x4 + (-1) * x6 + (-1) * z12 + (-40) := by omega
theorem gw_t50 {u20 x4 x6 z12 : Int} (b_u20 : 0 ≤ u20 ∧ u20 ≤ 491) (b_x4 : 0 ≤ x4 ∧ x4 ≤ 255) (b_x6 : 0 ≤ x6 ∧ x6 ≤ 255) (b_z12 : -36 ≤ z12 ∧ z12 ≤ 0) : (u20 + x4 + (-1) * x6 + (-1) * z12 + (-40) : Int) ≤ 10000 := by omega
theorem gw_t51 {r31 x4 : Int} (b_r31 : 0 ≤ r31 ∧ r31 ≤ 29) (b_x4 : 0 ≤ x4 ∧ x4 ≤ 255) : ((-10000) : Int) ≤ r31 + x4 := by omega
theorem gw_t52 {r31 x4 : Int} (b_r31 : 0 ≤ r31 ∧ r31 ≤ 29) (b_x4 : 0 ≤ x4 ∧ x4 ≤ 255) : (r31 + x4 : Int) ≤ 10000 := by omega
theorem gw_t53 {z8 : Int} (b_z8 : -4000 ≤ z8 ∧ z8 ≤ 0) : (1 : Int) ≤ (-1) * z8 + 1 := by omega
theorem gw_t54 {z8 : Int} (b_z8 : -4000 ≤ z8 ∧ z8 ≤ 0) : ((-1) * z8 + 1 : Int) ≤ 100000 := by omega
theorem gw_t55 {x4 z39 : Int} (b_x4 : 0 ≤ x4 ∧ x4 ≤ 255) (b_z39 : -36 ≤ z39 ∧ z39 ≤ 0) : ((-1) * x4 + z39 + 9995040 : Int) ≤ (-1) * x4 + z39 + 9995040 := by omega
theorem gw_t56 {u44 x4 z39 : Int} (b_u44 : 0 ≤ u44 ∧ u44 ≤ 493) (b_x4 : 0 ≤ x4 ∧ x4 ≤ 255) (b_z39 : -36 ≤ z39 ∧ z39 ≤ 0) : ((-10000) : Int) ≤ u44 + x4 + (-1) * z39 + (-40) := by omega
theorem gw_t57 {u44 x4 z39 : Int} (b_u44 : 0 ≤ u44 ∧ u44 ≤ 493) (b_x4 : 0 ≤ x4 ∧ x4 ≤ 255) (b_z39 : -36 ≤ z39 ∧ z39 ≤ 0) : (u44 + x4 + (-1) * z39 + (-40) : Int) ≤ 10000 := by omega
theorem gw_t58 {u44 x4 x6 z39 : Int} (b_u44 : 0 ≤ u44 ∧ u44 ≤ 493) (b_x4 : 0 ≤ x4 ∧ x4 ≤ 255) (b_x6 : 0 ≤ x6 ∧ x6 ≤ 255) (b_z39 : -36 ≤ z39 ∧ z39 ≤ 0) : ((-10000) : Int) ≤ u44 + x4 + (-1) * x6 + (-1) * z39 + (-40) := by omega
theorem gw_t59 {u44 x4 x6 z39 : Int} (b_u44 : 0 ≤ u44 ∧ u44 ≤ 493) (b_x4 : 0 ≤ x4 ∧ x4 ≤ 255) (b_x6 : 0 ≤ x6 ∧ x6 ≤ 255) (b_z39 : -36 ≤ z39 ∧ z39 ≤ 0) : (u44 + x4 + (-1) * x6 + (-1) * z39 + (-40) : Int) ≤ 10000 := by omega
end Go.Proofs.Ytmekghjgkkjgoaa.Cx
