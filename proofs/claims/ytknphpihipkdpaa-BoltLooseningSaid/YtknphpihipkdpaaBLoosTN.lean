/- BoltLoosening: the tests of the law and their arithmetic. Made by tools/cxroot.py. -/
import Derived.Test.YtknphpihipkdpaaBLoosT
import Derived.Test.YtknphpihipkdpaaCxRoot
set_option linter.unusedSimpArgs false
set_option linter.unusedVariables false
set_option maxRecDepth 100000
set_option maxHeartbeats 4000000
namespace Go.Proofs.Ytknphpihipkdpaa.Cx
open Go Go.RowKit

theorem bl_aq1 {x4 : Int} (b_x4 : 0 ≤ x4 ∧ x4 ≤ 255) : ∃ q r : Int, Hd ((x4) / 60 = q) ∧ Hd ((x4) % 60 = r) ∧ (x4 = 60 * q + r) ∧ (0 ≤ q ∧ q ≤ 4) ∧ (0 ≤ r ∧ r ≤ 59) := ⟨_, _, ⟨rfl⟩, ⟨rfl⟩, by omega, by omega, by omega⟩
theorem bl_aq3 {x6 : Int} (b_x6 : 0 ≤ x6 ∧ x6 ≤ 255) : ∃ q r : Int, Hd ((x6) / 60 = q) ∧ Hd ((x6) % 60 = r) ∧ (x6 = 60 * q + r) ∧ (0 ≤ q ∧ q ≤ 4) ∧ (0 ≤ r ∧ r ≤ 59) := ⟨_, _, ⟨rfl⟩, ⟨rfl⟩, by omega, by omega, by omega⟩
theorem bl_aq5 {x10 : Int} (b_x10 : 0 ≤ x10 ∧ x10 ≤ 255) : ∃ q r : Int, Hd ((x10) / 20 = q) ∧ Hd ((x10) % 20 = r) ∧ (x10 = 20 * q + r) ∧ (0 ≤ q ∧ q ≤ 12) ∧ (0 ≤ r ∧ r ≤ 19) := ⟨_, _, ⟨rfl⟩, ⟨rfl⟩, by omega, by omega, by omega⟩
theorem bl_am7 {r2 x18 : Int} (b_r2 : 0 ≤ r2 ∧ r2 ≤ 59) (b_x18 : 0 ≤ x18 ∧ x18 ≤ 255) : ∃ m : Int, Hd (r2 * x18 = m) ∧ ((0) * x18 + (0) * r2 - (0) ≤ m) ∧ ((59) * x18 + (255) * r2 - (15045) ≤ m) ∧ (m ≤ (59) * x18 + (0) * r2 - (0)) ∧ (m ≤ (0) * x18 + (255) * r2 - (0)) ∧ (0 ≤ m ∧ m ≤ 15045) := by
  obtain ⟨h1, h2, h3, h4⟩ := mcc (x := r2) (y := x18) b_r2.1 b_r2.2 b_x18.1 b_x18.2
  refine ⟨_, ⟨rfl⟩, ?_, ?_, ?_, ?_, ?_, ?_⟩ <;> omega
theorem bl_aw8 {m7 : Int} (b_m7 : 0 ≤ m7 ∧ m7 ≤ 15045) : ∃ w : Int, (m7 = w) ∧ (0 ≤ w ∧ w ≤ 15045) := ⟨_, rfl, by omega, by omega⟩
theorem bl_aq9 {w8 : Int} (b_w8 : 0 ≤ w8 ∧ w8 ≤ 15045) : ∃ q r : Int, Hd ((w8) / 255 = q) ∧ Hd ((w8) % 255 = r) ∧ (w8 = 255 * q + r) ∧ (0 ≤ q ∧ q ≤ 59) ∧ (0 ≤ r ∧ r ≤ 254) := ⟨_, _, ⟨rfl⟩, ⟨rfl⟩, by omega, by omega, by omega⟩
theorem bl_am11 {r4 x19 : Int} (b_r4 : 0 ≤ r4 ∧ r4 ≤ 59) (b_x19 : 0 ≤ x19 ∧ x19 ≤ 255) : ∃ m : Int, Hd (r4 * x19 = m) ∧ ((0) * x19 + (0) * r4 - (0) ≤ m) ∧ ((59) * x19 + (255) * r4 - (15045) ≤ m) ∧ (m ≤ (59) * x19 + (0) * r4 - (0)) ∧ (m ≤ (0) * x19 + (255) * r4 - (0)) ∧ (0 ≤ m ∧ m ≤ 15045) := by
  obtain ⟨h1, h2, h3, h4⟩ := mcc (x := r4) (y := x19) b_r4.1 b_r4.2 b_x19.1 b_x19.2
  refine ⟨_, ⟨rfl⟩, ?_, ?_, ?_, ?_, ?_, ?_⟩ <;> omega
theorem bl_aw12 {m11 : Int} (b_m11 : 0 ≤ m11 ∧ m11 ≤ 15045) : ∃ w : Int, (m11 = w) ∧ (0 ≤ w ∧ w ≤ 15045) := ⟨_, rfl, by omega, by omega⟩
theorem bl_aq13 {w12 : Int} (b_w12 : 0 ≤ w12 ∧ w12 ≤ 15045) : ∃ q r : Int, Hd ((w12) / 255 = q) ∧ Hd ((w12) % 255 = r) ∧ (w12 = 255 * q + r) ∧ (0 ≤ q ∧ q ≤ 59) ∧ (0 ≤ r ∧ r ≤ 254) := ⟨_, _, ⟨rfl⟩, ⟨rfl⟩, by omega, by omega, by omega⟩
theorem bl_am15 {x1 x3 : Int} (b_x1 : 0 ≤ x1 ∧ x1 ≤ 255) (b_x3 : 0 ≤ x3 ∧ x3 ≤ 255) : ∃ m : Int, Hd (x1 * x3 = m) ∧ ((0) * x3 + (0) * x1 - (0) ≤ m) ∧ ((255) * x3 + (255) * x1 - (65025) ≤ m) ∧ (m ≤ (255) * x3 + (0) * x1 - (0)) ∧ (m ≤ (0) * x3 + (255) * x1 - (0)) ∧ (0 ≤ m ∧ m ≤ 65025) := by
  obtain ⟨h1, h2, h3, h4⟩ := mcc (x := x1) (y := x3) b_x1.1 b_x1.2 b_x3.1 b_x3.2
  refine ⟨_, ⟨rfl⟩, ?_, ?_, ?_, ?_, ?_, ?_⟩ <;> omega
theorem bl_aw16 {m15 : Int} (b_m15 : 0 ≤ m15 ∧ m15 ≤ 65025) : ∃ w : Int, (20 * m15 = w) ∧ (0 ≤ w ∧ w ≤ 1300500) := ⟨_, rfl, by omega, by omega⟩
theorem bl_am17 {x2 x5 : Int} (b_x2 : 0 ≤ x2 ∧ x2 ≤ 255) (b_x5 : 0 ≤ x5 ∧ x5 ≤ 255) : ∃ m : Int, Hd (x2 * x5 = m) ∧ ((0) * x5 + (0) * x2 - (0) ≤ m) ∧ ((255) * x5 + (255) * x2 - (65025) ≤ m) ∧ (m ≤ (255) * x5 + (0) * x2 - (0)) ∧ (m ≤ (0) * x5 + (255) * x2 - (0)) ∧ (0 ≤ m ∧ m ≤ 65025) := by
  obtain ⟨h1, h2, h3, h4⟩ := mcc (x := x2) (y := x5) b_x2.1 b_x2.2 b_x5.1 b_x5.2
  refine ⟨_, ⟨rfl⟩, ?_, ?_, ?_, ?_, ?_, ?_⟩ <;> omega
theorem bl_aw18 {m17 : Int} (b_m17 : 0 ≤ m17 ∧ m17 ≤ 65025) : ∃ w : Int, (30 * m17 = w) ∧ (0 ≤ w ∧ w ≤ 1950750) := ⟨_, rfl, by omega, by omega⟩
theorem bl_au19 {w16 w18 x0 : Int} (b_w16 : 0 ≤ w16 ∧ w16 ≤ 1300500) (b_w18 : 0 ≤ w18 ∧ w18 ≤ 1950750) (b_x0 : 0 ≤ x0 ∧ x0 ≤ 255) : ∃ m : Int, (max (w16 + w18 + (-10000) * x0 + (-1000)) 0 = m) ∧ (0 ≤ m ∧ m ≤ 3250250) := ⟨_, rfl, by omega, by omega⟩
theorem bl_am20 {u19 x26 : Int} (b_u19 : 0 ≤ u19 ∧ u19 ≤ 3250250) (b_x26 : 0 ≤ x26 ∧ x26 ≤ 65535) : ∃ m : Int, Hd (u19 * x26 = m) ∧ ((0) * x26 + (0) * u19 - (0) ≤ m) ∧ ((3250250) * x26 + (65535) * u19 - (213005133750) ≤ m) ∧ (m ≤ (3250250) * x26 + (0) * u19 - (0)) ∧ (m ≤ (0) * x26 + (65535) * u19 - (0)) ∧ (0 ≤ m ∧ m ≤ 213005133750) := by
  obtain ⟨h1, h2, h3, h4⟩ := mcc (x := u19) (y := x26) b_u19.1 b_u19.2 b_x26.1 b_x26.2
  refine ⟨_, ⟨rfl⟩, ?_, ?_, ?_, ?_, ?_, ?_⟩ <;> omega
theorem bl_aw21 {m20 : Int} (b_m20 : 0 ≤ m20 ∧ m20 ≤ 213005133750) : ∃ w : Int, (m20 = w) ∧ (0 ≤ w ∧ w ≤ 213005133750) := ⟨_, rfl, by omega, by omega⟩
theorem bl_az22 {w21 : Int} (b_w21 : 0 ≤ w21 ∧ w21 ≤ 213005133750) : ∃ z : Int, (w21 ≤ 1000 * z ∧ 1000 * z ≤ w21 + 999) ∧ (0 ≤ z ∧ z ≤ 213005134) := by
  obtain ⟨z, h1, h2⟩ := ru_ex (w21) 1000 (by omega)
  exact ⟨z, ⟨by omega, by omega⟩, by omega, by omega⟩
theorem bl_am23 {r2 x1 : Int} (b_r2 : 0 ≤ r2 ∧ r2 ≤ 59) (b_x1 : 0 ≤ x1 ∧ x1 ≤ 255) : ∃ m : Int, Hd (r2 * x1 = m) ∧ ((0) * x1 + (0) * r2 - (0) ≤ m) ∧ ((59) * x1 + (255) * r2 - (15045) ≤ m) ∧ (m ≤ (59) * x1 + (0) * r2 - (0)) ∧ (m ≤ (0) * x1 + (255) * r2 - (0)) ∧ (0 ≤ m ∧ m ≤ 15045) := by
  obtain ⟨h1, h2, h3, h4⟩ := mcc (x := r2) (y := x1) b_r2.1 b_r2.2 b_x1.1 b_x1.2
  refine ⟨_, ⟨rfl⟩, ?_, ?_, ?_, ?_, ?_, ?_⟩ <;> omega
theorem bl_aw24 {m15 m23 : Int} (b_m15 : 0 ≤ m15 ∧ m15 ≤ 65025) (b_m23 : 0 ≤ m23 ∧ m23 ≤ 15045) : ∃ w : Int, (20 * m15 + 20 * m23 = w) ∧ (0 ≤ w ∧ w ≤ 1601400) := ⟨_, rfl, by omega, by omega⟩
theorem bl_am25 {r4 x2 : Int} (b_r4 : 0 ≤ r4 ∧ r4 ≤ 59) (b_x2 : 0 ≤ x2 ∧ x2 ≤ 255) : ∃ m : Int, Hd (r4 * x2 = m) ∧ ((0) * x2 + (0) * r4 - (0) ≤ m) ∧ ((59) * x2 + (255) * r4 - (15045) ≤ m) ∧ (m ≤ (59) * x2 + (0) * r4 - (0)) ∧ (m ≤ (0) * x2 + (255) * r4 - (0)) ∧ (0 ≤ m ∧ m ≤ 15045) := by
  obtain ⟨h1, h2, h3, h4⟩ := mcc (x := r4) (y := x2) b_r4.1 b_r4.2 b_x2.1 b_x2.2
  refine ⟨_, ⟨rfl⟩, ?_, ?_, ?_, ?_, ?_, ?_⟩ <;> omega
theorem bl_aw26 {m17 m25 : Int} (b_m17 : 0 ≤ m17 ∧ m17 ≤ 65025) (b_m25 : 0 ≤ m25 ∧ m25 ≤ 15045) : ∃ w : Int, (30 * m17 + 30 * m25 = w) ∧ (0 ≤ w ∧ w ≤ 2402100) := ⟨_, rfl, by omega, by omega⟩
theorem bl_au27 {w24 w26 x0 : Int} (b_w24 : 0 ≤ w24 ∧ w24 ≤ 1601400) (b_w26 : 0 ≤ w26 ∧ w26 ≤ 2402100) (b_x0 : 0 ≤ x0 ∧ x0 ≤ 255) : ∃ m : Int, (max (w24 + w26 + (-10000) * x0 + (-1000)) 0 = m) ∧ (0 ≤ m ∧ m ≤ 4002500) := ⟨_, rfl, by omega, by omega⟩
theorem bl_am28 {u27 x26 : Int} (b_u27 : 0 ≤ u27 ∧ u27 ≤ 4002500) (b_x26 : 0 ≤ x26 ∧ x26 ≤ 65535) : ∃ m : Int, Hd (u27 * x26 = m) ∧ ((0) * x26 + (0) * u27 - (0) ≤ m) ∧ ((4002500) * x26 + (65535) * u27 - (262303837500) ≤ m) ∧ (m ≤ (4002500) * x26 + (0) * u27 - (0)) ∧ (m ≤ (0) * x26 + (65535) * u27 - (0)) ∧ (0 ≤ m ∧ m ≤ 262303837500) := by
  obtain ⟨h1, h2, h3, h4⟩ := mcc (x := u27) (y := x26) b_u27.1 b_u27.2 b_x26.1 b_x26.2
  refine ⟨_, ⟨rfl⟩, ?_, ?_, ?_, ?_, ?_, ?_⟩ <;> omega
theorem bl_aw29 {m28 : Int} (b_m28 : 0 ≤ m28 ∧ m28 ≤ 262303837500) : ∃ w : Int, (m28 = w) ∧ (0 ≤ w ∧ w ≤ 262303837500) := ⟨_, rfl, by omega, by omega⟩
theorem bl_az30 {w29 : Int} (b_w29 : 0 ≤ w29 ∧ w29 ≤ 262303837500) : ∃ z : Int, (w29 ≤ 1000 * z ∧ 1000 * z ≤ w29 + 999) ∧ (0 ≤ z ∧ z ≤ 262303838) := by
  obtain ⟨z, h1, h2⟩ := ru_ex (w29) 1000 (by omega)
  exact ⟨z, ⟨by omega, by omega⟩, by omega, by omega⟩
theorem bl_am31 {q9 x1 : Int} (b_q9 : 0 ≤ q9 ∧ q9 ≤ 59) (b_x1 : 0 ≤ x1 ∧ x1 ≤ 255) : ∃ m : Int, Hd (q9 * x1 = m) ∧ ((0) * x1 + (0) * q9 - (0) ≤ m) ∧ ((59) * x1 + (255) * q9 - (15045) ≤ m) ∧ (m ≤ (59) * x1 + (0) * q9 - (0)) ∧ (m ≤ (0) * x1 + (255) * q9 - (0)) ∧ (0 ≤ m ∧ m ≤ 15045) := by
  obtain ⟨h1, h2, h3, h4⟩ := mcc (x := q9) (y := x1) b_q9.1 b_q9.2 b_x1.1 b_x1.2
  refine ⟨_, ⟨rfl⟩, ?_, ?_, ?_, ?_, ?_, ?_⟩ <;> omega
theorem bl_aw32 {m15 m31 : Int} (b_m15 : 0 ≤ m15 ∧ m15 ≤ 65025) (b_m31 : 0 ≤ m31 ∧ m31 ≤ 15045) : ∃ w : Int, (20 * m15 + 20 * m31 = w) ∧ (0 ≤ w ∧ w ≤ 1601400) := ⟨_, rfl, by omega, by omega⟩
theorem bl_am33 {q13 x2 : Int} (b_q13 : 0 ≤ q13 ∧ q13 ≤ 59) (b_x2 : 0 ≤ x2 ∧ x2 ≤ 255) : ∃ m : Int, Hd (q13 * x2 = m) ∧ ((0) * x2 + (0) * q13 - (0) ≤ m) ∧ ((59) * x2 + (255) * q13 - (15045) ≤ m) ∧ (m ≤ (59) * x2 + (0) * q13 - (0)) ∧ (m ≤ (0) * x2 + (255) * q13 - (0)) ∧ (0 ≤ m ∧ m ≤ 15045) := by
  obtain ⟨h1, h2, h3, h4⟩ := mcc (x := q13) (y := x2) b_q13.1 b_q13.2 b_x2.1 b_x2.2
  refine ⟨_, ⟨rfl⟩, ?_, ?_, ?_, ?_, ?_, ?_⟩ <;> omega
theorem bl_aw34 {m17 m33 : Int} (b_m17 : 0 ≤ m17 ∧ m17 ≤ 65025) (b_m33 : 0 ≤ m33 ∧ m33 ≤ 15045) : ∃ w : Int, (30 * m17 + 30 * m33 = w) ∧ (0 ≤ w ∧ w ≤ 2402100) := ⟨_, rfl, by omega, by omega⟩
theorem bl_au35 {w32 w34 x0 : Int} (b_w32 : 0 ≤ w32 ∧ w32 ≤ 1601400) (b_w34 : 0 ≤ w34 ∧ w34 ≤ 2402100) (b_x0 : 0 ≤ x0 ∧ x0 ≤ 255) : ∃ m : Int, (max (w32 + w34 + (-10000) * x0 + (-1000)) 0 = m) ∧ (0 ≤ m ∧ m ≤ 4002500) := ⟨_, rfl, by omega, by omega⟩
theorem bl_am36 {u35 x26 : Int} (b_u35 : 0 ≤ u35 ∧ u35 ≤ 4002500) (b_x26 : 0 ≤ x26 ∧ x26 ≤ 65535) : ∃ m : Int, Hd (u35 * x26 = m) ∧ ((0) * x26 + (0) * u35 - (0) ≤ m) ∧ ((4002500) * x26 + (65535) * u35 - (262303837500) ≤ m) ∧ (m ≤ (4002500) * x26 + (0) * u35 - (0)) ∧ (m ≤ (0) * x26 + (65535) * u35 - (0)) ∧ (0 ≤ m ∧ m ≤ 262303837500) := by
  obtain ⟨h1, h2, h3, h4⟩ := mcc (x := u35) (y := x26) b_u35.1 b_u35.2 b_x26.1 b_x26.2
  refine ⟨_, ⟨rfl⟩, ?_, ?_, ?_, ?_, ?_, ?_⟩ <;> omega
theorem bl_aw37 {m36 : Int} (b_m36 : 0 ≤ m36 ∧ m36 ≤ 262303837500) : ∃ w : Int, (m36 = w) ∧ (0 ≤ w ∧ w ≤ 262303837500) := ⟨_, rfl, by omega, by omega⟩
theorem bl_az38 {w37 : Int} (b_w37 : 0 ≤ w37 ∧ w37 ≤ 262303837500) : ∃ z : Int, (w37 ≤ 1000 * z ∧ 1000 * z ≤ w37 + 999) ∧ (0 ≤ z ∧ z ≤ 262303838) := by
  obtain ⟨z, h1, h2⟩ := ru_ex (w37) 1000 (by omega)
  exact ⟨z, ⟨by omega, by omega⟩, by omega, by omega⟩
theorem bl_am39 {w32 x26 : Int} (b_w32 : 0 ≤ w32 ∧ w32 ≤ 1601400) (b_x26 : 0 ≤ x26 ∧ x26 ≤ 65535) : ∃ m : Int, Hd (w32 * x26 = m) ∧ ((0) * x26 + (0) * w32 - (0) ≤ m) ∧ ((1601400) * x26 + (65535) * w32 - (104947749000) ≤ m) ∧ (m ≤ (1601400) * x26 + (0) * w32 - (0)) ∧ (m ≤ (0) * x26 + (65535) * w32 - (0)) ∧ (0 ≤ m ∧ m ≤ 104947749000) := by
  obtain ⟨h1, h2, h3, h4⟩ := mcc (x := w32) (y := x26) b_w32.1 b_w32.2 b_x26.1 b_x26.2
  refine ⟨_, ⟨rfl⟩, ?_, ?_, ?_, ?_, ?_, ?_⟩ <;> omega
theorem bl_am40 {w34 x26 : Int} (b_w34 : 0 ≤ w34 ∧ w34 ≤ 2402100) (b_x26 : 0 ≤ x26 ∧ x26 ≤ 65535) : ∃ m : Int, Hd (w34 * x26 = m) ∧ ((0) * x26 + (0) * w34 - (0) ≤ m) ∧ ((2402100) * x26 + (65535) * w34 - (157421623500) ≤ m) ∧ (m ≤ (2402100) * x26 + (0) * w34 - (0)) ∧ (m ≤ (0) * x26 + (65535) * w34 - (0)) ∧ (0 ≤ m ∧ m ≤ 157421623500) := by
  obtain ⟨h1, h2, h3, h4⟩ := mcc (x := w34) (y := x26) b_w34.1 b_w34.2 b_x26.1 b_x26.2
  refine ⟨_, ⟨rfl⟩, ?_, ?_, ?_, ?_, ?_, ?_⟩ <;> omega
theorem bl_am41 {x0 x26 : Int} (b_x0 : 0 ≤ x0 ∧ x0 ≤ 255) (b_x26 : 0 ≤ x26 ∧ x26 ≤ 65535) : ∃ m : Int, Hd (x0 * x26 = m) ∧ ((0) * x26 + (0) * x0 - (0) ≤ m) ∧ ((255) * x26 + (65535) * x0 - (16711425) ≤ m) ∧ (m ≤ (255) * x26 + (0) * x0 - (0)) ∧ (m ≤ (0) * x26 + (65535) * x0 - (0)) ∧ (0 ≤ m ∧ m ≤ 16711425) := by
  obtain ⟨h1, h2, h3, h4⟩ := mcc (x := x0) (y := x26) b_x0.1 b_x0.2 b_x26.1 b_x26.2
  refine ⟨_, ⟨rfl⟩, ?_, ?_, ?_, ?_, ?_, ?_⟩ <;> omega
theorem bl_aw42 {m39 m40 m41 x26 : Int} (b_m39 : 0 ≤ m39 ∧ m39 ≤ 104947749000) (b_m40 : 0 ≤ m40 ∧ m40 ≤ 157421623500) (b_m41 : 0 ≤ m41 ∧ m41 ≤ 16711425) (b_x26 : 0 ≤ x26 ∧ x26 ≤ 65535) : ∃ w : Int, (m39 + m40 + 10000 * m41 + 1000 * x26 = w) ∧ (0 ≤ w ∧ w ≤ 429549157500) := ⟨_, rfl, by omega, by omega⟩
theorem bl_az43 {w42 : Int} (b_w42 : 0 ≤ w42 ∧ w42 ≤ 429549157500) : ∃ z : Int, (w42 ≤ 1000 * z ∧ 1000 * z ≤ w42 + 999) ∧ (0 ≤ z ∧ z ≤ 429549158) := by
  obtain ⟨z, h1, h2⟩ := ru_ex (w42) 1000 (by omega)
  exact ⟨z, ⟨by omega, by omega⟩, by omega, by omega⟩
theorem bl_rf1 {q9 r2 r10 w8 m7 x18 : Int} (b_r10 : 0 ≤ r10 ∧ r10 ≤ 254) (q9s : w8 = 255 * q9 + r10) (w8s : m7 = w8) (m7f4 : m7 ≤ (0) * x18 + (255) * r2 - (0)) : 0 ≤ (-1) * q9 + r2 := by omega
theorem bl_rf1_0 {q9 r2 m23 m31 x1 : Int} (b_x1 : 0 ≤ x1 ∧ x1 ≤ 255) (rf1 : 0 ≤ (-1) * q9 + r2) (m31e : Hd (q9 * x1 = m31)) (m23e : Hd (r2 * x1 = m23)) : 0 ≤ m23 + (-1) * m31 := by
  have e1 : ((-1) * q9 + r2) * (x1) = m23 + (-1) * m31 := ((by simp only [Int.add_mul, Int.mul_add, Int.mul_assoc, Int.mul_comm, Int.mul_left_comm, Int.reduceMul, Int.reduceNeg, Int.mul_one, Int.one_mul] <;> omega : ((-1) * q9 + r2) * (x1) = (-1) * (q9 * x1) + r2 * x1).trans (by (try simp only [m31e.out, m23e.out]) <;> omega))
  exact e1 ▸ Int.mul_nonneg (by omega) (by omega)
theorem bl_rf2 {q13 r4 r14 w12 m11 x19 : Int} (b_r14 : 0 ≤ r14 ∧ r14 ≤ 254) (q13s : w12 = 255 * q13 + r14) (w12s : m11 = w12) (m11f4 : m11 ≤ (0) * x19 + (255) * r4 - (0)) : 0 ≤ (-1) * q13 + r4 := by omega
theorem bl_rf2_0 {q13 r4 m25 m33 x2 : Int} (b_x2 : 0 ≤ x2 ∧ x2 ≤ 255) (rf2 : 0 ≤ (-1) * q13 + r4) (m33e : Hd (q13 * x2 = m33)) (m25e : Hd (r4 * x2 = m25)) : 0 ≤ m25 + (-1) * m33 := by
  have e1 : ((-1) * q13 + r4) * (x2) = m25 + (-1) * m33 := ((by simp only [Int.add_mul, Int.mul_add, Int.mul_assoc, Int.mul_comm, Int.mul_left_comm, Int.reduceMul, Int.reduceNeg, Int.mul_one, Int.one_mul] <;> omega : ((-1) * q13 + r4) * (x2) = (-1) * (q13 * x2) + r4 * x2).trans (by (try simp only [m33e.out, m25e.out]) <;> omega))
  exact e1 ▸ Int.mul_nonneg (by omega) (by omega)
theorem bl_rf3 {u27 u35 w24 w26 x0 w32 w34 m15 m23 m17 m25 m31 m33 : Int}  (u27s : max (w24 + w26 + (-10000) * x0 + (-1000)) 0 = u27) (u35s : max (w32 + w34 + (-10000) * x0 + (-1000)) 0 = u35) (w24s : 20 * m15 + 20 * m23 = w24) (w26s : 30 * m17 + 30 * m25 = w26) (w32s : 20 * m15 + 20 * m31 = w32) (w34s : 30 * m17 + 30 * m33 = w34) (rf1_0 : 0 ≤ m23 + (-1) * m31) (rf2_0 : 0 ≤ m25 + (-1) * m33) : 0 ≤ u27 + (-1) * u35 := by omega
theorem bl_rf3_0 {u27 u35 m28 m36 x26 : Int} (b_x26 : 0 ≤ x26 ∧ x26 ≤ 65535) (rf3 : 0 ≤ u27 + (-1) * u35) (m28e : Hd (u27 * x26 = m28)) (m36e : Hd (u35 * x26 = m36)) : 0 ≤ m28 + (-1) * m36 := by
  have e1 : (u27 + (-1) * u35) * (x26) = m28 + (-1) * m36 := ((by simp only [Int.add_mul, Int.mul_add, Int.mul_assoc, Int.mul_comm, Int.mul_left_comm, Int.reduceMul, Int.reduceNeg, Int.mul_one, Int.one_mul] <;> omega : (u27 + (-1) * u35) * (x26) = u27 * x26 + (-1) * (u35 * x26)).trans (by (try simp only [m28e.out, m36e.out]) <;> omega))
  exact e1 ▸ Int.mul_nonneg (by omega) (by omega)
theorem bl_rf4 {u19 u35 w16 w18 x0 w32 w34 m15 m17 m31 m33 x1 q9 x2 q13 : Int}  (u19s : max (w16 + w18 + (-10000) * x0 + (-1000)) 0 = u19) (u35s : max (w32 + w34 + (-10000) * x0 + (-1000)) 0 = u35) (w16s : 20 * m15 = w16) (w18s : 30 * m17 = w18) (w32s : 20 * m15 + 20 * m31 = w32) (w34s : 30 * m17 + 30 * m33 = w34) (m31f1 : (0) * x1 + (0) * q9 - (0) ≤ m31) (m33f1 : (0) * x2 + (0) * q13 - (0) ≤ m33) : 0 ≤ (-1) * u19 + u35 := by omega
theorem bl_rf4_0 {u19 u35 m20 m36 x26 : Int} (b_x26 : 0 ≤ x26 ∧ x26 ≤ 65535) (rf4 : 0 ≤ (-1) * u19 + u35) (m20e : Hd (u19 * x26 = m20)) (m36e : Hd (u35 * x26 = m36)) : 0 ≤ (-1) * m20 + m36 := by
  have e1 : ((-1) * u19 + u35) * (x26) = (-1) * m20 + m36 := ((by simp only [Int.add_mul, Int.mul_add, Int.mul_assoc, Int.mul_comm, Int.mul_left_comm, Int.reduceMul, Int.reduceNeg, Int.mul_one, Int.one_mul] <;> omega : ((-1) * u19 + u35) * (x26) = (-1) * (u19 * x26) + u35 * x26).trans (by (try simp only [m20e.out, m36e.out]) <;> omega))
  exact e1 ▸ Int.mul_nonneg (by omega) (by omega)
theorem bl_rf5 {u35 w32 w34 x0 : Int} (b_w32 : 0 ≤ w32 ∧ w32 ≤ 1601400) (b_w34 : 0 ≤ w34 ∧ w34 ≤ 2402100) (b_x0 : 0 ≤ x0 ∧ x0 ≤ 255) (u35s : max (w32 + w34 + (-10000) * x0 + (-1000)) 0 = u35) : 0 ≤ (-1) * u35 + w32 + w34 + 10000 * x0 := by omega
theorem bl_rf5_0 {u35 w32 w34 x0 m36 m39 m40 m41 x26 : Int} (b_x26 : 0 ≤ x26 ∧ x26 ≤ 65535) (rf5 : 0 ≤ (-1) * u35 + w32 + w34 + 10000 * x0) (m36e : Hd (u35 * x26 = m36)) (m39e : Hd (w32 * x26 = m39)) (m40e : Hd (w34 * x26 = m40)) (m41e : Hd (x0 * x26 = m41)) : 0 ≤ (-1) * m36 + m39 + m40 + 10000 * m41 := by
  have e1 : ((-1) * u35 + w32 + w34 + 10000 * x0) * (x26) = (-1) * m36 + m39 + m40 + 10000 * m41 := ((by simp only [Int.add_mul, Int.mul_add, Int.mul_assoc, Int.mul_comm, Int.mul_left_comm, Int.reduceMul, Int.reduceNeg, Int.mul_one, Int.one_mul] <;> omega : ((-1) * u35 + w32 + w34 + 10000 * x0) * (x26) = (-1) * (u35 * x26) + w32 * x26 + w34 * x26 + 10000 * (x0 * x26)).trans (by (try simp only [m36e.out, m39e.out, m40e.out, m41e.out]) <;> omega))
  exact e1 ▸ Int.mul_nonneg (by omega) (by omega)
theorem bl_rf6 {u19 w16 w18 x0 m20 x26 : Int} (b_x26 : 0 ≤ x26 ∧ x26 ≤ 65535) (u19s : max (w16 + w18 + (-10000) * x0 + (-1000)) 0 = u19) (m20e : Hd (u19 * x26 = m20)) : 0 ≤ w16 + w18 + (-10000) * x0 + (-1001) → 0 ≤ m20 + (-1) * x26 := fun hc => by
  have k : 0 ≤ u19 + (-1) := by omega
  have e1 : (u19 + (-1)) * (x26) = m20 + (-1) * x26 := ((by simp only [Int.add_mul, Int.mul_add, Int.mul_assoc, Int.mul_comm, Int.mul_left_comm, Int.reduceMul, Int.reduceNeg, Int.mul_one, Int.one_mul] <;> omega : (u19 + (-1)) * (x26) = u19 * x26 + (-1) * x26).trans (by (try simp only [m20e.out]) <;> omega))
  exact e1 ▸ Int.mul_nonneg k (by omega)
set_option maxHeartbeats 40000000 in
theorem bl_g0 {ρ : Env} {x0 x1 x2 x3 x4 r2 x5 x6 r4 x7 x8 x9 x10 r6 x11 x12 x26 x18 w8 m7 q9 x19 w12 m11 q13 w16 m15 w18 m17 u19 w21 m20 z22 w24 m23 w26 m25 u27 w29 m28 z30 w32 m31 w34 m33 u35 w37 m36 z38 w42 m39 m40 m41 z43 : Int} (e0 : Is ρ (.v 0) x0) (e1 : Is ρ (.v 1) x1) (e2 : Is ρ (.v 2) x2) (e3 : Is ρ (.v 3) x3) (e4 : Is ρ (.v 4) x4) (r2e : Hd ((x4) % 60 = r2)) (e5 : Is ρ (.v 5) x5) (e6 : Is ρ (.v 6) x6) (r4e : Hd ((x6) % 60 = r4)) (e7 : Is ρ (.v 7) x7) (e8 : Is ρ (.v 8) x8) (e9 : Is ρ (.v 9) x9) (e10 : Is ρ (.v 10) x10) (r6e : Hd ((x10) % 20 = r6)) (e11 : Is ρ (.v 11) x11) (e12 : Is ρ (.v 12) x12) (e26 : Is ρ (.v 26) x26) (e18 : Is ρ (.v 18) x18) (m7e : Hd (r2 * x18 = m7)) (w8s : Hd (m7 = w8)) (q9e : Hd ((w8) / 255 = q9)) (e19 : Is ρ (.v 19) x19) (m11e : Hd (r4 * x19 = m11)) (w12s : Hd (m11 = w12)) (q13e : Hd ((w12) / 255 = q13)) (m15e : Hd (x1 * x3 = m15)) (w16s : Hd (20 * m15 = w16)) (m17e : Hd (x2 * x5 = m17)) (w18s : Hd (30 * m17 = w18)) (u19s : Hd (max (w16 + w18 + (-10000) * x0 + (-1000)) 0 = u19)) (m20e : Hd (u19 * x26 = m20)) (w21s : Hd (m20 = w21)) (z22s : Hd (w21 ≤ 1000 * z22 ∧ 1000 * z22 ≤ w21 + 999)) (m23e : Hd (r2 * x1 = m23)) (w24s : Hd (20 * m15 + 20 * m23 = w24)) (m25e : Hd (r4 * x2 = m25)) (w26s : Hd (30 * m17 + 30 * m25 = w26)) (u27s : Hd (max (w24 + w26 + (-10000) * x0 + (-1000)) 0 = u27)) (m28e : Hd (u27 * x26 = m28)) (w29s : Hd (m28 = w29)) (z30s : Hd (w29 ≤ 1000 * z30 ∧ 1000 * z30 ≤ w29 + 999)) (m31e : Hd (q9 * x1 = m31)) (w32s : Hd (20 * m15 + 20 * m31 = w32)) (m33e : Hd (q13 * x2 = m33)) (w34s : Hd (30 * m17 + 30 * m33 = w34)) (u35s : Hd (max (w32 + w34 + (-10000) * x0 + (-1000)) 0 = u35)) (m36e : Hd (u35 * x26 = m36)) (w37s : Hd (m36 = w37)) (z38s : Hd (w37 ≤ 1000 * z38 ∧ 1000 * z38 ≤ w37 + 999)) (m39e : Hd (w32 * x26 = m39)) (m40e : Hd (w34 * x26 = m40)) (m41e : Hd (x0 * x26 = m41)) (w42s : Hd (m39 + m40 + 10000 * m41 + 1000 * x26 = w42)) (z43s : Hd (w42 ≤ 1000 * z43 ∧ 1000 * z43 ≤ w42 + 999)) (b_x0 : 0 ≤ x0 ∧ x0 ≤ 255) (b_x1 : 0 ≤ x1 ∧ x1 ≤ 255) (b_x2 : 0 ≤ x2 ∧ x2 ≤ 255) (b_x3 : 0 ≤ x3 ∧ x3 ≤ 255) (b_x4 : 0 ≤ x4 ∧ x4 ≤ 255) (b_r2 : 0 ≤ r2 ∧ r2 ≤ 59) (b_x5 : 0 ≤ x5 ∧ x5 ≤ 255) (b_x6 : 0 ≤ x6 ∧ x6 ≤ 255) (b_r4 : 0 ≤ r4 ∧ r4 ≤ 59) (b_x7 : 0 ≤ x7 ∧ x7 ≤ 255) (b_x8 : 0 ≤ x8 ∧ x8 ≤ 255) (b_x9 : 0 ≤ x9 ∧ x9 ≤ 255) (b_x10 : 0 ≤ x10 ∧ x10 ≤ 255) (b_r6 : 0 ≤ r6 ∧ r6 ≤ 19) (b_x11 : 0 ≤ x11 ∧ x11 ≤ 255) (b_x12 : 0 ≤ x12 ∧ x12 ≤ 255) (b_x26 : 0 ≤ x26 ∧ x26 ≤ 65535) (b_x18 : 0 ≤ x18 ∧ x18 ≤ 255) (b_w8 : 0 ≤ w8 ∧ w8 ≤ 15045) (b_m7 : 0 ≤ m7 ∧ m7 ≤ 15045) (b_q9 : 0 ≤ q9 ∧ q9 ≤ 59) (b_x19 : 0 ≤ x19 ∧ x19 ≤ 255) (b_w12 : 0 ≤ w12 ∧ w12 ≤ 15045) (b_m11 : 0 ≤ m11 ∧ m11 ≤ 15045) (b_q13 : 0 ≤ q13 ∧ q13 ≤ 59) (b_w16 : 0 ≤ w16 ∧ w16 ≤ 1300500) (b_m15 : 0 ≤ m15 ∧ m15 ≤ 65025) (b_w18 : 0 ≤ w18 ∧ w18 ≤ 1950750) (b_m17 : 0 ≤ m17 ∧ m17 ≤ 65025) (b_u19 : 0 ≤ u19 ∧ u19 ≤ 3250250) (b_w21 : 0 ≤ w21 ∧ w21 ≤ 213005133750) (b_m20 : 0 ≤ m20 ∧ m20 ≤ 213005133750) (b_z22 : 0 ≤ z22 ∧ z22 ≤ 213005134) (b_w24 : 0 ≤ w24 ∧ w24 ≤ 1601400) (b_m23 : 0 ≤ m23 ∧ m23 ≤ 15045) (b_w26 : 0 ≤ w26 ∧ w26 ≤ 2402100) (b_m25 : 0 ≤ m25 ∧ m25 ≤ 15045) (b_u27 : 0 ≤ u27 ∧ u27 ≤ 4002500) (b_w29 : 0 ≤ w29 ∧ w29 ≤ 262303837500) (b_m28 : 0 ≤ m28 ∧ m28 ≤ 262303837500) (b_z30 : 0 ≤ z30 ∧ z30 ≤ 262303838) (b_w32 : 0 ≤ w32 ∧ w32 ≤ 1601400) (b_m31 : 0 ≤ m31 ∧ m31 ≤ 15045) (b_w34 : 0 ≤ w34 ∧ w34 ≤ 2402100) (b_m33 : 0 ≤ m33 ∧ m33 ≤ 15045) (b_u35 : 0 ≤ u35 ∧ u35 ≤ 4002500) (b_w37 : 0 ≤ w37 ∧ w37 ≤ 262303837500) (b_m36 : 0 ≤ m36 ∧ m36 ≤ 262303837500) (b_z38 : 0 ≤ z38 ∧ z38 ≤ 262303838) (b_w42 : 0 ≤ w42 ∧ w42 ≤ 429549157500) (b_m39 : 0 ≤ m39 ∧ m39 ≤ 104947749000) (b_m40 : 0 ≤ m40 ∧ m40 ≤ 157421623500) (b_m41 : 0 ≤ m41 ∧ m41 ≤ 16711425) (b_z43 : 0 ≤ z43 ∧ z43 ≤ 429549158) : Is ρ bl2 (10 * x0 + 1) ∧ Is ρ bl4 (20 * x1) ∧ Is ρ bl6 (30 * x2) ∧ Is ρ bl7 (x3) ∧ Is ρ bl10 (r2 + x3) ∧ Is ρ bl11 (x5) ∧ Is ρ bl14 (r4 + x5) ∧ Is ρ bl17 (100 * x7 + 1) ∧ Is ρ bl20 (100 * x7 + 10 * x8 + 1) ∧ Is ρ bl22 (x9 + 1) ∧ Is ρ bl25 (r6 + x9 + 1) ∧ Is ρ bl28 (100 * x11 + 1) ∧ Is ρ bl31 (100 * x11 + 10 * x12 + 1) ∧ Is ρ bl32 (x26) ∧ Is ρ bl37 (q9 + x3) ∧ Is ρ bl42 (q13 + x5) ∧ Is ρ bl48 (w16 + w18 + (-10000) * x0 + (-1000)) ∧ Is ρ bl55 (z22) ∧ Is ρ bl59 (w24 + w26 + (-10000) * x0 + (-1000)) ∧ Is ρ bl66 (z30) ∧ Is ρ bl77 (z38) ∧ Is ρ bl84 (z43) := by
  have h0 : Is ρ bl0 (x0) := Zconv e0 (by omega)
  have h1 : Is ρ bl1 (10 * x0) := Ym (Zc 10) h0 (by omega)
  have h2 : Is ρ bl2 (10 * x0 + 1) := Ya (Zc 1) h1 (by omega)
  have h3 : Is ρ bl3 (x1) := Zconv e1 (by omega)
  have h4 : Is ρ bl4 (20 * x1) := Ym (Zc 20) h3 (by omega)
  have h5 : Is ρ bl5 (x2) := Zconv e2 (by omega)
  have h6 : Is ρ bl6 (30 * x2) := Ym (Zc 30) h5 (by omega)
  have h7 : Is ρ bl7 (x3) := Zconv e3 (by omega)
  have h8 : Is ρ bl8 (x4) := Zconv e4 (by omega)
  have h9 : Is ρ bl9 (r2) := Zremp h8 (Zc 60) (by omega) r2e.out
  have h10 : Is ρ bl10 (r2 + x3) := Ya h7 h9 (by omega)
  have h11 : Is ρ bl11 (x5) := Zconv e5 (by omega)
  have h12 : Is ρ bl12 (x6) := Zconv e6 (by omega)
  have h13 : Is ρ bl13 (r4) := Zremp h12 (Zc 60) (by omega) r4e.out
  have h14 : Is ρ bl14 (r4 + x5) := Ya h11 h13 (by omega)
  have h15 : Is ρ bl15 (x7) := Zconv e7 (by omega)
  have h16 : Is ρ bl16 (100 * x7) := Ym (Zc 100) h15 (by omega)
  have h17 : Is ρ bl17 (100 * x7 + 1) := Ya (Zc 1) h16 (by omega)
  have h18 : Is ρ bl18 (x8) := Zconv e8 (by omega)
  have h19 : Is ρ bl19 (10 * x8) := Ym (Zc 10) h18 (by omega)
  have h20 : Is ρ bl20 (100 * x7 + 10 * x8 + 1) := Ya h17 h19 (by omega)
  have h21 : Is ρ bl21 (x9) := Zconv e9 (by omega)
  have h22 : Is ρ bl22 (x9 + 1) := Ya (Zc 1) h21 (by omega)
  have h23 : Is ρ bl23 (x10) := Zconv e10 (by omega)
  have h24 : Is ρ bl24 (r6) := Zremp h23 (Zc 20) (by omega) r6e.out
  have h25 : Is ρ bl25 (r6 + x9 + 1) := Ya h22 h24 (by omega)
  have h26 : Is ρ bl26 (x11) := Zconv e11 (by omega)
  have h27 : Is ρ bl27 (100 * x11) := Ym (Zc 100) h26 (by omega)
  have h28 : Is ρ bl28 (100 * x11 + 1) := Ya (Zc 1) h27 (by omega)
  have h29 : Is ρ bl29 (x12) := Zconv e12 (by omega)
  have h30 : Is ρ bl30 (10 * x12) := Ym (Zc 10) h29 (by omega)
  have h31 : Is ρ bl31 (100 * x11 + 10 * x12 + 1) := Ya h28 h30 (by omega)
  have h32 : Is ρ bl32 (x26) := Zconv e26 (by omega)
  have h33 : Is ρ bl33 (x18) := Zconv e18 (by omega)
  have h34 : Is ρ bl34 (r2) := Ys h10 h7 (by omega)
  have h35 : Is ρ bl35 (w8) := by
    have w8s := w8s.out
    exact Zmul h33 h34 (by omega) (((by simp only [Int.add_mul, Int.mul_add, Int.mul_assoc, Int.mul_comm, Int.mul_left_comm, Int.reduceMul, Int.reduceNeg, Int.mul_one, Int.one_mul] <;> omega : (x18) * (r2) = r2 * x18).trans (by (try simp only [m7e.out]) <;> omega)).trans w8s)
  have h36 : Is ρ bl36 (q9) := Zquop h35 (Zc 255) (by omega) (by omega) q9e.out
  have h37 : Is ρ bl37 (q9 + x3) := Ya h7 h36 (by omega)
  have h38 : Is ρ bl38 (x19) := Zconv e19 (by omega)
  have h39 : Is ρ bl39 (r4) := Ys h14 h11 (by omega)
  have h40 : Is ρ bl40 (w12) := by
    have w12s := w12s.out
    exact Zmul h38 h39 (by omega) (((by simp only [Int.add_mul, Int.mul_add, Int.mul_assoc, Int.mul_comm, Int.mul_left_comm, Int.reduceMul, Int.reduceNeg, Int.mul_one, Int.one_mul] <;> omega : (x19) * (r4) = r4 * x19).trans (by (try simp only [m11e.out]) <;> omega)).trans w12s)
  have h41 : Is ρ bl41 (q13) := Zquop h40 (Zc 255) (by omega) (by omega) q13e.out
  have h42 : Is ρ bl42 (q13 + x5) := Ya h11 h41 (by omega)
  have h43 : Is ρ bl43 (w16) := by
    have w16s := w16s.out
    exact Zmul h4 h7 (by omega) (((by simp only [Int.add_mul, Int.mul_add, Int.mul_assoc, Int.mul_comm, Int.mul_left_comm, Int.reduceMul, Int.reduceNeg, Int.mul_one, Int.one_mul] <;> omega : (20 * x1) * (x3) = 20 * (x1 * x3)).trans (by (try simp only [m15e.out]) <;> omega)).trans w16s)
  have h44 : Is ρ bl44 (w18) := by
    have w18s := w18s.out
    exact Zmul h6 h11 (by omega) (((by simp only [Int.add_mul, Int.mul_add, Int.mul_assoc, Int.mul_comm, Int.mul_left_comm, Int.reduceMul, Int.reduceNeg, Int.mul_one, Int.one_mul] <;> omega : (30 * x2) * (x5) = 30 * (x2 * x5)).trans (by (try simp only [m17e.out]) <;> omega)).trans w18s)
  have h45 : Is ρ bl45 (w16 + w18) := Ya h43 h44 (by omega)
  have h46 : Is ρ bl46 (10000 * x0 + 1000) := Ym (Zc 1000) h2 (by omega)
  have h47 : Is ρ bl47 ((-10000) * x0 + (-1000)) := Ys (Zc 0) h46 (by omega)
  have h48 : Is ρ bl48 (w16 + w18 + (-10000) * x0 + (-1000)) := Ya h45 h47 (by omega)
  have h49 : Is ρ bl49 (u19) := by
    have u19s := u19s.out
    exact Zmx h48 (Zc 0) (by omega)
  have h50 : Is ρ bl50 (w21) := by
    have w21s := w21s.out
    exact Zmul h32 h49 (by omega) (((by simp only [Int.add_mul, Int.mul_add, Int.mul_assoc, Int.mul_comm, Int.mul_left_comm, Int.reduceMul, Int.reduceNeg, Int.mul_one, Int.one_mul] <;> omega : (x26) * (u19) = u19 * x26).trans (by (try simp only [m20e.out]) <;> omega)).trans w21s)
  have h55 : Is ρ bl55 (z22) := by
    have z22s := z22s.out
    exact Zru h50 (by omega) (by omega) (by omega) (by omega)
  have h56 : Is ρ bl56 (w24) := by
    have w24s := w24s.out
    exact Zmul h4 h10 (by omega) (((by simp only [Int.add_mul, Int.mul_add, Int.mul_assoc, Int.mul_comm, Int.mul_left_comm, Int.reduceMul, Int.reduceNeg, Int.mul_one, Int.one_mul] <;> omega : (20 * x1) * (r2 + x3) = 20 * (r2 * x1) + 20 * (x1 * x3)).trans (by (try simp only [m23e.out, m15e.out]) <;> omega)).trans w24s)
  have h57 : Is ρ bl57 (w26) := by
    have w26s := w26s.out
    exact Zmul h6 h14 (by omega) (((by simp only [Int.add_mul, Int.mul_add, Int.mul_assoc, Int.mul_comm, Int.mul_left_comm, Int.reduceMul, Int.reduceNeg, Int.mul_one, Int.one_mul] <;> omega : (30 * x2) * (r4 + x5) = 30 * (r4 * x2) + 30 * (x2 * x5)).trans (by (try simp only [m25e.out, m17e.out]) <;> omega)).trans w26s)
  have h58 : Is ρ bl58 (w24 + w26) := Ya h56 h57 (by omega)
  have h59 : Is ρ bl59 (w24 + w26 + (-10000) * x0 + (-1000)) := Ya h58 h47 (by omega)
  have h60 : Is ρ bl60 (u27) := by
    have u27s := u27s.out
    exact Zmx h59 (Zc 0) (by omega)
  have h61 : Is ρ bl61 (w29) := by
    have w29s := w29s.out
    exact Zmul h32 h60 (by omega) (((by simp only [Int.add_mul, Int.mul_add, Int.mul_assoc, Int.mul_comm, Int.mul_left_comm, Int.reduceMul, Int.reduceNeg, Int.mul_one, Int.one_mul] <;> omega : (x26) * (u27) = u27 * x26).trans (by (try simp only [m28e.out]) <;> omega)).trans w29s)
  have h66 : Is ρ bl66 (z30) := by
    have z30s := z30s.out
    exact Zru h61 (by omega) (by omega) (by omega) (by omega)
  have h67 : Is ρ bl67 (w32) := by
    have w32s := w32s.out
    exact Zmul h4 h37 (by omega) (((by simp only [Int.add_mul, Int.mul_add, Int.mul_assoc, Int.mul_comm, Int.mul_left_comm, Int.reduceMul, Int.reduceNeg, Int.mul_one, Int.one_mul] <;> omega : (20 * x1) * (q9 + x3) = 20 * (q9 * x1) + 20 * (x1 * x3)).trans (by (try simp only [m31e.out, m15e.out]) <;> omega)).trans w32s)
  have h68 : Is ρ bl68 (w34) := by
    have w34s := w34s.out
    exact Zmul h6 h42 (by omega) (((by simp only [Int.add_mul, Int.mul_add, Int.mul_assoc, Int.mul_comm, Int.mul_left_comm, Int.reduceMul, Int.reduceNeg, Int.mul_one, Int.one_mul] <;> omega : (30 * x2) * (q13 + x5) = 30 * (q13 * x2) + 30 * (x2 * x5)).trans (by (try simp only [m33e.out, m17e.out]) <;> omega)).trans w34s)
  have h69 : Is ρ bl69 (w32 + w34) := Ya h67 h68 (by omega)
  have h70 : Is ρ bl70 (w32 + w34 + (-10000) * x0 + (-1000)) := Ya h69 h47 (by omega)
  have h71 : Is ρ bl71 (u35) := by
    have u35s := u35s.out
    exact Zmx h70 (Zc 0) (by omega)
  have h72 : Is ρ bl72 (w37) := by
    have w37s := w37s.out
    exact Zmul h32 h71 (by omega) (((by simp only [Int.add_mul, Int.mul_add, Int.mul_assoc, Int.mul_comm, Int.mul_left_comm, Int.reduceMul, Int.reduceNeg, Int.mul_one, Int.one_mul] <;> omega : (x26) * (u35) = u35 * x26).trans (by (try simp only [m36e.out]) <;> omega)).trans w37s)
  have h77 : Is ρ bl77 (z38) := by
    have z38s := z38s.out
    exact Zru h72 (by omega) (by omega) (by omega) (by omega)
  have h78 : Is ρ bl78 (w32 + w34 + 10000 * x0 + 1000) := Ya h46 h69 (by omega)
  have h79 : Is ρ bl79 (w42) := by
    have w42s := w42s.out
    exact Zmul h32 h78 (by omega) (((by simp only [Int.add_mul, Int.mul_add, Int.mul_assoc, Int.mul_comm, Int.mul_left_comm, Int.reduceMul, Int.reduceNeg, Int.mul_one, Int.one_mul] <;> omega : (x26) * (w32 + w34 + 10000 * x0 + 1000) = w32 * x26 + w34 * x26 + 10000 * (x0 * x26) + 1000 * x26).trans (by (try simp only [m39e.out, m40e.out, m41e.out]) <;> omega)).trans w42s)
  have h84 : Is ρ bl84 (z43) := by
    have z43s := z43s.out
    exact Zru h79 (by omega) (by omega) (by omega) (by omega)
  exact ⟨h2, h4, h6, h7, h10, h11, h14, h17, h20, h22, h25, h28, h31, h32, h37, h42, h48, h55, h59, h66, h77, h84⟩
theorem bl_d0 {z22 z30 w21 w29 m20 m28 m36 : Int}  (z22s : w21 ≤ 1000 * z22 ∧ 1000 * z22 ≤ w21 + 999) (z30s : w29 ≤ 1000 * z30 ∧ 1000 * z30 ≤ w29 + 999) (w21s : m20 = w21) (w29s : m28 = w29) (rf4_0 : 0 ≤ (-1) * m20 + m36) (rf3_0 : 0 ≤ m28 + (-1) * m36) : (z22 : Int) ≤ z30 := by omega
theorem bl_d1 {z22 z38 w21 w37 m20 m36 : Int}  (z22s : w21 ≤ 1000 * z22 ∧ 1000 * z22 ≤ w21 + 999) (z38s : w37 ≤ 1000 * z38 ∧ 1000 * z38 ≤ w37 + 999) (w21s : m20 = w21) (w37s : m36 = w37) (rf4_0 : 0 ≤ (-1) * m20 + m36) : (z22 : Int) ≤ z38 := by omega
theorem bl_d2 {z38 z30 w37 w29 m36 m28 : Int}  (z38s : w37 ≤ 1000 * z38 ∧ 1000 * z38 ≤ w37 + 999) (z30s : w29 ≤ 1000 * z30 ∧ 1000 * z30 ≤ w29 + 999) (w37s : m36 = w37) (w29s : m28 = w29) (rf3_0 : 0 ≤ m28 + (-1) * m36) : (z38 : Int) ≤ z30 := by omega
theorem bl_t3 {x0 : Int} (b_x0 : 0 ≤ x0 ∧ x0 ≤ 255) : ¬ ((10 * x0 + 1 : Int) ≤ 0) := by omega
theorem bl_t4 {x0 : Int} (b_x0 : 0 ≤ x0 ∧ x0 ≤ 255) : (0 : Int) ≤ 10 * x0 + 1 := by omega
theorem bl_t5 {x0 : Int} (b_x0 : 0 ≤ x0 ∧ x0 ≤ 255) : (10 * x0 + 1 : Int) ≤ 100000 := by omega
theorem bl_t6 {x1 : Int} (b_x1 : 0 ≤ x1 ∧ x1 ≤ 255) : (0 : Int) ≤ 20 * x1 := by omega
theorem bl_t7 {x1 : Int} (b_x1 : 0 ≤ x1 ∧ x1 ≤ 255) : (20 * x1 : Int) ≤ 100000 := by omega
theorem bl_t8 {x2 : Int} (b_x2 : 0 ≤ x2 ∧ x2 ≤ 255) : (0 : Int) ≤ 30 * x2 := by omega
theorem bl_t9 {x2 : Int} (b_x2 : 0 ≤ x2 ∧ x2 ≤ 255) : (30 * x2 : Int) ≤ 100000 := by omega
theorem bl_t10 {x3 : Int} (b_x3 : 0 ≤ x3 ∧ x3 ≤ 255) : (0 : Int) ≤ x3 := by omega
theorem bl_t11 {x3 r2 : Int} (b_x3 : 0 ≤ x3 ∧ x3 ≤ 255) (b_r2 : 0 ≤ r2 ∧ r2 ≤ 59) : (x3 : Int) ≤ r2 + x3 := by omega
theorem bl_t12 {r2 x3 : Int} (b_r2 : 0 ≤ r2 ∧ r2 ≤ 59) (b_x3 : 0 ≤ x3 ∧ x3 ≤ 255) : (r2 + x3 : Int) ≤ 1000 := by omega
theorem bl_t13 {x5 : Int} (b_x5 : 0 ≤ x5 ∧ x5 ≤ 255) : (0 : Int) ≤ x5 := by omega
theorem bl_t14 {x5 r4 : Int} (b_x5 : 0 ≤ x5 ∧ x5 ≤ 255) (b_r4 : 0 ≤ r4 ∧ r4 ≤ 59) : (x5 : Int) ≤ r4 + x5 := by omega
theorem bl_t15 {r4 x5 : Int} (b_r4 : 0 ≤ r4 ∧ r4 ≤ 59) (b_x5 : 0 ≤ x5 ∧ x5 ≤ 255) : (r4 + x5 : Int) ≤ 1000 := by omega
theorem bl_t16 {x7 : Int} (b_x7 : 0 ≤ x7 ∧ x7 ≤ 255) : (1 : Int) ≤ 100 * x7 + 1 := by omega
theorem bl_t17 {x7 x8 : Int} (b_x7 : 0 ≤ x7 ∧ x7 ≤ 255) (b_x8 : 0 ≤ x8 ∧ x8 ≤ 255) : (100 * x7 + 1 : Int) ≤ 100 * x7 + 10 * x8 + 1 := by omega
theorem bl_t18 {x7 x8 : Int} (b_x7 : 0 ≤ x7 ∧ x7 ≤ 255) (b_x8 : 0 ≤ x8 ∧ x8 ≤ 255) : (100 * x7 + 10 * x8 + 1 : Int) ≤ 100000000 := by omega
theorem bl_t19 {x9 : Int} (b_x9 : 0 ≤ x9 ∧ x9 ≤ 255) : (1 : Int) ≤ x9 + 1 := by omega
theorem bl_t20 {x9 r6 : Int} (b_x9 : 0 ≤ x9 ∧ x9 ≤ 255) (b_r6 : 0 ≤ r6 ∧ r6 ≤ 19) : (x9 + 1 : Int) ≤ r6 + x9 + 1 := by omega
theorem bl_t21 {r6 x9 : Int} (b_r6 : 0 ≤ r6 ∧ r6 ≤ 19) (b_x9 : 0 ≤ x9 ∧ x9 ≤ 255) : (r6 + x9 + 1 : Int) ≤ 100000 := by omega
theorem bl_t22 {x11 : Int} (b_x11 : 0 ≤ x11 ∧ x11 ≤ 255) : (1 : Int) ≤ 100 * x11 + 1 := by omega
theorem bl_t23 {x11 x12 : Int} (b_x11 : 0 ≤ x11 ∧ x11 ≤ 255) (b_x12 : 0 ≤ x12 ∧ x12 ≤ 255) : (100 * x11 + 1 : Int) ≤ 100 * x11 + 10 * x12 + 1 := by omega
theorem bl_t24 {x11 x12 : Int} (b_x11 : 0 ≤ x11 ∧ x11 ≤ 255) (b_x12 : 0 ≤ x12 ∧ x12 ≤ 255) : (100 * x11 + 10 * x12 + 1 : Int) ≤ 100000000 := by omega
theorem bl_t25 {x26 : Int} (b_x26 : 0 ≤ x26 ∧ x26 ≤ 65535) : (0 : Int) ≤ x26 := by omega
theorem bl_t26 {x26 : Int} (b_x26 : 0 ≤ x26 ∧ x26 ≤ 65535) : (x26 : Int) ≤ 100000000 := by omega
theorem bl_t27 {q9 x3 : Int} (b_q9 : 0 ≤ q9 ∧ q9 ≤ 59) (b_x3 : 0 ≤ x3 ∧ x3 ≤ 255) : (0 : Int) ≤ q9 + x3 := by omega
theorem bl_t28 {q9 x3 : Int} (b_q9 : 0 ≤ q9 ∧ q9 ≤ 59) (b_x3 : 0 ≤ x3 ∧ x3 ≤ 255) : (q9 + x3 : Int) ≤ 1000 := by omega
theorem bl_t29 {q13 x5 : Int} (b_q13 : 0 ≤ q13 ∧ q13 ≤ 59) (b_x5 : 0 ≤ x5 ∧ x5 ≤ 255) : (0 : Int) ≤ q13 + x5 := by omega
theorem bl_t30 {q13 x5 : Int} (b_q13 : 0 ≤ q13 ∧ q13 ≤ 59) (b_x5 : 0 ≤ x5 ∧ x5 ≤ 255) : (q13 + x5 : Int) ≤ 1000 := by omega
theorem bl_t31 {z22 : Int} (b_z22 : 0 ≤ z22 ∧ z22 ≤ 213005134) : (0 : Int) ≤ z22 := by omega
theorem bl_d3 {w24 w26 x0 w16 w18 m15 m23 m17 m25 x1 r2 x2 r4 : Int}  (k30 : ¬ ((w16 + w18 + (-10000) * x0 + (-1000) : Int) ≤ 0)) (w24s : 20 * m15 + 20 * m23 = w24) (w26s : 30 * m17 + 30 * m25 = w26) (w16s : 20 * m15 = w16) (w18s : 30 * m17 = w18) (m23f1 : (0) * x1 + (0) * r2 - (0) ≤ m23) (m25f1 : (0) * x2 + (0) * r4 - (0) ≤ m25) : ¬ ((w24 + w26 + (-10000) * x0 + (-1000) : Int) ≤ 0) := by omega
theorem bl_c0 {ρ : Env} {z22 z38 w21 w37 m20 m36 z30 w29 m28 : Int} {t : DT} (h55 : Is ρ bl55 (z22)) (h77 : Is ρ bl77 (z38)) (z22s : w21 ≤ 1000 * z22 ∧ 1000 * z22 ≤ w21 + 999) (z38s : w37 ≤ 1000 * z38 ∧ 1000 * z38 ≤ w37 + 999) (w21s : m20 = w21) (w37s : m36 = w37) (rf4_0 : 0 ≤ (-1) * m20 + m36) (h66 : Is ρ bl66 (z30)) (z30s : w29 ≤ 1000 * z30 ∧ 1000 * z30 ≤ w29 + 999) (w29s : m28 = w29) (rf3_0 : 0 ≤ m28 + (-1) * m36)  (ht : t.goal ρ) : (blC0 t).goal ρ := by
  unfold blC0
  refine aT (Pleq h55 h77 (bl_d1 z22s z38s w21s w37s rf4_0)) ?_
  refine aT (Pleq h77 h66 (bl_d2 z38s z30s w37s w29s rf3_0)) ?_
  exact ht
theorem bl_d4 {x26 : Int} (b_x26 : 0 ≤ x26 ∧ x26 ≤ 65535) (k32 : (x26 : Int) ≤ 0) : (x26 : Int) = 0 := by omega
theorem bl_d5 {z38 w37 m36 x26 u35 : Int} (b_z38 : 0 ≤ z38 ∧ z38 ≤ 262303838) (z38s : w37 ≤ 1000 * z38 ∧ 1000 * z38 ≤ w37 + 999) (w37s : m36 = w37) (m36f3 : m36 ≤ (4002500) * x26 + (0) * u35 - (0)) (k32 : (x26 : Int) ≤ 0) : (z38 : Int) = 0 := by omega
theorem bl_d6 {z43 z38 w42 w37 m39 m40 m41 x26 m36 : Int}  (z43s : w42 ≤ 1000 * z43 ∧ 1000 * z43 ≤ w42 + 999) (z38s : w37 ≤ 1000 * z38 ∧ 1000 * z38 ≤ w37 + 999) (w42s : m39 + m40 + 10000 * m41 + 1000 * x26 = w42) (w37s : m36 = w37) (k32 : ¬ ((x26 : Int) ≤ 0)) (rf5_0 : 0 ≤ (-1) * m36 + m39 + m40 + 10000 * m41) : ¬ ((z43 : Int) ≤ z38) := by omega
theorem bl_d7 {x26 : Int}  (k32 : ¬ ((x26 : Int) ≤ 0)) : ¬ ((x26 : Int) = 0) := by omega
theorem bl_d8 {z22 w21 m20 w16 w18 x0 x26 : Int}  (z22s : w21 ≤ 1000 * z22 ∧ 1000 * z22 ≤ w21 + 999) (w21s : m20 = w21) (rf6 : 0 ≤ w16 + w18 + (-10000) * x0 + (-1001) → 0 ≤ m20 + (-1) * x26) (k30 : ¬ ((w16 + w18 + (-10000) * x0 + (-1000) : Int) ≤ 0)) (k32 : ¬ ((x26 : Int) ≤ 0)) : ¬ ((z22 : Int) ≤ 0) := by omega
theorem bl_d9 {z30 w29 m28 x26 u27 : Int} (b_z30 : 0 ≤ z30 ∧ z30 ≤ 262303838) (z30s : w29 ≤ 1000 * z30 ∧ 1000 * z30 ≤ w29 + 999) (w29s : m28 = w29) (m28f3 : m28 ≤ (4002500) * x26 + (0) * u27 - (0)) (k31 : (x26 : Int) ≤ 0) : (z30 : Int) = 0 := by omega
theorem bl_d10 {z30 w29 m28 x26 u27 w24 w26 x0 : Int} (b_z30 : 0 ≤ z30 ∧ z30 ≤ 262303838) (z30s : w29 ≤ 1000 * z30 ∧ 1000 * z30 ≤ w29 + 999) (w29s : m28 = w29) (m28f4 : m28 ≤ (0) * x26 + (65535) * u27 - (0)) (u27s : max (w24 + w26 + (-10000) * x0 + (-1000)) 0 = u27) (k34 : (w24 + w26 + (-10000) * x0 + (-1000) : Int) ≤ 0) : (z30 : Int) = 0 := by omega
end Go.Proofs.Ytknphpihipkdpaa.Cx
