/- BoltRights: the tests of the law and their arithmetic. Made by tools/cxroot.py. -/
import Derived.Test.YtknphpihipkdpaaBRightsT
import Derived.Test.YtknphpihipkdpaaCxDiv
set_option linter.unusedSimpArgs false
set_option linter.unusedVariables false
set_option maxRecDepth 100000
set_option maxHeartbeats 4000000
namespace Go.Proofs.Ytknphpihipkdpaa.Cx
open Go Go.RowKit

theorem br_aq1 {x4 : Int} (b_x4 : 0 ≤ x4 ∧ x4 ≤ 255) : ∃ q r : Int, Hd ((x4) / 60 = q) ∧ Hd ((x4) % 60 = r) ∧ (x4 = 60 * q + r) ∧ (0 ≤ q ∧ q ≤ 4) ∧ (0 ≤ r ∧ r ≤ 59) := ⟨_, _, ⟨rfl⟩, ⟨rfl⟩, by omega, by omega, by omega⟩
theorem br_aq3 {x6 : Int} (b_x6 : 0 ≤ x6 ∧ x6 ≤ 255) : ∃ q r : Int, Hd ((x6) / 60 = q) ∧ Hd ((x6) % 60 = r) ∧ (x6 = 60 * q + r) ∧ (0 ≤ q ∧ q ≤ 4) ∧ (0 ≤ r ∧ r ≤ 59) := ⟨_, _, ⟨rfl⟩, ⟨rfl⟩, by omega, by omega, by omega⟩
theorem br_aq5 {x10 : Int} (b_x10 : 0 ≤ x10 ∧ x10 ≤ 255) : ∃ q r : Int, Hd ((x10) / 20 = q) ∧ Hd ((x10) % 20 = r) ∧ (x10 = 20 * q + r) ∧ (0 ≤ q ∧ q ≤ 12) ∧ (0 ≤ r ∧ r ≤ 19) := ⟨_, _, ⟨rfl⟩, ⟨rfl⟩, by omega, by omega, by omega⟩
theorem br_aq7 {x26 : Int} (b_x26 : 0 ≤ x26 ∧ x26 ≤ 65535) : ∃ q r : Int, Hd ((x26) / 4 = q) ∧ Hd ((x26) % 4 = r) ∧ (x26 = 4 * q + r) ∧ (0 ≤ q ∧ q ≤ 16383) ∧ (0 ≤ r ∧ r ≤ 3) := ⟨_, _, ⟨rfl⟩, ⟨rfl⟩, by omega, by omega, by omega⟩
theorem br_au9 {x28 x29 : Int} (b_x28 : -32768 ≤ x28 ∧ x28 ≤ 32767) (b_x29 : -32768 ≤ x29 ∧ x29 ≤ 32767) : ∃ m : Int, (max ((-1) * x28 + x29) 0 = m) ∧ (0 ≤ m ∧ m ≤ 65535) := ⟨_, rfl, by omega, by omega⟩
theorem br_au10 {x28 x29 : Int} (b_x28 : -32768 ≤ x28 ∧ x28 ≤ 32767) (b_x29 : -32768 ≤ x29 ∧ x29 ≤ 32767) : ∃ m : Int, (max (x28 + (-1) * x29) 0 = m) ∧ (0 ≤ m ∧ m ≤ 65535) := ⟨_, rfl, by omega, by omega⟩
theorem br_am11 {r2 x1 : Int} (b_r2 : 0 ≤ r2 ∧ r2 ≤ 59) (b_x1 : 0 ≤ x1 ∧ x1 ≤ 255) : ∃ m : Int, Hd (r2 * x1 = m) ∧ ((0) * x1 + (0) * r2 - (0) ≤ m) ∧ ((59) * x1 + (255) * r2 - (15045) ≤ m) ∧ (m ≤ (59) * x1 + (0) * r2 - (0)) ∧ (m ≤ (0) * x1 + (255) * r2 - (0)) ∧ (0 ≤ m ∧ m ≤ 15045) := by
  obtain ⟨h1, h2, h3, h4⟩ := mcc (x := r2) (y := x1) b_r2.1 b_r2.2 b_x1.1 b_x1.2
  refine ⟨_, ⟨rfl⟩, ?_, ?_, ?_, ?_, ?_, ?_⟩ <;> omega
theorem br_am12 {x1 x3 : Int} (b_x1 : 0 ≤ x1 ∧ x1 ≤ 255) (b_x3 : 0 ≤ x3 ∧ x3 ≤ 255) : ∃ m : Int, Hd (x1 * x3 = m) ∧ ((0) * x3 + (0) * x1 - (0) ≤ m) ∧ ((255) * x3 + (255) * x1 - (65025) ≤ m) ∧ (m ≤ (255) * x3 + (0) * x1 - (0)) ∧ (m ≤ (0) * x3 + (255) * x1 - (0)) ∧ (0 ≤ m ∧ m ≤ 65025) := by
  obtain ⟨h1, h2, h3, h4⟩ := mcc (x := x1) (y := x3) b_x1.1 b_x1.2 b_x3.1 b_x3.2
  refine ⟨_, ⟨rfl⟩, ?_, ?_, ?_, ?_, ?_, ?_⟩ <;> omega
theorem br_aw13 {m11 m12 : Int} (b_m11 : 0 ≤ m11 ∧ m11 ≤ 15045) (b_m12 : 0 ≤ m12 ∧ m12 ≤ 65025) : ∃ w : Int, (20 * m11 + 20 * m12 = w) ∧ (0 ≤ w ∧ w ≤ 1601400) := ⟨_, rfl, by omega, by omega⟩
theorem br_am14 {r4 x2 : Int} (b_r4 : 0 ≤ r4 ∧ r4 ≤ 59) (b_x2 : 0 ≤ x2 ∧ x2 ≤ 255) : ∃ m : Int, Hd (r4 * x2 = m) ∧ ((0) * x2 + (0) * r4 - (0) ≤ m) ∧ ((59) * x2 + (255) * r4 - (15045) ≤ m) ∧ (m ≤ (59) * x2 + (0) * r4 - (0)) ∧ (m ≤ (0) * x2 + (255) * r4 - (0)) ∧ (0 ≤ m ∧ m ≤ 15045) := by
  obtain ⟨h1, h2, h3, h4⟩ := mcc (x := r4) (y := x2) b_r4.1 b_r4.2 b_x2.1 b_x2.2
  refine ⟨_, ⟨rfl⟩, ?_, ?_, ?_, ?_, ?_, ?_⟩ <;> omega
theorem br_am15 {x2 x5 : Int} (b_x2 : 0 ≤ x2 ∧ x2 ≤ 255) (b_x5 : 0 ≤ x5 ∧ x5 ≤ 255) : ∃ m : Int, Hd (x2 * x5 = m) ∧ ((0) * x5 + (0) * x2 - (0) ≤ m) ∧ ((255) * x5 + (255) * x2 - (65025) ≤ m) ∧ (m ≤ (255) * x5 + (0) * x2 - (0)) ∧ (m ≤ (0) * x5 + (255) * x2 - (0)) ∧ (0 ≤ m ∧ m ≤ 65025) := by
  obtain ⟨h1, h2, h3, h4⟩ := mcc (x := x2) (y := x5) b_x2.1 b_x2.2 b_x5.1 b_x5.2
  refine ⟨_, ⟨rfl⟩, ?_, ?_, ?_, ?_, ?_, ?_⟩ <;> omega
theorem br_aw16 {m14 m15 : Int} (b_m14 : 0 ≤ m14 ∧ m14 ≤ 15045) (b_m15 : 0 ≤ m15 ∧ m15 ≤ 65025) : ∃ w : Int, (30 * m14 + 30 * m15 = w) ∧ (0 ≤ w ∧ w ≤ 2402100) := ⟨_, rfl, by omega, by omega⟩
theorem br_am17 {q7 w13 : Int} (b_q7 : 0 ≤ q7 ∧ q7 ≤ 16383) (b_w13 : 0 ≤ w13 ∧ w13 ≤ 1601400) : ∃ m : Int, Hd (q7 * w13 = m) ∧ ((0) * w13 + (0) * q7 - (0) ≤ m) ∧ ((16383) * w13 + (1601400) * q7 - (26235736200) ≤ m) ∧ (m ≤ (16383) * w13 + (0) * q7 - (0)) ∧ (m ≤ (0) * w13 + (1601400) * q7 - (0)) ∧ (0 ≤ m ∧ m ≤ 26235736200) := by
  obtain ⟨h1, h2, h3, h4⟩ := mcc (x := q7) (y := w13) b_q7.1 b_q7.2 b_w13.1 b_w13.2
  refine ⟨_, ⟨rfl⟩, ?_, ?_, ?_, ?_, ?_, ?_⟩ <;> omega
theorem br_am18 {q7 w16 : Int} (b_q7 : 0 ≤ q7 ∧ q7 ≤ 16383) (b_w16 : 0 ≤ w16 ∧ w16 ≤ 2402100) : ∃ m : Int, Hd (q7 * w16 = m) ∧ ((0) * w16 + (0) * q7 - (0) ≤ m) ∧ ((16383) * w16 + (2402100) * q7 - (39353604300) ≤ m) ∧ (m ≤ (16383) * w16 + (0) * q7 - (0)) ∧ (m ≤ (0) * w16 + (2402100) * q7 - (0)) ∧ (0 ≤ m ∧ m ≤ 39353604300) := by
  obtain ⟨h1, h2, h3, h4⟩ := mcc (x := q7) (y := w16) b_q7.1 b_q7.2 b_w16.1 b_w16.2
  refine ⟨_, ⟨rfl⟩, ?_, ?_, ?_, ?_, ?_, ?_⟩ <;> omega
theorem br_am19 {q7 x0 : Int} (b_q7 : 0 ≤ q7 ∧ q7 ≤ 16383) (b_x0 : 0 ≤ x0 ∧ x0 ≤ 255) : ∃ m : Int, Hd (q7 * x0 = m) ∧ ((0) * x0 + (0) * q7 - (0) ≤ m) ∧ ((16383) * x0 + (255) * q7 - (4177665) ≤ m) ∧ (m ≤ (16383) * x0 + (0) * q7 - (0)) ∧ (m ≤ (0) * x0 + (255) * q7 - (0)) ∧ (0 ≤ m ∧ m ≤ 4177665) := by
  obtain ⟨h1, h2, h3, h4⟩ := mcc (x := q7) (y := x0) b_q7.1 b_q7.2 b_x0.1 b_x0.2
  refine ⟨_, ⟨rfl⟩, ?_, ?_, ?_, ?_, ?_, ?_⟩ <;> omega
theorem br_aw20 {m17 m18 m19 q7 : Int} (b_m17 : 0 ≤ m17 ∧ m17 ≤ 26235736200) (b_m18 : 0 ≤ m18 ∧ m18 ≤ 39353604300) (b_m19 : 0 ≤ m19 ∧ m19 ≤ 4177665) (b_q7 : 0 ≤ q7 ∧ q7 ≤ 16383) : ∃ w : Int, (m17 + m18 + 10000 * m19 + 1000 * q7 = w) ∧ (0 ≤ w ∧ w ≤ 107382373500) := ⟨_, rfl, by omega, by omega⟩
theorem br_az21 {w20 : Int} (b_w20 : 0 ≤ w20 ∧ w20 ≤ 107382373500) : ∃ z : Int, (w20 ≤ 1000 * z ∧ 1000 * z ≤ w20 + 999) ∧ (0 ≤ z ∧ z ≤ 107382374) := by
  obtain ⟨z, h1, h2⟩ := ru_ex (w20) 1000 (by omega)
  exact ⟨z, ⟨by omega, by omega⟩, by omega, by omega⟩
theorem br_aw22 {m12 : Int} (b_m12 : 0 ≤ m12 ∧ m12 ≤ 65025) : ∃ w : Int, (20 * m12 = w) ∧ (0 ≤ w ∧ w ≤ 1300500) := ⟨_, rfl, by omega, by omega⟩
theorem br_aw23 {m15 : Int} (b_m15 : 0 ≤ m15 ∧ m15 ≤ 65025) : ∃ w : Int, (30 * m15 = w) ∧ (0 ≤ w ∧ w ≤ 1950750) := ⟨_, rfl, by omega, by omega⟩
theorem br_au24 {q7 x11 x27 : Int} (b_q7 : 0 ≤ q7 ∧ q7 ≤ 16383) (b_x11 : 0 ≤ x11 ∧ x11 ≤ 255) (b_x27 : 0 ≤ x27 ∧ x27 ≤ 65535) : ∃ m : Int, (max ((-1) * q7 + 100 * x11 + (-1) * x27 + 1) 0 = m) ∧ (0 ≤ m ∧ m ≤ 25501) := ⟨_, rfl, by omega, by omega⟩
theorem br_am25 {u24 w22 : Int} (b_u24 : 0 ≤ u24 ∧ u24 ≤ 25501) (b_w22 : 0 ≤ w22 ∧ w22 ≤ 1300500) : ∃ m : Int, Hd (u24 * w22 = m) ∧ ((0) * w22 + (0) * u24 - (0) ≤ m) ∧ ((25501) * w22 + (1300500) * u24 - (33164050500) ≤ m) ∧ (m ≤ (25501) * w22 + (0) * u24 - (0)) ∧ (m ≤ (0) * w22 + (1300500) * u24 - (0)) ∧ (0 ≤ m ∧ m ≤ 33164050500) := by
  obtain ⟨h1, h2, h3, h4⟩ := mcc (x := u24) (y := w22) b_u24.1 b_u24.2 b_w22.1 b_w22.2
  refine ⟨_, ⟨rfl⟩, ?_, ?_, ?_, ?_, ?_, ?_⟩ <;> omega
theorem br_am26 {u24 w23 : Int} (b_u24 : 0 ≤ u24 ∧ u24 ≤ 25501) (b_w23 : 0 ≤ w23 ∧ w23 ≤ 1950750) : ∃ m : Int, Hd (u24 * w23 = m) ∧ ((0) * w23 + (0) * u24 - (0) ≤ m) ∧ ((25501) * w23 + (1950750) * u24 - (49746075750) ≤ m) ∧ (m ≤ (25501) * w23 + (0) * u24 - (0)) ∧ (m ≤ (0) * w23 + (1950750) * u24 - (0)) ∧ (0 ≤ m ∧ m ≤ 49746075750) := by
  obtain ⟨h1, h2, h3, h4⟩ := mcc (x := u24) (y := w23) b_u24.1 b_u24.2 b_w23.1 b_w23.2
  refine ⟨_, ⟨rfl⟩, ?_, ?_, ?_, ?_, ?_, ?_⟩ <;> omega
theorem br_am27 {u24 x0 : Int} (b_u24 : 0 ≤ u24 ∧ u24 ≤ 25501) (b_x0 : 0 ≤ x0 ∧ x0 ≤ 255) : ∃ m : Int, Hd (u24 * x0 = m) ∧ ((0) * x0 + (0) * u24 - (0) ≤ m) ∧ ((25501) * x0 + (255) * u24 - (6502755) ≤ m) ∧ (m ≤ (25501) * x0 + (0) * u24 - (0)) ∧ (m ≤ (0) * x0 + (255) * u24 - (0)) ∧ (0 ≤ m ∧ m ≤ 6502755) := by
  obtain ⟨h1, h2, h3, h4⟩ := mcc (x := u24) (y := x0) b_u24.1 b_u24.2 b_x0.1 b_x0.2
  refine ⟨_, ⟨rfl⟩, ?_, ?_, ?_, ?_, ?_, ?_⟩ <;> omega
theorem br_am28 {w22 x11 : Int} (b_w22 : 0 ≤ w22 ∧ w22 ≤ 1300500) (b_x11 : 0 ≤ x11 ∧ x11 ≤ 255) : ∃ m : Int, Hd (w22 * x11 = m) ∧ ((0) * x11 + (0) * w22 - (0) ≤ m) ∧ ((1300500) * x11 + (255) * w22 - (331627500) ≤ m) ∧ (m ≤ (1300500) * x11 + (0) * w22 - (0)) ∧ (m ≤ (0) * x11 + (255) * w22 - (0)) ∧ (0 ≤ m ∧ m ≤ 331627500) := by
  obtain ⟨h1, h2, h3, h4⟩ := mcc (x := w22) (y := x11) b_w22.1 b_w22.2 b_x11.1 b_x11.2
  refine ⟨_, ⟨rfl⟩, ?_, ?_, ?_, ?_, ?_, ?_⟩ <;> omega
theorem br_am29 {w23 x11 : Int} (b_w23 : 0 ≤ w23 ∧ w23 ≤ 1950750) (b_x11 : 0 ≤ x11 ∧ x11 ≤ 255) : ∃ m : Int, Hd (w23 * x11 = m) ∧ ((0) * x11 + (0) * w23 - (0) ≤ m) ∧ ((1950750) * x11 + (255) * w23 - (497441250) ≤ m) ∧ (m ≤ (1950750) * x11 + (0) * w23 - (0)) ∧ (m ≤ (0) * x11 + (255) * w23 - (0)) ∧ (0 ≤ m ∧ m ≤ 497441250) := by
  obtain ⟨h1, h2, h3, h4⟩ := mcc (x := w23) (y := x11) b_w23.1 b_w23.2 b_x11.1 b_x11.2
  refine ⟨_, ⟨rfl⟩, ?_, ?_, ?_, ?_, ?_, ?_⟩ <;> omega
theorem br_am30 {x0 x11 : Int} (b_x0 : 0 ≤ x0 ∧ x0 ≤ 255) (b_x11 : 0 ≤ x11 ∧ x11 ≤ 255) : ∃ m : Int, Hd (x0 * x11 = m) ∧ ((0) * x11 + (0) * x0 - (0) ≤ m) ∧ ((255) * x11 + (255) * x0 - (65025) ≤ m) ∧ (m ≤ (255) * x11 + (0) * x0 - (0)) ∧ (m ≤ (0) * x11 + (255) * x0 - (0)) ∧ (0 ≤ m ∧ m ≤ 65025) := by
  obtain ⟨h1, h2, h3, h4⟩ := mcc (x := x0) (y := x11) b_x0.1 b_x0.2 b_x11.1 b_x11.2
  refine ⟨_, ⟨rfl⟩, ?_, ?_, ?_, ?_, ?_, ?_⟩ <;> omega
theorem br_aw31 {m25 m26 m27 m28 m29 m30 u24 w22 w23 x0 x11 : Int} (b_m25 : 0 ≤ m25 ∧ m25 ≤ 33164050500) (b_m26 : 0 ≤ m26 ∧ m26 ≤ 49746075750) (b_m27 : 0 ≤ m27 ∧ m27 ≤ 6502755) (b_m28 : 0 ≤ m28 ∧ m28 ≤ 331627500) (b_m29 : 0 ≤ m29 ∧ m29 ≤ 497441250) (b_m30 : 0 ≤ m30 ∧ m30 ≤ 65025) (b_u24 : 0 ≤ u24 ∧ u24 ≤ 25501) (b_w22 : 0 ≤ w22 ∧ w22 ≤ 1300500) (b_w23 : 0 ≤ w23 ∧ w23 ≤ 1950750) (b_x0 : 0 ≤ x0 ∧ x0 ≤ 255) (b_x11 : 0 ≤ x11 ∧ x11 ≤ 255) : ∃ w : Int, ((-1) * m25 + (-1) * m26 + (-10000) * m27 + 100 * m28 + 100 * m29 + 1000000 * m30 + (-1000) * u24 + 2 * w22 + 2 * w23 + 20000 * x0 + 100000 * x11 + 2000 = w) ∧ (-147963175250 ≤ w ∧ w ≤ 147968979500) := ⟨_, rfl, by omega, by omega⟩
theorem br_az32 {w31 : Int} (b_w31 : -147963175250 ≤ w31 ∧ w31 ≤ 147968979500) : ∃ z : Int, (w31 ≤ 1000 * z ∧ 1000 * z ≤ w31 + 999) ∧ (-147963175 ≤ z ∧ z ≤ 147968980) := by
  obtain ⟨z, h1, h2⟩ := ru_ex (w31) 1000 (by omega)
  exact ⟨z, ⟨by omega, by omega⟩, by omega, by omega⟩
theorem br_au33 {u9 x29 : Int} (b_u9 : 0 ≤ u9 ∧ u9 ≤ 65535) (b_x29 : -32768 ≤ x29 ∧ x29 ≤ 32767) : ∃ m : Int, (max ((-1) * u9 + x29) 0 = m) ∧ (0 ≤ m ∧ m ≤ 32767) := ⟨_, rfl, by omega, by omega⟩
theorem br_au34 {u10 x29 : Int} (b_u10 : 0 ≤ u10 ∧ u10 ≤ 65535) (b_x29 : -32768 ≤ x29 ∧ x29 ≤ 32767) : ∃ m : Int, (max (u10 + x29) 0 = m) ∧ (0 ≤ m ∧ m ≤ 98302) := ⟨_, rfl, by omega, by omega⟩
theorem br_aw35 {u34 : Int} (b_u34 : 0 ≤ u34 ∧ u34 ≤ 98302) : ∃ w : Int, (1000 * u34 = w) ∧ (0 ≤ w ∧ w ≤ 98302000) := ⟨_, rfl, by omega, by omega⟩
theorem br_aw36 {w22 w23 x0 : Int} (b_w22 : 0 ≤ w22 ∧ w22 ≤ 1300500) (b_w23 : 0 ≤ w23 ∧ w23 ≤ 1950750) (b_x0 : 0 ≤ x0 ∧ x0 ≤ 255) : ∃ w : Int, (w22 + w23 + 10000 * x0 + 1000 = w) ∧ (1000 ≤ w ∧ w ≤ 5802250) := ⟨_, rfl, by omega, by omega⟩
theorem br_aq37 {w35 w36 : Int} (b_w35 : 0 ≤ w35 ∧ w35 ≤ 98302000) (b_w36 : 1000 ≤ w36 ∧ w36 ≤ 5802250) : ∃ q : Int, Hd (w35.tdiv w36 = q) ∧ QD w35 w36 q ∧ (0 ≤ q ∧ q ≤ 98302) := by
  obtain ⟨q, h1, h2⟩ := qD_ex w35 w36 (by omega)
  obtain ⟨h3, h4⟩ := qD_rng (lo := 0) (hi := 98302000) (dl := 1000) h2 (by omega) (by omega) (by omega) (by omega) (by omega) (by omega)
  have h5 := (h2.1 (by omega)).1
  exact ⟨q, h1, h2, by omega, by omega⟩
theorem br_am38 {q37 w36 : Int} (b_q37 : 0 ≤ q37 ∧ q37 ≤ 98302) (b_w36 : 1000 ≤ w36 ∧ w36 ≤ 5802250) : ∃ m : Int, Hd (q37 * w36 = m) ∧ ((0) * w36 + (1000) * q37 - (0) ≤ m) ∧ ((98302) * w36 + (5802250) * q37 - (570372779500) ≤ m) ∧ (m ≤ (98302) * w36 + (1000) * q37 - (98302000)) ∧ (m ≤ (0) * w36 + (5802250) * q37 - (0)) ∧ (0 ≤ m ∧ m ≤ 570372779500) := by
  obtain ⟨h1, h2, h3, h4⟩ := mcc (x := q37) (y := w36) b_q37.1 b_q37.2 b_w36.1 b_w36.2
  refine ⟨_, ⟨rfl⟩, ?_, ?_, ?_, ?_, ?_, ?_⟩ <;> omega
theorem br_aw39 {u33 : Int} (b_u33 : 0 ≤ u33 ∧ u33 ≤ 32767) : ∃ w : Int, (1000 * u33 = w) ∧ (0 ≤ w ∧ w ≤ 32767000) := ⟨_, rfl, by omega, by omega⟩
theorem br_aw40 {w13 w16 x0 : Int} (b_w13 : 0 ≤ w13 ∧ w13 ≤ 1601400) (b_w16 : 0 ≤ w16 ∧ w16 ≤ 2402100) (b_x0 : 0 ≤ x0 ∧ x0 ≤ 255) : ∃ w : Int, (w13 + w16 + 10000 * x0 + 1000 = w) ∧ (1000 ≤ w ∧ w ≤ 6554500) := ⟨_, rfl, by omega, by omega⟩
theorem br_aq41 {w39 w40 : Int} (b_w39 : 0 ≤ w39 ∧ w39 ≤ 32767000) (b_w40 : 1000 ≤ w40 ∧ w40 ≤ 6554500) : ∃ q : Int, Hd (w39.tdiv w40 = q) ∧ QD w39 w40 q ∧ (0 ≤ q ∧ q ≤ 32767) := by
  obtain ⟨q, h1, h2⟩ := qD_ex w39 w40 (by omega)
  obtain ⟨h3, h4⟩ := qD_rng (lo := 0) (hi := 32767000) (dl := 1000) h2 (by omega) (by omega) (by omega) (by omega) (by omega) (by omega)
  have h5 := (h2.1 (by omega)).1
  exact ⟨q, h1, h2, by omega, by omega⟩
theorem br_am42 {q41 w40 : Int} (b_q41 : 0 ≤ q41 ∧ q41 ≤ 32767) (b_w40 : 1000 ≤ w40 ∧ w40 ≤ 6554500) : ∃ m : Int, Hd (q41 * w40 = m) ∧ ((0) * w40 + (1000) * q41 - (0) ≤ m) ∧ ((32767) * w40 + (6554500) * q41 - (214771301500) ≤ m) ∧ (m ≤ (32767) * w40 + (1000) * q41 - (32767000)) ∧ (m ≤ (0) * w40 + (6554500) * q41 - (0)) ∧ (0 ≤ m ∧ m ≤ 214771301500) := by
  obtain ⟨h1, h2, h3, h4⟩ := mcc (x := q41) (y := w40) b_q41.1 b_q41.2 b_w40.1 b_w40.2
  refine ⟨_, ⟨rfl⟩, ?_, ?_, ?_, ?_, ?_, ?_⟩ <;> omega
theorem br_au43 {u10 u9 z32 : Int} (b_u10 : 0 ≤ u10 ∧ u10 ≤ 65535) (b_u9 : 0 ≤ u9 ∧ u9 ≤ 65535) (b_z32 : -147963175 ≤ z32 ∧ z32 ≤ 147968980) : ∃ m : Int, (max ((-1) * u10 + (-1) * u9 + z32 + (-1)) 0 = m) ∧ (0 ≤ m ∧ m ≤ 147968979) := ⟨_, rfl, by omega, by omega⟩
theorem br_au44 {z32 : Int} (b_z32 : -147963175 ≤ z32 ∧ z32 ≤ 147968980) : ∃ m : Int, (max (z32 + (-1)) 0 = m) ∧ (0 ≤ m ∧ m ≤ 147968979) := ⟨_, rfl, by omega, by omega⟩
theorem br_aw45 {u44 : Int} (b_u44 : 0 ≤ u44 ∧ u44 ≤ 147968979) : ∃ w : Int, (1000 * u44 = w) ∧ (0 ≤ w ∧ w ≤ 147968979000) := ⟨_, rfl, by omega, by omega⟩
theorem br_aq46 {w45 w36 : Int} (b_w45 : 0 ≤ w45 ∧ w45 ≤ 147968979000) (b_w36 : 1000 ≤ w36 ∧ w36 ≤ 5802250) : ∃ q : Int, Hd (w45.tdiv w36 = q) ∧ QD w45 w36 q ∧ (0 ≤ q ∧ q ≤ 147968979) := by
  obtain ⟨q, h1, h2⟩ := qD_ex w45 w36 (by omega)
  obtain ⟨h3, h4⟩ := qD_rng (lo := 0) (hi := 147968979000) (dl := 1000) h2 (by omega) (by omega) (by omega) (by omega) (by omega) (by omega)
  have h5 := (h2.1 (by omega)).1
  exact ⟨q, h1, h2, by omega, by omega⟩
theorem br_am47 {q46 w36 : Int} (b_q46 : 0 ≤ q46 ∧ q46 ≤ 147968979) (b_w36 : 1000 ≤ w36 ∧ w36 ≤ 5802250) : ∃ m : Int, Hd (q46 * w36 = m) ∧ ((0) * w36 + (1000) * q46 - (0) ≤ m) ∧ ((147968979) * w36 + (5802250) * q46 - (858553008402750) ≤ m) ∧ (m ≤ (147968979) * w36 + (1000) * q46 - (147968979000)) ∧ (m ≤ (0) * w36 + (5802250) * q46 - (0)) ∧ (0 ≤ m ∧ m ≤ 858553008402750) := by
  obtain ⟨h1, h2, h3, h4⟩ := mcc (x := q46) (y := w36) b_q46.1 b_q46.2 b_w36.1 b_w36.2
  refine ⟨_, ⟨rfl⟩, ?_, ?_, ?_, ?_, ?_, ?_⟩ <;> omega
theorem br_aw48 {u43 : Int} (b_u43 : 0 ≤ u43 ∧ u43 ≤ 147968979) : ∃ w : Int, (1000 * u43 = w) ∧ (0 ≤ w ∧ w ≤ 147968979000) := ⟨_, rfl, by omega, by omega⟩
theorem br_aq49 {w48 w40 : Int} (b_w48 : 0 ≤ w48 ∧ w48 ≤ 147968979000) (b_w40 : 1000 ≤ w40 ∧ w40 ≤ 6554500) : ∃ q : Int, Hd (w48.tdiv w40 = q) ∧ QD w48 w40 q ∧ (0 ≤ q ∧ q ≤ 147968979) := by
  obtain ⟨q, h1, h2⟩ := qD_ex w48 w40 (by omega)
  obtain ⟨h3, h4⟩ := qD_rng (lo := 0) (hi := 147968979000) (dl := 1000) h2 (by omega) (by omega) (by omega) (by omega) (by omega) (by omega)
  have h5 := (h2.1 (by omega)).1
  exact ⟨q, h1, h2, by omega, by omega⟩
theorem br_am50 {q49 w40 : Int} (b_q49 : 0 ≤ q49 ∧ q49 ≤ 147968979) (b_w40 : 1000 ≤ w40 ∧ w40 ≤ 6554500) : ∃ m : Int, Hd (q49 * w40 = m) ∧ ((0) * w40 + (1000) * q49 - (0) ≤ m) ∧ ((147968979) * w40 + (6554500) * q49 - (969862672855500) ≤ m) ∧ (m ≤ (147968979) * w40 + (1000) * q49 - (147968979000)) ∧ (m ≤ (0) * w40 + (6554500) * q49 - (0)) ∧ (0 ≤ m ∧ m ≤ 969862672855500) := by
  obtain ⟨h1, h2, h3, h4⟩ := mcc (x := q49) (y := w40) b_q49.1 b_q49.2 b_w40.1 b_w40.2
  refine ⟨_, ⟨rfl⟩, ?_, ?_, ?_, ?_, ?_, ?_⟩ <;> omega
theorem br_aq51 {u10 x29 z32 : Int} (b_u10 : 0 ≤ u10 ∧ u10 ≤ 65535) (b_x29 : -32768 ≤ x29 ∧ x29 ≤ 32767) (b_z32 : -147963175 ≤ z32 ∧ z32 ≤ 147968980) : ∃ q r : Int, Hd (((-1) * u10 + (-1) * x29 + z32 + (-1)).tdiv 2 = q) ∧ Hd (((-1) * u10 + (-1) * x29 + z32 + (-1)).tmod 2 = r) ∧ ((-1) * u10 + (-1) * x29 + z32 + (-1) = 2 * q + r) ∧ (0 ≤ (-1) * u10 + (-1) * x29 + z32 + (-1) ∧ 0 ≤ r ∨ (-1) * u10 + (-1) * x29 + z32 + (-1) ≤ 0 ∧ r ≤ 0) ∧ (-74030739 ≤ q ∧ q ≤ 74000873) ∧ (-1 ≤ r ∧ r ≤ 1) := by
  obtain ⟨q, r, h1, h2, h3, h4, h5⟩ := td_ex2 ((-1) * u10 + (-1) * x29 + z32 + (-1)) 2 (by omega)
  exact ⟨q, r, h1, h2, h3, h4, by omega, by omega⟩
theorem br_au53 {q51 u9 x29 : Int} (b_q51 : -74030739 ≤ q51 ∧ q51 ≤ 74000873) (b_u9 : 0 ≤ u9 ∧ u9 ≤ 65535) (b_x29 : -32768 ≤ x29 ∧ x29 ≤ 32767) : ∃ m : Int, (max (q51 + (-1) * u9 + x29) 0 = m) ∧ (0 ≤ m ∧ m ≤ 74033640) := ⟨_, rfl, by omega, by omega⟩
theorem br_au54 {q51 u10 x29 : Int} (b_q51 : -74030739 ≤ q51 ∧ q51 ≤ 74000873) (b_u10 : 0 ≤ u10 ∧ u10 ≤ 65535) (b_x29 : -32768 ≤ x29 ∧ x29 ≤ 32767) : ∃ m : Int, (max (q51 + u10 + x29) 0 = m) ∧ (0 ≤ m ∧ m ≤ 74099175) := ⟨_, rfl, by omega, by omega⟩
theorem br_aw55 {u54 : Int} (b_u54 : 0 ≤ u54 ∧ u54 ≤ 74099175) : ∃ w : Int, (1000 * u54 = w) ∧ (0 ≤ w ∧ w ≤ 74099175000) := ⟨_, rfl, by omega, by omega⟩
theorem br_aq56 {w55 w36 : Int} (b_w55 : 0 ≤ w55 ∧ w55 ≤ 74099175000) (b_w36 : 1000 ≤ w36 ∧ w36 ≤ 5802250) : ∃ q : Int, Hd (w55.tdiv w36 = q) ∧ QD w55 w36 q ∧ (0 ≤ q ∧ q ≤ 74099175) := by
  obtain ⟨q, h1, h2⟩ := qD_ex w55 w36 (by omega)
  obtain ⟨h3, h4⟩ := qD_rng (lo := 0) (hi := 74099175000) (dl := 1000) h2 (by omega) (by omega) (by omega) (by omega) (by omega) (by omega)
  have h5 := (h2.1 (by omega)).1
  exact ⟨q, h1, h2, by omega, by omega⟩
theorem br_am57 {q56 w36 : Int} (b_q56 : 0 ≤ q56 ∧ q56 ≤ 74099175) (b_w36 : 1000 ≤ w36 ∧ w36 ≤ 5802250) : ∃ m : Int, Hd (q56 * w36 = m) ∧ ((0) * w36 + (1000) * q56 - (0) ≤ m) ∧ ((74099175) * w36 + (5802250) * q56 - (429941938143750) ≤ m) ∧ (m ≤ (74099175) * w36 + (1000) * q56 - (74099175000)) ∧ (m ≤ (0) * w36 + (5802250) * q56 - (0)) ∧ (0 ≤ m ∧ m ≤ 429941938143750) := by
  obtain ⟨h1, h2, h3, h4⟩ := mcc (x := q56) (y := w36) b_q56.1 b_q56.2 b_w36.1 b_w36.2
  refine ⟨_, ⟨rfl⟩, ?_, ?_, ?_, ?_, ?_, ?_⟩ <;> omega
theorem br_aw58 {u53 : Int} (b_u53 : 0 ≤ u53 ∧ u53 ≤ 74033640) : ∃ w : Int, (1000 * u53 = w) ∧ (0 ≤ w ∧ w ≤ 74033640000) := ⟨_, rfl, by omega, by omega⟩
theorem br_aq59 {w58 w40 : Int} (b_w58 : 0 ≤ w58 ∧ w58 ≤ 74033640000) (b_w40 : 1000 ≤ w40 ∧ w40 ≤ 6554500) : ∃ q : Int, Hd (w58.tdiv w40 = q) ∧ QD w58 w40 q ∧ (0 ≤ q ∧ q ≤ 74033640) := by
  obtain ⟨q, h1, h2⟩ := qD_ex w58 w40 (by omega)
  obtain ⟨h3, h4⟩ := qD_rng (lo := 0) (hi := 74033640000) (dl := 1000) h2 (by omega) (by omega) (by omega) (by omega) (by omega) (by omega)
  have h5 := (h2.1 (by omega)).1
  exact ⟨q, h1, h2, by omega, by omega⟩
theorem br_am60 {q59 w40 : Int} (b_q59 : 0 ≤ q59 ∧ q59 ≤ 74033640) (b_w40 : 1000 ≤ w40 ∧ w40 ≤ 6554500) : ∃ m : Int, Hd (q59 * w40 = m) ∧ ((0) * w40 + (1000) * q59 - (0) ≤ m) ∧ ((74033640) * w40 + (6554500) * q59 - (485253493380000) ≤ m) ∧ (m ≤ (74033640) * w40 + (1000) * q59 - (74033640000)) ∧ (m ≤ (0) * w40 + (6554500) * q59 - (0)) ∧ (0 ≤ m ∧ m ≤ 485253493380000) := by
  obtain ⟨h1, h2, h3, h4⟩ := mcc (x := q59) (y := w40) b_q59.1 b_q59.2 b_w40.1 b_w40.2
  refine ⟨_, ⟨rfl⟩, ?_, ?_, ?_, ?_, ?_, ?_⟩ <;> omega
theorem br_am61 {r2 x18 : Int} (b_r2 : 0 ≤ r2 ∧ r2 ≤ 59) (b_x18 : 0 ≤ x18 ∧ x18 ≤ 255) : ∃ m : Int, Hd (r2 * x18 = m) ∧ ((0) * x18 + (0) * r2 - (0) ≤ m) ∧ ((59) * x18 + (255) * r2 - (15045) ≤ m) ∧ (m ≤ (59) * x18 + (0) * r2 - (0)) ∧ (m ≤ (0) * x18 + (255) * r2 - (0)) ∧ (0 ≤ m ∧ m ≤ 15045) := by
  obtain ⟨h1, h2, h3, h4⟩ := mcc (x := r2) (y := x18) b_r2.1 b_r2.2 b_x18.1 b_x18.2
  refine ⟨_, ⟨rfl⟩, ?_, ?_, ?_, ?_, ?_, ?_⟩ <;> omega
theorem br_aw62 {m61 : Int} (b_m61 : 0 ≤ m61 ∧ m61 ≤ 15045) : ∃ w : Int, (m61 = w) ∧ (0 ≤ w ∧ w ≤ 15045) := ⟨_, rfl, by omega, by omega⟩
theorem br_aq63 {w62 : Int} (b_w62 : 0 ≤ w62 ∧ w62 ≤ 15045) : ∃ q r : Int, Hd ((w62) / 255 = q) ∧ Hd ((w62) % 255 = r) ∧ (w62 = 255 * q + r) ∧ (0 ≤ q ∧ q ≤ 59) ∧ (0 ≤ r ∧ r ≤ 254) := ⟨_, _, ⟨rfl⟩, ⟨rfl⟩, by omega, by omega, by omega⟩
theorem br_am65 {r4 x19 : Int} (b_r4 : 0 ≤ r4 ∧ r4 ≤ 59) (b_x19 : 0 ≤ x19 ∧ x19 ≤ 255) : ∃ m : Int, Hd (r4 * x19 = m) ∧ ((0) * x19 + (0) * r4 - (0) ≤ m) ∧ ((59) * x19 + (255) * r4 - (15045) ≤ m) ∧ (m ≤ (59) * x19 + (0) * r4 - (0)) ∧ (m ≤ (0) * x19 + (255) * r4 - (0)) ∧ (0 ≤ m ∧ m ≤ 15045) := by
  obtain ⟨h1, h2, h3, h4⟩ := mcc (x := r4) (y := x19) b_r4.1 b_r4.2 b_x19.1 b_x19.2
  refine ⟨_, ⟨rfl⟩, ?_, ?_, ?_, ?_, ?_, ?_⟩ <;> omega
theorem br_aw66 {m65 : Int} (b_m65 : 0 ≤ m65 ∧ m65 ≤ 15045) : ∃ w : Int, (m65 = w) ∧ (0 ≤ w ∧ w ≤ 15045) := ⟨_, rfl, by omega, by omega⟩
theorem br_aq67 {w66 : Int} (b_w66 : 0 ≤ w66 ∧ w66 ≤ 15045) : ∃ q r : Int, Hd ((w66) / 255 = q) ∧ Hd ((w66) % 255 = r) ∧ (w66 = 255 * q + r) ∧ (0 ≤ q ∧ q ≤ 59) ∧ (0 ≤ r ∧ r ≤ 254) := ⟨_, _, ⟨rfl⟩, ⟨rfl⟩, by omega, by omega, by omega⟩
theorem br_am69 {q63 x1 : Int} (b_q63 : 0 ≤ q63 ∧ q63 ≤ 59) (b_x1 : 0 ≤ x1 ∧ x1 ≤ 255) : ∃ m : Int, Hd (q63 * x1 = m) ∧ ((0) * x1 + (0) * q63 - (0) ≤ m) ∧ ((59) * x1 + (255) * q63 - (15045) ≤ m) ∧ (m ≤ (59) * x1 + (0) * q63 - (0)) ∧ (m ≤ (0) * x1 + (255) * q63 - (0)) ∧ (0 ≤ m ∧ m ≤ 15045) := by
  obtain ⟨h1, h2, h3, h4⟩ := mcc (x := q63) (y := x1) b_q63.1 b_q63.2 b_x1.1 b_x1.2
  refine ⟨_, ⟨rfl⟩, ?_, ?_, ?_, ?_, ?_, ?_⟩ <;> omega
theorem br_aw70 {m12 m69 : Int} (b_m12 : 0 ≤ m12 ∧ m12 ≤ 65025) (b_m69 : 0 ≤ m69 ∧ m69 ≤ 15045) : ∃ w : Int, (20 * m12 + 20 * m69 = w) ∧ (0 ≤ w ∧ w ≤ 1601400) := ⟨_, rfl, by omega, by omega⟩
theorem br_am71 {q67 x2 : Int} (b_q67 : 0 ≤ q67 ∧ q67 ≤ 59) (b_x2 : 0 ≤ x2 ∧ x2 ≤ 255) : ∃ m : Int, Hd (q67 * x2 = m) ∧ ((0) * x2 + (0) * q67 - (0) ≤ m) ∧ ((59) * x2 + (255) * q67 - (15045) ≤ m) ∧ (m ≤ (59) * x2 + (0) * q67 - (0)) ∧ (m ≤ (0) * x2 + (255) * q67 - (0)) ∧ (0 ≤ m ∧ m ≤ 15045) := by
  obtain ⟨h1, h2, h3, h4⟩ := mcc (x := q67) (y := x2) b_q67.1 b_q67.2 b_x2.1 b_x2.2
  refine ⟨_, ⟨rfl⟩, ?_, ?_, ?_, ?_, ?_, ?_⟩ <;> omega
theorem br_aw72 {m15 m71 : Int} (b_m15 : 0 ≤ m15 ∧ m15 ≤ 65025) (b_m71 : 0 ≤ m71 ∧ m71 ≤ 15045) : ∃ w : Int, (30 * m15 + 30 * m71 = w) ∧ (0 ≤ w ∧ w ≤ 2402100) := ⟨_, rfl, by omega, by omega⟩
theorem br_am73 {u10 x21 : Int} (b_u10 : 0 ≤ u10 ∧ u10 ≤ 65535) (b_x21 : 0 ≤ x21 ∧ x21 ≤ 255) : ∃ m : Int, Hd (u10 * x21 = m) ∧ ((0) * x21 + (0) * u10 - (0) ≤ m) ∧ ((65535) * x21 + (255) * u10 - (16711425) ≤ m) ∧ (m ≤ (65535) * x21 + (0) * u10 - (0)) ∧ (m ≤ (0) * x21 + (255) * u10 - (0)) ∧ (0 ≤ m ∧ m ≤ 16711425) := by
  obtain ⟨h1, h2, h3, h4⟩ := mcc (x := u10) (y := x21) b_u10.1 b_u10.2 b_x21.1 b_x21.2
  refine ⟨_, ⟨rfl⟩, ?_, ?_, ?_, ?_, ?_, ?_⟩ <;> omega
theorem br_am74 {x21 x29 : Int} (b_x21 : 0 ≤ x21 ∧ x21 ≤ 255) (b_x29 : -32768 ≤ x29 ∧ x29 ≤ 32767) : ∃ m : Int, Hd (x21 * x29 = m) ∧ ((0) * x29 + (-32768) * x21 - (0) ≤ m) ∧ ((255) * x29 + (32767) * x21 - (8355585) ≤ m) ∧ (m ≤ (255) * x29 + (-32768) * x21 - (-8355840)) ∧ (m ≤ (0) * x29 + (32767) * x21 - (0)) ∧ (-8355840 ≤ m ∧ m ≤ 8355585) := by
  obtain ⟨h1, h2, h3, h4⟩ := mcc (x := x21) (y := x29) b_x21.1 b_x21.2 b_x29.1 b_x29.2
  refine ⟨_, ⟨rfl⟩, ?_, ?_, ?_, ?_, ?_, ?_⟩ <;> omega
theorem br_am75 {x21 z32 : Int} (b_x21 : 0 ≤ x21 ∧ x21 ≤ 255) (b_z32 : -147963175 ≤ z32 ∧ z32 ≤ 147968980) : ∃ m : Int, Hd (x21 * z32 = m) ∧ ((0) * z32 + (-147963175) * x21 - (0) ≤ m) ∧ ((255) * z32 + (147968980) * x21 - (37732089900) ≤ m) ∧ (m ≤ (255) * z32 + (-147963175) * x21 - (-37730609625)) ∧ (m ≤ (0) * z32 + (147968980) * x21 - (0)) ∧ (-37730609625 ≤ m ∧ m ≤ 37732089900) := by
  obtain ⟨h1, h2, h3, h4⟩ := mcc (x := x21) (y := z32) b_x21.1 b_x21.2 b_z32.1 b_z32.2
  refine ⟨_, ⟨rfl⟩, ?_, ?_, ?_, ?_, ?_, ?_⟩ <;> omega
theorem br_aw76 {m73 m74 m75 x21 : Int} (b_m73 : 0 ≤ m73 ∧ m73 ≤ 16711425) (b_m74 : -8355840 ≤ m74 ∧ m74 ≤ 8355585) (b_m75 : -37730609625 ≤ m75 ∧ m75 ≤ 37732089900) (b_x21 : 0 ≤ x21 ∧ x21 ≤ 255) : ∃ w : Int, ((-1) * m73 + (-1) * m74 + m75 + (-1) * x21 = w) ∧ (-37755676890 ≤ w ∧ w ≤ 37740445740) := ⟨_, rfl, by omega, by omega⟩
theorem br_aq77 {w76 : Int} (b_w76 : -37755676890 ≤ w76 ∧ w76 ≤ 37740445740) : ∃ q r : Int, Hd ((w76).tdiv 255 = q) ∧ Hd ((w76).tmod 255 = r) ∧ (w76 = 255 * q + r) ∧ (0 ≤ w76 ∧ 0 ≤ r ∨ w76 ≤ 0 ∧ r ≤ 0) ∧ (-148061478 ≤ q ∧ q ≤ 148001748) ∧ (-254 ≤ r ∧ r ≤ 254) := by
  obtain ⟨q, r, h1, h2, h3, h4, h5⟩ := td_ex2 (w76) 255 (by omega)
  exact ⟨q, r, h1, h2, h3, h4, by omega, by omega⟩
theorem br_am79 {u10 x20 : Int} (b_u10 : 0 ≤ u10 ∧ u10 ≤ 65535) (b_x20 : 0 ≤ x20 ∧ x20 ≤ 255) : ∃ m : Int, Hd (u10 * x20 = m) ∧ ((0) * x20 + (0) * u10 - (0) ≤ m) ∧ ((65535) * x20 + (255) * u10 - (16711425) ≤ m) ∧ (m ≤ (65535) * x20 + (0) * u10 - (0)) ∧ (m ≤ (0) * x20 + (255) * u10 - (0)) ∧ (0 ≤ m ∧ m ≤ 16711425) := by
  obtain ⟨h1, h2, h3, h4⟩ := mcc (x := u10) (y := x20) b_u10.1 b_u10.2 b_x20.1 b_x20.2
  refine ⟨_, ⟨rfl⟩, ?_, ?_, ?_, ?_, ?_, ?_⟩ <;> omega
theorem br_am80 {u9 x20 : Int} (b_u9 : 0 ≤ u9 ∧ u9 ≤ 65535) (b_x20 : 0 ≤ x20 ∧ x20 ≤ 255) : ∃ m : Int, Hd (u9 * x20 = m) ∧ ((0) * x20 + (0) * u9 - (0) ≤ m) ∧ ((65535) * x20 + (255) * u9 - (16711425) ≤ m) ∧ (m ≤ (65535) * x20 + (0) * u9 - (0)) ∧ (m ≤ (0) * x20 + (255) * u9 - (0)) ∧ (0 ≤ m ∧ m ≤ 16711425) := by
  obtain ⟨h1, h2, h3, h4⟩ := mcc (x := u9) (y := x20) b_u9.1 b_u9.2 b_x20.1 b_x20.2
  refine ⟨_, ⟨rfl⟩, ?_, ?_, ?_, ?_, ?_, ?_⟩ <;> omega
theorem br_aw81 {m79 m80 : Int} (b_m79 : 0 ≤ m79 ∧ m79 ≤ 16711425) (b_m80 : 0 ≤ m80 ∧ m80 ≤ 16711425) : ∃ w : Int, (m79 + m80 = w) ∧ (0 ≤ w ∧ w ≤ 33422850) := ⟨_, rfl, by omega, by omega⟩
theorem br_aq82 {w81 : Int} (b_w81 : 0 ≤ w81 ∧ w81 ≤ 33422850) : ∃ q r : Int, Hd ((w81) / 255 = q) ∧ Hd ((w81) % 255 = r) ∧ (w81 = 255 * q + r) ∧ (0 ≤ q ∧ q ≤ 131070) ∧ (0 ≤ r ∧ r ≤ 254) := ⟨_, _, ⟨rfl⟩, ⟨rfl⟩, by omega, by omega, by omega⟩
theorem br_au84 {q77 q82 u9 x29 : Int} (b_q77 : -148061478 ≤ q77 ∧ q77 ≤ 148001748) (b_q82 : 0 ≤ q82 ∧ q82 ≤ 131070) (b_u9 : 0 ≤ u9 ∧ u9 ≤ 65535) (b_x29 : -32768 ≤ x29 ∧ x29 ≤ 32767) : ∃ m : Int, (max (q77 + q82 + (-1) * u9 + x29) 0 = m) ∧ (0 ≤ m ∧ m ≤ 148165585) := ⟨_, rfl, by omega, by omega⟩
theorem br_aw85 {u84 : Int} (b_u84 : 0 ≤ u84 ∧ u84 ≤ 148165585) : ∃ w : Int, (1000 * u84 = w) ∧ (0 ≤ w ∧ w ≤ 148165585000) := ⟨_, rfl, by omega, by omega⟩
theorem br_aw86 {w70 w72 x0 : Int} (b_w70 : 0 ≤ w70 ∧ w70 ≤ 1601400) (b_w72 : 0 ≤ w72 ∧ w72 ≤ 2402100) (b_x0 : 0 ≤ x0 ∧ x0 ≤ 255) : ∃ w : Int, (w70 + w72 + 10000 * x0 + 1000 = w) ∧ (1000 ≤ w ∧ w ≤ 6554500) := ⟨_, rfl, by omega, by omega⟩
theorem br_aq87 {w85 w86 : Int} (b_w85 : 0 ≤ w85 ∧ w85 ≤ 148165585000) (b_w86 : 1000 ≤ w86 ∧ w86 ≤ 6554500) : ∃ q : Int, Hd (w85.tdiv w86 = q) ∧ QD w85 w86 q ∧ (0 ≤ q ∧ q ≤ 148165585) := by
  obtain ⟨q, h1, h2⟩ := qD_ex w85 w86 (by omega)
  obtain ⟨h3, h4⟩ := qD_rng (lo := 0) (hi := 148165585000) (dl := 1000) h2 (by omega) (by omega) (by omega) (by omega) (by omega) (by omega)
  have h5 := (h2.1 (by omega)).1
  exact ⟨q, h1, h2, by omega, by omega⟩
theorem br_am88 {q87 w86 : Int} (b_q87 : 0 ≤ q87 ∧ q87 ≤ 148165585) (b_w86 : 1000 ≤ w86 ∧ w86 ≤ 6554500) : ∃ m : Int, Hd (q87 * w86 = m) ∧ ((0) * w86 + (1000) * q87 - (0) ≤ m) ∧ ((148165585) * w86 + (6554500) * q87 - (971151326882500) ≤ m) ∧ (m ≤ (148165585) * w86 + (1000) * q87 - (148165585000)) ∧ (m ≤ (0) * w86 + (6554500) * q87 - (0)) ∧ (0 ≤ m ∧ m ≤ 971151326882500) := by
  obtain ⟨h1, h2, h3, h4⟩ := mcc (x := q87) (y := w86) b_q87.1 b_q87.2 b_w86.1 b_w86.2
  refine ⟨_, ⟨rfl⟩, ?_, ?_, ?_, ?_, ?_, ?_⟩ <;> omega
theorem br_am89 {x12 x25 : Int} (b_x12 : 0 ≤ x12 ∧ x12 ≤ 255) (b_x25 : 0 ≤ x25 ∧ x25 ≤ 255) : ∃ m : Int, Hd (x12 * x25 = m) ∧ ((0) * x25 + (0) * x12 - (0) ≤ m) ∧ ((255) * x25 + (255) * x12 - (65025) ≤ m) ∧ (m ≤ (255) * x25 + (0) * x12 - (0)) ∧ (m ≤ (0) * x25 + (255) * x12 - (0)) ∧ (0 ≤ m ∧ m ≤ 65025) := by
  obtain ⟨h1, h2, h3, h4⟩ := mcc (x := x12) (y := x25) b_x12.1 b_x12.2 b_x25.1 b_x25.2
  refine ⟨_, ⟨rfl⟩, ?_, ?_, ?_, ?_, ?_, ?_⟩ <;> omega
theorem br_aw90 {m89 : Int} (b_m89 : 0 ≤ m89 ∧ m89 ≤ 65025) : ∃ w : Int, (10 * m89 = w) ∧ (0 ≤ w ∧ w ≤ 650250) := ⟨_, rfl, by omega, by omega⟩
theorem br_aq91 {w90 : Int} (b_w90 : 0 ≤ w90 ∧ w90 ≤ 650250) : ∃ q r : Int, Hd ((w90) / 255 = q) ∧ Hd ((w90) % 255 = r) ∧ (w90 = 255 * q + r) ∧ (0 ≤ q ∧ q ≤ 2550) ∧ (0 ≤ r ∧ r ≤ 254) := ⟨_, _, ⟨rfl⟩, ⟨rfl⟩, by omega, by omega, by omega⟩
theorem br_au93 {u10 u9 z32 : Int} (b_u10 : 0 ≤ u10 ∧ u10 ≤ 65535) (b_u9 : 0 ≤ u9 ∧ u9 ≤ 65535) (b_z32 : -147963175 ≤ z32 ∧ z32 ≤ 147968980) : ∃ m : Int, (max ((-1) * u10 + (-1) * u9 + z32) 0 = m) ∧ (0 ≤ m ∧ m ≤ 147968980) := ⟨_, rfl, by omega, by omega⟩
theorem br_au94 {z32 : Int} (b_z32 : -147963175 ≤ z32 ∧ z32 ≤ 147968980) : ∃ m : Int, (max (z32) 0 = m) ∧ (0 ≤ m ∧ m ≤ 147968980) := ⟨_, rfl, by omega, by omega⟩
theorem br_aw95 {u94 : Int} (b_u94 : 0 ≤ u94 ∧ u94 ≤ 147968980) : ∃ w : Int, (1000 * u94 = w) ∧ (0 ≤ w ∧ w ≤ 147968980000) := ⟨_, rfl, by omega, by omega⟩
theorem br_aq96 {w95 w36 : Int} (b_w95 : 0 ≤ w95 ∧ w95 ≤ 147968980000) (b_w36 : 1000 ≤ w36 ∧ w36 ≤ 5802250) : ∃ q : Int, Hd (w95.tdiv w36 = q) ∧ QD w95 w36 q ∧ (0 ≤ q ∧ q ≤ 147968980) := by
  obtain ⟨q, h1, h2⟩ := qD_ex w95 w36 (by omega)
  obtain ⟨h3, h4⟩ := qD_rng (lo := 0) (hi := 147968980000) (dl := 1000) h2 (by omega) (by omega) (by omega) (by omega) (by omega) (by omega)
  have h5 := (h2.1 (by omega)).1
  exact ⟨q, h1, h2, by omega, by omega⟩
theorem br_am97 {q96 w36 : Int} (b_q96 : 0 ≤ q96 ∧ q96 ≤ 147968980) (b_w36 : 1000 ≤ w36 ∧ w36 ≤ 5802250) : ∃ m : Int, Hd (q96 * w36 = m) ∧ ((0) * w36 + (1000) * q96 - (0) ≤ m) ∧ ((147968980) * w36 + (5802250) * q96 - (858553014205000) ≤ m) ∧ (m ≤ (147968980) * w36 + (1000) * q96 - (147968980000)) ∧ (m ≤ (0) * w36 + (5802250) * q96 - (0)) ∧ (0 ≤ m ∧ m ≤ 858553014205000) := by
  obtain ⟨h1, h2, h3, h4⟩ := mcc (x := q96) (y := w36) b_q96.1 b_q96.2 b_w36.1 b_w36.2
  refine ⟨_, ⟨rfl⟩, ?_, ?_, ?_, ?_, ?_, ?_⟩ <;> omega
theorem br_aw98 {u93 : Int} (b_u93 : 0 ≤ u93 ∧ u93 ≤ 147968980) : ∃ w : Int, (1000 * u93 = w) ∧ (0 ≤ w ∧ w ≤ 147968980000) := ⟨_, rfl, by omega, by omega⟩
theorem br_aq99 {w98 w40 : Int} (b_w98 : 0 ≤ w98 ∧ w98 ≤ 147968980000) (b_w40 : 1000 ≤ w40 ∧ w40 ≤ 6554500) : ∃ q : Int, Hd (w98.tdiv w40 = q) ∧ QD w98 w40 q ∧ (0 ≤ q ∧ q ≤ 147968980) := by
  obtain ⟨q, h1, h2⟩ := qD_ex w98 w40 (by omega)
  obtain ⟨h3, h4⟩ := qD_rng (lo := 0) (hi := 147968980000) (dl := 1000) h2 (by omega) (by omega) (by omega) (by omega) (by omega) (by omega)
  have h5 := (h2.1 (by omega)).1
  exact ⟨q, h1, h2, by omega, by omega⟩
theorem br_am100 {q99 w40 : Int} (b_q99 : 0 ≤ q99 ∧ q99 ≤ 147968980) (b_w40 : 1000 ≤ w40 ∧ w40 ≤ 6554500) : ∃ m : Int, Hd (q99 * w40 = m) ∧ ((0) * w40 + (1000) * q99 - (0) ≤ m) ∧ ((147968980) * w40 + (6554500) * q99 - (969862679410000) ≤ m) ∧ (m ≤ (147968980) * w40 + (1000) * q99 - (147968980000)) ∧ (m ≤ (0) * w40 + (6554500) * q99 - (0)) ∧ (0 ≤ m ∧ m ≤ 969862679410000) := by
  obtain ⟨h1, h2, h3, h4⟩ := mcc (x := q99) (y := w40) b_q99.1 b_q99.2 b_w40.1 b_w40.2
  refine ⟨_, ⟨rfl⟩, ?_, ?_, ?_, ?_, ?_, ?_⟩ <;> omega
theorem br_am101 {q7 w70 : Int} (b_q7 : 0 ≤ q7 ∧ q7 ≤ 16383) (b_w70 : 0 ≤ w70 ∧ w70 ≤ 1601400) : ∃ m : Int, Hd (q7 * w70 = m) ∧ ((0) * w70 + (0) * q7 - (0) ≤ m) ∧ ((16383) * w70 + (1601400) * q7 - (26235736200) ≤ m) ∧ (m ≤ (16383) * w70 + (0) * q7 - (0)) ∧ (m ≤ (0) * w70 + (1601400) * q7 - (0)) ∧ (0 ≤ m ∧ m ≤ 26235736200) := by
  obtain ⟨h1, h2, h3, h4⟩ := mcc (x := q7) (y := w70) b_q7.1 b_q7.2 b_w70.1 b_w70.2
  refine ⟨_, ⟨rfl⟩, ?_, ?_, ?_, ?_, ?_, ?_⟩ <;> omega
theorem br_am102 {q7 w72 : Int} (b_q7 : 0 ≤ q7 ∧ q7 ≤ 16383) (b_w72 : 0 ≤ w72 ∧ w72 ≤ 2402100) : ∃ m : Int, Hd (q7 * w72 = m) ∧ ((0) * w72 + (0) * q7 - (0) ≤ m) ∧ ((16383) * w72 + (2402100) * q7 - (39353604300) ≤ m) ∧ (m ≤ (16383) * w72 + (0) * q7 - (0)) ∧ (m ≤ (0) * w72 + (2402100) * q7 - (0)) ∧ (0 ≤ m ∧ m ≤ 39353604300) := by
  obtain ⟨h1, h2, h3, h4⟩ := mcc (x := q7) (y := w72) b_q7.1 b_q7.2 b_w72.1 b_w72.2
  refine ⟨_, ⟨rfl⟩, ?_, ?_, ?_, ?_, ?_, ?_⟩ <;> omega
theorem br_aw103 {m101 m102 m19 q7 : Int} (b_m101 : 0 ≤ m101 ∧ m101 ≤ 26235736200) (b_m102 : 0 ≤ m102 ∧ m102 ≤ 39353604300) (b_m19 : 0 ≤ m19 ∧ m19 ≤ 4177665) (b_q7 : 0 ≤ q7 ∧ q7 ≤ 16383) : ∃ w : Int, (m101 + m102 + 10000 * m19 + 1000 * q7 = w) ∧ (0 ≤ w ∧ w ≤ 107382373500) := ⟨_, rfl, by omega, by omega⟩
theorem br_az104 {w103 : Int} (b_w103 : 0 ≤ w103 ∧ w103 ≤ 107382373500) : ∃ z : Int, (w103 ≤ 1000 * z ∧ 1000 * z ≤ w103 + 999) ∧ (0 ≤ z ∧ z ≤ 107382374) := by
  obtain ⟨z, h1, h2⟩ := ru_ex (w103) 1000 (by omega)
  exact ⟨z, ⟨by omega, by omega⟩, by omega, by omega⟩
theorem br_au105 {u9 x29 z104 : Int} (b_u9 : 0 ≤ u9 ∧ u9 ≤ 65535) (b_x29 : -32768 ≤ x29 ∧ x29 ≤ 32767) (b_z104 : 0 ≤ z104 ∧ z104 ≤ 107382374) : ∃ m : Int, (max ((-1) * u9 + x29 + z104) 0 = m) ∧ (0 ≤ m ∧ m ≤ 107415141) := ⟨_, rfl, by omega, by omega⟩
theorem br_au106 {u10 x29 z104 : Int} (b_u10 : 0 ≤ u10 ∧ u10 ≤ 65535) (b_x29 : -32768 ≤ x29 ∧ x29 ≤ 32767) (b_z104 : 0 ≤ z104 ∧ z104 ≤ 107382374) : ∃ m : Int, (max (u10 + x29 + z104) 0 = m) ∧ (0 ≤ m ∧ m ≤ 107480676) := ⟨_, rfl, by omega, by omega⟩
theorem br_aw107 {u106 : Int} (b_u106 : 0 ≤ u106 ∧ u106 ≤ 107480676) : ∃ w : Int, (1000 * u106 = w) ∧ (0 ≤ w ∧ w ≤ 107480676000) := ⟨_, rfl, by omega, by omega⟩
theorem br_aq108 {w107 w36 : Int} (b_w107 : 0 ≤ w107 ∧ w107 ≤ 107480676000) (b_w36 : 1000 ≤ w36 ∧ w36 ≤ 5802250) : ∃ q : Int, Hd (w107.tdiv w36 = q) ∧ QD w107 w36 q ∧ (0 ≤ q ∧ q ≤ 107480676) := by
  obtain ⟨q, h1, h2⟩ := qD_ex w107 w36 (by omega)
  obtain ⟨h3, h4⟩ := qD_rng (lo := 0) (hi := 107480676000) (dl := 1000) h2 (by omega) (by omega) (by omega) (by omega) (by omega) (by omega)
  have h5 := (h2.1 (by omega)).1
  exact ⟨q, h1, h2, by omega, by omega⟩
theorem br_am109 {q108 w36 : Int} (b_q108 : 0 ≤ q108 ∧ q108 ≤ 107480676) (b_w36 : 1000 ≤ w36 ∧ w36 ≤ 5802250) : ∃ m : Int, Hd (q108 * w36 = m) ∧ ((0) * w36 + (1000) * q108 - (0) ≤ m) ∧ ((107480676) * w36 + (5802250) * q108 - (623629752321000) ≤ m) ∧ (m ≤ (107480676) * w36 + (1000) * q108 - (107480676000)) ∧ (m ≤ (0) * w36 + (5802250) * q108 - (0)) ∧ (0 ≤ m ∧ m ≤ 623629752321000) := by
  obtain ⟨h1, h2, h3, h4⟩ := mcc (x := q108) (y := w36) b_q108.1 b_q108.2 b_w36.1 b_w36.2
  refine ⟨_, ⟨rfl⟩, ?_, ?_, ?_, ?_, ?_, ?_⟩ <;> omega
theorem br_aw110 {u105 : Int} (b_u105 : 0 ≤ u105 ∧ u105 ≤ 107415141) : ∃ w : Int, (1000 * u105 = w) ∧ (0 ≤ w ∧ w ≤ 107415141000) := ⟨_, rfl, by omega, by omega⟩
theorem br_aq111 {w110 w40 : Int} (b_w110 : 0 ≤ w110 ∧ w110 ≤ 107415141000) (b_w40 : 1000 ≤ w40 ∧ w40 ≤ 6554500) : ∃ q : Int, Hd (w110.tdiv w40 = q) ∧ QD w110 w40 q ∧ (0 ≤ q ∧ q ≤ 107415141) := by
  obtain ⟨q, h1, h2⟩ := qD_ex w110 w40 (by omega)
  obtain ⟨h3, h4⟩ := qD_rng (lo := 0) (hi := 107415141000) (dl := 1000) h2 (by omega) (by omega) (by omega) (by omega) (by omega) (by omega)
  have h5 := (h2.1 (by omega)).1
  exact ⟨q, h1, h2, by omega, by omega⟩
theorem br_am112 {q111 w40 : Int} (b_q111 : 0 ≤ q111 ∧ q111 ≤ 107415141) (b_w40 : 1000 ≤ w40 ∧ w40 ≤ 6554500) : ∃ m : Int, Hd (q111 * w40 = m) ∧ ((0) * w40 + (1000) * q111 - (0) ≤ m) ∧ ((107415141) * w40 + (6554500) * q111 - (704052541684500) ≤ m) ∧ (m ≤ (107415141) * w40 + (1000) * q111 - (107415141000)) ∧ (m ≤ (0) * w40 + (6554500) * q111 - (0)) ∧ (0 ≤ m ∧ m ≤ 704052541684500) := by
  obtain ⟨h1, h2, h3, h4⟩ := mcc (x := q111) (y := w40) b_q111.1 b_q111.2 b_w40.1 b_w40.2
  refine ⟨_, ⟨rfl⟩, ?_, ?_, ?_, ?_, ?_, ?_⟩ <;> omega
theorem br_au113 {u9 x29 z104 : Int} (b_u9 : 0 ≤ u9 ∧ u9 ≤ 65535) (b_x29 : -32768 ≤ x29 ∧ x29 ≤ 32767) (b_z104 : 0 ≤ z104 ∧ z104 ≤ 107382374) : ∃ m : Int, (max (u9 + (-1) * x29 + z104) 0 = m) ∧ (0 ≤ m ∧ m ≤ 107480677) := ⟨_, rfl, by omega, by omega⟩
theorem br_au114 {u113 u9 x29 : Int} (b_u113 : 0 ≤ u113 ∧ u113 ≤ 107480677) (b_u9 : 0 ≤ u9 ∧ u9 ≤ 65535) (b_x29 : -32768 ≤ x29 ∧ x29 ≤ 32767) : ∃ m : Int, (max (u113 + (-1) * u9 + x29) 0 = m) ∧ (0 ≤ m ∧ m ≤ 107513444) := ⟨_, rfl, by omega, by omega⟩
theorem br_au115 {u10 u113 x29 : Int} (b_u10 : 0 ≤ u10 ∧ u10 ≤ 65535) (b_u113 : 0 ≤ u113 ∧ u113 ≤ 107480677) (b_x29 : -32768 ≤ x29 ∧ x29 ≤ 32767) : ∃ m : Int, (max (u10 + u113 + x29) 0 = m) ∧ (0 ≤ m ∧ m ≤ 107578979) := ⟨_, rfl, by omega, by omega⟩
theorem br_aw116 {u115 : Int} (b_u115 : 0 ≤ u115 ∧ u115 ≤ 107578979) : ∃ w : Int, (1000 * u115 = w) ∧ (0 ≤ w ∧ w ≤ 107578979000) := ⟨_, rfl, by omega, by omega⟩
theorem br_aq117 {w116 w36 : Int} (b_w116 : 0 ≤ w116 ∧ w116 ≤ 107578979000) (b_w36 : 1000 ≤ w36 ∧ w36 ≤ 5802250) : ∃ q : Int, Hd (w116.tdiv w36 = q) ∧ QD w116 w36 q ∧ (0 ≤ q ∧ q ≤ 107578979) := by
  obtain ⟨q, h1, h2⟩ := qD_ex w116 w36 (by omega)
  obtain ⟨h3, h4⟩ := qD_rng (lo := 0) (hi := 107578979000) (dl := 1000) h2 (by omega) (by omega) (by omega) (by omega) (by omega) (by omega)
  have h5 := (h2.1 (by omega)).1
  exact ⟨q, h1, h2, by omega, by omega⟩
theorem br_am118 {q117 w36 : Int} (b_q117 : 0 ≤ q117 ∧ q117 ≤ 107578979) (b_w36 : 1000 ≤ w36 ∧ w36 ≤ 5802250) : ∃ m : Int, Hd (q117 * w36 = m) ∧ ((0) * w36 + (1000) * q117 - (0) ≤ m) ∧ ((107578979) * w36 + (5802250) * q117 - (624200130902750) ≤ m) ∧ (m ≤ (107578979) * w36 + (1000) * q117 - (107578979000)) ∧ (m ≤ (0) * w36 + (5802250) * q117 - (0)) ∧ (0 ≤ m ∧ m ≤ 624200130902750) := by
  obtain ⟨h1, h2, h3, h4⟩ := mcc (x := q117) (y := w36) b_q117.1 b_q117.2 b_w36.1 b_w36.2
  refine ⟨_, ⟨rfl⟩, ?_, ?_, ?_, ?_, ?_, ?_⟩ <;> omega
theorem br_aw119 {u114 : Int} (b_u114 : 0 ≤ u114 ∧ u114 ≤ 107513444) : ∃ w : Int, (1000 * u114 = w) ∧ (0 ≤ w ∧ w ≤ 107513444000) := ⟨_, rfl, by omega, by omega⟩
theorem br_aq120 {w119 w40 : Int} (b_w119 : 0 ≤ w119 ∧ w119 ≤ 107513444000) (b_w40 : 1000 ≤ w40 ∧ w40 ≤ 6554500) : ∃ q : Int, Hd (w119.tdiv w40 = q) ∧ QD w119 w40 q ∧ (0 ≤ q ∧ q ≤ 107513444) := by
  obtain ⟨q, h1, h2⟩ := qD_ex w119 w40 (by omega)
  obtain ⟨h3, h4⟩ := qD_rng (lo := 0) (hi := 107513444000) (dl := 1000) h2 (by omega) (by omega) (by omega) (by omega) (by omega) (by omega)
  have h5 := (h2.1 (by omega)).1
  exact ⟨q, h1, h2, by omega, by omega⟩
theorem br_am121 {q120 w40 : Int} (b_q120 : 0 ≤ q120 ∧ q120 ≤ 107513444) (b_w40 : 1000 ≤ w40 ∧ w40 ≤ 6554500) : ∃ m : Int, Hd (q120 * w40 = m) ∧ ((0) * w40 + (1000) * q120 - (0) ≤ m) ∧ ((107513444) * w40 + (6554500) * q120 - (704696868698000) ≤ m) ∧ (m ≤ (107513444) * w40 + (1000) * q120 - (107513444000)) ∧ (m ≤ (0) * w40 + (6554500) * q120 - (0)) ∧ (0 ≤ m ∧ m ≤ 704696868698000) := by
  obtain ⟨h1, h2, h3, h4⟩ := mcc (x := q120) (y := w40) b_q120.1 b_q120.2 b_w40.1 b_w40.2
  refine ⟨_, ⟨rfl⟩, ?_, ?_, ?_, ?_, ?_, ?_⟩ <;> omega
theorem br_au122 {u9 x29 z21 : Int} (b_u9 : 0 ≤ u9 ∧ u9 ≤ 65535) (b_x29 : -32768 ≤ x29 ∧ x29 ≤ 32767) (b_z21 : 0 ≤ z21 ∧ z21 ≤ 107382374) : ∃ m : Int, (max (u9 + (-1) * x29 + z21) 0 = m) ∧ (0 ≤ m ∧ m ≤ 107480677) := ⟨_, rfl, by omega, by omega⟩
theorem br_au123 {u122 u9 x29 : Int} (b_u122 : 0 ≤ u122 ∧ u122 ≤ 107480677) (b_u9 : 0 ≤ u9 ∧ u9 ≤ 65535) (b_x29 : -32768 ≤ x29 ∧ x29 ≤ 32767) : ∃ m : Int, (max (u122 + (-1) * u9 + x29) 0 = m) ∧ (0 ≤ m ∧ m ≤ 107513444) := ⟨_, rfl, by omega, by omega⟩
theorem br_au124 {u10 u122 x29 : Int} (b_u10 : 0 ≤ u10 ∧ u10 ≤ 65535) (b_u122 : 0 ≤ u122 ∧ u122 ≤ 107480677) (b_x29 : -32768 ≤ x29 ∧ x29 ≤ 32767) : ∃ m : Int, (max (u10 + u122 + x29) 0 = m) ∧ (0 ≤ m ∧ m ≤ 107578979) := ⟨_, rfl, by omega, by omega⟩
theorem br_aw125 {u124 : Int} (b_u124 : 0 ≤ u124 ∧ u124 ≤ 107578979) : ∃ w : Int, (1000 * u124 = w) ∧ (0 ≤ w ∧ w ≤ 107578979000) := ⟨_, rfl, by omega, by omega⟩
theorem br_aq126 {w125 w36 : Int} (b_w125 : 0 ≤ w125 ∧ w125 ≤ 107578979000) (b_w36 : 1000 ≤ w36 ∧ w36 ≤ 5802250) : ∃ q : Int, Hd (w125.tdiv w36 = q) ∧ QD w125 w36 q ∧ (0 ≤ q ∧ q ≤ 107578979) := by
  obtain ⟨q, h1, h2⟩ := qD_ex w125 w36 (by omega)
  obtain ⟨h3, h4⟩ := qD_rng (lo := 0) (hi := 107578979000) (dl := 1000) h2 (by omega) (by omega) (by omega) (by omega) (by omega) (by omega)
  have h5 := (h2.1 (by omega)).1
  exact ⟨q, h1, h2, by omega, by omega⟩
theorem br_am127 {q126 w36 : Int} (b_q126 : 0 ≤ q126 ∧ q126 ≤ 107578979) (b_w36 : 1000 ≤ w36 ∧ w36 ≤ 5802250) : ∃ m : Int, Hd (q126 * w36 = m) ∧ ((0) * w36 + (1000) * q126 - (0) ≤ m) ∧ ((107578979) * w36 + (5802250) * q126 - (624200130902750) ≤ m) ∧ (m ≤ (107578979) * w36 + (1000) * q126 - (107578979000)) ∧ (m ≤ (0) * w36 + (5802250) * q126 - (0)) ∧ (0 ≤ m ∧ m ≤ 624200130902750) := by
  obtain ⟨h1, h2, h3, h4⟩ := mcc (x := q126) (y := w36) b_q126.1 b_q126.2 b_w36.1 b_w36.2
  refine ⟨_, ⟨rfl⟩, ?_, ?_, ?_, ?_, ?_, ?_⟩ <;> omega
theorem br_aw128 {u123 : Int} (b_u123 : 0 ≤ u123 ∧ u123 ≤ 107513444) : ∃ w : Int, (1000 * u123 = w) ∧ (0 ≤ w ∧ w ≤ 107513444000) := ⟨_, rfl, by omega, by omega⟩
theorem br_aq129 {w128 w40 : Int} (b_w128 : 0 ≤ w128 ∧ w128 ≤ 107513444000) (b_w40 : 1000 ≤ w40 ∧ w40 ≤ 6554500) : ∃ q : Int, Hd (w128.tdiv w40 = q) ∧ QD w128 w40 q ∧ (0 ≤ q ∧ q ≤ 107513444) := by
  obtain ⟨q, h1, h2⟩ := qD_ex w128 w40 (by omega)
  obtain ⟨h3, h4⟩ := qD_rng (lo := 0) (hi := 107513444000) (dl := 1000) h2 (by omega) (by omega) (by omega) (by omega) (by omega) (by omega)
  have h5 := (h2.1 (by omega)).1
  exact ⟨q, h1, h2, by omega, by omega⟩
theorem br_am130 {q129 w40 : Int} (b_q129 : 0 ≤ q129 ∧ q129 ≤ 107513444) (b_w40 : 1000 ≤ w40 ∧ w40 ≤ 6554500) : ∃ m : Int, Hd (q129 * w40 = m) ∧ ((0) * w40 + (1000) * q129 - (0) ≤ m) ∧ ((107513444) * w40 + (6554500) * q129 - (704696868698000) ≤ m) ∧ (m ≤ (107513444) * w40 + (1000) * q129 - (107513444000)) ∧ (m ≤ (0) * w40 + (6554500) * q129 - (0)) ∧ (0 ≤ m ∧ m ≤ 704696868698000) := by
  obtain ⟨h1, h2, h3, h4⟩ := mcc (x := q129) (y := w40) b_q129.1 b_q129.2 b_w40.1 b_w40.2
  refine ⟨_, ⟨rfl⟩, ?_, ?_, ?_, ?_, ?_, ?_⟩ <;> omega
theorem br_aq131 {u10 u122 x29 z32 : Int} (b_u10 : 0 ≤ u10 ∧ u10 ≤ 65535) (b_u122 : 0 ≤ u122 ∧ u122 ≤ 107480677) (b_x29 : -32768 ≤ x29 ∧ x29 ≤ 32767) (b_z32 : -147963175 ≤ z32 ∧ z32 ≤ 147968980) : ∃ q r : Int, Hd (((-1) * u10 + (-1) * u122 + (-1) * x29 + z32 + (-1)).tdiv 2 = q) ∧ Hd (((-1) * u10 + (-1) * u122 + (-1) * x29 + z32 + (-1)).tmod 2 = r) ∧ ((-1) * u10 + (-1) * u122 + (-1) * x29 + z32 + (-1) = 2 * q + r) ∧ (0 ≤ (-1) * u10 + (-1) * u122 + (-1) * x29 + z32 + (-1) ∧ 0 ≤ r ∨ (-1) * u10 + (-1) * u122 + (-1) * x29 + z32 + (-1) ≤ 0 ∧ r ≤ 0) ∧ (-127771077 ≤ q ∧ q ≤ 74000873) ∧ (-1 ≤ r ∧ r ≤ 1) := by
  obtain ⟨q, r, h1, h2, h3, h4, h5⟩ := td_ex2 ((-1) * u10 + (-1) * u122 + (-1) * x29 + z32 + (-1)) 2 (by omega)
  exact ⟨q, r, h1, h2, h3, h4, by omega, by omega⟩
theorem br_au133 {q131 u122 u9 x29 : Int} (b_q131 : -127771077 ≤ q131 ∧ q131 ≤ 74000873) (b_u122 : 0 ≤ u122 ∧ u122 ≤ 107480677) (b_u9 : 0 ≤ u9 ∧ u9 ≤ 65535) (b_x29 : -32768 ≤ x29 ∧ x29 ≤ 32767) : ∃ m : Int, (max (q131 + u122 + (-1) * u9 + x29) 0 = m) ∧ (0 ≤ m ∧ m ≤ 181514317) := ⟨_, rfl, by omega, by omega⟩
theorem br_au134 {q131 u10 u122 x29 : Int} (b_q131 : -127771077 ≤ q131 ∧ q131 ≤ 74000873) (b_u10 : 0 ≤ u10 ∧ u10 ≤ 65535) (b_u122 : 0 ≤ u122 ∧ u122 ≤ 107480677) (b_x29 : -32768 ≤ x29 ∧ x29 ≤ 32767) : ∃ m : Int, (max (q131 + u10 + u122 + x29) 0 = m) ∧ (0 ≤ m ∧ m ≤ 181579852) := ⟨_, rfl, by omega, by omega⟩
theorem br_aw135 {u134 : Int} (b_u134 : 0 ≤ u134 ∧ u134 ≤ 181579852) : ∃ w : Int, (1000 * u134 = w) ∧ (0 ≤ w ∧ w ≤ 181579852000) := ⟨_, rfl, by omega, by omega⟩
theorem br_aq136 {w135 w36 : Int} (b_w135 : 0 ≤ w135 ∧ w135 ≤ 181579852000) (b_w36 : 1000 ≤ w36 ∧ w36 ≤ 5802250) : ∃ q : Int, Hd (w135.tdiv w36 = q) ∧ QD w135 w36 q ∧ (0 ≤ q ∧ q ≤ 181579852) := by
  obtain ⟨q, h1, h2⟩ := qD_ex w135 w36 (by omega)
  obtain ⟨h3, h4⟩ := qD_rng (lo := 0) (hi := 181579852000) (dl := 1000) h2 (by omega) (by omega) (by omega) (by omega) (by omega) (by omega)
  have h5 := (h2.1 (by omega)).1
  exact ⟨q, h1, h2, by omega, by omega⟩
theorem br_am137 {q136 w36 : Int} (b_q136 : 0 ≤ q136 ∧ q136 ≤ 181579852) (b_w36 : 1000 ≤ w36 ∧ w36 ≤ 5802250) : ∃ m : Int, Hd (q136 * w36 = m) ∧ ((0) * w36 + (1000) * q136 - (0) ≤ m) ∧ ((181579852) * w36 + (5802250) * q136 - (1053571696267000) ≤ m) ∧ (m ≤ (181579852) * w36 + (1000) * q136 - (181579852000)) ∧ (m ≤ (0) * w36 + (5802250) * q136 - (0)) ∧ (0 ≤ m ∧ m ≤ 1053571696267000) := by
  obtain ⟨h1, h2, h3, h4⟩ := mcc (x := q136) (y := w36) b_q136.1 b_q136.2 b_w36.1 b_w36.2
  refine ⟨_, ⟨rfl⟩, ?_, ?_, ?_, ?_, ?_, ?_⟩ <;> omega
theorem br_aw138 {u133 : Int} (b_u133 : 0 ≤ u133 ∧ u133 ≤ 181514317) : ∃ w : Int, (1000 * u133 = w) ∧ (0 ≤ w ∧ w ≤ 181514317000) := ⟨_, rfl, by omega, by omega⟩
theorem br_aq139 {w138 w40 : Int} (b_w138 : 0 ≤ w138 ∧ w138 ≤ 181514317000) (b_w40 : 1000 ≤ w40 ∧ w40 ≤ 6554500) : ∃ q : Int, Hd (w138.tdiv w40 = q) ∧ QD w138 w40 q ∧ (0 ≤ q ∧ q ≤ 181514317) := by
  obtain ⟨q, h1, h2⟩ := qD_ex w138 w40 (by omega)
  obtain ⟨h3, h4⟩ := qD_rng (lo := 0) (hi := 181514317000) (dl := 1000) h2 (by omega) (by omega) (by omega) (by omega) (by omega) (by omega)
  have h5 := (h2.1 (by omega)).1
  exact ⟨q, h1, h2, by omega, by omega⟩
theorem br_am140 {q139 w40 : Int} (b_q139 : 0 ≤ q139 ∧ q139 ≤ 181514317) (b_w40 : 1000 ≤ w40 ∧ w40 ≤ 6554500) : ∃ m : Int, Hd (q139 * w40 = m) ∧ ((0) * w40 + (1000) * q139 - (0) ≤ m) ∧ ((181514317) * w40 + (6554500) * q139 - (1189735590776500) ≤ m) ∧ (m ≤ (181514317) * w40 + (1000) * q139 - (181514317000)) ∧ (m ≤ (0) * w40 + (6554500) * q139 - (0)) ∧ (0 ≤ m ∧ m ≤ 1189735590776500) := by
  obtain ⟨h1, h2, h3, h4⟩ := mcc (x := q139) (y := w40) b_q139.1 b_q139.2 b_w40.1 b_w40.2
  refine ⟨_, ⟨rfl⟩, ?_, ?_, ?_, ?_, ?_, ?_⟩ <;> omega
theorem br_am141 {u122 x21 : Int} (b_u122 : 0 ≤ u122 ∧ u122 ≤ 107480677) (b_x21 : 0 ≤ x21 ∧ x21 ≤ 255) : ∃ m : Int, Hd (u122 * x21 = m) ∧ ((0) * x21 + (0) * u122 - (0) ≤ m) ∧ ((107480677) * x21 + (255) * u122 - (27407572635) ≤ m) ∧ (m ≤ (107480677) * x21 + (0) * u122 - (0)) ∧ (m ≤ (0) * x21 + (255) * u122 - (0)) ∧ (0 ≤ m ∧ m ≤ 27407572635) := by
  obtain ⟨h1, h2, h3, h4⟩ := mcc (x := u122) (y := x21) b_u122.1 b_u122.2 b_x21.1 b_x21.2
  refine ⟨_, ⟨rfl⟩, ?_, ?_, ?_, ?_, ?_, ?_⟩ <;> omega
theorem br_aw142 {m141 m73 m74 m75 x21 : Int} (b_m141 : 0 ≤ m141 ∧ m141 ≤ 27407572635) (b_m73 : 0 ≤ m73 ∧ m73 ≤ 16711425) (b_m74 : -8355840 ≤ m74 ∧ m74 ≤ 8355585) (b_m75 : -37730609625 ≤ m75 ∧ m75 ≤ 37732089900) (b_x21 : 0 ≤ x21 ∧ x21 ≤ 255) : ∃ w : Int, ((-1) * m141 + (-1) * m73 + (-1) * m74 + m75 + (-1) * x21 = w) ∧ (-65163249525 ≤ w ∧ w ≤ 37740445740) := ⟨_, rfl, by omega, by omega⟩
theorem br_aq143 {w142 : Int} (b_w142 : -65163249525 ≤ w142 ∧ w142 ≤ 37740445740) : ∃ q r : Int, Hd ((w142).tdiv 255 = q) ∧ Hd ((w142).tmod 255 = r) ∧ (w142 = 255 * q + r) ∧ (0 ≤ w142 ∧ 0 ≤ r ∨ w142 ≤ 0 ∧ r ≤ 0) ∧ (-255542155 ≤ q ∧ q ≤ 148001748) ∧ (-254 ≤ r ∧ r ≤ 254) := by
  obtain ⟨q, r, h1, h2, h3, h4, h5⟩ := td_ex2 (w142) 255 (by omega)
  exact ⟨q, r, h1, h2, h3, h4, by omega, by omega⟩
theorem br_au145 {q143 q82 u122 u9 x29 : Int} (b_q143 : -255542155 ≤ q143 ∧ q143 ≤ 148001748) (b_q82 : 0 ≤ q82 ∧ q82 ≤ 131070) (b_u122 : 0 ≤ u122 ∧ u122 ≤ 107480677) (b_u9 : 0 ≤ u9 ∧ u9 ≤ 65535) (b_x29 : -32768 ≤ x29 ∧ x29 ≤ 32767) : ∃ m : Int, (max (q143 + q82 + u122 + (-1) * u9 + x29) 0 = m) ∧ (0 ≤ m ∧ m ≤ 255646262) := ⟨_, rfl, by omega, by omega⟩
theorem br_aw146 {u145 : Int} (b_u145 : 0 ≤ u145 ∧ u145 ≤ 255646262) : ∃ w : Int, (1000 * u145 = w) ∧ (0 ≤ w ∧ w ≤ 255646262000) := ⟨_, rfl, by omega, by omega⟩
theorem br_aq147 {w146 w86 : Int} (b_w146 : 0 ≤ w146 ∧ w146 ≤ 255646262000) (b_w86 : 1000 ≤ w86 ∧ w86 ≤ 6554500) : ∃ q : Int, Hd (w146.tdiv w86 = q) ∧ QD w146 w86 q ∧ (0 ≤ q ∧ q ≤ 255646262) := by
  obtain ⟨q, h1, h2⟩ := qD_ex w146 w86 (by omega)
  obtain ⟨h3, h4⟩ := qD_rng (lo := 0) (hi := 255646262000) (dl := 1000) h2 (by omega) (by omega) (by omega) (by omega) (by omega) (by omega)
  have h5 := (h2.1 (by omega)).1
  exact ⟨q, h1, h2, by omega, by omega⟩
theorem br_am148 {q147 w86 : Int} (b_q147 : 0 ≤ q147 ∧ q147 ≤ 255646262) (b_w86 : 1000 ≤ w86 ∧ w86 ≤ 6554500) : ∃ m : Int, Hd (q147 * w86 = m) ∧ ((0) * w86 + (1000) * q147 - (0) ≤ m) ∧ ((255646262) * w86 + (6554500) * q147 - (1675633424279000) ≤ m) ∧ (m ≤ (255646262) * w86 + (1000) * q147 - (255646262000)) ∧ (m ≤ (0) * w86 + (6554500) * q147 - (0)) ∧ (0 ≤ m ∧ m ≤ 1675633424279000) := by
  obtain ⟨h1, h2, h3, h4⟩ := mcc (x := q147) (y := w86) b_q147.1 b_q147.2 b_w86.1 b_w86.2
  refine ⟨_, ⟨rfl⟩, ?_, ?_, ?_, ?_, ?_, ?_⟩ <;> omega
theorem br_au149 {u122 u9 x29 : Int} (b_u122 : 0 ≤ u122 ∧ u122 ≤ 107480677) (b_u9 : 0 ≤ u9 ∧ u9 ≤ 65535) (b_x29 : -32768 ≤ x29 ∧ x29 ≤ 32767) : ∃ m : Int, (max (u122 + (-1) * u9 + x29 + (-1)) 0 = m) ∧ (0 ≤ m ∧ m ≤ 107513443) := ⟨_, rfl, by omega, by omega⟩
theorem br_au150 {u10 u122 x29 : Int} (b_u10 : 0 ≤ u10 ∧ u10 ≤ 65535) (b_u122 : 0 ≤ u122 ∧ u122 ≤ 107480677) (b_x29 : -32768 ≤ x29 ∧ x29 ≤ 32767) : ∃ m : Int, (max (u10 + u122 + x29 + (-1)) 0 = m) ∧ (0 ≤ m ∧ m ≤ 107578978) := ⟨_, rfl, by omega, by omega⟩
theorem br_aw151 {u150 : Int} (b_u150 : 0 ≤ u150 ∧ u150 ≤ 107578978) : ∃ w : Int, (1000 * u150 = w) ∧ (0 ≤ w ∧ w ≤ 107578978000) := ⟨_, rfl, by omega, by omega⟩
theorem br_aq152 {w151 w36 : Int} (b_w151 : 0 ≤ w151 ∧ w151 ≤ 107578978000) (b_w36 : 1000 ≤ w36 ∧ w36 ≤ 5802250) : ∃ q : Int, Hd (w151.tdiv w36 = q) ∧ QD w151 w36 q ∧ (0 ≤ q ∧ q ≤ 107578978) := by
  obtain ⟨q, h1, h2⟩ := qD_ex w151 w36 (by omega)
  obtain ⟨h3, h4⟩ := qD_rng (lo := 0) (hi := 107578978000) (dl := 1000) h2 (by omega) (by omega) (by omega) (by omega) (by omega) (by omega)
  have h5 := (h2.1 (by omega)).1
  exact ⟨q, h1, h2, by omega, by omega⟩
theorem br_am153 {q152 w36 : Int} (b_q152 : 0 ≤ q152 ∧ q152 ≤ 107578978) (b_w36 : 1000 ≤ w36 ∧ w36 ≤ 5802250) : ∃ m : Int, Hd (q152 * w36 = m) ∧ ((0) * w36 + (1000) * q152 - (0) ≤ m) ∧ ((107578978) * w36 + (5802250) * q152 - (624200125100500) ≤ m) ∧ (m ≤ (107578978) * w36 + (1000) * q152 - (107578978000)) ∧ (m ≤ (0) * w36 + (5802250) * q152 - (0)) ∧ (0 ≤ m ∧ m ≤ 624200125100500) := by
  obtain ⟨h1, h2, h3, h4⟩ := mcc (x := q152) (y := w36) b_q152.1 b_q152.2 b_w36.1 b_w36.2
  refine ⟨_, ⟨rfl⟩, ?_, ?_, ?_, ?_, ?_, ?_⟩ <;> omega
theorem br_aw154 {u149 : Int} (b_u149 : 0 ≤ u149 ∧ u149 ≤ 107513443) : ∃ w : Int, (1000 * u149 = w) ∧ (0 ≤ w ∧ w ≤ 107513443000) := ⟨_, rfl, by omega, by omega⟩
theorem br_aq155 {w154 w40 : Int} (b_w154 : 0 ≤ w154 ∧ w154 ≤ 107513443000) (b_w40 : 1000 ≤ w40 ∧ w40 ≤ 6554500) : ∃ q : Int, Hd (w154.tdiv w40 = q) ∧ QD w154 w40 q ∧ (0 ≤ q ∧ q ≤ 107513443) := by
  obtain ⟨q, h1, h2⟩ := qD_ex w154 w40 (by omega)
  obtain ⟨h3, h4⟩ := qD_rng (lo := 0) (hi := 107513443000) (dl := 1000) h2 (by omega) (by omega) (by omega) (by omega) (by omega) (by omega)
  have h5 := (h2.1 (by omega)).1
  exact ⟨q, h1, h2, by omega, by omega⟩
theorem br_am156 {q155 w40 : Int} (b_q155 : 0 ≤ q155 ∧ q155 ≤ 107513443) (b_w40 : 1000 ≤ w40 ∧ w40 ≤ 6554500) : ∃ m : Int, Hd (q155 * w40 = m) ∧ ((0) * w40 + (1000) * q155 - (0) ≤ m) ∧ ((107513443) * w40 + (6554500) * q155 - (704696862143500) ≤ m) ∧ (m ≤ (107513443) * w40 + (1000) * q155 - (107513443000)) ∧ (m ≤ (0) * w40 + (6554500) * q155 - (0)) ∧ (0 ≤ m ∧ m ≤ 704696862143500) := by
  obtain ⟨h1, h2, h3, h4⟩ := mcc (x := q155) (y := w40) b_q155.1 b_q155.2 b_w40.1 b_w40.2
  refine ⟨_, ⟨rfl⟩, ?_, ?_, ?_, ?_, ?_, ?_⟩ <;> omega
theorem br_rf1 {u24 x11 m25 m26 m27 m28 m29 m30 w22 w23 x0 q37 w35 w36 : Int} (b_w36 : 1000 ≤ w36 ∧ w36 ≤ 5802250) (q37h : QD w35 w36 q37) (m25e : Hd (u24 * w22 = m25)) (m26e : Hd (u24 * w23 = m26)) (m27e : Hd (u24 * x0 = m27)) (m28e : Hd (w22 * x11 = m28)) (m29e : Hd (w23 * x11 = m29)) (m30e : Hd (x0 * x11 = m30)) (w36s : w22 + w23 + 10000 * x0 + 1000 = w36) : 1 ≤ (-1) * u24 + 100 * x11 + 2 ∨ 0 ≤ w35 → (-1) * u24 + 100 * x11 + 2 ≤ q37 ∧ (-1) * m25 + (-1) * m26 + (-10000) * m27 + 100 * m28 + 100 * m29 + 1000000 * m30 + (-1000) * u24 + 2 * w22 + 2 * w23 + 20000 * x0 + 100000 * x11 + 2000 ≤ w35 ∨ q37 + 1 ≤ (-1) * u24 + 100 * x11 + 2 ∧ w35 + 1 ≤ (-1) * m25 + (-1) * m26 + (-10000) * m27 + 100 * m28 + 100 * m29 + 1000000 * m30 + (-1000) * u24 + 2 * w22 + 2 * w23 + 20000 * x0 + 100000 * x11 + 2000 := qD_gal q37h (by omega) (by
  have e1 : ((-1) * u24 + 100 * x11 + 2) * (w22 + w23 + 10000 * x0 + 1000) = (-1) * m25 + (-1) * m26 + (-10000) * m27 + 100 * m28 + 100 * m29 + 1000000 * m30 + (-1000) * u24 + 2 * w22 + 2 * w23 + 20000 * x0 + 100000 * x11 + 2000 := ((by simp only [Int.add_mul, Int.mul_add, Int.mul_assoc, Int.mul_comm, Int.mul_left_comm, Int.reduceMul, Int.reduceNeg, Int.mul_one, Int.one_mul] <;> omega : ((-1) * u24 + 100 * x11 + 2) * (w22 + w23 + 10000 * x0 + 1000) = (-1) * (u24 * w22) + (-1) * (u24 * w23) + (-10000) * (u24 * x0) + 100 * (w22 * x11) + 100 * (w23 * x11) + 1000000 * (x0 * x11) + (-1000) * u24 + 100000 * x11 + 2 * w22 + 2 * w23 + 20000 * x0 + 2000).trans (by (try simp only [m25e.out, m26e.out, m27e.out, m28e.out, m29e.out, m30e.out]) <;> omega))
  rw [w36s] at e1
  exact e1)
theorem br_rf2 {q7 m17 m18 m19 q41 w39 w40 w13 w16 x0 : Int} (b_w40 : 1000 ≤ w40 ∧ w40 ≤ 6554500) (q41h : QD w39 w40 q41) (m17e : Hd (q7 * w13 = m17)) (m18e : Hd (q7 * w16 = m18)) (m19e : Hd (q7 * x0 = m19)) (w40s : w13 + w16 + 10000 * x0 + 1000 = w40) : 1 ≤ q7 ∨ 0 ≤ w39 → q7 ≤ q41 ∧ m17 + m18 + 10000 * m19 + 1000 * q7 ≤ w39 ∨ q41 + 1 ≤ q7 ∧ w39 + 1 ≤ m17 + m18 + 10000 * m19 + 1000 * q7 := qD_gal q41h (by omega) (by
  have e1 : (q7) * (w13 + w16 + 10000 * x0 + 1000) = m17 + m18 + 10000 * m19 + 1000 * q7 := ((by simp only [Int.add_mul, Int.mul_add, Int.mul_assoc, Int.mul_comm, Int.mul_left_comm, Int.reduceMul, Int.reduceNeg, Int.mul_one, Int.one_mul] <;> omega : (q7) * (w13 + w16 + 10000 * x0 + 1000) = q7 * w13 + q7 * w16 + 10000 * (q7 * x0) + 1000 * q7).trans (by (try simp only [m17e.out, m18e.out, m19e.out]) <;> omega))
  rw [w40s] at e1
  exact e1)
theorem br_rf3 {u24 x11 m25 m26 m27 m28 m29 m30 w22 w23 x0 q46 w45 w36 : Int} (b_w36 : 1000 ≤ w36 ∧ w36 ≤ 5802250) (q46h : QD w45 w36 q46) (m25e : Hd (u24 * w22 = m25)) (m26e : Hd (u24 * w23 = m26)) (m27e : Hd (u24 * x0 = m27)) (m28e : Hd (w22 * x11 = m28)) (m29e : Hd (w23 * x11 = m29)) (m30e : Hd (x0 * x11 = m30)) (w36s : w22 + w23 + 10000 * x0 + 1000 = w36) : 1 ≤ (-1) * u24 + 100 * x11 + 2 ∨ 0 ≤ w45 → (-1) * u24 + 100 * x11 + 2 ≤ q46 ∧ (-1) * m25 + (-1) * m26 + (-10000) * m27 + 100 * m28 + 100 * m29 + 1000000 * m30 + (-1000) * u24 + 2 * w22 + 2 * w23 + 20000 * x0 + 100000 * x11 + 2000 ≤ w45 ∨ q46 + 1 ≤ (-1) * u24 + 100 * x11 + 2 ∧ w45 + 1 ≤ (-1) * m25 + (-1) * m26 + (-10000) * m27 + 100 * m28 + 100 * m29 + 1000000 * m30 + (-1000) * u24 + 2 * w22 + 2 * w23 + 20000 * x0 + 100000 * x11 + 2000 := qD_gal q46h (by omega) (by
  have e1 : ((-1) * u24 + 100 * x11 + 2) * (w22 + w23 + 10000 * x0 + 1000) = (-1) * m25 + (-1) * m26 + (-10000) * m27 + 100 * m28 + 100 * m29 + 1000000 * m30 + (-1000) * u24 + 2 * w22 + 2 * w23 + 20000 * x0 + 100000 * x11 + 2000 := ((by simp only [Int.add_mul, Int.mul_add, Int.mul_assoc, Int.mul_comm, Int.mul_left_comm, Int.reduceMul, Int.reduceNeg, Int.mul_one, Int.one_mul] <;> omega : ((-1) * u24 + 100 * x11 + 2) * (w22 + w23 + 10000 * x0 + 1000) = (-1) * (u24 * w22) + (-1) * (u24 * w23) + (-10000) * (u24 * x0) + 100 * (w22 * x11) + 100 * (w23 * x11) + 1000000 * (x0 * x11) + (-1000) * u24 + 100000 * x11 + 2 * w22 + 2 * w23 + 20000 * x0 + 2000).trans (by (try simp only [m25e.out, m26e.out, m27e.out, m28e.out, m29e.out, m30e.out]) <;> omega))
  rw [w36s] at e1
  exact e1)
theorem br_rf4 {q7 m17 m18 m19 q49 w48 w40 w13 w16 x0 : Int} (b_w40 : 1000 ≤ w40 ∧ w40 ≤ 6554500) (q49h : QD w48 w40 q49) (m17e : Hd (q7 * w13 = m17)) (m18e : Hd (q7 * w16 = m18)) (m19e : Hd (q7 * x0 = m19)) (w40s : w13 + w16 + 10000 * x0 + 1000 = w40) : 1 ≤ q7 ∨ 0 ≤ w48 → q7 ≤ q49 ∧ m17 + m18 + 10000 * m19 + 1000 * q7 ≤ w48 ∨ q49 + 1 ≤ q7 ∧ w48 + 1 ≤ m17 + m18 + 10000 * m19 + 1000 * q7 := qD_gal q49h (by omega) (by
  have e1 : (q7) * (w13 + w16 + 10000 * x0 + 1000) = m17 + m18 + 10000 * m19 + 1000 * q7 := ((by simp only [Int.add_mul, Int.mul_add, Int.mul_assoc, Int.mul_comm, Int.mul_left_comm, Int.reduceMul, Int.reduceNeg, Int.mul_one, Int.one_mul] <;> omega : (q7) * (w13 + w16 + 10000 * x0 + 1000) = q7 * w13 + q7 * w16 + 10000 * (q7 * x0) + 1000 * q7).trans (by (try simp only [m17e.out, m18e.out, m19e.out]) <;> omega))
  rw [w40s] at e1
  exact e1)
theorem br_rf5 {u24 x11 m25 m26 m27 m28 m29 m30 w22 w23 x0 q56 w55 w36 : Int} (b_w36 : 1000 ≤ w36 ∧ w36 ≤ 5802250) (q56h : QD w55 w36 q56) (m25e : Hd (u24 * w22 = m25)) (m26e : Hd (u24 * w23 = m26)) (m27e : Hd (u24 * x0 = m27)) (m28e : Hd (w22 * x11 = m28)) (m29e : Hd (w23 * x11 = m29)) (m30e : Hd (x0 * x11 = m30)) (w36s : w22 + w23 + 10000 * x0 + 1000 = w36) : 1 ≤ (-1) * u24 + 100 * x11 + 2 ∨ 0 ≤ w55 → (-1) * u24 + 100 * x11 + 2 ≤ q56 ∧ (-1) * m25 + (-1) * m26 + (-10000) * m27 + 100 * m28 + 100 * m29 + 1000000 * m30 + (-1000) * u24 + 2 * w22 + 2 * w23 + 20000 * x0 + 100000 * x11 + 2000 ≤ w55 ∨ q56 + 1 ≤ (-1) * u24 + 100 * x11 + 2 ∧ w55 + 1 ≤ (-1) * m25 + (-1) * m26 + (-10000) * m27 + 100 * m28 + 100 * m29 + 1000000 * m30 + (-1000) * u24 + 2 * w22 + 2 * w23 + 20000 * x0 + 100000 * x11 + 2000 := qD_gal q56h (by omega) (by
  have e1 : ((-1) * u24 + 100 * x11 + 2) * (w22 + w23 + 10000 * x0 + 1000) = (-1) * m25 + (-1) * m26 + (-10000) * m27 + 100 * m28 + 100 * m29 + 1000000 * m30 + (-1000) * u24 + 2 * w22 + 2 * w23 + 20000 * x0 + 100000 * x11 + 2000 := ((by simp only [Int.add_mul, Int.mul_add, Int.mul_assoc, Int.mul_comm, Int.mul_left_comm, Int.reduceMul, Int.reduceNeg, Int.mul_one, Int.one_mul] <;> omega : ((-1) * u24 + 100 * x11 + 2) * (w22 + w23 + 10000 * x0 + 1000) = (-1) * (u24 * w22) + (-1) * (u24 * w23) + (-10000) * (u24 * x0) + 100 * (w22 * x11) + 100 * (w23 * x11) + 1000000 * (x0 * x11) + (-1000) * u24 + 100000 * x11 + 2 * w22 + 2 * w23 + 20000 * x0 + 2000).trans (by (try simp only [m25e.out, m26e.out, m27e.out, m28e.out, m29e.out, m30e.out]) <;> omega))
  rw [w36s] at e1
  exact e1)
theorem br_rf6 {q7 m17 m18 m19 q59 w58 w40 w13 w16 x0 : Int} (b_w40 : 1000 ≤ w40 ∧ w40 ≤ 6554500) (q59h : QD w58 w40 q59) (m17e : Hd (q7 * w13 = m17)) (m18e : Hd (q7 * w16 = m18)) (m19e : Hd (q7 * x0 = m19)) (w40s : w13 + w16 + 10000 * x0 + 1000 = w40) : 1 ≤ q7 ∨ 0 ≤ w58 → q7 ≤ q59 ∧ m17 + m18 + 10000 * m19 + 1000 * q7 ≤ w58 ∨ q59 + 1 ≤ q7 ∧ w58 + 1 ≤ m17 + m18 + 10000 * m19 + 1000 * q7 := qD_gal q59h (by omega) (by
  have e1 : (q7) * (w13 + w16 + 10000 * x0 + 1000) = m17 + m18 + 10000 * m19 + 1000 * q7 := ((by simp only [Int.add_mul, Int.mul_add, Int.mul_assoc, Int.mul_comm, Int.mul_left_comm, Int.reduceMul, Int.reduceNeg, Int.mul_one, Int.one_mul] <;> omega : (q7) * (w13 + w16 + 10000 * x0 + 1000) = q7 * w13 + q7 * w16 + 10000 * (q7 * x0) + 1000 * q7).trans (by (try simp only [m17e.out, m18e.out, m19e.out]) <;> omega))
  rw [w40s] at e1
  exact e1)
theorem br_rf7 {u24 x11 m25 m26 m27 m28 m29 m30 w22 w23 x0 q96 w95 w36 : Int} (b_w36 : 1000 ≤ w36 ∧ w36 ≤ 5802250) (q96h : QD w95 w36 q96) (m25e : Hd (u24 * w22 = m25)) (m26e : Hd (u24 * w23 = m26)) (m27e : Hd (u24 * x0 = m27)) (m28e : Hd (w22 * x11 = m28)) (m29e : Hd (w23 * x11 = m29)) (m30e : Hd (x0 * x11 = m30)) (w36s : w22 + w23 + 10000 * x0 + 1000 = w36) : 1 ≤ (-1) * u24 + 100 * x11 + 2 ∨ 0 ≤ w95 → (-1) * u24 + 100 * x11 + 2 ≤ q96 ∧ (-1) * m25 + (-1) * m26 + (-10000) * m27 + 100 * m28 + 100 * m29 + 1000000 * m30 + (-1000) * u24 + 2 * w22 + 2 * w23 + 20000 * x0 + 100000 * x11 + 2000 ≤ w95 ∨ q96 + 1 ≤ (-1) * u24 + 100 * x11 + 2 ∧ w95 + 1 ≤ (-1) * m25 + (-1) * m26 + (-10000) * m27 + 100 * m28 + 100 * m29 + 1000000 * m30 + (-1000) * u24 + 2 * w22 + 2 * w23 + 20000 * x0 + 100000 * x11 + 2000 := qD_gal q96h (by omega) (by
  have e1 : ((-1) * u24 + 100 * x11 + 2) * (w22 + w23 + 10000 * x0 + 1000) = (-1) * m25 + (-1) * m26 + (-10000) * m27 + 100 * m28 + 100 * m29 + 1000000 * m30 + (-1000) * u24 + 2 * w22 + 2 * w23 + 20000 * x0 + 100000 * x11 + 2000 := ((by simp only [Int.add_mul, Int.mul_add, Int.mul_assoc, Int.mul_comm, Int.mul_left_comm, Int.reduceMul, Int.reduceNeg, Int.mul_one, Int.one_mul] <;> omega : ((-1) * u24 + 100 * x11 + 2) * (w22 + w23 + 10000 * x0 + 1000) = (-1) * (u24 * w22) + (-1) * (u24 * w23) + (-10000) * (u24 * x0) + 100 * (w22 * x11) + 100 * (w23 * x11) + 1000000 * (x0 * x11) + (-1000) * u24 + 100000 * x11 + 2 * w22 + 2 * w23 + 20000 * x0 + 2000).trans (by (try simp only [m25e.out, m26e.out, m27e.out, m28e.out, m29e.out, m30e.out]) <;> omega))
  rw [w36s] at e1
  exact e1)
theorem br_rf8 {q7 m17 m18 m19 q99 w98 w40 w13 w16 x0 : Int} (b_w40 : 1000 ≤ w40 ∧ w40 ≤ 6554500) (q99h : QD w98 w40 q99) (m17e : Hd (q7 * w13 = m17)) (m18e : Hd (q7 * w16 = m18)) (m19e : Hd (q7 * x0 = m19)) (w40s : w13 + w16 + 10000 * x0 + 1000 = w40) : 1 ≤ q7 ∨ 0 ≤ w98 → q7 ≤ q99 ∧ m17 + m18 + 10000 * m19 + 1000 * q7 ≤ w98 ∨ q99 + 1 ≤ q7 ∧ w98 + 1 ≤ m17 + m18 + 10000 * m19 + 1000 * q7 := qD_gal q99h (by omega) (by
  have e1 : (q7) * (w13 + w16 + 10000 * x0 + 1000) = m17 + m18 + 10000 * m19 + 1000 * q7 := ((by simp only [Int.add_mul, Int.mul_add, Int.mul_assoc, Int.mul_comm, Int.mul_left_comm, Int.reduceMul, Int.reduceNeg, Int.mul_one, Int.one_mul] <;> omega : (q7) * (w13 + w16 + 10000 * x0 + 1000) = q7 * w13 + q7 * w16 + 10000 * (q7 * x0) + 1000 * q7).trans (by (try simp only [m17e.out, m18e.out, m19e.out]) <;> omega))
  rw [w40s] at e1
  exact e1)
theorem br_rf9 {u24 x11 m25 m26 m27 m28 m29 m30 w22 w23 x0 q108 w107 w36 : Int} (b_w36 : 1000 ≤ w36 ∧ w36 ≤ 5802250) (q108h : QD w107 w36 q108) (m25e : Hd (u24 * w22 = m25)) (m26e : Hd (u24 * w23 = m26)) (m27e : Hd (u24 * x0 = m27)) (m28e : Hd (w22 * x11 = m28)) (m29e : Hd (w23 * x11 = m29)) (m30e : Hd (x0 * x11 = m30)) (w36s : w22 + w23 + 10000 * x0 + 1000 = w36) : 1 ≤ (-1) * u24 + 100 * x11 + 2 ∨ 0 ≤ w107 → (-1) * u24 + 100 * x11 + 2 ≤ q108 ∧ (-1) * m25 + (-1) * m26 + (-10000) * m27 + 100 * m28 + 100 * m29 + 1000000 * m30 + (-1000) * u24 + 2 * w22 + 2 * w23 + 20000 * x0 + 100000 * x11 + 2000 ≤ w107 ∨ q108 + 1 ≤ (-1) * u24 + 100 * x11 + 2 ∧ w107 + 1 ≤ (-1) * m25 + (-1) * m26 + (-10000) * m27 + 100 * m28 + 100 * m29 + 1000000 * m30 + (-1000) * u24 + 2 * w22 + 2 * w23 + 20000 * x0 + 100000 * x11 + 2000 := qD_gal q108h (by omega) (by
  have e1 : ((-1) * u24 + 100 * x11 + 2) * (w22 + w23 + 10000 * x0 + 1000) = (-1) * m25 + (-1) * m26 + (-10000) * m27 + 100 * m28 + 100 * m29 + 1000000 * m30 + (-1000) * u24 + 2 * w22 + 2 * w23 + 20000 * x0 + 100000 * x11 + 2000 := ((by simp only [Int.add_mul, Int.mul_add, Int.mul_assoc, Int.mul_comm, Int.mul_left_comm, Int.reduceMul, Int.reduceNeg, Int.mul_one, Int.one_mul] <;> omega : ((-1) * u24 + 100 * x11 + 2) * (w22 + w23 + 10000 * x0 + 1000) = (-1) * (u24 * w22) + (-1) * (u24 * w23) + (-10000) * (u24 * x0) + 100 * (w22 * x11) + 100 * (w23 * x11) + 1000000 * (x0 * x11) + (-1000) * u24 + 100000 * x11 + 2 * w22 + 2 * w23 + 20000 * x0 + 2000).trans (by (try simp only [m25e.out, m26e.out, m27e.out, m28e.out, m29e.out, m30e.out]) <;> omega))
  rw [w36s] at e1
  exact e1)
theorem br_rf10 {q7 m17 m18 m19 q111 w110 w40 w13 w16 x0 : Int} (b_w40 : 1000 ≤ w40 ∧ w40 ≤ 6554500) (q111h : QD w110 w40 q111) (m17e : Hd (q7 * w13 = m17)) (m18e : Hd (q7 * w16 = m18)) (m19e : Hd (q7 * x0 = m19)) (w40s : w13 + w16 + 10000 * x0 + 1000 = w40) : 1 ≤ q7 ∨ 0 ≤ w110 → q7 ≤ q111 ∧ m17 + m18 + 10000 * m19 + 1000 * q7 ≤ w110 ∨ q111 + 1 ≤ q7 ∧ w110 + 1 ≤ m17 + m18 + 10000 * m19 + 1000 * q7 := qD_gal q111h (by omega) (by
  have e1 : (q7) * (w13 + w16 + 10000 * x0 + 1000) = m17 + m18 + 10000 * m19 + 1000 * q7 := ((by simp only [Int.add_mul, Int.mul_add, Int.mul_assoc, Int.mul_comm, Int.mul_left_comm, Int.reduceMul, Int.reduceNeg, Int.mul_one, Int.one_mul] <;> omega : (q7) * (w13 + w16 + 10000 * x0 + 1000) = q7 * w13 + q7 * w16 + 10000 * (q7 * x0) + 1000 * q7).trans (by (try simp only [m17e.out, m18e.out, m19e.out]) <;> omega))
  rw [w40s] at e1
  exact e1)
theorem br_rf11 {u24 x11 m25 m26 m27 m28 m29 m30 w22 w23 x0 q117 w116 w36 : Int} (b_w36 : 1000 ≤ w36 ∧ w36 ≤ 5802250) (q117h : QD w116 w36 q117) (m25e : Hd (u24 * w22 = m25)) (m26e : Hd (u24 * w23 = m26)) (m27e : Hd (u24 * x0 = m27)) (m28e : Hd (w22 * x11 = m28)) (m29e : Hd (w23 * x11 = m29)) (m30e : Hd (x0 * x11 = m30)) (w36s : w22 + w23 + 10000 * x0 + 1000 = w36) : 1 ≤ (-1) * u24 + 100 * x11 + 2 ∨ 0 ≤ w116 → (-1) * u24 + 100 * x11 + 2 ≤ q117 ∧ (-1) * m25 + (-1) * m26 + (-10000) * m27 + 100 * m28 + 100 * m29 + 1000000 * m30 + (-1000) * u24 + 2 * w22 + 2 * w23 + 20000 * x0 + 100000 * x11 + 2000 ≤ w116 ∨ q117 + 1 ≤ (-1) * u24 + 100 * x11 + 2 ∧ w116 + 1 ≤ (-1) * m25 + (-1) * m26 + (-10000) * m27 + 100 * m28 + 100 * m29 + 1000000 * m30 + (-1000) * u24 + 2 * w22 + 2 * w23 + 20000 * x0 + 100000 * x11 + 2000 := qD_gal q117h (by omega) (by
  have e1 : ((-1) * u24 + 100 * x11 + 2) * (w22 + w23 + 10000 * x0 + 1000) = (-1) * m25 + (-1) * m26 + (-10000) * m27 + 100 * m28 + 100 * m29 + 1000000 * m30 + (-1000) * u24 + 2 * w22 + 2 * w23 + 20000 * x0 + 100000 * x11 + 2000 := ((by simp only [Int.add_mul, Int.mul_add, Int.mul_assoc, Int.mul_comm, Int.mul_left_comm, Int.reduceMul, Int.reduceNeg, Int.mul_one, Int.one_mul] <;> omega : ((-1) * u24 + 100 * x11 + 2) * (w22 + w23 + 10000 * x0 + 1000) = (-1) * (u24 * w22) + (-1) * (u24 * w23) + (-10000) * (u24 * x0) + 100 * (w22 * x11) + 100 * (w23 * x11) + 1000000 * (x0 * x11) + (-1000) * u24 + 100000 * x11 + 2 * w22 + 2 * w23 + 20000 * x0 + 2000).trans (by (try simp only [m25e.out, m26e.out, m27e.out, m28e.out, m29e.out, m30e.out]) <;> omega))
  rw [w36s] at e1
  exact e1)
theorem br_rf12 {q7 m17 m18 m19 q120 w119 w40 w13 w16 x0 : Int} (b_w40 : 1000 ≤ w40 ∧ w40 ≤ 6554500) (q120h : QD w119 w40 q120) (m17e : Hd (q7 * w13 = m17)) (m18e : Hd (q7 * w16 = m18)) (m19e : Hd (q7 * x0 = m19)) (w40s : w13 + w16 + 10000 * x0 + 1000 = w40) : 1 ≤ q7 ∨ 0 ≤ w119 → q7 ≤ q120 ∧ m17 + m18 + 10000 * m19 + 1000 * q7 ≤ w119 ∨ q120 + 1 ≤ q7 ∧ w119 + 1 ≤ m17 + m18 + 10000 * m19 + 1000 * q7 := qD_gal q120h (by omega) (by
  have e1 : (q7) * (w13 + w16 + 10000 * x0 + 1000) = m17 + m18 + 10000 * m19 + 1000 * q7 := ((by simp only [Int.add_mul, Int.mul_add, Int.mul_assoc, Int.mul_comm, Int.mul_left_comm, Int.reduceMul, Int.reduceNeg, Int.mul_one, Int.one_mul] <;> omega : (q7) * (w13 + w16 + 10000 * x0 + 1000) = q7 * w13 + q7 * w16 + 10000 * (q7 * x0) + 1000 * q7).trans (by (try simp only [m17e.out, m18e.out, m19e.out]) <;> omega))
  rw [w40s] at e1
  exact e1)
theorem br_rf13 {u24 x11 m25 m26 m27 m28 m29 m30 w22 w23 x0 q126 w125 w36 : Int} (b_w36 : 1000 ≤ w36 ∧ w36 ≤ 5802250) (q126h : QD w125 w36 q126) (m25e : Hd (u24 * w22 = m25)) (m26e : Hd (u24 * w23 = m26)) (m27e : Hd (u24 * x0 = m27)) (m28e : Hd (w22 * x11 = m28)) (m29e : Hd (w23 * x11 = m29)) (m30e : Hd (x0 * x11 = m30)) (w36s : w22 + w23 + 10000 * x0 + 1000 = w36) : 1 ≤ (-1) * u24 + 100 * x11 + 2 ∨ 0 ≤ w125 → (-1) * u24 + 100 * x11 + 2 ≤ q126 ∧ (-1) * m25 + (-1) * m26 + (-10000) * m27 + 100 * m28 + 100 * m29 + 1000000 * m30 + (-1000) * u24 + 2 * w22 + 2 * w23 + 20000 * x0 + 100000 * x11 + 2000 ≤ w125 ∨ q126 + 1 ≤ (-1) * u24 + 100 * x11 + 2 ∧ w125 + 1 ≤ (-1) * m25 + (-1) * m26 + (-10000) * m27 + 100 * m28 + 100 * m29 + 1000000 * m30 + (-1000) * u24 + 2 * w22 + 2 * w23 + 20000 * x0 + 100000 * x11 + 2000 := qD_gal q126h (by omega) (by
  have e1 : ((-1) * u24 + 100 * x11 + 2) * (w22 + w23 + 10000 * x0 + 1000) = (-1) * m25 + (-1) * m26 + (-10000) * m27 + 100 * m28 + 100 * m29 + 1000000 * m30 + (-1000) * u24 + 2 * w22 + 2 * w23 + 20000 * x0 + 100000 * x11 + 2000 := ((by simp only [Int.add_mul, Int.mul_add, Int.mul_assoc, Int.mul_comm, Int.mul_left_comm, Int.reduceMul, Int.reduceNeg, Int.mul_one, Int.one_mul] <;> omega : ((-1) * u24 + 100 * x11 + 2) * (w22 + w23 + 10000 * x0 + 1000) = (-1) * (u24 * w22) + (-1) * (u24 * w23) + (-10000) * (u24 * x0) + 100 * (w22 * x11) + 100 * (w23 * x11) + 1000000 * (x0 * x11) + (-1000) * u24 + 100000 * x11 + 2 * w22 + 2 * w23 + 20000 * x0 + 2000).trans (by (try simp only [m25e.out, m26e.out, m27e.out, m28e.out, m29e.out, m30e.out]) <;> omega))
  rw [w36s] at e1
  exact e1)
theorem br_rf14 {q7 m17 m18 m19 q129 w128 w40 w13 w16 x0 : Int} (b_w40 : 1000 ≤ w40 ∧ w40 ≤ 6554500) (q129h : QD w128 w40 q129) (m17e : Hd (q7 * w13 = m17)) (m18e : Hd (q7 * w16 = m18)) (m19e : Hd (q7 * x0 = m19)) (w40s : w13 + w16 + 10000 * x0 + 1000 = w40) : 1 ≤ q7 ∨ 0 ≤ w128 → q7 ≤ q129 ∧ m17 + m18 + 10000 * m19 + 1000 * q7 ≤ w128 ∨ q129 + 1 ≤ q7 ∧ w128 + 1 ≤ m17 + m18 + 10000 * m19 + 1000 * q7 := qD_gal q129h (by omega) (by
  have e1 : (q7) * (w13 + w16 + 10000 * x0 + 1000) = m17 + m18 + 10000 * m19 + 1000 * q7 := ((by simp only [Int.add_mul, Int.mul_add, Int.mul_assoc, Int.mul_comm, Int.mul_left_comm, Int.reduceMul, Int.reduceNeg, Int.mul_one, Int.one_mul] <;> omega : (q7) * (w13 + w16 + 10000 * x0 + 1000) = q7 * w13 + q7 * w16 + 10000 * (q7 * x0) + 1000 * q7).trans (by (try simp only [m17e.out, m18e.out, m19e.out]) <;> omega))
  rw [w40s] at e1
  exact e1)
theorem br_rf15 {u24 x11 m25 m26 m27 m28 m29 m30 w22 w23 x0 q136 w135 w36 : Int} (b_w36 : 1000 ≤ w36 ∧ w36 ≤ 5802250) (q136h : QD w135 w36 q136) (m25e : Hd (u24 * w22 = m25)) (m26e : Hd (u24 * w23 = m26)) (m27e : Hd (u24 * x0 = m27)) (m28e : Hd (w22 * x11 = m28)) (m29e : Hd (w23 * x11 = m29)) (m30e : Hd (x0 * x11 = m30)) (w36s : w22 + w23 + 10000 * x0 + 1000 = w36) : 1 ≤ (-1) * u24 + 100 * x11 + 2 ∨ 0 ≤ w135 → (-1) * u24 + 100 * x11 + 2 ≤ q136 ∧ (-1) * m25 + (-1) * m26 + (-10000) * m27 + 100 * m28 + 100 * m29 + 1000000 * m30 + (-1000) * u24 + 2 * w22 + 2 * w23 + 20000 * x0 + 100000 * x11 + 2000 ≤ w135 ∨ q136 + 1 ≤ (-1) * u24 + 100 * x11 + 2 ∧ w135 + 1 ≤ (-1) * m25 + (-1) * m26 + (-10000) * m27 + 100 * m28 + 100 * m29 + 1000000 * m30 + (-1000) * u24 + 2 * w22 + 2 * w23 + 20000 * x0 + 100000 * x11 + 2000 := qD_gal q136h (by omega) (by
  have e1 : ((-1) * u24 + 100 * x11 + 2) * (w22 + w23 + 10000 * x0 + 1000) = (-1) * m25 + (-1) * m26 + (-10000) * m27 + 100 * m28 + 100 * m29 + 1000000 * m30 + (-1000) * u24 + 2 * w22 + 2 * w23 + 20000 * x0 + 100000 * x11 + 2000 := ((by simp only [Int.add_mul, Int.mul_add, Int.mul_assoc, Int.mul_comm, Int.mul_left_comm, Int.reduceMul, Int.reduceNeg, Int.mul_one, Int.one_mul] <;> omega : ((-1) * u24 + 100 * x11 + 2) * (w22 + w23 + 10000 * x0 + 1000) = (-1) * (u24 * w22) + (-1) * (u24 * w23) + (-10000) * (u24 * x0) + 100 * (w22 * x11) + 100 * (w23 * x11) + 1000000 * (x0 * x11) + (-1000) * u24 + 100000 * x11 + 2 * w22 + 2 * w23 + 20000 * x0 + 2000).trans (by (try simp only [m25e.out, m26e.out, m27e.out, m28e.out, m29e.out, m30e.out]) <;> omega))
  rw [w36s] at e1
  exact e1)
theorem br_rf16 {q7 m17 m18 m19 q139 w138 w40 w13 w16 x0 : Int} (b_w40 : 1000 ≤ w40 ∧ w40 ≤ 6554500) (q139h : QD w138 w40 q139) (m17e : Hd (q7 * w13 = m17)) (m18e : Hd (q7 * w16 = m18)) (m19e : Hd (q7 * x0 = m19)) (w40s : w13 + w16 + 10000 * x0 + 1000 = w40) : 1 ≤ q7 ∨ 0 ≤ w138 → q7 ≤ q139 ∧ m17 + m18 + 10000 * m19 + 1000 * q7 ≤ w138 ∨ q139 + 1 ≤ q7 ∧ w138 + 1 ≤ m17 + m18 + 10000 * m19 + 1000 * q7 := qD_gal q139h (by omega) (by
  have e1 : (q7) * (w13 + w16 + 10000 * x0 + 1000) = m17 + m18 + 10000 * m19 + 1000 * q7 := ((by simp only [Int.add_mul, Int.mul_add, Int.mul_assoc, Int.mul_comm, Int.mul_left_comm, Int.reduceMul, Int.reduceNeg, Int.mul_one, Int.one_mul] <;> omega : (q7) * (w13 + w16 + 10000 * x0 + 1000) = q7 * w13 + q7 * w16 + 10000 * (q7 * x0) + 1000 * q7).trans (by (try simp only [m17e.out, m18e.out, m19e.out]) <;> omega))
  rw [w40s] at e1
  exact e1)
theorem br_rf17 {u24 x11 m25 m26 m27 m28 m29 m30 w22 w23 x0 q152 w151 w36 : Int} (b_w36 : 1000 ≤ w36 ∧ w36 ≤ 5802250) (q152h : QD w151 w36 q152) (m25e : Hd (u24 * w22 = m25)) (m26e : Hd (u24 * w23 = m26)) (m27e : Hd (u24 * x0 = m27)) (m28e : Hd (w22 * x11 = m28)) (m29e : Hd (w23 * x11 = m29)) (m30e : Hd (x0 * x11 = m30)) (w36s : w22 + w23 + 10000 * x0 + 1000 = w36) : 1 ≤ (-1) * u24 + 100 * x11 + 2 ∨ 0 ≤ w151 → (-1) * u24 + 100 * x11 + 2 ≤ q152 ∧ (-1) * m25 + (-1) * m26 + (-10000) * m27 + 100 * m28 + 100 * m29 + 1000000 * m30 + (-1000) * u24 + 2 * w22 + 2 * w23 + 20000 * x0 + 100000 * x11 + 2000 ≤ w151 ∨ q152 + 1 ≤ (-1) * u24 + 100 * x11 + 2 ∧ w151 + 1 ≤ (-1) * m25 + (-1) * m26 + (-10000) * m27 + 100 * m28 + 100 * m29 + 1000000 * m30 + (-1000) * u24 + 2 * w22 + 2 * w23 + 20000 * x0 + 100000 * x11 + 2000 := qD_gal q152h (by omega) (by
  have e1 : ((-1) * u24 + 100 * x11 + 2) * (w22 + w23 + 10000 * x0 + 1000) = (-1) * m25 + (-1) * m26 + (-10000) * m27 + 100 * m28 + 100 * m29 + 1000000 * m30 + (-1000) * u24 + 2 * w22 + 2 * w23 + 20000 * x0 + 100000 * x11 + 2000 := ((by simp only [Int.add_mul, Int.mul_add, Int.mul_assoc, Int.mul_comm, Int.mul_left_comm, Int.reduceMul, Int.reduceNeg, Int.mul_one, Int.one_mul] <;> omega : ((-1) * u24 + 100 * x11 + 2) * (w22 + w23 + 10000 * x0 + 1000) = (-1) * (u24 * w22) + (-1) * (u24 * w23) + (-10000) * (u24 * x0) + 100 * (w22 * x11) + 100 * (w23 * x11) + 1000000 * (x0 * x11) + (-1000) * u24 + 100000 * x11 + 2 * w22 + 2 * w23 + 20000 * x0 + 2000).trans (by (try simp only [m25e.out, m26e.out, m27e.out, m28e.out, m29e.out, m30e.out]) <;> omega))
  rw [w36s] at e1
  exact e1)
theorem br_rf18 {q7 m17 m18 m19 q155 w154 w40 w13 w16 x0 : Int} (b_w40 : 1000 ≤ w40 ∧ w40 ≤ 6554500) (q155h : QD w154 w40 q155) (m17e : Hd (q7 * w13 = m17)) (m18e : Hd (q7 * w16 = m18)) (m19e : Hd (q7 * x0 = m19)) (w40s : w13 + w16 + 10000 * x0 + 1000 = w40) : 1 ≤ q7 ∨ 0 ≤ w154 → q7 ≤ q155 ∧ m17 + m18 + 10000 * m19 + 1000 * q7 ≤ w154 ∨ q155 + 1 ≤ q7 ∧ w154 + 1 ≤ m17 + m18 + 10000 * m19 + 1000 * q7 := qD_gal q155h (by omega) (by
  have e1 : (q7) * (w13 + w16 + 10000 * x0 + 1000) = m17 + m18 + 10000 * m19 + 1000 * q7 := ((by simp only [Int.add_mul, Int.mul_add, Int.mul_assoc, Int.mul_comm, Int.mul_left_comm, Int.reduceMul, Int.reduceNeg, Int.mul_one, Int.one_mul] <;> omega : (q7) * (w13 + w16 + 10000 * x0 + 1000) = q7 * w13 + q7 * w16 + 10000 * (q7 * x0) + 1000 * q7).trans (by (try simp only [m17e.out, m18e.out, m19e.out]) <;> omega))
  rw [w40s] at e1
  exact e1)
theorem br_rf19 {q63 r2 r64 w62 m61 x18 : Int} (b_r64 : 0 ≤ r64 ∧ r64 ≤ 254) (q63s : w62 = 255 * q63 + r64) (w62s : m61 = w62) (m61f4 : m61 ≤ (0) * x18 + (255) * r2 - (0)) : 0 ≤ (-1) * q63 + r2 := by omega
theorem br_rf19_0 {q63 r2 m11 m69 x1 : Int} (b_x1 : 0 ≤ x1 ∧ x1 ≤ 255) (rf19 : 0 ≤ (-1) * q63 + r2) (m69e : Hd (q63 * x1 = m69)) (m11e : Hd (r2 * x1 = m11)) : 0 ≤ m11 + (-1) * m69 := by
  have e1 : ((-1) * q63 + r2) * (x1) = m11 + (-1) * m69 := ((by simp only [Int.add_mul, Int.mul_add, Int.mul_assoc, Int.mul_comm, Int.mul_left_comm, Int.reduceMul, Int.reduceNeg, Int.mul_one, Int.one_mul] <;> omega : ((-1) * q63 + r2) * (x1) = (-1) * (q63 * x1) + r2 * x1).trans (by (try simp only [m69e.out, m11e.out]) <;> omega))
  exact e1 ▸ Int.mul_nonneg (by omega) (by omega)
theorem br_rf20 {q67 r4 r68 w66 m65 x19 : Int} (b_r68 : 0 ≤ r68 ∧ r68 ≤ 254) (q67s : w66 = 255 * q67 + r68) (w66s : m65 = w66) (m65f4 : m65 ≤ (0) * x19 + (255) * r4 - (0)) : 0 ≤ (-1) * q67 + r4 := by omega
theorem br_rf20_0 {q67 r4 m14 m71 x2 : Int} (b_x2 : 0 ≤ x2 ∧ x2 ≤ 255) (rf20 : 0 ≤ (-1) * q67 + r4) (m71e : Hd (q67 * x2 = m71)) (m14e : Hd (r4 * x2 = m14)) : 0 ≤ m14 + (-1) * m71 := by
  have e1 : ((-1) * q67 + r4) * (x2) = m14 + (-1) * m71 := ((by simp only [Int.add_mul, Int.mul_add, Int.mul_assoc, Int.mul_comm, Int.mul_left_comm, Int.reduceMul, Int.reduceNeg, Int.mul_one, Int.one_mul] <;> omega : ((-1) * q67 + r4) * (x2) = (-1) * (q67 * x2) + r4 * x2).trans (by (try simp only [m71e.out, m14e.out]) <;> omega))
  exact e1 ▸ Int.mul_nonneg (by omega) (by omega)
theorem br_rf21 {w13 w70 m11 m12 m69 : Int}  (w13s : 20 * m11 + 20 * m12 = w13) (w70s : 20 * m12 + 20 * m69 = w70) (rf19_0 : 0 ≤ m11 + (-1) * m69) : 0 ≤ w13 + (-1) * w70 := by omega
theorem br_rf21_0 {w13 w70 m101 m17 q7 : Int} (b_q7 : 0 ≤ q7 ∧ q7 ≤ 16383) (rf21 : 0 ≤ w13 + (-1) * w70) (m17e : Hd (q7 * w13 = m17)) (m101e : Hd (q7 * w70 = m101)) : 0 ≤ (-1) * m101 + m17 := by
  have e1 : (w13 + (-1) * w70) * (q7) = (-1) * m101 + m17 := ((by simp only [Int.add_mul, Int.mul_add, Int.mul_assoc, Int.mul_comm, Int.mul_left_comm, Int.reduceMul, Int.reduceNeg, Int.mul_one, Int.one_mul] <;> omega : (w13 + (-1) * w70) * (q7) = q7 * w13 + (-1) * (q7 * w70)).trans (by (try simp only [m17e.out, m101e.out]) <;> omega))
  exact e1 ▸ Int.mul_nonneg (by omega) (by omega)
theorem br_rf22 {w16 w72 m14 m15 m71 : Int}  (w16s : 30 * m14 + 30 * m15 = w16) (w72s : 30 * m15 + 30 * m71 = w72) (rf20_0 : 0 ≤ m14 + (-1) * m71) : 0 ≤ w16 + (-1) * w72 := by omega
theorem br_rf22_0 {w16 w72 m102 m18 q7 : Int} (b_q7 : 0 ≤ q7 ∧ q7 ≤ 16383) (rf22 : 0 ≤ w16 + (-1) * w72) (m18e : Hd (q7 * w16 = m18)) (m102e : Hd (q7 * w72 = m102)) : 0 ≤ (-1) * m102 + m18 := by
  have e1 : (w16 + (-1) * w72) * (q7) = (-1) * m102 + m18 := ((by simp only [Int.add_mul, Int.mul_add, Int.mul_assoc, Int.mul_comm, Int.mul_left_comm, Int.reduceMul, Int.reduceNeg, Int.mul_one, Int.one_mul] <;> omega : (w16 + (-1) * w72) * (q7) = q7 * w16 + (-1) * (q7 * w72)).trans (by (try simp only [m18e.out, m102e.out]) <;> omega))
  exact e1 ▸ Int.mul_nonneg (by omega) (by omega)
theorem br_rf23 {z104 z21 w103 w20 m101 m102 m19 q7 m17 m18 : Int}  (z104s : w103 ≤ 1000 * z104 ∧ 1000 * z104 ≤ w103 + 999) (z21s : w20 ≤ 1000 * z21 ∧ 1000 * z21 ≤ w20 + 999) (w103s : m101 + m102 + 10000 * m19 + 1000 * q7 = w103) (w20s : m17 + m18 + 10000 * m19 + 1000 * q7 = w20) (rf21_0 : 0 ≤ (-1) * m101 + m17) (rf22_0 : 0 ≤ (-1) * m102 + m18) : 0 ≤ (-1) * z104 + z21 := by omega
theorem br_rf24 {q82 u10 u9 r83 w81 m79 m80 x20 : Int} (b_r83 : 0 ≤ r83 ∧ r83 ≤ 254) (q82s : w81 = 255 * q82 + r83) (w81s : m79 + m80 = w81) (m79f4 : m79 ≤ (0) * x20 + (255) * u10 - (0)) (m80f4 : m80 ≤ (0) * x20 + (255) * u9 - (0)) : 0 ≤ (-1) * q82 + u10 + u9 := by omega
theorem br_rf34 {u10 x29 z32 m73 m74 m75 x21 : Int} (b_x21 : 0 ≤ x21 ∧ x21 ≤ 255) (m73e : Hd (u10 * x21 = m73)) (m74e : Hd (x21 * x29 = m74)) (m75e : Hd (x21 * z32 = m75)) : 0 ≤ (-1) * u10 + (-1) * x29 + z32 + (-1) → 0 ≤ m73 + m74 + (-1) * m75 + (-255) * u10 + x21 + (-255) * x29 + 255 * z32 + (-255) := fun hc => by
  have k : 0 ≤ (-1) * u10 + (-1) * x29 + z32 + (-1) := by omega
  have e1 : ((-1) * u10 + (-1) * x29 + z32 + (-1)) * ((-1) * x21 + 255) = m73 + m74 + (-1) * m75 + (-255) * u10 + x21 + (-255) * x29 + 255 * z32 + (-255) := ((by simp only [Int.add_mul, Int.mul_add, Int.mul_assoc, Int.mul_comm, Int.mul_left_comm, Int.reduceMul, Int.reduceNeg, Int.mul_one, Int.one_mul] <;> omega : ((-1) * u10 + (-1) * x29 + z32 + (-1)) * ((-1) * x21 + 255) = u10 * x21 + x21 * x29 + (-1) * (x21 * z32) + (-255) * u10 + (-255) * x29 + 255 * z32 + 1 * x21 + (-255)).trans (by (try simp only [m73e.out, m74e.out, m75e.out]) <;> omega))
  exact e1 ▸ Int.mul_nonneg k (by omega)
theorem br_rf35 {u10 x29 z32 m73 m74 m75 x21 : Int} (b_x21 : 0 ≤ x21 ∧ x21 ≤ 255) (m73e : Hd (u10 * x21 = m73)) (m74e : Hd (x21 * x29 = m74)) (m75e : Hd (x21 * z32 = m75)) : 0 ≤ (-1) * u10 + (-1) * x29 + z32 + (-1) → 0 ≤ (-1) * m73 + (-1) * m74 + m75 + (-1) * x21 := fun hc => by
  have k : 0 ≤ (-1) * u10 + (-1) * x29 + z32 + (-1) := by omega
  have e1 : ((-1) * u10 + (-1) * x29 + z32 + (-1)) * (x21) = (-1) * m73 + (-1) * m74 + m75 + (-1) * x21 := ((by simp only [Int.add_mul, Int.mul_add, Int.mul_assoc, Int.mul_comm, Int.mul_left_comm, Int.reduceMul, Int.reduceNeg, Int.mul_one, Int.one_mul] <;> omega : ((-1) * u10 + (-1) * x29 + z32 + (-1)) * (x21) = (-1) * (u10 * x21) + (-1) * (x21 * x29) + x21 * z32 + (-1) * x21).trans (by (try simp only [m73e.out, m74e.out, m75e.out]) <;> omega))
  exact e1 ▸ Int.mul_nonneg k (by omega)
theorem br_rf36 {u10 u122 x29 z32 m141 m73 m74 m75 x21 : Int} (b_x21 : 0 ≤ x21 ∧ x21 ≤ 255) (m73e : Hd (u10 * x21 = m73)) (m141e : Hd (u122 * x21 = m141)) (m74e : Hd (x21 * x29 = m74)) (m75e : Hd (x21 * z32 = m75)) : 0 ≤ (-1) * u10 + (-1) * u122 + (-1) * x29 + z32 + (-1) → 0 ≤ m141 + m73 + m74 + (-1) * m75 + (-255) * u10 + (-255) * u122 + x21 + (-255) * x29 + 255 * z32 + (-255) := fun hc => by
  have k : 0 ≤ (-1) * u10 + (-1) * u122 + (-1) * x29 + z32 + (-1) := by omega
  have e1 : ((-1) * u10 + (-1) * u122 + (-1) * x29 + z32 + (-1)) * ((-1) * x21 + 255) = m141 + m73 + m74 + (-1) * m75 + (-255) * u10 + (-255) * u122 + x21 + (-255) * x29 + 255 * z32 + (-255) := ((by simp only [Int.add_mul, Int.mul_add, Int.mul_assoc, Int.mul_comm, Int.mul_left_comm, Int.reduceMul, Int.reduceNeg, Int.mul_one, Int.one_mul] <;> omega : ((-1) * u10 + (-1) * u122 + (-1) * x29 + z32 + (-1)) * ((-1) * x21 + 255) = u10 * x21 + u122 * x21 + x21 * x29 + (-1) * (x21 * z32) + (-255) * u10 + (-255) * u122 + (-255) * x29 + 255 * z32 + 1 * x21 + (-255)).trans (by (try simp only [m73e.out, m141e.out, m74e.out, m75e.out]) <;> omega))
  exact e1 ▸ Int.mul_nonneg k (by omega)
theorem br_rf37 {u10 u122 x29 z32 m141 m73 m74 m75 x21 : Int} (b_x21 : 0 ≤ x21 ∧ x21 ≤ 255) (m73e : Hd (u10 * x21 = m73)) (m141e : Hd (u122 * x21 = m141)) (m74e : Hd (x21 * x29 = m74)) (m75e : Hd (x21 * z32 = m75)) : 0 ≤ (-1) * u10 + (-1) * u122 + (-1) * x29 + z32 + (-1) → 0 ≤ (-1) * m141 + (-1) * m73 + (-1) * m74 + m75 + (-1) * x21 := fun hc => by
  have k : 0 ≤ (-1) * u10 + (-1) * u122 + (-1) * x29 + z32 + (-1) := by omega
  have e1 : ((-1) * u10 + (-1) * u122 + (-1) * x29 + z32 + (-1)) * (x21) = (-1) * m141 + (-1) * m73 + (-1) * m74 + m75 + (-1) * x21 := ((by simp only [Int.add_mul, Int.mul_add, Int.mul_assoc, Int.mul_comm, Int.mul_left_comm, Int.reduceMul, Int.reduceNeg, Int.mul_one, Int.one_mul] <;> omega : ((-1) * u10 + (-1) * u122 + (-1) * x29 + z32 + (-1)) * (x21) = (-1) * (u10 * x21) + (-1) * (u122 * x21) + (-1) * (x21 * x29) + x21 * z32 + (-1) * x21).trans (by (try simp only [m73e.out, m141e.out, m74e.out, m75e.out]) <;> omega))
  exact e1 ▸ Int.mul_nonneg k (by omega)
set_option maxHeartbeats 40000000 in
theorem br_g0 {ρ : Env} {x0 x1 x2 x3 x4 r2 x5 x6 r4 x7 x8 x9 x10 r6 x11 x12 x26 q7 x27 x28 x29 u9 u10 w13 m11 m12 w16 m14 m15 w20 m17 m18 m19 z21 w22 w23 u24 w31 m25 m26 m27 m28 m29 m30 z32 u33 u34 q37 w35 w36 q41 w39 w40 u43 u44 q46 w45 q49 w48 q51 u53 u54 q56 w55 q59 w58 x18 w62 m61 q63 x19 w66 m65 q67 w70 m69 w72 m71 x21 w76 m73 m74 m75 q77 x20 w81 m79 m80 q82 u84 q87 w85 w86 x25 w90 m89 q91 u93 u94 q96 w95 q99 w98 w103 m101 m102 z104 u105 u106 q108 w107 q111 w110 u113 u114 u115 q117 w116 q120 w119 u122 u123 u124 q126 w125 q129 w128 q131 u133 u134 q136 w135 q139 w138 w142 m141 q143 u145 q147 w146 u149 u150 q152 w151 q155 w154 : Int} (e0 : Is ρ (.v 0) x0) (e1 : Is ρ (.v 1) x1) (e2 : Is ρ (.v 2) x2) (e3 : Is ρ (.v 3) x3) (e4 : Is ρ (.v 4) x4) (r2e : Hd ((x4) % 60 = r2)) (e5 : Is ρ (.v 5) x5) (e6 : Is ρ (.v 6) x6) (r4e : Hd ((x6) % 60 = r4)) (e7 : Is ρ (.v 7) x7) (e8 : Is ρ (.v 8) x8) (e9 : Is ρ (.v 9) x9) (e10 : Is ρ (.v 10) x10) (r6e : Hd ((x10) % 20 = r6)) (e11 : Is ρ (.v 11) x11) (e12 : Is ρ (.v 12) x12) (e26 : Is ρ (.v 26) x26) (q7e : Hd ((x26) / 4 = q7)) (e27 : Is ρ (.v 27) x27) (e28 : Is ρ (.v 28) x28) (e29 : Is ρ (.v 29) x29) (u9s : Hd (max ((-1) * x28 + x29) 0 = u9)) (u10s : Hd (max (x28 + (-1) * x29) 0 = u10)) (m11e : Hd (r2 * x1 = m11)) (m12e : Hd (x1 * x3 = m12)) (w13s : Hd (20 * m11 + 20 * m12 = w13)) (m14e : Hd (r4 * x2 = m14)) (m15e : Hd (x2 * x5 = m15)) (w16s : Hd (30 * m14 + 30 * m15 = w16)) (m17e : Hd (q7 * w13 = m17)) (m18e : Hd (q7 * w16 = m18)) (m19e : Hd (q7 * x0 = m19)) (w20s : Hd (m17 + m18 + 10000 * m19 + 1000 * q7 = w20)) (z21s : Hd (w20 ≤ 1000 * z21 ∧ 1000 * z21 ≤ w20 + 999)) (w22s : Hd (20 * m12 = w22)) (w23s : Hd (30 * m15 = w23)) (u24s : Hd (max ((-1) * q7 + 100 * x11 + (-1) * x27 + 1) 0 = u24)) (m25e : Hd (u24 * w22 = m25)) (m26e : Hd (u24 * w23 = m26)) (m27e : Hd (u24 * x0 = m27)) (m28e : Hd (w22 * x11 = m28)) (m29e : Hd (w23 * x11 = m29)) (m30e : Hd (x0 * x11 = m30)) (w31s : Hd ((-1) * m25 + (-1) * m26 + (-10000) * m27 + 100 * m28 + 100 * m29 + 1000000 * m30 + (-1000) * u24 + 2 * w22 + 2 * w23 + 20000 * x0 + 100000 * x11 + 2000 = w31)) (z32s : Hd (w31 ≤ 1000 * z32 ∧ 1000 * z32 ≤ w31 + 999)) (u33s : Hd (max ((-1) * u9 + x29) 0 = u33)) (u34s : Hd (max (u10 + x29) 0 = u34)) (q37e : Hd (w35.tdiv w36 = q37)) (w35s : Hd (1000 * u34 = w35)) (w36s : Hd (w22 + w23 + 10000 * x0 + 1000 = w36)) (q41e : Hd (w39.tdiv w40 = q41)) (w39s : Hd (1000 * u33 = w39)) (w40s : Hd (w13 + w16 + 10000 * x0 + 1000 = w40)) (u43s : Hd (max ((-1) * u10 + (-1) * u9 + z32 + (-1)) 0 = u43)) (u44s : Hd (max (z32 + (-1)) 0 = u44)) (q46e : Hd (w45.tdiv w36 = q46)) (w45s : Hd (1000 * u44 = w45)) (q49e : Hd (w48.tdiv w40 = q49)) (w48s : Hd (1000 * u43 = w48)) (q51e : Hd (((-1) * u10 + (-1) * x29 + z32 + (-1)).tdiv 2 = q51)) (u53s : Hd (max (q51 + (-1) * u9 + x29) 0 = u53)) (u54s : Hd (max (q51 + u10 + x29) 0 = u54)) (q56e : Hd (w55.tdiv w36 = q56)) (w55s : Hd (1000 * u54 = w55)) (q59e : Hd (w58.tdiv w40 = q59)) (w58s : Hd (1000 * u53 = w58)) (e18 : Is ρ (.v 18) x18) (m61e : Hd (r2 * x18 = m61)) (w62s : Hd (m61 = w62)) (q63e : Hd ((w62) / 255 = q63)) (e19 : Is ρ (.v 19) x19) (m65e : Hd (r4 * x19 = m65)) (w66s : Hd (m65 = w66)) (q67e : Hd ((w66) / 255 = q67)) (m69e : Hd (q63 * x1 = m69)) (w70s : Hd (20 * m12 + 20 * m69 = w70)) (m71e : Hd (q67 * x2 = m71)) (w72s : Hd (30 * m15 + 30 * m71 = w72)) (e21 : Is ρ (.v 21) x21) (m73e : Hd (u10 * x21 = m73)) (m74e : Hd (x21 * x29 = m74)) (m75e : Hd (x21 * z32 = m75)) (w76s : Hd ((-1) * m73 + (-1) * m74 + m75 + (-1) * x21 = w76)) (q77e : Hd ((w76).tdiv 255 = q77)) (e20 : Is ρ (.v 20) x20) (m79e : Hd (u10 * x20 = m79)) (m80e : Hd (u9 * x20 = m80)) (w81s : Hd (m79 + m80 = w81)) (q82e : Hd ((w81) / 255 = q82)) (u84s : Hd (max (q77 + q82 + (-1) * u9 + x29) 0 = u84)) (q87e : Hd (w85.tdiv w86 = q87)) (w85s : Hd (1000 * u84 = w85)) (w86s : Hd (w70 + w72 + 10000 * x0 + 1000 = w86)) (e25 : Is ρ (.v 25) x25) (m89e : Hd (x12 * x25 = m89)) (w90s : Hd (10 * m89 = w90)) (q91e : Hd ((w90) / 255 = q91)) (u93s : Hd (max ((-1) * u10 + (-1) * u9 + z32) 0 = u93)) (u94s : Hd (max (z32) 0 = u94)) (q96e : Hd (w95.tdiv w36 = q96)) (w95s : Hd (1000 * u94 = w95)) (q99e : Hd (w98.tdiv w40 = q99)) (w98s : Hd (1000 * u93 = w98)) (m101e : Hd (q7 * w70 = m101)) (m102e : Hd (q7 * w72 = m102)) (w103s : Hd (m101 + m102 + 10000 * m19 + 1000 * q7 = w103)) (z104s : Hd (w103 ≤ 1000 * z104 ∧ 1000 * z104 ≤ w103 + 999)) (u105s : Hd (max ((-1) * u9 + x29 + z104) 0 = u105)) (u106s : Hd (max (u10 + x29 + z104) 0 = u106)) (q108e : Hd (w107.tdiv w36 = q108)) (w107s : Hd (1000 * u106 = w107)) (q111e : Hd (w110.tdiv w40 = q111)) (w110s : Hd (1000 * u105 = w110)) (u113s : Hd (max (u9 + (-1) * x29 + z104) 0 = u113)) (u114s : Hd (max (u113 + (-1) * u9 + x29) 0 = u114)) (u115s : Hd (max (u10 + u113 + x29) 0 = u115)) (q117e : Hd (w116.tdiv w36 = q117)) (w116s : Hd (1000 * u115 = w116)) (q120e : Hd (w119.tdiv w40 = q120)) (w119s : Hd (1000 * u114 = w119)) (u122s : Hd (max (u9 + (-1) * x29 + z21) 0 = u122)) (u123s : Hd (max (u122 + (-1) * u9 + x29) 0 = u123)) (u124s : Hd (max (u10 + u122 + x29) 0 = u124)) (q126e : Hd (w125.tdiv w36 = q126)) (w125s : Hd (1000 * u124 = w125)) (q129e : Hd (w128.tdiv w40 = q129)) (w128s : Hd (1000 * u123 = w128)) (q131e : Hd (((-1) * u10 + (-1) * u122 + (-1) * x29 + z32 + (-1)).tdiv 2 = q131)) (u133s : Hd (max (q131 + u122 + (-1) * u9 + x29) 0 = u133)) (u134s : Hd (max (q131 + u10 + u122 + x29) 0 = u134)) (q136e : Hd (w135.tdiv w36 = q136)) (w135s : Hd (1000 * u134 = w135)) (q139e : Hd (w138.tdiv w40 = q139)) (w138s : Hd (1000 * u133 = w138)) (m141e : Hd (u122 * x21 = m141)) (w142s : Hd ((-1) * m141 + (-1) * m73 + (-1) * m74 + m75 + (-1) * x21 = w142)) (q143e : Hd ((w142).tdiv 255 = q143)) (u145s : Hd (max (q143 + q82 + u122 + (-1) * u9 + x29) 0 = u145)) (q147e : Hd (w146.tdiv w86 = q147)) (w146s : Hd (1000 * u145 = w146)) (u149s : Hd (max (u122 + (-1) * u9 + x29 + (-1)) 0 = u149)) (u150s : Hd (max (u10 + u122 + x29 + (-1)) 0 = u150)) (q152e : Hd (w151.tdiv w36 = q152)) (w151s : Hd (1000 * u150 = w151)) (q155e : Hd (w154.tdiv w40 = q155)) (w154s : Hd (1000 * u149 = w154)) (b_x0 : 0 ≤ x0 ∧ x0 ≤ 255) (b_x1 : 0 ≤ x1 ∧ x1 ≤ 255) (b_x2 : 0 ≤ x2 ∧ x2 ≤ 255) (b_x3 : 0 ≤ x3 ∧ x3 ≤ 255) (b_x4 : 0 ≤ x4 ∧ x4 ≤ 255) (b_r2 : 0 ≤ r2 ∧ r2 ≤ 59) (b_x5 : 0 ≤ x5 ∧ x5 ≤ 255) (b_x6 : 0 ≤ x6 ∧ x6 ≤ 255) (b_r4 : 0 ≤ r4 ∧ r4 ≤ 59) (b_x7 : 0 ≤ x7 ∧ x7 ≤ 255) (b_x8 : 0 ≤ x8 ∧ x8 ≤ 255) (b_x9 : 0 ≤ x9 ∧ x9 ≤ 255) (b_x10 : 0 ≤ x10 ∧ x10 ≤ 255) (b_r6 : 0 ≤ r6 ∧ r6 ≤ 19) (b_x11 : 0 ≤ x11 ∧ x11 ≤ 255) (b_x12 : 0 ≤ x12 ∧ x12 ≤ 255) (b_x26 : 0 ≤ x26 ∧ x26 ≤ 65535) (b_q7 : 0 ≤ q7 ∧ q7 ≤ 16383) (b_x27 : 0 ≤ x27 ∧ x27 ≤ 65535) (b_x28 : -32768 ≤ x28 ∧ x28 ≤ 32767) (b_x29 : -32768 ≤ x29 ∧ x29 ≤ 32767) (b_u9 : 0 ≤ u9 ∧ u9 ≤ 65535) (b_u10 : 0 ≤ u10 ∧ u10 ≤ 65535) (b_w13 : 0 ≤ w13 ∧ w13 ≤ 1601400) (b_m11 : 0 ≤ m11 ∧ m11 ≤ 15045) (b_m12 : 0 ≤ m12 ∧ m12 ≤ 65025) (b_w16 : 0 ≤ w16 ∧ w16 ≤ 2402100) (b_m14 : 0 ≤ m14 ∧ m14 ≤ 15045) (b_m15 : 0 ≤ m15 ∧ m15 ≤ 65025) (b_w20 : 0 ≤ w20 ∧ w20 ≤ 107382373500) (b_m17 : 0 ≤ m17 ∧ m17 ≤ 26235736200) (b_m18 : 0 ≤ m18 ∧ m18 ≤ 39353604300) (b_m19 : 0 ≤ m19 ∧ m19 ≤ 4177665) (b_z21 : 0 ≤ z21 ∧ z21 ≤ 107382374) (b_w22 : 0 ≤ w22 ∧ w22 ≤ 1300500) (b_w23 : 0 ≤ w23 ∧ w23 ≤ 1950750) (b_u24 : 0 ≤ u24 ∧ u24 ≤ 25501) (b_w31 : -147963175250 ≤ w31 ∧ w31 ≤ 147968979500) (b_m25 : 0 ≤ m25 ∧ m25 ≤ 33164050500) (b_m26 : 0 ≤ m26 ∧ m26 ≤ 49746075750) (b_m27 : 0 ≤ m27 ∧ m27 ≤ 6502755) (b_m28 : 0 ≤ m28 ∧ m28 ≤ 331627500) (b_m29 : 0 ≤ m29 ∧ m29 ≤ 497441250) (b_m30 : 0 ≤ m30 ∧ m30 ≤ 65025) (b_z32 : -147963175 ≤ z32 ∧ z32 ≤ 147968980) (b_u33 : 0 ≤ u33 ∧ u33 ≤ 32767) (b_u34 : 0 ≤ u34 ∧ u34 ≤ 98302) (b_q37 : 0 ≤ q37 ∧ q37 ≤ 98302) (b_w35 : 0 ≤ w35 ∧ w35 ≤ 98302000) (b_w36 : 1000 ≤ w36 ∧ w36 ≤ 5802250) (b_q41 : 0 ≤ q41 ∧ q41 ≤ 32767) (b_w39 : 0 ≤ w39 ∧ w39 ≤ 32767000) (b_w40 : 1000 ≤ w40 ∧ w40 ≤ 6554500) (b_u43 : 0 ≤ u43 ∧ u43 ≤ 147968979) (b_u44 : 0 ≤ u44 ∧ u44 ≤ 147968979) (b_q46 : 0 ≤ q46 ∧ q46 ≤ 147968979) (b_w45 : 0 ≤ w45 ∧ w45 ≤ 147968979000) (b_q49 : 0 ≤ q49 ∧ q49 ≤ 147968979) (b_w48 : 0 ≤ w48 ∧ w48 ≤ 147968979000) (b_q51 : -74030739 ≤ q51 ∧ q51 ≤ 74000873) (b_u53 : 0 ≤ u53 ∧ u53 ≤ 74033640) (b_u54 : 0 ≤ u54 ∧ u54 ≤ 74099175) (b_q56 : 0 ≤ q56 ∧ q56 ≤ 74099175) (b_w55 : 0 ≤ w55 ∧ w55 ≤ 74099175000) (b_q59 : 0 ≤ q59 ∧ q59 ≤ 74033640) (b_w58 : 0 ≤ w58 ∧ w58 ≤ 74033640000) (b_x18 : 0 ≤ x18 ∧ x18 ≤ 255) (b_w62 : 0 ≤ w62 ∧ w62 ≤ 15045) (b_m61 : 0 ≤ m61 ∧ m61 ≤ 15045) (b_q63 : 0 ≤ q63 ∧ q63 ≤ 59) (b_x19 : 0 ≤ x19 ∧ x19 ≤ 255) (b_w66 : 0 ≤ w66 ∧ w66 ≤ 15045) (b_m65 : 0 ≤ m65 ∧ m65 ≤ 15045) (b_q67 : 0 ≤ q67 ∧ q67 ≤ 59) (b_w70 : 0 ≤ w70 ∧ w70 ≤ 1601400) (b_m69 : 0 ≤ m69 ∧ m69 ≤ 15045) (b_w72 : 0 ≤ w72 ∧ w72 ≤ 2402100) (b_m71 : 0 ≤ m71 ∧ m71 ≤ 15045) (b_x21 : 0 ≤ x21 ∧ x21 ≤ 255) (b_w76 : -37755676890 ≤ w76 ∧ w76 ≤ 37740445740) (b_m73 : 0 ≤ m73 ∧ m73 ≤ 16711425) (b_m74 : -8355840 ≤ m74 ∧ m74 ≤ 8355585) (b_m75 : -37730609625 ≤ m75 ∧ m75 ≤ 37732089900) (b_q77 : -148061478 ≤ q77 ∧ q77 ≤ 148001748) (b_x20 : 0 ≤ x20 ∧ x20 ≤ 255) (b_w81 : 0 ≤ w81 ∧ w81 ≤ 33422850) (b_m79 : 0 ≤ m79 ∧ m79 ≤ 16711425) (b_m80 : 0 ≤ m80 ∧ m80 ≤ 16711425) (b_q82 : 0 ≤ q82 ∧ q82 ≤ 131070) (b_u84 : 0 ≤ u84 ∧ u84 ≤ 148165585) (b_q87 : 0 ≤ q87 ∧ q87 ≤ 148165585) (b_w85 : 0 ≤ w85 ∧ w85 ≤ 148165585000) (b_w86 : 1000 ≤ w86 ∧ w86 ≤ 6554500) (b_x25 : 0 ≤ x25 ∧ x25 ≤ 255) (b_w90 : 0 ≤ w90 ∧ w90 ≤ 650250) (b_m89 : 0 ≤ m89 ∧ m89 ≤ 65025) (b_q91 : 0 ≤ q91 ∧ q91 ≤ 2550) (b_u93 : 0 ≤ u93 ∧ u93 ≤ 147968980) (b_u94 : 0 ≤ u94 ∧ u94 ≤ 147968980) (b_q96 : 0 ≤ q96 ∧ q96 ≤ 147968980) (b_w95 : 0 ≤ w95 ∧ w95 ≤ 147968980000) (b_q99 : 0 ≤ q99 ∧ q99 ≤ 147968980) (b_w98 : 0 ≤ w98 ∧ w98 ≤ 147968980000) (b_w103 : 0 ≤ w103 ∧ w103 ≤ 107382373500) (b_m101 : 0 ≤ m101 ∧ m101 ≤ 26235736200) (b_m102 : 0 ≤ m102 ∧ m102 ≤ 39353604300) (b_z104 : 0 ≤ z104 ∧ z104 ≤ 107382374) (b_u105 : 0 ≤ u105 ∧ u105 ≤ 107415141) (b_u106 : 0 ≤ u106 ∧ u106 ≤ 107480676) (b_q108 : 0 ≤ q108 ∧ q108 ≤ 107480676) (b_w107 : 0 ≤ w107 ∧ w107 ≤ 107480676000) (b_q111 : 0 ≤ q111 ∧ q111 ≤ 107415141) (b_w110 : 0 ≤ w110 ∧ w110 ≤ 107415141000) (b_u113 : 0 ≤ u113 ∧ u113 ≤ 107480677) (b_u114 : 0 ≤ u114 ∧ u114 ≤ 107513444) (b_u115 : 0 ≤ u115 ∧ u115 ≤ 107578979) (b_q117 : 0 ≤ q117 ∧ q117 ≤ 107578979) (b_w116 : 0 ≤ w116 ∧ w116 ≤ 107578979000) (b_q120 : 0 ≤ q120 ∧ q120 ≤ 107513444) (b_w119 : 0 ≤ w119 ∧ w119 ≤ 107513444000) (b_u122 : 0 ≤ u122 ∧ u122 ≤ 107480677) (b_u123 : 0 ≤ u123 ∧ u123 ≤ 107513444) (b_u124 : 0 ≤ u124 ∧ u124 ≤ 107578979) (b_q126 : 0 ≤ q126 ∧ q126 ≤ 107578979) (b_w125 : 0 ≤ w125 ∧ w125 ≤ 107578979000) (b_q129 : 0 ≤ q129 ∧ q129 ≤ 107513444) (b_w128 : 0 ≤ w128 ∧ w128 ≤ 107513444000) (b_q131 : -127771077 ≤ q131 ∧ q131 ≤ 74000873) (b_u133 : 0 ≤ u133 ∧ u133 ≤ 181514317) (b_u134 : 0 ≤ u134 ∧ u134 ≤ 181579852) (b_q136 : 0 ≤ q136 ∧ q136 ≤ 181579852) (b_w135 : 0 ≤ w135 ∧ w135 ≤ 181579852000) (b_q139 : 0 ≤ q139 ∧ q139 ≤ 181514317) (b_w138 : 0 ≤ w138 ∧ w138 ≤ 181514317000) (b_w142 : -65163249525 ≤ w142 ∧ w142 ≤ 37740445740) (b_m141 : 0 ≤ m141 ∧ m141 ≤ 27407572635) (b_q143 : -255542155 ≤ q143 ∧ q143 ≤ 148001748) (b_u145 : 0 ≤ u145 ∧ u145 ≤ 255646262) (b_q147 : 0 ≤ q147 ∧ q147 ≤ 255646262) (b_w146 : 0 ≤ w146 ∧ w146 ≤ 255646262000) (b_u149 : 0 ≤ u149 ∧ u149 ≤ 107513443) (b_u150 : 0 ≤ u150 ∧ u150 ≤ 107578978) (b_q152 : 0 ≤ q152 ∧ q152 ≤ 107578978) (b_w151 : 0 ≤ w151 ∧ w151 ≤ 107578978000) (b_q155 : 0 ≤ q155 ∧ q155 ≤ 107513443) (b_w154 : 0 ≤ w154 ∧ w154 ≤ 107513443000) : Is ρ br2 (10 * x0 + 1) ∧ Is ρ br4 (20 * x1) ∧ Is ρ br6 (30 * x2) ∧ Is ρ br7 (x3) ∧ Is ρ br10 (r2 + x3) ∧ Is ρ br11 (x5) ∧ Is ρ br14 (r4 + x5) ∧ Is ρ br17 (100 * x7 + 1) ∧ Is ρ br20 (100 * x7 + 10 * x8 + 1) ∧ Is ρ br22 (x9 + 1) ∧ Is ρ br25 (r6 + x9 + 1) ∧ Is ρ br28 (100 * x11 + 1) ∧ Is ρ br31 (100 * x11 + 10 * x12 + 1) ∧ Is ρ br33 (q7) ∧ Is ρ br35 (q7 + x27) ∧ Is ρ br37 ((-1) * u9 + x29) ∧ Is ρ br39 (u10 + x29) ∧ Is ρ br44 (w13 + w16 + 10000 * x0 + 1000) ∧ Is ρ br50 (z21) ∧ Is ρ br56 (w22 + w23 + 10000 * x0 + 1000) ∧ Is ρ br65 ((-1) * u10 + (-1) * x29 + z32 + (-1)) ∧ Is ρ br67 (u33) ∧ Is ρ br69 (u34) ∧ Is ρ br72 (q37) ∧ Is ρ br75 (q41) ∧ Is ρ br77 (u43) ∧ Is ρ br79 (u44) ∧ Is ρ br82 (q46) ∧ Is ρ br85 (q49) ∧ Is ρ br90 (u53) ∧ Is ρ br92 (u54) ∧ Is ρ br95 (q56) ∧ Is ρ br98 (q59) ∧ Is ρ br103 (q63 + x3) ∧ Is ρ br110 (q67 + x5) ∧ Is ρ br112 (w70 + w72 + 10000 * x0 + 1000) ∧ Is ρ br129 (q87) ∧ Is ρ br134 (q91 + 100 * x11 + 1) ∧ Is ρ br137 (u93) ∧ Is ρ br139 (u94) ∧ Is ρ br142 (q96) ∧ Is ρ br145 (q99) ∧ Is ρ br155 (u105) ∧ Is ρ br157 (u106) ∧ Is ρ br160 (q108) ∧ Is ρ br163 (q111) ∧ Is ρ br167 (u114) ∧ Is ρ br169 (u115) ∧ Is ρ br172 (q117) ∧ Is ρ br175 (q120) ∧ Is ρ br177 (u122) ∧ Is ρ br179 (u123) ∧ Is ρ br181 (u124) ∧ Is ρ br184 (q126) ∧ Is ρ br187 (q129) ∧ Is ρ br192 (u133) ∧ Is ρ br194 (u134) ∧ Is ρ br197 (q136) ∧ Is ρ br200 (q139) ∧ Is ρ br211 (q147) ∧ Is ρ br214 (u149) ∧ Is ρ br216 (u150) ∧ Is ρ br219 (q152) ∧ Is ρ br222 (q155) := by
  have h0 : Is ρ br0 (x0) := Zconv e0 (by omega)
  have h1 : Is ρ br1 (10 * x0) := Ym (Zc 10) h0 (by omega)
  have h2 : Is ρ br2 (10 * x0 + 1) := Ya (Zc 1) h1 (by omega)
  have h3 : Is ρ br3 (x1) := Zconv e1 (by omega)
  have h4 : Is ρ br4 (20 * x1) := Ym (Zc 20) h3 (by omega)
  have h5 : Is ρ br5 (x2) := Zconv e2 (by omega)
  have h6 : Is ρ br6 (30 * x2) := Ym (Zc 30) h5 (by omega)
  have h7 : Is ρ br7 (x3) := Zconv e3 (by omega)
  have h8 : Is ρ br8 (x4) := Zconv e4 (by omega)
  have h9 : Is ρ br9 (r2) := Zremp h8 (Zc 60) (by omega) r2e.out
  have h10 : Is ρ br10 (r2 + x3) := Ya h7 h9 (by omega)
  have h11 : Is ρ br11 (x5) := Zconv e5 (by omega)
  have h12 : Is ρ br12 (x6) := Zconv e6 (by omega)
  have h13 : Is ρ br13 (r4) := Zremp h12 (Zc 60) (by omega) r4e.out
  have h14 : Is ρ br14 (r4 + x5) := Ya h11 h13 (by omega)
  have h15 : Is ρ br15 (x7) := Zconv e7 (by omega)
  have h16 : Is ρ br16 (100 * x7) := Ym (Zc 100) h15 (by omega)
  have h17 : Is ρ br17 (100 * x7 + 1) := Ya (Zc 1) h16 (by omega)
  have h18 : Is ρ br18 (x8) := Zconv e8 (by omega)
  have h19 : Is ρ br19 (10 * x8) := Ym (Zc 10) h18 (by omega)
  have h20 : Is ρ br20 (100 * x7 + 10 * x8 + 1) := Ya h17 h19 (by omega)
  have h21 : Is ρ br21 (x9) := Zconv e9 (by omega)
  have h22 : Is ρ br22 (x9 + 1) := Ya (Zc 1) h21 (by omega)
  have h23 : Is ρ br23 (x10) := Zconv e10 (by omega)
  have h24 : Is ρ br24 (r6) := Zremp h23 (Zc 20) (by omega) r6e.out
  have h25 : Is ρ br25 (r6 + x9 + 1) := Ya h22 h24 (by omega)
  have h26 : Is ρ br26 (x11) := Zconv e11 (by omega)
  have h27 : Is ρ br27 (100 * x11) := Ym (Zc 100) h26 (by omega)
  have h28 : Is ρ br28 (100 * x11 + 1) := Ya (Zc 1) h27 (by omega)
  have h29 : Is ρ br29 (x12) := Zconv e12 (by omega)
  have h30 : Is ρ br30 (10 * x12) := Ym (Zc 10) h29 (by omega)
  have h31 : Is ρ br31 (100 * x11 + 10 * x12 + 1) := Ya h28 h30 (by omega)
  have h32 : Is ρ br32 (x26) := Zconv e26 (by omega)
  have h33 : Is ρ br33 (q7) := Zquop h32 (Zc 4) (by omega) (by omega) q7e.out
  have h34 : Is ρ br34 (x27) := Zconv e27 (by omega)
  have h35 : Is ρ br35 (q7 + x27) := Ya h33 h34 (by omega)
  have h36 : Is ρ br36 ((-1) * u9 + x29) := by
    have u9s := u9s.out
    exact Zmn e28 e29 (by omega)
  have h37 : Is ρ br37 ((-1) * u9 + x29) := Zconv h36 (by omega)
  have h38 : Is ρ br38 (u10 + x29) := by
    have u10s := u10s.out
    exact Zmx e28 e29 (by omega)
  have h39 : Is ρ br39 (u10 + x29) := Zconv h38 (by omega)
  have h40 : Is ρ br40 (w13) := by
    have w13s := w13s.out
    exact Zmul h4 h10 (by omega) (((by simp only [Int.add_mul, Int.mul_add, Int.mul_assoc, Int.mul_comm, Int.mul_left_comm, Int.reduceMul, Int.reduceNeg, Int.mul_one, Int.one_mul] <;> omega : (20 * x1) * (r2 + x3) = 20 * (r2 * x1) + 20 * (x1 * x3)).trans (by (try simp only [m11e.out, m12e.out]) <;> omega)).trans w13s)
  have h41 : Is ρ br41 (w16) := by
    have w16s := w16s.out
    exact Zmul h6 h14 (by omega) (((by simp only [Int.add_mul, Int.mul_add, Int.mul_assoc, Int.mul_comm, Int.mul_left_comm, Int.reduceMul, Int.reduceNeg, Int.mul_one, Int.one_mul] <;> omega : (30 * x2) * (r4 + x5) = 30 * (r4 * x2) + 30 * (x2 * x5)).trans (by (try simp only [m14e.out, m15e.out]) <;> omega)).trans w16s)
  have h42 : Is ρ br42 (w13 + w16) := Ya h40 h41 (by omega)
  have h43 : Is ρ br43 (10000 * x0 + 1000) := Ym (Zc 1000) h2 (by omega)
  have h44 : Is ρ br44 (w13 + w16 + 10000 * x0 + 1000) := Ya h42 h43 (by omega)
  have h45 : Is ρ br45 (w20) := by
    have w20s := w20s.out
    exact Zmul h33 h44 (by omega) (((by simp only [Int.add_mul, Int.mul_add, Int.mul_assoc, Int.mul_comm, Int.mul_left_comm, Int.reduceMul, Int.reduceNeg, Int.mul_one, Int.one_mul] <;> omega : (q7) * (w13 + w16 + 10000 * x0 + 1000) = q7 * w13 + q7 * w16 + 10000 * (q7 * x0) + 1000 * q7).trans (by (try simp only [m17e.out, m18e.out, m19e.out]) <;> omega)).trans w20s)
  have h50 : Is ρ br50 (z21) := by
    have z21s := z21s.out
    exact Zru h45 (by omega) (by omega) (by omega) (by omega)
  have h53 : Is ρ br53 (w22) := by
    have w22s := w22s.out
    exact Zmul h4 h7 (by omega) (((by simp only [Int.add_mul, Int.mul_add, Int.mul_assoc, Int.mul_comm, Int.mul_left_comm, Int.reduceMul, Int.reduceNeg, Int.mul_one, Int.one_mul] <;> omega : (20 * x1) * (x3) = 20 * (x1 * x3)).trans (by (try simp only [m12e.out]) <;> omega)).trans w22s)
  have h54 : Is ρ br54 (w23) := by
    have w23s := w23s.out
    exact Zmul h6 h11 (by omega) (((by simp only [Int.add_mul, Int.mul_add, Int.mul_assoc, Int.mul_comm, Int.mul_left_comm, Int.reduceMul, Int.reduceNeg, Int.mul_one, Int.one_mul] <;> omega : (30 * x2) * (x5) = 30 * (x2 * x5)).trans (by (try simp only [m15e.out]) <;> omega)).trans w23s)
  have h55 : Is ρ br55 (w22 + w23) := Ya h53 h54 (by omega)
  have h56 : Is ρ br56 (w22 + w23 + 10000 * x0 + 1000) := Ya h55 h43 (by omega)
  have h51 : Is ρ br51 ((-1) * u24 + 100 * x11 + 1) := by
    have u24s := u24s.out
    exact Zmn h35 h28 (by omega)
  have h52 : Is ρ br52 ((-1) * u24 + 100 * x11 + 2) := Ya h51 (Zc 1) (by omega)
  have h57 : Is ρ br57 (w31) := by
    have w31s := w31s.out
    exact Zmul h52 h56 (by omega) (((by simp only [Int.add_mul, Int.mul_add, Int.mul_assoc, Int.mul_comm, Int.mul_left_comm, Int.reduceMul, Int.reduceNeg, Int.mul_one, Int.one_mul] <;> omega : ((-1) * u24 + 100 * x11 + 2) * (w22 + w23 + 10000 * x0 + 1000) = (-1) * (u24 * w22) + (-1) * (u24 * w23) + (-10000) * (u24 * x0) + 100 * (w22 * x11) + 100 * (w23 * x11) + 1000000 * (x0 * x11) + (-1000) * u24 + 100000 * x11 + 2 * w22 + 2 * w23 + 20000 * x0 + 2000).trans (by (try simp only [m25e.out, m26e.out, m27e.out, m28e.out, m29e.out, m30e.out]) <;> omega)).trans w31s)
  have h62 : Is ρ br62 (z32) := by
    have z32s := z32s.out
    exact Zru h57 (by omega) (by omega) (by omega) (by omega)
  have h63 : Is ρ br63 (z32 + (-1)) := Ys h62 (Zc 1) (by omega)
  have h64 : Is ρ br64 ((-1) * u10 + (-1) * x29 + z32 + (-1)) := Ys h63 h39 (by omega)
  have h65 : Is ρ br65 ((-1) * u10 + (-1) * x29 + z32 + (-1)) := Zmn h64 (Zc 10000000000000) (by omega)
  have h66 : Is ρ br66 ((-1) * u9 + x29) := Ya (Zc 0) h37 (by omega)
  have h67 : Is ρ br67 (u33) := by
    have u33s := u33s.out
    exact Zmx (Zc 0) h66 (by omega)
  have h68 : Is ρ br68 (u10 + x29) := Ya (Zc 0) h39 (by omega)
  have h69 : Is ρ br69 (u34) := by
    have u34s := u34s.out
    exact Zmx (Zc 0) h68 (by omega)
  have h70 : Is ρ br70 (1000 * u34) := Ym (Zc 1000) h69 (by omega)
  have h71 : Is ρ br71 (q37) := by
    have w35s := w35s.out
    have w36s := w36s.out
    exact Ztq (w35s ▸ h70) (w36s ▸ h56) q37e.out (by omega)
  have h72 : Is ρ br72 (q37) := Ya (Zc 0) h71 (by omega)
  have h73 : Is ρ br73 (1000 * u33) := Ym (Zc 1000) h67 (by omega)
  have h74 : Is ρ br74 (q41) := by
    have w39s := w39s.out
    have w40s := w40s.out
    exact Ztq (w39s ▸ h73) (w40s ▸ h44) q41e.out (by omega)
  have h75 : Is ρ br75 (q41) := Ya (Zc 0) h74 (by omega)
  have h76 : Is ρ br76 ((-1) * u10 + (-1) * u9 + z32 + (-1)) := Ya h65 h37 (by omega)
  have h77 : Is ρ br77 (u43) := by
    have u43s := u43s.out
    exact Zmx (Zc 0) h76 (by omega)
  have h78 : Is ρ br78 (z32 + (-1)) := Ya h65 h39 (by omega)
  have h79 : Is ρ br79 (u44) := by
    have u44s := u44s.out
    exact Zmx (Zc 0) h78 (by omega)
  have h80 : Is ρ br80 (1000 * u44) := Ym (Zc 1000) h79 (by omega)
  have h81 : Is ρ br81 (q46) := by
    have w45s := w45s.out
    have w36s := w36s.out
    exact Ztq (w45s ▸ h80) (w36s ▸ h56) q46e.out (by omega)
  have h82 : Is ρ br82 (q46) := Ya (Zc 0) h81 (by omega)
  have h83 : Is ρ br83 (1000 * u43) := Ym (Zc 1000) h77 (by omega)
  have h84 : Is ρ br84 (q49) := by
    have w48s := w48s.out
    have w40s := w40s.out
    exact Ztq (w48s ▸ h83) (w40s ▸ h44) q49e.out (by omega)
  have h85 : Is ρ br85 (q49) := Ya (Zc 0) h84 (by omega)
  have h86 : Is ρ br86 ((-1) * u10 + (-1) * x29 + z32 + (-1)) := Ys h65 (Zc 0) (by omega)
  have h87 : Is ρ br87 (q51) := Ztq h86 (Zc 2) q51e.out (by omega)
  have h88 : Is ρ br88 (q51) := Ya (Zc 0) h87 (by omega)
  have h89 : Is ρ br89 (q51 + (-1) * u9 + x29) := Ya h88 h37 (by omega)
  have h90 : Is ρ br90 (u53) := by
    have u53s := u53s.out
    exact Zmx (Zc 0) h89 (by omega)
  have h91 : Is ρ br91 (q51 + u10 + x29) := Ya h88 h39 (by omega)
  have h92 : Is ρ br92 (u54) := by
    have u54s := u54s.out
    exact Zmx (Zc 0) h91 (by omega)
  have h93 : Is ρ br93 (1000 * u54) := Ym (Zc 1000) h92 (by omega)
  have h94 : Is ρ br94 (q56) := by
    have w55s := w55s.out
    have w36s := w36s.out
    exact Ztq (w55s ▸ h93) (w36s ▸ h56) q56e.out (by omega)
  have h95 : Is ρ br95 (q56) := Ya (Zc 0) h94 (by omega)
  have h96 : Is ρ br96 (1000 * u53) := Ym (Zc 1000) h90 (by omega)
  have h97 : Is ρ br97 (q59) := by
    have w58s := w58s.out
    have w40s := w40s.out
    exact Ztq (w58s ▸ h96) (w40s ▸ h44) q59e.out (by omega)
  have h98 : Is ρ br98 (q59) := Ya (Zc 0) h97 (by omega)
  have h99 : Is ρ br99 (x18) := Zconv e18 (by omega)
  have h100 : Is ρ br100 (r2) := Ys h10 h7 (by omega)
  have h101 : Is ρ br101 (w62) := by
    have w62s := w62s.out
    exact Zmul h99 h100 (by omega) (((by simp only [Int.add_mul, Int.mul_add, Int.mul_assoc, Int.mul_comm, Int.mul_left_comm, Int.reduceMul, Int.reduceNeg, Int.mul_one, Int.one_mul] <;> omega : (x18) * (r2) = r2 * x18).trans (by (try simp only [m61e.out]) <;> omega)).trans w62s)
  have h102 : Is ρ br102 (q63) := Zquop h101 (Zc 255) (by omega) (by omega) q63e.out
  have h103 : Is ρ br103 (q63 + x3) := Ya h7 h102 (by omega)
  have h106 : Is ρ br106 (x19) := Zconv e19 (by omega)
  have h107 : Is ρ br107 (r4) := Ys h14 h11 (by omega)
  have h108 : Is ρ br108 (w66) := by
    have w66s := w66s.out
    exact Zmul h106 h107 (by omega) (((by simp only [Int.add_mul, Int.mul_add, Int.mul_assoc, Int.mul_comm, Int.mul_left_comm, Int.reduceMul, Int.reduceNeg, Int.mul_one, Int.one_mul] <;> omega : (x19) * (r4) = r4 * x19).trans (by (try simp only [m65e.out]) <;> omega)).trans w66s)
  have h109 : Is ρ br109 (q67) := Zquop h108 (Zc 255) (by omega) (by omega) q67e.out
  have h110 : Is ρ br110 (q67 + x5) := Ya h11 h109 (by omega)
  have h104 : Is ρ br104 (w70) := by
    have w70s := w70s.out
    exact Zmul h4 h103 (by omega) (((by simp only [Int.add_mul, Int.mul_add, Int.mul_assoc, Int.mul_comm, Int.mul_left_comm, Int.reduceMul, Int.reduceNeg, Int.mul_one, Int.one_mul] <;> omega : (20 * x1) * (q63 + x3) = 20 * (q63 * x1) + 20 * (x1 * x3)).trans (by (try simp only [m69e.out, m12e.out]) <;> omega)).trans w70s)
  have h105 : Is ρ br105 (w70 + 10000 * x0 + 1000) := Ya h43 h104 (by omega)
  have h111 : Is ρ br111 (w72) := by
    have w72s := w72s.out
    exact Zmul h6 h110 (by omega) (((by simp only [Int.add_mul, Int.mul_add, Int.mul_assoc, Int.mul_comm, Int.mul_left_comm, Int.reduceMul, Int.reduceNeg, Int.mul_one, Int.one_mul] <;> omega : (30 * x2) * (q67 + x5) = 30 * (q67 * x2) + 30 * (x2 * x5)).trans (by (try simp only [m71e.out, m15e.out]) <;> omega)).trans w72s)
  have h112 : Is ρ br112 (w70 + w72 + 10000 * x0 + 1000) := Ya h105 h111 (by omega)
  have h113 : Is ρ br113 (x21) := Zconv e21 (by omega)
  have h114 : Is ρ br114 (w76) := by
    have w76s := w76s.out
    exact Zmul h113 h86 (by omega) (((by simp only [Int.add_mul, Int.mul_add, Int.mul_assoc, Int.mul_comm, Int.mul_left_comm, Int.reduceMul, Int.reduceNeg, Int.mul_one, Int.one_mul] <;> omega : (x21) * ((-1) * u10 + (-1) * x29 + z32 + (-1)) = (-1) * (u10 * x21) + (-1) * (x21 * x29) + x21 * z32 + (-1) * x21).trans (by (try simp only [m73e.out, m74e.out, m75e.out]) <;> omega)).trans w76s)
  have h115 : Is ρ br115 (q77) := Ztq h114 (Zc 255) q77e.out (by omega)
  have h116 : Is ρ br116 (q77) := Ya (Zc 0) h115 (by omega)
  have h117 : Is ρ br117 (x20) := Zconv e20 (by omega)
  have h118 : Is ρ br118 (u10 + u9) := Ys h39 h37 (by omega)
  have h119 : Is ρ br119 (w81) := by
    have w81s := w81s.out
    exact Zmul h117 h118 (by omega) (((by simp only [Int.add_mul, Int.mul_add, Int.mul_assoc, Int.mul_comm, Int.mul_left_comm, Int.reduceMul, Int.reduceNeg, Int.mul_one, Int.one_mul] <;> omega : (x20) * (u10 + u9) = u10 * x20 + u9 * x20).trans (by (try simp only [m79e.out, m80e.out]) <;> omega)).trans w81s)
  have h120 : Is ρ br120 (q82) := Zquop h119 (Zc 255) (by omega) (by omega) q82e.out
  have h121 : Is ρ br121 (q82 + (-1) * u9 + x29) := Ya h37 h120 (by omega)
  have h122 : Is ρ br122 (q77 + q82 + (-1) * u9 + x29) := Ya h116 h121 (by omega)
  have h123 : Is ρ br123 (u84) := by
    have u84s := u84s.out
    exact Zmx (Zc 0) h122 (by omega)
  have h124 : Is ρ br124 (0) := Ys h123 h123 (by omega)
  have h125 : Is ρ br125 (0) := Ym h117 h124 (by omega)
  have h126 : Is ρ br126 (0) := Zqx h125 (Zc 255) (by omega) (by omega) (by omega)
  have h127 : Is ρ br127 (u84) := Ya h123 h126 (by omega)
  have h128 : Is ρ br128 (1000 * u84) := Ym (Zc 1000) h127 (by omega)
  have h129 : Is ρ br129 (q87) := by
    have w85s := w85s.out
    have w86s := w86s.out
    exact Ztq (w85s ▸ h128) (w86s ▸ h112) q87e.out (by omega)
  have h130 : Is ρ br130 (x25) := Zconv e25 (by omega)
  have h131 : Is ρ br131 (10 * x12) := Ys h31 h28 (by omega)
  have h132 : Is ρ br132 (w90) := by
    have w90s := w90s.out
    exact Zmul h130 h131 (by omega) (((by simp only [Int.add_mul, Int.mul_add, Int.mul_assoc, Int.mul_comm, Int.mul_left_comm, Int.reduceMul, Int.reduceNeg, Int.mul_one, Int.one_mul] <;> omega : (x25) * (10 * x12) = 10 * (x12 * x25)).trans (by (try simp only [m89e.out]) <;> omega)).trans w90s)
  have h133 : Is ρ br133 (q91) := Zquop h132 (Zc 255) (by omega) (by omega) q91e.out
  have h134 : Is ρ br134 (q91 + 100 * x11 + 1) := Ya h28 h133 (by omega)
  have h135 : Is ρ br135 ((-1) * u10 + (-1) * x29 + z32) := Ya h65 (Zc 1) (by omega)
  have h136 : Is ρ br136 ((-1) * u10 + (-1) * u9 + z32) := Ya h135 h37 (by omega)
  have h137 : Is ρ br137 (u93) := by
    have u93s := u93s.out
    exact Zmx (Zc 0) h136 (by omega)
  have h138 : Is ρ br138 (z32) := Ya h135 h39 (by omega)
  have h139 : Is ρ br139 (u94) := by
    have u94s := u94s.out
    exact Zmx (Zc 0) h138 (by omega)
  have h140 : Is ρ br140 (1000 * u94) := Ym (Zc 1000) h139 (by omega)
  have h141 : Is ρ br141 (q96) := by
    have w95s := w95s.out
    have w36s := w36s.out
    exact Ztq (w95s ▸ h140) (w36s ▸ h56) q96e.out (by omega)
  have h142 : Is ρ br142 (q96) := Ya (Zc 0) h141 (by omega)
  have h143 : Is ρ br143 (1000 * u93) := Ym (Zc 1000) h137 (by omega)
  have h144 : Is ρ br144 (q99) := by
    have w98s := w98s.out
    have w40s := w40s.out
    exact Ztq (w98s ▸ h143) (w40s ▸ h44) q99e.out (by omega)
  have h145 : Is ρ br145 (q99) := Ya (Zc 0) h144 (by omega)
  have h146 : Is ρ br146 (w70 + w72) := Ya h104 h111 (by omega)
  have h147 : Is ρ br147 (w70 + w72 + 10000 * x0 + 1000) := Ya h43 h146 (by omega)
  have h148 : Is ρ br148 (w103) := by
    have w103s := w103s.out
    exact Zmul h33 h147 (by omega) (((by simp only [Int.add_mul, Int.mul_add, Int.mul_assoc, Int.mul_comm, Int.mul_left_comm, Int.reduceMul, Int.reduceNeg, Int.mul_one, Int.one_mul] <;> omega : (q7) * (w70 + w72 + 10000 * x0 + 1000) = q7 * w70 + q7 * w72 + 10000 * (q7 * x0) + 1000 * q7).trans (by (try simp only [m101e.out, m102e.out, m19e.out]) <;> omega)).trans w103s)
  have h153 : Is ρ br153 (z104) := by
    have z104s := z104s.out
    exact Zru h148 (by omega) (by omega) (by omega) (by omega)
  have h154 : Is ρ br154 ((-1) * u9 + x29 + z104) := Ya h153 h37 (by omega)
  have h155 : Is ρ br155 (u105) := by
    have u105s := u105s.out
    exact Zmx (Zc 0) h154 (by omega)
  have h156 : Is ρ br156 (u10 + x29 + z104) := Ya h153 h39 (by omega)
  have h157 : Is ρ br157 (u106) := by
    have u106s := u106s.out
    exact Zmx (Zc 0) h156 (by omega)
  have h158 : Is ρ br158 (1000 * u106) := Ym (Zc 1000) h157 (by omega)
  have h159 : Is ρ br159 (q108) := by
    have w107s := w107s.out
    have w36s := w36s.out
    exact Ztq (w107s ▸ h158) (w36s ▸ h56) q108e.out (by omega)
  have h160 : Is ρ br160 (q108) := Ya (Zc 0) h159 (by omega)
  have h161 : Is ρ br161 (1000 * u105) := Ym (Zc 1000) h155 (by omega)
  have h162 : Is ρ br162 (q111) := by
    have w110s := w110s.out
    have w40s := w40s.out
    exact Ztq (w110s ▸ h161) (w40s ▸ h44) q111e.out (by omega)
  have h163 : Is ρ br163 (q111) := Ya (Zc 0) h162 (by omega)
  have h164 : Is ρ br164 (u9 + (-1) * x29 + z104) := Ys h153 h37 (by omega)
  have h165 : Is ρ br165 (u113) := by
    have u113s := u113s.out
    exact Zmx (Zc 0) h164 (by omega)
  have h166 : Is ρ br166 (u113 + (-1) * u9 + x29) := Ya h165 h37 (by omega)
  have h167 : Is ρ br167 (u114) := by
    have u114s := u114s.out
    exact Zmx (Zc 0) h166 (by omega)
  have h168 : Is ρ br168 (u10 + u113 + x29) := Ya h165 h39 (by omega)
  have h169 : Is ρ br169 (u115) := by
    have u115s := u115s.out
    exact Zmx (Zc 0) h168 (by omega)
  have h170 : Is ρ br170 (1000 * u115) := Ym (Zc 1000) h169 (by omega)
  have h171 : Is ρ br171 (q117) := by
    have w116s := w116s.out
    have w36s := w36s.out
    exact Ztq (w116s ▸ h170) (w36s ▸ h56) q117e.out (by omega)
  have h172 : Is ρ br172 (q117) := Ya (Zc 0) h171 (by omega)
  have h173 : Is ρ br173 (1000 * u114) := Ym (Zc 1000) h167 (by omega)
  have h174 : Is ρ br174 (q120) := by
    have w119s := w119s.out
    have w40s := w40s.out
    exact Ztq (w119s ▸ h173) (w40s ▸ h44) q120e.out (by omega)
  have h175 : Is ρ br175 (q120) := Ya (Zc 0) h174 (by omega)
  have h176 : Is ρ br176 (u9 + (-1) * x29 + z21) := Ys h50 h37 (by omega)
  have h177 : Is ρ br177 (u122) := by
    have u122s := u122s.out
    exact Zmx h176 (Zc 0) (by omega)
  have h178 : Is ρ br178 (u122 + (-1) * u9 + x29) := Ya h177 h37 (by omega)
  have h179 : Is ρ br179 (u123) := by
    have u123s := u123s.out
    exact Zmx (Zc 0) h178 (by omega)
  have h180 : Is ρ br180 (u10 + u122 + x29) := Ya h177 h39 (by omega)
  have h181 : Is ρ br181 (u124) := by
    have u124s := u124s.out
    exact Zmx (Zc 0) h180 (by omega)
  have h182 : Is ρ br182 (1000 * u124) := Ym (Zc 1000) h181 (by omega)
  have h183 : Is ρ br183 (q126) := by
    have w125s := w125s.out
    have w36s := w36s.out
    exact Ztq (w125s ▸ h182) (w36s ▸ h56) q126e.out (by omega)
  have h184 : Is ρ br184 (q126) := Ya (Zc 0) h183 (by omega)
  have h185 : Is ρ br185 (1000 * u123) := Ym (Zc 1000) h179 (by omega)
  have h186 : Is ρ br186 (q129) := by
    have w128s := w128s.out
    have w40s := w40s.out
    exact Ztq (w128s ▸ h185) (w40s ▸ h44) q129e.out (by omega)
  have h187 : Is ρ br187 (q129) := Ya (Zc 0) h186 (by omega)
  have h188 : Is ρ br188 ((-1) * u10 + (-1) * u122 + (-1) * x29 + z32 + (-1)) := Ys h65 h177 (by omega)
  have h189 : Is ρ br189 (q131) := Ztq h188 (Zc 2) q131e.out (by omega)
  have h190 : Is ρ br190 (q131 + u122) := Ya h177 h189 (by omega)
  have h191 : Is ρ br191 (q131 + u122 + (-1) * u9 + x29) := Ya h190 h37 (by omega)
  have h192 : Is ρ br192 (u133) := by
    have u133s := u133s.out
    exact Zmx (Zc 0) h191 (by omega)
  have h193 : Is ρ br193 (q131 + u10 + u122 + x29) := Ya h190 h39 (by omega)
  have h194 : Is ρ br194 (u134) := by
    have u134s := u134s.out
    exact Zmx (Zc 0) h193 (by omega)
  have h195 : Is ρ br195 (1000 * u134) := Ym (Zc 1000) h194 (by omega)
  have h196 : Is ρ br196 (q136) := by
    have w135s := w135s.out
    have w36s := w36s.out
    exact Ztq (w135s ▸ h195) (w36s ▸ h56) q136e.out (by omega)
  have h197 : Is ρ br197 (q136) := Ya (Zc 0) h196 (by omega)
  have h198 : Is ρ br198 (1000 * u133) := Ym (Zc 1000) h192 (by omega)
  have h199 : Is ρ br199 (q139) := by
    have w138s := w138s.out
    have w40s := w40s.out
    exact Ztq (w138s ▸ h198) (w40s ▸ h44) q139e.out (by omega)
  have h200 : Is ρ br200 (q139) := Ya (Zc 0) h199 (by omega)
  have h201 : Is ρ br201 (w142) := by
    have w142s := w142s.out
    exact Zmul h113 h188 (by omega) (((by simp only [Int.add_mul, Int.mul_add, Int.mul_assoc, Int.mul_comm, Int.mul_left_comm, Int.reduceMul, Int.reduceNeg, Int.mul_one, Int.one_mul] <;> omega : (x21) * ((-1) * u10 + (-1) * u122 + (-1) * x29 + z32 + (-1)) = (-1) * (u10 * x21) + (-1) * (u122 * x21) + (-1) * (x21 * x29) + x21 * z32 + (-1) * x21).trans (by (try simp only [m73e.out, m141e.out, m74e.out, m75e.out]) <;> omega)).trans w142s)
  have h202 : Is ρ br202 (q143) := Ztq h201 (Zc 255) q143e.out (by omega)
  have h203 : Is ρ br203 (q143 + u122) := Ya h177 h202 (by omega)
  have h204 : Is ρ br204 (q143 + q82 + u122 + (-1) * u9 + x29) := Ya h203 h121 (by omega)
  have h205 : Is ρ br205 (u145) := by
    have u145s := u145s.out
    exact Zmx (Zc 0) h204 (by omega)
  have h206 : Is ρ br206 (0) := Ys h205 h205 (by omega)
  have h207 : Is ρ br207 (0) := Ym h117 h206 (by omega)
  have h208 : Is ρ br208 (0) := Zqx h207 (Zc 255) (by omega) (by omega) (by omega)
  have h209 : Is ρ br209 (u145) := Ya h205 h208 (by omega)
  have h210 : Is ρ br210 (1000 * u145) := Ym (Zc 1000) h209 (by omega)
  have h211 : Is ρ br211 (q147) := by
    have w146s := w146s.out
    have w86s := w86s.out
    exact Ztq (w146s ▸ h210) (w86s ▸ h112) q147e.out (by omega)
  have h212 : Is ρ br212 (u122 + (-1)) := Ys h177 (Zc 1) (by omega)
  have h213 : Is ρ br213 (u122 + (-1) * u9 + x29 + (-1)) := Ya h212 h37 (by omega)
  have h214 : Is ρ br214 (u149) := by
    have u149s := u149s.out
    exact Zmx (Zc 0) h213 (by omega)
  have h215 : Is ρ br215 (u10 + u122 + x29 + (-1)) := Ya h212 h39 (by omega)
  have h216 : Is ρ br216 (u150) := by
    have u150s := u150s.out
    exact Zmx (Zc 0) h215 (by omega)
  have h217 : Is ρ br217 (1000 * u150) := Ym (Zc 1000) h216 (by omega)
  have h218 : Is ρ br218 (q152) := by
    have w151s := w151s.out
    have w36s := w36s.out
    exact Ztq (w151s ▸ h217) (w36s ▸ h56) q152e.out (by omega)
  have h219 : Is ρ br219 (q152) := Ya (Zc 0) h218 (by omega)
  have h220 : Is ρ br220 (1000 * u149) := Ym (Zc 1000) h214 (by omega)
  have h221 : Is ρ br221 (q155) := by
    have w154s := w154s.out
    have w40s := w40s.out
    exact Ztq (w154s ▸ h220) (w40s ▸ h44) q155e.out (by omega)
  have h222 : Is ρ br222 (q155) := Ya (Zc 0) h221 (by omega)
  exact ⟨h2, h4, h6, h7, h10, h11, h14, h17, h20, h22, h25, h28, h31, h33, h35, h37, h39, h44, h50, h56, h65, h67, h69, h72, h75, h77, h79, h82, h85, h90, h92, h95, h98, h103, h110, h112, h129, h134, h137, h139, h142, h145, h155, h157, h160, h163, h167, h169, h172, h175, h177, h179, h181, h184, h187, h192, h194, h197, h200, h211, h214, h216, h219, h222⟩
theorem br_d0 {u33 u34 u10 u9 x29 : Int} (b_u10 : 0 ≤ u10 ∧ u10 ≤ 65535) (b_u9 : 0 ≤ u9 ∧ u9 ≤ 65535) (u33s : max ((-1) * u9 + x29) 0 = u33) (u34s : max (u10 + x29) 0 = u34) : (u33 : Int) ≤ u34 := by omega
theorem br_d1 {u43 u44 u10 u9 z32 : Int} (b_u10 : 0 ≤ u10 ∧ u10 ≤ 65535) (b_u9 : 0 ≤ u9 ∧ u9 ≤ 65535) (u43s : max ((-1) * u10 + (-1) * u9 + z32 + (-1)) 0 = u43) (u44s : max (z32 + (-1)) 0 = u44) : (u43 : Int) ≤ u44 := by omega
theorem br_d2 {u53 u54 u10 u9 q51 x29 : Int} (b_u10 : 0 ≤ u10 ∧ u10 ≤ 65535) (b_u9 : 0 ≤ u9 ∧ u9 ≤ 65535) (u53s : max (q51 + (-1) * u9 + x29) 0 = u53) (u54s : max (q51 + u10 + x29) 0 = u54) : (u53 : Int) ≤ u54 := by omega
theorem br_d3 {u93 u94 u10 u9 z32 : Int} (b_u10 : 0 ≤ u10 ∧ u10 ≤ 65535) (b_u9 : 0 ≤ u9 ∧ u9 ≤ 65535) (u93s : max ((-1) * u10 + (-1) * u9 + z32) 0 = u93) (u94s : max (z32) 0 = u94) : (u93 : Int) ≤ u94 := by omega
theorem br_d4 {u105 u106 u10 u9 x29 z104 : Int} (b_u10 : 0 ≤ u10 ∧ u10 ≤ 65535) (b_u9 : 0 ≤ u9 ∧ u9 ≤ 65535) (u105s : max ((-1) * u9 + x29 + z104) 0 = u105) (u106s : max (u10 + x29 + z104) 0 = u106) : (u105 : Int) ≤ u106 := by omega
theorem br_d5 {u114 u115 u10 u9 u113 x29 : Int} (b_u10 : 0 ≤ u10 ∧ u10 ≤ 65535) (b_u9 : 0 ≤ u9 ∧ u9 ≤ 65535) (u114s : max (u113 + (-1) * u9 + x29) 0 = u114) (u115s : max (u10 + u113 + x29) 0 = u115) : (u114 : Int) ≤ u115 := by omega
theorem br_d6 {u123 u124 u10 u9 u122 x29 : Int} (b_u10 : 0 ≤ u10 ∧ u10 ≤ 65535) (b_u9 : 0 ≤ u9 ∧ u9 ≤ 65535) (u123s : max (u122 + (-1) * u9 + x29) 0 = u123) (u124s : max (u10 + u122 + x29) 0 = u124) : (u123 : Int) ≤ u124 := by omega
theorem br_d7 {u133 u134 u10 u9 q131 u122 x29 : Int} (b_u10 : 0 ≤ u10 ∧ u10 ≤ 65535) (b_u9 : 0 ≤ u9 ∧ u9 ≤ 65535) (u133s : max (q131 + u122 + (-1) * u9 + x29) 0 = u133) (u134s : max (q131 + u10 + u122 + x29) 0 = u134) : (u133 : Int) ≤ u134 := by omega
theorem br_d8 {u149 u150 u10 u9 u122 x29 : Int} (b_u10 : 0 ≤ u10 ∧ u10 ≤ 65535) (b_u9 : 0 ≤ u9 ∧ u9 ≤ 65535) (u149s : max (u122 + (-1) * u9 + x29 + (-1)) 0 = u149) (u150s : max (u10 + u122 + x29 + (-1)) 0 = u150) : (u149 : Int) ≤ u150 := by omega
theorem br_t9 {x0 : Int} (b_x0 : 0 ≤ x0 ∧ x0 ≤ 255) : ¬ ((10 * x0 + 1 : Int) ≤ 0) := by omega
theorem br_t10 {x0 : Int} (b_x0 : 0 ≤ x0 ∧ x0 ≤ 255) : (0 : Int) ≤ 10 * x0 + 1 := by omega
theorem br_t11 {x0 : Int} (b_x0 : 0 ≤ x0 ∧ x0 ≤ 255) : (10 * x0 + 1 : Int) ≤ 100000 := by omega
theorem br_t12 {x1 : Int} (b_x1 : 0 ≤ x1 ∧ x1 ≤ 255) : (0 : Int) ≤ 20 * x1 := by omega
theorem br_t13 {x1 : Int} (b_x1 : 0 ≤ x1 ∧ x1 ≤ 255) : (20 * x1 : Int) ≤ 100000 := by omega
theorem br_t14 {x2 : Int} (b_x2 : 0 ≤ x2 ∧ x2 ≤ 255) : (0 : Int) ≤ 30 * x2 := by omega
theorem br_t15 {x2 : Int} (b_x2 : 0 ≤ x2 ∧ x2 ≤ 255) : (30 * x2 : Int) ≤ 100000 := by omega
theorem br_t16 {x3 : Int} (b_x3 : 0 ≤ x3 ∧ x3 ≤ 255) : (0 : Int) ≤ x3 := by omega
theorem br_t17 {x3 r2 : Int} (b_x3 : 0 ≤ x3 ∧ x3 ≤ 255) (b_r2 : 0 ≤ r2 ∧ r2 ≤ 59) : (x3 : Int) ≤ r2 + x3 := by omega
theorem br_t18 {r2 x3 : Int} (b_r2 : 0 ≤ r2 ∧ r2 ≤ 59) (b_x3 : 0 ≤ x3 ∧ x3 ≤ 255) : (r2 + x3 : Int) ≤ 1000 := by omega
theorem br_t19 {x5 : Int} (b_x5 : 0 ≤ x5 ∧ x5 ≤ 255) : (0 : Int) ≤ x5 := by omega
theorem br_t20 {x5 r4 : Int} (b_x5 : 0 ≤ x5 ∧ x5 ≤ 255) (b_r4 : 0 ≤ r4 ∧ r4 ≤ 59) : (x5 : Int) ≤ r4 + x5 := by omega
theorem br_t21 {r4 x5 : Int} (b_r4 : 0 ≤ r4 ∧ r4 ≤ 59) (b_x5 : 0 ≤ x5 ∧ x5 ≤ 255) : (r4 + x5 : Int) ≤ 1000 := by omega
theorem br_t22 {x7 : Int} (b_x7 : 0 ≤ x7 ∧ x7 ≤ 255) : (1 : Int) ≤ 100 * x7 + 1 := by omega
theorem br_t23 {x7 x8 : Int} (b_x7 : 0 ≤ x7 ∧ x7 ≤ 255) (b_x8 : 0 ≤ x8 ∧ x8 ≤ 255) : (100 * x7 + 1 : Int) ≤ 100 * x7 + 10 * x8 + 1 := by omega
theorem br_t24 {x7 x8 : Int} (b_x7 : 0 ≤ x7 ∧ x7 ≤ 255) (b_x8 : 0 ≤ x8 ∧ x8 ≤ 255) : (100 * x7 + 10 * x8 + 1 : Int) ≤ 100000000 := by omega
theorem br_t25 {x9 : Int} (b_x9 : 0 ≤ x9 ∧ x9 ≤ 255) : (1 : Int) ≤ x9 + 1 := by omega
theorem br_t26 {x9 r6 : Int} (b_x9 : 0 ≤ x9 ∧ x9 ≤ 255) (b_r6 : 0 ≤ r6 ∧ r6 ≤ 19) : (x9 + 1 : Int) ≤ r6 + x9 + 1 := by omega
theorem br_t27 {r6 x9 : Int} (b_r6 : 0 ≤ r6 ∧ r6 ≤ 19) (b_x9 : 0 ≤ x9 ∧ x9 ≤ 255) : (r6 + x9 + 1 : Int) ≤ 100000 := by omega
theorem br_t28 {x11 : Int} (b_x11 : 0 ≤ x11 ∧ x11 ≤ 255) : (1 : Int) ≤ 100 * x11 + 1 := by omega
theorem br_t29 {x11 x12 : Int} (b_x11 : 0 ≤ x11 ∧ x11 ≤ 255) (b_x12 : 0 ≤ x12 ∧ x12 ≤ 255) : (100 * x11 + 1 : Int) ≤ 100 * x11 + 10 * x12 + 1 := by omega
theorem br_t30 {x11 x12 : Int} (b_x11 : 0 ≤ x11 ∧ x11 ≤ 255) (b_x12 : 0 ≤ x12 ∧ x12 ≤ 255) : (100 * x11 + 10 * x12 + 1 : Int) ≤ 100000000 := by omega
theorem br_t31 {q7 : Int} (b_q7 : 0 ≤ q7 ∧ q7 ≤ 16383) : (0 : Int) ≤ q7 := by omega
theorem br_t32 {q7 x27 : Int} (b_q7 : 0 ≤ q7 ∧ q7 ≤ 16383) (b_x27 : 0 ≤ x27 ∧ x27 ≤ 65535) : (q7 : Int) ≤ q7 + x27 := by omega
theorem br_t33 {q7 x27 : Int} (b_q7 : 0 ≤ q7 ∧ q7 ≤ 16383) (b_x27 : 0 ≤ x27 ∧ x27 ≤ 65535) : (q7 + x27 : Int) ≤ 100000000 := by omega
theorem br_t34 {u9 x29 : Int} (b_u9 : 0 ≤ u9 ∧ u9 ≤ 65535) (b_x29 : -32768 ≤ x29 ∧ x29 ≤ 32767) : ((-10000000000000) : Int) ≤ (-1) * u9 + x29 := by omega
theorem br_t35 {u9 x29 u10 : Int} (b_u9 : 0 ≤ u9 ∧ u9 ≤ 65535) (b_x29 : -32768 ≤ x29 ∧ x29 ≤ 32767) (b_u10 : 0 ≤ u10 ∧ u10 ≤ 65535) : ((-1) * u9 + x29 : Int) ≤ u10 + x29 := by omega
theorem br_t36 {u10 x29 : Int} (b_u10 : 0 ≤ u10 ∧ u10 ≤ 65535) (b_x29 : -32768 ≤ x29 ∧ x29 ≤ 32767) : (u10 + x29 : Int) ≤ 10000000000000 := by omega
theorem br_t37 {q7 : Int} (b_q7 : 0 ≤ q7 ∧ q7 ≤ 16383) : (q7 : Int) ≤ 100000000 := by omega
theorem br_t38 {q63 x3 : Int} (b_q63 : 0 ≤ q63 ∧ q63 ≤ 59) (b_x3 : 0 ≤ x3 ∧ x3 ≤ 255) : (0 : Int) ≤ q63 + x3 := by omega
theorem br_t39 {q63 x3 : Int} (b_q63 : 0 ≤ q63 ∧ q63 ≤ 59) (b_x3 : 0 ≤ x3 ∧ x3 ≤ 255) : (q63 + x3 : Int) ≤ 1000 := by omega
theorem br_t40 {q67 x5 : Int} (b_q67 : 0 ≤ q67 ∧ q67 ≤ 59) (b_x5 : 0 ≤ x5 ∧ x5 ≤ 255) : (0 : Int) ≤ q67 + x5 := by omega
theorem br_t41 {q67 x5 : Int} (b_q67 : 0 ≤ q67 ∧ q67 ≤ 59) (b_x5 : 0 ≤ x5 ∧ x5 ≤ 255) : (q67 + x5 : Int) ≤ 1000 := by omega
theorem br_t42 {u33 : Int} (b_u33 : 0 ≤ u33 ∧ u33 ≤ 32767) : (0 : Int) ≤ u33 := by omega
theorem br_t43 {u34 : Int} (b_u34 : 0 ≤ u34 ∧ u34 ≤ 98302) : (u34 : Int) ≤ 10000000000000 := by omega
theorem br_t44 {w13 w16 x0 : Int} (b_w13 : 0 ≤ w13 ∧ w13 ≤ 1601400) (b_w16 : 0 ≤ w16 ∧ w16 ≤ 2402100) (b_x0 : 0 ≤ x0 ∧ x0 ≤ 255) : ¬ ((w13 + w16 + 10000 * x0 + 1000 : Int) = 0) := by omega
theorem br_t45 {w22 w23 x0 : Int} (b_w22 : 0 ≤ w22 ∧ w22 ≤ 1300500) (b_w23 : 0 ≤ w23 ∧ w23 ≤ 1950750) (b_x0 : 0 ≤ x0 ∧ x0 ≤ 255) : ¬ ((w22 + w23 + 10000 * x0 + 1000 : Int) = 0) := by omega
theorem br_c2 {ρ : Env} {q63 x3 q67 x5 u33 u34 u10 u9 x29 w13 w16 x0 w22 w23 : Int} {t : DT} (h103 : Is ρ br103 (q63 + x3)) (h110 : Is ρ br110 (q67 + x5)) (h67 : Is ρ br67 (u33)) (h69 : Is ρ br69 (u34)) (u33s : max ((-1) * u9 + x29) 0 = u33) (u34s : max (u10 + x29) 0 = u34) (h44 : Is ρ br44 (w13 + w16 + 10000 * x0 + 1000)) (h56 : Is ρ br56 (w22 + w23 + 10000 * x0 + 1000)) (b_q63 : 0 ≤ q63 ∧ q63 ≤ 59) (b_x3 : 0 ≤ x3 ∧ x3 ≤ 255) (b_q67 : 0 ≤ q67 ∧ q67 ≤ 59) (b_x5 : 0 ≤ x5 ∧ x5 ≤ 255) (b_u33 : 0 ≤ u33 ∧ u33 ≤ 32767) (b_u34 : 0 ≤ u34 ∧ u34 ≤ 98302) (b_u10 : 0 ≤ u10 ∧ u10 ≤ 65535) (b_u9 : 0 ≤ u9 ∧ u9 ≤ 65535) (b_w13 : 0 ≤ w13 ∧ w13 ≤ 1601400) (b_w16 : 0 ≤ w16 ∧ w16 ≤ 2402100) (b_x0 : 0 ≤ x0 ∧ x0 ≤ 255) (b_w22 : 0 ≤ w22 ∧ w22 ≤ 1300500) (b_w23 : 0 ≤ w23 ∧ w23 ≤ 1950750) (ht : t.goal ρ) : (brC2 t).goal ρ := by
  unfold brC2
  refine aT (Pleq (Zc 0) h103 (br_t38 b_q63 b_x3)) ?_
  refine aT (Pleq h103 (Zc 1000) (br_t39 b_q63 b_x3)) ?_
  refine aT (Pleq (Zc 0) h110 (br_t40 b_q67 b_x5)) ?_
  refine aT (Pleq h110 (Zc 1000) (br_t41 b_q67 b_x5)) ?_
  refine aT (Pleq (Zc 0) h67 (br_t42 b_u33)) ?_
  refine aT (Pleq h67 h69 (br_d0 b_u10 b_u9 u33s u34s)) ?_
  refine aT (Pleq h69 (Zc 10000000000000) (br_t43 b_u34)) ?_
  refine aF (Neql h44 (Zc 0) (br_t44 b_w13 b_w16 b_x0)) ?_
  refine aF (Neql h56 (Zc 0) (br_t45 b_w22 b_w23 b_x0)) ?_
  exact ht
theorem br_t46 {u105 : Int} (b_u105 : 0 ≤ u105 ∧ u105 ≤ 107415141) : (0 : Int) ≤ u105 := by omega
theorem br_c3 {ρ : Env} {u105 u106 u10 u9 x29 z104 : Int} {t : DT} (h155 : Is ρ br155 (u105)) (h157 : Is ρ br157 (u106)) (u105s : max ((-1) * u9 + x29 + z104) 0 = u105) (u106s : max (u10 + x29 + z104) 0 = u106) (b_u105 : 0 ≤ u105 ∧ u105 ≤ 107415141) (b_u10 : 0 ≤ u10 ∧ u10 ≤ 65535) (b_u9 : 0 ≤ u9 ∧ u9 ≤ 65535) (ht : t.goal ρ) : (brC3 t).goal ρ := by
  unfold brC3
  refine aT (Pleq (Zc 0) h155 (br_t46 b_u105)) ?_
  refine aT (Pleq h155 h157 (br_d4 b_u10 b_u9 u105s u106s)) ?_
  exact ht
theorem br_t47 {u106 : Int} (b_u106 : 0 ≤ u106 ∧ u106 ≤ 107480676) : (u106 : Int) ≤ 10000000000000 := by omega
theorem br_d9 {q108 x11 z104 q37 w35 w107 w36 u106 u34 u10 x29 : Int} (b_z104 : 0 ≤ z104 ∧ z104 ≤ 107382374) (k31 : ¬ ((q37 : Int) ≤ 100 * x11 + 1)) (rf26 : w35 ≤ w107 → w36 ≤ w36 → 0 ≤ w107 → q37 ≤ q108) (w107s : 1000 * u106 = w107) (w35s : 1000 * u34 = w35) (u106s : max (u10 + x29 + z104) 0 = u106) (u34s : max (u10 + x29) 0 = u34) : ¬ ((q108 : Int) ≤ 100 * x11 + 1) := by omega
theorem br_t49 {u114 : Int} (b_u114 : 0 ≤ u114 ∧ u114 ≤ 107513444) : (0 : Int) ≤ u114 := by omega
theorem br_c4 {ρ : Env} {u114 u115 u10 u9 u113 x29 : Int} {t : DT} (h167 : Is ρ br167 (u114)) (h169 : Is ρ br169 (u115)) (u114s : max (u113 + (-1) * u9 + x29) 0 = u114) (u115s : max (u10 + u113 + x29) 0 = u115) (b_u114 : 0 ≤ u114 ∧ u114 ≤ 107513444) (b_u10 : 0 ≤ u10 ∧ u10 ≤ 65535) (b_u9 : 0 ≤ u9 ∧ u9 ≤ 65535) (ht : t.goal ρ) : (brC4 t).goal ρ := by
  unfold brC4
  refine aT (Pleq (Zc 0) h167 (br_t49 b_u114)) ?_
  refine aT (Pleq h167 h169 (br_d5 b_u10 b_u9 u114s u115s)) ?_
  exact ht
theorem br_t50 {u115 : Int} (b_u115 : 0 ≤ u115 ∧ u115 ≤ 107578979) : (u115 : Int) ≤ 10000000000000 := by omega
theorem br_d10 {q117 x11 u113 q37 w35 w116 w36 u115 u34 u10 x29 : Int} (b_u113 : 0 ≤ u113 ∧ u113 ≤ 107480677) (k31 : ¬ ((q37 : Int) ≤ 100 * x11 + 1)) (rf28 : w35 ≤ w116 → w36 ≤ w36 → 0 ≤ w116 → q37 ≤ q117) (w116s : 1000 * u115 = w116) (w35s : 1000 * u34 = w35) (u115s : max (u10 + u113 + x29) 0 = u115) (u34s : max (u10 + x29) 0 = u34) : ¬ ((q117 : Int) ≤ 100 * x11 + 1) := by omega
theorem br_d11 {q7 q41 x0 m19 w70 m101 w72 m102 w103 z104 z21 : Int} (b_q41 : 0 ≤ q41 ∧ q41 ≤ 32767) (m19f1 : (0) * x0 + (0) * q7 - (0) ≤ m19) (m101f1 : (0) * w70 + (0) * q7 - (0) ≤ m101) (m102f1 : (0) * w72 + (0) * q7 - (0) ≤ m102) (z104s : w103 ≤ 1000 * z104 ∧ 1000 * z104 ≤ w103 + 999) (rf23 : 0 ≤ (-1) * z104 + z21) (k28 : (z21 : Int) ≤ 0) (w103s : m101 + m102 + 10000 * m19 + 1000 * q7 = w103) : (q7 : Int) ≤ q41 := by omega
theorem br_d12 {q37 q7 x27 x11 u24 w35 m25 m26 m27 m28 m29 m30 w22 w23 x0 u34 u10 x29 z32 w31 : Int}  (k31 : (q37 : Int) ≤ 100 * x11 + 1) (rf1 : 1 ≤ (-1) * u24 + 100 * x11 + 2 ∨ 0 ≤ w35 → (-1) * u24 + 100 * x11 + 2 ≤ q37 ∧ (-1) * m25 + (-1) * m26 + (-10000) * m27 + 100 * m28 + 100 * m29 + 1000000 * m30 + (-1000) * u24 + 2 * w22 + 2 * w23 + 20000 * x0 + 100000 * x11 + 2000 ≤ w35 ∨ q37 + 1 ≤ (-1) * u24 + 100 * x11 + 2 ∧ w35 + 1 ≤ (-1) * m25 + (-1) * m26 + (-10000) * m27 + 100 * m28 + 100 * m29 + 1000000 * m30 + (-1000) * u24 + 2 * w22 + 2 * w23 + 20000 * x0 + 100000 * x11 + 2000) (w35s : 1000 * u34 = w35) (u24s : max ((-1) * q7 + 100 * x11 + (-1) * x27 + 1) 0 = u24) (u34s : max (u10 + x29) 0 = u34) (k29 : ¬ ((0 : Int) ≤ (-1) * u10 + (-1) * x29 + z32 + (-1))) (z32s : w31 ≤ 1000 * z32 ∧ 1000 * z32 ≤ w31 + 999) (w31s : (-1) * m25 + (-1) * m26 + (-10000) * m27 + 100 * m28 + 100 * m29 + 1000000 * m30 + (-1000) * u24 + 2 * w22 + 2 * w23 + 20000 * x0 + 100000 * x11 + 2000 = w31) : ¬ ((q37 : Int) ≤ q7 + x27) := by omega
theorem br_d13 {q108 x11 q37 w107 w35 w36 u106 u34 u10 x29 z104 z21 : Int}  (k31 : (q37 : Int) ≤ 100 * x11 + 1) (rf27 : w107 ≤ w35 → w36 ≤ w36 → 0 ≤ w35 → q108 ≤ q37) (w107s : 1000 * u106 = w107) (w35s : 1000 * u34 = w35) (u106s : max (u10 + x29 + z104) 0 = u106) (u34s : max (u10 + x29) 0 = u34) (rf23 : 0 ≤ (-1) * z104 + z21) (k28 : (z21 : Int) ≤ 0) : (q108 : Int) ≤ 100 * x11 + 1 := by omega
theorem br_d14 {q7 q111 x0 m19 w70 m101 w72 m102 w103 z104 z21 : Int} (b_q111 : 0 ≤ q111 ∧ q111 ≤ 107415141) (m19f1 : (0) * x0 + (0) * q7 - (0) ≤ m19) (m101f1 : (0) * w70 + (0) * q7 - (0) ≤ m101) (m102f1 : (0) * w72 + (0) * q7 - (0) ≤ m102) (z104s : w103 ≤ 1000 * z104 ∧ 1000 * z104 ≤ w103 + 999) (rf23 : 0 ≤ (-1) * z104 + z21) (k28 : (z21 : Int) ≤ 0) (w103s : m101 + m102 + 10000 * m19 + 1000 * q7 = w103) : (q7 : Int) ≤ q111 := by omega
theorem br_d15 {q108 q7 x27 z104 u24 x11 w107 m25 m26 m27 m28 m29 m30 w22 w23 x0 q37 u106 w35 u34 u10 x29 z32 w31 : Int} (b_z104 : 0 ≤ z104 ∧ z104 ≤ 107382374) (rf9 : 1 ≤ (-1) * u24 + 100 * x11 + 2 ∨ 0 ≤ w107 → (-1) * u24 + 100 * x11 + 2 ≤ q108 ∧ (-1) * m25 + (-1) * m26 + (-10000) * m27 + 100 * m28 + 100 * m29 + 1000000 * m30 + (-1000) * u24 + 2 * w22 + 2 * w23 + 20000 * x0 + 100000 * x11 + 2000 ≤ w107 ∨ q108 + 1 ≤ (-1) * u24 + 100 * x11 + 2 ∧ w107 + 1 ≤ (-1) * m25 + (-1) * m26 + (-10000) * m27 + 100 * m28 + 100 * m29 + 1000000 * m30 + (-1000) * u24 + 2 * w22 + 2 * w23 + 20000 * x0 + 100000 * x11 + 2000) (k31 : (q37 : Int) ≤ 100 * x11 + 1) (w107s : 1000 * u106 = w107) (rf1 : 1 ≤ (-1) * u24 + 100 * x11 + 2 ∨ 0 ≤ w35 → (-1) * u24 + 100 * x11 + 2 ≤ q37 ∧ (-1) * m25 + (-1) * m26 + (-10000) * m27 + 100 * m28 + 100 * m29 + 1000000 * m30 + (-1000) * u24 + 2 * w22 + 2 * w23 + 20000 * x0 + 100000 * x11 + 2000 ≤ w35 ∨ q37 + 1 ≤ (-1) * u24 + 100 * x11 + 2 ∧ w35 + 1 ≤ (-1) * m25 + (-1) * m26 + (-10000) * m27 + 100 * m28 + 100 * m29 + 1000000 * m30 + (-1000) * u24 + 2 * w22 + 2 * w23 + 20000 * x0 + 100000 * x11 + 2000) (u24s : max ((-1) * q7 + 100 * x11 + (-1) * x27 + 1) 0 = u24) (w35s : 1000 * u34 = w35) (u106s : max (u10 + x29 + z104) 0 = u106) (u34s : max (u10 + x29) 0 = u34) (k29 : ¬ ((0 : Int) ≤ (-1) * u10 + (-1) * x29 + z32 + (-1))) (z32s : w31 ≤ 1000 * z32 ∧ 1000 * z32 ≤ w31 + 999) (w31s : (-1) * m25 + (-1) * m26 + (-10000) * m27 + 100 * m28 + 100 * m29 + 1000000 * m30 + (-1000) * u24 + 2 * w22 + 2 * w23 + 20000 * x0 + 100000 * x11 + 2000 = w31) : ¬ ((q108 : Int) ≤ q7 + x27) := by omega
theorem br_d16 {q7 q120 x0 m19 w70 m101 w72 m102 w103 z104 z21 : Int} (b_q120 : 0 ≤ q120 ∧ q120 ≤ 107513444) (m19f1 : (0) * x0 + (0) * q7 - (0) ≤ m19) (m101f1 : (0) * w70 + (0) * q7 - (0) ≤ m101) (m102f1 : (0) * w72 + (0) * q7 - (0) ≤ m102) (z104s : w103 ≤ 1000 * z104 ∧ 1000 * z104 ≤ w103 + 999) (rf23 : 0 ≤ (-1) * z104 + z21) (k28 : (z21 : Int) ≤ 0) (w103s : m101 + m102 + 10000 * m19 + 1000 * q7 = w103) : (q7 : Int) ≤ q120 := by omega
theorem br_d17 {q117 q7 x27 u113 x11 u24 w116 m25 m26 m27 m28 m29 m30 w22 w23 x0 u115 u10 x29 z32 w31 : Int} (b_u113 : 0 ≤ u113 ∧ u113 ≤ 107480677) (k39 : (q117 : Int) ≤ 100 * x11 + 1) (rf11 : 1 ≤ (-1) * u24 + 100 * x11 + 2 ∨ 0 ≤ w116 → (-1) * u24 + 100 * x11 + 2 ≤ q117 ∧ (-1) * m25 + (-1) * m26 + (-10000) * m27 + 100 * m28 + 100 * m29 + 1000000 * m30 + (-1000) * u24 + 2 * w22 + 2 * w23 + 20000 * x0 + 100000 * x11 + 2000 ≤ w116 ∨ q117 + 1 ≤ (-1) * u24 + 100 * x11 + 2 ∧ w116 + 1 ≤ (-1) * m25 + (-1) * m26 + (-10000) * m27 + 100 * m28 + 100 * m29 + 1000000 * m30 + (-1000) * u24 + 2 * w22 + 2 * w23 + 20000 * x0 + 100000 * x11 + 2000) (w116s : 1000 * u115 = w116) (u24s : max ((-1) * q7 + 100 * x11 + (-1) * x27 + 1) 0 = u24) (u115s : max (u10 + u113 + x29) 0 = u115) (k29 : ¬ ((0 : Int) ≤ (-1) * u10 + (-1) * x29 + z32 + (-1))) (z32s : w31 ≤ 1000 * z32 ∧ 1000 * z32 ≤ w31 + 999) (w31s : (-1) * m25 + (-1) * m26 + (-10000) * m27 + 100 * m28 + 100 * m29 + 1000000 * m30 + (-1000) * u24 + 2 * w22 + 2 * w23 + 20000 * x0 + 100000 * x11 + 2000 = w31) : ¬ ((q117 : Int) ≤ q7 + x27) := by omega
theorem br_t59 {u10 x29 z32 : Int} (b_u10 : 0 ≤ u10 ∧ u10 ≤ 65535) (b_x29 : -32768 ≤ x29 ∧ x29 ≤ 32767) (b_z32 : -147963175 ≤ z32 ∧ z32 ≤ 147968980) : ((-1) * u10 + (-1) * x29 + z32 + (-1) : Int) ≤ 10000000000000 := by omega
theorem br_d18 {q37 x11 u24 w35 m38 w36 m25 m26 m27 m28 m29 m30 w22 w23 x0 u34 u10 x29 z32 w31 : Int} (b_u24 : 0 ≤ u24 ∧ u24 ≤ 25501) (b_x11 : 0 ≤ x11 ∧ x11 ≤ 255) (q37d : (0 ≤ w35 → 0 ≤ q37 ∧ m38 ≤ w35 ∧ w35 ≤ m38 + (w36 - 1)) ∧ (w35 ≤ 0 → q37 ≤ 0 ∧ w35 ≤ m38 ∧ m38 ≤ w35 + (w36 - 1))) (rf1 : 1 ≤ (-1) * u24 + 100 * x11 + 2 ∨ 0 ≤ w35 → (-1) * u24 + 100 * x11 + 2 ≤ q37 ∧ (-1) * m25 + (-1) * m26 + (-10000) * m27 + 100 * m28 + 100 * m29 + 1000000 * m30 + (-1000) * u24 + 2 * w22 + 2 * w23 + 20000 * x0 + 100000 * x11 + 2000 ≤ w35 ∨ q37 + 1 ≤ (-1) * u24 + 100 * x11 + 2 ∧ w35 + 1 ≤ (-1) * m25 + (-1) * m26 + (-10000) * m27 + 100 * m28 + 100 * m29 + 1000000 * m30 + (-1000) * u24 + 2 * w22 + 2 * w23 + 20000 * x0 + 100000 * x11 + 2000) (w35s : 1000 * u34 = w35) (u34s : max (u10 + x29) 0 = u34) (k29 : (0 : Int) ≤ (-1) * u10 + (-1) * x29 + z32 + (-1)) (z32s : w31 ≤ 1000 * z32 ∧ 1000 * z32 ≤ w31 + 999) (w31s : (-1) * m25 + (-1) * m26 + (-10000) * m27 + 100 * m28 + 100 * m29 + 1000000 * m30 + (-1000) * u24 + 2 * w22 + 2 * w23 + 20000 * x0 + 100000 * x11 + 2000 = w31) : (q37 : Int) ≤ 100 * x11 + 1 := by omega
theorem br_d19 {q37 q7 x27 w35 m38 w36 u24 x11 m25 m26 m27 m28 m29 m30 w22 w23 x0 u34 u10 x29 z32 w31 : Int} (b_q7 : 0 ≤ q7 ∧ q7 ≤ 16383) (b_x27 : 0 ≤ x27 ∧ x27 ≤ 65535) (q37d : (0 ≤ w35 → 0 ≤ q37 ∧ m38 ≤ w35 ∧ w35 ≤ m38 + (w36 - 1)) ∧ (w35 ≤ 0 → q37 ≤ 0 ∧ w35 ≤ m38 ∧ m38 ≤ w35 + (w36 - 1))) (rf1 : 1 ≤ (-1) * u24 + 100 * x11 + 2 ∨ 0 ≤ w35 → (-1) * u24 + 100 * x11 + 2 ≤ q37 ∧ (-1) * m25 + (-1) * m26 + (-10000) * m27 + 100 * m28 + 100 * m29 + 1000000 * m30 + (-1000) * u24 + 2 * w22 + 2 * w23 + 20000 * x0 + 100000 * x11 + 2000 ≤ w35 ∨ q37 + 1 ≤ (-1) * u24 + 100 * x11 + 2 ∧ w35 + 1 ≤ (-1) * m25 + (-1) * m26 + (-10000) * m27 + 100 * m28 + 100 * m29 + 1000000 * m30 + (-1000) * u24 + 2 * w22 + 2 * w23 + 20000 * x0 + 100000 * x11 + 2000) (w35s : 1000 * u34 = w35) (u24s : max ((-1) * q7 + 100 * x11 + (-1) * x27 + 1) 0 = u24) (u34s : max (u10 + x29) 0 = u34) (k29 : (0 : Int) ≤ (-1) * u10 + (-1) * x29 + z32 + (-1)) (z32s : w31 ≤ 1000 * z32 ∧ 1000 * z32 ≤ w31 + 999) (w31s : (-1) * m25 + (-1) * m26 + (-10000) * m27 + 100 * m28 + 100 * m29 + 1000000 * m30 + (-1000) * u24 + 2 * w22 + 2 * w23 + 20000 * x0 + 100000 * x11 + 2000 = w31) : (q37 : Int) ≤ q7 + x27 := by omega
theorem br_t62 {u43 : Int} (b_u43 : 0 ≤ u43 ∧ u43 ≤ 147968979) : (0 : Int) ≤ u43 := by omega
theorem br_t63 {u44 : Int} (b_u44 : 0 ≤ u44 ∧ u44 ≤ 147968979) : (u44 : Int) ≤ 10000000000000 := by omega
theorem br_c0 {ρ : Env} {u43 u44 u10 u9 z32 : Int} {t : DT} (h77 : Is ρ br77 (u43)) (h79 : Is ρ br79 (u44)) (u43s : max ((-1) * u10 + (-1) * u9 + z32 + (-1)) 0 = u43) (u44s : max (z32 + (-1)) 0 = u44) (b_u43 : 0 ≤ u43 ∧ u43 ≤ 147968979) (b_u44 : 0 ≤ u44 ∧ u44 ≤ 147968979) (b_u10 : 0 ≤ u10 ∧ u10 ≤ 65535) (b_u9 : 0 ≤ u9 ∧ u9 ≤ 65535) (ht : t.goal ρ) : (brC0 t).goal ρ := by
  unfold brC0
  refine aT (Pleq (Zc 0) h77 (br_t62 b_u43)) ?_
  refine aT (Pleq h77 h79 (br_d1 b_u10 b_u9 u43s u44s)) ?_
  refine aT (Pleq h79 (Zc 10000000000000) (br_t63 b_u44)) ?_
  exact ht
theorem br_d20 {q46 x11 u24 w45 m47 w36 m25 m26 m27 m28 m29 m30 w22 w23 x0 u44 z32 w31 : Int} (b_u24 : 0 ≤ u24 ∧ u24 ≤ 25501) (b_x11 : 0 ≤ x11 ∧ x11 ≤ 255) (q46d : (0 ≤ w45 → 0 ≤ q46 ∧ m47 ≤ w45 ∧ w45 ≤ m47 + (w36 - 1)) ∧ (w45 ≤ 0 → q46 ≤ 0 ∧ w45 ≤ m47 ∧ m47 ≤ w45 + (w36 - 1))) (rf3 : 1 ≤ (-1) * u24 + 100 * x11 + 2 ∨ 0 ≤ w45 → (-1) * u24 + 100 * x11 + 2 ≤ q46 ∧ (-1) * m25 + (-1) * m26 + (-10000) * m27 + 100 * m28 + 100 * m29 + 1000000 * m30 + (-1000) * u24 + 2 * w22 + 2 * w23 + 20000 * x0 + 100000 * x11 + 2000 ≤ w45 ∨ q46 + 1 ≤ (-1) * u24 + 100 * x11 + 2 ∧ w45 + 1 ≤ (-1) * m25 + (-1) * m26 + (-10000) * m27 + 100 * m28 + 100 * m29 + 1000000 * m30 + (-1000) * u24 + 2 * w22 + 2 * w23 + 20000 * x0 + 100000 * x11 + 2000) (w45s : 1000 * u44 = w45) (u44s : max (z32 + (-1)) 0 = u44) (z32s : w31 ≤ 1000 * z32 ∧ 1000 * z32 ≤ w31 + 999) (w31s : (-1) * m25 + (-1) * m26 + (-10000) * m27 + 100 * m28 + 100 * m29 + 1000000 * m30 + (-1000) * u24 + 2 * w22 + 2 * w23 + 20000 * x0 + 100000 * x11 + 2000 = w31) : (q46 : Int) ≤ 100 * x11 + 1 := by omega
theorem br_d21 {q7 q49 x0 m19 w70 m101 w72 m102 w103 z104 z21 : Int} (b_q49 : 0 ≤ q49 ∧ q49 ≤ 147968979) (m19f1 : (0) * x0 + (0) * q7 - (0) ≤ m19) (m101f1 : (0) * w70 + (0) * q7 - (0) ≤ m101) (m102f1 : (0) * w72 + (0) * q7 - (0) ≤ m102) (z104s : w103 ≤ 1000 * z104 ∧ 1000 * z104 ≤ w103 + 999) (rf23 : 0 ≤ (-1) * z104 + z21) (k28 : (z21 : Int) ≤ 0) (w103s : m101 + m102 + 10000 * m19 + 1000 * q7 = w103) : (q7 : Int) ≤ q49 := by omega
theorem br_d22 {q46 q7 x27 w45 m47 w36 u24 x11 m25 m26 m27 m28 m29 m30 w22 w23 x0 u44 z32 w31 : Int} (b_q7 : 0 ≤ q7 ∧ q7 ≤ 16383) (b_x27 : 0 ≤ x27 ∧ x27 ≤ 65535) (q46d : (0 ≤ w45 → 0 ≤ q46 ∧ m47 ≤ w45 ∧ w45 ≤ m47 + (w36 - 1)) ∧ (w45 ≤ 0 → q46 ≤ 0 ∧ w45 ≤ m47 ∧ m47 ≤ w45 + (w36 - 1))) (rf3 : 1 ≤ (-1) * u24 + 100 * x11 + 2 ∨ 0 ≤ w45 → (-1) * u24 + 100 * x11 + 2 ≤ q46 ∧ (-1) * m25 + (-1) * m26 + (-10000) * m27 + 100 * m28 + 100 * m29 + 1000000 * m30 + (-1000) * u24 + 2 * w22 + 2 * w23 + 20000 * x0 + 100000 * x11 + 2000 ≤ w45 ∨ q46 + 1 ≤ (-1) * u24 + 100 * x11 + 2 ∧ w45 + 1 ≤ (-1) * m25 + (-1) * m26 + (-10000) * m27 + 100 * m28 + 100 * m29 + 1000000 * m30 + (-1000) * u24 + 2 * w22 + 2 * w23 + 20000 * x0 + 100000 * x11 + 2000) (w45s : 1000 * u44 = w45) (u24s : max ((-1) * q7 + 100 * x11 + (-1) * x27 + 1) 0 = u24) (u44s : max (z32 + (-1)) 0 = u44) (z32s : w31 ≤ 1000 * z32 ∧ 1000 * z32 ≤ w31 + 999) (w31s : (-1) * m25 + (-1) * m26 + (-10000) * m27 + 100 * m28 + 100 * m29 + 1000000 * m30 + (-1000) * u24 + 2 * w22 + 2 * w23 + 20000 * x0 + 100000 * x11 + 2000 = w31) : (q46 : Int) ≤ q7 + x27 := by omega
theorem br_t67 {u53 : Int} (b_u53 : 0 ≤ u53 ∧ u53 ≤ 74033640) : (0 : Int) ≤ u53 := by omega
theorem br_t68 {u54 : Int} (b_u54 : 0 ≤ u54 ∧ u54 ≤ 74099175) : (u54 : Int) ≤ 10000000000000 := by omega
theorem br_d23 {q56 x11 r52 u24 w55 m57 w36 m25 m26 m27 m28 m29 m30 w22 w23 x0 u54 q51 u10 x29 z32 w31 : Int} (b_r52 : -1 ≤ r52 ∧ r52 ≤ 1) (b_u24 : 0 ≤ u24 ∧ u24 ≤ 25501) (b_x11 : 0 ≤ x11 ∧ x11 ≤ 255) (q56d : (0 ≤ w55 → 0 ≤ q56 ∧ m57 ≤ w55 ∧ w55 ≤ m57 + (w36 - 1)) ∧ (w55 ≤ 0 → q56 ≤ 0 ∧ w55 ≤ m57 ∧ m57 ≤ w55 + (w36 - 1))) (rf5 : 1 ≤ (-1) * u24 + 100 * x11 + 2 ∨ 0 ≤ w55 → (-1) * u24 + 100 * x11 + 2 ≤ q56 ∧ (-1) * m25 + (-1) * m26 + (-10000) * m27 + 100 * m28 + 100 * m29 + 1000000 * m30 + (-1000) * u24 + 2 * w22 + 2 * w23 + 20000 * x0 + 100000 * x11 + 2000 ≤ w55 ∨ q56 + 1 ≤ (-1) * u24 + 100 * x11 + 2 ∧ w55 + 1 ≤ (-1) * m25 + (-1) * m26 + (-10000) * m27 + 100 * m28 + 100 * m29 + 1000000 * m30 + (-1000) * u24 + 2 * w22 + 2 * w23 + 20000 * x0 + 100000 * x11 + 2000) (w55s : 1000 * u54 = w55) (u54s : max (q51 + u10 + x29) 0 = u54) (k29 : (0 : Int) ≤ (-1) * u10 + (-1) * x29 + z32 + (-1)) (q51s : (-1) * u10 + (-1) * x29 + z32 + (-1) = 2 * q51 + r52) (z32s : w31 ≤ 1000 * z32 ∧ 1000 * z32 ≤ w31 + 999) (w31s : (-1) * m25 + (-1) * m26 + (-10000) * m27 + 100 * m28 + 100 * m29 + 1000000 * m30 + (-1000) * u24 + 2 * w22 + 2 * w23 + 20000 * x0 + 100000 * x11 + 2000 = w31) : (q56 : Int) ≤ 100 * x11 + 1 := by omega
theorem br_d24 {q7 q59 x0 m19 w70 m101 w72 m102 w103 z104 z21 : Int} (b_q59 : 0 ≤ q59 ∧ q59 ≤ 74033640) (m19f1 : (0) * x0 + (0) * q7 - (0) ≤ m19) (m101f1 : (0) * w70 + (0) * q7 - (0) ≤ m101) (m102f1 : (0) * w72 + (0) * q7 - (0) ≤ m102) (z104s : w103 ≤ 1000 * z104 ∧ 1000 * z104 ≤ w103 + 999) (rf23 : 0 ≤ (-1) * z104 + z21) (k28 : (z21 : Int) ≤ 0) (w103s : m101 + m102 + 10000 * m19 + 1000 * q7 = w103) : (q7 : Int) ≤ q59 := by omega
theorem br_d25 {q56 q7 x27 r52 w55 m57 w36 u24 x11 m25 m26 m27 m28 m29 m30 w22 w23 x0 u54 q51 u10 x29 z32 w31 : Int} (b_q7 : 0 ≤ q7 ∧ q7 ≤ 16383) (b_r52 : -1 ≤ r52 ∧ r52 ≤ 1) (b_x27 : 0 ≤ x27 ∧ x27 ≤ 65535) (q56d : (0 ≤ w55 → 0 ≤ q56 ∧ m57 ≤ w55 ∧ w55 ≤ m57 + (w36 - 1)) ∧ (w55 ≤ 0 → q56 ≤ 0 ∧ w55 ≤ m57 ∧ m57 ≤ w55 + (w36 - 1))) (rf5 : 1 ≤ (-1) * u24 + 100 * x11 + 2 ∨ 0 ≤ w55 → (-1) * u24 + 100 * x11 + 2 ≤ q56 ∧ (-1) * m25 + (-1) * m26 + (-10000) * m27 + 100 * m28 + 100 * m29 + 1000000 * m30 + (-1000) * u24 + 2 * w22 + 2 * w23 + 20000 * x0 + 100000 * x11 + 2000 ≤ w55 ∨ q56 + 1 ≤ (-1) * u24 + 100 * x11 + 2 ∧ w55 + 1 ≤ (-1) * m25 + (-1) * m26 + (-10000) * m27 + 100 * m28 + 100 * m29 + 1000000 * m30 + (-1000) * u24 + 2 * w22 + 2 * w23 + 20000 * x0 + 100000 * x11 + 2000) (w55s : 1000 * u54 = w55) (u24s : max ((-1) * q7 + 100 * x11 + (-1) * x27 + 1) 0 = u24) (u54s : max (q51 + u10 + x29) 0 = u54) (k29 : (0 : Int) ≤ (-1) * u10 + (-1) * x29 + z32 + (-1)) (q51s : (-1) * u10 + (-1) * x29 + z32 + (-1) = 2 * q51 + r52) (z32s : w31 ≤ 1000 * z32 ∧ 1000 * z32 ≤ w31 + 999) (w31s : (-1) * m25 + (-1) * m26 + (-10000) * m27 + 100 * m28 + 100 * m29 + 1000000 * m30 + (-1000) * u24 + 2 * w22 + 2 * w23 + 20000 * x0 + 100000 * x11 + 2000 = w31) : (q56 : Int) ≤ q7 + x27 := by omega
theorem br_t72 {w70 w72 x0 : Int} (b_w70 : 0 ≤ w70 ∧ w70 ≤ 1601400) (b_w72 : 0 ≤ w72 ∧ w72 ≤ 2402100) (b_x0 : 0 ≤ x0 ∧ x0 ≤ 255) : ¬ ((w70 + w72 + 10000 * x0 + 1000 : Int) = 0) := by omega
theorem br_d26 {q7 q87 x0 m19 w70 m101 w72 m102 w103 z104 z21 : Int} (b_q87 : 0 ≤ q87 ∧ q87 ≤ 148165585) (m19f1 : (0) * x0 + (0) * q7 - (0) ≤ m19) (m101f1 : (0) * w70 + (0) * q7 - (0) ≤ m101) (m102f1 : (0) * w72 + (0) * q7 - (0) ≤ m102) (z104s : w103 ≤ 1000 * z104 ∧ 1000 * z104 ≤ w103 + 999) (rf23 : 0 ≤ (-1) * z104 + z21) (k28 : (z21 : Int) ≤ 0) (w103s : m101 + m102 + 10000 * m19 + 1000 * q7 = w103) : (q7 : Int) ≤ q87 := by omega
theorem br_d27 {q87 q7 x27 r78 w85 m88 w86 w45 w36 q46 u84 w70 w72 x0 u44 u24 x11 m25 m26 m27 m28 m29 m30 w22 w23 q77 q82 u9 x29 m12 m69 m15 m71 z32 u10 w76 m73 m74 m75 x21 x1 q63 x2 q67 w31 : Int} (b_q7 : 0 ≤ q7 ∧ q7 ≤ 16383) (b_r78 : -254 ≤ r78 ∧ r78 ≤ 254) (b_x27 : 0 ≤ x27 ∧ x27 ≤ 65535) (q87d : (0 ≤ w85 → 0 ≤ q87 ∧ m88 ≤ w85 ∧ w85 ≤ m88 + (w86 - 1)) ∧ (w85 ≤ 0 → q87 ≤ 0 ∧ w85 ≤ m88 ∧ m88 ≤ w85 + (w86 - 1))) (rf31 : w85 ≤ w45 → w36 ≤ w86 → 0 ≤ w45 → q87 ≤ q46) (w85s : 1000 * u84 = w85) (w86s : w70 + w72 + 10000 * x0 + 1000 = w86) (w45s : 1000 * u44 = w45) (rf3 : 1 ≤ (-1) * u24 + 100 * x11 + 2 ∨ 0 ≤ w45 → (-1) * u24 + 100 * x11 + 2 ≤ q46 ∧ (-1) * m25 + (-1) * m26 + (-10000) * m27 + 100 * m28 + 100 * m29 + 1000000 * m30 + (-1000) * u24 + 2 * w22 + 2 * w23 + 20000 * x0 + 100000 * x11 + 2000 ≤ w45 ∨ q46 + 1 ≤ (-1) * u24 + 100 * x11 + 2 ∧ w45 + 1 ≤ (-1) * m25 + (-1) * m26 + (-10000) * m27 + 100 * m28 + 100 * m29 + 1000000 * m30 + (-1000) * u24 + 2 * w22 + 2 * w23 + 20000 * x0 + 100000 * x11 + 2000) (w36s : w22 + w23 + 10000 * x0 + 1000 = w36) (u84s : max (q77 + q82 + (-1) * u9 + x29) 0 = u84) (w70s : 20 * m12 + 20 * m69 = w70) (w72s : 30 * m15 + 30 * m71 = w72) (u44s : max (z32 + (-1)) 0 = u44) (u24s : max ((-1) * q7 + 100 * x11 + (-1) * x27 + 1) 0 = u24) (w22s : 20 * m12 = w22) (w23s : 30 * m15 = w23) (k29 : (0 : Int) ≤ (-1) * u10 + (-1) * x29 + z32 + (-1)) (q77s : w76 = 255 * q77 + r78) (rf24 : 0 ≤ (-1) * q82 + u10 + u9) (rf34 : 0 ≤ (-1) * u10 + (-1) * x29 + z32 + (-1) → 0 ≤ m73 + m74 + (-1) * m75 + (-255) * u10 + x21 + (-255) * x29 + 255 * z32 + (-255)) (m69f1 : (0) * x1 + (0) * q63 - (0) ≤ m69) (m71f1 : (0) * x2 + (0) * q67 - (0) ≤ m71) (z32s : w31 ≤ 1000 * z32 ∧ 1000 * z32 ≤ w31 + 999) (w76s : (-1) * m73 + (-1) * m74 + m75 + (-1) * x21 = w76) (w31s : (-1) * m25 + (-1) * m26 + (-10000) * m27 + 100 * m28 + 100 * m29 + 1000000 * m30 + (-1000) * u24 + 2 * w22 + 2 * w23 + 20000 * x0 + 100000 * x11 + 2000 = w31) : (q87 : Int) ≤ q7 + x27 := by omega
theorem br_d28 {q87 q91 x11 r78 u24 w85 m88 w86 w45 w36 q46 m25 m26 m27 m28 m29 m30 w22 w23 x0 u84 w70 w72 u44 m12 m15 q77 q82 u9 x29 m69 m71 z32 u10 w76 m73 m74 m75 x21 x1 q63 x2 q67 w31 : Int} (b_q91 : 0 ≤ q91 ∧ q91 ≤ 2550) (b_r78 : -254 ≤ r78 ∧ r78 ≤ 254) (b_u24 : 0 ≤ u24 ∧ u24 ≤ 25501) (b_x11 : 0 ≤ x11 ∧ x11 ≤ 255) (q87d : (0 ≤ w85 → 0 ≤ q87 ∧ m88 ≤ w85 ∧ w85 ≤ m88 + (w86 - 1)) ∧ (w85 ≤ 0 → q87 ≤ 0 ∧ w85 ≤ m88 ∧ m88 ≤ w85 + (w86 - 1))) (rf31 : w85 ≤ w45 → w36 ≤ w86 → 0 ≤ w45 → q87 ≤ q46) (rf3 : 1 ≤ (-1) * u24 + 100 * x11 + 2 ∨ 0 ≤ w45 → (-1) * u24 + 100 * x11 + 2 ≤ q46 ∧ (-1) * m25 + (-1) * m26 + (-10000) * m27 + 100 * m28 + 100 * m29 + 1000000 * m30 + (-1000) * u24 + 2 * w22 + 2 * w23 + 20000 * x0 + 100000 * x11 + 2000 ≤ w45 ∨ q46 + 1 ≤ (-1) * u24 + 100 * x11 + 2 ∧ w45 + 1 ≤ (-1) * m25 + (-1) * m26 + (-10000) * m27 + 100 * m28 + 100 * m29 + 1000000 * m30 + (-1000) * u24 + 2 * w22 + 2 * w23 + 20000 * x0 + 100000 * x11 + 2000) (w85s : 1000 * u84 = w85) (w86s : w70 + w72 + 10000 * x0 + 1000 = w86) (w45s : 1000 * u44 = w45) (w36s : w22 + w23 + 10000 * x0 + 1000 = w36) (w22s : 20 * m12 = w22) (w23s : 30 * m15 = w23) (u84s : max (q77 + q82 + (-1) * u9 + x29) 0 = u84) (w70s : 20 * m12 + 20 * m69 = w70) (w72s : 30 * m15 + 30 * m71 = w72) (u44s : max (z32 + (-1)) 0 = u44) (k29 : (0 : Int) ≤ (-1) * u10 + (-1) * x29 + z32 + (-1)) (q77s : w76 = 255 * q77 + r78) (rf24 : 0 ≤ (-1) * q82 + u10 + u9) (rf34 : 0 ≤ (-1) * u10 + (-1) * x29 + z32 + (-1) → 0 ≤ m73 + m74 + (-1) * m75 + (-255) * u10 + x21 + (-255) * x29 + 255 * z32 + (-255)) (m69f1 : (0) * x1 + (0) * q63 - (0) ≤ m69) (m71f1 : (0) * x2 + (0) * q67 - (0) ≤ m71) (z32s : w31 ≤ 1000 * z32 ∧ 1000 * z32 ≤ w31 + 999) (w76s : (-1) * m73 + (-1) * m74 + m75 + (-1) * x21 = w76) (w31s : (-1) * m25 + (-1) * m26 + (-10000) * m27 + 100 * m28 + 100 * m29 + 1000000 * m30 + (-1000) * u24 + 2 * w22 + 2 * w23 + 20000 * x0 + 100000 * x11 + 2000 = w31) : (q87 : Int) ≤ q91 + 100 * x11 + 1 := by omega
theorem br_t76 {u10 x29 z32 : Int} (b_u10 : 0 ≤ u10 ∧ u10 ≤ 65535) (b_x29 : -32768 ≤ x29 ∧ x29 ≤ 32767) (b_z32 : -147963175 ≤ z32 ∧ z32 ≤ 147968980) : ¬ (((-1) * u10 + (-1) * x29 + z32 + (-1) : Int) = 10000000000000) := by omega
theorem br_t77 {u93 : Int} (b_u93 : 0 ≤ u93 ∧ u93 ≤ 147968980) : (0 : Int) ≤ u93 := by omega
theorem br_t78 {u94 : Int} (b_u94 : 0 ≤ u94 ∧ u94 ≤ 147968980) : (u94 : Int) ≤ 10000000000000 := by omega
theorem br_c1 {ρ : Env} {u93 u94 u10 u9 z32 : Int} {t : DT} (h137 : Is ρ br137 (u93)) (h139 : Is ρ br139 (u94)) (u93s : max ((-1) * u10 + (-1) * u9 + z32) 0 = u93) (u94s : max (z32) 0 = u94) (b_u93 : 0 ≤ u93 ∧ u93 ≤ 147968980) (b_u94 : 0 ≤ u94 ∧ u94 ≤ 147968980) (b_u10 : 0 ≤ u10 ∧ u10 ≤ 65535) (b_u9 : 0 ≤ u9 ∧ u9 ≤ 65535) (ht : t.goal ρ) : (brC1 t).goal ρ := by
  unfold brC1
  refine aT (Pleq (Zc 0) h137 (br_t77 b_u93)) ?_
  refine aT (Pleq h137 h139 (br_d3 b_u10 b_u9 u93s u94s)) ?_
  refine aT (Pleq h139 (Zc 10000000000000) (br_t78 b_u94)) ?_
  exact ht
theorem br_d29 {q7 q99 x0 m19 w70 m101 w72 m102 w103 z104 z21 : Int} (b_q99 : 0 ≤ q99 ∧ q99 ≤ 147968980) (m19f1 : (0) * x0 + (0) * q7 - (0) ≤ m19) (m101f1 : (0) * w70 + (0) * q7 - (0) ≤ m101) (m102f1 : (0) * w72 + (0) * q7 - (0) ≤ m102) (z104s : w103 ≤ 1000 * z104 ∧ 1000 * z104 ≤ w103 + 999) (rf23 : 0 ≤ (-1) * z104 + z21) (k28 : (z21 : Int) ≤ 0) (w103s : m101 + m102 + 10000 * m19 + 1000 * q7 = w103) : (q7 : Int) ≤ q99 := by omega
theorem br_d30 {q96 q7 x27 x11 u24 w95 m25 m26 m27 m28 m29 m30 w22 w23 x0 u94 z32 w31 : Int}  (k53 : (q96 : Int) ≤ 100 * x11 + 1) (rf7 : 1 ≤ (-1) * u24 + 100 * x11 + 2 ∨ 0 ≤ w95 → (-1) * u24 + 100 * x11 + 2 ≤ q96 ∧ (-1) * m25 + (-1) * m26 + (-10000) * m27 + 100 * m28 + 100 * m29 + 1000000 * m30 + (-1000) * u24 + 2 * w22 + 2 * w23 + 20000 * x0 + 100000 * x11 + 2000 ≤ w95 ∨ q96 + 1 ≤ (-1) * u24 + 100 * x11 + 2 ∧ w95 + 1 ≤ (-1) * m25 + (-1) * m26 + (-10000) * m27 + 100 * m28 + 100 * m29 + 1000000 * m30 + (-1000) * u24 + 2 * w22 + 2 * w23 + 20000 * x0 + 100000 * x11 + 2000) (w95s : 1000 * u94 = w95) (u24s : max ((-1) * q7 + 100 * x11 + (-1) * x27 + 1) 0 = u24) (u94s : max (z32) 0 = u94) (z32s : w31 ≤ 1000 * z32 ∧ 1000 * z32 ≤ w31 + 999) (w31s : (-1) * m25 + (-1) * m26 + (-10000) * m27 + 100 * m28 + 100 * m29 + 1000000 * m30 + (-1000) * u24 + 2 * w22 + 2 * w23 + 20000 * x0 + 100000 * x11 + 2000 = w31) : ¬ ((q96 : Int) ≤ q7 + x27) := by omega
theorem br_t81 {u122 : Int} (b_u122 : 0 ≤ u122 ∧ u122 ≤ 107480677) : (0 : Int) ≤ u122 := by omega
theorem br_t82 {u123 : Int} (b_u123 : 0 ≤ u123 ∧ u123 ≤ 107513444) : (0 : Int) ≤ u123 := by omega
theorem br_t83 {u124 : Int} (b_u124 : 0 ≤ u124 ∧ u124 ≤ 107578979) : (u124 : Int) ≤ 10000000000000 := by omega
theorem br_d31 {q126 x11 u10 u24 u9 z21 w125 m25 m26 m27 m28 m29 m30 w22 w23 x0 u124 u122 x29 z32 w31 : Int} (b_u10 : 0 ≤ u10 ∧ u10 ≤ 65535) (b_u24 : 0 ≤ u24 ∧ u24 ≤ 25501) (b_u9 : 0 ≤ u9 ∧ u9 ≤ 65535) (b_z21 : 0 ≤ z21 ∧ z21 ≤ 107382374) (rf13 : 1 ≤ (-1) * u24 + 100 * x11 + 2 ∨ 0 ≤ w125 → (-1) * u24 + 100 * x11 + 2 ≤ q126 ∧ (-1) * m25 + (-1) * m26 + (-10000) * m27 + 100 * m28 + 100 * m29 + 1000000 * m30 + (-1000) * u24 + 2 * w22 + 2 * w23 + 20000 * x0 + 100000 * x11 + 2000 ≤ w125 ∨ q126 + 1 ≤ (-1) * u24 + 100 * x11 + 2 ∧ w125 + 1 ≤ (-1) * m25 + (-1) * m26 + (-10000) * m27 + 100 * m28 + 100 * m29 + 1000000 * m30 + (-1000) * u24 + 2 * w22 + 2 * w23 + 20000 * x0 + 100000 * x11 + 2000) (w125s : 1000 * u124 = w125) (u124s : max (u10 + u122 + x29) 0 = u124) (k29 : (u122 : Int) ≤ (-1) * u10 + (-1) * x29 + z32 + (-1)) (u122s : max (u9 + (-1) * x29 + z21) 0 = u122) (z32s : w31 ≤ 1000 * z32 ∧ 1000 * z32 ≤ w31 + 999) (w31s : (-1) * m25 + (-1) * m26 + (-10000) * m27 + 100 * m28 + 100 * m29 + 1000000 * m30 + (-1000) * u24 + 2 * w22 + 2 * w23 + 20000 * x0 + 100000 * x11 + 2000 = w31) : (q126 : Int) ≤ 100 * x11 + 1 := by omega
theorem br_d32 {q7 q129 w128 m17 m18 m19 u123 u122 u9 x29 z21 w20 : Int}  (rf14 : 1 ≤ q7 ∨ 0 ≤ w128 → q7 ≤ q129 ∧ m17 + m18 + 10000 * m19 + 1000 * q7 ≤ w128 ∨ q129 + 1 ≤ q7 ∧ w128 + 1 ≤ m17 + m18 + 10000 * m19 + 1000 * q7) (w128s : 1000 * u123 = w128) (u123s : max (u122 + (-1) * u9 + x29) 0 = u123) (u122s : max (u9 + (-1) * x29 + z21) 0 = u122) (z21s : w20 ≤ 1000 * z21 ∧ 1000 * z21 ≤ w20 + 999) (w20s : m17 + m18 + 10000 * m19 + 1000 * q7 = w20) : (q7 : Int) ≤ q129 := by omega
theorem br_d33 {q126 q7 x27 w125 m127 w36 u24 x11 m25 m26 m27 m28 m29 m30 w22 w23 x0 u124 u10 u122 x29 z32 w31 : Int} (b_q7 : 0 ≤ q7 ∧ q7 ≤ 16383) (b_x27 : 0 ≤ x27 ∧ x27 ≤ 65535) (q126d : (0 ≤ w125 → 0 ≤ q126 ∧ m127 ≤ w125 ∧ w125 ≤ m127 + (w36 - 1)) ∧ (w125 ≤ 0 → q126 ≤ 0 ∧ w125 ≤ m127 ∧ m127 ≤ w125 + (w36 - 1))) (rf13 : 1 ≤ (-1) * u24 + 100 * x11 + 2 ∨ 0 ≤ w125 → (-1) * u24 + 100 * x11 + 2 ≤ q126 ∧ (-1) * m25 + (-1) * m26 + (-10000) * m27 + 100 * m28 + 100 * m29 + 1000000 * m30 + (-1000) * u24 + 2 * w22 + 2 * w23 + 20000 * x0 + 100000 * x11 + 2000 ≤ w125 ∨ q126 + 1 ≤ (-1) * u24 + 100 * x11 + 2 ∧ w125 + 1 ≤ (-1) * m25 + (-1) * m26 + (-10000) * m27 + 100 * m28 + 100 * m29 + 1000000 * m30 + (-1000) * u24 + 2 * w22 + 2 * w23 + 20000 * x0 + 100000 * x11 + 2000) (w125s : 1000 * u124 = w125) (u24s : max ((-1) * q7 + 100 * x11 + (-1) * x27 + 1) 0 = u24) (u124s : max (u10 + u122 + x29) 0 = u124) (k29 : (u122 : Int) ≤ (-1) * u10 + (-1) * x29 + z32 + (-1)) (z32s : w31 ≤ 1000 * z32 ∧ 1000 * z32 ≤ w31 + 999) (w31s : (-1) * m25 + (-1) * m26 + (-10000) * m27 + 100 * m28 + 100 * m29 + 1000000 * m30 + (-1000) * u24 + 2 * w22 + 2 * w23 + 20000 * x0 + 100000 * x11 + 2000 = w31) : (q126 : Int) ≤ q7 + x27 := by omega
theorem br_d34 {q7 q49 w48 m17 m18 m19 u43 u10 u9 z32 u122 x29 z21 w20 : Int}  (rf4 : 1 ≤ q7 ∨ 0 ≤ w48 → q7 ≤ q49 ∧ m17 + m18 + 10000 * m19 + 1000 * q7 ≤ w48 ∨ q49 + 1 ≤ q7 ∧ w48 + 1 ≤ m17 + m18 + 10000 * m19 + 1000 * q7) (w48s : 1000 * u43 = w48) (u43s : max ((-1) * u10 + (-1) * u9 + z32 + (-1)) 0 = u43) (k29 : (u122 : Int) ≤ (-1) * u10 + (-1) * x29 + z32 + (-1)) (u122s : max (u9 + (-1) * x29 + z21) 0 = u122) (z21s : w20 ≤ 1000 * z21 ∧ 1000 * z21 ≤ w20 + 999) (w20s : m17 + m18 + 10000 * m19 + 1000 * q7 = w20) : (q7 : Int) ≤ q49 := by omega
theorem br_d35 {q46 q7 x27 u10 u9 z21 u24 x11 w45 m25 m26 m27 m28 m29 m30 w22 w23 x0 u44 z32 u122 x29 w31 : Int} (b_u10 : 0 ≤ u10 ∧ u10 ≤ 65535) (b_u9 : 0 ≤ u9 ∧ u9 ≤ 65535) (b_z21 : 0 ≤ z21 ∧ z21 ≤ 107382374) (rf3 : 1 ≤ (-1) * u24 + 100 * x11 + 2 ∨ 0 ≤ w45 → (-1) * u24 + 100 * x11 + 2 ≤ q46 ∧ (-1) * m25 + (-1) * m26 + (-10000) * m27 + 100 * m28 + 100 * m29 + 1000000 * m30 + (-1000) * u24 + 2 * w22 + 2 * w23 + 20000 * x0 + 100000 * x11 + 2000 ≤ w45 ∨ q46 + 1 ≤ (-1) * u24 + 100 * x11 + 2 ∧ w45 + 1 ≤ (-1) * m25 + (-1) * m26 + (-10000) * m27 + 100 * m28 + 100 * m29 + 1000000 * m30 + (-1000) * u24 + 2 * w22 + 2 * w23 + 20000 * x0 + 100000 * x11 + 2000) (w45s : 1000 * u44 = w45) (u24s : max ((-1) * q7 + 100 * x11 + (-1) * x27 + 1) 0 = u24) (u44s : max (z32 + (-1)) 0 = u44) (k29 : (u122 : Int) ≤ (-1) * u10 + (-1) * x29 + z32 + (-1)) (z32s : w31 ≤ 1000 * z32 ∧ 1000 * z32 ≤ w31 + 999) (u122s : max (u9 + (-1) * x29 + z21) 0 = u122) (w31s : (-1) * m25 + (-1) * m26 + (-10000) * m27 + 100 * m28 + 100 * m29 + 1000000 * m30 + (-1000) * u24 + 2 * w22 + 2 * w23 + 20000 * x0 + 100000 * x11 + 2000 = w31) : (q46 : Int) ≤ q7 + x27 := by omega
theorem br_t89 {u133 : Int} (b_u133 : 0 ≤ u133 ∧ u133 ≤ 181514317) : (0 : Int) ≤ u133 := by omega
theorem br_t90 {u134 : Int} (b_u134 : 0 ≤ u134 ∧ u134 ≤ 181579852) : (u134 : Int) ≤ 10000000000000 := by omega
theorem br_d36 {q136 x11 r132 u10 u24 u9 z21 w135 m25 m26 m27 m28 m29 m30 w22 w23 x0 u134 q131 u122 x29 z32 w31 : Int} (b_r132 : -1 ≤ r132 ∧ r132 ≤ 1) (b_u10 : 0 ≤ u10 ∧ u10 ≤ 65535) (b_u24 : 0 ≤ u24 ∧ u24 ≤ 25501) (b_u9 : 0 ≤ u9 ∧ u9 ≤ 65535) (b_z21 : 0 ≤ z21 ∧ z21 ≤ 107382374) (rf15 : 1 ≤ (-1) * u24 + 100 * x11 + 2 ∨ 0 ≤ w135 → (-1) * u24 + 100 * x11 + 2 ≤ q136 ∧ (-1) * m25 + (-1) * m26 + (-10000) * m27 + 100 * m28 + 100 * m29 + 1000000 * m30 + (-1000) * u24 + 2 * w22 + 2 * w23 + 20000 * x0 + 100000 * x11 + 2000 ≤ w135 ∨ q136 + 1 ≤ (-1) * u24 + 100 * x11 + 2 ∧ w135 + 1 ≤ (-1) * m25 + (-1) * m26 + (-10000) * m27 + 100 * m28 + 100 * m29 + 1000000 * m30 + (-1000) * u24 + 2 * w22 + 2 * w23 + 20000 * x0 + 100000 * x11 + 2000) (w135s : 1000 * u134 = w135) (u134s : max (q131 + u10 + u122 + x29) 0 = u134) (k29 : (u122 : Int) ≤ (-1) * u10 + (-1) * x29 + z32 + (-1)) (q131s : (-1) * u10 + (-1) * u122 + (-1) * x29 + z32 + (-1) = 2 * q131 + r132) (u122s : max (u9 + (-1) * x29 + z21) 0 = u122) (z32s : w31 ≤ 1000 * z32 ∧ 1000 * z32 ≤ w31 + 999) (w31s : (-1) * m25 + (-1) * m26 + (-10000) * m27 + 100 * m28 + 100 * m29 + 1000000 * m30 + (-1000) * u24 + 2 * w22 + 2 * w23 + 20000 * x0 + 100000 * x11 + 2000 = w31) : (q136 : Int) ≤ 100 * x11 + 1 := by omega
theorem br_d37 {q7 q139 r132 w138 m17 m18 m19 u133 q131 u122 u9 x29 u10 z32 z21 w20 : Int} (b_r132 : -1 ≤ r132 ∧ r132 ≤ 1) (rf16 : 1 ≤ q7 ∨ 0 ≤ w138 → q7 ≤ q139 ∧ m17 + m18 + 10000 * m19 + 1000 * q7 ≤ w138 ∨ q139 + 1 ≤ q7 ∧ w138 + 1 ≤ m17 + m18 + 10000 * m19 + 1000 * q7) (w138s : 1000 * u133 = w138) (u133s : max (q131 + u122 + (-1) * u9 + x29) 0 = u133) (k29 : (u122 : Int) ≤ (-1) * u10 + (-1) * x29 + z32 + (-1)) (u122s : max (u9 + (-1) * x29 + z21) 0 = u122) (q131s : (-1) * u10 + (-1) * u122 + (-1) * x29 + z32 + (-1) = 2 * q131 + r132) (z21s : w20 ≤ 1000 * z21 ∧ 1000 * z21 ≤ w20 + 999) (w20s : m17 + m18 + 10000 * m19 + 1000 * q7 = w20) : (q7 : Int) ≤ q139 := by omega
theorem br_d38 {q136 q7 x27 r132 z21 w135 m137 w36 u24 x11 m25 m26 m27 m28 m29 m30 w22 w23 x0 u134 m17 w13 m18 w16 m19 q131 u10 u122 x29 z32 w31 w20 : Int} (b_r132 : -1 ≤ r132 ∧ r132 ≤ 1) (b_x27 : 0 ≤ x27 ∧ x27 ≤ 65535) (b_z21 : 0 ≤ z21 ∧ z21 ≤ 107382374) (q136d : (0 ≤ w135 → 0 ≤ q136 ∧ m137 ≤ w135 ∧ w135 ≤ m137 + (w36 - 1)) ∧ (w135 ≤ 0 → q136 ≤ 0 ∧ w135 ≤ m137 ∧ m137 ≤ w135 + (w36 - 1))) (rf15 : 1 ≤ (-1) * u24 + 100 * x11 + 2 ∨ 0 ≤ w135 → (-1) * u24 + 100 * x11 + 2 ≤ q136 ∧ (-1) * m25 + (-1) * m26 + (-10000) * m27 + 100 * m28 + 100 * m29 + 1000000 * m30 + (-1000) * u24 + 2 * w22 + 2 * w23 + 20000 * x0 + 100000 * x11 + 2000 ≤ w135 ∨ q136 + 1 ≤ (-1) * u24 + 100 * x11 + 2 ∧ w135 + 1 ≤ (-1) * m25 + (-1) * m26 + (-10000) * m27 + 100 * m28 + 100 * m29 + 1000000 * m30 + (-1000) * u24 + 2 * w22 + 2 * w23 + 20000 * x0 + 100000 * x11 + 2000) (w135s : 1000 * u134 = w135) (u24s : max ((-1) * q7 + 100 * x11 + (-1) * x27 + 1) 0 = u24) (m17f4 : m17 ≤ (0) * w13 + (1601400) * q7 - (0)) (m18f4 : m18 ≤ (0) * w16 + (2402100) * q7 - (0)) (m19f4 : m19 ≤ (0) * x0 + (255) * q7 - (0)) (u134s : max (q131 + u10 + u122 + x29) 0 = u134) (k29 : (u122 : Int) ≤ (-1) * u10 + (-1) * x29 + z32 + (-1)) (q131s : (-1) * u10 + (-1) * u122 + (-1) * x29 + z32 + (-1) = 2 * q131 + r132) (z32s : w31 ≤ 1000 * z32 ∧ 1000 * z32 ≤ w31 + 999) (z21s : w20 ≤ 1000 * z21 ∧ 1000 * z21 ≤ w20 + 999) (w31s : (-1) * m25 + (-1) * m26 + (-10000) * m27 + 100 * m28 + 100 * m29 + 1000000 * m30 + (-1000) * u24 + 2 * w22 + 2 * w23 + 20000 * x0 + 100000 * x11 + 2000 = w31) (w20s : m17 + m18 + 10000 * m19 + 1000 * q7 = w20) : (q136 : Int) ≤ q7 + x27 := by omega
theorem br_d39 {q7 q147 q82 r144 w128 q129 m17 m18 m19 w146 w86 w40 w13 w16 x0 u123 u145 w70 w72 u122 u9 x29 q143 u10 z32 m141 m73 m74 m75 x21 z21 w142 w20 : Int} (b_q82 : 0 ≤ q82 ∧ q82 ≤ 131070) (b_r144 : -254 ≤ r144 ∧ r144 ≤ 254) (rf14 : 1 ≤ q7 ∨ 0 ≤ w128 → q7 ≤ q129 ∧ m17 + m18 + 10000 * m19 + 1000 * q7 ≤ w128 ∨ q129 + 1 ≤ q7 ∧ w128 + 1 ≤ m17 + m18 + 10000 * m19 + 1000 * q7) (rf32 : w128 ≤ w146 → w86 ≤ w40 → 0 ≤ w146 → q129 ≤ q147) (w40s : w13 + w16 + 10000 * x0 + 1000 = w40) (w128s : 1000 * u123 = w128) (w146s : 1000 * u145 = w146) (w86s : w70 + w72 + 10000 * x0 + 1000 = w86) (rf21 : 0 ≤ w13 + (-1) * w70) (rf22 : 0 ≤ w16 + (-1) * w72) (u123s : max (u122 + (-1) * u9 + x29) 0 = u123) (u145s : max (q143 + q82 + u122 + (-1) * u9 + x29) 0 = u145) (k29 : (u122 : Int) ≤ (-1) * u10 + (-1) * x29 + z32 + (-1)) (rf37 : 0 ≤ (-1) * u10 + (-1) * u122 + (-1) * x29 + z32 + (-1) → 0 ≤ (-1) * m141 + (-1) * m73 + (-1) * m74 + m75 + (-1) * x21) (u122s : max (u9 + (-1) * x29 + z21) 0 = u122) (q143s : w142 = 255 * q143 + r144) (z21s : w20 ≤ 1000 * z21 ∧ 1000 * z21 ≤ w20 + 999) (w142s : (-1) * m141 + (-1) * m73 + (-1) * m74 + m75 + (-1) * x21 = w142) (w20s : m17 + m18 + 10000 * m19 + 1000 * q7 = w20) : (q7 : Int) ≤ q147 := by omega
theorem br_d40 {q147 q7 x27 r144 u10 u9 z21 w146 w45 w36 w86 q46 u145 w70 w72 x0 u44 u24 x11 m25 m26 m27 m28 m29 m30 w22 w23 q143 q82 u122 x29 m12 m69 m15 m71 z32 w142 m141 m73 m74 m75 x21 x1 q63 x2 q67 w31 : Int} (b_r144 : -254 ≤ r144 ∧ r144 ≤ 254) (b_u10 : 0 ≤ u10 ∧ u10 ≤ 65535) (b_u9 : 0 ≤ u9 ∧ u9 ≤ 65535) (b_z21 : 0 ≤ z21 ∧ z21 ≤ 107382374) (rf33 : w146 ≤ w45 → w36 ≤ w86 → 0 ≤ w45 → q147 ≤ q46) (w146s : 1000 * u145 = w146) (w86s : w70 + w72 + 10000 * x0 + 1000 = w86) (w45s : 1000 * u44 = w45) (rf3 : 1 ≤ (-1) * u24 + 100 * x11 + 2 ∨ 0 ≤ w45 → (-1) * u24 + 100 * x11 + 2 ≤ q46 ∧ (-1) * m25 + (-1) * m26 + (-10000) * m27 + 100 * m28 + 100 * m29 + 1000000 * m30 + (-1000) * u24 + 2 * w22 + 2 * w23 + 20000 * x0 + 100000 * x11 + 2000 ≤ w45 ∨ q46 + 1 ≤ (-1) * u24 + 100 * x11 + 2 ∧ w45 + 1 ≤ (-1) * m25 + (-1) * m26 + (-10000) * m27 + 100 * m28 + 100 * m29 + 1000000 * m30 + (-1000) * u24 + 2 * w22 + 2 * w23 + 20000 * x0 + 100000 * x11 + 2000) (w36s : w22 + w23 + 10000 * x0 + 1000 = w36) (u145s : max (q143 + q82 + u122 + (-1) * u9 + x29) 0 = u145) (w70s : 20 * m12 + 20 * m69 = w70) (w72s : 30 * m15 + 30 * m71 = w72) (u44s : max (z32 + (-1)) 0 = u44) (u24s : max ((-1) * q7 + 100 * x11 + (-1) * x27 + 1) 0 = u24) (w22s : 20 * m12 = w22) (w23s : 30 * m15 = w23) (k29 : (u122 : Int) ≤ (-1) * u10 + (-1) * x29 + z32 + (-1)) (q143s : w142 = 255 * q143 + r144) (rf24 : 0 ≤ (-1) * q82 + u10 + u9) (u122s : max (u9 + (-1) * x29 + z21) 0 = u122) (rf36 : 0 ≤ (-1) * u10 + (-1) * u122 + (-1) * x29 + z32 + (-1) → 0 ≤ m141 + m73 + m74 + (-1) * m75 + (-255) * u10 + (-255) * u122 + x21 + (-255) * x29 + 255 * z32 + (-255)) (m69f1 : (0) * x1 + (0) * q63 - (0) ≤ m69) (m71f1 : (0) * x2 + (0) * q67 - (0) ≤ m71) (z32s : w31 ≤ 1000 * z32 ∧ 1000 * z32 ≤ w31 + 999) (w142s : (-1) * m141 + (-1) * m73 + (-1) * m74 + m75 + (-1) * x21 = w142) (w31s : (-1) * m25 + (-1) * m26 + (-10000) * m27 + 100 * m28 + 100 * m29 + 1000000 * m30 + (-1000) * u24 + 2 * w22 + 2 * w23 + 20000 * x0 + 100000 * x11 + 2000 = w31) : (q147 : Int) ≤ q7 + x27 := by omega
theorem br_d41 {q147 q91 x11 q7 q82 r144 u24 w146 w45 w36 w86 q46 m25 m26 m27 m28 m29 m30 w22 w23 x0 u145 w70 w72 u44 m12 m15 q143 u122 u9 x29 m69 m71 w13 m17 w16 m18 m19 z32 u10 w142 z21 m141 m73 m74 m75 x21 x1 q63 x2 q67 w31 w20 : Int} (b_q7 : 0 ≤ q7 ∧ q7 ≤ 16383) (b_q82 : 0 ≤ q82 ∧ q82 ≤ 131070) (b_q91 : 0 ≤ q91 ∧ q91 ≤ 2550) (b_r144 : -254 ≤ r144 ∧ r144 ≤ 254) (b_u24 : 0 ≤ u24 ∧ u24 ≤ 25501) (rf33 : w146 ≤ w45 → w36 ≤ w86 → 0 ≤ w45 → q147 ≤ q46) (rf3 : 1 ≤ (-1) * u24 + 100 * x11 + 2 ∨ 0 ≤ w45 → (-1) * u24 + 100 * x11 + 2 ≤ q46 ∧ (-1) * m25 + (-1) * m26 + (-10000) * m27 + 100 * m28 + 100 * m29 + 1000000 * m30 + (-1000) * u24 + 2 * w22 + 2 * w23 + 20000 * x0 + 100000 * x11 + 2000 ≤ w45 ∨ q46 + 1 ≤ (-1) * u24 + 100 * x11 + 2 ∧ w45 + 1 ≤ (-1) * m25 + (-1) * m26 + (-10000) * m27 + 100 * m28 + 100 * m29 + 1000000 * m30 + (-1000) * u24 + 2 * w22 + 2 * w23 + 20000 * x0 + 100000 * x11 + 2000) (w146s : 1000 * u145 = w146) (w86s : w70 + w72 + 10000 * x0 + 1000 = w86) (w45s : 1000 * u44 = w45) (w36s : w22 + w23 + 10000 * x0 + 1000 = w36) (w22s : 20 * m12 = w22) (w23s : 30 * m15 = w23) (u145s : max (q143 + q82 + u122 + (-1) * u9 + x29) 0 = u145) (w70s : 20 * m12 + 20 * m69 = w70) (w72s : 30 * m15 + 30 * m71 = w72) (m17f1 : (0) * w13 + (0) * q7 - (0) ≤ m17) (m18f1 : (0) * w16 + (0) * q7 - (0) ≤ m18) (m19f1 : (0) * x0 + (0) * q7 - (0) ≤ m19) (u44s : max (z32 + (-1)) 0 = u44) (k29 : (u122 : Int) ≤ (-1) * u10 + (-1) * x29 + z32 + (-1)) (q143s : w142 = 255 * q143 + r144) (rf24 : 0 ≤ (-1) * q82 + u10 + u9) (u122s : max (u9 + (-1) * x29 + z21) 0 = u122) (rf36 : 0 ≤ (-1) * u10 + (-1) * u122 + (-1) * x29 + z32 + (-1) → 0 ≤ m141 + m73 + m74 + (-1) * m75 + (-255) * u10 + (-255) * u122 + x21 + (-255) * x29 + 255 * z32 + (-255)) (m69f1 : (0) * x1 + (0) * q63 - (0) ≤ m69) (m71f1 : (0) * x2 + (0) * q67 - (0) ≤ m71) (z32s : w31 ≤ 1000 * z32 ∧ 1000 * z32 ≤ w31 + 999) (w142s : (-1) * m141 + (-1) * m73 + (-1) * m74 + m75 + (-1) * x21 = w142) (z21s : w20 ≤ 1000 * z21 ∧ 1000 * z21 ≤ w20 + 999) (w31s : (-1) * m25 + (-1) * m26 + (-10000) * m27 + 100 * m28 + 100 * m29 + 1000000 * m30 + (-1000) * u24 + 2 * w22 + 2 * w23 + 20000 * x0 + 100000 * x11 + 2000 = w31) (w20s : m17 + m18 + 10000 * m19 + 1000 * q7 = w20) : (q147 : Int) ≤ q91 + 100 * x11 + 1 := by omega
theorem br_d42 {q7 q99 w98 m17 m18 m19 u93 u10 u9 z32 u122 x29 z21 w20 : Int}  (rf8 : 1 ≤ q7 ∨ 0 ≤ w98 → q7 ≤ q99 ∧ m17 + m18 + 10000 * m19 + 1000 * q7 ≤ w98 ∨ q99 + 1 ≤ q7 ∧ w98 + 1 ≤ m17 + m18 + 10000 * m19 + 1000 * q7) (w98s : 1000 * u93 = w98) (u93s : max ((-1) * u10 + (-1) * u9 + z32) 0 = u93) (k29 : (u122 : Int) ≤ (-1) * u10 + (-1) * x29 + z32 + (-1)) (u122s : max (u9 + (-1) * x29 + z21) 0 = u122) (z21s : w20 ≤ 1000 * z21 ∧ 1000 * z21 ≤ w20 + 999) (w20s : m17 + m18 + 10000 * m19 + 1000 * q7 = w20) : (q7 : Int) ≤ q99 := by omega
theorem br_t98 {u149 : Int} (b_u149 : 0 ≤ u149 ∧ u149 ≤ 107513443) : (0 : Int) ≤ u149 := by omega
theorem br_t99 {u150 : Int} (b_u150 : 0 ≤ u150 ∧ u150 ≤ 107578978) : (u150 : Int) ≤ 10000000000000 := by omega
theorem br_d43 {q152 x11 u10 u24 u9 w151 m25 m26 m27 m28 m29 m30 w22 w23 x0 u150 u122 x29 z32 z21 w31 : Int} (b_u10 : 0 ≤ u10 ∧ u10 ≤ 65535) (b_u24 : 0 ≤ u24 ∧ u24 ≤ 25501) (b_u9 : 0 ≤ u9 ∧ u9 ≤ 65535) (rf17 : 1 ≤ (-1) * u24 + 100 * x11 + 2 ∨ 0 ≤ w151 → (-1) * u24 + 100 * x11 + 2 ≤ q152 ∧ (-1) * m25 + (-1) * m26 + (-10000) * m27 + 100 * m28 + 100 * m29 + 1000000 * m30 + (-1000) * u24 + 2 * w22 + 2 * w23 + 20000 * x0 + 100000 * x11 + 2000 ≤ w151 ∨ q152 + 1 ≤ (-1) * u24 + 100 * x11 + 2 ∧ w151 + 1 ≤ (-1) * m25 + (-1) * m26 + (-10000) * m27 + 100 * m28 + 100 * m29 + 1000000 * m30 + (-1000) * u24 + 2 * w22 + 2 * w23 + 20000 * x0 + 100000 * x11 + 2000) (w151s : 1000 * u150 = w151) (u150s : max (u10 + u122 + x29 + (-1)) 0 = u150) (k29 : (u122 : Int) ≤ (-1) * u10 + (-1) * x29 + z32 + (-1)) (u122s : max (u9 + (-1) * x29 + z21) 0 = u122) (z32s : w31 ≤ 1000 * z32 ∧ 1000 * z32 ≤ w31 + 999) (k28 : ¬ ((z21 : Int) ≤ 0)) (w31s : (-1) * m25 + (-1) * m26 + (-10000) * m27 + 100 * m28 + 100 * m29 + 1000000 * m30 + (-1000) * u24 + 2 * w22 + 2 * w23 + 20000 * x0 + 100000 * x11 + 2000 = w31) : (q152 : Int) ≤ 100 * x11 + 1 := by omega
theorem br_d44 {q7 q155 w154 m17 m18 m19 u149 u122 u9 x29 z21 w20 : Int}  (rf18 : 1 ≤ q7 ∨ 0 ≤ w154 → q7 ≤ q155 ∧ m17 + m18 + 10000 * m19 + 1000 * q7 ≤ w154 ∨ q155 + 1 ≤ q7 ∧ w154 + 1 ≤ m17 + m18 + 10000 * m19 + 1000 * q7) (w154s : 1000 * u149 = w154) (u149s : max (u122 + (-1) * u9 + x29 + (-1)) 0 = u149) (k53 : ¬ ((u122 : Int) = 0)) (u122s : max (u9 + (-1) * x29 + z21) 0 = u122) (k28 : ¬ ((z21 : Int) ≤ 0)) (z21s : w20 ≤ 1000 * z21 ∧ 1000 * z21 ≤ w20 + 999) (w20s : m17 + m18 + 10000 * m19 + 1000 * q7 = w20) : ¬ ((q7 : Int) ≤ q155) := by omega
theorem br_d45 {q108 x11 q7 q37 w35 w107 w36 u106 u34 u10 x29 z104 w103 x0 m19 m101 m102 w70 w72 : Int} (b_q7 : 0 ≤ q7 ∧ q7 ≤ 16383) (k31 : ¬ ((q37 : Int) ≤ 100 * x11 + 1)) (rf26 : w35 ≤ w107 → w36 ≤ w36 → 0 ≤ w107 → q37 ≤ q108) (w107s : 1000 * u106 = w107) (w35s : 1000 * u34 = w35) (u106s : max (u10 + x29 + z104) 0 = u106) (u34s : max (u10 + x29) 0 = u34) (z104s : w103 ≤ 1000 * z104 ∧ 1000 * z104 ≤ w103 + 999) (m19f1 : (0) * x0 + (0) * q7 - (0) ≤ m19) (w103s : m101 + m102 + 10000 * m19 + 1000 * q7 = w103) (m101f1 : (0) * w70 + (0) * q7 - (0) ≤ m101) (m102f1 : (0) * w72 + (0) * q7 - (0) ≤ m102) : ¬ ((q108 : Int) ≤ 100 * x11 + 1) := by omega
theorem br_d46 {q37 q7 x27 x11 q41 u24 w35 m25 m26 m27 m28 m29 m30 w22 w23 x0 w39 m17 m18 m19 u34 u33 u10 x29 u9 u122 z32 w31 z21 w20 : Int}  (k31 : (q37 : Int) ≤ 100 * x11 + 1) (k32 : (q7 : Int) ≤ q41) (rf1 : 1 ≤ (-1) * u24 + 100 * x11 + 2 ∨ 0 ≤ w35 → (-1) * u24 + 100 * x11 + 2 ≤ q37 ∧ (-1) * m25 + (-1) * m26 + (-10000) * m27 + 100 * m28 + 100 * m29 + 1000000 * m30 + (-1000) * u24 + 2 * w22 + 2 * w23 + 20000 * x0 + 100000 * x11 + 2000 ≤ w35 ∨ q37 + 1 ≤ (-1) * u24 + 100 * x11 + 2 ∧ w35 + 1 ≤ (-1) * m25 + (-1) * m26 + (-10000) * m27 + 100 * m28 + 100 * m29 + 1000000 * m30 + (-1000) * u24 + 2 * w22 + 2 * w23 + 20000 * x0 + 100000 * x11 + 2000) (rf2 : 1 ≤ q7 ∨ 0 ≤ w39 → q7 ≤ q41 ∧ m17 + m18 + 10000 * m19 + 1000 * q7 ≤ w39 ∨ q41 + 1 ≤ q7 ∧ w39 + 1 ≤ m17 + m18 + 10000 * m19 + 1000 * q7) (w35s : 1000 * u34 = w35) (u24s : max ((-1) * q7 + 100 * x11 + (-1) * x27 + 1) 0 = u24) (w39s : 1000 * u33 = w39) (u34s : max (u10 + x29) 0 = u34) (u33s : max ((-1) * u9 + x29) 0 = u33) (k29 : ¬ ((u122 : Int) ≤ (-1) * u10 + (-1) * x29 + z32 + (-1))) (z32s : w31 ≤ 1000 * z32 ∧ 1000 * z32 ≤ w31 + 999) (u122s : max (u9 + (-1) * x29 + z21) 0 = u122) (k28 : ¬ ((z21 : Int) ≤ 0)) (z21s : w20 ≤ 1000 * z21 ∧ 1000 * z21 ≤ w20 + 999) (w31s : (-1) * m25 + (-1) * m26 + (-10000) * m27 + 100 * m28 + 100 * m29 + 1000000 * m30 + (-1000) * u24 + 2 * w22 + 2 * w23 + 20000 * x0 + 100000 * x11 + 2000 = w31) (w20s : m17 + m18 + 10000 * m19 + 1000 * q7 = w20) : ¬ ((q37 : Int) ≤ q7 + x27) := by omega
theorem br_d47 {q117 x11 q37 w116 w35 w36 u115 u34 q7 q41 u10 u113 x29 w39 m17 m18 m19 u9 z104 m101 m102 u33 w103 z21 w20 : Int}  (k31 : (q37 : Int) ≤ 100 * x11 + 1) (rf29 : w116 ≤ w35 → w36 ≤ w36 → 0 ≤ w35 → q117 ≤ q37) (w116s : 1000 * u115 = w116) (w35s : 1000 * u34 = w35) (k32 : (q7 : Int) ≤ q41) (u115s : max (u10 + u113 + x29) 0 = u115) (rf2 : 1 ≤ q7 ∨ 0 ≤ w39 → q7 ≤ q41 ∧ m17 + m18 + 10000 * m19 + 1000 * q7 ≤ w39 ∨ q41 + 1 ≤ q7 ∧ w39 + 1 ≤ m17 + m18 + 10000 * m19 + 1000 * q7) (u34s : max (u10 + x29) 0 = u34) (u113s : max (u9 + (-1) * x29 + z104) 0 = u113) (rf21_0 : 0 ≤ (-1) * m101 + m17) (rf22_0 : 0 ≤ (-1) * m102 + m18) (w39s : 1000 * u33 = w39) (z104s : w103 ≤ 1000 * z104 ∧ 1000 * z104 ≤ w103 + 999) (k28 : ¬ ((z21 : Int) ≤ 0)) (u33s : max ((-1) * u9 + x29) 0 = u33) (w103s : m101 + m102 + 10000 * m19 + 1000 * q7 = w103) (z21s : w20 ≤ 1000 * z21 ∧ 1000 * z21 ≤ w20 + 999) (w20s : m17 + m18 + 10000 * m19 + 1000 * q7 = w20) : (q117 : Int) ≤ 100 * x11 + 1 := by omega
theorem br_d48 {q7 q120 u113 q41 w39 m17 m18 m19 w119 u33 u114 u9 x29 : Int} (b_u113 : 0 ≤ u113 ∧ u113 ≤ 107480677) (k32 : (q7 : Int) ≤ q41) (rf2 : 1 ≤ q7 ∨ 0 ≤ w39 → q7 ≤ q41 ∧ m17 + m18 + 10000 * m19 + 1000 * q7 ≤ w39 ∨ q41 + 1 ≤ q7 ∧ w39 + 1 ≤ m17 + m18 + 10000 * m19 + 1000 * q7) (rf12 : 1 ≤ q7 ∨ 0 ≤ w119 → q7 ≤ q120 ∧ m17 + m18 + 10000 * m19 + 1000 * q7 ≤ w119 ∨ q120 + 1 ≤ q7 ∧ w119 + 1 ≤ m17 + m18 + 10000 * m19 + 1000 * q7) (w39s : 1000 * u33 = w39) (w119s : 1000 * u114 = w119) (u33s : max ((-1) * u9 + x29) 0 = u33) (u114s : max (u113 + (-1) * u9 + x29) 0 = u114) : (q7 : Int) ≤ q120 := by omega
theorem br_d49 {q117 q7 x27 u113 q41 u24 x11 w116 m25 m26 m27 m28 m29 m30 w22 w23 x0 w39 m17 m18 m19 q37 u115 w35 u34 u33 u10 x29 u9 u122 z32 w31 z21 w20 : Int} (b_u113 : 0 ≤ u113 ∧ u113 ≤ 107480677) (k32 : (q7 : Int) ≤ q41) (rf11 : 1 ≤ (-1) * u24 + 100 * x11 + 2 ∨ 0 ≤ w116 → (-1) * u24 + 100 * x11 + 2 ≤ q117 ∧ (-1) * m25 + (-1) * m26 + (-10000) * m27 + 100 * m28 + 100 * m29 + 1000000 * m30 + (-1000) * u24 + 2 * w22 + 2 * w23 + 20000 * x0 + 100000 * x11 + 2000 ≤ w116 ∨ q117 + 1 ≤ (-1) * u24 + 100 * x11 + 2 ∧ w116 + 1 ≤ (-1) * m25 + (-1) * m26 + (-10000) * m27 + 100 * m28 + 100 * m29 + 1000000 * m30 + (-1000) * u24 + 2 * w22 + 2 * w23 + 20000 * x0 + 100000 * x11 + 2000) (rf2 : 1 ≤ q7 ∨ 0 ≤ w39 → q7 ≤ q41 ∧ m17 + m18 + 10000 * m19 + 1000 * q7 ≤ w39 ∨ q41 + 1 ≤ q7 ∧ w39 + 1 ≤ m17 + m18 + 10000 * m19 + 1000 * q7) (k31 : (q37 : Int) ≤ 100 * x11 + 1) (w116s : 1000 * u115 = w116) (rf1 : 1 ≤ (-1) * u24 + 100 * x11 + 2 ∨ 0 ≤ w35 → (-1) * u24 + 100 * x11 + 2 ≤ q37 ∧ (-1) * m25 + (-1) * m26 + (-10000) * m27 + 100 * m28 + 100 * m29 + 1000000 * m30 + (-1000) * u24 + 2 * w22 + 2 * w23 + 20000 * x0 + 100000 * x11 + 2000 ≤ w35 ∨ q37 + 1 ≤ (-1) * u24 + 100 * x11 + 2 ∧ w35 + 1 ≤ (-1) * m25 + (-1) * m26 + (-10000) * m27 + 100 * m28 + 100 * m29 + 1000000 * m30 + (-1000) * u24 + 2 * w22 + 2 * w23 + 20000 * x0 + 100000 * x11 + 2000) (u24s : max ((-1) * q7 + 100 * x11 + (-1) * x27 + 1) 0 = u24) (w35s : 1000 * u34 = w35) (w39s : 1000 * u33 = w39) (u115s : max (u10 + u113 + x29) 0 = u115) (u34s : max (u10 + x29) 0 = u34) (u33s : max ((-1) * u9 + x29) 0 = u33) (k29 : ¬ ((u122 : Int) ≤ (-1) * u10 + (-1) * x29 + z32 + (-1))) (z32s : w31 ≤ 1000 * z32 ∧ 1000 * z32 ≤ w31 + 999) (u122s : max (u9 + (-1) * x29 + z21) 0 = u122) (k28 : ¬ ((z21 : Int) ≤ 0)) (z21s : w20 ≤ 1000 * z21 ∧ 1000 * z21 ≤ w20 + 999) (w31s : (-1) * m25 + (-1) * m26 + (-10000) * m27 + 100 * m28 + 100 * m29 + 1000000 * m30 + (-1000) * u24 + 2 * w22 + 2 * w23 + 20000 * x0 + 100000 * x11 + 2000 = w31) (w20s : m17 + m18 + 10000 * m19 + 1000 * q7 = w20) : ¬ ((q117 : Int) ≤ q7 + x27) := by omega
theorem br_d50 {q7 q111 q41 w39 m17 m18 m19 w110 x0 u33 u105 w70 m101 w72 m102 u9 x29 z104 w103 : Int} (b_q111 : 0 ≤ q111 ∧ q111 ≤ 107415141) (k32 : (q7 : Int) ≤ q41) (rf2 : 1 ≤ q7 ∨ 0 ≤ w39 → q7 ≤ q41 ∧ m17 + m18 + 10000 * m19 + 1000 * q7 ≤ w39 ∨ q41 + 1 ≤ q7 ∧ w39 + 1 ≤ m17 + m18 + 10000 * m19 + 1000 * q7) (rf10 : 1 ≤ q7 ∨ 0 ≤ w110 → q7 ≤ q111 ∧ m17 + m18 + 10000 * m19 + 1000 * q7 ≤ w110 ∨ q111 + 1 ≤ q7 ∧ w110 + 1 ≤ m17 + m18 + 10000 * m19 + 1000 * q7) (m19f1 : (0) * x0 + (0) * q7 - (0) ≤ m19) (w39s : 1000 * u33 = w39) (w110s : 1000 * u105 = w110) (m101f1 : (0) * w70 + (0) * q7 - (0) ≤ m101) (m102f1 : (0) * w72 + (0) * q7 - (0) ≤ m102) (u33s : max ((-1) * u9 + x29) 0 = u33) (u105s : max ((-1) * u9 + x29 + z104) 0 = u105) (z104s : w103 ≤ 1000 * z104 ∧ 1000 * z104 ≤ w103 + 999) (w103s : m101 + m102 + 10000 * m19 + 1000 * q7 = w103) : (q7 : Int) ≤ q111 := by omega
theorem br_d51 {q108 q7 x27 q41 x11 w35 w107 w36 q37 w39 m17 m18 m19 u24 m25 m26 m27 m28 m29 m30 w22 w23 x0 u106 u34 u33 u10 x29 z104 w70 m101 w72 m102 u9 u122 z32 w103 w31 z21 w20 : Int} (b_q7 : 0 ≤ q7 ∧ q7 ≤ 16383) (k32 : (q7 : Int) ≤ q41) (k35 : (q108 : Int) ≤ 100 * x11 + 1) (rf26 : w35 ≤ w107 → w36 ≤ w36 → 0 ≤ w107 → q37 ≤ q108) (rf2 : 1 ≤ q7 ∨ 0 ≤ w39 → q7 ≤ q41 ∧ m17 + m18 + 10000 * m19 + 1000 * q7 ≤ w39 ∨ q41 + 1 ≤ q7 ∧ w39 + 1 ≤ m17 + m18 + 10000 * m19 + 1000 * q7) (rf1 : 1 ≤ (-1) * u24 + 100 * x11 + 2 ∨ 0 ≤ w35 → (-1) * u24 + 100 * x11 + 2 ≤ q37 ∧ (-1) * m25 + (-1) * m26 + (-10000) * m27 + 100 * m28 + 100 * m29 + 1000000 * m30 + (-1000) * u24 + 2 * w22 + 2 * w23 + 20000 * x0 + 100000 * x11 + 2000 ≤ w35 ∨ q37 + 1 ≤ (-1) * u24 + 100 * x11 + 2 ∧ w35 + 1 ≤ (-1) * m25 + (-1) * m26 + (-10000) * m27 + 100 * m28 + 100 * m29 + 1000000 * m30 + (-1000) * u24 + 2 * w22 + 2 * w23 + 20000 * x0 + 100000 * x11 + 2000) (w107s : 1000 * u106 = w107) (u24s : max ((-1) * q7 + 100 * x11 + (-1) * x27 + 1) 0 = u24) (w35s : 1000 * u34 = w35) (m19f1 : (0) * x0 + (0) * q7 - (0) ≤ m19) (w39s : 1000 * u33 = w39) (u106s : max (u10 + x29 + z104) 0 = u106) (u34s : max (u10 + x29) 0 = u34) (m101f1 : (0) * w70 + (0) * q7 - (0) ≤ m101) (m102f1 : (0) * w72 + (0) * q7 - (0) ≤ m102) (u33s : max ((-1) * u9 + x29) 0 = u33) (k29 : ¬ ((u122 : Int) ≤ (-1) * u10 + (-1) * x29 + z32 + (-1))) (z104s : w103 ≤ 1000 * z104 ∧ 1000 * z104 ≤ w103 + 999) (z32s : w31 ≤ 1000 * z32 ∧ 1000 * z32 ≤ w31 + 999) (u122s : max (u9 + (-1) * x29 + z21) 0 = u122) (k28 : ¬ ((z21 : Int) ≤ 0)) (w103s : m101 + m102 + 10000 * m19 + 1000 * q7 = w103) (z21s : w20 ≤ 1000 * z21 ∧ 1000 * z21 ≤ w20 + 999) (w31s : (-1) * m25 + (-1) * m26 + (-10000) * m27 + 100 * m28 + 100 * m29 + 1000000 * m30 + (-1000) * u24 + 2 * w22 + 2 * w23 + 20000 * x0 + 100000 * x11 + 2000 = w31) (w20s : m17 + m18 + 10000 * m19 + 1000 * q7 = w20) : ¬ ((q108 : Int) ≤ q7 + x27) := by omega
theorem br_d52 {q117 x11 z104 q108 w116 w107 w36 u115 u106 q7 q41 u10 u113 x29 w39 m17 m18 m19 u9 u33 z21 w20 : Int} (b_z104 : 0 ≤ z104 ∧ z104 ≤ 107382374) (k35 : (q108 : Int) ≤ 100 * x11 + 1) (rf25 : w116 ≤ w107 → w36 ≤ w36 → 0 ≤ w107 → q117 ≤ q108) (w116s : 1000 * u115 = w116) (w107s : 1000 * u106 = w107) (k32 : (q7 : Int) ≤ q41) (u115s : max (u10 + u113 + x29) 0 = u115) (rf2 : 1 ≤ q7 ∨ 0 ≤ w39 → q7 ≤ q41 ∧ m17 + m18 + 10000 * m19 + 1000 * q7 ≤ w39 ∨ q41 + 1 ≤ q7 ∧ w39 + 1 ≤ m17 + m18 + 10000 * m19 + 1000 * q7) (u106s : max (u10 + x29 + z104) 0 = u106) (u113s : max (u9 + (-1) * x29 + z104) 0 = u113) (w39s : 1000 * u33 = w39) (k28 : ¬ ((z21 : Int) ≤ 0)) (u33s : max ((-1) * u9 + x29) 0 = u33) (z21s : w20 ≤ 1000 * z21 ∧ 1000 * z21 ≤ w20 + 999) (w20s : m17 + m18 + 10000 * m19 + 1000 * q7 = w20) : (q117 : Int) ≤ 100 * x11 + 1 := by omega
theorem br_d53 {q117 q7 x27 q41 u24 x11 w116 m25 m26 m27 m28 m29 m30 w22 w23 x0 w35 w36 q37 w39 m17 m18 m19 u115 u34 m101 m102 u33 u10 u113 x29 u9 u122 z32 z104 w103 w31 z21 w20 : Int}  (k32 : (q7 : Int) ≤ q41) (rf11 : 1 ≤ (-1) * u24 + 100 * x11 + 2 ∨ 0 ≤ w116 → (-1) * u24 + 100 * x11 + 2 ≤ q117 ∧ (-1) * m25 + (-1) * m26 + (-10000) * m27 + 100 * m28 + 100 * m29 + 1000000 * m30 + (-1000) * u24 + 2 * w22 + 2 * w23 + 20000 * x0 + 100000 * x11 + 2000 ≤ w116 ∨ q117 + 1 ≤ (-1) * u24 + 100 * x11 + 2 ∧ w116 + 1 ≤ (-1) * m25 + (-1) * m26 + (-10000) * m27 + 100 * m28 + 100 * m29 + 1000000 * m30 + (-1000) * u24 + 2 * w22 + 2 * w23 + 20000 * x0 + 100000 * x11 + 2000) (rf29 : w116 ≤ w35 → w36 ≤ w36 → 0 ≤ w35 → q117 ≤ q37) (rf2 : 1 ≤ q7 ∨ 0 ≤ w39 → q7 ≤ q41 ∧ m17 + m18 + 10000 * m19 + 1000 * q7 ≤ w39 ∨ q41 + 1 ≤ q7 ∧ w39 + 1 ≤ m17 + m18 + 10000 * m19 + 1000 * q7) (k31 : (q37 : Int) ≤ 100 * x11 + 1) (w116s : 1000 * u115 = w116) (u24s : max ((-1) * q7 + 100 * x11 + (-1) * x27 + 1) 0 = u24) (w35s : 1000 * u34 = w35) (rf21_0 : 0 ≤ (-1) * m101 + m17) (rf22_0 : 0 ≤ (-1) * m102 + m18) (w39s : 1000 * u33 = w39) (u115s : max (u10 + u113 + x29) 0 = u115) (u34s : max (u10 + x29) 0 = u34) (u33s : max ((-1) * u9 + x29) 0 = u33) (k29 : ¬ ((u122 : Int) ≤ (-1) * u10 + (-1) * x29 + z32 + (-1))) (u113s : max (u9 + (-1) * x29 + z104) 0 = u113) (z104s : w103 ≤ 1000 * z104 ∧ 1000 * z104 ≤ w103 + 999) (z32s : w31 ≤ 1000 * z32 ∧ 1000 * z32 ≤ w31 + 999) (u122s : max (u9 + (-1) * x29 + z21) 0 = u122) (k28 : ¬ ((z21 : Int) ≤ 0)) (w103s : m101 + m102 + 10000 * m19 + 1000 * q7 = w103) (z21s : w20 ≤ 1000 * z21 ∧ 1000 * z21 ≤ w20 + 999) (w31s : (-1) * m25 + (-1) * m26 + (-10000) * m27 + 100 * m28 + 100 * m29 + 1000000 * m30 + (-1000) * u24 + 2 * w22 + 2 * w23 + 20000 * x0 + 100000 * x11 + 2000 = w31) (w20s : m17 + m18 + 10000 * m19 + 1000 * q7 = w20) : ¬ ((q117 : Int) ≤ q7 + x27) := by omega
theorem br_d54 {q117 q7 x27 q41 x11 q120 u24 w116 m25 m26 m27 m28 m29 m30 w22 w23 x0 w39 m17 m18 m19 w119 u115 u33 u114 u10 u113 x29 u9 u122 z32 w31 z21 w20 : Int}  (k32 : ¬ ((q7 : Int) ≤ q41)) (k36 : (q117 : Int) ≤ 100 * x11 + 1) (k37 : (q7 : Int) ≤ q120) (rf11 : 1 ≤ (-1) * u24 + 100 * x11 + 2 ∨ 0 ≤ w116 → (-1) * u24 + 100 * x11 + 2 ≤ q117 ∧ (-1) * m25 + (-1) * m26 + (-10000) * m27 + 100 * m28 + 100 * m29 + 1000000 * m30 + (-1000) * u24 + 2 * w22 + 2 * w23 + 20000 * x0 + 100000 * x11 + 2000 ≤ w116 ∨ q117 + 1 ≤ (-1) * u24 + 100 * x11 + 2 ∧ w116 + 1 ≤ (-1) * m25 + (-1) * m26 + (-10000) * m27 + 100 * m28 + 100 * m29 + 1000000 * m30 + (-1000) * u24 + 2 * w22 + 2 * w23 + 20000 * x0 + 100000 * x11 + 2000) (rf2 : 1 ≤ q7 ∨ 0 ≤ w39 → q7 ≤ q41 ∧ m17 + m18 + 10000 * m19 + 1000 * q7 ≤ w39 ∨ q41 + 1 ≤ q7 ∧ w39 + 1 ≤ m17 + m18 + 10000 * m19 + 1000 * q7) (rf12 : 1 ≤ q7 ∨ 0 ≤ w119 → q7 ≤ q120 ∧ m17 + m18 + 10000 * m19 + 1000 * q7 ≤ w119 ∨ q120 + 1 ≤ q7 ∧ w119 + 1 ≤ m17 + m18 + 10000 * m19 + 1000 * q7) (w116s : 1000 * u115 = w116) (u24s : max ((-1) * q7 + 100 * x11 + (-1) * x27 + 1) 0 = u24) (w39s : 1000 * u33 = w39) (w119s : 1000 * u114 = w119) (u115s : max (u10 + u113 + x29) 0 = u115) (u33s : max ((-1) * u9 + x29) 0 = u33) (u114s : max (u113 + (-1) * u9 + x29) 0 = u114) (k29 : ¬ ((u122 : Int) ≤ (-1) * u10 + (-1) * x29 + z32 + (-1))) (z32s : w31 ≤ 1000 * z32 ∧ 1000 * z32 ≤ w31 + 999) (u122s : max (u9 + (-1) * x29 + z21) 0 = u122) (z21s : w20 ≤ 1000 * z21 ∧ 1000 * z21 ≤ w20 + 999) (w31s : (-1) * m25 + (-1) * m26 + (-10000) * m27 + 100 * m28 + 100 * m29 + 1000000 * m30 + (-1000) * u24 + 2 * w22 + 2 * w23 + 20000 * x0 + 100000 * x11 + 2000 = w31) (w20s : m17 + m18 + 10000 * m19 + 1000 * q7 = w20) : ¬ ((q117 : Int) ≤ q7 + x27) := by omega
theorem br_d55 {q117 q7 x27 q41 x11 q120 u24 w116 m25 m26 m27 m28 m29 m30 w22 w23 x0 w119 m17 m18 m19 u115 u114 u10 u113 x29 w70 m101 w72 m102 u9 u122 z32 z104 w103 w31 z21 w20 : Int} (b_q41 : 0 ≤ q41 ∧ q41 ≤ 32767) (k32 : ¬ ((q7 : Int) ≤ q41)) (k37 : (q117 : Int) ≤ 100 * x11 + 1) (k38 : (q7 : Int) ≤ q120) (rf11 : 1 ≤ (-1) * u24 + 100 * x11 + 2 ∨ 0 ≤ w116 → (-1) * u24 + 100 * x11 + 2 ≤ q117 ∧ (-1) * m25 + (-1) * m26 + (-10000) * m27 + 100 * m28 + 100 * m29 + 1000000 * m30 + (-1000) * u24 + 2 * w22 + 2 * w23 + 20000 * x0 + 100000 * x11 + 2000 ≤ w116 ∨ q117 + 1 ≤ (-1) * u24 + 100 * x11 + 2 ∧ w116 + 1 ≤ (-1) * m25 + (-1) * m26 + (-10000) * m27 + 100 * m28 + 100 * m29 + 1000000 * m30 + (-1000) * u24 + 2 * w22 + 2 * w23 + 20000 * x0 + 100000 * x11 + 2000) (rf12 : 1 ≤ q7 ∨ 0 ≤ w119 → q7 ≤ q120 ∧ m17 + m18 + 10000 * m19 + 1000 * q7 ≤ w119 ∨ q120 + 1 ≤ q7 ∧ w119 + 1 ≤ m17 + m18 + 10000 * m19 + 1000 * q7) (w116s : 1000 * u115 = w116) (u24s : max ((-1) * q7 + 100 * x11 + (-1) * x27 + 1) 0 = u24) (m19f1 : (0) * x0 + (0) * q7 - (0) ≤ m19) (w119s : 1000 * u114 = w119) (u115s : max (u10 + u113 + x29) 0 = u115) (m101f1 : (0) * w70 + (0) * q7 - (0) ≤ m101) (m102f1 : (0) * w72 + (0) * q7 - (0) ≤ m102) (u114s : max (u113 + (-1) * u9 + x29) 0 = u114) (k29 : ¬ ((u122 : Int) ≤ (-1) * u10 + (-1) * x29 + z32 + (-1))) (u113s : max (u9 + (-1) * x29 + z104) 0 = u113) (z104s : w103 ≤ 1000 * z104 ∧ 1000 * z104 ≤ w103 + 999) (z32s : w31 ≤ 1000 * z32 ∧ 1000 * z32 ≤ w31 + 999) (u122s : max (u9 + (-1) * x29 + z21) 0 = u122) (w103s : m101 + m102 + 10000 * m19 + 1000 * q7 = w103) (z21s : w20 ≤ 1000 * z21 ∧ 1000 * z21 ≤ w20 + 999) (w31s : (-1) * m25 + (-1) * m26 + (-10000) * m27 + 100 * m28 + 100 * m29 + 1000000 * m30 + (-1000) * u24 + 2 * w22 + 2 * w23 + 20000 * x0 + 100000 * x11 + 2000 = w31) (w20s : m17 + m18 + 10000 * m19 + 1000 * q7 = w20) : ¬ ((q117 : Int) ≤ q7 + x27) := by omega
theorem br_d56 {q108 q7 x27 q41 x11 q111 u24 w107 m25 m26 m27 m28 m29 m30 w22 w23 x0 w39 m17 m18 m19 w110 u106 u33 u105 u10 x29 z104 u9 u122 z32 w31 z21 w20 : Int}  (k32 : ¬ ((q7 : Int) ≤ q41)) (k34 : (q108 : Int) ≤ 100 * x11 + 1) (k35 : (q7 : Int) ≤ q111) (rf9 : 1 ≤ (-1) * u24 + 100 * x11 + 2 ∨ 0 ≤ w107 → (-1) * u24 + 100 * x11 + 2 ≤ q108 ∧ (-1) * m25 + (-1) * m26 + (-10000) * m27 + 100 * m28 + 100 * m29 + 1000000 * m30 + (-1000) * u24 + 2 * w22 + 2 * w23 + 20000 * x0 + 100000 * x11 + 2000 ≤ w107 ∨ q108 + 1 ≤ (-1) * u24 + 100 * x11 + 2 ∧ w107 + 1 ≤ (-1) * m25 + (-1) * m26 + (-10000) * m27 + 100 * m28 + 100 * m29 + 1000000 * m30 + (-1000) * u24 + 2 * w22 + 2 * w23 + 20000 * x0 + 100000 * x11 + 2000) (rf2 : 1 ≤ q7 ∨ 0 ≤ w39 → q7 ≤ q41 ∧ m17 + m18 + 10000 * m19 + 1000 * q7 ≤ w39 ∨ q41 + 1 ≤ q7 ∧ w39 + 1 ≤ m17 + m18 + 10000 * m19 + 1000 * q7) (rf10 : 1 ≤ q7 ∨ 0 ≤ w110 → q7 ≤ q111 ∧ m17 + m18 + 10000 * m19 + 1000 * q7 ≤ w110 ∨ q111 + 1 ≤ q7 ∧ w110 + 1 ≤ m17 + m18 + 10000 * m19 + 1000 * q7) (w107s : 1000 * u106 = w107) (u24s : max ((-1) * q7 + 100 * x11 + (-1) * x27 + 1) 0 = u24) (w39s : 1000 * u33 = w39) (w110s : 1000 * u105 = w110) (u106s : max (u10 + x29 + z104) 0 = u106) (u33s : max ((-1) * u9 + x29) 0 = u33) (u105s : max ((-1) * u9 + x29 + z104) 0 = u105) (k29 : ¬ ((u122 : Int) ≤ (-1) * u10 + (-1) * x29 + z32 + (-1))) (z32s : w31 ≤ 1000 * z32 ∧ 1000 * z32 ≤ w31 + 999) (u122s : max (u9 + (-1) * x29 + z21) 0 = u122) (z21s : w20 ≤ 1000 * z21 ∧ 1000 * z21 ≤ w20 + 999) (w31s : (-1) * m25 + (-1) * m26 + (-10000) * m27 + 100 * m28 + 100 * m29 + 1000000 * m30 + (-1000) * u24 + 2 * w22 + 2 * w23 + 20000 * x0 + 100000 * x11 + 2000 = w31) (w20s : m17 + m18 + 10000 * m19 + 1000 * q7 = w20) : ¬ ((q108 : Int) ≤ q7 + x27) := by omega
theorem br_d57 {q117 x11 q41 q108 w116 w107 w36 u115 u106 q7 q111 u10 u113 x29 w110 m17 m18 m19 z104 u9 m101 m102 x0 u105 w103 w70 w72 : Int} (b_q41 : 0 ≤ q41 ∧ q41 ≤ 32767) (k34 : (q108 : Int) ≤ 100 * x11 + 1) (rf25 : w116 ≤ w107 → w36 ≤ w36 → 0 ≤ w107 → q117 ≤ q108) (w116s : 1000 * u115 = w116) (w107s : 1000 * u106 = w107) (k32 : ¬ ((q7 : Int) ≤ q41)) (k35 : (q7 : Int) ≤ q111) (u115s : max (u10 + u113 + x29) 0 = u115) (rf10 : 1 ≤ q7 ∨ 0 ≤ w110 → q7 ≤ q111 ∧ m17 + m18 + 10000 * m19 + 1000 * q7 ≤ w110 ∨ q111 + 1 ≤ q7 ∧ w110 + 1 ≤ m17 + m18 + 10000 * m19 + 1000 * q7) (u106s : max (u10 + x29 + z104) 0 = u106) (u113s : max (u9 + (-1) * x29 + z104) 0 = u113) (rf21_0 : 0 ≤ (-1) * m101 + m17) (rf22_0 : 0 ≤ (-1) * m102 + m18) (m19f1 : (0) * x0 + (0) * q7 - (0) ≤ m19) (w110s : 1000 * u105 = w110) (z104s : w103 ≤ 1000 * z104 ∧ 1000 * z104 ≤ w103 + 999) (m101f1 : (0) * w70 + (0) * q7 - (0) ≤ m101) (m102f1 : (0) * w72 + (0) * q7 - (0) ≤ m102) (u105s : max ((-1) * u9 + x29 + z104) 0 = u105) (w103s : m101 + m102 + 10000 * m19 + 1000 * q7 = w103) : (q117 : Int) ≤ 100 * x11 + 1 := by omega
theorem br_d58 {q117 q7 x27 q41 u113 q111 q120 u24 x11 w116 m25 m26 m27 m28 m29 m30 w22 w23 x0 w110 m17 m18 m19 w119 q108 u115 w107 u106 m101 m102 u105 u114 u10 x29 z104 w70 w72 u9 u122 z32 w103 w31 z21 w20 : Int} (b_q41 : 0 ≤ q41 ∧ q41 ≤ 32767) (b_u113 : 0 ≤ u113 ∧ u113 ≤ 107480677) (k32 : ¬ ((q7 : Int) ≤ q41)) (k35 : (q7 : Int) ≤ q111) (k39 : (q7 : Int) ≤ q120) (rf11 : 1 ≤ (-1) * u24 + 100 * x11 + 2 ∨ 0 ≤ w116 → (-1) * u24 + 100 * x11 + 2 ≤ q117 ∧ (-1) * m25 + (-1) * m26 + (-10000) * m27 + 100 * m28 + 100 * m29 + 1000000 * m30 + (-1000) * u24 + 2 * w22 + 2 * w23 + 20000 * x0 + 100000 * x11 + 2000 ≤ w116 ∨ q117 + 1 ≤ (-1) * u24 + 100 * x11 + 2 ∧ w116 + 1 ≤ (-1) * m25 + (-1) * m26 + (-10000) * m27 + 100 * m28 + 100 * m29 + 1000000 * m30 + (-1000) * u24 + 2 * w22 + 2 * w23 + 20000 * x0 + 100000 * x11 + 2000) (rf10 : 1 ≤ q7 ∨ 0 ≤ w110 → q7 ≤ q111 ∧ m17 + m18 + 10000 * m19 + 1000 * q7 ≤ w110 ∨ q111 + 1 ≤ q7 ∧ w110 + 1 ≤ m17 + m18 + 10000 * m19 + 1000 * q7) (rf12 : 1 ≤ q7 ∨ 0 ≤ w119 → q7 ≤ q120 ∧ m17 + m18 + 10000 * m19 + 1000 * q7 ≤ w119 ∨ q120 + 1 ≤ q7 ∧ w119 + 1 ≤ m17 + m18 + 10000 * m19 + 1000 * q7) (k34 : (q108 : Int) ≤ 100 * x11 + 1) (w116s : 1000 * u115 = w116) (rf9 : 1 ≤ (-1) * u24 + 100 * x11 + 2 ∨ 0 ≤ w107 → (-1) * u24 + 100 * x11 + 2 ≤ q108 ∧ (-1) * m25 + (-1) * m26 + (-10000) * m27 + 100 * m28 + 100 * m29 + 1000000 * m30 + (-1000) * u24 + 2 * w22 + 2 * w23 + 20000 * x0 + 100000 * x11 + 2000 ≤ w107 ∨ q108 + 1 ≤ (-1) * u24 + 100 * x11 + 2 ∧ w107 + 1 ≤ (-1) * m25 + (-1) * m26 + (-10000) * m27 + 100 * m28 + 100 * m29 + 1000000 * m30 + (-1000) * u24 + 2 * w22 + 2 * w23 + 20000 * x0 + 100000 * x11 + 2000) (u24s : max ((-1) * q7 + 100 * x11 + (-1) * x27 + 1) 0 = u24) (w107s : 1000 * u106 = w107) (rf21_0 : 0 ≤ (-1) * m101 + m17) (rf22_0 : 0 ≤ (-1) * m102 + m18) (m19f1 : (0) * x0 + (0) * q7 - (0) ≤ m19) (w110s : 1000 * u105 = w110) (w119s : 1000 * u114 = w119) (u115s : max (u10 + u113 + x29) 0 = u115) (u106s : max (u10 + x29 + z104) 0 = u106) (m101f1 : (0) * w70 + (0) * q7 - (0) ≤ m101) (m102f1 : (0) * w72 + (0) * q7 - (0) ≤ m102) (u105s : max ((-1) * u9 + x29 + z104) 0 = u105) (u114s : max (u113 + (-1) * u9 + x29) 0 = u114) (k29 : ¬ ((u122 : Int) ≤ (-1) * u10 + (-1) * x29 + z32 + (-1))) (z104s : w103 ≤ 1000 * z104 ∧ 1000 * z104 ≤ w103 + 999) (z32s : w31 ≤ 1000 * z32 ∧ 1000 * z32 ≤ w31 + 999) (u122s : max (u9 + (-1) * x29 + z21) 0 = u122) (w103s : m101 + m102 + 10000 * m19 + 1000 * q7 = w103) (z21s : w20 ≤ 1000 * z21 ∧ 1000 * z21 ≤ w20 + 999) (w31s : (-1) * m25 + (-1) * m26 + (-10000) * m27 + 100 * m28 + 100 * m29 + 1000000 * m30 + (-1000) * u24 + 2 * w22 + 2 * w23 + 20000 * x0 + 100000 * x11 + 2000 = w31) (w20s : m17 + m18 + 10000 * m19 + 1000 * q7 = w20) : ¬ ((q117 : Int) ≤ q7 + x27) := by omega
end Go.Proofs.Ytknphpihipkdpaa.Cx
