/- TopBoltZone: the tests of the law and their arithmetic. Made by tools/cxroot.py. -/
import Derived.Test.YtknphpihipkdpaaBZoneT
import Derived.Test.YtknphpihipkdpaaCxDiv
set_option linter.unusedSimpArgs false
set_option linter.unusedVariables false
set_option maxRecDepth 100000
set_option maxHeartbeats 4000000
namespace Go.Proofs.Ytknphpihipkdpaa.Cx
open Go Go.RowKit

theorem bz_aq1 {x4 : Int} (b_x4 : 0 ≤ x4 ∧ x4 ≤ 255) : ∃ q r : Int, Hd ((x4) / 60 = q) ∧ Hd ((x4) % 60 = r) ∧ (x4 = 60 * q + r) ∧ (0 ≤ q ∧ q ≤ 4) ∧ (0 ≤ r ∧ r ≤ 59) := ⟨_, _, ⟨rfl⟩, ⟨rfl⟩, by omega, by omega, by omega⟩
theorem bz_aq3 {x6 : Int} (b_x6 : 0 ≤ x6 ∧ x6 ≤ 255) : ∃ q r : Int, Hd ((x6) / 60 = q) ∧ Hd ((x6) % 60 = r) ∧ (x6 = 60 * q + r) ∧ (0 ≤ q ∧ q ≤ 4) ∧ (0 ≤ r ∧ r ≤ 59) := ⟨_, _, ⟨rfl⟩, ⟨rfl⟩, by omega, by omega, by omega⟩
theorem bz_aq5 {x8 : Int} (b_x8 : 0 ≤ x8 ∧ x8 ≤ 255) : ∃ q r : Int, Hd ((x8) / 20 = q) ∧ Hd ((x8) % 20 = r) ∧ (x8 = 20 * q + r) ∧ (0 ≤ q ∧ q ≤ 12) ∧ (0 ≤ r ∧ r ≤ 19) := ⟨_, _, ⟨rfl⟩, ⟨rfl⟩, by omega, by omega, by omega⟩
theorem bz_aq7 {x9 : Int} (b_x9 : 0 ≤ x9 ∧ x9 ≤ 65535) : ∃ q r : Int, Hd ((x9) / 8 = q) ∧ Hd ((x9) % 8 = r) ∧ (x9 = 8 * q + r) ∧ (0 ≤ q ∧ q ≤ 8191) ∧ (0 ≤ r ∧ r ≤ 7) := ⟨_, _, ⟨rfl⟩, ⟨rfl⟩, by omega, by omega, by omega⟩
theorem bz_aq9 {x10 : Int} (b_x10 : 0 ≤ x10 ∧ x10 ≤ 65535) : ∃ q r : Int, Hd ((x10) / 4 = q) ∧ Hd ((x10) % 4 = r) ∧ (x10 = 4 * q + r) ∧ (0 ≤ q ∧ q ≤ 16383) ∧ (0 ≤ r ∧ r ≤ 3) := ⟨_, _, ⟨rfl⟩, ⟨rfl⟩, by omega, by omega, by omega⟩
theorem bz_am11 {r2 x1 : Int} (b_r2 : 0 ≤ r2 ∧ r2 ≤ 59) (b_x1 : 0 ≤ x1 ∧ x1 ≤ 255) : ∃ m : Int, Hd (r2 * x1 = m) ∧ ((0) * x1 + (0) * r2 - (0) ≤ m) ∧ ((59) * x1 + (255) * r2 - (15045) ≤ m) ∧ (m ≤ (59) * x1 + (0) * r2 - (0)) ∧ (m ≤ (0) * x1 + (255) * r2 - (0)) ∧ (0 ≤ m ∧ m ≤ 15045) := by
  obtain ⟨h1, h2, h3, h4⟩ := mcc (x := r2) (y := x1) b_r2.1 b_r2.2 b_x1.1 b_x1.2
  refine ⟨_, ⟨rfl⟩, ?_, ?_, ?_, ?_, ?_, ?_⟩ <;> omega
theorem bz_am12 {x1 x3 : Int} (b_x1 : 0 ≤ x1 ∧ x1 ≤ 255) (b_x3 : 0 ≤ x3 ∧ x3 ≤ 255) : ∃ m : Int, Hd (x1 * x3 = m) ∧ ((0) * x3 + (0) * x1 - (0) ≤ m) ∧ ((255) * x3 + (255) * x1 - (65025) ≤ m) ∧ (m ≤ (255) * x3 + (0) * x1 - (0)) ∧ (m ≤ (0) * x3 + (255) * x1 - (0)) ∧ (0 ≤ m ∧ m ≤ 65025) := by
  obtain ⟨h1, h2, h3, h4⟩ := mcc (x := x1) (y := x3) b_x1.1 b_x1.2 b_x3.1 b_x3.2
  refine ⟨_, ⟨rfl⟩, ?_, ?_, ?_, ?_, ?_, ?_⟩ <;> omega
theorem bz_aw13 {m11 m12 : Int} (b_m11 : 0 ≤ m11 ∧ m11 ≤ 15045) (b_m12 : 0 ≤ m12 ∧ m12 ≤ 65025) : ∃ w : Int, (20 * m11 + 20 * m12 = w) ∧ (0 ≤ w ∧ w ≤ 1601400) := ⟨_, rfl, by omega, by omega⟩
theorem bz_am14 {r4 x2 : Int} (b_r4 : 0 ≤ r4 ∧ r4 ≤ 59) (b_x2 : 0 ≤ x2 ∧ x2 ≤ 255) : ∃ m : Int, Hd (r4 * x2 = m) ∧ ((0) * x2 + (0) * r4 - (0) ≤ m) ∧ ((59) * x2 + (255) * r4 - (15045) ≤ m) ∧ (m ≤ (59) * x2 + (0) * r4 - (0)) ∧ (m ≤ (0) * x2 + (255) * r4 - (0)) ∧ (0 ≤ m ∧ m ≤ 15045) := by
  obtain ⟨h1, h2, h3, h4⟩ := mcc (x := r4) (y := x2) b_r4.1 b_r4.2 b_x2.1 b_x2.2
  refine ⟨_, ⟨rfl⟩, ?_, ?_, ?_, ?_, ?_, ?_⟩ <;> omega
theorem bz_am15 {x2 x5 : Int} (b_x2 : 0 ≤ x2 ∧ x2 ≤ 255) (b_x5 : 0 ≤ x5 ∧ x5 ≤ 255) : ∃ m : Int, Hd (x2 * x5 = m) ∧ ((0) * x5 + (0) * x2 - (0) ≤ m) ∧ ((255) * x5 + (255) * x2 - (65025) ≤ m) ∧ (m ≤ (255) * x5 + (0) * x2 - (0)) ∧ (m ≤ (0) * x5 + (255) * x2 - (0)) ∧ (0 ≤ m ∧ m ≤ 65025) := by
  obtain ⟨h1, h2, h3, h4⟩ := mcc (x := x2) (y := x5) b_x2.1 b_x2.2 b_x5.1 b_x5.2
  refine ⟨_, ⟨rfl⟩, ?_, ?_, ?_, ?_, ?_, ?_⟩ <;> omega
theorem bz_aw16 {m14 m15 : Int} (b_m14 : 0 ≤ m14 ∧ m14 ≤ 15045) (b_m15 : 0 ≤ m15 ∧ m15 ≤ 65025) : ∃ w : Int, (30 * m14 + 30 * m15 = w) ∧ (0 ≤ w ∧ w ≤ 2402100) := ⟨_, rfl, by omega, by omega⟩
theorem bz_am17 {q7 w13 : Int} (b_q7 : 0 ≤ q7 ∧ q7 ≤ 8191) (b_w13 : 0 ≤ w13 ∧ w13 ≤ 1601400) : ∃ m : Int, Hd (q7 * w13 = m) ∧ ((0) * w13 + (0) * q7 - (0) ≤ m) ∧ ((8191) * w13 + (1601400) * q7 - (13117067400) ≤ m) ∧ (m ≤ (8191) * w13 + (0) * q7 - (0)) ∧ (m ≤ (0) * w13 + (1601400) * q7 - (0)) ∧ (0 ≤ m ∧ m ≤ 13117067400) := by
  obtain ⟨h1, h2, h3, h4⟩ := mcc (x := q7) (y := w13) b_q7.1 b_q7.2 b_w13.1 b_w13.2
  refine ⟨_, ⟨rfl⟩, ?_, ?_, ?_, ?_, ?_, ?_⟩ <;> omega
theorem bz_am18 {q7 w16 : Int} (b_q7 : 0 ≤ q7 ∧ q7 ≤ 8191) (b_w16 : 0 ≤ w16 ∧ w16 ≤ 2402100) : ∃ m : Int, Hd (q7 * w16 = m) ∧ ((0) * w16 + (0) * q7 - (0) ≤ m) ∧ ((8191) * w16 + (2402100) * q7 - (19675601100) ≤ m) ∧ (m ≤ (8191) * w16 + (0) * q7 - (0)) ∧ (m ≤ (0) * w16 + (2402100) * q7 - (0)) ∧ (0 ≤ m ∧ m ≤ 19675601100) := by
  obtain ⟨h1, h2, h3, h4⟩ := mcc (x := q7) (y := w16) b_q7.1 b_q7.2 b_w16.1 b_w16.2
  refine ⟨_, ⟨rfl⟩, ?_, ?_, ?_, ?_, ?_, ?_⟩ <;> omega
theorem bz_aw19 {m17 m18 q7 : Int} (b_m17 : 0 ≤ m17 ∧ m17 ≤ 13117067400) (b_m18 : 0 ≤ m18 ∧ m18 ≤ 19675601100) (b_q7 : 0 ≤ q7 ∧ q7 ≤ 8191) : ∃ w : Int, (m17 + m18 + 300000 * q7 = w) ∧ (0 ≤ w ∧ w ≤ 35249968500) := ⟨_, rfl, by omega, by omega⟩
theorem bz_az20 {w19 : Int} (b_w19 : 0 ≤ w19 ∧ w19 ≤ 35249968500) : ∃ z : Int, (w19 ≤ 1000 * z ∧ 1000 * z ≤ w19 + 999) ∧ (0 ≤ z ∧ z ≤ 35249969) := by
  obtain ⟨z, h1, h2⟩ := ru_ex (w19) 1000 (by omega)
  exact ⟨z, ⟨by omega, by omega⟩, by omega, by omega⟩
theorem bz_aw21 {m12 : Int} (b_m12 : 0 ≤ m12 ∧ m12 ≤ 65025) : ∃ w : Int, (20 * m12 = w) ∧ (0 ≤ w ∧ w ≤ 1300500) := ⟨_, rfl, by omega, by omega⟩
theorem bz_aw22 {m15 : Int} (b_m15 : 0 ≤ m15 ∧ m15 ≤ 65025) : ∃ w : Int, (30 * m15 = w) ∧ (0 ≤ w ∧ w ≤ 1950750) := ⟨_, rfl, by omega, by omega⟩
theorem bz_au23 {q7 q9 : Int} (b_q7 : 0 ≤ q7 ∧ q7 ≤ 8191) (b_q9 : 0 ≤ q9 ∧ q9 ≤ 16383) : ∃ m : Int, (max ((-1) * q7 + (-1) * q9 + 20000) 0 = m) ∧ (0 ≤ m ∧ m ≤ 20000) := ⟨_, rfl, by omega, by omega⟩
theorem bz_am24 {u23 w21 : Int} (b_u23 : 0 ≤ u23 ∧ u23 ≤ 20000) (b_w21 : 0 ≤ w21 ∧ w21 ≤ 1300500) : ∃ m : Int, Hd (u23 * w21 = m) ∧ ((0) * w21 + (0) * u23 - (0) ≤ m) ∧ ((20000) * w21 + (1300500) * u23 - (26010000000) ≤ m) ∧ (m ≤ (20000) * w21 + (0) * u23 - (0)) ∧ (m ≤ (0) * w21 + (1300500) * u23 - (0)) ∧ (0 ≤ m ∧ m ≤ 26010000000) := by
  obtain ⟨h1, h2, h3, h4⟩ := mcc (x := u23) (y := w21) b_u23.1 b_u23.2 b_w21.1 b_w21.2
  refine ⟨_, ⟨rfl⟩, ?_, ?_, ?_, ?_, ?_, ?_⟩ <;> omega
theorem bz_am25 {u23 w22 : Int} (b_u23 : 0 ≤ u23 ∧ u23 ≤ 20000) (b_w22 : 0 ≤ w22 ∧ w22 ≤ 1950750) : ∃ m : Int, Hd (u23 * w22 = m) ∧ ((0) * w22 + (0) * u23 - (0) ≤ m) ∧ ((20000) * w22 + (1950750) * u23 - (39015000000) ≤ m) ∧ (m ≤ (20000) * w22 + (0) * u23 - (0)) ∧ (m ≤ (0) * w22 + (1950750) * u23 - (0)) ∧ (0 ≤ m ∧ m ≤ 39015000000) := by
  obtain ⟨h1, h2, h3, h4⟩ := mcc (x := u23) (y := w22) b_u23.1 b_u23.2 b_w22.1 b_w22.2
  refine ⟨_, ⟨rfl⟩, ?_, ?_, ?_, ?_, ?_, ?_⟩ <;> omega
theorem bz_aw26 {m24 m25 u23 w21 w22 : Int} (b_m24 : 0 ≤ m24 ∧ m24 ≤ 26010000000) (b_m25 : 0 ≤ m25 ∧ m25 ≤ 39015000000) (b_u23 : 0 ≤ u23 ∧ u23 ≤ 20000) (b_w21 : 0 ≤ w21 ∧ w21 ≤ 1300500) (b_w22 : 0 ≤ w22 ∧ w22 ≤ 1950750) : ∃ w : Int, ((-1) * m24 + (-1) * m25 + (-300000) * u23 + 20001 * w21 + 20001 * w22 + 6000300000 = w) ∧ (-65024700000 ≤ w ∧ w ≤ 71028551250) := ⟨_, rfl, by omega, by omega⟩
theorem bz_az27 {w26 : Int} (b_w26 : -65024700000 ≤ w26 ∧ w26 ≤ 71028551250) : ∃ z : Int, (w26 ≤ 1000 * z ∧ 1000 * z ≤ w26 + 999) ∧ (-65024700 ≤ z ∧ z ≤ 71028552) := by
  obtain ⟨z, h1, h2⟩ := ru_ex (w26) 1000 (by omega)
  exact ⟨z, ⟨by omega, by omega⟩, by omega, by omega⟩
theorem bz_aq28 {x11 : Int} (b_x11 : 0 ≤ x11 ∧ x11 ≤ 255) : ∃ q r : Int, Hd ((x11) / 9 = q) ∧ Hd ((x11) % 9 = r) ∧ (x11 = 9 * q + r) ∧ (0 ≤ q ∧ q ≤ 28) ∧ (0 ≤ r ∧ r ≤ 8) := ⟨_, _, ⟨rfl⟩, ⟨rfl⟩, by omega, by omega, by omega⟩
theorem bz_aq30 {x12 : Int} (b_x12 : 0 ≤ x12 ∧ x12 ≤ 255) : ∃ q r : Int, Hd ((x12) / 5 = q) ∧ Hd ((x12) % 5 = r) ∧ (x12 = 5 * q + r) ∧ (0 ≤ q ∧ q ≤ 51) ∧ (0 ≤ r ∧ r ≤ 4) := ⟨_, _, ⟨rfl⟩, ⟨rfl⟩, by omega, by omega, by omega⟩
theorem bz_az32 {r29 : Int} (b_r29 : 0 ≤ r29 ∧ r29 ≤ 8) : ∃ z : Int, ((-1) * r29 ≤ 2 * z ∧ 2 * z ≤ (-1) * r29 + 1) ∧ (-4 ≤ z ∧ z ≤ 0) := by
  obtain ⟨z, h1, h2⟩ := ru_ex ((-1) * r29) 2 (by omega)
  exact ⟨z, ⟨by omega, by omega⟩, by omega, by omega⟩
theorem bz_az33 {r29 r31 : Int} (b_r29 : 0 ≤ r29 ∧ r29 ≤ 8) (b_r31 : 0 ≤ r31 ∧ r31 ≤ 4) : ∃ z : Int, ((-1) * r29 + (-1) * r31 ≤ 2 * z ∧ 2 * z ≤ (-1) * r29 + (-1) * r31 + 1) ∧ (-6 ≤ z ∧ z ≤ 0) := by
  obtain ⟨z, h1, h2⟩ := ru_ex ((-1) * r29 + (-1) * r31) 2 (by omega)
  exact ⟨z, ⟨by omega, by omega⟩, by omega, by omega⟩
theorem bz_aq34 {r2 : Int} (b_r2 : 0 ≤ r2 ∧ r2 ≤ 59) : ∃ q r : Int, Hd ((r2) / 2 = q) ∧ Hd ((r2) % 2 = r) ∧ (r2 = 2 * q + r) ∧ (0 ≤ q ∧ q ≤ 29) ∧ (0 ≤ r ∧ r ≤ 1) := ⟨_, _, ⟨rfl⟩, ⟨rfl⟩, by omega, by omega, by omega⟩
theorem bz_am36 {q34 x1 : Int} (b_q34 : 0 ≤ q34 ∧ q34 ≤ 29) (b_x1 : 0 ≤ x1 ∧ x1 ≤ 255) : ∃ m : Int, Hd (q34 * x1 = m) ∧ ((0) * x1 + (0) * q34 - (0) ≤ m) ∧ ((29) * x1 + (255) * q34 - (7395) ≤ m) ∧ (m ≤ (29) * x1 + (0) * q34 - (0)) ∧ (m ≤ (0) * x1 + (255) * q34 - (0)) ∧ (0 ≤ m ∧ m ≤ 7395) := by
  obtain ⟨h1, h2, h3, h4⟩ := mcc (x := q34) (y := x1) b_q34.1 b_q34.2 b_x1.1 b_x1.2
  refine ⟨_, ⟨rfl⟩, ?_, ?_, ?_, ?_, ?_, ?_⟩ <;> omega
theorem bz_aw37 {m12 m36 : Int} (b_m12 : 0 ≤ m12 ∧ m12 ≤ 65025) (b_m36 : 0 ≤ m36 ∧ m36 ≤ 7395) : ∃ w : Int, (20 * m12 + 20 * m36 = w) ∧ (0 ≤ w ∧ w ≤ 1448400) := ⟨_, rfl, by omega, by omega⟩
theorem bz_aw38  : ∃ w : Int, (0 = w) ∧ (0 ≤ w ∧ w ≤ 0) := ⟨_, rfl, by omega, by omega⟩
theorem bz_aw39 {w16 w37 : Int} (b_w16 : 0 ≤ w16 ∧ w16 ≤ 2402100) (b_w37 : 0 ≤ w37 ∧ w37 ≤ 1448400) : ∃ w : Int, (w16 + w37 + 300000 = w) ∧ (300000 ≤ w ∧ w ≤ 4150500) := ⟨_, rfl, by omega, by omega⟩
theorem bz_aq40 {w38 w39 : Int} (b_w38 : 0 ≤ w38 ∧ w38 ≤ 0) (b_w39 : 300000 ≤ w39 ∧ w39 ≤ 4150500) : ∃ q : Int, Hd (w38.tdiv w39 = q) ∧ QD w38 w39 q ∧ (0 ≤ q ∧ q ≤ 0) := by
  obtain ⟨q, h1, h2⟩ := qD_ex w38 w39 (by omega)
  obtain ⟨h3, h4⟩ := qD_rng (lo := 0) (hi := 0) (dl := 300000) h2 (by omega) (by omega) (by omega) (by omega) (by omega) (by omega)
  have h5 := (h2.1 (by omega)).1
  exact ⟨q, h1, h2, by omega, by omega⟩
theorem bz_am41 {q40 w39 : Int} (b_q40 : 0 ≤ q40 ∧ q40 ≤ 0) (b_w39 : 300000 ≤ w39 ∧ w39 ≤ 4150500) : ∃ m : Int, Hd (q40 * w39 = m) ∧ ((0) * w39 + (300000) * q40 - (0) ≤ m) ∧ ((0) * w39 + (4150500) * q40 - (0) ≤ m) ∧ (m ≤ (0) * w39 + (300000) * q40 - (0)) ∧ (m ≤ (0) * w39 + (4150500) * q40 - (0)) ∧ (0 ≤ m ∧ m ≤ 0) := by
  obtain ⟨h1, h2, h3, h4⟩ := mcc (x := q40) (y := w39) b_q40.1 b_q40.2 b_w39.1 b_w39.2
  refine ⟨_, ⟨rfl⟩, ?_, ?_, ?_, ?_, ?_, ?_⟩ <;> omega
theorem bz_aw42  : ∃ w : Int, (20000 = w) ∧ (20000 ≤ w ∧ w ≤ 20000) := ⟨_, rfl, by omega, by omega⟩
theorem bz_aw43 {w21 w22 : Int} (b_w21 : 0 ≤ w21 ∧ w21 ≤ 1300500) (b_w22 : 0 ≤ w22 ∧ w22 ≤ 1950750) : ∃ w : Int, (w21 + w22 + 300000 = w) ∧ (300000 ≤ w ∧ w ≤ 3551250) := ⟨_, rfl, by omega, by omega⟩
theorem bz_aq44 {w42 w43 : Int} (b_w42 : 20000 ≤ w42 ∧ w42 ≤ 20000) (b_w43 : 300000 ≤ w43 ∧ w43 ≤ 3551250) : ∃ q : Int, Hd (w42.tdiv w43 = q) ∧ QD w42 w43 q ∧ (0 ≤ q ∧ q ≤ 0) := by
  obtain ⟨q, h1, h2⟩ := qD_ex w42 w43 (by omega)
  obtain ⟨h3, h4⟩ := qD_rng (lo := 0) (hi := 20000) (dl := 300000) h2 (by omega) (by omega) (by omega) (by omega) (by omega) (by omega)
  have h5 := (h2.1 (by omega)).1
  exact ⟨q, h1, h2, by omega, by omega⟩
theorem bz_am45 {q44 w43 : Int} (b_q44 : 0 ≤ q44 ∧ q44 ≤ 0) (b_w43 : 300000 ≤ w43 ∧ w43 ≤ 3551250) : ∃ m : Int, Hd (q44 * w43 = m) ∧ ((0) * w43 + (300000) * q44 - (0) ≤ m) ∧ ((0) * w43 + (3551250) * q44 - (0) ≤ m) ∧ (m ≤ (0) * w43 + (300000) * q44 - (0)) ∧ (m ≤ (0) * w43 + (3551250) * q44 - (0)) ∧ (0 ≤ m ∧ m ≤ 0) := by
  obtain ⟨h1, h2, h3, h4⟩ := mcc (x := q44) (y := w43) b_q44.1 b_q44.2 b_w43.1 b_w43.2
  refine ⟨_, ⟨rfl⟩, ?_, ?_, ?_, ?_, ?_, ?_⟩ <;> omega
theorem bz_au46 {z27 : Int} (b_z27 : -65024700 ≤ z27 ∧ z27 ≤ 71028552) : ∃ m : Int, (max (z27 + (-41)) 0 = m) ∧ (0 ≤ m ∧ m ≤ 71028511) := ⟨_, rfl, by omega, by omega⟩
theorem bz_aw47 {u46 : Int} (b_u46 : 0 ≤ u46 ∧ u46 ≤ 71028511) : ∃ w : Int, (1000 * u46 = w) ∧ (0 ≤ w ∧ w ≤ 71028511000) := ⟨_, rfl, by omega, by omega⟩
theorem bz_aq48 {w47 w39 : Int} (b_w47 : 0 ≤ w47 ∧ w47 ≤ 71028511000) (b_w39 : 300000 ≤ w39 ∧ w39 ≤ 4150500) : ∃ q : Int, Hd (w47.tdiv w39 = q) ∧ QD w47 w39 q ∧ (0 ≤ q ∧ q ≤ 236761) := by
  obtain ⟨q, h1, h2⟩ := qD_ex w47 w39 (by omega)
  obtain ⟨h3, h4⟩ := qD_rng (lo := 0) (hi := 71028511000) (dl := 300000) h2 (by omega) (by omega) (by omega) (by omega) (by omega) (by omega)
  have h5 := (h2.1 (by omega)).1
  exact ⟨q, h1, h2, by omega, by omega⟩
theorem bz_am49 {q48 w39 : Int} (b_q48 : 0 ≤ q48 ∧ q48 ≤ 236761) (b_w39 : 300000 ≤ w39 ∧ w39 ≤ 4150500) : ∃ m : Int, Hd (q48 * w39 = m) ∧ ((0) * w39 + (300000) * q48 - (0) ≤ m) ∧ ((236761) * w39 + (4150500) * q48 - (982676530500) ≤ m) ∧ (m ≤ (236761) * w39 + (300000) * q48 - (71028300000)) ∧ (m ≤ (0) * w39 + (4150500) * q48 - (0)) ∧ (0 ≤ m ∧ m ≤ 982676530500) := by
  obtain ⟨h1, h2, h3, h4⟩ := mcc (x := q48) (y := w39) b_q48.1 b_q48.2 b_w39.1 b_w39.2
  refine ⟨_, ⟨rfl⟩, ?_, ?_, ?_, ?_, ?_, ?_⟩ <;> omega
theorem bz_aw50 {z27 : Int} (b_z27 : -65024700 ≤ z27 ∧ z27 ≤ 71028552) : ∃ w : Int, (1000 * z27 + (-1000) = w) ∧ (-65024701000 ≤ w ∧ w ≤ 71028551000) := ⟨_, rfl, by omega, by omega⟩
theorem bz_aq51 {w50 w43 : Int} (b_w50 : -65024701000 ≤ w50 ∧ w50 ≤ 71028551000) (b_w43 : 300000 ≤ w43 ∧ w43 ≤ 3551250) : ∃ q : Int, Hd (w50.tdiv w43 = q) ∧ QD w50 w43 q ∧ (-216749 ≤ q ∧ q ≤ 236761) := by
  obtain ⟨q, h1, h2⟩ := qD_ex w50 w43 (by omega)
  obtain ⟨h3, h4⟩ := qD_rng (lo := -65024701000) (hi := 71028551000) (dl := 300000) h2 (by omega) (by omega) (by omega) (by omega) (by omega) (by omega)
  exact ⟨q, h1, h2, by omega, by omega⟩
theorem bz_am52 {q51 w43 : Int} (b_q51 : -216749 ≤ q51 ∧ q51 ≤ 236761) (b_w43 : 300000 ≤ w43 ∧ w43 ≤ 3551250) : ∃ m : Int, Hd (q51 * w43 = m) ∧ ((-216749) * w43 + (300000) * q51 - (-65024700000) ≤ m) ∧ ((236761) * w43 + (3551250) * q51 - (840797501250) ≤ m) ∧ (m ≤ (236761) * w43 + (300000) * q51 - (71028300000)) ∧ (m ≤ (-216749) * w43 + (3551250) * q51 - (-769729886250)) ∧ (-769729886250 ≤ m ∧ m ≤ 840797501250) := by
  obtain ⟨h1, h2, h3, h4⟩ := mcc (x := q51) (y := w43) b_q51.1 b_q51.2 b_w43.1 b_w43.2
  refine ⟨_, ⟨rfl⟩, ?_, ?_, ?_, ?_, ?_, ?_⟩ <;> omega
theorem bz_am53 {q7 w37 : Int} (b_q7 : 0 ≤ q7 ∧ q7 ≤ 8191) (b_w37 : 0 ≤ w37 ∧ w37 ≤ 1448400) : ∃ m : Int, Hd (q7 * w37 = m) ∧ ((0) * w37 + (0) * q7 - (0) ≤ m) ∧ ((8191) * w37 + (1448400) * q7 - (11863844400) ≤ m) ∧ (m ≤ (8191) * w37 + (0) * q7 - (0)) ∧ (m ≤ (0) * w37 + (1448400) * q7 - (0)) ∧ (0 ≤ m ∧ m ≤ 11863844400) := by
  obtain ⟨h1, h2, h3, h4⟩ := mcc (x := q7) (y := w37) b_q7.1 b_q7.2 b_w37.1 b_w37.2
  refine ⟨_, ⟨rfl⟩, ?_, ?_, ?_, ?_, ?_, ?_⟩ <;> omega
theorem bz_aw54 {m18 m53 q7 : Int} (b_m18 : 0 ≤ m18 ∧ m18 ≤ 19675601100) (b_m53 : 0 ≤ m53 ∧ m53 ≤ 11863844400) (b_q7 : 0 ≤ q7 ∧ q7 ≤ 8191) : ∃ w : Int, (m18 + m53 + 300000 * q7 = w) ∧ (0 ≤ w ∧ w ≤ 33996745500) := ⟨_, rfl, by omega, by omega⟩
theorem bz_az55 {w54 : Int} (b_w54 : 0 ≤ w54 ∧ w54 ≤ 33996745500) : ∃ z : Int, (w54 ≤ 1000 * z ∧ 1000 * z ≤ w54 + 999) ∧ (0 ≤ z ∧ z ≤ 33996746) := by
  obtain ⟨z, h1, h2⟩ := ru_ex (w54) 1000 (by omega)
  exact ⟨z, ⟨by omega, by omega⟩, by omega, by omega⟩
theorem bz_aw56 {w13 w16 : Int} (b_w13 : 0 ≤ w13 ∧ w13 ≤ 1601400) (b_w16 : 0 ≤ w16 ∧ w16 ≤ 2402100) : ∃ w : Int, (w13 + w16 + 300000 = w) ∧ (300000 ≤ w ∧ w ≤ 4303500) := ⟨_, rfl, by omega, by omega⟩
theorem bz_aq57 {w38 w56 : Int} (b_w38 : 0 ≤ w38 ∧ w38 ≤ 0) (b_w56 : 300000 ≤ w56 ∧ w56 ≤ 4303500) : ∃ q : Int, Hd (w38.tdiv w56 = q) ∧ QD w38 w56 q ∧ (0 ≤ q ∧ q ≤ 0) := by
  obtain ⟨q, h1, h2⟩ := qD_ex w38 w56 (by omega)
  obtain ⟨h3, h4⟩ := qD_rng (lo := 0) (hi := 0) (dl := 300000) h2 (by omega) (by omega) (by omega) (by omega) (by omega) (by omega)
  have h5 := (h2.1 (by omega)).1
  exact ⟨q, h1, h2, by omega, by omega⟩
theorem bz_am58 {q57 w56 : Int} (b_q57 : 0 ≤ q57 ∧ q57 ≤ 0) (b_w56 : 300000 ≤ w56 ∧ w56 ≤ 4303500) : ∃ m : Int, Hd (q57 * w56 = m) ∧ ((0) * w56 + (300000) * q57 - (0) ≤ m) ∧ ((0) * w56 + (4303500) * q57 - (0) ≤ m) ∧ (m ≤ (0) * w56 + (300000) * q57 - (0)) ∧ (m ≤ (0) * w56 + (4303500) * q57 - (0)) ∧ (0 ≤ m ∧ m ≤ 0) := by
  obtain ⟨h1, h2, h3, h4⟩ := mcc (x := q57) (y := w56) b_q57.1 b_q57.2 b_w56.1 b_w56.2
  refine ⟨_, ⟨rfl⟩, ?_, ?_, ?_, ?_, ?_, ?_⟩ <;> omega
theorem bz_aw59 {w22 w37 : Int} (b_w22 : 0 ≤ w22 ∧ w22 ≤ 1950750) (b_w37 : 0 ≤ w37 ∧ w37 ≤ 1448400) : ∃ w : Int, (w22 + w37 + 300000 = w) ∧ (300000 ≤ w ∧ w ≤ 3699150) := ⟨_, rfl, by omega, by omega⟩
theorem bz_aq60 {w42 w59 : Int} (b_w42 : 20000 ≤ w42 ∧ w42 ≤ 20000) (b_w59 : 300000 ≤ w59 ∧ w59 ≤ 3699150) : ∃ q : Int, Hd (w42.tdiv w59 = q) ∧ QD w42 w59 q ∧ (0 ≤ q ∧ q ≤ 0) := by
  obtain ⟨q, h1, h2⟩ := qD_ex w42 w59 (by omega)
  obtain ⟨h3, h4⟩ := qD_rng (lo := 0) (hi := 20000) (dl := 300000) h2 (by omega) (by omega) (by omega) (by omega) (by omega) (by omega)
  have h5 := (h2.1 (by omega)).1
  exact ⟨q, h1, h2, by omega, by omega⟩
theorem bz_am61 {q60 w59 : Int} (b_q60 : 0 ≤ q60 ∧ q60 ≤ 0) (b_w59 : 300000 ≤ w59 ∧ w59 ≤ 3699150) : ∃ m : Int, Hd (q60 * w59 = m) ∧ ((0) * w59 + (300000) * q60 - (0) ≤ m) ∧ ((0) * w59 + (3699150) * q60 - (0) ≤ m) ∧ (m ≤ (0) * w59 + (300000) * q60 - (0)) ∧ (m ≤ (0) * w59 + (3699150) * q60 - (0)) ∧ (0 ≤ m ∧ m ≤ 0) := by
  obtain ⟨h1, h2, h3, h4⟩ := mcc (x := q60) (y := w59) b_q60.1 b_q60.2 b_w59.1 b_w59.2
  refine ⟨_, ⟨rfl⟩, ?_, ?_, ?_, ?_, ?_, ?_⟩ <;> omega
theorem bz_aq62 {w47 w56 : Int} (b_w47 : 0 ≤ w47 ∧ w47 ≤ 71028511000) (b_w56 : 300000 ≤ w56 ∧ w56 ≤ 4303500) : ∃ q : Int, Hd (w47.tdiv w56 = q) ∧ QD w47 w56 q ∧ (0 ≤ q ∧ q ≤ 236761) := by
  obtain ⟨q, h1, h2⟩ := qD_ex w47 w56 (by omega)
  obtain ⟨h3, h4⟩ := qD_rng (lo := 0) (hi := 71028511000) (dl := 300000) h2 (by omega) (by omega) (by omega) (by omega) (by omega) (by omega)
  have h5 := (h2.1 (by omega)).1
  exact ⟨q, h1, h2, by omega, by omega⟩
theorem bz_am63 {q62 w56 : Int} (b_q62 : 0 ≤ q62 ∧ q62 ≤ 236761) (b_w56 : 300000 ≤ w56 ∧ w56 ≤ 4303500) : ∃ m : Int, Hd (q62 * w56 = m) ∧ ((0) * w56 + (300000) * q62 - (0) ≤ m) ∧ ((236761) * w56 + (4303500) * q62 - (1018900963500) ≤ m) ∧ (m ≤ (236761) * w56 + (300000) * q62 - (71028300000)) ∧ (m ≤ (0) * w56 + (4303500) * q62 - (0)) ∧ (0 ≤ m ∧ m ≤ 1018900963500) := by
  obtain ⟨h1, h2, h3, h4⟩ := mcc (x := q62) (y := w56) b_q62.1 b_q62.2 b_w56.1 b_w56.2
  refine ⟨_, ⟨rfl⟩, ?_, ?_, ?_, ?_, ?_, ?_⟩ <;> omega
theorem bz_aq64 {w50 w59 : Int} (b_w50 : -65024701000 ≤ w50 ∧ w50 ≤ 71028551000) (b_w59 : 300000 ≤ w59 ∧ w59 ≤ 3699150) : ∃ q : Int, Hd (w50.tdiv w59 = q) ∧ QD w50 w59 q ∧ (-216749 ≤ q ∧ q ≤ 236761) := by
  obtain ⟨q, h1, h2⟩ := qD_ex w50 w59 (by omega)
  obtain ⟨h3, h4⟩ := qD_rng (lo := -65024701000) (hi := 71028551000) (dl := 300000) h2 (by omega) (by omega) (by omega) (by omega) (by omega) (by omega)
  exact ⟨q, h1, h2, by omega, by omega⟩
theorem bz_am65 {q64 w59 : Int} (b_q64 : -216749 ≤ q64 ∧ q64 ≤ 236761) (b_w59 : 300000 ≤ w59 ∧ w59 ≤ 3699150) : ∃ m : Int, Hd (q64 * w59 = m) ∧ ((-216749) * w59 + (300000) * q64 - (-65024700000) ≤ m) ∧ ((236761) * w59 + (3699150) * q64 - (875814453150) ≤ m) ∧ (m ≤ (236761) * w59 + (300000) * q64 - (71028300000)) ∧ (m ≤ (-216749) * w59 + (3699150) * q64 - (-801787063350)) ∧ (-801787063350 ≤ m ∧ m ≤ 875814453150) := by
  obtain ⟨h1, h2, h3, h4⟩ := mcc (x := q64) (y := w59) b_q64.1 b_q64.2 b_w59.1 b_w59.2
  refine ⟨_, ⟨rfl⟩, ?_, ?_, ?_, ?_, ?_, ?_⟩ <;> omega
theorem bz_am66 {u23 w37 : Int} (b_u23 : 0 ≤ u23 ∧ u23 ≤ 20000) (b_w37 : 0 ≤ w37 ∧ w37 ≤ 1448400) : ∃ m : Int, Hd (u23 * w37 = m) ∧ ((0) * w37 + (0) * u23 - (0) ≤ m) ∧ ((20000) * w37 + (1448400) * u23 - (28968000000) ≤ m) ∧ (m ≤ (20000) * w37 + (0) * u23 - (0)) ∧ (m ≤ (0) * w37 + (1448400) * u23 - (0)) ∧ (0 ≤ m ∧ m ≤ 28968000000) := by
  obtain ⟨h1, h2, h3, h4⟩ := mcc (x := u23) (y := w37) b_u23.1 b_u23.2 b_w37.1 b_w37.2
  refine ⟨_, ⟨rfl⟩, ?_, ?_, ?_, ?_, ?_, ?_⟩ <;> omega
theorem bz_aw67 {m25 m66 u23 w22 w37 : Int} (b_m25 : 0 ≤ m25 ∧ m25 ≤ 39015000000) (b_m66 : 0 ≤ m66 ∧ m66 ≤ 28968000000) (b_u23 : 0 ≤ u23 ∧ u23 ≤ 20000) (b_w22 : 0 ≤ w22 ∧ w22 ≤ 1950750) (b_w37 : 0 ≤ w37 ∧ w37 ≤ 1448400) : ∃ w : Int, ((-1) * m25 + (-1) * m66 + (-300000) * u23 + 20001 * w22 + 20001 * w37 + 6000300000 = w) ∧ (-67982700000 ≤ w ∧ w ≤ 73986699150) := ⟨_, rfl, by omega, by omega⟩
theorem bz_az68 {w67 : Int} (b_w67 : -67982700000 ≤ w67 ∧ w67 ≤ 73986699150) : ∃ z : Int, (w67 ≤ 1000 * z ∧ 1000 * z ≤ w67 + 999) ∧ (-67982700 ≤ z ∧ z ≤ 73986700) := by
  obtain ⟨z, h1, h2⟩ := ru_ex (w67) 1000 (by omega)
  exact ⟨z, ⟨by omega, by omega⟩, by omega, by omega⟩
theorem bz_aw69 {z20 : Int} (b_z20 : 0 ≤ z20 ∧ z20 ≤ 35249969) : ∃ w : Int, (1000 * z20 = w) ∧ (0 ≤ w ∧ w ≤ 35249969000) := ⟨_, rfl, by omega, by omega⟩
theorem bz_aq70 {w69 w39 : Int} (b_w69 : 0 ≤ w69 ∧ w69 ≤ 35249969000) (b_w39 : 300000 ≤ w39 ∧ w39 ≤ 4150500) : ∃ q : Int, Hd (w69.tdiv w39 = q) ∧ QD w69 w39 q ∧ (0 ≤ q ∧ q ≤ 117499) := by
  obtain ⟨q, h1, h2⟩ := qD_ex w69 w39 (by omega)
  obtain ⟨h3, h4⟩ := qD_rng (lo := 0) (hi := 35249969000) (dl := 300000) h2 (by omega) (by omega) (by omega) (by omega) (by omega) (by omega)
  have h5 := (h2.1 (by omega)).1
  exact ⟨q, h1, h2, by omega, by omega⟩
theorem bz_am71 {q70 w39 : Int} (b_q70 : 0 ≤ q70 ∧ q70 ≤ 117499) (b_w39 : 300000 ≤ w39 ∧ w39 ≤ 4150500) : ∃ m : Int, Hd (q70 * w39 = m) ∧ ((0) * w39 + (300000) * q70 - (0) ≤ m) ∧ ((117499) * w39 + (4150500) * q70 - (487679599500) ≤ m) ∧ (m ≤ (117499) * w39 + (300000) * q70 - (35249700000)) ∧ (m ≤ (0) * w39 + (4150500) * q70 - (0)) ∧ (0 ≤ m ∧ m ≤ 487679599500) := by
  obtain ⟨h1, h2, h3, h4⟩ := mcc (x := q70) (y := w39) b_q70.1 b_q70.2 b_w39.1 b_w39.2
  refine ⟨_, ⟨rfl⟩, ?_, ?_, ?_, ?_, ?_, ?_⟩ <;> omega
theorem bz_aw72 {z20 : Int} (b_z20 : 0 ≤ z20 ∧ z20 ≤ 35249969) : ∃ w : Int, (1000 * z20 + 40000 = w) ∧ (40000 ≤ w ∧ w ≤ 35250009000) := ⟨_, rfl, by omega, by omega⟩
theorem bz_aq73 {w72 w43 : Int} (b_w72 : 40000 ≤ w72 ∧ w72 ≤ 35250009000) (b_w43 : 300000 ≤ w43 ∧ w43 ≤ 3551250) : ∃ q : Int, Hd (w72.tdiv w43 = q) ∧ QD w72 w43 q ∧ (0 ≤ q ∧ q ≤ 117500) := by
  obtain ⟨q, h1, h2⟩ := qD_ex w72 w43 (by omega)
  obtain ⟨h3, h4⟩ := qD_rng (lo := 0) (hi := 35250009000) (dl := 300000) h2 (by omega) (by omega) (by omega) (by omega) (by omega) (by omega)
  have h5 := (h2.1 (by omega)).1
  exact ⟨q, h1, h2, by omega, by omega⟩
theorem bz_am74 {q73 w43 : Int} (b_q73 : 0 ≤ q73 ∧ q73 ≤ 117500) (b_w43 : 300000 ≤ w43 ∧ w43 ≤ 3551250) : ∃ m : Int, Hd (q73 * w43 = m) ∧ ((0) * w43 + (300000) * q73 - (0) ≤ m) ∧ ((117500) * w43 + (3551250) * q73 - (417271875000) ≤ m) ∧ (m ≤ (117500) * w43 + (300000) * q73 - (35250000000)) ∧ (m ≤ (0) * w43 + (3551250) * q73 - (0)) ∧ (0 ≤ m ∧ m ≤ 417271875000) := by
  obtain ⟨h1, h2, h3, h4⟩ := mcc (x := q73) (y := w43) b_q73.1 b_q73.2 b_w43.1 b_w43.2
  refine ⟨_, ⟨rfl⟩, ?_, ?_, ?_, ?_, ?_, ?_⟩ <;> omega
theorem bz_aq75 {w69 w56 : Int} (b_w69 : 0 ≤ w69 ∧ w69 ≤ 35249969000) (b_w56 : 300000 ≤ w56 ∧ w56 ≤ 4303500) : ∃ q : Int, Hd (w69.tdiv w56 = q) ∧ QD w69 w56 q ∧ (0 ≤ q ∧ q ≤ 117499) := by
  obtain ⟨q, h1, h2⟩ := qD_ex w69 w56 (by omega)
  obtain ⟨h3, h4⟩ := qD_rng (lo := 0) (hi := 35249969000) (dl := 300000) h2 (by omega) (by omega) (by omega) (by omega) (by omega) (by omega)
  have h5 := (h2.1 (by omega)).1
  exact ⟨q, h1, h2, by omega, by omega⟩
theorem bz_am76 {q75 w56 : Int} (b_q75 : 0 ≤ q75 ∧ q75 ≤ 117499) (b_w56 : 300000 ≤ w56 ∧ w56 ≤ 4303500) : ∃ m : Int, Hd (q75 * w56 = m) ∧ ((0) * w56 + (300000) * q75 - (0) ≤ m) ∧ ((117499) * w56 + (4303500) * q75 - (505656946500) ≤ m) ∧ (m ≤ (117499) * w56 + (300000) * q75 - (35249700000)) ∧ (m ≤ (0) * w56 + (4303500) * q75 - (0)) ∧ (0 ≤ m ∧ m ≤ 505656946500) := by
  obtain ⟨h1, h2, h3, h4⟩ := mcc (x := q75) (y := w56) b_q75.1 b_q75.2 b_w56.1 b_w56.2
  refine ⟨_, ⟨rfl⟩, ?_, ?_, ?_, ?_, ?_, ?_⟩ <;> omega
theorem bz_aq77 {w72 w59 : Int} (b_w72 : 40000 ≤ w72 ∧ w72 ≤ 35250009000) (b_w59 : 300000 ≤ w59 ∧ w59 ≤ 3699150) : ∃ q : Int, Hd (w72.tdiv w59 = q) ∧ QD w72 w59 q ∧ (0 ≤ q ∧ q ≤ 117500) := by
  obtain ⟨q, h1, h2⟩ := qD_ex w72 w59 (by omega)
  obtain ⟨h3, h4⟩ := qD_rng (lo := 0) (hi := 35250009000) (dl := 300000) h2 (by omega) (by omega) (by omega) (by omega) (by omega) (by omega)
  have h5 := (h2.1 (by omega)).1
  exact ⟨q, h1, h2, by omega, by omega⟩
theorem bz_am78 {q77 w59 : Int} (b_q77 : 0 ≤ q77 ∧ q77 ≤ 117500) (b_w59 : 300000 ≤ w59 ∧ w59 ≤ 3699150) : ∃ m : Int, Hd (q77 * w59 = m) ∧ ((0) * w59 + (300000) * q77 - (0) ≤ m) ∧ ((117500) * w59 + (3699150) * q77 - (434650125000) ≤ m) ∧ (m ≤ (117500) * w59 + (300000) * q77 - (35250000000)) ∧ (m ≤ (0) * w59 + (3699150) * q77 - (0)) ∧ (0 ≤ m ∧ m ≤ 434650125000) := by
  obtain ⟨h1, h2, h3, h4⟩ := mcc (x := q77) (y := w59) b_q77.1 b_q77.2 b_w59.1 b_w59.2
  refine ⟨_, ⟨rfl⟩, ?_, ?_, ?_, ?_, ?_, ?_⟩ <;> omega
theorem bz_rf1 {q34 r2 r35 : Int} (b_r2 : 0 ≤ r2 ∧ r2 ≤ 59) (b_r35 : 0 ≤ r35 ∧ r35 ≤ 1) (q34s : r2 = 2 * q34 + r35) : 0 ≤ (-1) * q34 + r2 := by omega
theorem bz_rf1_0 {q34 r2 m11 m36 x1 : Int} (b_x1 : 0 ≤ x1 ∧ x1 ≤ 255) (rf1 : 0 ≤ (-1) * q34 + r2) (m36e : Hd (q34 * x1 = m36)) (m11e : Hd (r2 * x1 = m11)) : 0 ≤ m11 + (-1) * m36 := by
  have e1 : ((-1) * q34 + r2) * (x1) = m11 + (-1) * m36 := ((by simp only [Int.add_mul, Int.mul_add, Int.mul_assoc, Int.mul_comm, Int.mul_left_comm, Int.reduceMul, Int.reduceNeg, Int.mul_one, Int.one_mul] <;> omega : ((-1) * q34 + r2) * (x1) = (-1) * (q34 * x1) + r2 * x1).trans (by (try simp only [m36e.out, m11e.out]) <;> omega))
  exact e1 ▸ Int.mul_nonneg (by omega) (by omega)
theorem bz_rf2 {w13 w37 m11 m12 m36 : Int}  (w13s : 20 * m11 + 20 * m12 = w13) (w37s : 20 * m12 + 20 * m36 = w37) (rf1_0 : 0 ≤ m11 + (-1) * m36) : 0 ≤ w13 + (-1) * w37 := by omega
theorem bz_rf2_0 {w13 w37 m17 m53 q7 : Int} (b_q7 : 0 ≤ q7 ∧ q7 ≤ 8191) (rf2 : 0 ≤ w13 + (-1) * w37) (m17e : Hd (q7 * w13 = m17)) (m53e : Hd (q7 * w37 = m53)) : 0 ≤ m17 + (-1) * m53 := by
  have e1 : (w13 + (-1) * w37) * (q7) = m17 + (-1) * m53 := ((by simp only [Int.add_mul, Int.mul_add, Int.mul_assoc, Int.mul_comm, Int.mul_left_comm, Int.reduceMul, Int.reduceNeg, Int.mul_one, Int.one_mul] <;> omega : (w13 + (-1) * w37) * (q7) = q7 * w13 + (-1) * (q7 * w37)).trans (by (try simp only [m17e.out, m53e.out]) <;> omega))
  exact e1 ▸ Int.mul_nonneg (by omega) (by omega)
theorem bz_rf3 {w21 w37 m36 m12 : Int} (b_m36 : 0 ≤ m36 ∧ m36 ≤ 7395) (w21s : 20 * m12 = w21) (w37s : 20 * m12 + 20 * m36 = w37) : 0 ≤ (-1) * w21 + w37 := by omega
theorem bz_rf3_0 {w21 w37 m24 m66 u23 : Int} (b_u23 : 0 ≤ u23 ∧ u23 ≤ 20000) (rf3 : 0 ≤ (-1) * w21 + w37) (m24e : Hd (u23 * w21 = m24)) (m66e : Hd (u23 * w37 = m66)) : 0 ≤ m24 + (-1) * m66 + (-20001) * w21 + 20001 * w37 := by
  have e1 : ((-1) * w21 + w37) * ((-1) * u23 + 20001) = m24 + (-1) * m66 + (-20001) * w21 + 20001 * w37 := ((by simp only [Int.add_mul, Int.mul_add, Int.mul_assoc, Int.mul_comm, Int.mul_left_comm, Int.reduceMul, Int.reduceNeg, Int.mul_one, Int.one_mul] <;> omega : ((-1) * w21 + w37) * ((-1) * u23 + 20001) = u23 * w21 + (-1) * (u23 * w37) + (-20001) * w21 + 20001 * w37).trans (by (try simp only [m24e.out, m66e.out]) <;> omega))
  exact e1 ▸ Int.mul_nonneg (by omega) (by omega)
theorem bz_rf4 {q7 m18 m53 q40 w38 w39 w16 w37 : Int} (b_w39 : 300000 ≤ w39 ∧ w39 ≤ 4150500) (q40h : QD w38 w39 q40) (m18e : Hd (q7 * w16 = m18)) (m53e : Hd (q7 * w37 = m53)) (w39s : w16 + w37 + 300000 = w39) : 1 ≤ q7 ∨ 0 ≤ w38 → q7 ≤ q40 ∧ m18 + m53 + 300000 * q7 ≤ w38 ∨ q40 + 1 ≤ q7 ∧ w38 + 1 ≤ m18 + m53 + 300000 * q7 := qD_gal q40h (by omega) (by
  have e1 : (q7) * (w16 + w37 + 300000) = m18 + m53 + 300000 * q7 := ((by simp only [Int.add_mul, Int.mul_add, Int.mul_assoc, Int.mul_comm, Int.mul_left_comm, Int.reduceMul, Int.reduceNeg, Int.mul_one, Int.one_mul] <;> omega : (q7) * (w16 + w37 + 300000) = q7 * w16 + q7 * w37 + 300000 * q7).trans (by (try simp only [m18e.out, m53e.out]) <;> omega))
  rw [w39s] at e1
  exact e1)
theorem bz_rf5 {u23 m24 m25 w21 w22 q44 w42 w43 : Int} (b_w43 : 300000 ≤ w43 ∧ w43 ≤ 3551250) (q44h : QD w42 w43 q44) (m24e : Hd (u23 * w21 = m24)) (m25e : Hd (u23 * w22 = m25)) (w43s : w21 + w22 + 300000 = w43) : 1 ≤ (-1) * u23 + 20001 ∨ 0 ≤ w42 → (-1) * u23 + 20001 ≤ q44 ∧ (-1) * m24 + (-1) * m25 + (-300000) * u23 + 20001 * w21 + 20001 * w22 + 6000300000 ≤ w42 ∨ q44 + 1 ≤ (-1) * u23 + 20001 ∧ w42 + 1 ≤ (-1) * m24 + (-1) * m25 + (-300000) * u23 + 20001 * w21 + 20001 * w22 + 6000300000 := qD_gal q44h (by omega) (by
  have e1 : ((-1) * u23 + 20001) * (w21 + w22 + 300000) = (-1) * m24 + (-1) * m25 + (-300000) * u23 + 20001 * w21 + 20001 * w22 + 6000300000 := ((by simp only [Int.add_mul, Int.mul_add, Int.mul_assoc, Int.mul_comm, Int.mul_left_comm, Int.reduceMul, Int.reduceNeg, Int.mul_one, Int.one_mul] <;> omega : ((-1) * u23 + 20001) * (w21 + w22 + 300000) = (-1) * (u23 * w21) + (-1) * (u23 * w22) + (-300000) * u23 + 20001 * w21 + 20001 * w22 + 6000300000).trans (by (try simp only [m24e.out, m25e.out]) <;> omega))
  rw [w43s] at e1
  exact e1)
theorem bz_rf6 {q7 m18 m53 q48 w47 w39 w16 w37 : Int} (b_w39 : 300000 ≤ w39 ∧ w39 ≤ 4150500) (q48h : QD w47 w39 q48) (m18e : Hd (q7 * w16 = m18)) (m53e : Hd (q7 * w37 = m53)) (w39s : w16 + w37 + 300000 = w39) : 1 ≤ q7 ∨ 0 ≤ w47 → q7 ≤ q48 ∧ m18 + m53 + 300000 * q7 ≤ w47 ∨ q48 + 1 ≤ q7 ∧ w47 + 1 ≤ m18 + m53 + 300000 * q7 := qD_gal q48h (by omega) (by
  have e1 : (q7) * (w16 + w37 + 300000) = m18 + m53 + 300000 * q7 := ((by simp only [Int.add_mul, Int.mul_add, Int.mul_assoc, Int.mul_comm, Int.mul_left_comm, Int.reduceMul, Int.reduceNeg, Int.mul_one, Int.one_mul] <;> omega : (q7) * (w16 + w37 + 300000) = q7 * w16 + q7 * w37 + 300000 * q7).trans (by (try simp only [m18e.out, m53e.out]) <;> omega))
  rw [w39s] at e1
  exact e1)
theorem bz_rf7 {u23 m24 m25 w21 w22 q51 w50 w43 : Int} (b_w43 : 300000 ≤ w43 ∧ w43 ≤ 3551250) (q51h : QD w50 w43 q51) (m24e : Hd (u23 * w21 = m24)) (m25e : Hd (u23 * w22 = m25)) (w43s : w21 + w22 + 300000 = w43) : 1 ≤ (-1) * u23 + 20001 ∨ 0 ≤ w50 → (-1) * u23 + 20001 ≤ q51 ∧ (-1) * m24 + (-1) * m25 + (-300000) * u23 + 20001 * w21 + 20001 * w22 + 6000300000 ≤ w50 ∨ q51 + 1 ≤ (-1) * u23 + 20001 ∧ w50 + 1 ≤ (-1) * m24 + (-1) * m25 + (-300000) * u23 + 20001 * w21 + 20001 * w22 + 6000300000 := qD_gal q51h (by omega) (by
  have e1 : ((-1) * u23 + 20001) * (w21 + w22 + 300000) = (-1) * m24 + (-1) * m25 + (-300000) * u23 + 20001 * w21 + 20001 * w22 + 6000300000 := ((by simp only [Int.add_mul, Int.mul_add, Int.mul_assoc, Int.mul_comm, Int.mul_left_comm, Int.reduceMul, Int.reduceNeg, Int.mul_one, Int.one_mul] <;> omega : ((-1) * u23 + 20001) * (w21 + w22 + 300000) = (-1) * (u23 * w21) + (-1) * (u23 * w22) + (-300000) * u23 + 20001 * w21 + 20001 * w22 + 6000300000).trans (by (try simp only [m24e.out, m25e.out]) <;> omega))
  rw [w43s] at e1
  exact e1)
theorem bz_rf8 {q7 m17 m18 q57 w38 w56 w13 w16 : Int} (b_w56 : 300000 ≤ w56 ∧ w56 ≤ 4303500) (q57h : QD w38 w56 q57) (m17e : Hd (q7 * w13 = m17)) (m18e : Hd (q7 * w16 = m18)) (w56s : w13 + w16 + 300000 = w56) : 1 ≤ q7 ∨ 0 ≤ w38 → q7 ≤ q57 ∧ m17 + m18 + 300000 * q7 ≤ w38 ∨ q57 + 1 ≤ q7 ∧ w38 + 1 ≤ m17 + m18 + 300000 * q7 := qD_gal q57h (by omega) (by
  have e1 : (q7) * (w13 + w16 + 300000) = m17 + m18 + 300000 * q7 := ((by simp only [Int.add_mul, Int.mul_add, Int.mul_assoc, Int.mul_comm, Int.mul_left_comm, Int.reduceMul, Int.reduceNeg, Int.mul_one, Int.one_mul] <;> omega : (q7) * (w13 + w16 + 300000) = q7 * w13 + q7 * w16 + 300000 * q7).trans (by (try simp only [m17e.out, m18e.out]) <;> omega))
  rw [w56s] at e1
  exact e1)
theorem bz_rf9 {u23 m25 m66 w22 w37 q60 w42 w59 : Int} (b_w59 : 300000 ≤ w59 ∧ w59 ≤ 3699150) (q60h : QD w42 w59 q60) (m25e : Hd (u23 * w22 = m25)) (m66e : Hd (u23 * w37 = m66)) (w59s : w22 + w37 + 300000 = w59) : 1 ≤ (-1) * u23 + 20001 ∨ 0 ≤ w42 → (-1) * u23 + 20001 ≤ q60 ∧ (-1) * m25 + (-1) * m66 + (-300000) * u23 + 20001 * w22 + 20001 * w37 + 6000300000 ≤ w42 ∨ q60 + 1 ≤ (-1) * u23 + 20001 ∧ w42 + 1 ≤ (-1) * m25 + (-1) * m66 + (-300000) * u23 + 20001 * w22 + 20001 * w37 + 6000300000 := qD_gal q60h (by omega) (by
  have e1 : ((-1) * u23 + 20001) * (w22 + w37 + 300000) = (-1) * m25 + (-1) * m66 + (-300000) * u23 + 20001 * w22 + 20001 * w37 + 6000300000 := ((by simp only [Int.add_mul, Int.mul_add, Int.mul_assoc, Int.mul_comm, Int.mul_left_comm, Int.reduceMul, Int.reduceNeg, Int.mul_one, Int.one_mul] <;> omega : ((-1) * u23 + 20001) * (w22 + w37 + 300000) = (-1) * (u23 * w22) + (-1) * (u23 * w37) + (-300000) * u23 + 20001 * w22 + 20001 * w37 + 6000300000).trans (by (try simp only [m25e.out, m66e.out]) <;> omega))
  rw [w59s] at e1
  exact e1)
theorem bz_rf10 {q7 m17 m18 q62 w47 w56 w13 w16 : Int} (b_w56 : 300000 ≤ w56 ∧ w56 ≤ 4303500) (q62h : QD w47 w56 q62) (m17e : Hd (q7 * w13 = m17)) (m18e : Hd (q7 * w16 = m18)) (w56s : w13 + w16 + 300000 = w56) : 1 ≤ q7 ∨ 0 ≤ w47 → q7 ≤ q62 ∧ m17 + m18 + 300000 * q7 ≤ w47 ∨ q62 + 1 ≤ q7 ∧ w47 + 1 ≤ m17 + m18 + 300000 * q7 := qD_gal q62h (by omega) (by
  have e1 : (q7) * (w13 + w16 + 300000) = m17 + m18 + 300000 * q7 := ((by simp only [Int.add_mul, Int.mul_add, Int.mul_assoc, Int.mul_comm, Int.mul_left_comm, Int.reduceMul, Int.reduceNeg, Int.mul_one, Int.one_mul] <;> omega : (q7) * (w13 + w16 + 300000) = q7 * w13 + q7 * w16 + 300000 * q7).trans (by (try simp only [m17e.out, m18e.out]) <;> omega))
  rw [w56s] at e1
  exact e1)
theorem bz_rf11 {u23 m25 m66 w22 w37 q64 w50 w59 : Int} (b_w59 : 300000 ≤ w59 ∧ w59 ≤ 3699150) (q64h : QD w50 w59 q64) (m25e : Hd (u23 * w22 = m25)) (m66e : Hd (u23 * w37 = m66)) (w59s : w22 + w37 + 300000 = w59) : 1 ≤ (-1) * u23 + 20001 ∨ 0 ≤ w50 → (-1) * u23 + 20001 ≤ q64 ∧ (-1) * m25 + (-1) * m66 + (-300000) * u23 + 20001 * w22 + 20001 * w37 + 6000300000 ≤ w50 ∨ q64 + 1 ≤ (-1) * u23 + 20001 ∧ w50 + 1 ≤ (-1) * m25 + (-1) * m66 + (-300000) * u23 + 20001 * w22 + 20001 * w37 + 6000300000 := qD_gal q64h (by omega) (by
  have e1 : ((-1) * u23 + 20001) * (w22 + w37 + 300000) = (-1) * m25 + (-1) * m66 + (-300000) * u23 + 20001 * w22 + 20001 * w37 + 6000300000 := ((by simp only [Int.add_mul, Int.mul_add, Int.mul_assoc, Int.mul_comm, Int.mul_left_comm, Int.reduceMul, Int.reduceNeg, Int.mul_one, Int.one_mul] <;> omega : ((-1) * u23 + 20001) * (w22 + w37 + 300000) = (-1) * (u23 * w22) + (-1) * (u23 * w37) + (-300000) * u23 + 20001 * w22 + 20001 * w37 + 6000300000).trans (by (try simp only [m25e.out, m66e.out]) <;> omega))
  rw [w59s] at e1
  exact e1)
theorem bz_rf12 {q7 m18 m53 q70 w69 w39 w16 w37 : Int} (b_w39 : 300000 ≤ w39 ∧ w39 ≤ 4150500) (q70h : QD w69 w39 q70) (m18e : Hd (q7 * w16 = m18)) (m53e : Hd (q7 * w37 = m53)) (w39s : w16 + w37 + 300000 = w39) : 1 ≤ q7 ∨ 0 ≤ w69 → q7 ≤ q70 ∧ m18 + m53 + 300000 * q7 ≤ w69 ∨ q70 + 1 ≤ q7 ∧ w69 + 1 ≤ m18 + m53 + 300000 * q7 := qD_gal q70h (by omega) (by
  have e1 : (q7) * (w16 + w37 + 300000) = m18 + m53 + 300000 * q7 := ((by simp only [Int.add_mul, Int.mul_add, Int.mul_assoc, Int.mul_comm, Int.mul_left_comm, Int.reduceMul, Int.reduceNeg, Int.mul_one, Int.one_mul] <;> omega : (q7) * (w16 + w37 + 300000) = q7 * w16 + q7 * w37 + 300000 * q7).trans (by (try simp only [m18e.out, m53e.out]) <;> omega))
  rw [w39s] at e1
  exact e1)
theorem bz_rf13 {u23 m24 m25 w21 w22 q73 w72 w43 : Int} (b_w43 : 300000 ≤ w43 ∧ w43 ≤ 3551250) (q73h : QD w72 w43 q73) (m24e : Hd (u23 * w21 = m24)) (m25e : Hd (u23 * w22 = m25)) (w43s : w21 + w22 + 300000 = w43) : 1 ≤ (-1) * u23 + 20001 ∨ 0 ≤ w72 → (-1) * u23 + 20001 ≤ q73 ∧ (-1) * m24 + (-1) * m25 + (-300000) * u23 + 20001 * w21 + 20001 * w22 + 6000300000 ≤ w72 ∨ q73 + 1 ≤ (-1) * u23 + 20001 ∧ w72 + 1 ≤ (-1) * m24 + (-1) * m25 + (-300000) * u23 + 20001 * w21 + 20001 * w22 + 6000300000 := qD_gal q73h (by omega) (by
  have e1 : ((-1) * u23 + 20001) * (w21 + w22 + 300000) = (-1) * m24 + (-1) * m25 + (-300000) * u23 + 20001 * w21 + 20001 * w22 + 6000300000 := ((by simp only [Int.add_mul, Int.mul_add, Int.mul_assoc, Int.mul_comm, Int.mul_left_comm, Int.reduceMul, Int.reduceNeg, Int.mul_one, Int.one_mul] <;> omega : ((-1) * u23 + 20001) * (w21 + w22 + 300000) = (-1) * (u23 * w21) + (-1) * (u23 * w22) + (-300000) * u23 + 20001 * w21 + 20001 * w22 + 6000300000).trans (by (try simp only [m24e.out, m25e.out]) <;> omega))
  rw [w43s] at e1
  exact e1)
theorem bz_rf14 {q7 m17 m18 q75 w69 w56 w13 w16 : Int} (b_w56 : 300000 ≤ w56 ∧ w56 ≤ 4303500) (q75h : QD w69 w56 q75) (m17e : Hd (q7 * w13 = m17)) (m18e : Hd (q7 * w16 = m18)) (w56s : w13 + w16 + 300000 = w56) : 1 ≤ q7 ∨ 0 ≤ w69 → q7 ≤ q75 ∧ m17 + m18 + 300000 * q7 ≤ w69 ∨ q75 + 1 ≤ q7 ∧ w69 + 1 ≤ m17 + m18 + 300000 * q7 := qD_gal q75h (by omega) (by
  have e1 : (q7) * (w13 + w16 + 300000) = m17 + m18 + 300000 * q7 := ((by simp only [Int.add_mul, Int.mul_add, Int.mul_assoc, Int.mul_comm, Int.mul_left_comm, Int.reduceMul, Int.reduceNeg, Int.mul_one, Int.one_mul] <;> omega : (q7) * (w13 + w16 + 300000) = q7 * w13 + q7 * w16 + 300000 * q7).trans (by (try simp only [m17e.out, m18e.out]) <;> omega))
  rw [w56s] at e1
  exact e1)
theorem bz_rf15 {u23 m25 m66 w22 w37 q77 w72 w59 : Int} (b_w59 : 300000 ≤ w59 ∧ w59 ≤ 3699150) (q77h : QD w72 w59 q77) (m25e : Hd (u23 * w22 = m25)) (m66e : Hd (u23 * w37 = m66)) (w59s : w22 + w37 + 300000 = w59) : 1 ≤ (-1) * u23 + 20001 ∨ 0 ≤ w72 → (-1) * u23 + 20001 ≤ q77 ∧ (-1) * m25 + (-1) * m66 + (-300000) * u23 + 20001 * w22 + 20001 * w37 + 6000300000 ≤ w72 ∨ q77 + 1 ≤ (-1) * u23 + 20001 ∧ w72 + 1 ≤ (-1) * m25 + (-1) * m66 + (-300000) * u23 + 20001 * w22 + 20001 * w37 + 6000300000 := qD_gal q77h (by omega) (by
  have e1 : ((-1) * u23 + 20001) * (w22 + w37 + 300000) = (-1) * m25 + (-1) * m66 + (-300000) * u23 + 20001 * w22 + 20001 * w37 + 6000300000 := ((by simp only [Int.add_mul, Int.mul_add, Int.mul_assoc, Int.mul_comm, Int.mul_left_comm, Int.reduceMul, Int.reduceNeg, Int.mul_one, Int.one_mul] <;> omega : ((-1) * u23 + 20001) * (w22 + w37 + 300000) = (-1) * (u23 * w22) + (-1) * (u23 * w37) + (-300000) * u23 + 20001 * w22 + 20001 * w37 + 6000300000).trans (by (try simp only [m25e.out, m66e.out]) <;> omega))
  rw [w59s] at e1
  exact e1)
set_option maxHeartbeats 40000000 in
theorem bz_g0 {ρ : Env} {x1 x2 x3 x4 r2 x5 x6 r4 x7 x8 r6 x9 q7 x10 q9 w13 m11 m12 w16 m14 m15 w19 m17 m18 z20 w21 w22 u23 w26 m24 m25 z27 x13 x11 r29 x12 r31 z32 z33 q34 w37 m36 q40 w38 w39 q44 w42 w43 u46 q48 w47 q51 w50 w54 m53 z55 q57 w56 q60 w59 q62 q64 w67 m66 z68 q70 w69 q73 w72 q75 q77 : Int} (e1 : Is ρ (.v 1) x1) (e2 : Is ρ (.v 2) x2) (e3 : Is ρ (.v 3) x3) (e4 : Is ρ (.v 4) x4) (r2e : Hd ((x4) % 60 = r2)) (e5 : Is ρ (.v 5) x5) (e6 : Is ρ (.v 6) x6) (r4e : Hd ((x6) % 60 = r4)) (e7 : Is ρ (.v 7) x7) (e8 : Is ρ (.v 8) x8) (r6e : Hd ((x8) % 20 = r6)) (e9 : Is ρ (.v 9) x9) (q7e : Hd ((x9) / 8 = q7)) (e10 : Is ρ (.v 10) x10) (q9e : Hd ((x10) / 4 = q9)) (m11e : Hd (r2 * x1 = m11)) (m12e : Hd (x1 * x3 = m12)) (w13s : Hd (20 * m11 + 20 * m12 = w13)) (m14e : Hd (r4 * x2 = m14)) (m15e : Hd (x2 * x5 = m15)) (w16s : Hd (30 * m14 + 30 * m15 = w16)) (m17e : Hd (q7 * w13 = m17)) (m18e : Hd (q7 * w16 = m18)) (w19s : Hd (m17 + m18 + 300000 * q7 = w19)) (z20s : Hd (w19 ≤ 1000 * z20 ∧ 1000 * z20 ≤ w19 + 999)) (w21s : Hd (20 * m12 = w21)) (w22s : Hd (30 * m15 = w22)) (u23s : Hd (max ((-1) * q7 + (-1) * q9 + 20000) 0 = u23)) (m24e : Hd (u23 * w21 = m24)) (m25e : Hd (u23 * w22 = m25)) (w26s : Hd ((-1) * m24 + (-1) * m25 + (-300000) * u23 + 20001 * w21 + 20001 * w22 + 6000300000 = w26)) (z27s : Hd (w26 ≤ 1000 * z27 ∧ 1000 * z27 ≤ w26 + 999)) (e13 : Is ρ (.v 13) x13) (e11 : Is ρ (.v 11) x11) (r29e : Hd ((x11) % 9 = r29)) (e12 : Is ρ (.v 12) x12) (r31e : Hd ((x12) % 5 = r31)) (z32s : Hd ((-1) * r29 ≤ 2 * z32 ∧ 2 * z32 ≤ (-1) * r29 + 1)) (z33s : Hd ((-1) * r29 + (-1) * r31 ≤ 2 * z33 ∧ 2 * z33 ≤ (-1) * r29 + (-1) * r31 + 1)) (q34e : Hd ((r2) / 2 = q34)) (m36e : Hd (q34 * x1 = m36)) (w37s : Hd (20 * m12 + 20 * m36 = w37)) (q40e : Hd (w38.tdiv w39 = q40)) (w38s : Hd (0 = w38)) (w39s : Hd (w16 + w37 + 300000 = w39)) (q44e : Hd (w42.tdiv w43 = q44)) (w42s : Hd (20000 = w42)) (w43s : Hd (w21 + w22 + 300000 = w43)) (u46s : Hd (max (z27 + (-41)) 0 = u46)) (q48e : Hd (w47.tdiv w39 = q48)) (w47s : Hd (1000 * u46 = w47)) (q51e : Hd (w50.tdiv w43 = q51)) (w50s : Hd (1000 * z27 + (-1000) = w50)) (m53e : Hd (q7 * w37 = m53)) (w54s : Hd (m18 + m53 + 300000 * q7 = w54)) (z55s : Hd (w54 ≤ 1000 * z55 ∧ 1000 * z55 ≤ w54 + 999)) (q57e : Hd (w38.tdiv w56 = q57)) (w56s : Hd (w13 + w16 + 300000 = w56)) (q60e : Hd (w42.tdiv w59 = q60)) (w59s : Hd (w22 + w37 + 300000 = w59)) (q62e : Hd (w47.tdiv w56 = q62)) (q64e : Hd (w50.tdiv w59 = q64)) (m66e : Hd (u23 * w37 = m66)) (w67s : Hd ((-1) * m25 + (-1) * m66 + (-300000) * u23 + 20001 * w22 + 20001 * w37 + 6000300000 = w67)) (z68s : Hd (w67 ≤ 1000 * z68 ∧ 1000 * z68 ≤ w67 + 999)) (q70e : Hd (w69.tdiv w39 = q70)) (w69s : Hd (1000 * z20 = w69)) (q73e : Hd (w72.tdiv w43 = q73)) (w72s : Hd (1000 * z20 + 40000 = w72)) (q75e : Hd (w69.tdiv w56 = q75)) (q77e : Hd (w72.tdiv w59 = q77)) (b_x1 : 0 ≤ x1 ∧ x1 ≤ 255) (b_x2 : 0 ≤ x2 ∧ x2 ≤ 255) (b_x3 : 0 ≤ x3 ∧ x3 ≤ 255) (b_x4 : 0 ≤ x4 ∧ x4 ≤ 255) (b_r2 : 0 ≤ r2 ∧ r2 ≤ 59) (b_x5 : 0 ≤ x5 ∧ x5 ≤ 255) (b_x6 : 0 ≤ x6 ∧ x6 ≤ 255) (b_r4 : 0 ≤ r4 ∧ r4 ≤ 59) (b_x7 : 0 ≤ x7 ∧ x7 ≤ 255) (b_x8 : 0 ≤ x8 ∧ x8 ≤ 255) (b_r6 : 0 ≤ r6 ∧ r6 ≤ 19) (b_x9 : 0 ≤ x9 ∧ x9 ≤ 65535) (b_q7 : 0 ≤ q7 ∧ q7 ≤ 8191) (b_x10 : 0 ≤ x10 ∧ x10 ≤ 65535) (b_q9 : 0 ≤ q9 ∧ q9 ≤ 16383) (b_w13 : 0 ≤ w13 ∧ w13 ≤ 1601400) (b_m11 : 0 ≤ m11 ∧ m11 ≤ 15045) (b_m12 : 0 ≤ m12 ∧ m12 ≤ 65025) (b_w16 : 0 ≤ w16 ∧ w16 ≤ 2402100) (b_m14 : 0 ≤ m14 ∧ m14 ≤ 15045) (b_m15 : 0 ≤ m15 ∧ m15 ≤ 65025) (b_w19 : 0 ≤ w19 ∧ w19 ≤ 35249968500) (b_m17 : 0 ≤ m17 ∧ m17 ≤ 13117067400) (b_m18 : 0 ≤ m18 ∧ m18 ≤ 19675601100) (b_z20 : 0 ≤ z20 ∧ z20 ≤ 35249969) (b_w21 : 0 ≤ w21 ∧ w21 ≤ 1300500) (b_w22 : 0 ≤ w22 ∧ w22 ≤ 1950750) (b_u23 : 0 ≤ u23 ∧ u23 ≤ 20000) (b_w26 : -65024700000 ≤ w26 ∧ w26 ≤ 71028551250) (b_m24 : 0 ≤ m24 ∧ m24 ≤ 26010000000) (b_m25 : 0 ≤ m25 ∧ m25 ≤ 39015000000) (b_z27 : -65024700 ≤ z27 ∧ z27 ≤ 71028552) (b_x13 : 0 ≤ x13 ∧ x13 ≤ 255) (b_x11 : 0 ≤ x11 ∧ x11 ≤ 255) (b_r29 : 0 ≤ r29 ∧ r29 ≤ 8) (b_x12 : 0 ≤ x12 ∧ x12 ≤ 255) (b_r31 : 0 ≤ r31 ∧ r31 ≤ 4) (b_z32 : -4 ≤ z32 ∧ z32 ≤ 0) (b_z33 : -6 ≤ z33 ∧ z33 ≤ 0) (b_q34 : 0 ≤ q34 ∧ q34 ≤ 29) (b_w37 : 0 ≤ w37 ∧ w37 ≤ 1448400) (b_m36 : 0 ≤ m36 ∧ m36 ≤ 7395) (b_q40 : 0 ≤ q40 ∧ q40 ≤ 0) (b_w38 : 0 ≤ w38 ∧ w38 ≤ 0) (b_w39 : 300000 ≤ w39 ∧ w39 ≤ 4150500) (b_q44 : 0 ≤ q44 ∧ q44 ≤ 0) (b_w42 : 20000 ≤ w42 ∧ w42 ≤ 20000) (b_w43 : 300000 ≤ w43 ∧ w43 ≤ 3551250) (b_u46 : 0 ≤ u46 ∧ u46 ≤ 71028511) (b_q48 : 0 ≤ q48 ∧ q48 ≤ 236761) (b_w47 : 0 ≤ w47 ∧ w47 ≤ 71028511000) (b_q51 : -216749 ≤ q51 ∧ q51 ≤ 236761) (b_w50 : -65024701000 ≤ w50 ∧ w50 ≤ 71028551000) (b_w54 : 0 ≤ w54 ∧ w54 ≤ 33996745500) (b_m53 : 0 ≤ m53 ∧ m53 ≤ 11863844400) (b_z55 : 0 ≤ z55 ∧ z55 ≤ 33996746) (b_q57 : 0 ≤ q57 ∧ q57 ≤ 0) (b_w56 : 300000 ≤ w56 ∧ w56 ≤ 4303500) (b_q60 : 0 ≤ q60 ∧ q60 ≤ 0) (b_w59 : 300000 ≤ w59 ∧ w59 ≤ 3699150) (b_q62 : 0 ≤ q62 ∧ q62 ≤ 236761) (b_q64 : -216749 ≤ q64 ∧ q64 ≤ 236761) (b_w67 : -67982700000 ≤ w67 ∧ w67 ≤ 73986699150) (b_m66 : 0 ≤ m66 ∧ m66 ≤ 28968000000) (b_z68 : -67982700 ≤ z68 ∧ z68 ≤ 73986700) (b_q70 : 0 ≤ q70 ∧ q70 ≤ 117499) (b_w69 : 0 ≤ w69 ∧ w69 ≤ 35249969000) (b_q73 : 0 ≤ q73 ∧ q73 ≤ 117500) (b_w72 : 40000 ≤ w72 ∧ w72 ≤ 35250009000) (b_q75 : 0 ≤ q75 ∧ q75 ≤ 117499) (b_q77 : 0 ≤ q77 ∧ q77 ≤ 117500) : Is ρ bz1 (20 * x1) ∧ Is ρ bz3 (30 * x2) ∧ Is ρ bz4 (x3) ∧ Is ρ bz7 (r2 + x3) ∧ Is ρ bz8 (x5) ∧ Is ρ bz11 (r4 + x5) ∧ Is ρ bz13 (x7 + 1) ∧ Is ρ bz16 (r6 + x7 + 1) ∧ Is ρ bz18 (q7) ∧ Is ρ bz21 (q7 + q9) ∧ Is ρ bz25 (w13 + w16 + 300000) ∧ Is ρ bz31 (z20) ∧ Is ρ bz37 (w21 + w22 + 300000) ∧ Is ρ bz46 (z27 + (-21)) ∧ Is ρ bz48 (x13 + 90000) ∧ Is ρ bz50 (r29) ∧ Is ρ bz53 (r29 + r31) ∧ Is ρ bz62 ((-3) * r29 + z32 + 90000) ∧ Is ρ bz69 ((-4) * r29 + (-4) * r31 + x13 + (-1) * z33 + 90000) ∧ Is ρ bz70 (90000) ∧ Is ρ bz71 (x13 + 90000) ∧ Is ρ bz74 (q34 + x3) ∧ Is ρ bz77 (w16 + w37 + 300000) ∧ Is ρ bz79 (q40) ∧ Is ρ bz81 (q44) ∧ Is ρ bz83 (u46) ∧ Is ρ bz84 (z27 + (-1)) ∧ Is ρ bz87 (q48) ∧ Is ρ bz90 (q51) ∧ Is ρ bz96 (z55) ∧ Is ρ bz98 (w22 + w37 + 300000) ∧ Is ρ bz100 (q57) ∧ Is ρ bz102 (q60) ∧ Is ρ bz104 (q62) ∧ Is ρ bz106 (q64) ∧ Is ρ bz115 (z68 + (-21)) ∧ Is ρ bz117 (z20 + 20) ∧ Is ρ bz119 (z20) ∧ Is ρ bz120 (z20 + 40) ∧ Is ρ bz123 (q70) ∧ Is ρ bz126 (q73) ∧ Is ρ bz128 (z55 + 20) ∧ Is ρ bz130 (q75) ∧ Is ρ bz132 (q77) := by
  have h0 : Is ρ bz0 (x1) := Zconv e1 (by omega)
  have h1 : Is ρ bz1 (20 * x1) := Ym (Zc 20) h0 (by omega)
  have h2 : Is ρ bz2 (x2) := Zconv e2 (by omega)
  have h3 : Is ρ bz3 (30 * x2) := Ym (Zc 30) h2 (by omega)
  have h4 : Is ρ bz4 (x3) := Zconv e3 (by omega)
  have h5 : Is ρ bz5 (x4) := Zconv e4 (by omega)
  have h6 : Is ρ bz6 (r2) := Zremp h5 (Zc 60) (by omega) r2e.out
  have h7 : Is ρ bz7 (r2 + x3) := Ya h4 h6 (by omega)
  have h8 : Is ρ bz8 (x5) := Zconv e5 (by omega)
  have h9 : Is ρ bz9 (x6) := Zconv e6 (by omega)
  have h10 : Is ρ bz10 (r4) := Zremp h9 (Zc 60) (by omega) r4e.out
  have h11 : Is ρ bz11 (r4 + x5) := Ya h8 h10 (by omega)
  have h12 : Is ρ bz12 (x7) := Zconv e7 (by omega)
  have h13 : Is ρ bz13 (x7 + 1) := Ya (Zc 1) h12 (by omega)
  have h14 : Is ρ bz14 (x8) := Zconv e8 (by omega)
  have h15 : Is ρ bz15 (r6) := Zremp h14 (Zc 20) (by omega) r6e.out
  have h16 : Is ρ bz16 (r6 + x7 + 1) := Ya h13 h15 (by omega)
  have h17 : Is ρ bz17 (x9) := Zconv e9 (by omega)
  have h18 : Is ρ bz18 (q7) := Zquop h17 (Zc 8) (by omega) (by omega) q7e.out
  have h19 : Is ρ bz19 (x10) := Zconv e10 (by omega)
  have h20 : Is ρ bz20 (q9) := Zquop h19 (Zc 4) (by omega) (by omega) q9e.out
  have h21 : Is ρ bz21 (q7 + q9) := Ya h18 h20 (by omega)
  have h22 : Is ρ bz22 (w13) := by
    have w13s := w13s.out
    exact Zmul h1 h7 (by omega) (((by simp only [Int.add_mul, Int.mul_add, Int.mul_assoc, Int.mul_comm, Int.mul_left_comm, Int.reduceMul, Int.reduceNeg, Int.mul_one, Int.one_mul] <;> omega : (20 * x1) * (r2 + x3) = 20 * (r2 * x1) + 20 * (x1 * x3)).trans (by (try simp only [m11e.out, m12e.out]) <;> omega)).trans w13s)
  have h23 : Is ρ bz23 (w16) := by
    have w16s := w16s.out
    exact Zmul h3 h11 (by omega) (((by simp only [Int.add_mul, Int.mul_add, Int.mul_assoc, Int.mul_comm, Int.mul_left_comm, Int.reduceMul, Int.reduceNeg, Int.mul_one, Int.one_mul] <;> omega : (30 * x2) * (r4 + x5) = 30 * (r4 * x2) + 30 * (x2 * x5)).trans (by (try simp only [m14e.out, m15e.out]) <;> omega)).trans w16s)
  have h24 : Is ρ bz24 (w13 + w16) := Ya h22 h23 (by omega)
  have h25 : Is ρ bz25 (w13 + w16 + 300000) := Ya h24 (Zc 300000) (by omega)
  have h26 : Is ρ bz26 (w19) := by
    have w19s := w19s.out
    exact Zmul h18 h25 (by omega) (((by simp only [Int.add_mul, Int.mul_add, Int.mul_assoc, Int.mul_comm, Int.mul_left_comm, Int.reduceMul, Int.reduceNeg, Int.mul_one, Int.one_mul] <;> omega : (q7) * (w13 + w16 + 300000) = q7 * w13 + q7 * w16 + 300000 * q7).trans (by (try simp only [m17e.out, m18e.out]) <;> omega)).trans w19s)
  have h31 : Is ρ bz31 (z20) := by
    have z20s := z20s.out
    exact Zru h26 (by omega) (by omega) (by omega) (by omega)
  have h34 : Is ρ bz34 (w21) := by
    have w21s := w21s.out
    exact Zmul h1 h4 (by omega) (((by simp only [Int.add_mul, Int.mul_add, Int.mul_assoc, Int.mul_comm, Int.mul_left_comm, Int.reduceMul, Int.reduceNeg, Int.mul_one, Int.one_mul] <;> omega : (20 * x1) * (x3) = 20 * (x1 * x3)).trans (by (try simp only [m12e.out]) <;> omega)).trans w21s)
  have h35 : Is ρ bz35 (w22) := by
    have w22s := w22s.out
    exact Zmul h3 h8 (by omega) (((by simp only [Int.add_mul, Int.mul_add, Int.mul_assoc, Int.mul_comm, Int.mul_left_comm, Int.reduceMul, Int.reduceNeg, Int.mul_one, Int.one_mul] <;> omega : (30 * x2) * (x5) = 30 * (x2 * x5)).trans (by (try simp only [m15e.out]) <;> omega)).trans w22s)
  have h36 : Is ρ bz36 (w21 + w22) := Ya h34 h35 (by omega)
  have h37 : Is ρ bz37 (w21 + w22 + 300000) := Ya h36 (Zc 300000) (by omega)
  have h32 : Is ρ bz32 ((-1) * u23 + 20000) := by
    have u23s := u23s.out
    exact Zmn h21 (Zc 20000) (by omega)
  have h33 : Is ρ bz33 ((-1) * u23 + 20001) := Ya h32 (Zc 1) (by omega)
  have h38 : Is ρ bz38 (w26) := by
    have w26s := w26s.out
    exact Zmul h33 h37 (by omega) (((by simp only [Int.add_mul, Int.mul_add, Int.mul_assoc, Int.mul_comm, Int.mul_left_comm, Int.reduceMul, Int.reduceNeg, Int.mul_one, Int.one_mul] <;> omega : ((-1) * u23 + 20001) * (w21 + w22 + 300000) = (-1) * (u23 * w21) + (-1) * (u23 * w22) + (-300000) * u23 + 20001 * w21 + 20001 * w22 + 6000300000).trans (by (try simp only [m24e.out, m25e.out]) <;> omega)).trans w26s)
  have h43 : Is ρ bz43 (z27) := by
    have z27s := z27s.out
    exact Zru h38 (by omega) (by omega) (by omega) (by omega)
  have h44 : Is ρ bz44 (z27 + (-1)) := Ys h43 (Zc 1) (by omega)
  have h45 : Is ρ bz45 (z27 + (-21)) := Ys h44 (Zc 20) (by omega)
  have h46 : Is ρ bz46 (z27 + (-21)) := Zmn h45 (Zc 10000000000000) (by omega)
  have h47 : Is ρ bz47 (x13) := Zconv e13 (by omega)
  have h48 : Is ρ bz48 (x13 + 90000) := Ya (Zc 90000) h47 (by omega)
  have h49 : Is ρ bz49 (x11) := Zconv e11 (by omega)
  have h50 : Is ρ bz50 (r29) := Zremp h49 (Zc 9) (by omega) r29e.out
  have h51 : Is ρ bz51 (x12) := Zconv e12 (by omega)
  have h52 : Is ρ bz52 (r31) := Zremp h51 (Zc 5) (by omega) r31e.out
  have h53 : Is ρ bz53 (r29 + r31) := Ya h50 h52 (by omega)
  have h54 : Is ρ bz54 (7 * r29) := Ym h50 (Zc 7) (by omega)
  have h55 : Is ρ bz55 ((-7) * r29) := Ys (Zc 0) h54 (by omega)
  have h60 : Is ρ bz60 ((-3) * r29 + z32) := by
    have z32s := z32s.out
    exact Zru h55 (by omega) (by omega) (by omega) (by omega)
  have h61 : Is ρ bz61 (3 * r29 + (-1) * z32) := Ys (Zc 0) h60 (by omega)
  have h62 : Is ρ bz62 ((-3) * r29 + z32 + 90000) := Ys (Zc 90000) h61 (by omega)
  have h63 : Is ρ bz63 (7 * r29 + 7 * r31) := Ym h53 (Zc 7) (by omega)
  have h68 : Is ρ bz68 (4 * r29 + 4 * r31 + z33) := by
    have z33s := z33s.out
    exact Zru h63 (by omega) (by omega) (by omega) (by omega)
  have h69 : Is ρ bz69 ((-4) * r29 + (-4) * r31 + x13 + (-1) * z33 + 90000) := Ys h48 h68 (by omega)
  have h70 : Is ρ bz70 (90000) := Ya h62 h61 (by omega)
  have h71 : Is ρ bz71 (x13 + 90000) := Ya h69 h68 (by omega)
  have h72 : Is ρ bz72 (r2) := Ys h7 h4 (by omega)
  have h73 : Is ρ bz73 (q34) := Zquop h72 (Zc 2) (by omega) (by omega) q34e.out
  have h74 : Is ρ bz74 (q34 + x3) := Ya h4 h73 (by omega)
  have h75 : Is ρ bz75 (w37) := by
    have w37s := w37s.out
    exact Zmul h1 h74 (by omega) (((by simp only [Int.add_mul, Int.mul_add, Int.mul_assoc, Int.mul_comm, Int.mul_left_comm, Int.reduceMul, Int.reduceNeg, Int.mul_one, Int.one_mul] <;> omega : (20 * x1) * (q34 + x3) = 20 * (q34 * x1) + 20 * (x1 * x3)).trans (by (try simp only [m36e.out, m12e.out]) <;> omega)).trans w37s)
  have h76 : Is ρ bz76 (w16 + w37) := Ya h75 h23 (by omega)
  have h77 : Is ρ bz77 (w16 + w37 + 300000) := Ya h76 (Zc 300000) (by omega)
  have h78 : Is ρ bz78 (q40) := by
    have w38s := w38s.out
    have w39s := w39s.out
    exact Ztq (w38s ▸ (Zc 0)) (w39s ▸ h77) q40e.out (by omega)
  have h79 : Is ρ bz79 (q40) := Ya (Zc 0) h78 (by omega)
  have h80 : Is ρ bz80 (q44) := by
    have w42s := w42s.out
    have w43s := w43s.out
    exact Ztq (w42s ▸ (Zc 20000)) (w43s ▸ h37) q44e.out (by omega)
  have h81 : Is ρ bz81 (q44) := Ya (Zc 0) h80 (by omega)
  have h82 : Is ρ bz82 (z27 + (-41)) := Ys h46 (Zc 20) (by omega)
  have h83 : Is ρ bz83 (u46) := by
    have u46s := u46s.out
    exact Zmx (Zc 0) h82 (by omega)
  have h84 : Is ρ bz84 (z27 + (-1)) := Ya h46 (Zc 20) (by omega)
  have h85 : Is ρ bz85 (1000 * u46) := Ym (Zc 1000) h83 (by omega)
  have h86 : Is ρ bz86 (q48) := by
    have w47s := w47s.out
    have w39s := w39s.out
    exact Ztq (w47s ▸ h85) (w39s ▸ h77) q48e.out (by omega)
  have h87 : Is ρ bz87 (q48) := Ya (Zc 0) h86 (by omega)
  have h88 : Is ρ bz88 (1000 * z27 + (-1000)) := Ym (Zc 1000) h84 (by omega)
  have h89 : Is ρ bz89 (q51) := by
    have w50s := w50s.out
    have w43s := w43s.out
    exact Ztq (w50s ▸ h88) (w43s ▸ h37) q51e.out (by omega)
  have h90 : Is ρ bz90 (q51) := Ya (Zc 0) h89 (by omega)
  have h91 : Is ρ bz91 (w54) := by
    have w54s := w54s.out
    exact Zmul h18 h77 (by omega) (((by simp only [Int.add_mul, Int.mul_add, Int.mul_assoc, Int.mul_comm, Int.mul_left_comm, Int.reduceMul, Int.reduceNeg, Int.mul_one, Int.one_mul] <;> omega : (q7) * (w16 + w37 + 300000) = q7 * w16 + q7 * w37 + 300000 * q7).trans (by (try simp only [m18e.out, m53e.out]) <;> omega)).trans w54s)
  have h96 : Is ρ bz96 (z55) := by
    have z55s := z55s.out
    exact Zru h91 (by omega) (by omega) (by omega) (by omega)
  have h97 : Is ρ bz97 (w22 + w37) := Ya h75 h35 (by omega)
  have h98 : Is ρ bz98 (w22 + w37 + 300000) := Ya h97 (Zc 300000) (by omega)
  have h99 : Is ρ bz99 (q57) := by
    have w38s := w38s.out
    have w56s := w56s.out
    exact Ztq (w38s ▸ (Zc 0)) (w56s ▸ h25) q57e.out (by omega)
  have h100 : Is ρ bz100 (q57) := Ya (Zc 0) h99 (by omega)
  have h101 : Is ρ bz101 (q60) := by
    have w42s := w42s.out
    have w59s := w59s.out
    exact Ztq (w42s ▸ (Zc 20000)) (w59s ▸ h98) q60e.out (by omega)
  have h102 : Is ρ bz102 (q60) := Ya (Zc 0) h101 (by omega)
  have h103 : Is ρ bz103 (q62) := by
    have w47s := w47s.out
    have w56s := w56s.out
    exact Ztq (w47s ▸ h85) (w56s ▸ h25) q62e.out (by omega)
  have h104 : Is ρ bz104 (q62) := Ya (Zc 0) h103 (by omega)
  have h105 : Is ρ bz105 (q64) := by
    have w50s := w50s.out
    have w59s := w59s.out
    exact Ztq (w50s ▸ h88) (w59s ▸ h98) q64e.out (by omega)
  have h106 : Is ρ bz106 (q64) := Ya (Zc 0) h105 (by omega)
  have h107 : Is ρ bz107 (w67) := by
    have w67s := w67s.out
    exact Zmul h33 h98 (by omega) (((by simp only [Int.add_mul, Int.mul_add, Int.mul_assoc, Int.mul_comm, Int.mul_left_comm, Int.reduceMul, Int.reduceNeg, Int.mul_one, Int.one_mul] <;> omega : ((-1) * u23 + 20001) * (w22 + w37 + 300000) = (-1) * (u23 * w22) + (-1) * (u23 * w37) + (-300000) * u23 + 20001 * w22 + 20001 * w37 + 6000300000).trans (by (try simp only [m25e.out, m66e.out]) <;> omega)).trans w67s)
  have h112 : Is ρ bz112 (z68) := by
    have z68s := z68s.out
    exact Zru h107 (by omega) (by omega) (by omega) (by omega)
  have h113 : Is ρ bz113 (z68 + (-1)) := Ys h112 (Zc 1) (by omega)
  have h114 : Is ρ bz114 (z68 + (-21)) := Ys h113 (Zc 20) (by omega)
  have h115 : Is ρ bz115 (z68 + (-21)) := Zmn h114 (Zc 10000000000000) (by omega)
  have h116 : Is ρ bz116 (z20 + 20) := Ys h31 (Zc (-20)) (by omega)
  have h117 : Is ρ bz117 (z20 + 20) := Zmx h116 (Zc 0) (by omega)
  have h118 : Is ρ bz118 (z20) := Ys h117 (Zc 20) (by omega)
  have h119 : Is ρ bz119 (z20) := Zmx (Zc 0) h118 (by omega)
  have h120 : Is ρ bz120 (z20 + 40) := Ya h117 (Zc 20) (by omega)
  have h121 : Is ρ bz121 (1000 * z20) := Ym (Zc 1000) h119 (by omega)
  have h122 : Is ρ bz122 (q70) := by
    have w69s := w69s.out
    have w39s := w39s.out
    exact Ztq (w69s ▸ h121) (w39s ▸ h77) q70e.out (by omega)
  have h123 : Is ρ bz123 (q70) := Ya (Zc 0) h122 (by omega)
  have h124 : Is ρ bz124 (1000 * z20 + 40000) := Ym (Zc 1000) h120 (by omega)
  have h125 : Is ρ bz125 (q73) := by
    have w72s := w72s.out
    have w43s := w43s.out
    exact Ztq (w72s ▸ h124) (w43s ▸ h37) q73e.out (by omega)
  have h126 : Is ρ bz126 (q73) := Ya (Zc 0) h125 (by omega)
  have h127 : Is ρ bz127 (z55 + 20) := Ys h96 (Zc (-20)) (by omega)
  have h128 : Is ρ bz128 (z55 + 20) := Zmx h127 (Zc 0) (by omega)
  have h129 : Is ρ bz129 (q75) := by
    have w69s := w69s.out
    have w56s := w56s.out
    exact Ztq (w69s ▸ h121) (w56s ▸ h25) q75e.out (by omega)
  have h130 : Is ρ bz130 (q75) := Ya (Zc 0) h129 (by omega)
  have h131 : Is ρ bz131 (q77) := by
    have w72s := w72s.out
    have w59s := w59s.out
    exact Ztq (w72s ▸ h124) (w59s ▸ h98) q77e.out (by omega)
  have h132 : Is ρ bz132 (q77) := Ya (Zc 0) h131 (by omega)
  exact ⟨h1, h3, h4, h7, h8, h11, h13, h16, h18, h21, h25, h31, h37, h46, h48, h50, h53, h62, h69, h70, h71, h74, h77, h79, h81, h83, h84, h87, h90, h96, h98, h100, h102, h104, h106, h115, h117, h119, h120, h123, h126, h128, h130, h132⟩
theorem bz_d0 {z27 u23 w21 w22 w26 m24 m25 : Int} (b_u23 : 0 ≤ u23 ∧ u23 ≤ 20000) (b_w21 : 0 ≤ w21 ∧ w21 ≤ 1300500) (b_w22 : 0 ≤ w22 ∧ w22 ≤ 1950750) (z27s : w26 ≤ 1000 * z27 ∧ 1000 * z27 ≤ w26 + 999) (w26s : (-1) * m24 + (-1) * m25 + (-300000) * u23 + 20001 * w21 + 20001 * w22 + 6000300000 = w26) (m24f3 : m24 ≤ (20000) * w21 + (0) * u23 - (0)) (m25f3 : m25 ≤ (20000) * w22 + (0) * u23 - (0)) : (0 : Int) ≤ z27 + (-21) := by omega
theorem bz_d1 {u46 z27 u23 w21 w22 w26 m24 m25 : Int} (b_u23 : 0 ≤ u23 ∧ u23 ≤ 20000) (b_w21 : 0 ≤ w21 ∧ w21 ≤ 1300500) (b_w22 : 0 ≤ w22 ∧ w22 ≤ 1950750) (u46s : max (z27 + (-41)) 0 = u46) (z27s : w26 ≤ 1000 * z27 ∧ 1000 * z27 ≤ w26 + 999) (w26s : (-1) * m24 + (-1) * m25 + (-300000) * u23 + 20001 * w21 + 20001 * w22 + 6000300000 = w26) (m24f3 : m24 ≤ (20000) * w21 + (0) * u23 - (0)) (m25f3 : m25 ≤ (20000) * w22 + (0) * u23 - (0)) : (u46 : Int) ≤ z27 + (-1) := by omega
theorem bz_d2 {q34 x3 r2 : Int}  (rf1 : 0 ≤ (-1) * q34 + r2) : (q34 + x3 : Int) ≤ r2 + x3 := by omega
theorem bz_d3 {z68 u23 w22 w37 w67 m25 m66 : Int} (b_u23 : 0 ≤ u23 ∧ u23 ≤ 20000) (b_w22 : 0 ≤ w22 ∧ w22 ≤ 1950750) (b_w37 : 0 ≤ w37 ∧ w37 ≤ 1448400) (z68s : w67 ≤ 1000 * z68 ∧ 1000 * z68 ≤ w67 + 999) (w67s : (-1) * m25 + (-1) * m66 + (-300000) * u23 + 20001 * w22 + 20001 * w37 + 6000300000 = w67) (m25f3 : m25 ≤ (20000) * w22 + (0) * u23 - (0)) (m66f3 : m66 ≤ (20000) * w37 + (0) * u23 - (0)) : (0 : Int) ≤ z68 + (-21) := by omega
theorem bz_d4 {z27 z68 w26 w67 m24 m25 u23 w21 w22 m66 w37 : Int}  (z27s : w26 ≤ 1000 * z27 ∧ 1000 * z27 ≤ w26 + 999) (z68s : w67 ≤ 1000 * z68 ∧ 1000 * z68 ≤ w67 + 999) (w26s : (-1) * m24 + (-1) * m25 + (-300000) * u23 + 20001 * w21 + 20001 * w22 + 6000300000 = w26) (w67s : (-1) * m25 + (-1) * m66 + (-300000) * u23 + 20001 * w22 + 20001 * w37 + 6000300000 = w67) (rf3_0 : 0 ≤ m24 + (-1) * m66 + (-20001) * w21 + 20001 * w37) : (z27 + (-21) : Int) ≤ z68 + (-21) := by omega
theorem bz_d5 {z55 z20 w54 w19 m18 m53 q7 m17 : Int}  (z55s : w54 ≤ 1000 * z55 ∧ 1000 * z55 ≤ w54 + 999) (z20s : w19 ≤ 1000 * z20 ∧ 1000 * z20 ≤ w19 + 999) (w54s : m18 + m53 + 300000 * q7 = w54) (w19s : m17 + m18 + 300000 * q7 = w19) (rf2_0 : 0 ≤ m17 + (-1) * m53) : (z55 + 20 : Int) ≤ z20 + 20 := by omega
theorem bz_t6 {x1 : Int} (b_x1 : 0 ≤ x1 ∧ x1 ≤ 255) : (0 : Int) ≤ 20 * x1 := by omega
theorem bz_t7 {x1 : Int} (b_x1 : 0 ≤ x1 ∧ x1 ≤ 255) : (20 * x1 : Int) ≤ 100000 := by omega
theorem bz_t8 {x2 : Int} (b_x2 : 0 ≤ x2 ∧ x2 ≤ 255) : (0 : Int) ≤ 30 * x2 := by omega
theorem bz_t9 {x2 : Int} (b_x2 : 0 ≤ x2 ∧ x2 ≤ 255) : (30 * x2 : Int) ≤ 100000 := by omega
theorem bz_t10 {x3 : Int} (b_x3 : 0 ≤ x3 ∧ x3 ≤ 255) : (0 : Int) ≤ x3 := by omega
theorem bz_t11 {x3 r2 : Int} (b_x3 : 0 ≤ x3 ∧ x3 ≤ 255) (b_r2 : 0 ≤ r2 ∧ r2 ≤ 59) : (x3 : Int) ≤ r2 + x3 := by omega
theorem bz_t12 {r2 x3 : Int} (b_r2 : 0 ≤ r2 ∧ r2 ≤ 59) (b_x3 : 0 ≤ x3 ∧ x3 ≤ 255) : (r2 + x3 : Int) ≤ 1000 := by omega
theorem bz_t13 {x5 : Int} (b_x5 : 0 ≤ x5 ∧ x5 ≤ 255) : (0 : Int) ≤ x5 := by omega
theorem bz_t14 {x5 r4 : Int} (b_x5 : 0 ≤ x5 ∧ x5 ≤ 255) (b_r4 : 0 ≤ r4 ∧ r4 ≤ 59) : (x5 : Int) ≤ r4 + x5 := by omega
theorem bz_t15 {r4 x5 : Int} (b_r4 : 0 ≤ r4 ∧ r4 ≤ 59) (b_x5 : 0 ≤ x5 ∧ x5 ≤ 255) : (r4 + x5 : Int) ≤ 1000 := by omega
theorem bz_t16 {x7 : Int} (b_x7 : 0 ≤ x7 ∧ x7 ≤ 255) : (1 : Int) ≤ x7 + 1 := by omega
theorem bz_t17 {x7 r6 : Int} (b_x7 : 0 ≤ x7 ∧ x7 ≤ 255) (b_r6 : 0 ≤ r6 ∧ r6 ≤ 19) : (x7 + 1 : Int) ≤ r6 + x7 + 1 := by omega
theorem bz_t18 {r6 x7 : Int} (b_r6 : 0 ≤ r6 ∧ r6 ≤ 19) (b_x7 : 0 ≤ x7 ∧ x7 ≤ 255) : (r6 + x7 + 1 : Int) ≤ 100000 := by omega
theorem bz_t19 {q7 : Int} (b_q7 : 0 ≤ q7 ∧ q7 ≤ 8191) : (0 : Int) ≤ q7 := by omega
theorem bz_t20 {q7 q9 : Int} (b_q7 : 0 ≤ q7 ∧ q7 ≤ 8191) (b_q9 : 0 ≤ q9 ∧ q9 ≤ 16383) : (q7 : Int) ≤ q7 + q9 := by omega
theorem bz_t21 {q7 q9 : Int} (b_q7 : 0 ≤ q7 ∧ q7 ≤ 8191) (b_q9 : 0 ≤ q9 ∧ q9 ≤ 16383) : (q7 + q9 : Int) ≤ 100000000 := by omega
theorem bz_t22 {x13 : Int} (b_x13 : 0 ≤ x13 ∧ x13 ≤ 255) : (90000 : Int) ≤ x13 + 90000 := by omega
theorem bz_t23 {x13 : Int} (b_x13 : 0 ≤ x13 ∧ x13 ≤ 255) : (x13 + 90000 : Int) ≤ 20000000 := by omega
theorem bz_t24 {r29 : Int} (b_r29 : 0 ≤ r29 ∧ r29 ≤ 8) : (0 : Int) ≤ r29 := by omega
theorem bz_t25 {r29 r31 : Int} (b_r29 : 0 ≤ r29 ∧ r29 ≤ 8) (b_r31 : 0 ≤ r31 ∧ r31 ≤ 4) : (r29 : Int) ≤ r29 + r31 := by omega
theorem bz_t26 {r29 r31 : Int} (b_r29 : 0 ≤ r29 ∧ r29 ≤ 8) (b_r31 : 0 ≤ r31 ∧ r31 ≤ 4) : (r29 + r31 : Int) ≤ 10000 := by omega
theorem bz_t27 {x3 q34 : Int} (b_x3 : 0 ≤ x3 ∧ x3 ≤ 255) (b_q34 : 0 ≤ q34 ∧ q34 ≤ 29) : (x3 : Int) ≤ q34 + x3 := by omega
theorem bz_t28 {q34 x3 : Int} (b_q34 : 0 ≤ q34 ∧ q34 ≤ 29) (b_x3 : 0 ≤ x3 ∧ x3 ≤ 255) : (q34 + x3 : Int) ≤ 1000 := by omega
theorem bz_t29 {w16 w37 : Int} (b_w16 : 0 ≤ w16 ∧ w16 ≤ 2402100) (b_w37 : 0 ≤ w37 ∧ w37 ≤ 1448400) : ¬ ((w16 + w37 + 300000 : Int) = 0) := by omega
theorem bz_t30 {w21 w22 : Int} (b_w21 : 0 ≤ w21 ∧ w21 ≤ 1300500) (b_w22 : 0 ≤ w22 ∧ w22 ≤ 1950750) : ¬ ((w21 + w22 + 300000 : Int) = 0) := by omega
theorem bz_c1 {ρ : Env} {x3 q34 w16 w37 w21 w22 : Int} {t : DT} (h4 : Is ρ bz4 (x3)) (h74 : Is ρ bz74 (q34 + x3)) (h77 : Is ρ bz77 (w16 + w37 + 300000)) (h37 : Is ρ bz37 (w21 + w22 + 300000)) (b_x3 : 0 ≤ x3 ∧ x3 ≤ 255) (b_q34 : 0 ≤ q34 ∧ q34 ≤ 29) (b_w16 : 0 ≤ w16 ∧ w16 ≤ 2402100) (b_w37 : 0 ≤ w37 ∧ w37 ≤ 1448400) (b_w21 : 0 ≤ w21 ∧ w21 ≤ 1300500) (b_w22 : 0 ≤ w22 ∧ w22 ≤ 1950750) (ht : t.goal ρ) : (bzC1 t).goal ρ := by
  unfold bzC1
  refine aT (Pleq h4 h74 (bz_t27 b_x3 b_q34)) ?_
  refine aT (Pleq h74 (Zc 1000) (bz_t28 b_q34 b_x3)) ?_
  refine aF (Neql h77 (Zc 0) (bz_t29 b_w16 b_w37)) ?_
  refine aF (Neql h37 (Zc 0) (bz_t30 b_w21 b_w22)) ?_
  exact ht
theorem bz_d6 {q7 q40 w16 m18 w13 m17 z20 w19 : Int} (b_q40 : 0 ≤ q40 ∧ q40 ≤ 0) (m18f1 : (0) * w16 + (0) * q7 - (0) ≤ m18) (m17f1 : (0) * w13 + (0) * q7 - (0) ≤ m17) (k16 : (z20 : Int) ≤ 0) (z20s : w19 ≤ 1000 * z20 ∧ 1000 * z20 ≤ w19 + 999) (w19s : m17 + m18 + 300000 * q7 = w19) : (q7 : Int) ≤ q40 := by omega
theorem bz_t32 {q44 q7 q9 : Int} (b_q44 : 0 ≤ q44 ∧ q44 ≤ 0) (b_q7 : 0 ≤ q7 ∧ q7 ≤ 8191) (b_q9 : 0 ≤ q9 ∧ q9 ≤ 16383) : (q44 : Int) ≤ q7 + q9 := by omega
theorem bz_t33 {u46 : Int} (b_u46 : 0 ≤ u46 ∧ u46 ≤ 71028511) : (0 : Int) ≤ u46 := by omega
theorem bz_c2 {ρ : Env} {q44 q7 q9 u46 z27 u23 w21 w22 w26 m24 m25 : Int} {t : DT} (h81 : Is ρ bz81 (q44)) (h21 : Is ρ bz21 (q7 + q9)) (h83 : Is ρ bz83 (u46)) (h84 : Is ρ bz84 (z27 + (-1))) (u46s : max (z27 + (-41)) 0 = u46) (z27s : w26 ≤ 1000 * z27 ∧ 1000 * z27 ≤ w26 + 999) (w26s : (-1) * m24 + (-1) * m25 + (-300000) * u23 + 20001 * w21 + 20001 * w22 + 6000300000 = w26) (m24f3 : m24 ≤ (20000) * w21 + (0) * u23 - (0)) (m25f3 : m25 ≤ (20000) * w22 + (0) * u23 - (0)) (b_q44 : 0 ≤ q44 ∧ q44 ≤ 0) (b_q7 : 0 ≤ q7 ∧ q7 ≤ 8191) (b_q9 : 0 ≤ q9 ∧ q9 ≤ 16383) (b_u46 : 0 ≤ u46 ∧ u46 ≤ 71028511) (b_u23 : 0 ≤ u23 ∧ u23 ≤ 20000) (b_w21 : 0 ≤ w21 ∧ w21 ≤ 1300500) (b_w22 : 0 ≤ w22 ∧ w22 ≤ 1950750) (ht : t.goal ρ) : (bzC2 t).goal ρ := by
  unfold bzC2
  refine aT (Pleq h81 h21 (bz_t32 b_q44 b_q7 b_q9)) ?_
  refine aT (Pleq (Zc 0) h83 (bz_t33 b_u46)) ?_
  refine aT (Pleq h83 h84 (bz_d1 b_u23 b_w21 b_w22 u46s z27s w26s m24f3 m25f3)) ?_
  exact ht
theorem bz_t34 {z27 : Int} (b_z27 : -65024700 ≤ z27 ∧ z27 ≤ 71028552) : (z27 + (-1) : Int) ≤ 10000000000000 := by omega
theorem bz_d7 {q7 q48 w16 m18 w13 m17 z20 w19 : Int} (b_q48 : 0 ≤ q48 ∧ q48 ≤ 236761) (m18f1 : (0) * w16 + (0) * q7 - (0) ≤ m18) (m17f1 : (0) * w13 + (0) * q7 - (0) ≤ m17) (k16 : (z20 : Int) ≤ 0) (z20s : w19 ≤ 1000 * z20 ∧ 1000 * z20 ≤ w19 + 999) (w19s : m17 + m18 + 300000 * q7 = w19) : (q7 : Int) ≤ q48 := by omega
theorem bz_d8 {q51 q7 q9 u23 w50 m24 m25 w21 w22 z27 w26 : Int} (b_u23 : 0 ≤ u23 ∧ u23 ≤ 20000) (rf7 : 1 ≤ (-1) * u23 + 20001 ∨ 0 ≤ w50 → (-1) * u23 + 20001 ≤ q51 ∧ (-1) * m24 + (-1) * m25 + (-300000) * u23 + 20001 * w21 + 20001 * w22 + 6000300000 ≤ w50 ∨ q51 + 1 ≤ (-1) * u23 + 20001 ∧ w50 + 1 ≤ (-1) * m24 + (-1) * m25 + (-300000) * u23 + 20001 * w21 + 20001 * w22 + 6000300000) (w50s : 1000 * z27 + (-1000) = w50) (u23s : max ((-1) * q7 + (-1) * q9 + 20000) 0 = u23) (z27s : w26 ≤ 1000 * z27 ∧ 1000 * z27 ≤ w26 + 999) (w26s : (-1) * m24 + (-1) * m25 + (-300000) * u23 + 20001 * w21 + 20001 * w22 + 6000300000 = w26) : (q51 : Int) ≤ q7 + q9 := by omega
theorem bz_d9 {z55 w54 m18 m53 q7 w16 w37 w13 m17 z20 w19 : Int}  (z55s : w54 ≤ 1000 * z55 ∧ 1000 * z55 ≤ w54 + 999) (w54s : m18 + m53 + 300000 * q7 = w54) (m18f1 : (0) * w16 + (0) * q7 - (0) ≤ m18) (m53f4 : m53 ≤ (0) * w37 + (1448400) * q7 - (0)) (m17f1 : (0) * w13 + (0) * q7 - (0) ≤ m17) (k16 : (z20 : Int) ≤ 0) (z20s : w19 ≤ 1000 * z20 ∧ 1000 * z20 ≤ w19 + 999) (w19s : m17 + m18 + 300000 * q7 = w19) : (z55 : Int) ≤ 0 := by omega
theorem bz_t38 {q34 x3 : Int} (b_q34 : 0 ≤ q34 ∧ q34 ≤ 29) (b_x3 : 0 ≤ x3 ∧ x3 ≤ 255) : (0 : Int) ≤ q34 + x3 := by omega
theorem bz_t39 {w13 w16 : Int} (b_w13 : 0 ≤ w13 ∧ w13 ≤ 1601400) (b_w16 : 0 ≤ w16 ∧ w16 ≤ 2402100) : ¬ ((w13 + w16 + 300000 : Int) = 0) := by omega
theorem bz_c3 {ρ : Env} {q34 x3 r2 w13 w16 : Int} {t : DT} (h74 : Is ρ bz74 (q34 + x3)) (h7 : Is ρ bz7 (r2 + x3)) (rf1 : 0 ≤ (-1) * q34 + r2) (h25 : Is ρ bz25 (w13 + w16 + 300000)) (b_q34 : 0 ≤ q34 ∧ q34 ≤ 29) (b_x3 : 0 ≤ x3 ∧ x3 ≤ 255) (b_w13 : 0 ≤ w13 ∧ w13 ≤ 1601400) (b_w16 : 0 ≤ w16 ∧ w16 ≤ 2402100) (ht : t.goal ρ) : (bzC3 t).goal ρ := by
  unfold bzC3
  refine aT (Pleq (Zc 0) h74 (bz_t38 b_q34 b_x3)) ?_
  refine aT (Pleq h74 h7 (bz_d2 rf1)) ?_
  refine aF (Neql h25 (Zc 0) (bz_t39 b_w13 b_w16)) ?_
  exact ht
theorem bz_t40 {w22 w37 : Int} (b_w22 : 0 ≤ w22 ∧ w22 ≤ 1950750) (b_w37 : 0 ≤ w37 ∧ w37 ≤ 1448400) : ¬ ((w22 + w37 + 300000 : Int) = 0) := by omega
theorem bz_d10 {q7 q57 w16 m18 w13 m17 z20 w19 : Int} (b_q57 : 0 ≤ q57 ∧ q57 ≤ 0) (m18f1 : (0) * w16 + (0) * q7 - (0) ≤ m18) (m17f1 : (0) * w13 + (0) * q7 - (0) ≤ m17) (k16 : (z20 : Int) ≤ 0) (z20s : w19 ≤ 1000 * z20 ∧ 1000 * z20 ≤ w19 + 999) (w19s : m17 + m18 + 300000 * q7 = w19) : (q7 : Int) ≤ q57 := by omega
theorem bz_t42 {q60 q7 q9 : Int} (b_q60 : 0 ≤ q60 ∧ q60 ≤ 0) (b_q7 : 0 ≤ q7 ∧ q7 ≤ 8191) (b_q9 : 0 ≤ q9 ∧ q9 ≤ 16383) : (q60 : Int) ≤ q7 + q9 := by omega
theorem bz_d11 {q7 q62 w16 m18 w13 m17 z20 w19 : Int} (b_q62 : 0 ≤ q62 ∧ q62 ≤ 236761) (m18f1 : (0) * w16 + (0) * q7 - (0) ≤ m18) (m17f1 : (0) * w13 + (0) * q7 - (0) ≤ m17) (k16 : (z20 : Int) ≤ 0) (z20s : w19 ≤ 1000 * z20 ∧ 1000 * z20 ≤ w19 + 999) (w19s : m17 + m18 + 300000 * q7 = w19) : (q7 : Int) ≤ q62 := by omega
theorem bz_d12 {q64 q7 q9 u23 w50 m25 m66 w22 w37 z27 m24 w21 w26 : Int} (b_u23 : 0 ≤ u23 ∧ u23 ≤ 20000) (rf11 : 1 ≤ (-1) * u23 + 20001 ∨ 0 ≤ w50 → (-1) * u23 + 20001 ≤ q64 ∧ (-1) * m25 + (-1) * m66 + (-300000) * u23 + 20001 * w22 + 20001 * w37 + 6000300000 ≤ w50 ∨ q64 + 1 ≤ (-1) * u23 + 20001 ∧ w50 + 1 ≤ (-1) * m25 + (-1) * m66 + (-300000) * u23 + 20001 * w22 + 20001 * w37 + 6000300000) (w50s : 1000 * z27 + (-1000) = w50) (u23s : max ((-1) * q7 + (-1) * q9 + 20000) 0 = u23) (rf3_0 : 0 ≤ m24 + (-1) * m66 + (-20001) * w21 + 20001 * w37) (z27s : w26 ≤ 1000 * z27 ∧ 1000 * z27 ≤ w26 + 999) (w26s : (-1) * m24 + (-1) * m25 + (-300000) * u23 + 20001 * w21 + 20001 * w22 + 6000300000 = w26) : (q64 : Int) ≤ q7 + q9 := by omega
theorem bz_c4 {ρ : Env} {z68 u23 w22 w37 w67 m25 m66 z27 w26 m24 w21 : Int} {t : DT} (h115 : Is ρ bz115 (z68 + (-21))) (z68s : w67 ≤ 1000 * z68 ∧ 1000 * z68 ≤ w67 + 999) (w67s : (-1) * m25 + (-1) * m66 + (-300000) * u23 + 20001 * w22 + 20001 * w37 + 6000300000 = w67) (m25f3 : m25 ≤ (20000) * w22 + (0) * u23 - (0)) (m66f3 : m66 ≤ (20000) * w37 + (0) * u23 - (0)) (h46 : Is ρ bz46 (z27 + (-21))) (z27s : w26 ≤ 1000 * z27 ∧ 1000 * z27 ≤ w26 + 999) (w26s : (-1) * m24 + (-1) * m25 + (-300000) * u23 + 20001 * w21 + 20001 * w22 + 6000300000 = w26) (rf3_0 : 0 ≤ m24 + (-1) * m66 + (-20001) * w21 + 20001 * w37) (b_u23 : 0 ≤ u23 ∧ u23 ≤ 20000) (b_w22 : 0 ≤ w22 ∧ w22 ≤ 1950750) (b_w37 : 0 ≤ w37 ∧ w37 ≤ 1448400) (ht : t.goal ρ) : (bzC4 t).goal ρ := by
  unfold bzC4
  refine aT (Pleq (Zc 0) h115 (bz_d3 b_u23 b_w22 b_w37 z68s w67s m25f3 m66f3)) ?_
  refine aT (Pleq h46 h115 (bz_d4 z27s z68s w26s w67s rf3_0)) ?_
  exact ht
theorem bz_t45 {r29 z32 : Int} (b_r29 : 0 ≤ r29 ∧ r29 ≤ 8) (b_z32 : -4 ≤ z32 ∧ z32 ≤ 0) : ((-20000000) : Int) ≤ (-3) * r29 + z32 + 90000 := by omega
theorem bz_t46 {r29 r31 x13 z33 : Int} (b_r29 : 0 ≤ r29 ∧ r29 ≤ 8) (b_r31 : 0 ≤ r31 ∧ r31 ≤ 4) (b_x13 : 0 ≤ x13 ∧ x13 ≤ 255) (b_z33 : -6 ≤ z33 ∧ z33 ≤ 0) : ((-4) * r29 + (-4) * r31 + x13 + (-1) * z33 + 90000 : Int) ≤ 20000000 := by omega
theorem bz_t47  : (90000 : Int) ≤ 90000 := by omega
theorem bz_t48 {x13 : Int} (b_x13 : 0 ≤ x13 ∧ x13 ≤ 255) : (x13 + 90000 : Int) ≤ x13 + 90000 := by omega
theorem bz_c0 {ρ : Env} {r29 z32 r31 x13 z33 : Int} {t : DT} (h62 : Is ρ bz62 ((-3) * r29 + z32 + 90000)) (h69 : Is ρ bz69 ((-4) * r29 + (-4) * r31 + x13 + (-1) * z33 + 90000)) (h70 : Is ρ bz70 (90000)) (h71 : Is ρ bz71 (x13 + 90000)) (h48 : Is ρ bz48 (x13 + 90000)) (b_r29 : 0 ≤ r29 ∧ r29 ≤ 8) (b_z32 : -4 ≤ z32 ∧ z32 ≤ 0) (b_r31 : 0 ≤ r31 ∧ r31 ≤ 4) (b_x13 : 0 ≤ x13 ∧ x13 ≤ 255) (b_z33 : -6 ≤ z33 ∧ z33 ≤ 0) (ht : t.goal ρ) : (bzC0 t).goal ρ := by
  unfold bzC0
  refine aT (Pleq (Zc (-20000000)) h62 (bz_t45 b_r29 b_z32)) ?_
  refine aT (Pleq h69 (Zc 20000000) (bz_t46 b_r29 b_r31 b_x13 b_z33)) ?_
  refine aT (Pleq (Zc 90000) h70 (bz_t47 )) ?_
  refine aT (Pleq h71 h48 (bz_t48 b_x13)) ?_
  exact ht
theorem bz_c5 {ρ : Env} {x13 r29 r31 : Int} {t : DT} (h48 : Is ρ bz48 (x13 + 90000)) (h50 : Is ρ bz50 (r29)) (h53 : Is ρ bz53 (r29 + r31)) (b_x13 : 0 ≤ x13 ∧ x13 ≤ 255) (b_r29 : 0 ≤ r29 ∧ r29 ≤ 8) (b_r31 : 0 ≤ r31 ∧ r31 ≤ 4) (ht : t.goal ρ) : (bzC5 t).goal ρ := by
  unfold bzC5
  refine aT (Pleq (Zc 90000) h48 (bz_t22 b_x13)) ?_
  refine aT (Pleq h48 (Zc 20000000) (bz_t23 b_x13)) ?_
  refine aT (Pleq (Zc 0) h50 (bz_t24 b_r29)) ?_
  refine aT (Pleq h50 h53 (bz_t25 b_r29 b_r31)) ?_
  refine aT (Pleq h53 (Zc 10000) (bz_t26 b_r29 b_r31)) ?_
  exact ht
theorem bz_t49 {z20 : Int} (b_z20 : 0 ≤ z20 ∧ z20 ≤ 35249969) : (0 : Int) ≤ z20 := by omega
theorem bz_t50 {z20 : Int} (b_z20 : 0 ≤ z20 ∧ z20 ≤ 35249969) : (z20 : Int) ≤ z20 + 40 := by omega
theorem bz_t51 {z20 : Int} (b_z20 : 0 ≤ z20 ∧ z20 ≤ 35249969) : (z20 + 40 : Int) ≤ 10000000000000 := by omega
theorem bz_c6 {ρ : Env} {x3 q34 z20 : Int} {t : DT} (h4 : Is ρ bz4 (x3)) (h74 : Is ρ bz74 (q34 + x3)) (h119 : Is ρ bz119 (z20)) (h120 : Is ρ bz120 (z20 + 40)) (b_x3 : 0 ≤ x3 ∧ x3 ≤ 255) (b_q34 : 0 ≤ q34 ∧ q34 ≤ 29) (b_z20 : 0 ≤ z20 ∧ z20 ≤ 35249969) (ht : t.goal ρ) : (bzC6 t).goal ρ := by
  unfold bzC6
  refine aT (Pleq h4 h74 (bz_t27 b_x3 b_q34)) ?_
  refine aT (Pleq h74 (Zc 1000) (bz_t28 b_q34 b_x3)) ?_
  refine aT (Pleq (Zc 0) h119 (bz_t49 b_z20)) ?_
  refine aT (Pleq h119 h120 (bz_t50 b_z20)) ?_
  refine aT (Pleq h120 (Zc 10000000000000) (bz_t51 b_z20)) ?_
  exact ht
theorem bz_c7 {ρ : Env} {w16 w37 w21 w22 : Int} {t : DT} (h77 : Is ρ bz77 (w16 + w37 + 300000)) (h37 : Is ρ bz37 (w21 + w22 + 300000)) (b_w16 : 0 ≤ w16 ∧ w16 ≤ 2402100) (b_w37 : 0 ≤ w37 ∧ w37 ≤ 1448400) (b_w21 : 0 ≤ w21 ∧ w21 ≤ 1300500) (b_w22 : 0 ≤ w22 ∧ w22 ≤ 1950750) (ht : t.goal ρ) : (bzC7 t).goal ρ := by
  unfold bzC7
  refine aF (Neql h77 (Zc 0) (bz_t29 b_w16 b_w37)) ?_
  refine aF (Neql h37 (Zc 0) (bz_t30 b_w21 b_w22)) ?_
  exact ht
theorem bz_d13 {q7 q70 w69 m18 m53 m17 z20 w19 : Int} (b_w69 : 0 ≤ w69 ∧ w69 ≤ 35249969000) (rf12 : 1 ≤ q7 ∨ 0 ≤ w69 → q7 ≤ q70 ∧ m18 + m53 + 300000 * q7 ≤ w69 ∨ q70 + 1 ≤ q7 ∧ w69 + 1 ≤ m18 + m53 + 300000 * q7) (rf2_0 : 0 ≤ m17 + (-1) * m53) (w69s : 1000 * z20 = w69) (z20s : w19 ≤ 1000 * z20 ∧ 1000 * z20 ≤ w19 + 999) (w19s : m17 + m18 + 300000 * q7 = w19) : (q7 : Int) ≤ q70 := by omega
theorem bz_d14 {q73 q7 q9 u23 w72 m24 m25 w21 w22 z20 z27 w26 : Int} (b_u23 : 0 ≤ u23 ∧ u23 ≤ 20000) (rf13 : 1 ≤ (-1) * u23 + 20001 ∨ 0 ≤ w72 → (-1) * u23 + 20001 ≤ q73 ∧ (-1) * m24 + (-1) * m25 + (-300000) * u23 + 20001 * w21 + 20001 * w22 + 6000300000 ≤ w72 ∨ q73 + 1 ≤ (-1) * u23 + 20001 ∧ w72 + 1 ≤ (-1) * m24 + (-1) * m25 + (-300000) * u23 + 20001 * w21 + 20001 * w22 + 6000300000) (w72s : 1000 * z20 + 40000 = w72) (u23s : max ((-1) * q7 + (-1) * q9 + 20000) 0 = u23) (k17 : (z20 + 20 : Int) ≤ z27 + (-21)) (z27s : w26 ≤ 1000 * z27 ∧ 1000 * z27 ≤ w26 + 999) (w26s : (-1) * m24 + (-1) * m25 + (-300000) * u23 + 20001 * w21 + 20001 * w22 + 6000300000 = w26) : (q73 : Int) ≤ q7 + q9 := by omega
theorem bz_c8 {ρ : Env} {u46 z27 u23 w21 w22 w26 m24 m25 : Int} {t : DT} (h83 : Is ρ bz83 (u46)) (h84 : Is ρ bz84 (z27 + (-1))) (u46s : max (z27 + (-41)) 0 = u46) (z27s : w26 ≤ 1000 * z27 ∧ 1000 * z27 ≤ w26 + 999) (w26s : (-1) * m24 + (-1) * m25 + (-300000) * u23 + 20001 * w21 + 20001 * w22 + 6000300000 = w26) (m24f3 : m24 ≤ (20000) * w21 + (0) * u23 - (0)) (m25f3 : m25 ≤ (20000) * w22 + (0) * u23 - (0)) (b_u46 : 0 ≤ u46 ∧ u46 ≤ 71028511) (b_u23 : 0 ≤ u23 ∧ u23 ≤ 20000) (b_w21 : 0 ≤ w21 ∧ w21 ≤ 1300500) (b_w22 : 0 ≤ w22 ∧ w22 ≤ 1950750) (ht : t.goal ρ) : (bzC8 t).goal ρ := by
  unfold bzC8
  refine aT (Pleq (Zc 0) h83 (bz_t33 b_u46)) ?_
  refine aT (Pleq h83 h84 (bz_d1 b_u23 b_w21 b_w22 u46s z27s w26s m24f3 m25f3)) ?_
  exact ht
theorem bz_d15 {q7 q48 w47 m18 m53 m17 u46 z20 z27 w19 : Int}  (rf6 : 1 ≤ q7 ∨ 0 ≤ w47 → q7 ≤ q48 ∧ m18 + m53 + 300000 * q7 ≤ w47 ∨ q48 + 1 ≤ q7 ∧ w47 + 1 ≤ m18 + m53 + 300000 * q7) (rf2_0 : 0 ≤ m17 + (-1) * m53) (w47s : 1000 * u46 = w47) (k17 : (z20 + 20 : Int) ≤ z27 + (-21)) (u46s : max (z27 + (-41)) 0 = u46) (z20s : w19 ≤ 1000 * z20 ∧ 1000 * z20 ≤ w19 + 999) (w19s : m17 + m18 + 300000 * q7 = w19) : (q7 : Int) ≤ q48 := by omega
theorem bz_d16 {z55 w54 m18 m53 q7 w16 w37 m17 w13 z20 w19 : Int}  (z55s : w54 ≤ 1000 * z55 ∧ 1000 * z55 ≤ w54 + 999) (w54s : m18 + m53 + 300000 * q7 = w54) (m18f1 : (0) * w16 + (0) * q7 - (0) ≤ m18) (m53f1 : (0) * w37 + (0) * q7 - (0) ≤ m53) (m17f4 : m17 ≤ (0) * w13 + (1601400) * q7 - (0)) (k16 : ¬ ((z20 : Int) ≤ 0)) (z20s : w19 ≤ 1000 * z20 ∧ 1000 * z20 ≤ w19 + 999) (w19s : m17 + m18 + 300000 * q7 = w19) : ¬ ((z55 : Int) ≤ 0) := by omega
theorem bz_d17 {z55 z27 z20 w54 w19 m18 m53 q7 m17 : Int}  (k17 : (z20 + 20 : Int) ≤ z27 + (-21)) (z55s : w54 ≤ 1000 * z55 ∧ 1000 * z55 ≤ w54 + 999) (z20s : w19 ≤ 1000 * z20 ∧ 1000 * z20 ≤ w19 + 999) (w54s : m18 + m53 + 300000 * q7 = w54) (w19s : m17 + m18 + 300000 * q7 = w19) (rf2_0 : 0 ≤ m17 + (-1) * m53) : (z55 + 20 : Int) ≤ z27 + (-21) := by omega
theorem bz_c9 {ρ : Env} {z55 z20 w54 w19 m18 m53 q7 m17 q34 x3 r2 w13 w16 : Int} {t : DT} (h128 : Is ρ bz128 (z55 + 20)) (h117 : Is ρ bz117 (z20 + 20)) (z55s : w54 ≤ 1000 * z55 ∧ 1000 * z55 ≤ w54 + 999) (z20s : w19 ≤ 1000 * z20 ∧ 1000 * z20 ≤ w19 + 999) (w54s : m18 + m53 + 300000 * q7 = w54) (w19s : m17 + m18 + 300000 * q7 = w19) (rf2_0 : 0 ≤ m17 + (-1) * m53) (h74 : Is ρ bz74 (q34 + x3)) (h7 : Is ρ bz7 (r2 + x3)) (rf1 : 0 ≤ (-1) * q34 + r2) (h25 : Is ρ bz25 (w13 + w16 + 300000)) (b_q34 : 0 ≤ q34 ∧ q34 ≤ 29) (b_x3 : 0 ≤ x3 ∧ x3 ≤ 255) (b_w13 : 0 ≤ w13 ∧ w13 ≤ 1601400) (b_w16 : 0 ≤ w16 ∧ w16 ≤ 2402100) (ht : t.goal ρ) : (bzC9 t).goal ρ := by
  unfold bzC9
  refine aT (Pleq h128 h117 (bz_d5 z55s z20s w54s w19s rf2_0)) ?_
  refine aT (Pleq (Zc 0) h74 (bz_t38 b_q34 b_x3)) ?_
  refine aT (Pleq h74 h7 (bz_d2 rf1)) ?_
  refine aF (Neql h25 (Zc 0) (bz_t39 b_w13 b_w16)) ?_
  exact ht
theorem bz_d18 {q7 q75 w69 m17 m18 z20 w19 : Int} (b_w69 : 0 ≤ w69 ∧ w69 ≤ 35249969000) (rf14 : 1 ≤ q7 ∨ 0 ≤ w69 → q7 ≤ q75 ∧ m17 + m18 + 300000 * q7 ≤ w69 ∨ q75 + 1 ≤ q7 ∧ w69 + 1 ≤ m17 + m18 + 300000 * q7) (w69s : 1000 * z20 = w69) (z20s : w19 ≤ 1000 * z20 ∧ 1000 * z20 ≤ w19 + 999) (w19s : m17 + m18 + 300000 * q7 = w19) : (q7 : Int) ≤ q75 := by omega
theorem bz_d19 {q77 q7 q9 u23 w72 m25 m66 w22 w37 z20 m24 w21 z27 w26 : Int} (b_u23 : 0 ≤ u23 ∧ u23 ≤ 20000) (rf15 : 1 ≤ (-1) * u23 + 20001 ∨ 0 ≤ w72 → (-1) * u23 + 20001 ≤ q77 ∧ (-1) * m25 + (-1) * m66 + (-300000) * u23 + 20001 * w22 + 20001 * w37 + 6000300000 ≤ w72 ∨ q77 + 1 ≤ (-1) * u23 + 20001 ∧ w72 + 1 ≤ (-1) * m25 + (-1) * m66 + (-300000) * u23 + 20001 * w22 + 20001 * w37 + 6000300000) (w72s : 1000 * z20 + 40000 = w72) (u23s : max ((-1) * q7 + (-1) * q9 + 20000) 0 = u23) (rf3_0 : 0 ≤ m24 + (-1) * m66 + (-20001) * w21 + 20001 * w37) (k17 : (z20 + 20 : Int) ≤ z27 + (-21)) (z27s : w26 ≤ 1000 * z27 ∧ 1000 * z27 ≤ w26 + 999) (w26s : (-1) * m24 + (-1) * m25 + (-300000) * u23 + 20001 * w21 + 20001 * w22 + 6000300000 = w26) : (q77 : Int) ≤ q7 + q9 := by omega
theorem bz_d20 {q7 q62 w47 m17 m18 u46 z20 z27 w19 : Int}  (rf10 : 1 ≤ q7 ∨ 0 ≤ w47 → q7 ≤ q62 ∧ m17 + m18 + 300000 * q7 ≤ w47 ∨ q62 + 1 ≤ q7 ∧ w47 + 1 ≤ m17 + m18 + 300000 * q7) (w47s : 1000 * u46 = w47) (k17 : (z20 + 20 : Int) ≤ z27 + (-21)) (u46s : max (z27 + (-41)) 0 = u46) (z20s : w19 ≤ 1000 * z20 ∧ 1000 * z20 ≤ w19 + 999) (w19s : m17 + m18 + 300000 * q7 = w19) : (q7 : Int) ≤ q62 := by omega
theorem bz_d21 {z20 z68 z27 w67 w26 m25 m66 u23 w22 w37 m24 w21 : Int}  (k17 : (z20 + 20 : Int) ≤ z27 + (-21)) (z68s : w67 ≤ 1000 * z68 ∧ 1000 * z68 ≤ w67 + 999) (z27s : w26 ≤ 1000 * z27 ∧ 1000 * z27 ≤ w26 + 999) (w67s : (-1) * m25 + (-1) * m66 + (-300000) * u23 + 20001 * w22 + 20001 * w37 + 6000300000 = w67) (w26s : (-1) * m24 + (-1) * m25 + (-300000) * u23 + 20001 * w21 + 20001 * w22 + 6000300000 = w26) (rf3_0 : 0 ≤ m24 + (-1) * m66 + (-20001) * w21 + 20001 * w37) : (z20 + 20 : Int) ≤ z68 + (-21) := by omega
end Go.Proofs.Ytknphpihipkdpaa.Cx
