/- TopRoomTurns: the tests of the law and their arithmetic. Made by tools/cxroot.py. -/
import Derived.Test.YtmekghjgkkjgoaaRoomTT
import Derived.Test.YtmekghjgkkjgoaaCxRoot
set_option linter.unusedSimpArgs false
set_option linter.unusedVariables false
set_option maxRecDepth 100000
set_option maxHeartbeats 4000000
namespace Go.Proofs.Ytmekghjgkkjgoaa.Cx
open Go Go.RowKit

theorem rt_am1 {x1 x3 : Int} (b_x1 : 0 ≤ x1 ∧ x1 ≤ 255) (b_x3 : 0 ≤ x3 ∧ x3 ≤ 255) : ∃ m : Int, Hd (x1 * x3 = m) ∧ ((0) * x3 + (0) * x1 - (0) ≤ m) ∧ ((255) * x3 + (255) * x1 - (65025) ≤ m) ∧ (m ≤ (255) * x3 + (0) * x1 - (0)) ∧ (m ≤ (0) * x3 + (255) * x1 - (0)) ∧ (0 ≤ m ∧ m ≤ 65025) := by
  obtain ⟨h1, h2, h3, h4⟩ := mcc (x := x1) (y := x3) b_x1.1 b_x1.2 b_x3.1 b_x3.2
  refine ⟨_, ⟨rfl⟩, ?_, ?_, ?_, ?_, ?_, ?_⟩ <;> omega
theorem rt_am2 {x2 x3 : Int} (b_x2 : 0 ≤ x2 ∧ x2 ≤ 255) (b_x3 : 0 ≤ x3 ∧ x3 ≤ 255) : ∃ m : Int, Hd (x2 * x3 = m) ∧ ((0) * x3 + (0) * x2 - (0) ≤ m) ∧ ((255) * x3 + (255) * x2 - (65025) ≤ m) ∧ (m ≤ (255) * x3 + (0) * x2 - (0)) ∧ (m ≤ (0) * x3 + (255) * x2 - (0)) ∧ (0 ≤ m ∧ m ≤ 65025) := by
  obtain ⟨h1, h2, h3, h4⟩ := mcc (x := x2) (y := x3) b_x2.1 b_x2.2 b_x3.1 b_x3.2
  refine ⟨_, ⟨rfl⟩, ?_, ?_, ?_, ?_, ?_, ?_⟩ <;> omega
theorem rt_aw3 {m1 m2 x1 x2 x3 : Int} (b_m1 : 0 ≤ m1 ∧ m1 ≤ 65025) (b_m2 : 0 ≤ m2 ∧ m2 ≤ 65025) (b_x1 : 0 ≤ x1 ∧ x1 ≤ 255) (b_x2 : 0 ≤ x2 ∧ x2 ≤ 255) (b_x3 : 0 ≤ x3 ∧ x3 ≤ 255) : ∃ w : Int, (5 * m1 + 5 * m2 + x1 + x2 + 4000 * x3 + 800 = w) ∧ (800 ≤ w ∧ w ≤ 1671560) := ⟨_, rfl, by omega, by omega⟩
theorem rt_am4 {x5 x7 : Int} (b_x5 : 0 ≤ x5 ∧ x5 ≤ 255) (b_x7 : 0 ≤ x7 ∧ x7 ≤ 255) : ∃ m : Int, Hd (x5 * x7 = m) ∧ ((0) * x7 + (0) * x5 - (0) ≤ m) ∧ ((255) * x7 + (255) * x5 - (65025) ≤ m) ∧ (m ≤ (255) * x7 + (0) * x5 - (0)) ∧ (m ≤ (0) * x7 + (255) * x5 - (0)) ∧ (0 ≤ m ∧ m ≤ 65025) := by
  obtain ⟨h1, h2, h3, h4⟩ := mcc (x := x5) (y := x7) b_x5.1 b_x5.2 b_x7.1 b_x7.2
  refine ⟨_, ⟨rfl⟩, ?_, ?_, ?_, ?_, ?_, ?_⟩ <;> omega
theorem rt_am5 {x6 x7 : Int} (b_x6 : 0 ≤ x6 ∧ x6 ≤ 255) (b_x7 : 0 ≤ x7 ∧ x7 ≤ 255) : ∃ m : Int, Hd (x6 * x7 = m) ∧ ((0) * x7 + (0) * x6 - (0) ≤ m) ∧ ((255) * x7 + (255) * x6 - (65025) ≤ m) ∧ (m ≤ (255) * x7 + (0) * x6 - (0)) ∧ (m ≤ (0) * x7 + (255) * x6 - (0)) ∧ (0 ≤ m ∧ m ≤ 65025) := by
  obtain ⟨h1, h2, h3, h4⟩ := mcc (x := x6) (y := x7) b_x6.1 b_x6.2 b_x7.1 b_x7.2
  refine ⟨_, ⟨rfl⟩, ?_, ?_, ?_, ?_, ?_, ?_⟩ <;> omega
theorem rt_aw6 {m4 m5 x5 x6 x7 : Int} (b_m4 : 0 ≤ m4 ∧ m4 ≤ 65025) (b_m5 : 0 ≤ m5 ∧ m5 ≤ 65025) (b_x5 : 0 ≤ x5 ∧ x5 ≤ 255) (b_x6 : 0 ≤ x6 ∧ x6 ≤ 255) (b_x7 : 0 ≤ x7 ∧ x7 ≤ 255) : ∃ w : Int, (5 * m4 + 5 * m5 + x5 + x6 + 4000 * x7 + 800 = w) ∧ (800 ≤ w ∧ w ≤ 1671560) := ⟨_, rfl, by omega, by omega⟩
theorem rt_am7 {x1 x8 : Int} (b_x1 : 0 ≤ x1 ∧ x1 ≤ 255) (b_x8 : 0 ≤ x8 ∧ x8 ≤ 255) : ∃ m : Int, Hd (x1 * x8 = m) ∧ ((0) * x8 + (0) * x1 - (0) ≤ m) ∧ ((255) * x8 + (255) * x1 - (65025) ≤ m) ∧ (m ≤ (255) * x8 + (0) * x1 - (0)) ∧ (m ≤ (0) * x8 + (255) * x1 - (0)) ∧ (0 ≤ m ∧ m ≤ 65025) := by
  obtain ⟨h1, h2, h3, h4⟩ := mcc (x := x1) (y := x8) b_x1.1 b_x1.2 b_x8.1 b_x8.2
  refine ⟨_, ⟨rfl⟩, ?_, ?_, ?_, ?_, ?_, ?_⟩ <;> omega
theorem rt_am8 {x5 x8 : Int} (b_x5 : 0 ≤ x5 ∧ x5 ≤ 255) (b_x8 : 0 ≤ x8 ∧ x8 ≤ 255) : ∃ m : Int, Hd (x5 * x8 = m) ∧ ((0) * x8 + (0) * x5 - (0) ≤ m) ∧ ((255) * x8 + (255) * x5 - (65025) ≤ m) ∧ (m ≤ (255) * x8 + (0) * x5 - (0)) ∧ (m ≤ (0) * x8 + (255) * x5 - (0)) ∧ (0 ≤ m ∧ m ≤ 65025) := by
  obtain ⟨h1, h2, h3, h4⟩ := mcc (x := x5) (y := x8) b_x5.1 b_x5.2 b_x8.1 b_x8.2
  refine ⟨_, ⟨rfl⟩, ?_, ?_, ?_, ?_, ?_, ?_⟩ <;> omega
theorem rt_aw9 {m7 m8 x1 x5 : Int} (b_m7 : 0 ≤ m7 ∧ m7 ≤ 65025) (b_m8 : 0 ≤ m8 ∧ m8 ≤ 65025) (b_x1 : 0 ≤ x1 ∧ x1 ≤ 255) (b_x5 : 0 ≤ x5 ∧ x5 ≤ 255) : ∃ w : Int, ((-8) * m7 + 8 * m8 + 1200 * x1 + (-1200) * x5 = w) ∧ (-826200 ≤ w ∧ w ≤ 826200) := ⟨_, rfl, by omega, by omega⟩
theorem rt_am10 {x1 x9 : Int} (b_x1 : 0 ≤ x1 ∧ x1 ≤ 255) (b_x9 : 0 ≤ x9 ∧ x9 ≤ 255) : ∃ m : Int, Hd (x1 * x9 = m) ∧ ((0) * x9 + (0) * x1 - (0) ≤ m) ∧ ((255) * x9 + (255) * x1 - (65025) ≤ m) ∧ (m ≤ (255) * x9 + (0) * x1 - (0)) ∧ (m ≤ (0) * x9 + (255) * x1 - (0)) ∧ (0 ≤ m ∧ m ≤ 65025) := by
  obtain ⟨h1, h2, h3, h4⟩ := mcc (x := x1) (y := x9) b_x1.1 b_x1.2 b_x9.1 b_x9.2
  refine ⟨_, ⟨rfl⟩, ?_, ?_, ?_, ?_, ?_, ?_⟩ <;> omega
theorem rt_am11 {x5 x9 : Int} (b_x5 : 0 ≤ x5 ∧ x5 ≤ 255) (b_x9 : 0 ≤ x9 ∧ x9 ≤ 255) : ∃ m : Int, Hd (x5 * x9 = m) ∧ ((0) * x9 + (0) * x5 - (0) ≤ m) ∧ ((255) * x9 + (255) * x5 - (65025) ≤ m) ∧ (m ≤ (255) * x9 + (0) * x5 - (0)) ∧ (m ≤ (0) * x9 + (255) * x5 - (0)) ∧ (0 ≤ m ∧ m ≤ 65025) := by
  obtain ⟨h1, h2, h3, h4⟩ := mcc (x := x5) (y := x9) b_x5.1 b_x5.2 b_x9.1 b_x9.2
  refine ⟨_, ⟨rfl⟩, ?_, ?_, ?_, ?_, ?_, ?_⟩ <;> omega
theorem rt_aw12 {m10 m11 m7 m8 x1 x5 : Int} (b_m10 : 0 ≤ m10 ∧ m10 ≤ 65025) (b_m11 : 0 ≤ m11 ∧ m11 ≤ 65025) (b_m7 : 0 ≤ m7 ∧ m7 ≤ 65025) (b_m8 : 0 ≤ m8 ∧ m8 ≤ 65025) (b_x1 : 0 ≤ x1 ∧ x1 ≤ 255) (b_x5 : 0 ≤ x5 ∧ x5 ≤ 255) : ∃ w : Int, ((-8) * m10 + 8 * m11 + (-8) * m7 + 8 * m8 + 1200 * x1 + (-1200) * x5 = w) ∧ (-1346400 ≤ w ∧ w ≤ 1346400) := ⟨_, rfl, by omega, by omega⟩
theorem rt_au13 {w12 w9 : Int} (b_w12 : -1346400 ≤ w12 ∧ w12 ≤ 1346400) (b_w9 : -826200 ≤ w9 ∧ w9 ≤ 826200) : ∃ m : Int, (max ((-1) * w12 + w9) 0 = m) ∧ (0 ≤ m ∧ m ≤ 2172600) := ⟨_, rfl, by omega, by omega⟩
theorem rt_am14 {x2 x8 : Int} (b_x2 : 0 ≤ x2 ∧ x2 ≤ 255) (b_x8 : 0 ≤ x8 ∧ x8 ≤ 255) : ∃ m : Int, Hd (x2 * x8 = m) ∧ ((0) * x8 + (0) * x2 - (0) ≤ m) ∧ ((255) * x8 + (255) * x2 - (65025) ≤ m) ∧ (m ≤ (255) * x8 + (0) * x2 - (0)) ∧ (m ≤ (0) * x8 + (255) * x2 - (0)) ∧ (0 ≤ m ∧ m ≤ 65025) := by
  obtain ⟨h1, h2, h3, h4⟩ := mcc (x := x2) (y := x8) b_x2.1 b_x2.2 b_x8.1 b_x8.2
  refine ⟨_, ⟨rfl⟩, ?_, ?_, ?_, ?_, ?_, ?_⟩ <;> omega
theorem rt_am15 {x6 x8 : Int} (b_x6 : 0 ≤ x6 ∧ x6 ≤ 255) (b_x8 : 0 ≤ x8 ∧ x8 ≤ 255) : ∃ m : Int, Hd (x6 * x8 = m) ∧ ((0) * x8 + (0) * x6 - (0) ≤ m) ∧ ((255) * x8 + (255) * x6 - (65025) ≤ m) ∧ (m ≤ (255) * x8 + (0) * x6 - (0)) ∧ (m ≤ (0) * x8 + (255) * x6 - (0)) ∧ (0 ≤ m ∧ m ≤ 65025) := by
  obtain ⟨h1, h2, h3, h4⟩ := mcc (x := x6) (y := x8) b_x6.1 b_x6.2 b_x8.1 b_x8.2
  refine ⟨_, ⟨rfl⟩, ?_, ?_, ?_, ?_, ?_, ?_⟩ <;> omega
theorem rt_aw16 {m14 m15 x2 x6 : Int} (b_m14 : 0 ≤ m14 ∧ m14 ≤ 65025) (b_m15 : 0 ≤ m15 ∧ m15 ≤ 65025) (b_x2 : 0 ≤ x2 ∧ x2 ≤ 255) (b_x6 : 0 ≤ x6 ∧ x6 ≤ 255) : ∃ w : Int, ((-8) * m14 + 8 * m15 + 1200 * x2 + (-1200) * x6 = w) ∧ (-826200 ≤ w ∧ w ≤ 826200) := ⟨_, rfl, by omega, by omega⟩
theorem rt_am17 {x2 x9 : Int} (b_x2 : 0 ≤ x2 ∧ x2 ≤ 255) (b_x9 : 0 ≤ x9 ∧ x9 ≤ 255) : ∃ m : Int, Hd (x2 * x9 = m) ∧ ((0) * x9 + (0) * x2 - (0) ≤ m) ∧ ((255) * x9 + (255) * x2 - (65025) ≤ m) ∧ (m ≤ (255) * x9 + (0) * x2 - (0)) ∧ (m ≤ (0) * x9 + (255) * x2 - (0)) ∧ (0 ≤ m ∧ m ≤ 65025) := by
  obtain ⟨h1, h2, h3, h4⟩ := mcc (x := x2) (y := x9) b_x2.1 b_x2.2 b_x9.1 b_x9.2
  refine ⟨_, ⟨rfl⟩, ?_, ?_, ?_, ?_, ?_, ?_⟩ <;> omega
theorem rt_am18 {x6 x9 : Int} (b_x6 : 0 ≤ x6 ∧ x6 ≤ 255) (b_x9 : 0 ≤ x9 ∧ x9 ≤ 255) : ∃ m : Int, Hd (x6 * x9 = m) ∧ ((0) * x9 + (0) * x6 - (0) ≤ m) ∧ ((255) * x9 + (255) * x6 - (65025) ≤ m) ∧ (m ≤ (255) * x9 + (0) * x6 - (0)) ∧ (m ≤ (0) * x9 + (255) * x6 - (0)) ∧ (0 ≤ m ∧ m ≤ 65025) := by
  obtain ⟨h1, h2, h3, h4⟩ := mcc (x := x6) (y := x9) b_x6.1 b_x6.2 b_x9.1 b_x9.2
  refine ⟨_, ⟨rfl⟩, ?_, ?_, ?_, ?_, ?_, ?_⟩ <;> omega
theorem rt_aw19 {m14 m15 m17 m18 x2 x6 : Int} (b_m14 : 0 ≤ m14 ∧ m14 ≤ 65025) (b_m15 : 0 ≤ m15 ∧ m15 ≤ 65025) (b_m17 : 0 ≤ m17 ∧ m17 ≤ 65025) (b_m18 : 0 ≤ m18 ∧ m18 ≤ 65025) (b_x2 : 0 ≤ x2 ∧ x2 ≤ 255) (b_x6 : 0 ≤ x6 ∧ x6 ≤ 255) : ∃ w : Int, ((-8) * m14 + 8 * m15 + (-8) * m17 + 8 * m18 + 1200 * x2 + (-1200) * x6 = w) ∧ (-1346400 ≤ w ∧ w ≤ 1346400) := ⟨_, rfl, by omega, by omega⟩
theorem rt_au20 {w16 w19 : Int} (b_w16 : -826200 ≤ w16 ∧ w16 ≤ 826200) (b_w19 : -1346400 ≤ w19 ∧ w19 ≤ 1346400) : ∃ m : Int, (max (w16 + (-1) * w19) 0 = m) ∧ (0 ≤ m ∧ m ≤ 2172600) := ⟨_, rfl, by omega, by omega⟩
theorem rt_am21 {x10 x11 : Int} (b_x10 : 0 ≤ x10 ∧ x10 ≤ 255) (b_x11 : 0 ≤ x11 ∧ x11 ≤ 255) : ∃ m : Int, Hd (x10 * x11 = m) ∧ ((0) * x11 + (0) * x10 - (0) ≤ m) ∧ ((255) * x11 + (255) * x10 - (65025) ≤ m) ∧ (m ≤ (255) * x11 + (0) * x10 - (0)) ∧ (m ≤ (0) * x11 + (255) * x10 - (0)) ∧ (0 ≤ m ∧ m ≤ 65025) := by
  obtain ⟨h1, h2, h3, h4⟩ := mcc (x := x10) (y := x11) b_x10.1 b_x10.2 b_x11.1 b_x11.2
  refine ⟨_, ⟨rfl⟩, ?_, ?_, ?_, ?_, ?_, ?_⟩ <;> omega
theorem rt_aw22 {m21 : Int} (b_m21 : 0 ≤ m21 ∧ m21 ≤ 65025) : ∃ w : Int, (m21 = w) ∧ (0 ≤ w ∧ w ≤ 65025) := ⟨_, rfl, by omega, by omega⟩
theorem rt_aq23 {w22 : Int} (b_w22 : 0 ≤ w22 ∧ w22 ≤ 65025) : ∃ q r : Int, Hd ((w22) / 9 = q) ∧ Hd ((w22) % 9 = r) ∧ (w22 = 9 * q + r) ∧ (0 ≤ q ∧ q ≤ 7225) ∧ (0 ≤ r ∧ r ≤ 8) := ⟨_, _, ⟨rfl⟩, ⟨rfl⟩, by omega, by omega, by omega⟩
theorem rt_am25 {q23 x1 : Int} (b_q23 : 0 ≤ q23 ∧ q23 ≤ 7225) (b_x1 : 0 ≤ x1 ∧ x1 ≤ 255) : ∃ m : Int, Hd (q23 * x1 = m) ∧ ((0) * x1 + (0) * q23 - (0) ≤ m) ∧ ((7225) * x1 + (255) * q23 - (1842375) ≤ m) ∧ (m ≤ (7225) * x1 + (0) * q23 - (0)) ∧ (m ≤ (0) * x1 + (255) * q23 - (0)) ∧ (0 ≤ m ∧ m ≤ 1842375) := by
  obtain ⟨h1, h2, h3, h4⟩ := mcc (x := q23) (y := x1) b_q23.1 b_q23.2 b_x1.1 b_x1.2
  refine ⟨_, ⟨rfl⟩, ?_, ?_, ?_, ?_, ?_, ?_⟩ <;> omega
theorem rt_am26 {q23 x2 : Int} (b_q23 : 0 ≤ q23 ∧ q23 ≤ 7225) (b_x2 : 0 ≤ x2 ∧ x2 ≤ 255) : ∃ m : Int, Hd (q23 * x2 = m) ∧ ((0) * x2 + (0) * q23 - (0) ≤ m) ∧ ((7225) * x2 + (255) * q23 - (1842375) ≤ m) ∧ (m ≤ (7225) * x2 + (0) * q23 - (0)) ∧ (m ≤ (0) * x2 + (255) * q23 - (0)) ∧ (0 ≤ m ∧ m ≤ 1842375) := by
  obtain ⟨h1, h2, h3, h4⟩ := mcc (x := q23) (y := x2) b_q23.1 b_q23.2 b_x2.1 b_x2.2
  refine ⟨_, ⟨rfl⟩, ?_, ?_, ?_, ?_, ?_, ?_⟩ <;> omega
theorem rt_aw27 {m25 m26 q23 : Int} (b_m25 : 0 ≤ m25 ∧ m25 ≤ 1842375) (b_m26 : 0 ≤ m26 ∧ m26 ≤ 1842375) (b_q23 : 0 ≤ q23 ∧ q23 ≤ 7225) : ∃ w : Int, ((-1) * m25 + (-1) * m26 + (-800) * q23 = w) ∧ (-9464750 ≤ w ∧ w ≤ 0) := ⟨_, rfl, by omega, by omega⟩
theorem rt_av28 {u13 u20 w12 w19 : Int} (b_u13 : 0 ≤ u13 ∧ u13 ≤ 2172600) (b_u20 : 0 ≤ u20 ∧ u20 ≤ 2172600) (b_w12 : -1346400 ≤ w12 ∧ w12 ≤ 1346400) (b_w19 : -1346400 ≤ w19 ∧ w19 ≤ 1346400) : ∃ w : Int, (u13 + u20 + w12 + w19 = w) ∧ (-2692800 ≤ w ∧ w ≤ 7038000) := ⟨_, rfl, by omega, by omega⟩
theorem rt_az29 {v28 x1 x2 : Int} (b_v28 : -2692800 ≤ v28 ∧ v28 ≤ 7038000) (b_x1 : 0 ≤ x1 ∧ x1 ≤ 255) (b_x2 : 0 ≤ x2 ∧ x2 ≤ 255) : ∃ z : Int, Hd (v28 ≤ (x1 + x2 + 800) * z ∧ (x1 + x2 + 800) * z ≤ v28 + ((x1 + x2 + 800) - 1)) ∧ (-3366 ≤ z ∧ z ≤ 8798) := by
  obtain ⟨z, h1, h2⟩ := ru_ex (v28) (x1 + x2 + 800) (by omega)
  obtain ⟨h3, h4, h5⟩ := ru_rng (d := 800) (by omega) (by omega : 800 ≤ x1 + x2 + 800) h1 h2
  exact ⟨z, ⟨h1, h2⟩, by omega, by omega⟩
theorem rt_am30 {x1 z29 : Int} (b_x1 : 0 ≤ x1 ∧ x1 ≤ 255) (b_z29 : -3366 ≤ z29 ∧ z29 ≤ 8798) : ∃ m : Int, Hd (x1 * z29 = m) ∧ ((0) * z29 + (-3366) * x1 - (0) ≤ m) ∧ ((255) * z29 + (8798) * x1 - (2243490) ≤ m) ∧ (m ≤ (255) * z29 + (-3366) * x1 - (-858330)) ∧ (m ≤ (0) * z29 + (8798) * x1 - (0)) ∧ (-858330 ≤ m ∧ m ≤ 2243490) := by
  obtain ⟨h1, h2, h3, h4⟩ := mcc (x := x1) (y := z29) b_x1.1 b_x1.2 b_z29.1 b_z29.2
  refine ⟨_, ⟨rfl⟩, ?_, ?_, ?_, ?_, ?_, ?_⟩ <;> omega
theorem rt_am31 {x2 z29 : Int} (b_x2 : 0 ≤ x2 ∧ x2 ≤ 255) (b_z29 : -3366 ≤ z29 ∧ z29 ≤ 8798) : ∃ m : Int, Hd (x2 * z29 = m) ∧ ((0) * z29 + (-3366) * x2 - (0) ≤ m) ∧ ((255) * z29 + (8798) * x2 - (2243490) ≤ m) ∧ (m ≤ (255) * z29 + (-3366) * x2 - (-858330)) ∧ (m ≤ (0) * z29 + (8798) * x2 - (0)) ∧ (-858330 ≤ m ∧ m ≤ 2243490) := by
  obtain ⟨h1, h2, h3, h4⟩ := mcc (x := x2) (y := z29) b_x2.1 b_x2.2 b_z29.1 b_z29.2
  refine ⟨_, ⟨rfl⟩, ?_, ?_, ?_, ?_, ?_, ?_⟩ <;> omega
theorem rt_yz29 {v28 x1 x2 m30 m31 z29 : Int} (h : Hd (v28 ≤ (x1 + x2 + 800) * z29 ∧ (x1 + x2 + 800) * z29 ≤ v28 + ((x1 + x2 + 800) - 1))) (m30e : Hd (x1 * z29 = m30)) (m31e : Hd (x2 * z29 = m31)) : v28 ≤ m30 + m31 + 800 * z29 ∧ m30 + m31 + 800 * z29 ≤ v28 + (x1 + x2 + 800) - 1 := by
  have e1 : (x1 + x2 + 800) * z29 = m30 + m31 + 800 * z29 := ((by simp only [Int.add_mul, Int.mul_add, Int.mul_assoc, Int.mul_comm, Int.mul_left_comm, Int.reduceMul, Int.reduceNeg, Int.mul_one, Int.one_mul] <;> omega : (x1 + x2 + 800) * z29 = x1 * z29 + x2 * z29 + 800 * z29).trans (by (try simp only [m30e.out, m31e.out]) <;> omega))
  obtain ⟨h1, h2⟩ := h.out
  rw [e1] at h1 h2
  omega
theorem rt_aw32 {m30 m31 z29 : Int} (b_m30 : -858330 ≤ m30 ∧ m30 ≤ 2243490) (b_m31 : -858330 ≤ m31 ∧ m31 ≤ 2243490) (b_z29 : -3366 ≤ z29 ∧ z29 ≤ 8798) : ∃ w : Int, ((-1) * m30 + (-1) * m31 + (-800) * z29 = w) ∧ (-11525380 ≤ w ∧ w ≤ 4409460) := ⟨_, rfl, by omega, by omega⟩
set_option maxHeartbeats 40000000 in
theorem rt_g0 {ρ : Env} {x0 x1 x2 x3 w3 m1 m2 x5 x6 x7 w6 m4 m5 x8 x9 w9 m7 m8 w12 m10 m11 u13 w16 m14 m15 w19 m17 m18 u20 x10 x11 w22 m21 q23 w27 m25 m26 z29 v28 w32 m30 m31 : Int} (e0 : Is ρ (.v 0) x0) (e1 : Is ρ (.v 1) x1) (e2 : Is ρ (.v 2) x2) (e3 : Is ρ (.v 3) x3) (m1e : Hd (x1 * x3 = m1)) (m2e : Hd (x2 * x3 = m2)) (w3s : 5 * m1 + 5 * m2 + x1 + x2 + 4000 * x3 + 800 = w3) (e5 : Is ρ (.v 5) x5) (e6 : Is ρ (.v 6) x6) (e7 : Is ρ (.v 7) x7) (m4e : Hd (x5 * x7 = m4)) (m5e : Hd (x6 * x7 = m5)) (w6s : 5 * m4 + 5 * m5 + x5 + x6 + 4000 * x7 + 800 = w6) (e8 : Is ρ (.v 8) x8) (e9 : Is ρ (.v 9) x9) (m7e : Hd (x1 * x8 = m7)) (m8e : Hd (x5 * x8 = m8)) (w9s : (-8) * m7 + 8 * m8 + 1200 * x1 + (-1200) * x5 = w9) (m10e : Hd (x1 * x9 = m10)) (m11e : Hd (x5 * x9 = m11)) (w12s : (-8) * m10 + 8 * m11 + (-8) * m7 + 8 * m8 + 1200 * x1 + (-1200) * x5 = w12) (u13s : max ((-1) * w12 + w9) 0 = u13) (m14e : Hd (x2 * x8 = m14)) (m15e : Hd (x6 * x8 = m15)) (w16s : (-8) * m14 + 8 * m15 + 1200 * x2 + (-1200) * x6 = w16) (m17e : Hd (x2 * x9 = m17)) (m18e : Hd (x6 * x9 = m18)) (w19s : (-8) * m14 + 8 * m15 + (-8) * m17 + 8 * m18 + 1200 * x2 + (-1200) * x6 = w19) (u20s : max (w16 + (-1) * w19) 0 = u20) (e10 : Is ρ (.v 10) x10) (e11 : Is ρ (.v 11) x11) (m21e : Hd (x10 * x11 = m21)) (w22s : m21 = w22) (q23e : Hd ((w22) / 9 = q23)) (m25e : Hd (q23 * x1 = m25)) (m26e : Hd (q23 * x2 = m26)) (w27s : (-1) * m25 + (-1) * m26 + (-800) * q23 = w27) (z29h : Hd (v28 ≤ (x1 + x2 + 800) * z29 ∧ (x1 + x2 + 800) * z29 ≤ v28 + ((x1 + x2 + 800) - 1))) (v28s : u13 + u20 + w12 + w19 = v28) (m30e : Hd (x1 * z29 = m30)) (m31e : Hd (x2 * z29 = m31)) (w32s : (-1) * m30 + (-1) * m31 + (-800) * z29 = w32) (b_x0 : 0 ≤ x0 ∧ x0 ≤ 255) (b_x1 : 0 ≤ x1 ∧ x1 ≤ 255) (b_x2 : 0 ≤ x2 ∧ x2 ≤ 255) (b_x3 : 0 ≤ x3 ∧ x3 ≤ 255) (b_w3 : 800 ≤ w3 ∧ w3 ≤ 1671560) (b_m1 : 0 ≤ m1 ∧ m1 ≤ 65025) (b_m2 : 0 ≤ m2 ∧ m2 ≤ 65025) (b_x5 : 0 ≤ x5 ∧ x5 ≤ 255) (b_x6 : 0 ≤ x6 ∧ x6 ≤ 255) (b_x7 : 0 ≤ x7 ∧ x7 ≤ 255) (b_w6 : 800 ≤ w6 ∧ w6 ≤ 1671560) (b_m4 : 0 ≤ m4 ∧ m4 ≤ 65025) (b_m5 : 0 ≤ m5 ∧ m5 ≤ 65025) (b_x8 : 0 ≤ x8 ∧ x8 ≤ 255) (b_x9 : 0 ≤ x9 ∧ x9 ≤ 255) (b_w9 : -826200 ≤ w9 ∧ w9 ≤ 826200) (b_m7 : 0 ≤ m7 ∧ m7 ≤ 65025) (b_m8 : 0 ≤ m8 ∧ m8 ≤ 65025) (b_w12 : -1346400 ≤ w12 ∧ w12 ≤ 1346400) (b_m10 : 0 ≤ m10 ∧ m10 ≤ 65025) (b_m11 : 0 ≤ m11 ∧ m11 ≤ 65025) (b_u13 : 0 ≤ u13 ∧ u13 ≤ 2172600) (b_w16 : -826200 ≤ w16 ∧ w16 ≤ 826200) (b_m14 : 0 ≤ m14 ∧ m14 ≤ 65025) (b_m15 : 0 ≤ m15 ∧ m15 ≤ 65025) (b_w19 : -1346400 ≤ w19 ∧ w19 ≤ 1346400) (b_m17 : 0 ≤ m17 ∧ m17 ≤ 65025) (b_m18 : 0 ≤ m18 ∧ m18 ≤ 65025) (b_u20 : 0 ≤ u20 ∧ u20 ≤ 2172600) (b_x10 : 0 ≤ x10 ∧ x10 ≤ 255) (b_x11 : 0 ≤ x11 ∧ x11 ≤ 255) (b_w22 : 0 ≤ w22 ∧ w22 ≤ 65025) (b_m21 : 0 ≤ m21 ∧ m21 ≤ 65025) (b_q23 : 0 ≤ q23 ∧ q23 ≤ 7225) (b_w27 : -9464750 ≤ w27 ∧ w27 ≤ 0) (b_m25 : 0 ≤ m25 ∧ m25 ≤ 1842375) (b_m26 : 0 ≤ m26 ∧ m26 ≤ 1842375) (b_z29 : -3366 ≤ z29 ∧ z29 ≤ 8798) (b_v28 : -2692800 ≤ v28 ∧ v28 ≤ 7038000) (b_w32 : -11525380 ≤ w32 ∧ w32 ≤ 4409460) (b_m30 : -858330 ≤ m30 ∧ m30 ≤ 2243490) (b_m31 : -858330 ≤ m31 ∧ m31 ≤ 2243490) : Is ρ rt2 (4 * x0 + 9000) ∧ Is ρ rt4 (x1 + 400) ∧ Is ρ rt6 (x2 + 400) ∧ Is ρ rt8 (5 * x3) ∧ Is ρ rt9 (5 * x3 + 1) ∧ Is ρ rt10 (10 * x3 + 1) ∧ Is ρ rt12 (x1 + x2 + 800) ∧ Is ρ rt13 (w3) ∧ Is ρ rt14 (2000 * x0 + 4500000) ∧ Is ρ rt16 (x5 + 400) ∧ Is ρ rt18 (x6 + 400) ∧ Is ρ rt20 (5 * x7) ∧ Is ρ rt21 (5 * x7 + 1) ∧ Is ρ rt22 (10 * x7 + 1) ∧ Is ρ rt25 (w6) ∧ Is ρ rt28 (8 * x8 + (-1200)) ∧ Is ρ rt31 (8 * x8 + 8 * x9 + (-1200)) ∧ Is ρ rt40 (u13 + u20 + w12 + w19) ∧ Is ρ rt44 (q23) ∧ Is ρ rt45 ((-1) * q23) ∧ Is ρ rt53 ((-1) * u13 + (-1) * u20 + (-1) * w12 + (-1) * w19 + (-1) * w27) ∧ Is ρ rt55 (0) ∧ Is ρ rt59 ((-1) * u13 + (-1) * u20 + (-1) * w12 + (-1) * w19) ∧ Is ρ rt64 (z29) ∧ Is ρ rt65 ((-1) * z29) ∧ Is ρ rt69 ((-1) * u13 + (-1) * u20 + (-1) * w12 + (-1) * w19 + (-1) * w32) := by
  have h0 : Is ρ rt0 (x0) := Zconv e0 (by omega)
  have h1 : Is ρ rt1 (4 * x0) := Ym (Zc 4) h0 (by omega)
  have h2 : Is ρ rt2 (4 * x0 + 9000) := Ya (Zc 9000) h1 (by omega)
  have h3 : Is ρ rt3 (x1) := Zconv e1 (by omega)
  have h4 : Is ρ rt4 (x1 + 400) := Ya (Zc 400) h3 (by omega)
  have h5 : Is ρ rt5 (x2) := Zconv e2 (by omega)
  have h6 : Is ρ rt6 (x2 + 400) := Ya (Zc 400) h5 (by omega)
  have h7 : Is ρ rt7 (x3) := Zconv e3 (by omega)
  have h8 : Is ρ rt8 (5 * x3) := Ym (Zc 5) h7 (by omega)
  have h9 : Is ρ rt9 (5 * x3 + 1) := Ya (Zc 1) h8 (by omega)
  have h10 : Is ρ rt10 (10 * x3 + 1) := Ya h9 h8 (by omega)
  have h12 : Is ρ rt12 (x1 + x2 + 800) := Ya h4 h6 (by omega)
  have h11 : Is ρ rt11 (5 * x3 + 1) := Zmx h9 h8 (by omega)
  have h13 : Is ρ rt13 (w3) := Zmul h11 h12 (by omega) (((by simp only [Int.add_mul, Int.mul_add, Int.mul_assoc, Int.mul_comm, Int.mul_left_comm, Int.reduceMul, Int.reduceNeg, Int.mul_one, Int.one_mul] <;> omega : (5 * x3 + 1) * (x1 + x2 + 800) = 5 * (x1 * x3) + 5 * (x2 * x3) + 4000 * x3 + 1 * x1 + 1 * x2 + 800).trans (by (try simp only [m1e.out, m2e.out]) <;> omega)).trans w3s)
  have h14 : Is ρ rt14 (2000 * x0 + 4500000) := Ym (Zc 500) h2 (by omega)
  have h15 : Is ρ rt15 (x5) := Zconv e5 (by omega)
  have h16 : Is ρ rt16 (x5 + 400) := Ya (Zc 400) h15 (by omega)
  have h17 : Is ρ rt17 (x6) := Zconv e6 (by omega)
  have h18 : Is ρ rt18 (x6 + 400) := Ya (Zc 400) h17 (by omega)
  have h19 : Is ρ rt19 (x7) := Zconv e7 (by omega)
  have h20 : Is ρ rt20 (5 * x7) := Ym (Zc 5) h19 (by omega)
  have h21 : Is ρ rt21 (5 * x7 + 1) := Ya (Zc 1) h20 (by omega)
  have h22 : Is ρ rt22 (10 * x7 + 1) := Ya h21 h20 (by omega)
  have h23 : Is ρ rt23 (5 * x7 + 1) := Zmx h21 h20 (by omega)
  have h24 : Is ρ rt24 (x5 + x6 + 800) := Ya h16 h18 (by omega)
  have h25 : Is ρ rt25 (w6) := Zmul h23 h24 (by omega) (((by simp only [Int.add_mul, Int.mul_add, Int.mul_assoc, Int.mul_comm, Int.mul_left_comm, Int.reduceMul, Int.reduceNeg, Int.mul_one, Int.one_mul] <;> omega : (5 * x7 + 1) * (x5 + x6 + 800) = 5 * (x5 * x7) + 5 * (x6 * x7) + 4000 * x7 + 1 * x5 + 1 * x6 + 800).trans (by (try simp only [m4e.out, m5e.out]) <;> omega)).trans w6s)
  have h26 : Is ρ rt26 (x8) := Zconv e8 (by omega)
  have h27 : Is ρ rt27 (8 * x8) := Ym (Zc 8) h26 (by omega)
  have h28 : Is ρ rt28 (8 * x8 + (-1200)) := Ys h27 (Zc 1200) (by omega)
  have h29 : Is ρ rt29 (x9) := Zconv e9 (by omega)
  have h30 : Is ρ rt30 (8 * x9) := Ym (Zc 8) h29 (by omega)
  have h31 : Is ρ rt31 (8 * x8 + 8 * x9 + (-1200)) := Ya h28 h30 (by omega)
  have h32 : Is ρ rt32 ((-1) * x1 + x5) := Ys h16 h4 (by omega)
  have h33 : Is ρ rt33 (w9) := Zmul h28 h32 (by omega) (((by simp only [Int.add_mul, Int.mul_add, Int.mul_assoc, Int.mul_comm, Int.mul_left_comm, Int.reduceMul, Int.reduceNeg, Int.mul_one, Int.one_mul] <;> omega : (8 * x8 + (-1200)) * ((-1) * x1 + x5) = (-8) * (x1 * x8) + 8 * (x5 * x8) + 1200 * x1 + (-1200) * x5).trans (by (try simp only [m7e.out, m8e.out]) <;> omega)).trans w9s)
  have h34 : Is ρ rt34 (w12) := Zmul h31 h32 (by omega) (((by simp only [Int.add_mul, Int.mul_add, Int.mul_assoc, Int.mul_comm, Int.mul_left_comm, Int.reduceMul, Int.reduceNeg, Int.mul_one, Int.one_mul] <;> omega : (8 * x8 + 8 * x9 + (-1200)) * ((-1) * x1 + x5) = (-8) * (x1 * x8) + 8 * (x5 * x8) + (-8) * (x1 * x9) + 8 * (x5 * x9) + 1200 * x1 + (-1200) * x5).trans (by (try simp only [m7e.out, m8e.out, m10e.out, m11e.out]) <;> omega)).trans w12s)
  have h35 : Is ρ rt35 (u13 + w12) := Zmx h33 h34 (by omega)
  have h36 : Is ρ rt36 ((-1) * x2 + x6) := Ys h18 h6 (by omega)
  have h37 : Is ρ rt37 (w16) := Zmul h28 h36 (by omega) (((by simp only [Int.add_mul, Int.mul_add, Int.mul_assoc, Int.mul_comm, Int.mul_left_comm, Int.reduceMul, Int.reduceNeg, Int.mul_one, Int.one_mul] <;> omega : (8 * x8 + (-1200)) * ((-1) * x2 + x6) = (-8) * (x2 * x8) + 8 * (x6 * x8) + 1200 * x2 + (-1200) * x6).trans (by (try simp only [m14e.out, m15e.out]) <;> omega)).trans w16s)
  have h38 : Is ρ rt38 (w19) := Zmul h31 h36 (by omega) (((by simp only [Int.add_mul, Int.mul_add, Int.mul_assoc, Int.mul_comm, Int.mul_left_comm, Int.reduceMul, Int.reduceNeg, Int.mul_one, Int.one_mul] <;> omega : (8 * x8 + 8 * x9 + (-1200)) * ((-1) * x2 + x6) = (-8) * (x2 * x8) + 8 * (x6 * x8) + (-8) * (x2 * x9) + 8 * (x6 * x9) + 1200 * x2 + (-1200) * x6).trans (by (try simp only [m14e.out, m15e.out, m17e.out, m18e.out]) <;> omega)).trans w19s)
  have h39 : Is ρ rt39 (u20 + w19) := Zmx h37 h38 (by omega)
  have h40 : Is ρ rt40 (u13 + u20 + w12 + w19) := Ya h35 h39 (by omega)
  have h41 : Is ρ rt41 (x10) := Zconv e10 (by omega)
  have h42 : Is ρ rt42 (x11) := Zconv e11 (by omega)
  have h43 : Is ρ rt43 (w22) := Zmul h41 h42 (by omega) (((by simp only [Int.add_mul, Int.mul_add, Int.mul_assoc, Int.mul_comm, Int.mul_left_comm, Int.reduceMul, Int.reduceNeg, Int.mul_one, Int.one_mul] <;> omega : (x10) * (x11) = x10 * x11).trans (by (try simp only [m21e.out]) <;> omega)).trans w22s)
  have h44 : Is ρ rt44 (q23) := Zquop h43 (Zc 9) (by omega) (by omega) q23e.out
  have h45 : Is ρ rt45 ((-1) * q23) := Ys (Zc 0) h44 (by omega)
  have h46 : Is ρ rt46 (0) := Ys h2 h2 (by omega)
  have h47 : Is ρ rt47 (0) := Ym (Zc 500) h46 (by omega)
  have h48 : Is ρ rt48 (0) := Ym (Zc 0) h24 (by omega)
  have h49 : Is ρ rt49 (0) := Ya h47 h48 (by omega)
  have h50 : Is ρ rt50 (w27) := Zmul h45 h12 (by omega) (((by simp only [Int.add_mul, Int.mul_add, Int.mul_assoc, Int.mul_comm, Int.mul_left_comm, Int.reduceMul, Int.reduceNeg, Int.mul_one, Int.one_mul] <;> omega : ((-1) * q23) * (x1 + x2 + 800) = (-1) * (q23 * x1) + (-1) * (q23 * x2) + (-800) * q23).trans (by (try simp only [m25e.out, m26e.out]) <;> omega)).trans w27s)
  have h51 : Is ρ rt51 ((-1) * w27) := Ys h49 h50 (by omega)
  have h52 : Is ρ rt52 ((-1) * u13 + (-1) * w12 + (-1) * w27) := Ys h51 h35 (by omega)
  have h53 : Is ρ rt53 ((-1) * u13 + (-1) * u20 + (-1) * w12 + (-1) * w19 + (-1) * w27) := Ys h52 h39 (by omega)
  have h54 : Is ρ rt54 (0) := Zmx h46 h46 (by omega)
  have h55 : Is ρ rt55 (0) := Ym (Zc 1000) h54 (by omega)
  have h56 : Is ρ rt56 (0) := Ym (Zc 0) h12 (by omega)
  have h57 : Is ρ rt57 (0) := Ys h49 h56 (by omega)
  have h58 : Is ρ rt58 ((-1) * u13 + (-1) * w12) := Ys h57 h35 (by omega)
  have h59 : Is ρ rt59 ((-1) * u13 + (-1) * u20 + (-1) * w12 + (-1) * w19) := Ys h58 h39 (by omega)
  have h64 : Is ρ rt64 (z29) := Zru2 (v28s ▸ h40) h12 (by omega) (by omega) z29h.out.1 z29h.out.2
  have h65 : Is ρ rt65 ((-1) * z29) := Ys (Zc 0) h64 (by omega)
  have h66 : Is ρ rt66 (w32) := Zmul h65 h12 (by omega) (((by simp only [Int.add_mul, Int.mul_add, Int.mul_assoc, Int.mul_comm, Int.mul_left_comm, Int.reduceMul, Int.reduceNeg, Int.mul_one, Int.one_mul] <;> omega : ((-1) * z29) * (x1 + x2 + 800) = (-1) * (x1 * z29) + (-1) * (x2 * z29) + (-800) * z29).trans (by (try simp only [m30e.out, m31e.out]) <;> omega)).trans w32s)
  have h67 : Is ρ rt67 ((-1) * w32) := Ys h49 h66 (by omega)
  have h68 : Is ρ rt68 ((-1) * u13 + (-1) * w12 + (-1) * w32) := Ys h67 h35 (by omega)
  have h69 : Is ρ rt69 ((-1) * u13 + (-1) * u20 + (-1) * w12 + (-1) * w19 + (-1) * w32) := Ys h68 h39 (by omega)
  exact ⟨h2, h4, h6, h8, h9, h10, h12, h13, h14, h16, h18, h20, h21, h22, h25, h28, h31, h40, h44, h45, h53, h55, h59, h64, h65, h69⟩
theorem rt_d0 {u13 u20 w12 w19 w32 m30 m31 z29 v28 x1 x2 : Int}  (w32s : (-1) * m30 + (-1) * m31 + (-800) * z29 = w32) (z29s : v28 ≤ m30 + m31 + 800 * z29 ∧ m30 + m31 + 800 * z29 ≤ v28 + (x1 + x2 + 800) - 1) (v28s : u13 + u20 + w12 + w19 = v28) : (0 : Int) ≤ (-1) * u13 + (-1) * u20 + (-1) * w12 + (-1) * w19 + (-1) * w32 := by omega
theorem rt_t1 {x0 : Int} (b_x0 : 0 ≤ x0 ∧ x0 ≤ 255) : (100 : Int) ≤ 4 * x0 + 9000 := by omega
theorem rt_t2 {x0 : Int} (b_x0 : 0 ≤ x0 ∧ x0 ≤ 255) : (4 * x0 + 9000 : Int) ≤ 200000 := by omega
theorem rt_t3 {x1 : Int} (b_x1 : 0 ≤ x1 ∧ x1 ≤ 255) : (0 : Int) ≤ x1 + 400 := by omega
theorem rt_t4 {x1 : Int} (b_x1 : 0 ≤ x1 ∧ x1 ≤ 255) : (x1 + 400 : Int) ≤ 3000 := by omega
theorem rt_t5 {x2 : Int} (b_x2 : 0 ≤ x2 ∧ x2 ≤ 255) : (0 : Int) ≤ x2 + 400 := by omega
theorem rt_t6 {x2 : Int} (b_x2 : 0 ≤ x2 ∧ x2 ≤ 255) : (x2 + 400 : Int) ≤ 3000 := by omega
theorem rt_t7 {x3 : Int} (b_x3 : 0 ≤ x3 ∧ x3 ≤ 255) : (0 : Int) ≤ 5 * x3 + 1 := by omega
theorem rt_t8 {x3 : Int} (b_x3 : 0 ≤ x3 ∧ x3 ≤ 255) : (5 * x3 + 1 : Int) ≤ 200000 := by omega
theorem rt_t9 {x3 : Int} (b_x3 : 0 ≤ x3 ∧ x3 ≤ 255) : (0 : Int) ≤ 5 * x3 := by omega
theorem rt_t10 {x3 : Int} (b_x3 : 0 ≤ x3 ∧ x3 ≤ 255) : (5 * x3 : Int) ≤ 200000 := by omega
theorem rt_t11 {x3 : Int} (b_x3 : 0 ≤ x3 ∧ x3 ≤ 255) : (1 : Int) ≤ 10 * x3 + 1 := by omega
theorem rt_t12 {w3 x0 : Int} (b_w3 : 800 ≤ w3 ∧ w3 ≤ 1671560) (b_x0 : 0 ≤ x0 ∧ x0 ≤ 255) : (w3 : Int) ≤ 2000 * x0 + 4500000 := by omega
theorem rt_t13 {x5 : Int} (b_x5 : 0 ≤ x5 ∧ x5 ≤ 255) : (0 : Int) ≤ x5 + 400 := by omega
theorem rt_t14 {x5 : Int} (b_x5 : 0 ≤ x5 ∧ x5 ≤ 255) : (x5 + 400 : Int) ≤ 3000 := by omega
theorem rt_t15 {x6 : Int} (b_x6 : 0 ≤ x6 ∧ x6 ≤ 255) : (0 : Int) ≤ x6 + 400 := by omega
theorem rt_t16 {x6 : Int} (b_x6 : 0 ≤ x6 ∧ x6 ≤ 255) : (x6 + 400 : Int) ≤ 3000 := by omega
theorem rt_t17 {x7 : Int} (b_x7 : 0 ≤ x7 ∧ x7 ≤ 255) : (0 : Int) ≤ 5 * x7 + 1 := by omega
theorem rt_t18 {x7 : Int} (b_x7 : 0 ≤ x7 ∧ x7 ≤ 255) : (5 * x7 + 1 : Int) ≤ 200000 := by omega
theorem rt_t19 {x7 : Int} (b_x7 : 0 ≤ x7 ∧ x7 ≤ 255) : (0 : Int) ≤ 5 * x7 := by omega
theorem rt_t20 {x7 : Int} (b_x7 : 0 ≤ x7 ∧ x7 ≤ 255) : (5 * x7 : Int) ≤ 200000 := by omega
theorem rt_t21 {x7 : Int} (b_x7 : 0 ≤ x7 ∧ x7 ≤ 255) : (1 : Int) ≤ 10 * x7 + 1 := by omega
theorem rt_t22 {w6 x0 : Int} (b_w6 : 800 ≤ w6 ∧ w6 ≤ 1671560) (b_x0 : 0 ≤ x0 ∧ x0 ≤ 255) : (w6 : Int) ≤ 2000 * x0 + 4500000 := by omega
theorem rt_t23 {x8 : Int} (b_x8 : 0 ≤ x8 ∧ x8 ≤ 255) : ((-200000) : Int) ≤ 8 * x8 + (-1200) := by omega
theorem rt_t24 {x8 x9 : Int} (b_x8 : 0 ≤ x8 ∧ x8 ≤ 255) (b_x9 : 0 ≤ x9 ∧ x9 ≤ 255) : (8 * x8 + (-1200) : Int) ≤ 8 * x8 + 8 * x9 + (-1200) := by omega
theorem rt_t25 {x8 x9 : Int} (b_x8 : 0 ≤ x8 ∧ x8 ≤ 255) (b_x9 : 0 ≤ x9 ∧ x9 ≤ 255) : (8 * x8 + 8 * x9 + (-1200) : Int) ≤ 200000 := by omega
theorem rt_t26 {q23 : Int} (b_q23 : 0 ≤ q23 ∧ q23 ≤ 7225) : ((-10000) : Int) ≤ (-1) * q23 := by omega
theorem rt_t27 {q23 : Int} (b_q23 : 0 ≤ q23 ∧ q23 ≤ 7225) : ((-1) * q23 : Int) ≤ 10000 := by omega
theorem rt_d1 {u13 u20 w12 w19 w27 : Int} (b_w27 : -9464750 ≤ w27 ∧ w27 ≤ 0) (k25 : (u13 + u20 + w12 + w19 : Int) ≤ 0) : (0 : Int) ≤ (-1) * u13 + (-1) * u20 + (-1) * w12 + (-1) * w19 + (-1) * w27 := by omega
theorem rt_t29  : (0 : Int) = 0 := by omega
theorem rt_t30 {q23 : Int} (b_q23 : 0 ≤ q23 ∧ q23 ≤ 7225) : (0 : Int) ≤ q23 := by omega
theorem rt_d2 {u13 u20 w12 w19 : Int}  (k25 : (u13 + u20 + w12 + w19 : Int) ≤ 0) : (0 : Int) ≤ (-1) * u13 + (-1) * u20 + (-1) * w12 + (-1) * w19 := by omega
theorem rt_t32 {x1 x2 : Int} (b_x1 : 0 ≤ x1 ∧ x1 ≤ 255) (b_x2 : 0 ≤ x2 ∧ x2 ≤ 255) : ¬ ((x1 + x2 + 800 : Int) = 0) := by omega
theorem rt_d3 {z29 q23 x1 x2 v28 m30 m31 u13 u20 w12 w19 w27 m25 m26 : Int} (b_x1 : 0 ≤ x1 ∧ x1 ≤ 255) (b_x2 : 0 ≤ x2 ∧ x2 ≤ 255) (z29s : v28 ≤ m30 + m31 + 800 * z29 ∧ m30 + m31 + 800 * z29 ≤ v28 + (x1 + x2 + 800) - 1) (v28s : u13 + u20 + w12 + w19 = v28) (k29 : (0 : Int) ≤ (-1) * u13 + (-1) * u20 + (-1) * w12 + (-1) * w19 + (-1) * w27) (w27s : (-1) * m25 + (-1) * m26 + (-800) * q23 = w27) (m25e : Hd (q23 * x1 = m25)) (m30e : Hd (x1 * z29 = m30)) (m26e : Hd (q23 * x2 = m26)) (m31e : Hd (x2 * z29 = m31)) : (z29 : Int) ≤ q23 := Int.not_lt.1 fun h0 => by
  have hn : ¬ ((z29 : Int) ≤ q23) := by omega
  have p0 : 0 ≤ (-1) * m25 + m30 + (-1) * x1 := by
    have e1 : ((-1) * q23 + z29 + (-1)) * (x1) = (-1) * m25 + m30 + (-1) * x1 := ((by simp only [Int.add_mul, Int.mul_add, Int.mul_assoc, Int.mul_comm, Int.mul_left_comm, Int.reduceMul, Int.reduceNeg, Int.mul_one, Int.one_mul] <;> omega : ((-1) * q23 + z29 + (-1)) * (x1) = (-1) * (q23 * x1) + x1 * z29 + (-1) * x1).trans (by (try simp only [m25e.out, m30e.out]) <;> omega))
    exact e1 ▸ Int.mul_nonneg (by omega) (by omega)
  have p1 : 0 ≤ (-1) * m26 + m31 + (-1) * x2 := by
    have e1 : ((-1) * q23 + z29 + (-1)) * (x2) = (-1) * m26 + m31 + (-1) * x2 := ((by simp only [Int.add_mul, Int.mul_add, Int.mul_assoc, Int.mul_comm, Int.mul_left_comm, Int.reduceMul, Int.reduceNeg, Int.mul_one, Int.one_mul] <;> omega : ((-1) * q23 + z29 + (-1)) * (x2) = (-1) * (q23 * x2) + x2 * z29 + (-1) * x2).trans (by (try simp only [m26e.out, m31e.out]) <;> omega))
    exact e1 ▸ Int.mul_nonneg (by omega) (by omega)
  omega
theorem rt_t34 {z29 : Int} (b_z29 : -3366 ≤ z29 ∧ z29 ≤ 8798) : ((-10000) : Int) ≤ (-1) * z29 := by omega
theorem rt_t35 {z29 : Int} (b_z29 : -3366 ≤ z29 ∧ z29 ≤ 8798) : ((-1) * z29 : Int) ≤ 10000 := by omega
theorem rt_d4 {z29 q23 x1 x2 v28 m30 m31 u13 u20 w12 w19 w27 m25 m26 : Int} (b_x1 : 0 ≤ x1 ∧ x1 ≤ 255) (b_x2 : 0 ≤ x2 ∧ x2 ≤ 255) (z29s : v28 ≤ m30 + m31 + 800 * z29 ∧ m30 + m31 + 800 * z29 ≤ v28 + (x1 + x2 + 800) - 1) (v28s : u13 + u20 + w12 + w19 = v28) (k29 : ¬ ((0 : Int) ≤ (-1) * u13 + (-1) * u20 + (-1) * w12 + (-1) * w19 + (-1) * w27)) (w27s : (-1) * m25 + (-1) * m26 + (-800) * q23 = w27) (m25e : Hd (q23 * x1 = m25)) (m30e : Hd (x1 * z29 = m30)) (m26e : Hd (q23 * x2 = m26)) (m31e : Hd (x2 * z29 = m31)) : ¬ ((z29 : Int) ≤ q23) := fun hn => by
  have p0 : 0 ≤ m25 + (-1) * m30 := by
    have e1 : (q23 + (-1) * z29) * (x1) = m25 + (-1) * m30 := ((by simp only [Int.add_mul, Int.mul_add, Int.mul_assoc, Int.mul_comm, Int.mul_left_comm, Int.reduceMul, Int.reduceNeg, Int.mul_one, Int.one_mul] <;> omega : (q23 + (-1) * z29) * (x1) = q23 * x1 + (-1) * (x1 * z29)).trans (by (try simp only [m25e.out, m30e.out]) <;> omega))
    exact e1 ▸ Int.mul_nonneg (by omega) (by omega)
  have p1 : 0 ≤ m26 + (-1) * m31 := by
    have e1 : (q23 + (-1) * z29) * (x2) = m26 + (-1) * m31 := ((by simp only [Int.add_mul, Int.mul_add, Int.mul_assoc, Int.mul_comm, Int.mul_left_comm, Int.reduceMul, Int.reduceNeg, Int.mul_one, Int.one_mul] <;> omega : (q23 + (-1) * z29) * (x2) = q23 * x2 + (-1) * (x2 * z29)).trans (by (try simp only [m26e.out, m31e.out]) <;> omega))
    exact e1 ▸ Int.mul_nonneg (by omega) (by omega)
  omega
end Go.Proofs.Ytmekghjgkkjgoaa.Cx
