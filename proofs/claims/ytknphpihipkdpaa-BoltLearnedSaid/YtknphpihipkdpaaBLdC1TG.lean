/- BoltLearned. Made by tools/gen_blaw.py. -/
import Derived.Test.YtknphpihipkdpaaBLdT
import Derived.Test.YtknphpihipkdpaaCxGcd
import Derived.Test.YtknphpihipkdpaaBLdE
set_option linter.unusedSimpArgs false
set_option linter.unusedVariables false
set_option maxRecDepth 100000
set_option maxHeartbeats 4000000
namespace Go.Proofs.Ytknphpihipkdpaa.Cx
open Go Go.RowKit

namespace K1
theorem bd_aq1 {x4 : Int} (b_x4 : 0 ≤ x4 ∧ x4 ≤ 255) : ∃ q r : Int, Hd ((x4) / 60 = q) ∧ Hd ((x4) % 60 = r) ∧ (x4 = 60 * q + r) ∧ (0 ≤ q ∧ q ≤ 4) ∧ (0 ≤ r ∧ r ≤ 59) := ⟨_, _, ⟨rfl⟩, ⟨rfl⟩, by omega, by omega, by omega⟩
theorem bd_am3 {r2 x18 : Int} (b_r2 : 0 ≤ r2 ∧ r2 ≤ 59) (b_x18 : 0 ≤ x18 ∧ x18 ≤ 255) : ∃ m : Int, Hd (r2 * x18 = m) ∧ ((0) * x18 + (0) * r2 - (0) ≤ m) ∧ ((59) * x18 + (255) * r2 - (15045) ≤ m) ∧ (m ≤ (59) * x18 + (0) * r2 - (0)) ∧ (m ≤ (0) * x18 + (255) * r2 - (0)) ∧ (0 ≤ m ∧ m ≤ 15045) := by
  obtain ⟨h1, h2, h3, h4⟩ := mcc (x := r2) (y := x18) b_r2.1 b_r2.2 b_x18.1 b_x18.2
  refine ⟨_, ⟨rfl⟩, ?_, ?_, ?_, ?_, ?_, ?_⟩ <;> omega
theorem bd_aw4 {m3 : Int} (b_m3 : 0 ≤ m3 ∧ m3 ≤ 15045) : ∃ w : Int, (m3 = w) ∧ (0 ≤ w ∧ w ≤ 15045) := ⟨_, rfl, by omega, by omega⟩
theorem bd_aq5 {w4 : Int} (b_w4 : 0 ≤ w4 ∧ w4 ≤ 15045) : ∃ q r : Int, Hd ((w4) / 255 = q) ∧ Hd ((w4) % 255 = r) ∧ (w4 = 255 * q + r) ∧ (0 ≤ q ∧ q ≤ 59) ∧ (0 ≤ r ∧ r ≤ 254) := ⟨_, _, ⟨rfl⟩, ⟨rfl⟩, by omega, by omega, by omega⟩
theorem bd_aq7 {x6 : Int} (b_x6 : 0 ≤ x6 ∧ x6 ≤ 255) : ∃ q r : Int, Hd ((x6) / 60 = q) ∧ Hd ((x6) % 60 = r) ∧ (x6 = 60 * q + r) ∧ (0 ≤ q ∧ q ≤ 4) ∧ (0 ≤ r ∧ r ≤ 59) := ⟨_, _, ⟨rfl⟩, ⟨rfl⟩, by omega, by omega, by omega⟩
theorem bd_am9 {r8 x19 : Int} (b_r8 : 0 ≤ r8 ∧ r8 ≤ 59) (b_x19 : 0 ≤ x19 ∧ x19 ≤ 255) : ∃ m : Int, Hd (r8 * x19 = m) ∧ ((0) * x19 + (0) * r8 - (0) ≤ m) ∧ ((59) * x19 + (255) * r8 - (15045) ≤ m) ∧ (m ≤ (59) * x19 + (0) * r8 - (0)) ∧ (m ≤ (0) * x19 + (255) * r8 - (0)) ∧ (0 ≤ m ∧ m ≤ 15045) := by
  obtain ⟨h1, h2, h3, h4⟩ := mcc (x := r8) (y := x19) b_r8.1 b_r8.2 b_x19.1 b_x19.2
  refine ⟨_, ⟨rfl⟩, ?_, ?_, ?_, ?_, ?_, ?_⟩ <;> omega
theorem bd_aw10 {m9 : Int} (b_m9 : 0 ≤ m9 ∧ m9 ≤ 15045) : ∃ w : Int, (m9 = w) ∧ (0 ≤ w ∧ w ≤ 15045) := ⟨_, rfl, by omega, by omega⟩
theorem bd_aq11 {w10 : Int} (b_w10 : 0 ≤ w10 ∧ w10 ≤ 15045) : ∃ q r : Int, Hd ((w10) / 255 = q) ∧ Hd ((w10) % 255 = r) ∧ (w10 = 255 * q + r) ∧ (0 ≤ q ∧ q ≤ 59) ∧ (0 ≤ r ∧ r ≤ 254) := ⟨_, _, ⟨rfl⟩, ⟨rfl⟩, by omega, by omega, by omega⟩
theorem bd_am13 {q5 x1 : Int} (b_q5 : 0 ≤ q5 ∧ q5 ≤ 59) (b_x1 : 0 ≤ x1 ∧ x1 ≤ 255) : ∃ m : Int, Hd (q5 * x1 = m) ∧ ((0) * x1 + (0) * q5 - (0) ≤ m) ∧ ((59) * x1 + (255) * q5 - (15045) ≤ m) ∧ (m ≤ (59) * x1 + (0) * q5 - (0)) ∧ (m ≤ (0) * x1 + (255) * q5 - (0)) ∧ (0 ≤ m ∧ m ≤ 15045) := by
  obtain ⟨h1, h2, h3, h4⟩ := mcc (x := q5) (y := x1) b_q5.1 b_q5.2 b_x1.1 b_x1.2
  refine ⟨_, ⟨rfl⟩, ?_, ?_, ?_, ?_, ?_, ?_⟩ <;> omega
theorem bd_am14 {x1 x3 : Int} (b_x1 : 0 ≤ x1 ∧ x1 ≤ 255) (b_x3 : 0 ≤ x3 ∧ x3 ≤ 255) : ∃ m : Int, Hd (x1 * x3 = m) ∧ ((0) * x3 + (0) * x1 - (0) ≤ m) ∧ ((255) * x3 + (255) * x1 - (65025) ≤ m) ∧ (m ≤ (255) * x3 + (0) * x1 - (0)) ∧ (m ≤ (0) * x3 + (255) * x1 - (0)) ∧ (0 ≤ m ∧ m ≤ 65025) := by
  obtain ⟨h1, h2, h3, h4⟩ := mcc (x := x1) (y := x3) b_x1.1 b_x1.2 b_x3.1 b_x3.2
  refine ⟨_, ⟨rfl⟩, ?_, ?_, ?_, ?_, ?_, ?_⟩ <;> omega
theorem bd_aw15 {m13 m14 : Int} (b_m13 : 0 ≤ m13 ∧ m13 ≤ 15045) (b_m14 : 0 ≤ m14 ∧ m14 ≤ 65025) : ∃ w : Int, (20 * m13 + 20 * m14 = w) ∧ (0 ≤ w ∧ w ≤ 1601400) := ⟨_, rfl, by omega, by omega⟩
theorem bd_am16 {q11 x2 : Int} (b_q11 : 0 ≤ q11 ∧ q11 ≤ 59) (b_x2 : 0 ≤ x2 ∧ x2 ≤ 255) : ∃ m : Int, Hd (q11 * x2 = m) ∧ ((0) * x2 + (0) * q11 - (0) ≤ m) ∧ ((59) * x2 + (255) * q11 - (15045) ≤ m) ∧ (m ≤ (59) * x2 + (0) * q11 - (0)) ∧ (m ≤ (0) * x2 + (255) * q11 - (0)) ∧ (0 ≤ m ∧ m ≤ 15045) := by
  obtain ⟨h1, h2, h3, h4⟩ := mcc (x := q11) (y := x2) b_q11.1 b_q11.2 b_x2.1 b_x2.2
  refine ⟨_, ⟨rfl⟩, ?_, ?_, ?_, ?_, ?_, ?_⟩ <;> omega
theorem bd_am17 {x2 x5 : Int} (b_x2 : 0 ≤ x2 ∧ x2 ≤ 255) (b_x5 : 0 ≤ x5 ∧ x5 ≤ 255) : ∃ m : Int, Hd (x2 * x5 = m) ∧ ((0) * x5 + (0) * x2 - (0) ≤ m) ∧ ((255) * x5 + (255) * x2 - (65025) ≤ m) ∧ (m ≤ (255) * x5 + (0) * x2 - (0)) ∧ (m ≤ (0) * x5 + (255) * x2 - (0)) ∧ (0 ≤ m ∧ m ≤ 65025) := by
  obtain ⟨h1, h2, h3, h4⟩ := mcc (x := x2) (y := x5) b_x2.1 b_x2.2 b_x5.1 b_x5.2
  refine ⟨_, ⟨rfl⟩, ?_, ?_, ?_, ?_, ?_, ?_⟩ <;> omega
theorem bd_aw18 {m16 m17 : Int} (b_m16 : 0 ≤ m16 ∧ m16 ≤ 15045) (b_m17 : 0 ≤ m17 ∧ m17 ≤ 65025) : ∃ w : Int, (30 * m16 + 30 * m17 = w) ∧ (0 ≤ w ∧ w ≤ 2402100) := ⟨_, rfl, by omega, by omega⟩
theorem bd_aq19 {x10 : Int} (b_x10 : 0 ≤ x10 ∧ x10 ≤ 255) : ∃ q r : Int, Hd ((x10) / 20 = q) ∧ Hd ((x10) % 20 = r) ∧ (x10 = 20 * q + r) ∧ (0 ≤ q ∧ q ≤ 12) ∧ (0 ≤ r ∧ r ≤ 19) := ⟨_, _, ⟨rfl⟩, ⟨rfl⟩, by omega, by omega, by omega⟩
theorem bd_aw21  : ∃ w : Int, (0 = w) ∧ (0 ≤ w ∧ w ≤ 0) := ⟨_, rfl, by omega, by omega⟩
theorem bd_aw22 {w15 w18 x0 : Int} (b_w15 : 0 ≤ w15 ∧ w15 ≤ 1601400) (b_w18 : 0 ≤ w18 ∧ w18 ≤ 2402100) (b_x0 : 0 ≤ x0 ∧ x0 ≤ 255) : ∃ w : Int, (w15 + w18 + 10000 * x0 + 1000 = w) ∧ (1000 ≤ w ∧ w ≤ 6554500) := ⟨_, rfl, by omega, by omega⟩
theorem bd_aq23 {w21 w22 : Int} (b_w21 : 0 ≤ w21 ∧ w21 ≤ 0) (b_w22 : 1000 ≤ w22 ∧ w22 ≤ 6554500) : ∃ q : Int, Hd (w21.tdiv w22 = q) ∧ QD w21 w22 q ∧ (0 ≤ q ∧ q ≤ 0) := by
  obtain ⟨q, h1, h2⟩ := qD_ex w21 w22 (by omega)
  obtain ⟨h3, h4⟩ := qD_rng (lo := 0) (hi := 0) (dl := 1000) h2 (by omega) (by omega) (by omega) (by omega) (by omega) (by omega)
  have h5 := (h2.1 (by omega)).1
  exact ⟨q, h1, h2, by omega, by omega⟩
theorem bd_am24 {q23 w22 : Int} (b_q23 : 0 ≤ q23 ∧ q23 ≤ 0) (b_w22 : 1000 ≤ w22 ∧ w22 ≤ 6554500) : ∃ m : Int, Hd (q23 * w22 = m) ∧ ((0) * w22 + (1000) * q23 - (0) ≤ m) ∧ ((0) * w22 + (6554500) * q23 - (0) ≤ m) ∧ (m ≤ (0) * w22 + (1000) * q23 - (0)) ∧ (m ≤ (0) * w22 + (6554500) * q23 - (0)) ∧ (0 ≤ m ∧ m ≤ 0) := by
  obtain ⟨h1, h2, h3, h4⟩ := mcc (x := q23) (y := w22) b_q23.1 b_q23.2 b_w22.1 b_w22.2
  refine ⟨_, ⟨rfl⟩, ?_, ?_, ?_, ?_, ?_, ?_⟩ <;> omega
theorem bd_rf1 {q5 : Int} (b_q5 : 0 ≤ q5 ∧ q5 ≤ 59) : 0 ≤ q5 := by omega
theorem bd_rf2 {q5 r2 r6 w4 m3 x18 : Int} (b_r6 : 0 ≤ r6 ∧ r6 ≤ 254) (q5s : w4 = 255 * q5 + r6) (w4s : m3 = w4) (m3f4 : m3 ≤ (0) * x18 + (255) * r2 - (0)) : 0 ≤ (-1) * q5 + r2 := by omega
theorem bd_rf3 {q11 : Int} (b_q11 : 0 ≤ q11 ∧ q11 ≤ 59) : 0 ≤ q11 := by omega
theorem bd_rf4 {q11 r8 r12 w10 m9 x19 : Int} (b_r12 : 0 ≤ r12 ∧ r12 ≤ 254) (q11s : w10 = 255 * q11 + r12) (w10s : m9 = w10) (m9f4 : m9 ≤ (0) * x19 + (255) * r8 - (0)) : 0 ≤ (-1) * q11 + r8 := by omega
theorem bd_am25 {w22 x27 : Int} (b_w22 : 1000 ≤ w22 ∧ w22 ≤ 6554500) (b_x27 : 0 ≤ x27 ∧ x27 ≤ 255) : ∃ m : Int, Hd (w22 * x27 = m) ∧ ((1000) * x27 + (0) * w22 - (0) ≤ m) ∧ ((6554500) * x27 + (255) * w22 - (1671397500) ≤ m) ∧ (m ≤ (6554500) * x27 + (0) * w22 - (0)) ∧ (m ≤ (1000) * x27 + (255) * w22 - (255000)) ∧ (0 ≤ m ∧ m ≤ 1671397500) := by
  obtain ⟨h1, h2, h3, h4⟩ := mcc (x := w22) (y := x27) b_w22.1 b_w22.2 b_x27.1 b_x27.2
  refine ⟨_, ⟨rfl⟩, ?_, ?_, ?_, ?_, ?_, ?_⟩ <;> omega
theorem bdk1_rf5 {x0 : Int} (b_x0 : 0 ≤ x0 ∧ x0 ≤ 255) : 1 ≤ (10 * x0 + 1 : Int) ∧ (10 * x0 + 1 : Int) ≤ 100000 := by omega
theorem bdk1_rf6 {x1 : Int} (b_x1 : 0 ≤ x1 ∧ x1 ≤ 255) : 0 ≤ (20 * x1 : Int) ∧ (20 * x1 : Int) ≤ 100000 := by omega
theorem bdk1_rf7 {x2 : Int} (b_x2 : 0 ≤ x2 ∧ x2 ≤ 255) : 0 ≤ (30 * x2 : Int) ∧ (30 * x2 : Int) ≤ 100000 := by omega
theorem bdk1_rf8 {x3 : Int} (b_x3 : 0 ≤ x3 ∧ x3 ≤ 255) : 0 ≤ (x3 : Int) ∧ (x3 : Int) ≤ 1000 := by omega
theorem bdk1_rf9 {r2 x3 : Int} (b_r2 : 0 ≤ r2 ∧ r2 ≤ 59) (b_x3 : 0 ≤ x3 ∧ x3 ≤ 255) : 0 ≤ (r2 + x3 : Int) ∧ (r2 + x3 : Int) ≤ 1000 := by omega
theorem bdk1_rf10 {x5 : Int} (b_x5 : 0 ≤ x5 ∧ x5 ≤ 255) : 0 ≤ (x5 : Int) ∧ (x5 : Int) ≤ 1000 := by omega
theorem bdk1_rf11 {r8 x5 : Int} (b_r8 : 0 ≤ r8 ∧ r8 ≤ 59) (b_x5 : 0 ≤ x5 ∧ x5 ≤ 255) : 0 ≤ (r8 + x5 : Int) ∧ (r8 + x5 : Int) ≤ 1000 := by omega
theorem bdk1_rf12 {x7 : Int} (b_x7 : 0 ≤ x7 ∧ x7 ≤ 255) : 1 ≤ (100 * x7 + 1 : Int) ∧ (100 * x7 + 1 : Int) ≤ 100000000 := by omega
theorem bdk1_rf13 {x7 x8 : Int} (b_x7 : 0 ≤ x7 ∧ x7 ≤ 255) (b_x8 : 0 ≤ x8 ∧ x8 ≤ 255) : 1 ≤ (100 * x7 + 10 * x8 + 1 : Int) ∧ (100 * x7 + 10 * x8 + 1 : Int) ≤ 100000000 := by omega
theorem bdk1_rf14 {x9 : Int} (b_x9 : 0 ≤ x9 ∧ x9 ≤ 255) : 1 ≤ (x9 + 1 : Int) ∧ (x9 + 1 : Int) ≤ 100000 := by omega
theorem bdk1_rf15 {r20 x9 : Int} (b_r20 : 0 ≤ r20 ∧ r20 ≤ 19) (b_x9 : 0 ≤ x9 ∧ x9 ≤ 255) : 1 ≤ (r20 + x9 + 1 : Int) ∧ (r20 + x9 + 1 : Int) ≤ 100000 := by omega
theorem bdk1_rf16 {x11 : Int} (b_x11 : 0 ≤ x11 ∧ x11 ≤ 255) : 1 ≤ (100 * x11 + 1 : Int) ∧ (100 * x11 + 1 : Int) ≤ 100000000 := by omega
theorem bdk1_rf17 {x11 x12 : Int} (b_x11 : 0 ≤ x11 ∧ x11 ≤ 255) (b_x12 : 0 ≤ x12 ∧ x12 ≤ 255) : 1 ≤ (100 * x11 + 10 * x12 + 1 : Int) ∧ (100 * x11 + 10 * x12 + 1 : Int) ≤ 100000000 := by omega
theorem bdk1_rf18  : 0 ≤ (0 : Int) ∧ (0 : Int) ≤ 10000000000000 := by omega
theorem bdk1_rf19  : 0 ≤ (0 : Int) ∧ (0 : Int) ≤ 10000000000000 := by omega
theorem bdk1_rf20  : 0 ≤ (0 : Int) ∧ (0 : Int) ≤ 100000000 := by omega
theorem bdk1_rf21 {q23 x27 : Int} (b_q23 : 0 ≤ q23 ∧ q23 ≤ 0) (b_x27 : 0 ≤ x27 ∧ x27 ≤ 255) : 0 ≤ (q23 + x27 : Int) ∧ (q23 + x27 : Int) ≤ 100000000 := by omega
theorem bdk1_rf22 {q5 x3 : Int} (b_q5 : 0 ≤ q5 ∧ q5 ≤ 59) (b_x3 : 0 ≤ x3 ∧ x3 ≤ 255) (rf1 : 0 ≤ q5) : 0 ≤ (q5 + x3 : Int) ∧ (q5 + x3 : Int) ≤ 1000 := by omega
theorem bdk1_rf23 {q11 x5 : Int} (b_q11 : 0 ≤ q11 ∧ q11 ≤ 59) (b_x5 : 0 ≤ x5 ∧ x5 ≤ 255) (rf3 : 0 ≤ q11) : 0 ≤ (q11 + x5 : Int) ∧ (q11 + x5 : Int) ≤ 1000 := by omega
theorem bdk1_rf24 {w22 : Int} (b_w22 : 1000 ≤ w22 ∧ w22 ≤ 6554500) : 1000 ≤ (w22 : Int) ∧ (w22 : Int) ≤ 300000000 := by omega
theorem bdk1_rf25 {r2 x3 : Int} (b_r2 : 0 ≤ r2 ∧ r2 ≤ 59) : (x3 : Int) ≤ (r2 + x3 : Int) := by omega
theorem bdk1_rf26 {r8 x5 : Int} (b_r8 : 0 ≤ r8 ∧ r8 ≤ 59) : (x5 : Int) ≤ (r8 + x5 : Int) := by omega
theorem bdk1_rf27  : (0 : Int) ≤ (0 : Int) := by omega
theorem bdk1_rf28 {q23 x27 : Int} (b_q23 : 0 ≤ q23 ∧ q23 ≤ 0) (b_x27 : 0 ≤ x27 ∧ x27 ≤ 255) : (0 : Int) ≤ (q23 + x27 : Int) := by omega
theorem bdk1_rf29 {q5 x3 : Int}  (rf1 : 0 ≤ q5) : (x3 : Int) ≤ (q5 + x3 : Int) := by omega
theorem bdk1_rf30 {q5 r2 x3 : Int}  (rf2 : 0 ≤ (-1) * q5 + r2) : (q5 + x3 : Int) ≤ (r2 + x3 : Int) := by omega
theorem bdk1_rf31 {q11 x5 : Int}  (rf3 : 0 ≤ q11) : (x5 : Int) ≤ (q11 + x5 : Int) := by omega
theorem bdk1_rf32 {q11 r8 x5 : Int}  (rf4 : 0 ≤ (-1) * q11 + r8) : (q11 + x5 : Int) ≤ (r8 + x5 : Int) := by omega
theorem bdk1_rf33 {x7 x8 : Int} (b_x8 : 0 ≤ x8 ∧ x8 ≤ 255) : (100 * x7 + 1 : Int) ≤ (100 * x7 + 10 * x8 + 1 : Int) := by omega
theorem bdk1_rf34 {r20 x9 : Int} (b_r20 : 0 ≤ r20 ∧ r20 ≤ 19) : (x9 + 1 : Int) ≤ (r20 + x9 + 1 : Int) := by omega
theorem bdk1_rf35 {x11 x12 : Int} (b_x12 : 0 ≤ x12 ∧ x12 ≤ 255) : (100 * x11 + 1 : Int) ≤ (100 * x11 + 10 * x12 + 1 : Int) := by omega
theorem bdk1_rf36 {m13 m14 m16 m17 w22 x0 x1 q5 x3 x2 q11 x5 w15 w18 : Int}  (m13e : Hd (q5 * x1 = m13)) (m14e : Hd (x1 * x3 = m14)) (m16e : Hd (q11 * x2 = m16)) (m17e : Hd (x2 * x5 = m17)) (w22s : w15 + w18 + 10000 * x0 + 1000 = w22) (w15s : 20 * m13 + 20 * m14 = w15) (w18s : 30 * m16 + 30 * m17 = w18) : (w22 : Int) = 1000 * (10 * x0 + 1 : Int) + (20 * x1) * (q5 + x3) + (30 * x2) * (q11 + x5) := by
  have p0 : (20 * x1) * (q5 + x3) = 20 * m13 + 20 * m14 := ((by simp only [Int.add_mul, Int.mul_add, Int.mul_assoc, Int.mul_comm, Int.mul_left_comm, Int.reduceMul, Int.reduceNeg, Int.mul_one, Int.one_mul] <;> omega : (20 * x1) * (q5 + x3) = 20 * (q5 * x1) + 20 * (x1 * x3)).trans (by (try simp only [m13e.out, m14e.out]) <;> omega))
  have p1 : (30 * x2) * (q11 + x5) = 30 * m16 + 30 * m17 := ((by simp only [Int.add_mul, Int.mul_add, Int.mul_assoc, Int.mul_comm, Int.mul_left_comm, Int.reduceMul, Int.reduceNeg, Int.mul_one, Int.one_mul] <;> omega : (30 * x2) * (q11 + x5) = 30 * (q11 * x2) + 30 * (x2 * x5)).trans (by (try simp only [m16e.out, m17e.out]) <;> omega))
  rw [p0, p1]
  omega
theorem bdk1_rf37 {m24 m25 w22 q23 x27 : Int} (b_m24 : 0 ≤ m24 ∧ m24 ≤ 0) (b_m25 : 0 ≤ m25 ∧ m25 ≤ 1671397500) (b_w22 : 1000 ≤ w22 ∧ w22 ≤ 6554500) (m24e : Hd (q23 * w22 = m24)) (m25e : Hd (w22 * x27 = m25)) : 1000 * (0 : Int) + 1 ≤ (q23 + x27) * (w22) + (w22 : Int) := by
  have p0 : (q23 + x27) * (w22) = m24 + m25 := ((by simp only [Int.add_mul, Int.mul_add, Int.mul_assoc, Int.mul_comm, Int.mul_left_comm, Int.reduceMul, Int.reduceNeg, Int.mul_one, Int.one_mul] <;> omega : (q23 + x27) * (w22) = q23 * w22 + w22 * x27).trans (by (try simp only [m24e.out, m25e.out]) <;> omega))
  rw [p0]
  omega
theorem bdk1_rf38 {w22 : Int}  : (0) * (w22) ≤ 1000 * (0 : Int) := by
  have p0 : (0) * (w22) = 0 := ((by simp only [Int.add_mul, Int.mul_add, Int.mul_assoc, Int.mul_comm, Int.mul_left_comm, Int.reduceMul, Int.reduceNeg, Int.mul_one, Int.one_mul] <;> omega : (0) * (w22) = 0).trans (by (try simp only []) <;> omega))
  rw [p0]
  omega
set_option maxHeartbeats 40000000 in
theorem bd_g0 {ρ : Env} {x0 x1 x3 x4 r2 x18 w4 m3 q5 x2 x5 x6 r8 x19 w10 m9 q11 w15 m13 m14 w18 m16 m17 x7 x8 x9 x10 r20 x11 x12 x20 q23 w21 w22 x26 x27 : Int} (e0 : Is ρ (.v 0) x0) (e1 : Is ρ (.v 1) x1) (e3 : Is ρ (.v 3) x3) (e4 : Is ρ (.v 4) x4) (r2e : Hd ((x4) % 60 = r2)) (e18 : Is ρ (.v 18) x18) (m3e : Hd (r2 * x18 = m3)) (w4s : Hd (m3 = w4)) (q5e : Hd ((w4) / 255 = q5)) (e2 : Is ρ (.v 2) x2) (e5 : Is ρ (.v 5) x5) (e6 : Is ρ (.v 6) x6) (r8e : Hd ((x6) % 60 = r8)) (e19 : Is ρ (.v 19) x19) (m9e : Hd (r8 * x19 = m9)) (w10s : Hd (m9 = w10)) (q11e : Hd ((w10) / 255 = q11)) (m13e : Hd (q5 * x1 = m13)) (m14e : Hd (x1 * x3 = m14)) (w15s : Hd (20 * m13 + 20 * m14 = w15)) (m16e : Hd (q11 * x2 = m16)) (m17e : Hd (x2 * x5 = m17)) (w18s : Hd (30 * m16 + 30 * m17 = w18)) (e7 : Is ρ (.v 7) x7) (e8 : Is ρ (.v 8) x8) (e9 : Is ρ (.v 9) x9) (e10 : Is ρ (.v 10) x10) (r20e : Hd ((x10) % 20 = r20)) (e11 : Is ρ (.v 11) x11) (e12 : Is ρ (.v 12) x12) (e20 : Is ρ (.v 20) x20) (q23e : Hd (w21.tdiv w22 = q23)) (w21s : Hd (0 = w21)) (w22s : Hd (w15 + w18 + 10000 * x0 + 1000 = w22)) (e26 : Is ρ (.v 26) x26) (e27 : Is ρ (.v 27) x27) (b_x0 : 0 ≤ x0 ∧ x0 ≤ 255) (b_x1 : 0 ≤ x1 ∧ x1 ≤ 255) (b_x3 : 0 ≤ x3 ∧ x3 ≤ 255) (b_x4 : 0 ≤ x4 ∧ x4 ≤ 255) (b_r2 : 0 ≤ r2 ∧ r2 ≤ 59) (b_x18 : 0 ≤ x18 ∧ x18 ≤ 255) (b_w4 : 0 ≤ w4 ∧ w4 ≤ 15045) (b_m3 : 0 ≤ m3 ∧ m3 ≤ 15045) (b_q5 : 0 ≤ q5 ∧ q5 ≤ 59) (b_x2 : 0 ≤ x2 ∧ x2 ≤ 255) (b_x5 : 0 ≤ x5 ∧ x5 ≤ 255) (b_x6 : 0 ≤ x6 ∧ x6 ≤ 255) (b_r8 : 0 ≤ r8 ∧ r8 ≤ 59) (b_x19 : 0 ≤ x19 ∧ x19 ≤ 255) (b_w10 : 0 ≤ w10 ∧ w10 ≤ 15045) (b_m9 : 0 ≤ m9 ∧ m9 ≤ 15045) (b_q11 : 0 ≤ q11 ∧ q11 ≤ 59) (b_w15 : 0 ≤ w15 ∧ w15 ≤ 1601400) (b_m13 : 0 ≤ m13 ∧ m13 ≤ 15045) (b_m14 : 0 ≤ m14 ∧ m14 ≤ 65025) (b_w18 : 0 ≤ w18 ∧ w18 ≤ 2402100) (b_m16 : 0 ≤ m16 ∧ m16 ≤ 15045) (b_m17 : 0 ≤ m17 ∧ m17 ≤ 65025) (b_x7 : 0 ≤ x7 ∧ x7 ≤ 255) (b_x8 : 0 ≤ x8 ∧ x8 ≤ 255) (b_x9 : 0 ≤ x9 ∧ x9 ≤ 255) (b_x10 : 0 ≤ x10 ∧ x10 ≤ 255) (b_r20 : 0 ≤ r20 ∧ r20 ≤ 19) (b_x11 : 0 ≤ x11 ∧ x11 ≤ 255) (b_x12 : 0 ≤ x12 ∧ x12 ≤ 255) (b_x20 : 0 ≤ x20 ∧ x20 ≤ 255) (b_q23 : 0 ≤ q23 ∧ q23 ≤ 0) (b_w21 : 0 ≤ w21 ∧ w21 ≤ 0) (b_w22 : 1000 ≤ w22 ∧ w22 ≤ 6554500) (b_x26 : 0 ≤ x26 ∧ x26 ≤ 255) (b_x27 : 0 ≤ x27 ∧ x27 ≤ 255) : Is ρ bd3 (10 * x0 + 1) ∧ Is ρ bd6 (20 * x1) ∧ Is ρ bd7 (x3) ∧ Is ρ bd11 (r2 + x3) ∧ Is ρ bd15 (q5 + x3) ∧ Is ρ bd19 (30 * x2) ∧ Is ρ bd20 (x5) ∧ Is ρ bd24 (r8 + x5) ∧ Is ρ bd28 (q11 + x5) ∧ Is ρ bd30 (w15 + w18 + 10000 * x0 + 1000) ∧ Is ρ bd33 (100 * x7 + 1) ∧ Is ρ bd36 (100 * x7 + 10 * x8 + 1) ∧ Is ρ bd38 (x9 + 1) ∧ Is ρ bd41 (r20 + x9 + 1) ∧ Is ρ bd44 (100 * x11 + 1) ∧ Is ρ bd47 (100 * x11 + 10 * x12 + 1) ∧ Is ρ bd112 (0) ∧ Is ρ bd113 (q23 + x27) := by
  have h1 : Is ρ bd1 (x0) := Zconv e0 (by omega)
  have h2 : Is ρ bd2 (10 * x0) := Ym (Zc 10) h1 (by omega)
  have h3 : Is ρ bd3 (10 * x0 + 1) := Ya (Zc 1) h2 (by omega)
  have h5 : Is ρ bd5 (x1) := Zconv e1 (by omega)
  have h6 : Is ρ bd6 (20 * x1) := Ym (Zc 20) h5 (by omega)
  have h7 : Is ρ bd7 (x3) := Zconv e3 (by omega)
  have h9 : Is ρ bd9 (x4) := Zconv e4 (by omega)
  have h10 : Is ρ bd10 (r2) := Zremp h9 (Zc 60) (by omega) r2e.out
  have h11 : Is ρ bd11 (r2 + x3) := Ya h7 h10 (by omega)
  have h8 : Is ρ bd8 (x18) := Zconv e18 (by omega)
  have h12 : Is ρ bd12 (r2) := Ys h11 h7 (by omega)
  have h13 : Is ρ bd13 (w4) := by
    have w4s := w4s.out
    exact Zmul h8 h12 (by omega) (((by simp only [Int.add_mul, Int.mul_add, Int.mul_assoc, Int.mul_comm, Int.mul_left_comm, Int.reduceMul, Int.reduceNeg, Int.mul_one, Int.one_mul] <;> omega : (x18) * (r2) = r2 * x18).trans (by (try simp only [m3e.out]) <;> omega)).trans w4s)
  have h14 : Is ρ bd14 (q5) := Zquop h13 (Zc 255) (by omega) (by omega) q5e.out
  have h15 : Is ρ bd15 (q5 + x3) := Ya h7 h14 (by omega)
  have h18 : Is ρ bd18 (x2) := Zconv e2 (by omega)
  have h19 : Is ρ bd19 (30 * x2) := Ym (Zc 30) h18 (by omega)
  have h20 : Is ρ bd20 (x5) := Zconv e5 (by omega)
  have h22 : Is ρ bd22 (x6) := Zconv e6 (by omega)
  have h23 : Is ρ bd23 (r8) := Zremp h22 (Zc 60) (by omega) r8e.out
  have h24 : Is ρ bd24 (r8 + x5) := Ya h20 h23 (by omega)
  have h21 : Is ρ bd21 (x19) := Zconv e19 (by omega)
  have h25 : Is ρ bd25 (r8) := Ys h24 h20 (by omega)
  have h26 : Is ρ bd26 (w10) := by
    have w10s := w10s.out
    exact Zmul h21 h25 (by omega) (((by simp only [Int.add_mul, Int.mul_add, Int.mul_assoc, Int.mul_comm, Int.mul_left_comm, Int.reduceMul, Int.reduceNeg, Int.mul_one, Int.one_mul] <;> omega : (x19) * (r8) = r8 * x19).trans (by (try simp only [m9e.out]) <;> omega)).trans w10s)
  have h27 : Is ρ bd27 (q11) := Zquop h26 (Zc 255) (by omega) (by omega) q11e.out
  have h28 : Is ρ bd28 (q11 + x5) := Ya h20 h27 (by omega)
  have h4 : Is ρ bd4 (10000 * x0 + 1000) := Ym (Zc 1000) h3 (by omega)
  have h16 : Is ρ bd16 (w15) := by
    have w15s := w15s.out
    exact Zmul h6 h15 (by omega) (((by simp only [Int.add_mul, Int.mul_add, Int.mul_assoc, Int.mul_comm, Int.mul_left_comm, Int.reduceMul, Int.reduceNeg, Int.mul_one, Int.one_mul] <;> omega : (20 * x1) * (q5 + x3) = 20 * (q5 * x1) + 20 * (x1 * x3)).trans (by (try simp only [m13e.out, m14e.out]) <;> omega)).trans w15s)
  have h17 : Is ρ bd17 (w15 + 10000 * x0 + 1000) := Ya h4 h16 (by omega)
  have h29 : Is ρ bd29 (w18) := by
    have w18s := w18s.out
    exact Zmul h19 h28 (by omega) (((by simp only [Int.add_mul, Int.mul_add, Int.mul_assoc, Int.mul_comm, Int.mul_left_comm, Int.reduceMul, Int.reduceNeg, Int.mul_one, Int.one_mul] <;> omega : (30 * x2) * (q11 + x5) = 30 * (q11 * x2) + 30 * (x2 * x5)).trans (by (try simp only [m16e.out, m17e.out]) <;> omega)).trans w18s)
  have h30 : Is ρ bd30 (w15 + w18 + 10000 * x0 + 1000) := Ya h17 h29 (by omega)
  have h31 : Is ρ bd31 (x7) := Zconv e7 (by omega)
  have h32 : Is ρ bd32 (100 * x7) := Ym (Zc 100) h31 (by omega)
  have h33 : Is ρ bd33 (100 * x7 + 1) := Ya (Zc 1) h32 (by omega)
  have h34 : Is ρ bd34 (x8) := Zconv e8 (by omega)
  have h35 : Is ρ bd35 (10 * x8) := Ym (Zc 10) h34 (by omega)
  have h36 : Is ρ bd36 (100 * x7 + 10 * x8 + 1) := Ya h33 h35 (by omega)
  have h37 : Is ρ bd37 (x9) := Zconv e9 (by omega)
  have h38 : Is ρ bd38 (x9 + 1) := Ya (Zc 1) h37 (by omega)
  have h39 : Is ρ bd39 (x10) := Zconv e10 (by omega)
  have h40 : Is ρ bd40 (r20) := Zremp h39 (Zc 20) (by omega) r20e.out
  have h41 : Is ρ bd41 (r20 + x9 + 1) := Ya h38 h40 (by omega)
  have h42 : Is ρ bd42 (x11) := Zconv e11 (by omega)
  have h43 : Is ρ bd43 (100 * x11) := Ym (Zc 100) h42 (by omega)
  have h44 : Is ρ bd44 (100 * x11 + 1) := Ya (Zc 1) h43 (by omega)
  have h45 : Is ρ bd45 (x12) := Zconv e12 (by omega)
  have h46 : Is ρ bd46 (10 * x12) := Ym (Zc 10) h45 (by omega)
  have h47 : Is ρ bd47 (100 * x11 + 10 * x12 + 1) := Ya h44 h46 (by omega)
  have h78 : Is ρ bd78 (x20) := Zconv e20 (by omega)
  have h101 : Is ρ bd101 (0) := Ym h78 (Zc 0) (by omega)
  have h102 : Is ρ bd102 (0) := Zqx h101 (Zc 255) (by omega) (by omega) (by omega)
  have h103 : Is ρ bd103 (0) := Ya (Zc 0) h102 (by omega)
  have h104 : Is ρ bd104 (0) := Ym (Zc 1000) h103 (by omega)
  have h105 : Is ρ bd105 (q23) := by
    have w21s := w21s.out
    have w22s := w22s.out
    exact Ztq (w21s ▸ h104) (w22s ▸ h30) q23e.out (by omega)
  have h106 : Is ρ bd106 (x26) := Zconv e26 (by omega)
  have h111 : Is ρ bd111 (q23 + (-1) * x26) := Ys h105 h106 (by omega)
  have h112 : Is ρ bd112 (0) := Zmx (Zc 0) h111 (by omega)
  have h109 : Is ρ bd109 (x27) := Zconv e27 (by omega)
  have h113 : Is ρ bd113 (q23 + x27) := Ya h105 h109 (by omega)
  exact ⟨h3, h6, h7, h11, h15, h19, h20, h24, h28, h30, h33, h36, h38, h41, h44, h47, h112, h113⟩
theorem bd_con1 {ρ : Env} {x0 x1 x2 x3 x4 x5 x6 x7 x8 x9 x10 x11 x12 x13 x14 x15 x16 x17 x18 x19 x20 x21 x22 x23 x24 x25 x26 x27 : Int} (e0 : Is ρ (.v 0) x0) (b_x0 : 0 ≤ x0 ∧ x0 ≤ 255) (e1 : Is ρ (.v 1) x1) (b_x1 : 0 ≤ x1 ∧ x1 ≤ 255) (e2 : Is ρ (.v 2) x2) (b_x2 : 0 ≤ x2 ∧ x2 ≤ 255) (e3 : Is ρ (.v 3) x3) (b_x3 : 0 ≤ x3 ∧ x3 ≤ 255) (e4 : Is ρ (.v 4) x4) (b_x4 : 0 ≤ x4 ∧ x4 ≤ 255) (e5 : Is ρ (.v 5) x5) (b_x5 : 0 ≤ x5 ∧ x5 ≤ 255) (e6 : Is ρ (.v 6) x6) (b_x6 : 0 ≤ x6 ∧ x6 ≤ 255) (e7 : Is ρ (.v 7) x7) (b_x7 : 0 ≤ x7 ∧ x7 ≤ 255) (e8 : Is ρ (.v 8) x8) (b_x8 : 0 ≤ x8 ∧ x8 ≤ 255) (e9 : Is ρ (.v 9) x9) (b_x9 : 0 ≤ x9 ∧ x9 ≤ 255) (e10 : Is ρ (.v 10) x10) (b_x10 : 0 ≤ x10 ∧ x10 ≤ 255) (e11 : Is ρ (.v 11) x11) (b_x11 : 0 ≤ x11 ∧ x11 ≤ 255) (e12 : Is ρ (.v 12) x12) (b_x12 : 0 ≤ x12 ∧ x12 ≤ 255) (e13 : Is ρ (.v 13) x13) (b_x13 : 0 ≤ x13 ∧ x13 ≤ 255) (e14 : Is ρ (.v 14) x14) (b_x14 : 0 ≤ x14 ∧ x14 ≤ 65535) (e15 : Is ρ (.v 15) x15) (b_x15 : 0 ≤ x15 ∧ x15 ≤ 65535) (e16 : Is ρ (.v 16) x16) (b_x16 : 0 ≤ x16 ∧ x16 ≤ 65535) (e17 : Is ρ (.v 17) x17) (b_x17 : 0 ≤ x17 ∧ x17 ≤ 65535) (e18 : Is ρ (.v 18) x18) (b_x18 : 0 ≤ x18 ∧ x18 ≤ 255) (e19 : Is ρ (.v 19) x19) (b_x19 : 0 ≤ x19 ∧ x19 ≤ 255) (e20 : Is ρ (.v 20) x20) (b_x20 : 0 ≤ x20 ∧ x20 ≤ 255) (e21 : Is ρ (.v 21) x21) (b_x21 : 0 ≤ x21 ∧ x21 ≤ 255) (e22 : Is ρ (.v 22) x22) (b_x22 : 0 ≤ x22 ∧ x22 ≤ 255) (e23 : Is ρ (.v 23) x23) (b_x23 : 0 ≤ x23 ∧ x23 ≤ 255) (e24 : Is ρ (.v 24) x24) (b_x24 : 0 ≤ x24 ∧ x24 ≤ 255) (e25 : Is ρ (.v 25) x25) (b_x25 : 0 ≤ x25 ∧ x25 ≤ 255) (e26 : Is ρ (.v 26) x26) (b_x26 : 0 ≤ x26 ∧ x26 ≤ 255) (e27 : Is ρ (.v 27) x27) (b_x27 : 0 ≤ x27 ∧ x27 ≤ 255) : ∃ n v, (ablA (IE.den ρ bd3) (IE.den ρ bd6) (IE.den ρ bd19) (IE.den ρ bd7) (IE.den ρ bd11) (IE.den ρ bd20) (IE.den ρ bd24) (IE.den ρ bd33) (IE.den ρ bd36) (IE.den ρ bd38) (IE.den ρ bd41) (IE.den ρ bd44) (IE.den ρ bd47) (IE.den ρ (.c 0)) (IE.den ρ (.c 0)) (IE.den ρ bd112) (IE.den ρ bd113)).run n = some v ∧ blePost (IE.den ρ bd3) (IE.den ρ bd6) (IE.den ρ bd19) (IE.den ρ bd7) (IE.den ρ bd11) (IE.den ρ bd20) (IE.den ρ bd24) (IE.den ρ bd33) (IE.den ρ bd36) (IE.den ρ bd38) (IE.den ρ bd41) (IE.den ρ bd44) (IE.den ρ bd47) (IE.den ρ (.c 0)) (IE.den ρ (.c 0)) (IE.den ρ bd112) (IE.den ρ bd113) (IE.den ρ bd15) (IE.den ρ bd28) (IE.den ρ bd30) v := by
  obtain ⟨q1, r2, q1e, r2e, q1s, b_q1, b_r2⟩ := bd_aq1 b_x4
  obtain ⟨m3, m3e, m3f1, m3f2, m3f3, m3f4, b_m3⟩ := bd_am3 b_r2 b_x18
  obtain ⟨w4, w4s, b_w4⟩ := bd_aw4 b_m3
  obtain ⟨q5, r6, q5e, r6e, q5s, b_q5, b_r6⟩ := bd_aq5 b_w4
  obtain ⟨q7, r8, q7e, r8e, q7s, b_q7, b_r8⟩ := bd_aq7 b_x6
  obtain ⟨m9, m9e, m9f1, m9f2, m9f3, m9f4, b_m9⟩ := bd_am9 b_r8 b_x19
  obtain ⟨w10, w10s, b_w10⟩ := bd_aw10 b_m9
  obtain ⟨q11, r12, q11e, r12e, q11s, b_q11, b_r12⟩ := bd_aq11 b_w10
  obtain ⟨m13, m13e, m13f1, m13f2, m13f3, m13f4, b_m13⟩ := bd_am13 b_q5 b_x1
  obtain ⟨m14, m14e, m14f1, m14f2, m14f3, m14f4, b_m14⟩ := bd_am14 b_x1 b_x3
  obtain ⟨w15, w15s, b_w15⟩ := bd_aw15 b_m13 b_m14
  obtain ⟨m16, m16e, m16f1, m16f2, m16f3, m16f4, b_m16⟩ := bd_am16 b_q11 b_x2
  obtain ⟨m17, m17e, m17f1, m17f2, m17f3, m17f4, b_m17⟩ := bd_am17 b_x2 b_x5
  obtain ⟨w18, w18s, b_w18⟩ := bd_aw18 b_m16 b_m17
  obtain ⟨q19, r20, q19e, r20e, q19s, b_q19, b_r20⟩ := bd_aq19 b_x10
  obtain ⟨w21, w21s, b_w21⟩ := bd_aw21 
  obtain ⟨w22, w22s, b_w22⟩ := bd_aw22 b_w15 b_w18 b_x0
  obtain ⟨q23, q23e, q23h, b_q23⟩ := bd_aq23 b_w21 b_w22
  obtain ⟨m24, m24e, m24f1, m24f2, m24f3, m24f4, b_m24⟩ := bd_am24 b_q23 b_w22
  have q23d := qD_is q23h m24e.out
  have rf1 := bd_rf1 b_q5 
  have rf2 := bd_rf2 b_r6 q5s w4s m3f4
  have rf3 := bd_rf3 b_q11 
  have rf4 := bd_rf4 b_r12 q11s w10s m9f4
  obtain ⟨m25, m25e, m25f1, m25f2, m25f3, m25f4, b_m25⟩ := bd_am25 b_w22 b_x27
  obtain ⟨h3, h6, h7, h11, h15, h19, h20, h24, h28, h30, h33, h36, h38, h41, h44, h47, h112, h113⟩ := bd_g0 (ρ := ρ) e0 e1 e3 e4 r2e e18 m3e ⟨w4s⟩ q5e e2 e5 e6 r8e e19 m9e ⟨w10s⟩ q11e m13e m14e ⟨w15s⟩ m16e m17e ⟨w18s⟩ e7 e8 e9 e10 r20e e11 e12 e20 q23e ⟨w21s⟩ ⟨w22s⟩ e26 e27 b_x0 b_x1 b_x3 b_x4 b_r2 b_x18 b_w4 b_m3 b_q5 b_x2 b_x5 b_x6 b_r8 b_x19 b_w10 b_m9 b_q11 b_w15 b_m13 b_m14 b_w18 b_m16 b_m17 b_x7 b_x8 b_x9 b_x10 b_r20 b_x11 b_x12 b_x20 b_q23 b_w21 b_w22 b_x26 b_x27
  exact ble_runE ((IE.Z_den _ _).trans h3.out) ((IE.Z_den _ _).trans h6.out) ((IE.Z_den _ _).trans h19.out) ((IE.Z_den _ _).trans h7.out) ((IE.Z_den _ _).trans h11.out) ((IE.Z_den _ _).trans h20.out) ((IE.Z_den _ _).trans h24.out) ((IE.Z_den _ _).trans h33.out) ((IE.Z_den _ _).trans h36.out) ((IE.Z_den _ _).trans h38.out) ((IE.Z_den _ _).trans h41.out) ((IE.Z_den _ _).trans h44.out) ((IE.Z_den _ _).trans h47.out) rfl rfl ((IE.Z_den _ _).trans h112.out) ((IE.Z_den _ _).trans h113.out) ((IE.Z_den _ _).trans h15.out) ((IE.Z_den _ _).trans h28.out) (((IE.Z_den _ _).trans h30.out).trans w22s) (ble_run (bdk1_rf5 b_x0 ) (bdk1_rf6 b_x1 ) (bdk1_rf7 b_x2 ) (bdk1_rf8 b_x3 ) (bdk1_rf9 b_r2 b_x3 ) (bdk1_rf10 b_x5 ) (bdk1_rf11 b_r8 b_x5 ) (bdk1_rf12 b_x7 ) (bdk1_rf13 b_x7 b_x8 ) (bdk1_rf14 b_x9 ) (bdk1_rf15 b_r20 b_x9 ) (bdk1_rf16 b_x11 ) (bdk1_rf17 b_x11 b_x12 ) (bdk1_rf18  ) (bdk1_rf19  ) (bdk1_rf20  ) (bdk1_rf21 b_q23 b_x27 ) (bdk1_rf22 b_q5 b_x3 rf1) (bdk1_rf23 b_q11 b_x5 rf3) (bdk1_rf24 b_w22 ) (bdk1_rf25 b_r2 ) (bdk1_rf26 b_r8 ) (bdk1_rf27  ) (bdk1_rf28 b_q23 b_x27 ) (bdk1_rf29  rf1) (bdk1_rf30  rf2) (bdk1_rf31  rf3) (bdk1_rf32  rf4) (bdk1_rf33 b_x8 ) (bdk1_rf34 b_r20 ) (bdk1_rf35 b_x12 ) (bdk1_rf36  m13e m14e m16e m17e w22s w15s w18s) (bdk1_rf37 b_m24 b_m25 b_w22 m24e m25e) (bdk1_rf38  ))
end K1
end Go.Proofs.Ytknphpihipkdpaa.Cx
