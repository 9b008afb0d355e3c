/- BoltTrue: the tests of the law and their arithmetic. Made by tools/cxroot.py. -/
import Derived.Test.YtknphpihipkdpaaBTrueT
import Derived.Test.YtknphpihipkdpaaCxDiv
set_option linter.unusedSimpArgs false
set_option linter.unusedVariables false
set_option maxRecDepth 100000
set_option maxHeartbeats 4000000
namespace Go.Proofs.Ytknphpihipkdpaa.Cx
open Go Go.RowKit

theorem bt_aq1 {x13 : Int} (b_x13 : 0 ≤ x13 ∧ x13 ≤ 255) : ∃ q r : Int, Hd ((x13) / 3 = q) ∧ Hd ((x13) % 3 = r) ∧ (x13 = 3 * q + r) ∧ (0 ≤ q ∧ q ≤ 85) ∧ (0 ≤ r ∧ r ≤ 2) := ⟨_, _, ⟨rfl⟩, ⟨rfl⟩, by omega, by omega, by omega⟩
theorem bt_aq3 {x4 : Int} (b_x4 : 0 ≤ x4 ∧ x4 ≤ 255) : ∃ q r : Int, Hd ((x4) / 60 = q) ∧ Hd ((x4) % 60 = r) ∧ (x4 = 60 * q + r) ∧ (0 ≤ q ∧ q ≤ 4) ∧ (0 ≤ r ∧ r ≤ 59) := ⟨_, _, ⟨rfl⟩, ⟨rfl⟩, by omega, by omega, by omega⟩
theorem bt_aq5 {x6 : Int} (b_x6 : 0 ≤ x6 ∧ x6 ≤ 255) : ∃ q r : Int, Hd ((x6) / 60 = q) ∧ Hd ((x6) % 60 = r) ∧ (x6 = 60 * q + r) ∧ (0 ≤ q ∧ q ≤ 4) ∧ (0 ≤ r ∧ r ≤ 59) := ⟨_, _, ⟨rfl⟩, ⟨rfl⟩, by omega, by omega, by omega⟩
theorem bt_aq7 {x10 : Int} (b_x10 : 0 ≤ x10 ∧ x10 ≤ 255) : ∃ q r : Int, Hd ((x10) / 20 = q) ∧ Hd ((x10) % 20 = r) ∧ (x10 = 20 * q + r) ∧ (0 ≤ q ∧ q ≤ 12) ∧ (0 ≤ r ∧ r ≤ 19) := ⟨_, _, ⟨rfl⟩, ⟨rfl⟩, by omega, by omega, by omega⟩
theorem bt_am9 {r4 x1 : Int} (b_r4 : 0 ≤ r4 ∧ r4 ≤ 59) (b_x1 : 0 ≤ x1 ∧ x1 ≤ 255) : ∃ m : Int, Hd (r4 * x1 = m) ∧ ((0) * x1 + (0) * r4 - (0) ≤ m) ∧ ((59) * x1 + (255) * r4 - (15045) ≤ m) ∧ (m ≤ (59) * x1 + (0) * r4 - (0)) ∧ (m ≤ (0) * x1 + (255) * r4 - (0)) ∧ (0 ≤ m ∧ m ≤ 15045) := by
  obtain ⟨h1, h2, h3, h4⟩ := mcc (x := r4) (y := x1) b_r4.1 b_r4.2 b_x1.1 b_x1.2
  refine ⟨_, ⟨rfl⟩, ?_, ?_, ?_, ?_, ?_, ?_⟩ <;> omega
theorem bt_am10 {x1 x3 : Int} (b_x1 : 0 ≤ x1 ∧ x1 ≤ 255) (b_x3 : 0 ≤ x3 ∧ x3 ≤ 255) : ∃ m : Int, Hd (x1 * x3 = m) ∧ ((0) * x3 + (0) * x1 - (0) ≤ m) ∧ ((255) * x3 + (255) * x1 - (65025) ≤ m) ∧ (m ≤ (255) * x3 + (0) * x1 - (0)) ∧ (m ≤ (0) * x3 + (255) * x1 - (0)) ∧ (0 ≤ m ∧ m ≤ 65025) := by
  obtain ⟨h1, h2, h3, h4⟩ := mcc (x := x1) (y := x3) b_x1.1 b_x1.2 b_x3.1 b_x3.2
  refine ⟨_, ⟨rfl⟩, ?_, ?_, ?_, ?_, ?_, ?_⟩ <;> omega
theorem bt_aw11 {m10 m9 : Int} (b_m10 : 0 ≤ m10 ∧ m10 ≤ 65025) (b_m9 : 0 ≤ m9 ∧ m9 ≤ 15045) : ∃ w : Int, (20 * m10 + 20 * m9 = w) ∧ (0 ≤ w ∧ w ≤ 1601400) := ⟨_, rfl, by omega, by omega⟩
theorem bt_am12 {r6 x2 : Int} (b_r6 : 0 ≤ r6 ∧ r6 ≤ 59) (b_x2 : 0 ≤ x2 ∧ x2 ≤ 255) : ∃ m : Int, Hd (r6 * x2 = m) ∧ ((0) * x2 + (0) * r6 - (0) ≤ m) ∧ ((59) * x2 + (255) * r6 - (15045) ≤ m) ∧ (m ≤ (59) * x2 + (0) * r6 - (0)) ∧ (m ≤ (0) * x2 + (255) * r6 - (0)) ∧ (0 ≤ m ∧ m ≤ 15045) := by
  obtain ⟨h1, h2, h3, h4⟩ := mcc (x := r6) (y := x2) b_r6.1 b_r6.2 b_x2.1 b_x2.2
  refine ⟨_, ⟨rfl⟩, ?_, ?_, ?_, ?_, ?_, ?_⟩ <;> omega
theorem bt_am13 {x2 x5 : Int} (b_x2 : 0 ≤ x2 ∧ x2 ≤ 255) (b_x5 : 0 ≤ x5 ∧ x5 ≤ 255) : ∃ m : Int, Hd (x2 * x5 = m) ∧ ((0) * x5 + (0) * x2 - (0) ≤ m) ∧ ((255) * x5 + (255) * x2 - (65025) ≤ m) ∧ (m ≤ (255) * x5 + (0) * x2 - (0)) ∧ (m ≤ (0) * x5 + (255) * x2 - (0)) ∧ (0 ≤ m ∧ m ≤ 65025) := by
  obtain ⟨h1, h2, h3, h4⟩ := mcc (x := x2) (y := x5) b_x2.1 b_x2.2 b_x5.1 b_x5.2
  refine ⟨_, ⟨rfl⟩, ?_, ?_, ?_, ?_, ?_, ?_⟩ <;> omega
theorem bt_aw14 {m12 m13 : Int} (b_m12 : 0 ≤ m12 ∧ m12 ≤ 15045) (b_m13 : 0 ≤ m13 ∧ m13 ≤ 65025) : ∃ w : Int, (30 * m12 + 30 * m13 = w) ∧ (0 ≤ w ∧ w ≤ 2402100) := ⟨_, rfl, by omega, by omega⟩
theorem bt_aw15 {m10 : Int} (b_m10 : 0 ≤ m10 ∧ m10 ≤ 65025) : ∃ w : Int, (20 * m10 = w) ∧ (0 ≤ w ∧ w ≤ 1300500) := ⟨_, rfl, by omega, by omega⟩
theorem bt_aw16 {m13 : Int} (b_m13 : 0 ≤ m13 ∧ m13 ≤ 65025) : ∃ w : Int, (30 * m13 = w) ∧ (0 ≤ w ∧ w ≤ 1950750) := ⟨_, rfl, by omega, by omega⟩
theorem bt_am17 {r4 x18 : Int} (b_r4 : 0 ≤ r4 ∧ r4 ≤ 59) (b_x18 : 0 ≤ x18 ∧ x18 ≤ 255) : ∃ m : Int, Hd (r4 * x18 = m) ∧ ((0) * x18 + (0) * r4 - (0) ≤ m) ∧ ((59) * x18 + (255) * r4 - (15045) ≤ m) ∧ (m ≤ (59) * x18 + (0) * r4 - (0)) ∧ (m ≤ (0) * x18 + (255) * r4 - (0)) ∧ (0 ≤ m ∧ m ≤ 15045) := by
  obtain ⟨h1, h2, h3, h4⟩ := mcc (x := r4) (y := x18) b_r4.1 b_r4.2 b_x18.1 b_x18.2
  refine ⟨_, ⟨rfl⟩, ?_, ?_, ?_, ?_, ?_, ?_⟩ <;> omega
theorem bt_aw18 {m17 : Int} (b_m17 : 0 ≤ m17 ∧ m17 ≤ 15045) : ∃ w : Int, (m17 = w) ∧ (0 ≤ w ∧ w ≤ 15045) := ⟨_, rfl, by omega, by omega⟩
theorem bt_aq19 {w18 : Int} (b_w18 : 0 ≤ w18 ∧ w18 ≤ 15045) : ∃ q r : Int, Hd ((w18) / 255 = q) ∧ Hd ((w18) % 255 = r) ∧ (w18 = 255 * q + r) ∧ (0 ≤ q ∧ q ≤ 59) ∧ (0 ≤ r ∧ r ≤ 254) := ⟨_, _, ⟨rfl⟩, ⟨rfl⟩, by omega, by omega, by omega⟩
theorem bt_am21 {q19 x1 : Int} (b_q19 : 0 ≤ q19 ∧ q19 ≤ 59) (b_x1 : 0 ≤ x1 ∧ x1 ≤ 255) : ∃ m : Int, Hd (q19 * x1 = m) ∧ ((0) * x1 + (0) * q19 - (0) ≤ m) ∧ ((59) * x1 + (255) * q19 - (15045) ≤ m) ∧ (m ≤ (59) * x1 + (0) * q19 - (0)) ∧ (m ≤ (0) * x1 + (255) * q19 - (0)) ∧ (0 ≤ m ∧ m ≤ 15045) := by
  obtain ⟨h1, h2, h3, h4⟩ := mcc (x := q19) (y := x1) b_q19.1 b_q19.2 b_x1.1 b_x1.2
  refine ⟨_, ⟨rfl⟩, ?_, ?_, ?_, ?_, ?_, ?_⟩ <;> omega
theorem bt_aw22 {m10 m21 : Int} (b_m10 : 0 ≤ m10 ∧ m10 ≤ 65025) (b_m21 : 0 ≤ m21 ∧ m21 ≤ 15045) : ∃ w : Int, (20 * m10 + 20 * m21 = w) ∧ (0 ≤ w ∧ w ≤ 1601400) := ⟨_, rfl, by omega, by omega⟩
theorem bt_am23 {r6 x19 : Int} (b_r6 : 0 ≤ r6 ∧ r6 ≤ 59) (b_x19 : 0 ≤ x19 ∧ x19 ≤ 255) : ∃ m : Int, Hd (r6 * x19 = m) ∧ ((0) * x19 + (0) * r6 - (0) ≤ m) ∧ ((59) * x19 + (255) * r6 - (15045) ≤ m) ∧ (m ≤ (59) * x19 + (0) * r6 - (0)) ∧ (m ≤ (0) * x19 + (255) * r6 - (0)) ∧ (0 ≤ m ∧ m ≤ 15045) := by
  obtain ⟨h1, h2, h3, h4⟩ := mcc (x := r6) (y := x19) b_r6.1 b_r6.2 b_x19.1 b_x19.2
  refine ⟨_, ⟨rfl⟩, ?_, ?_, ?_, ?_, ?_, ?_⟩ <;> omega
theorem bt_aw24 {m23 : Int} (b_m23 : 0 ≤ m23 ∧ m23 ≤ 15045) : ∃ w : Int, (m23 = w) ∧ (0 ≤ w ∧ w ≤ 15045) := ⟨_, rfl, by omega, by omega⟩
theorem bt_aq25 {w24 : Int} (b_w24 : 0 ≤ w24 ∧ w24 ≤ 15045) : ∃ q r : Int, Hd ((w24) / 255 = q) ∧ Hd ((w24) % 255 = r) ∧ (w24 = 255 * q + r) ∧ (0 ≤ q ∧ q ≤ 59) ∧ (0 ≤ r ∧ r ≤ 254) := ⟨_, _, ⟨rfl⟩, ⟨rfl⟩, by omega, by omega, by omega⟩
theorem bt_am27 {q25 x2 : Int} (b_q25 : 0 ≤ q25 ∧ q25 ≤ 59) (b_x2 : 0 ≤ x2 ∧ x2 ≤ 255) : ∃ m : Int, Hd (q25 * x2 = m) ∧ ((0) * x2 + (0) * q25 - (0) ≤ m) ∧ ((59) * x2 + (255) * q25 - (15045) ≤ m) ∧ (m ≤ (59) * x2 + (0) * q25 - (0)) ∧ (m ≤ (0) * x2 + (255) * q25 - (0)) ∧ (0 ≤ m ∧ m ≤ 15045) := by
  obtain ⟨h1, h2, h3, h4⟩ := mcc (x := q25) (y := x2) b_q25.1 b_q25.2 b_x2.1 b_x2.2
  refine ⟨_, ⟨rfl⟩, ?_, ?_, ?_, ?_, ?_, ?_⟩ <;> omega
theorem bt_aw28 {m13 m27 : Int} (b_m13 : 0 ≤ m13 ∧ m13 ≤ 65025) (b_m27 : 0 ≤ m27 ∧ m27 ≤ 15045) : ∃ w : Int, (30 * m13 + 30 * m27 = w) ∧ (0 ≤ w ∧ w ≤ 2402100) := ⟨_, rfl, by omega, by omega⟩
theorem bt_aw29 {x14 : Int} (b_x14 : 0 ≤ x14 ∧ x14 ≤ 65535) : ∃ w : Int, (500000 * x14 = w) ∧ (0 ≤ w ∧ w ≤ 32767500000) := ⟨_, rfl, by omega, by omega⟩
theorem bt_aw30 {w11 w14 x0 : Int} (b_w11 : 0 ≤ w11 ∧ w11 ≤ 1601400) (b_w14 : 0 ≤ w14 ∧ w14 ≤ 2402100) (b_x0 : 0 ≤ x0 ∧ x0 ≤ 255) : ∃ w : Int, (w11 + w14 + 10000 * x0 + 1000 = w) ∧ (1000 ≤ w ∧ w ≤ 6554500) := ⟨_, rfl, by omega, by omega⟩
theorem bt_aq31 {w29 w30 : Int} (b_w29 : 0 ≤ w29 ∧ w29 ≤ 32767500000) (b_w30 : 1000 ≤ w30 ∧ w30 ≤ 6554500) : ∃ q : Int, Hd (w29.tdiv w30 = q) ∧ QD w29 w30 q ∧ (0 ≤ q ∧ q ≤ 32767500) := by
  obtain ⟨q, h1, h2⟩ := qD_ex w29 w30 (by omega)
  obtain ⟨h3, h4⟩ := qD_rng (lo := 0) (hi := 32767500000) (dl := 1000) h2 (by omega) (by omega) (by omega) (by omega) (by omega) (by omega)
  have h5 := (h2.1 (by omega)).1
  exact ⟨q, h1, h2, by omega, by omega⟩
theorem bt_am32 {q31 w30 : Int} (b_q31 : 0 ≤ q31 ∧ q31 ≤ 32767500) (b_w30 : 1000 ≤ w30 ∧ w30 ≤ 6554500) : ∃ m : Int, Hd (q31 * w30 = m) ∧ ((0) * w30 + (1000) * q31 - (0) ≤ m) ∧ ((32767500) * w30 + (6554500) * q31 - (214774578750000) ≤ m) ∧ (m ≤ (32767500) * w30 + (1000) * q31 - (32767500000)) ∧ (m ≤ (0) * w30 + (6554500) * q31 - (0)) ∧ (0 ≤ m ∧ m ≤ 214774578750000) := by
  obtain ⟨h1, h2, h3, h4⟩ := mcc (x := q31) (y := w30) b_q31.1 b_q31.2 b_w30.1 b_w30.2
  refine ⟨_, ⟨rfl⟩, ?_, ?_, ?_, ?_, ?_, ?_⟩ <;> omega
theorem bt_am33 {x15 x20 : Int} (b_x15 : 0 ≤ x15 ∧ x15 ≤ 65535) (b_x20 : 0 ≤ x20 ∧ x20 ≤ 255) : ∃ m : Int, Hd (x15 * x20 = m) ∧ ((0) * x20 + (0) * x15 - (0) ≤ m) ∧ ((65535) * x20 + (255) * x15 - (16711425) ≤ m) ∧ (m ≤ (65535) * x20 + (0) * x15 - (0)) ∧ (m ≤ (0) * x20 + (255) * x15 - (0)) ∧ (0 ≤ m ∧ m ≤ 16711425) := by
  obtain ⟨h1, h2, h3, h4⟩ := mcc (x := x15) (y := x20) b_x15.1 b_x15.2 b_x20.1 b_x20.2
  refine ⟨_, ⟨rfl⟩, ?_, ?_, ?_, ?_, ?_, ?_⟩ <;> omega
theorem bt_aw34 {m33 : Int} (b_m33 : 0 ≤ m33 ∧ m33 ≤ 16711425) : ∃ w : Int, (m33 = w) ∧ (0 ≤ w ∧ w ≤ 16711425) := ⟨_, rfl, by omega, by omega⟩
theorem bt_aq35 {w34 : Int} (b_w34 : 0 ≤ w34 ∧ w34 ≤ 16711425) : ∃ q r : Int, Hd ((w34) / 255 = q) ∧ Hd ((w34) % 255 = r) ∧ (w34 = 255 * q + r) ∧ (0 ≤ q ∧ q ≤ 65535) ∧ (0 ≤ r ∧ r ≤ 254) := ⟨_, _, ⟨rfl⟩, ⟨rfl⟩, by omega, by omega, by omega⟩
theorem bt_aw37 {q35 x14 : Int} (b_q35 : 0 ≤ q35 ∧ q35 ≤ 65535) (b_x14 : 0 ≤ x14 ∧ x14 ≤ 65535) : ∃ w : Int, (1000 * q35 + 500000 * x14 = w) ∧ (0 ≤ w ∧ w ≤ 32833035000) := ⟨_, rfl, by omega, by omega⟩
theorem bt_aw38 {w22 w28 x0 : Int} (b_w22 : 0 ≤ w22 ∧ w22 ≤ 1601400) (b_w28 : 0 ≤ w28 ∧ w28 ≤ 2402100) (b_x0 : 0 ≤ x0 ∧ x0 ≤ 255) : ∃ w : Int, (w22 + w28 + 10000 * x0 + 1000 = w) ∧ (1000 ≤ w ∧ w ≤ 6554500) := ⟨_, rfl, by omega, by omega⟩
theorem bt_aq39 {w37 w38 : Int} (b_w37 : 0 ≤ w37 ∧ w37 ≤ 32833035000) (b_w38 : 1000 ≤ w38 ∧ w38 ≤ 6554500) : ∃ q : Int, Hd (w37.tdiv w38 = q) ∧ QD w37 w38 q ∧ (0 ≤ q ∧ q ≤ 32833035) := by
  obtain ⟨q, h1, h2⟩ := qD_ex w37 w38 (by omega)
  obtain ⟨h3, h4⟩ := qD_rng (lo := 0) (hi := 32833035000) (dl := 1000) h2 (by omega) (by omega) (by omega) (by omega) (by omega) (by omega)
  have h5 := (h2.1 (by omega)).1
  exact ⟨q, h1, h2, by omega, by omega⟩
theorem bt_am40 {q39 w38 : Int} (b_q39 : 0 ≤ q39 ∧ q39 ≤ 32833035) (b_w38 : 1000 ≤ w38 ∧ w38 ≤ 6554500) : ∃ m : Int, Hd (q39 * w38 = m) ∧ ((0) * w38 + (1000) * q39 - (0) ≤ m) ∧ ((32833035) * w38 + (6554500) * q39 - (215204127907500) ≤ m) ∧ (m ≤ (32833035) * w38 + (1000) * q39 - (32833035000)) ∧ (m ≤ (0) * w38 + (6554500) * q39 - (0)) ∧ (0 ≤ m ∧ m ≤ 215204127907500) := by
  obtain ⟨h1, h2, h3, h4⟩ := mcc (x := q39) (y := w38) b_q39.1 b_q39.2 b_w38.1 b_w38.2
  refine ⟨_, ⟨rfl⟩, ?_, ?_, ?_, ?_, ?_, ?_⟩ <;> omega
theorem bt_aw41 {x14 x15 : Int} (b_x14 : 0 ≤ x14 ∧ x14 ≤ 65535) (b_x15 : 0 ≤ x15 ∧ x15 ≤ 65535) : ∃ w : Int, (500000 * x14 + 1000 * x15 = w) ∧ (0 ≤ w ∧ w ≤ 32833035000) := ⟨_, rfl, by omega, by omega⟩
theorem bt_aw42 {w15 w16 x0 : Int} (b_w15 : 0 ≤ w15 ∧ w15 ≤ 1300500) (b_w16 : 0 ≤ w16 ∧ w16 ≤ 1950750) (b_x0 : 0 ≤ x0 ∧ x0 ≤ 255) : ∃ w : Int, (w15 + w16 + 10000 * x0 + 1000 = w) ∧ (1000 ≤ w ∧ w ≤ 5802250) := ⟨_, rfl, by omega, by omega⟩
theorem bt_aq43 {w41 w42 : Int} (b_w41 : 0 ≤ w41 ∧ w41 ≤ 32833035000) (b_w42 : 1000 ≤ w42 ∧ w42 ≤ 5802250) : ∃ q : Int, Hd (w41.tdiv w42 = q) ∧ QD w41 w42 q ∧ (0 ≤ q ∧ q ≤ 32833035) := by
  obtain ⟨q, h1, h2⟩ := qD_ex w41 w42 (by omega)
  obtain ⟨h3, h4⟩ := qD_rng (lo := 0) (hi := 32833035000) (dl := 1000) h2 (by omega) (by omega) (by omega) (by omega) (by omega) (by omega)
  have h5 := (h2.1 (by omega)).1
  exact ⟨q, h1, h2, by omega, by omega⟩
theorem bt_am44 {q43 w42 : Int} (b_q43 : 0 ≤ q43 ∧ q43 ≤ 32833035) (b_w42 : 1000 ≤ w42 ∧ w42 ≤ 5802250) : ∃ m : Int, Hd (q43 * w42 = m) ∧ ((0) * w42 + (1000) * q43 - (0) ≤ m) ∧ ((32833035) * w42 + (5802250) * q43 - (190505477328750) ≤ m) ∧ (m ≤ (32833035) * w42 + (1000) * q43 - (32833035000)) ∧ (m ≤ (0) * w42 + (5802250) * q43 - (0)) ∧ (0 ≤ m ∧ m ≤ 190505477328750) := by
  obtain ⟨h1, h2, h3, h4⟩ := mcc (x := q43) (y := w42) b_q43.1 b_q43.2 b_w42.1 b_w42.2
  refine ⟨_, ⟨rfl⟩, ?_, ?_, ?_, ?_, ?_, ?_⟩ <;> omega
theorem bt_au45 {q31 x26 x27 : Int} (b_q31 : 0 ≤ q31 ∧ q31 ≤ 32767500) (b_x26 : 0 ≤ x26 ∧ x26 ≤ 255) (b_x27 : 0 ≤ x27 ∧ x27 ≤ 255) : ∃ m : Int, (max (q31 + (-1) * x26 + (-1) * x27) 0 = m) ∧ (0 ≤ m ∧ m ≤ 32767500) := ⟨_, rfl, by omega, by omega⟩
theorem bt_am46 {x25 x27 : Int} (b_x25 : 0 ≤ x25 ∧ x25 ≤ 255) (b_x27 : 0 ≤ x27 ∧ x27 ≤ 255) : ∃ m : Int, Hd (x25 * x27 = m) ∧ ((0) * x27 + (0) * x25 - (0) ≤ m) ∧ ((255) * x27 + (255) * x25 - (65025) ≤ m) ∧ (m ≤ (255) * x27 + (0) * x25 - (0)) ∧ (m ≤ (0) * x27 + (255) * x25 - (0)) ∧ (0 ≤ m ∧ m ≤ 65025) := by
  obtain ⟨h1, h2, h3, h4⟩ := mcc (x := x25) (y := x27) b_x25.1 b_x25.2 b_x27.1 b_x27.2
  refine ⟨_, ⟨rfl⟩, ?_, ?_, ?_, ?_, ?_, ?_⟩ <;> omega
theorem bt_aw47 {m46 : Int} (b_m46 : 0 ≤ m46 ∧ m46 ≤ 65025) : ∃ w : Int, (m46 = w) ∧ (0 ≤ w ∧ w ≤ 65025) := ⟨_, rfl, by omega, by omega⟩
theorem bt_aq48 {w47 : Int} (b_w47 : 0 ≤ w47 ∧ w47 ≤ 65025) : ∃ q r : Int, Hd ((w47) / 255 = q) ∧ Hd ((w47) % 255 = r) ∧ (w47 = 255 * q + r) ∧ (0 ≤ q ∧ q ≤ 255) ∧ (0 ≤ r ∧ r ≤ 254) := ⟨_, _, ⟨rfl⟩, ⟨rfl⟩, by omega, by omega, by omega⟩
theorem bt_au50 {q39 q48 x26 : Int} (b_q39 : 0 ≤ q39 ∧ q39 ≤ 32833035) (b_q48 : 0 ≤ q48 ∧ q48 ≤ 255) (b_x26 : 0 ≤ x26 ∧ x26 ≤ 255) : ∃ m : Int, (max (q39 + (-1) * q48 + (-1) * x26) 0 = m) ∧ (0 ≤ m ∧ m ≤ 32833035) := ⟨_, rfl, by omega, by omega⟩
theorem bt_au51 {q43 x26 : Int} (b_q43 : 0 ≤ q43 ∧ q43 ≤ 32833035) (b_x26 : 0 ≤ x26 ∧ x26 ≤ 255) : ∃ m : Int, (max (q43 + (-1) * x26) 0 = m) ∧ (0 ≤ m ∧ m ≤ 32833035) := ⟨_, rfl, by omega, by omega⟩
theorem bt_am52 {x12 x25 : Int} (b_x12 : 0 ≤ x12 ∧ x12 ≤ 255) (b_x25 : 0 ≤ x25 ∧ x25 ≤ 255) : ∃ m : Int, Hd (x12 * x25 = m) ∧ ((0) * x25 + (0) * x12 - (0) ≤ m) ∧ ((255) * x25 + (255) * x12 - (65025) ≤ m) ∧ (m ≤ (255) * x25 + (0) * x12 - (0)) ∧ (m ≤ (0) * x25 + (255) * x12 - (0)) ∧ (0 ≤ m ∧ m ≤ 65025) := by
  obtain ⟨h1, h2, h3, h4⟩ := mcc (x := x12) (y := x25) b_x12.1 b_x12.2 b_x25.1 b_x25.2
  refine ⟨_, ⟨rfl⟩, ?_, ?_, ?_, ?_, ?_, ?_⟩ <;> omega
theorem bt_aw53 {m52 : Int} (b_m52 : 0 ≤ m52 ∧ m52 ≤ 65025) : ∃ w : Int, (10 * m52 = w) ∧ (0 ≤ w ∧ w ≤ 650250) := ⟨_, rfl, by omega, by omega⟩
theorem bt_aq54 {w53 : Int} (b_w53 : 0 ≤ w53 ∧ w53 ≤ 650250) : ∃ q r : Int, Hd ((w53) / 255 = q) ∧ Hd ((w53) % 255 = r) ∧ (w53 = 255 * q + r) ∧ (0 ≤ q ∧ q ≤ 2550) ∧ (0 ≤ r ∧ r ≤ 254) := ⟨_, _, ⟨rfl⟩, ⟨rfl⟩, by omega, by omega, by omega⟩
theorem bt_aq56 {x16 : Int} (b_x16 : 0 ≤ x16 ∧ x16 ≤ 65535) : ∃ q r : Int, Hd ((x16) / 1000 = q) ∧ Hd ((x16) % 1000 = r) ∧ (x16 = 1000 * q + r) ∧ (0 ≤ q ∧ q ≤ 65) ∧ (0 ≤ r ∧ r ≤ 999) := ⟨_, _, ⟨rfl⟩, ⟨rfl⟩, by omega, by omega, by omega⟩
theorem bt_aq58 {x17 : Int} (b_x17 : 0 ≤ x17 ∧ x17 ≤ 65535) : ∃ q r : Int, Hd ((x17) / 50 = q) ∧ Hd ((x17) % 50 = r) ∧ (x17 = 50 * q + r) ∧ (0 ≤ q ∧ q ≤ 1310) ∧ (0 ≤ r ∧ r ≤ 49) := ⟨_, _, ⟨rfl⟩, ⟨rfl⟩, by omega, by omega, by omega⟩
theorem bt_am60 {r57 x7 : Int} (b_r57 : 0 ≤ r57 ∧ r57 ≤ 999) (b_x7 : 0 ≤ x7 ∧ x7 ≤ 255) : ∃ m : Int, Hd (r57 * x7 = m) ∧ ((0) * x7 + (0) * r57 - (0) ≤ m) ∧ ((999) * x7 + (255) * r57 - (254745) ≤ m) ∧ (m ≤ (999) * x7 + (0) * r57 - (0)) ∧ (m ≤ (0) * x7 + (255) * r57 - (0)) ∧ (0 ≤ m ∧ m ≤ 254745) := by
  obtain ⟨h1, h2, h3, h4⟩ := mcc (x := r57) (y := x7) b_r57.1 b_r57.2 b_x7.1 b_x7.2
  refine ⟨_, ⟨rfl⟩, ?_, ?_, ?_, ?_, ?_, ?_⟩ <;> omega
theorem bt_aw61 {m60 r57 : Int} (b_m60 : 0 ≤ m60 ∧ m60 ≤ 254745) (b_r57 : 0 ≤ r57 ∧ r57 ≤ 999) : ∃ w : Int, (100 * m60 + r57 = w) ∧ (0 ≤ w ∧ w ≤ 25475499) := ⟨_, rfl, by omega, by omega⟩
theorem bt_aq62 {w61 : Int} (b_w61 : 0 ≤ w61 ∧ w61 ≤ 25475499) : ∃ q r : Int, Hd ((w61) / 1000 = q) ∧ Hd ((w61) % 1000 = r) ∧ (w61 = 1000 * q + r) ∧ (0 ≤ q ∧ q ≤ 25475) ∧ (0 ≤ r ∧ r ≤ 999) := ⟨_, _, ⟨rfl⟩, ⟨rfl⟩, by omega, by omega, by omega⟩
theorem bt_am64 {x21 x8 : Int} (b_x21 : 0 ≤ x21 ∧ x21 ≤ 255) (b_x8 : 0 ≤ x8 ∧ x8 ≤ 255) : ∃ m : Int, Hd (x21 * x8 = m) ∧ ((0) * x8 + (0) * x21 - (0) ≤ m) ∧ ((255) * x8 + (255) * x21 - (65025) ≤ m) ∧ (m ≤ (255) * x8 + (0) * x21 - (0)) ∧ (m ≤ (0) * x8 + (255) * x21 - (0)) ∧ (0 ≤ m ∧ m ≤ 65025) := by
  obtain ⟨h1, h2, h3, h4⟩ := mcc (x := x21) (y := x8) b_x21.1 b_x21.2 b_x8.1 b_x8.2
  refine ⟨_, ⟨rfl⟩, ?_, ?_, ?_, ?_, ?_, ?_⟩ <;> omega
theorem bt_aw65 {m64 : Int} (b_m64 : 0 ≤ m64 ∧ m64 ≤ 65025) : ∃ w : Int, (10 * m64 = w) ∧ (0 ≤ w ∧ w ≤ 650250) := ⟨_, rfl, by omega, by omega⟩
theorem bt_aq66 {w65 : Int} (b_w65 : 0 ≤ w65 ∧ w65 ≤ 650250) : ∃ q r : Int, Hd ((w65) / 255 = q) ∧ Hd ((w65) % 255 = r) ∧ (w65 = 255 * q + r) ∧ (0 ≤ q ∧ q ≤ 2550) ∧ (0 ≤ r ∧ r ≤ 254) := ⟨_, _, ⟨rfl⟩, ⟨rfl⟩, by omega, by omega, by omega⟩
theorem bt_am68 {r59 x22 : Int} (b_r59 : 0 ≤ r59 ∧ r59 ≤ 49) (b_x22 : 0 ≤ x22 ∧ x22 ≤ 255) : ∃ m : Int, Hd (r59 * x22 = m) ∧ ((0) * x22 + (0) * r59 - (0) ≤ m) ∧ ((49) * x22 + (255) * r59 - (12495) ≤ m) ∧ (m ≤ (49) * x22 + (0) * r59 - (0)) ∧ (m ≤ (0) * x22 + (255) * r59 - (0)) ∧ (0 ≤ m ∧ m ≤ 12495) := by
  obtain ⟨h1, h2, h3, h4⟩ := mcc (x := r59) (y := x22) b_r59.1 b_r59.2 b_x22.1 b_x22.2
  refine ⟨_, ⟨rfl⟩, ?_, ?_, ?_, ?_, ?_, ?_⟩ <;> omega
theorem bt_aw69 {m68 : Int} (b_m68 : 0 ≤ m68 ∧ m68 ≤ 12495) : ∃ w : Int, (m68 = w) ∧ (0 ≤ w ∧ w ≤ 12495) := ⟨_, rfl, by omega, by omega⟩
theorem bt_aq70 {w69 : Int} (b_w69 : 0 ≤ w69 ∧ w69 ≤ 12495) : ∃ q r : Int, Hd ((w69) / 255 = q) ∧ Hd ((w69) % 255 = r) ∧ (w69 = 255 * q + r) ∧ (0 ≤ q ∧ q ≤ 49) ∧ (0 ≤ r ∧ r ≤ 254) := ⟨_, _, ⟨rfl⟩, ⟨rfl⟩, by omega, by omega, by omega⟩
theorem bt_am72 {q66 q70 : Int} (b_q66 : 0 ≤ q66 ∧ q66 ≤ 2550) (b_q70 : 0 ≤ q70 ∧ q70 ≤ 49) : ∃ m : Int, Hd (q66 * q70 = m) ∧ ((0) * q70 + (0) * q66 - (0) ≤ m) ∧ ((2550) * q70 + (49) * q66 - (124950) ≤ m) ∧ (m ≤ (2550) * q70 + (0) * q66 - (0)) ∧ (m ≤ (0) * q70 + (49) * q66 - (0)) ∧ (0 ≤ m ∧ m ≤ 124950) := by
  obtain ⟨h1, h2, h3, h4⟩ := mcc (x := q66) (y := q70) b_q66.1 b_q66.2 b_q70.1 b_q70.2
  refine ⟨_, ⟨rfl⟩, ?_, ?_, ?_, ?_, ?_, ?_⟩ <;> omega
theorem bt_am73 {q66 r57 : Int} (b_q66 : 0 ≤ q66 ∧ q66 ≤ 2550) (b_r57 : 0 ≤ r57 ∧ r57 ≤ 999) : ∃ m : Int, Hd (q66 * r57 = m) ∧ ((0) * r57 + (0) * q66 - (0) ≤ m) ∧ ((2550) * r57 + (999) * q66 - (2547450) ≤ m) ∧ (m ≤ (2550) * r57 + (0) * q66 - (0)) ∧ (m ≤ (0) * r57 + (999) * q66 - (0)) ∧ (0 ≤ m ∧ m ≤ 2547450) := by
  obtain ⟨h1, h2, h3, h4⟩ := mcc (x := q66) (y := r57) b_q66.1 b_q66.2 b_r57.1 b_r57.2
  refine ⟨_, ⟨rfl⟩, ?_, ?_, ?_, ?_, ?_, ?_⟩ <;> omega
theorem bt_am74 {q70 x7 : Int} (b_q70 : 0 ≤ q70 ∧ q70 ≤ 49) (b_x7 : 0 ≤ x7 ∧ x7 ≤ 255) : ∃ m : Int, Hd (q70 * x7 = m) ∧ ((0) * x7 + (0) * q70 - (0) ≤ m) ∧ ((49) * x7 + (255) * q70 - (12495) ≤ m) ∧ (m ≤ (49) * x7 + (0) * q70 - (0)) ∧ (m ≤ (0) * x7 + (255) * q70 - (0)) ∧ (0 ≤ m ∧ m ≤ 12495) := by
  obtain ⟨h1, h2, h3, h4⟩ := mcc (x := q70) (y := x7) b_q70.1 b_q70.2 b_x7.1 b_x7.2
  refine ⟨_, ⟨rfl⟩, ?_, ?_, ?_, ?_, ?_, ?_⟩ <;> omega
theorem bt_aw75 {m60 m72 m73 m74 q70 r57 : Int} (b_m60 : 0 ≤ m60 ∧ m60 ≤ 254745) (b_m72 : 0 ≤ m72 ∧ m72 ≤ 124950) (b_m73 : 0 ≤ m73 ∧ m73 ≤ 2547450) (b_m74 : 0 ≤ m74 ∧ m74 ≤ 12495) (b_q70 : 0 ≤ q70 ∧ q70 ≤ 49) (b_r57 : 0 ≤ r57 ∧ r57 ≤ 999) : ∃ w : Int, (100 * m60 + m72 + m73 + 100 * m74 + q70 + r57 = w) ∧ (0 ≤ w ∧ w ≤ 29397448) := ⟨_, rfl, by omega, by omega⟩
theorem bt_aq76 {w75 : Int} (b_w75 : 0 ≤ w75 ∧ w75 ≤ 29397448) : ∃ q r : Int, Hd ((w75) / 1000 = q) ∧ Hd ((w75) % 1000 = r) ∧ (w75 = 1000 * q + r) ∧ (0 ≤ q ∧ q ≤ 29397) ∧ (0 ≤ r ∧ r ≤ 999) := ⟨_, _, ⟨rfl⟩, ⟨rfl⟩, by omega, by omega, by omega⟩
theorem bt_am78 {r59 x7 : Int} (b_r59 : 0 ≤ r59 ∧ r59 ≤ 49) (b_x7 : 0 ≤ x7 ∧ x7 ≤ 255) : ∃ m : Int, Hd (r59 * x7 = m) ∧ ((0) * x7 + (0) * r59 - (0) ≤ m) ∧ ((49) * x7 + (255) * r59 - (12495) ≤ m) ∧ (m ≤ (49) * x7 + (0) * r59 - (0)) ∧ (m ≤ (0) * x7 + (255) * r59 - (0)) ∧ (0 ≤ m ∧ m ≤ 12495) := by
  obtain ⟨h1, h2, h3, h4⟩ := mcc (x := r59) (y := x7) b_r59.1 b_r59.2 b_x7.1 b_x7.2
  refine ⟨_, ⟨rfl⟩, ?_, ?_, ?_, ?_, ?_, ?_⟩ <;> omega
theorem bt_am79 {r57 x8 : Int} (b_r57 : 0 ≤ r57 ∧ r57 ≤ 999) (b_x8 : 0 ≤ x8 ∧ x8 ≤ 255) : ∃ m : Int, Hd (r57 * x8 = m) ∧ ((0) * x8 + (0) * r57 - (0) ≤ m) ∧ ((999) * x8 + (255) * r57 - (254745) ≤ m) ∧ (m ≤ (999) * x8 + (0) * r57 - (0)) ∧ (m ≤ (0) * x8 + (255) * r57 - (0)) ∧ (0 ≤ m ∧ m ≤ 254745) := by
  obtain ⟨h1, h2, h3, h4⟩ := mcc (x := r57) (y := x8) b_r57.1 b_r57.2 b_x8.1 b_x8.2
  refine ⟨_, ⟨rfl⟩, ?_, ?_, ?_, ?_, ?_, ?_⟩ <;> omega
theorem bt_am80 {r59 x8 : Int} (b_r59 : 0 ≤ r59 ∧ r59 ≤ 49) (b_x8 : 0 ≤ x8 ∧ x8 ≤ 255) : ∃ m : Int, Hd (r59 * x8 = m) ∧ ((0) * x8 + (0) * r59 - (0) ≤ m) ∧ ((49) * x8 + (255) * r59 - (12495) ≤ m) ∧ (m ≤ (49) * x8 + (0) * r59 - (0)) ∧ (m ≤ (0) * x8 + (255) * r59 - (0)) ∧ (0 ≤ m ∧ m ≤ 12495) := by
  obtain ⟨h1, h2, h3, h4⟩ := mcc (x := r59) (y := x8) b_r59.1 b_r59.2 b_x8.1 b_x8.2
  refine ⟨_, ⟨rfl⟩, ?_, ?_, ?_, ?_, ?_, ?_⟩ <;> omega
theorem bt_aw81 {m60 m78 m79 m80 r57 r59 : Int} (b_m60 : 0 ≤ m60 ∧ m60 ≤ 254745) (b_m78 : 0 ≤ m78 ∧ m78 ≤ 12495) (b_m79 : 0 ≤ m79 ∧ m79 ≤ 254745) (b_m80 : 0 ≤ m80 ∧ m80 ≤ 12495) (b_r57 : 0 ≤ r57 ∧ r57 ≤ 999) (b_r59 : 0 ≤ r59 ∧ r59 ≤ 49) : ∃ w : Int, (100 * m60 + 100 * m78 + 10 * m79 + 10 * m80 + r57 + r59 = w) ∧ (0 ≤ w ∧ w ≤ 29397448) := ⟨_, rfl, by omega, by omega⟩
theorem bt_aq82 {w81 : Int} (b_w81 : 0 ≤ w81 ∧ w81 ≤ 29397448) : ∃ q r : Int, Hd ((w81) / 1000 = q) ∧ Hd ((w81) % 1000 = r) ∧ (w81 = 1000 * q + r) ∧ (0 ≤ q ∧ q ≤ 29397) ∧ (0 ≤ r ∧ r ≤ 999) := ⟨_, _, ⟨rfl⟩, ⟨rfl⟩, by omega, by omega, by omega⟩
theorem bt_au84 {q31 q62 x26 x27 : Int} (b_q31 : 0 ≤ q31 ∧ q31 ≤ 32767500) (b_q62 : 0 ≤ q62 ∧ q62 ≤ 25475) (b_x26 : 0 ≤ x26 ∧ x26 ≤ 255) (b_x27 : 0 ≤ x27 ∧ x27 ≤ 255) : ∃ m : Int, (max (q31 + q62 + (-1) * x26 + (-1) * x27) 0 = m) ∧ (0 ≤ m ∧ m ≤ 32792975) := ⟨_, rfl, by omega, by omega⟩
theorem bt_au85 {q39 q48 q76 x26 : Int} (b_q39 : 0 ≤ q39 ∧ q39 ≤ 32833035) (b_q48 : 0 ≤ q48 ∧ q48 ≤ 255) (b_q76 : 0 ≤ q76 ∧ q76 ≤ 29397) (b_x26 : 0 ≤ x26 ∧ x26 ≤ 255) : ∃ m : Int, (max (q39 + (-1) * q48 + q76 + (-1) * x26) 0 = m) ∧ (0 ≤ m ∧ m ≤ 32862432) := ⟨_, rfl, by omega, by omega⟩
theorem bt_au86 {q43 q82 x26 : Int} (b_q43 : 0 ≤ q43 ∧ q43 ≤ 32833035) (b_q82 : 0 ≤ q82 ∧ q82 ≤ 29397) (b_x26 : 0 ≤ x26 ∧ x26 ≤ 255) : ∃ m : Int, (max (q43 + q82 + (-1) * x26) 0 = m) ∧ (0 ≤ m ∧ m ≤ 32862432) := ⟨_, rfl, by omega, by omega⟩
theorem bt_aq87 {x16 : Int} (b_x16 : 0 ≤ x16 ∧ x16 ≤ 65535) : ∃ q r : Int, Hd ((x16) / 500 = q) ∧ Hd ((x16) % 500 = r) ∧ (x16 = 500 * q + r) ∧ (0 ≤ q ∧ q ≤ 131) ∧ (0 ≤ r ∧ r ≤ 499) := ⟨_, _, ⟨rfl⟩, ⟨rfl⟩, by omega, by omega, by omega⟩
theorem bt_am89 {r88 x9 : Int} (b_r88 : 0 ≤ r88 ∧ r88 ≤ 499) (b_x9 : 0 ≤ x9 ∧ x9 ≤ 255) : ∃ m : Int, Hd (r88 * x9 = m) ∧ ((0) * x9 + (0) * r88 - (0) ≤ m) ∧ ((499) * x9 + (255) * r88 - (127245) ≤ m) ∧ (m ≤ (499) * x9 + (0) * r88 - (0)) ∧ (m ≤ (0) * x9 + (255) * r88 - (0)) ∧ (0 ≤ m ∧ m ≤ 127245) := by
  obtain ⟨h1, h2, h3, h4⟩ := mcc (x := r88) (y := x9) b_r88.1 b_r88.2 b_x9.1 b_x9.2
  refine ⟨_, ⟨rfl⟩, ?_, ?_, ?_, ?_, ?_, ?_⟩ <;> omega
theorem bt_aw90 {m89 r88 : Int} (b_m89 : 0 ≤ m89 ∧ m89 ≤ 127245) (b_r88 : 0 ≤ r88 ∧ r88 ≤ 499) : ∃ w : Int, (m89 + r88 = w) ∧ (0 ≤ w ∧ w ≤ 127744) := ⟨_, rfl, by omega, by omega⟩
theorem bt_am91 {r8 x23 : Int} (b_r8 : 0 ≤ r8 ∧ r8 ≤ 19) (b_x23 : 0 ≤ x23 ∧ x23 ≤ 255) : ∃ m : Int, Hd (r8 * x23 = m) ∧ ((0) * x23 + (0) * r8 - (0) ≤ m) ∧ ((19) * x23 + (255) * r8 - (4845) ≤ m) ∧ (m ≤ (19) * x23 + (0) * r8 - (0)) ∧ (m ≤ (0) * x23 + (255) * r8 - (0)) ∧ (0 ≤ m ∧ m ≤ 4845) := by
  obtain ⟨h1, h2, h3, h4⟩ := mcc (x := r8) (y := x23) b_r8.1 b_r8.2 b_x23.1 b_x23.2
  refine ⟨_, ⟨rfl⟩, ?_, ?_, ?_, ?_, ?_, ?_⟩ <;> omega
theorem bt_aw92 {m91 : Int} (b_m91 : 0 ≤ m91 ∧ m91 ≤ 4845) : ∃ w : Int, (m91 = w) ∧ (0 ≤ w ∧ w ≤ 4845) := ⟨_, rfl, by omega, by omega⟩
theorem bt_aq93 {w92 : Int} (b_w92 : 0 ≤ w92 ∧ w92 ≤ 4845) : ∃ q r : Int, Hd ((w92) / 255 = q) ∧ Hd ((w92) % 255 = r) ∧ (w92 = 255 * q + r) ∧ (0 ≤ q ∧ q ≤ 19) ∧ (0 ≤ r ∧ r ≤ 254) := ⟨_, _, ⟨rfl⟩, ⟨rfl⟩, by omega, by omega, by omega⟩
theorem bt_am95 {r59 x24 : Int} (b_r59 : 0 ≤ r59 ∧ r59 ≤ 49) (b_x24 : 0 ≤ x24 ∧ x24 ≤ 255) : ∃ m : Int, Hd (r59 * x24 = m) ∧ ((0) * x24 + (0) * r59 - (0) ≤ m) ∧ ((49) * x24 + (255) * r59 - (12495) ≤ m) ∧ (m ≤ (49) * x24 + (0) * r59 - (0)) ∧ (m ≤ (0) * x24 + (255) * r59 - (0)) ∧ (0 ≤ m ∧ m ≤ 12495) := by
  obtain ⟨h1, h2, h3, h4⟩ := mcc (x := r59) (y := x24) b_r59.1 b_r59.2 b_x24.1 b_x24.2
  refine ⟨_, ⟨rfl⟩, ?_, ?_, ?_, ?_, ?_, ?_⟩ <;> omega
theorem bt_aw96 {m95 : Int} (b_m95 : 0 ≤ m95 ∧ m95 ≤ 12495) : ∃ w : Int, (m95 = w) ∧ (0 ≤ w ∧ w ≤ 12495) := ⟨_, rfl, by omega, by omega⟩
theorem bt_aq97 {w96 : Int} (b_w96 : 0 ≤ w96 ∧ w96 ≤ 12495) : ∃ q r : Int, Hd ((w96) / 255 = q) ∧ Hd ((w96) % 255 = r) ∧ (w96 = 255 * q + r) ∧ (0 ≤ q ∧ q ≤ 49) ∧ (0 ≤ r ∧ r ≤ 254) := ⟨_, _, ⟨rfl⟩, ⟨rfl⟩, by omega, by omega, by omega⟩
theorem bt_am99 {q93 q97 : Int} (b_q93 : 0 ≤ q93 ∧ q93 ≤ 19) (b_q97 : 0 ≤ q97 ∧ q97 ≤ 49) : ∃ m : Int, Hd (q93 * q97 = m) ∧ ((0) * q97 + (0) * q93 - (0) ≤ m) ∧ ((19) * q97 + (49) * q93 - (931) ≤ m) ∧ (m ≤ (19) * q97 + (0) * q93 - (0)) ∧ (m ≤ (0) * q97 + (49) * q93 - (0)) ∧ (0 ≤ m ∧ m ≤ 931) := by
  obtain ⟨h1, h2, h3, h4⟩ := mcc (x := q93) (y := q97) b_q93.1 b_q93.2 b_q97.1 b_q97.2
  refine ⟨_, ⟨rfl⟩, ?_, ?_, ?_, ?_, ?_, ?_⟩ <;> omega
theorem bt_am100 {q93 r88 : Int} (b_q93 : 0 ≤ q93 ∧ q93 ≤ 19) (b_r88 : 0 ≤ r88 ∧ r88 ≤ 499) : ∃ m : Int, Hd (q93 * r88 = m) ∧ ((0) * r88 + (0) * q93 - (0) ≤ m) ∧ ((19) * r88 + (499) * q93 - (9481) ≤ m) ∧ (m ≤ (19) * r88 + (0) * q93 - (0)) ∧ (m ≤ (0) * r88 + (499) * q93 - (0)) ∧ (0 ≤ m ∧ m ≤ 9481) := by
  obtain ⟨h1, h2, h3, h4⟩ := mcc (x := q93) (y := r88) b_q93.1 b_q93.2 b_r88.1 b_r88.2
  refine ⟨_, ⟨rfl⟩, ?_, ?_, ?_, ?_, ?_, ?_⟩ <;> omega
theorem bt_am101 {q97 x9 : Int} (b_q97 : 0 ≤ q97 ∧ q97 ≤ 49) (b_x9 : 0 ≤ x9 ∧ x9 ≤ 255) : ∃ m : Int, Hd (q97 * x9 = m) ∧ ((0) * x9 + (0) * q97 - (0) ≤ m) ∧ ((49) * x9 + (255) * q97 - (12495) ≤ m) ∧ (m ≤ (49) * x9 + (0) * q97 - (0)) ∧ (m ≤ (0) * x9 + (255) * q97 - (0)) ∧ (0 ≤ m ∧ m ≤ 12495) := by
  obtain ⟨h1, h2, h3, h4⟩ := mcc (x := q97) (y := x9) b_q97.1 b_q97.2 b_x9.1 b_x9.2
  refine ⟨_, ⟨rfl⟩, ?_, ?_, ?_, ?_, ?_, ?_⟩ <;> omega
theorem bt_aw102 {m100 m101 m89 m99 q97 r88 : Int} (b_m100 : 0 ≤ m100 ∧ m100 ≤ 9481) (b_m101 : 0 ≤ m101 ∧ m101 ≤ 12495) (b_m89 : 0 ≤ m89 ∧ m89 ≤ 127245) (b_m99 : 0 ≤ m99 ∧ m99 ≤ 931) (b_q97 : 0 ≤ q97 ∧ q97 ≤ 49) (b_r88 : 0 ≤ r88 ∧ r88 ≤ 499) : ∃ w : Int, (m100 + m101 + m89 + m99 + q97 + r88 = w) ∧ (0 ≤ w ∧ w ≤ 150700) := ⟨_, rfl, by omega, by omega⟩
theorem bt_am103 {r59 r8 : Int} (b_r59 : 0 ≤ r59 ∧ r59 ≤ 49) (b_r8 : 0 ≤ r8 ∧ r8 ≤ 19) : ∃ m : Int, Hd (r59 * r8 = m) ∧ ((0) * r8 + (0) * r59 - (0) ≤ m) ∧ ((49) * r8 + (19) * r59 - (931) ≤ m) ∧ (m ≤ (49) * r8 + (0) * r59 - (0)) ∧ (m ≤ (0) * r8 + (19) * r59 - (0)) ∧ (0 ≤ m ∧ m ≤ 931) := by
  obtain ⟨h1, h2, h3, h4⟩ := mcc (x := r59) (y := r8) b_r59.1 b_r59.2 b_r8.1 b_r8.2
  refine ⟨_, ⟨rfl⟩, ?_, ?_, ?_, ?_, ?_, ?_⟩ <;> omega
theorem bt_am104 {r8 r88 : Int} (b_r8 : 0 ≤ r8 ∧ r8 ≤ 19) (b_r88 : 0 ≤ r88 ∧ r88 ≤ 499) : ∃ m : Int, Hd (r8 * r88 = m) ∧ ((0) * r88 + (0) * r8 - (0) ≤ m) ∧ ((19) * r88 + (499) * r8 - (9481) ≤ m) ∧ (m ≤ (19) * r88 + (0) * r8 - (0)) ∧ (m ≤ (0) * r88 + (499) * r8 - (0)) ∧ (0 ≤ m ∧ m ≤ 9481) := by
  obtain ⟨h1, h2, h3, h4⟩ := mcc (x := r8) (y := r88) b_r8.1 b_r8.2 b_r88.1 b_r88.2
  refine ⟨_, ⟨rfl⟩, ?_, ?_, ?_, ?_, ?_, ?_⟩ <;> omega
theorem bt_am105 {r59 x9 : Int} (b_r59 : 0 ≤ r59 ∧ r59 ≤ 49) (b_x9 : 0 ≤ x9 ∧ x9 ≤ 255) : ∃ m : Int, Hd (r59 * x9 = m) ∧ ((0) * x9 + (0) * r59 - (0) ≤ m) ∧ ((49) * x9 + (255) * r59 - (12495) ≤ m) ∧ (m ≤ (49) * x9 + (0) * r59 - (0)) ∧ (m ≤ (0) * x9 + (255) * r59 - (0)) ∧ (0 ≤ m ∧ m ≤ 12495) := by
  obtain ⟨h1, h2, h3, h4⟩ := mcc (x := r59) (y := x9) b_r59.1 b_r59.2 b_x9.1 b_x9.2
  refine ⟨_, ⟨rfl⟩, ?_, ?_, ?_, ?_, ?_, ?_⟩ <;> omega
theorem bt_aw106 {m103 m104 m105 m89 r59 r88 : Int} (b_m103 : 0 ≤ m103 ∧ m103 ≤ 931) (b_m104 : 0 ≤ m104 ∧ m104 ≤ 9481) (b_m105 : 0 ≤ m105 ∧ m105 ≤ 12495) (b_m89 : 0 ≤ m89 ∧ m89 ≤ 127245) (b_r59 : 0 ≤ r59 ∧ r59 ≤ 49) (b_r88 : 0 ≤ r88 ∧ r88 ≤ 499) : ∃ w : Int, (m103 + m104 + m105 + m89 + r59 + r88 = w) ∧ (0 ≤ w ∧ w ≤ 150700) := ⟨_, rfl, by omega, by omega⟩
theorem bt_au107 {w90 x26 x27 : Int} (b_w90 : 0 ≤ w90 ∧ w90 ≤ 127744) (b_x26 : 0 ≤ x26 ∧ x26 ≤ 255) (b_x27 : 0 ≤ x27 ∧ x27 ≤ 255) : ∃ m : Int, (max (w90 + (-1) * x26 + (-1) * x27) 0 = m) ∧ (0 ≤ m ∧ m ≤ 127744) := ⟨_, rfl, by omega, by omega⟩
theorem bt_au108 {q48 w102 x26 : Int} (b_q48 : 0 ≤ q48 ∧ q48 ≤ 255) (b_w102 : 0 ≤ w102 ∧ w102 ≤ 150700) (b_x26 : 0 ≤ x26 ∧ x26 ≤ 255) : ∃ m : Int, (max ((-1) * q48 + w102 + (-1) * x26) 0 = m) ∧ (0 ≤ m ∧ m ≤ 150700) := ⟨_, rfl, by omega, by omega⟩
theorem bt_au109 {w106 x26 : Int} (b_w106 : 0 ≤ w106 ∧ w106 ≤ 150700) (b_x26 : 0 ≤ x26 ∧ x26 ≤ 255) : ∃ m : Int, (max (w106 + (-1) * x26) 0 = m) ∧ (0 ≤ m ∧ m ≤ 150700) := ⟨_, rfl, by omega, by omega⟩
theorem bt_rf1 {q19 r4 r20 w18 m17 x18 : Int} (b_r20 : 0 ≤ r20 ∧ r20 ≤ 254) (q19s : w18 = 255 * q19 + r20) (w18s : m17 = w18) (m17f4 : m17 ≤ (0) * x18 + (255) * r4 - (0)) : 0 ≤ (-1) * q19 + r4 := by omega
theorem bt_rf1_0 {q19 r4 m21 m9 x1 : Int} (b_x1 : 0 ≤ x1 ∧ x1 ≤ 255) (rf1 : 0 ≤ (-1) * q19 + r4) (m21e : Hd (q19 * x1 = m21)) (m9e : Hd (r4 * x1 = m9)) : 0 ≤ (-1) * m21 + m9 := by
  have e1 : ((-1) * q19 + r4) * (x1) = (-1) * m21 + m9 := ((by simp only [Int.add_mul, Int.mul_add, Int.mul_assoc, Int.mul_comm, Int.mul_left_comm, Int.reduceMul, Int.reduceNeg, Int.mul_one, Int.one_mul] <;> omega : ((-1) * q19 + r4) * (x1) = (-1) * (q19 * x1) + r4 * x1).trans (by (try simp only [m21e.out, m9e.out]) <;> omega))
  exact e1 ▸ Int.mul_nonneg (by omega) (by omega)
theorem bt_rf2 {q25 r6 r26 w24 m23 x19 : Int} (b_r26 : 0 ≤ r26 ∧ r26 ≤ 254) (q25s : w24 = 255 * q25 + r26) (w24s : m23 = w24) (m23f4 : m23 ≤ (0) * x19 + (255) * r6 - (0)) : 0 ≤ (-1) * q25 + r6 := by omega
theorem bt_rf2_0 {q25 r6 m12 m27 x2 : Int} (b_x2 : 0 ≤ x2 ∧ x2 ≤ 255) (rf2 : 0 ≤ (-1) * q25 + r6) (m27e : Hd (q25 * x2 = m27)) (m12e : Hd (r6 * x2 = m12)) : 0 ≤ m12 + (-1) * m27 := by
  have e1 : ((-1) * q25 + r6) * (x2) = m12 + (-1) * m27 := ((by simp only [Int.add_mul, Int.mul_add, Int.mul_assoc, Int.mul_comm, Int.mul_left_comm, Int.reduceMul, Int.reduceNeg, Int.mul_one, Int.one_mul] <;> omega : ((-1) * q25 + r6) * (x2) = (-1) * (q25 * x2) + r6 * x2).trans (by (try simp only [m27e.out, m12e.out]) <;> omega))
  exact e1 ▸ Int.mul_nonneg (by omega) (by omega)
theorem bt_rf3 {q35 x15 r36 w34 m33 x20 : Int} (b_r36 : 0 ≤ r36 ∧ r36 ≤ 254) (q35s : w34 = 255 * q35 + r36) (w34s : m33 = w34) (m33f4 : m33 ≤ (0) * x20 + (255) * x15 - (0)) : 0 ≤ (-1) * q35 + x15 := by omega
theorem bt_rf6 {q66 x8 r67 w65 m64 x21 : Int} (b_r67 : 0 ≤ r67 ∧ r67 ≤ 254) (q66s : w65 = 255 * q66 + r67) (w65s : 10 * m64 = w65) (m64f3 : m64 ≤ (255) * x8 + (0) * x21 - (0)) : 0 ≤ (-1) * q66 + 10 * x8 := by omega
theorem bt_rf6_0 {q66 x8 m73 m79 r57 : Int} (b_r57 : 0 ≤ r57 ∧ r57 ≤ 999) (rf6 : 0 ≤ (-1) * q66 + 10 * x8) (m73e : Hd (q66 * r57 = m73)) (m79e : Hd (r57 * x8 = m79)) : 0 ≤ (-1) * m73 + 10 * m79 := by
  have e1 : ((-1) * q66 + 10 * x8) * (r57) = (-1) * m73 + 10 * m79 := ((by simp only [Int.add_mul, Int.mul_add, Int.mul_assoc, Int.mul_comm, Int.mul_left_comm, Int.reduceMul, Int.reduceNeg, Int.mul_one, Int.one_mul] <;> omega : ((-1) * q66 + 10 * x8) * (r57) = (-1) * (q66 * r57) + 10 * (r57 * x8)).trans (by (try simp only [m73e.out, m79e.out]) <;> omega))
  exact e1 ▸ Int.mul_nonneg (by omega) (by omega)
theorem bt_am110 {q70 x8 : Int} (b_q70 : 0 ≤ q70 ∧ q70 ≤ 49) (b_x8 : 0 ≤ x8 ∧ x8 ≤ 255) : ∃ m : Int, Hd (q70 * x8 = m) ∧ ((0) * x8 + (0) * q70 - (0) ≤ m) ∧ ((49) * x8 + (255) * q70 - (12495) ≤ m) ∧ (m ≤ (49) * x8 + (0) * q70 - (0)) ∧ (m ≤ (0) * x8 + (255) * q70 - (0)) ∧ (0 ≤ m ∧ m ≤ 12495) := by
  obtain ⟨h1, h2, h3, h4⟩ := mcc (x := q70) (y := x8) b_q70.1 b_q70.2 b_x8.1 b_x8.2
  refine ⟨_, ⟨rfl⟩, ?_, ?_, ?_, ?_, ?_, ?_⟩ <;> omega
theorem bt_rf6_1 {q66 x8 m110 m72 q70 : Int} (b_q70 : 0 ≤ q70 ∧ q70 ≤ 49) (rf6 : 0 ≤ (-1) * q66 + 10 * x8) (m72e : Hd (q66 * q70 = m72)) (m110e : Hd (q70 * x8 = m110)) : 0 ≤ 10 * m110 + (-1) * m72 := by
  have e1 : ((-1) * q66 + 10 * x8) * (q70) = 10 * m110 + (-1) * m72 := ((by simp only [Int.add_mul, Int.mul_add, Int.mul_assoc, Int.mul_comm, Int.mul_left_comm, Int.reduceMul, Int.reduceNeg, Int.mul_one, Int.one_mul] <;> omega : ((-1) * q66 + 10 * x8) * (q70) = (-1) * (q66 * q70) + 10 * (q70 * x8)).trans (by (try simp only [m72e.out, m110e.out]) <;> omega))
  exact e1 ▸ Int.mul_nonneg (by omega) (by omega)
theorem bt_rf7 {q70 r59 r71 w69 m68 x22 : Int} (b_r71 : 0 ≤ r71 ∧ r71 ≤ 254) (q70s : w69 = 255 * q70 + r71) (w69s : m68 = w69) (m68f4 : m68 ≤ (0) * x22 + (255) * r59 - (0)) : 0 ≤ (-1) * q70 + r59 := by omega
theorem bt_rf7_0 {q70 r59 m110 m80 x8 : Int} (b_x8 : 0 ≤ x8 ∧ x8 ≤ 255) (rf7 : 0 ≤ (-1) * q70 + r59) (m110e : Hd (q70 * x8 = m110)) (m80e : Hd (r59 * x8 = m80)) : 0 ≤ (-1) * m110 + m80 := by
  have e1 : ((-1) * q70 + r59) * (x8) = (-1) * m110 + m80 := ((by simp only [Int.add_mul, Int.mul_add, Int.mul_assoc, Int.mul_comm, Int.mul_left_comm, Int.reduceMul, Int.reduceNeg, Int.mul_one, Int.one_mul] <;> omega : ((-1) * q70 + r59) * (x8) = (-1) * (q70 * x8) + r59 * x8).trans (by (try simp only [m110e.out, m80e.out]) <;> omega))
  exact e1 ▸ Int.mul_nonneg (by omega) (by omega)
theorem bt_rf7_1 {q70 r59 m74 m78 x7 : Int} (b_x7 : 0 ≤ x7 ∧ x7 ≤ 255) (rf7 : 0 ≤ (-1) * q70 + r59) (m74e : Hd (q70 * x7 = m74)) (m78e : Hd (r59 * x7 = m78)) : 0 ≤ (-1) * m74 + m78 := by
  have e1 : ((-1) * q70 + r59) * (x7) = (-1) * m74 + m78 := ((by simp only [Int.add_mul, Int.mul_add, Int.mul_assoc, Int.mul_comm, Int.mul_left_comm, Int.reduceMul, Int.reduceNeg, Int.mul_one, Int.one_mul] <;> omega : ((-1) * q70 + r59) * (x7) = (-1) * (q70 * x7) + r59 * x7).trans (by (try simp only [m74e.out, m78e.out]) <;> omega))
  exact e1 ▸ Int.mul_nonneg (by omega) (by omega)
theorem bt_rf8 {q93 r8 r94 w92 m91 x23 : Int} (b_r94 : 0 ≤ r94 ∧ r94 ≤ 254) (q93s : w92 = 255 * q93 + r94) (w92s : m91 = w92) (m91f4 : m91 ≤ (0) * x23 + (255) * r8 - (0)) : 0 ≤ (-1) * q93 + r8 := by omega
theorem bt_am111 {q97 r8 : Int} (b_q97 : 0 ≤ q97 ∧ q97 ≤ 49) (b_r8 : 0 ≤ r8 ∧ r8 ≤ 19) : ∃ m : Int, Hd (q97 * r8 = m) ∧ ((0) * r8 + (0) * q97 - (0) ≤ m) ∧ ((49) * r8 + (19) * q97 - (931) ≤ m) ∧ (m ≤ (49) * r8 + (0) * q97 - (0)) ∧ (m ≤ (0) * r8 + (19) * q97 - (0)) ∧ (0 ≤ m ∧ m ≤ 931) := by
  obtain ⟨h1, h2, h3, h4⟩ := mcc (x := q97) (y := r8) b_q97.1 b_q97.2 b_r8.1 b_r8.2
  refine ⟨_, ⟨rfl⟩, ?_, ?_, ?_, ?_, ?_, ?_⟩ <;> omega
theorem bt_rf8_0 {q93 r8 m111 m99 q97 : Int} (b_q97 : 0 ≤ q97 ∧ q97 ≤ 49) (rf8 : 0 ≤ (-1) * q93 + r8) (m99e : Hd (q93 * q97 = m99)) (m111e : Hd (q97 * r8 = m111)) : 0 ≤ m111 + (-1) * m99 := by
  have e1 : ((-1) * q93 + r8) * (q97) = m111 + (-1) * m99 := ((by simp only [Int.add_mul, Int.mul_add, Int.mul_assoc, Int.mul_comm, Int.mul_left_comm, Int.reduceMul, Int.reduceNeg, Int.mul_one, Int.one_mul] <;> omega : ((-1) * q93 + r8) * (q97) = (-1) * (q93 * q97) + q97 * r8).trans (by (try simp only [m99e.out, m111e.out]) <;> omega))
  exact e1 ▸ Int.mul_nonneg (by omega) (by omega)
theorem bt_rf8_1 {q93 r8 m100 m104 r88 : Int} (b_r88 : 0 ≤ r88 ∧ r88 ≤ 499) (rf8 : 0 ≤ (-1) * q93 + r8) (m100e : Hd (q93 * r88 = m100)) (m104e : Hd (r8 * r88 = m104)) : 0 ≤ (-1) * m100 + m104 := by
  have e1 : ((-1) * q93 + r8) * (r88) = (-1) * m100 + m104 := ((by simp only [Int.add_mul, Int.mul_add, Int.mul_assoc, Int.mul_comm, Int.mul_left_comm, Int.reduceMul, Int.reduceNeg, Int.mul_one, Int.one_mul] <;> omega : ((-1) * q93 + r8) * (r88) = (-1) * (q93 * r88) + r8 * r88).trans (by (try simp only [m100e.out, m104e.out]) <;> omega))
  exact e1 ▸ Int.mul_nonneg (by omega) (by omega)
theorem bt_rf9 {q97 r59 r98 w96 m95 x24 : Int} (b_r98 : 0 ≤ r98 ∧ r98 ≤ 254) (q97s : w96 = 255 * q97 + r98) (w96s : m95 = w96) (m95f4 : m95 ≤ (0) * x24 + (255) * r59 - (0)) : 0 ≤ (-1) * q97 + r59 := by omega
theorem bt_rf9_0 {q97 r59 m103 m111 r8 : Int} (b_r8 : 0 ≤ r8 ∧ r8 ≤ 19) (rf9 : 0 ≤ (-1) * q97 + r59) (m111e : Hd (q97 * r8 = m111)) (m103e : Hd (r59 * r8 = m103)) : 0 ≤ m103 + (-1) * m111 := by
  have e1 : ((-1) * q97 + r59) * (r8) = m103 + (-1) * m111 := ((by simp only [Int.add_mul, Int.mul_add, Int.mul_assoc, Int.mul_comm, Int.mul_left_comm, Int.reduceMul, Int.reduceNeg, Int.mul_one, Int.one_mul] <;> omega : ((-1) * q97 + r59) * (r8) = (-1) * (q97 * r8) + r59 * r8).trans (by (try simp only [m111e.out, m103e.out]) <;> omega))
  exact e1 ▸ Int.mul_nonneg (by omega) (by omega)
theorem bt_rf9_1 {q97 r59 m101 m105 x9 : Int} (b_x9 : 0 ≤ x9 ∧ x9 ≤ 255) (rf9 : 0 ≤ (-1) * q97 + r59) (m101e : Hd (q97 * x9 = m101)) (m105e : Hd (r59 * x9 = m105)) : 0 ≤ (-1) * m101 + m105 := by
  have e1 : ((-1) * q97 + r59) * (x9) = (-1) * m101 + m105 := ((by simp only [Int.add_mul, Int.mul_add, Int.mul_assoc, Int.mul_comm, Int.mul_left_comm, Int.reduceMul, Int.reduceNeg, Int.mul_one, Int.one_mul] <;> omega : ((-1) * q97 + r59) * (x9) = (-1) * (q97 * x9) + r59 * x9).trans (by (try simp only [m101e.out, m105e.out]) <;> omega))
  exact e1 ▸ Int.mul_nonneg (by omega) (by omega)
theorem bt_rf10 {q54 x12 r55 w53 m52 x25 : Int} (b_r55 : 0 ≤ r55 ∧ r55 ≤ 254) (q54s : w53 = 255 * q54 + r55) (w53s : 10 * m52 = w53) (m52f4 : m52 ≤ (0) * x25 + (255) * x12 - (0)) : 0 ≤ (-1) * q54 + 10 * x12 := by omega
theorem bt_rf11 {q48 x27 r49 w47 m46 x25 : Int} (b_r49 : 0 ≤ r49 ∧ r49 ≤ 254) (q48s : w47 = 255 * q48 + r49) (w47s : m46 = w47) (m46f3 : m46 ≤ (255) * x27 + (0) * x25 - (0)) : 0 ≤ (-1) * q48 + x27 := by omega
set_option maxHeartbeats 40000000 in
theorem bt_g0 {ρ : Env} {x13 r2 x0 x1 x2 x3 x4 r4 x5 x6 r6 x7 x8 x9 x10 r8 x11 x12 x14 x15 w11 m10 m9 w14 m12 m13 w15 w16 x18 w18 m17 q19 w22 m21 x19 w24 m23 q25 w28 m27 x26 x27 q31 w29 w30 x20 w34 m33 q35 q39 w37 w38 q43 w41 w42 u45 x25 w47 m46 q48 u50 u51 w53 m52 q54 x16 r57 x17 r59 w61 m60 q62 x21 w65 m64 q66 x22 w69 m68 q70 w75 m72 m73 m74 q76 w81 m78 m79 m80 q82 u84 u85 u86 r88 w90 m89 x23 w92 m91 q93 x24 w96 m95 q97 w102 m100 m101 m99 w106 m103 m104 m105 u107 u108 u109 : Int} (e13 : Is ρ (.v 13) x13) (r2e : Hd ((x13) % 3 = r2)) (e0 : Is ρ (.v 0) x0) (e1 : Is ρ (.v 1) x1) (e2 : Is ρ (.v 2) x2) (e3 : Is ρ (.v 3) x3) (e4 : Is ρ (.v 4) x4) (r4e : Hd ((x4) % 60 = r4)) (e5 : Is ρ (.v 5) x5) (e6 : Is ρ (.v 6) x6) (r6e : Hd ((x6) % 60 = r6)) (e7 : Is ρ (.v 7) x7) (e8 : Is ρ (.v 8) x8) (e9 : Is ρ (.v 9) x9) (e10 : Is ρ (.v 10) x10) (r8e : Hd ((x10) % 20 = r8)) (e11 : Is ρ (.v 11) x11) (e12 : Is ρ (.v 12) x12) (e14 : Is ρ (.v 14) x14) (e15 : Is ρ (.v 15) x15) (m9e : Hd (r4 * x1 = m9)) (m10e : Hd (x1 * x3 = m10)) (w11s : Hd (20 * m10 + 20 * m9 = w11)) (m12e : Hd (r6 * x2 = m12)) (m13e : Hd (x2 * x5 = m13)) (w14s : Hd (30 * m12 + 30 * m13 = w14)) (w15s : Hd (20 * m10 = w15)) (w16s : Hd (30 * m13 = w16)) (e18 : Is ρ (.v 18) x18) (m17e : Hd (r4 * x18 = m17)) (w18s : Hd (m17 = w18)) (q19e : Hd ((w18) / 255 = q19)) (m21e : Hd (q19 * x1 = m21)) (w22s : Hd (20 * m10 + 20 * m21 = w22)) (e19 : Is ρ (.v 19) x19) (m23e : Hd (r6 * x19 = m23)) (w24s : Hd (m23 = w24)) (q25e : Hd ((w24) / 255 = q25)) (m27e : Hd (q25 * x2 = m27)) (w28s : Hd (30 * m13 + 30 * m27 = w28)) (e26 : Is ρ (.v 26) x26) (e27 : Is ρ (.v 27) x27) (q31e : Hd (w29.tdiv w30 = q31)) (w29s : Hd (500000 * x14 = w29)) (w30s : Hd (w11 + w14 + 10000 * x0 + 1000 = w30)) (e20 : Is ρ (.v 20) x20) (m33e : Hd (x15 * x20 = m33)) (w34s : Hd (m33 = w34)) (q35e : Hd ((w34) / 255 = q35)) (q39e : Hd (w37.tdiv w38 = q39)) (w37s : Hd (1000 * q35 + 500000 * x14 = w37)) (w38s : Hd (w22 + w28 + 10000 * x0 + 1000 = w38)) (q43e : Hd (w41.tdiv w42 = q43)) (w41s : Hd (500000 * x14 + 1000 * x15 = w41)) (w42s : Hd (w15 + w16 + 10000 * x0 + 1000 = w42)) (u45s : Hd (max (q31 + (-1) * x26 + (-1) * x27) 0 = u45)) (e25 : Is ρ (.v 25) x25) (m46e : Hd (x25 * x27 = m46)) (w47s : Hd (m46 = w47)) (q48e : Hd ((w47) / 255 = q48)) (u50s : Hd (max (q39 + (-1) * q48 + (-1) * x26) 0 = u50)) (u51s : Hd (max (q43 + (-1) * x26) 0 = u51)) (m52e : Hd (x12 * x25 = m52)) (w53s : Hd (10 * m52 = w53)) (q54e : Hd ((w53) / 255 = q54)) (e16 : Is ρ (.v 16) x16) (r57e : Hd ((x16) % 1000 = r57)) (e17 : Is ρ (.v 17) x17) (r59e : Hd ((x17) % 50 = r59)) (m60e : Hd (r57 * x7 = m60)) (w61s : Hd (100 * m60 + r57 = w61)) (q62e : Hd ((w61) / 1000 = q62)) (e21 : Is ρ (.v 21) x21) (m64e : Hd (x21 * x8 = m64)) (w65s : Hd (10 * m64 = w65)) (q66e : Hd ((w65) / 255 = q66)) (e22 : Is ρ (.v 22) x22) (m68e : Hd (r59 * x22 = m68)) (w69s : Hd (m68 = w69)) (q70e : Hd ((w69) / 255 = q70)) (m72e : Hd (q66 * q70 = m72)) (m73e : Hd (q66 * r57 = m73)) (m74e : Hd (q70 * x7 = m74)) (w75s : Hd (100 * m60 + m72 + m73 + 100 * m74 + q70 + r57 = w75)) (q76e : Hd ((w75) / 1000 = q76)) (m78e : Hd (r59 * x7 = m78)) (m79e : Hd (r57 * x8 = m79)) (m80e : Hd (r59 * x8 = m80)) (w81s : Hd (100 * m60 + 100 * m78 + 10 * m79 + 10 * m80 + r57 + r59 = w81)) (q82e : Hd ((w81) / 1000 = q82)) (u84s : Hd (max (q31 + q62 + (-1) * x26 + (-1) * x27) 0 = u84)) (u85s : Hd (max (q39 + (-1) * q48 + q76 + (-1) * x26) 0 = u85)) (u86s : Hd (max (q43 + q82 + (-1) * x26) 0 = u86)) (r88e : Hd ((x16) % 500 = r88)) (m89e : Hd (r88 * x9 = m89)) (w90s : Hd (m89 + r88 = w90)) (e23 : Is ρ (.v 23) x23) (m91e : Hd (r8 * x23 = m91)) (w92s : Hd (m91 = w92)) (q93e : Hd ((w92) / 255 = q93)) (e24 : Is ρ (.v 24) x24) (m95e : Hd (r59 * x24 = m95)) (w96s : Hd (m95 = w96)) (q97e : Hd ((w96) / 255 = q97)) (m99e : Hd (q93 * q97 = m99)) (m100e : Hd (q93 * r88 = m100)) (m101e : Hd (q97 * x9 = m101)) (w102s : Hd (m100 + m101 + m89 + m99 + q97 + r88 = w102)) (m103e : Hd (r59 * r8 = m103)) (m104e : Hd (r8 * r88 = m104)) (m105e : Hd (r59 * x9 = m105)) (w106s : Hd (m103 + m104 + m105 + m89 + r59 + r88 = w106)) (u107s : Hd (max (w90 + (-1) * x26 + (-1) * x27) 0 = u107)) (u108s : Hd (max ((-1) * q48 + w102 + (-1) * x26) 0 = u108)) (u109s : Hd (max (w106 + (-1) * x26) 0 = u109)) (b_x13 : 0 ≤ x13 ∧ x13 ≤ 255) (b_r2 : 0 ≤ r2 ∧ r2 ≤ 2) (b_x0 : 0 ≤ x0 ∧ x0 ≤ 255) (b_x1 : 0 ≤ x1 ∧ x1 ≤ 255) (b_x2 : 0 ≤ x2 ∧ x2 ≤ 255) (b_x3 : 0 ≤ x3 ∧ x3 ≤ 255) (b_x4 : 0 ≤ x4 ∧ x4 ≤ 255) (b_r4 : 0 ≤ r4 ∧ r4 ≤ 59) (b_x5 : 0 ≤ x5 ∧ x5 ≤ 255) (b_x6 : 0 ≤ x6 ∧ x6 ≤ 255) (b_r6 : 0 ≤ r6 ∧ r6 ≤ 59) (b_x7 : 0 ≤ x7 ∧ x7 ≤ 255) (b_x8 : 0 ≤ x8 ∧ x8 ≤ 255) (b_x9 : 0 ≤ x9 ∧ x9 ≤ 255) (b_x10 : 0 ≤ x10 ∧ x10 ≤ 255) (b_r8 : 0 ≤ r8 ∧ r8 ≤ 19) (b_x11 : 0 ≤ x11 ∧ x11 ≤ 255) (b_x12 : 0 ≤ x12 ∧ x12 ≤ 255) (b_x14 : 0 ≤ x14 ∧ x14 ≤ 65535) (b_x15 : 0 ≤ x15 ∧ x15 ≤ 65535) (b_w11 : 0 ≤ w11 ∧ w11 ≤ 1601400) (b_m10 : 0 ≤ m10 ∧ m10 ≤ 65025) (b_m9 : 0 ≤ m9 ∧ m9 ≤ 15045) (b_w14 : 0 ≤ w14 ∧ w14 ≤ 2402100) (b_m12 : 0 ≤ m12 ∧ m12 ≤ 15045) (b_m13 : 0 ≤ m13 ∧ m13 ≤ 65025) (b_w15 : 0 ≤ w15 ∧ w15 ≤ 1300500) (b_w16 : 0 ≤ w16 ∧ w16 ≤ 1950750) (b_x18 : 0 ≤ x18 ∧ x18 ≤ 255) (b_w18 : 0 ≤ w18 ∧ w18 ≤ 15045) (b_m17 : 0 ≤ m17 ∧ m17 ≤ 15045) (b_q19 : 0 ≤ q19 ∧ q19 ≤ 59) (b_w22 : 0 ≤ w22 ∧ w22 ≤ 1601400) (b_m21 : 0 ≤ m21 ∧ m21 ≤ 15045) (b_x19 : 0 ≤ x19 ∧ x19 ≤ 255) (b_w24 : 0 ≤ w24 ∧ w24 ≤ 15045) (b_m23 : 0 ≤ m23 ∧ m23 ≤ 15045) (b_q25 : 0 ≤ q25 ∧ q25 ≤ 59) (b_w28 : 0 ≤ w28 ∧ w28 ≤ 2402100) (b_m27 : 0 ≤ m27 ∧ m27 ≤ 15045) (b_x26 : 0 ≤ x26 ∧ x26 ≤ 255) (b_x27 : 0 ≤ x27 ∧ x27 ≤ 255) (b_q31 : 0 ≤ q31 ∧ q31 ≤ 32767500) (b_w29 : 0 ≤ w29 ∧ w29 ≤ 32767500000) (b_w30 : 1000 ≤ w30 ∧ w30 ≤ 6554500) (b_x20 : 0 ≤ x20 ∧ x20 ≤ 255) (b_w34 : 0 ≤ w34 ∧ w34 ≤ 16711425) (b_m33 : 0 ≤ m33 ∧ m33 ≤ 16711425) (b_q35 : 0 ≤ q35 ∧ q35 ≤ 65535) (b_q39 : 0 ≤ q39 ∧ q39 ≤ 32833035) (b_w37 : 0 ≤ w37 ∧ w37 ≤ 32833035000) (b_w38 : 1000 ≤ w38 ∧ w38 ≤ 6554500) (b_q43 : 0 ≤ q43 ∧ q43 ≤ 32833035) (b_w41 : 0 ≤ w41 ∧ w41 ≤ 32833035000) (b_w42 : 1000 ≤ w42 ∧ w42 ≤ 5802250) (b_u45 : 0 ≤ u45 ∧ u45 ≤ 32767500) (b_x25 : 0 ≤ x25 ∧ x25 ≤ 255) (b_w47 : 0 ≤ w47 ∧ w47 ≤ 65025) (b_m46 : 0 ≤ m46 ∧ m46 ≤ 65025) (b_q48 : 0 ≤ q48 ∧ q48 ≤ 255) (b_u50 : 0 ≤ u50 ∧ u50 ≤ 32833035) (b_u51 : 0 ≤ u51 ∧ u51 ≤ 32833035) (b_w53 : 0 ≤ w53 ∧ w53 ≤ 650250) (b_m52 : 0 ≤ m52 ∧ m52 ≤ 65025) (b_q54 : 0 ≤ q54 ∧ q54 ≤ 2550) (b_x16 : 0 ≤ x16 ∧ x16 ≤ 65535) (b_r57 : 0 ≤ r57 ∧ r57 ≤ 999) (b_x17 : 0 ≤ x17 ∧ x17 ≤ 65535) (b_r59 : 0 ≤ r59 ∧ r59 ≤ 49) (b_w61 : 0 ≤ w61 ∧ w61 ≤ 25475499) (b_m60 : 0 ≤ m60 ∧ m60 ≤ 254745) (b_q62 : 0 ≤ q62 ∧ q62 ≤ 25475) (b_x21 : 0 ≤ x21 ∧ x21 ≤ 255) (b_w65 : 0 ≤ w65 ∧ w65 ≤ 650250) (b_m64 : 0 ≤ m64 ∧ m64 ≤ 65025) (b_q66 : 0 ≤ q66 ∧ q66 ≤ 2550) (b_x22 : 0 ≤ x22 ∧ x22 ≤ 255) (b_w69 : 0 ≤ w69 ∧ w69 ≤ 12495) (b_m68 : 0 ≤ m68 ∧ m68 ≤ 12495) (b_q70 : 0 ≤ q70 ∧ q70 ≤ 49) (b_w75 : 0 ≤ w75 ∧ w75 ≤ 29397448) (b_m72 : 0 ≤ m72 ∧ m72 ≤ 124950) (b_m73 : 0 ≤ m73 ∧ m73 ≤ 2547450) (b_m74 : 0 ≤ m74 ∧ m74 ≤ 12495) (b_q76 : 0 ≤ q76 ∧ q76 ≤ 29397) (b_w81 : 0 ≤ w81 ∧ w81 ≤ 29397448) (b_m78 : 0 ≤ m78 ∧ m78 ≤ 12495) (b_m79 : 0 ≤ m79 ∧ m79 ≤ 254745) (b_m80 : 0 ≤ m80 ∧ m80 ≤ 12495) (b_q82 : 0 ≤ q82 ∧ q82 ≤ 29397) (b_u84 : 0 ≤ u84 ∧ u84 ≤ 32792975) (b_u85 : 0 ≤ u85 ∧ u85 ≤ 32862432) (b_u86 : 0 ≤ u86 ∧ u86 ≤ 32862432) (b_r88 : 0 ≤ r88 ∧ r88 ≤ 499) (b_w90 : 0 ≤ w90 ∧ w90 ≤ 127744) (b_m89 : 0 ≤ m89 ∧ m89 ≤ 127245) (b_x23 : 0 ≤ x23 ∧ x23 ≤ 255) (b_w92 : 0 ≤ w92 ∧ w92 ≤ 4845) (b_m91 : 0 ≤ m91 ∧ m91 ≤ 4845) (b_q93 : 0 ≤ q93 ∧ q93 ≤ 19) (b_x24 : 0 ≤ x24 ∧ x24 ≤ 255) (b_w96 : 0 ≤ w96 ∧ w96 ≤ 12495) (b_m95 : 0 ≤ m95 ∧ m95 ≤ 12495) (b_q97 : 0 ≤ q97 ∧ q97 ≤ 49) (b_w102 : 0 ≤ w102 ∧ w102 ≤ 150700) (b_m100 : 0 ≤ m100 ∧ m100 ≤ 9481) (b_m101 : 0 ≤ m101 ∧ m101 ≤ 12495) (b_m99 : 0 ≤ m99 ∧ m99 ≤ 931) (b_w106 : 0 ≤ w106 ∧ w106 ≤ 150700) (b_m103 : 0 ≤ m103 ∧ m103 ≤ 931) (b_m104 : 0 ≤ m104 ∧ m104 ≤ 9481) (b_m105 : 0 ≤ m105 ∧ m105 ≤ 12495) (b_u107 : 0 ≤ u107 ∧ u107 ≤ 127744) (b_u108 : 0 ≤ u108 ∧ u108 ≤ 150700) (b_u109 : 0 ≤ u109 ∧ u109 ≤ 150700) : Is ρ bt0 (r2) ∧ Is ρ bt3 (10 * x0 + 1) ∧ Is ρ bt5 (20 * x1) ∧ Is ρ bt7 (30 * x2) ∧ Is ρ bt8 (x3) ∧ Is ρ bt11 (r4 + x3) ∧ Is ρ bt12 (x5) ∧ Is ρ bt15 (r6 + x5) ∧ Is ρ bt18 (100 * x7 + 1) ∧ Is ρ bt21 (100 * x7 + 10 * x8 + 1) ∧ Is ρ bt23 (x9 + 1) ∧ Is ρ bt26 (r8 + x9 + 1) ∧ Is ρ bt29 (100 * x11 + 1) ∧ Is ρ bt32 (100 * x11 + 10 * x12 + 1) ∧ Is ρ bt34 (500 * x14) ∧ Is ρ bt36 (500 * x14 + x15) ∧ Is ρ bt41 (w11 + w14 + 10000 * x0 + 1000) ∧ Is ρ bt45 (w15 + w16 + 10000 * x0 + 1000) ∧ Is ρ bt59 (w22 + w28 + 10000 * x0 + 1000) ∧ Is ρ bt60 (x26) ∧ Is ρ bt62 (x26 + x27) ∧ Is ρ bt65 (q31) ∧ Is ρ bt72 (q39) ∧ Is ρ bt75 (q43) ∧ Is ρ bt85 (w11 + w14 + 10000 * x0 + 1000) ∧ Is ρ bt90 (q31) ∧ Is ρ bt100 (w15 + w16 + 10000 * x0 + 1000) ∧ Is ρ bt105 (q43) ∧ Is ρ bt107 (u45) ∧ Is ρ bt114 (u50) ∧ Is ρ bt116 (u51) ∧ Is ρ bt120 (q54 + 100 * x11 + 1) ∧ Is ρ bt122 (r57) ∧ Is ρ bt125 (r57 + r59) ∧ Is ρ bt128 (q31 + q62) ∧ Is ρ bt141 (q39 + q76) ∧ Is ρ bt144 (q43 + q82) ∧ Is ρ bt153 (q31 + q62) ∧ Is ρ bt162 (q43 + q82) ∧ Is ρ bt164 (u84) ∧ Is ρ bt166 (u85) ∧ Is ρ bt168 (u86) ∧ Is ρ bt169 (r88) ∧ Is ρ bt170 (r59 + r88) ∧ Is ρ bt171 (w90) ∧ Is ρ bt182 (w102) ∧ Is ρ bt183 (w106) ∧ Is ρ bt190 (w90) ∧ Is ρ bt197 (w106) ∧ Is ρ bt199 (u107) ∧ Is ρ bt201 (u108) ∧ Is ρ bt203 (u109) := by
  have h0 : Is ρ bt0 (r2) := Zremp e13 (Zc 3) (by omega) r2e.out
  have h1 : Is ρ bt1 (x0) := Zconv e0 (by omega)
  have h2 : Is ρ bt2 (10 * x0) := Ym (Zc 10) h1 (by omega)
  have h3 : Is ρ bt3 (10 * x0 + 1) := Ya (Zc 1) h2 (by omega)
  have h4 : Is ρ bt4 (x1) := Zconv e1 (by omega)
  have h5 : Is ρ bt5 (20 * x1) := Ym (Zc 20) h4 (by omega)
  have h6 : Is ρ bt6 (x2) := Zconv e2 (by omega)
  have h7 : Is ρ bt7 (30 * x2) := Ym (Zc 30) h6 (by omega)
  have h8 : Is ρ bt8 (x3) := Zconv e3 (by omega)
  have h9 : Is ρ bt9 (x4) := Zconv e4 (by omega)
  have h10 : Is ρ bt10 (r4) := Zremp h9 (Zc 60) (by omega) r4e.out
  have h11 : Is ρ bt11 (r4 + x3) := Ya h8 h10 (by omega)
  have h12 : Is ρ bt12 (x5) := Zconv e5 (by omega)
  have h13 : Is ρ bt13 (x6) := Zconv e6 (by omega)
  have h14 : Is ρ bt14 (r6) := Zremp h13 (Zc 60) (by omega) r6e.out
  have h15 : Is ρ bt15 (r6 + x5) := Ya h12 h14 (by omega)
  have h16 : Is ρ bt16 (x7) := Zconv e7 (by omega)
  have h17 : Is ρ bt17 (100 * x7) := Ym (Zc 100) h16 (by omega)
  have h18 : Is ρ bt18 (100 * x7 + 1) := Ya (Zc 1) h17 (by omega)
  have h19 : Is ρ bt19 (x8) := Zconv e8 (by omega)
  have h20 : Is ρ bt20 (10 * x8) := Ym (Zc 10) h19 (by omega)
  have h21 : Is ρ bt21 (100 * x7 + 10 * x8 + 1) := Ya h18 h20 (by omega)
  have h22 : Is ρ bt22 (x9) := Zconv e9 (by omega)
  have h23 : Is ρ bt23 (x9 + 1) := Ya (Zc 1) h22 (by omega)
  have h24 : Is ρ bt24 (x10) := Zconv e10 (by omega)
  have h25 : Is ρ bt25 (r8) := Zremp h24 (Zc 20) (by omega) r8e.out
  have h26 : Is ρ bt26 (r8 + x9 + 1) := Ya h23 h25 (by omega)
  have h27 : Is ρ bt27 (x11) := Zconv e11 (by omega)
  have h28 : Is ρ bt28 (100 * x11) := Ym (Zc 100) h27 (by omega)
  have h29 : Is ρ bt29 (100 * x11 + 1) := Ya (Zc 1) h28 (by omega)
  have h30 : Is ρ bt30 (x12) := Zconv e12 (by omega)
  have h31 : Is ρ bt31 (10 * x12) := Ym (Zc 10) h30 (by omega)
  have h32 : Is ρ bt32 (100 * x11 + 10 * x12 + 1) := Ya h29 h31 (by omega)
  have h33 : Is ρ bt33 (x14) := Zconv e14 (by omega)
  have h34 : Is ρ bt34 (500 * x14) := Ym (Zc 500) h33 (by omega)
  have h35 : Is ρ bt35 (x15) := Zconv e15 (by omega)
  have h36 : Is ρ bt36 (500 * x14 + x15) := Ya h34 h35 (by omega)
  have h37 : Is ρ bt37 (w11) := by
    have w11s := w11s.out
    exact Zmul h5 h11 (by omega) (((by simp only [Int.add_mul, Int.mul_add, Int.mul_assoc, Int.mul_comm, Int.mul_left_comm, Int.reduceMul, Int.reduceNeg, Int.mul_one, Int.one_mul] <;> omega : (20 * x1) * (r4 + x3) = 20 * (r4 * x1) + 20 * (x1 * x3)).trans (by (try simp only [m9e.out, m10e.out]) <;> omega)).trans w11s)
  have h38 : Is ρ bt38 (w14) := by
    have w14s := w14s.out
    exact Zmul h7 h15 (by omega) (((by simp only [Int.add_mul, Int.mul_add, Int.mul_assoc, Int.mul_comm, Int.mul_left_comm, Int.reduceMul, Int.reduceNeg, Int.mul_one, Int.one_mul] <;> omega : (30 * x2) * (r6 + x5) = 30 * (r6 * x2) + 30 * (x2 * x5)).trans (by (try simp only [m12e.out, m13e.out]) <;> omega)).trans w14s)
  have h39 : Is ρ bt39 (w11 + w14) := Ya h37 h38 (by omega)
  have h40 : Is ρ bt40 (10000 * x0 + 1000) := Ym (Zc 1000) h3 (by omega)
  have h41 : Is ρ bt41 (w11 + w14 + 10000 * x0 + 1000) := Ya h39 h40 (by omega)
  have h42 : Is ρ bt42 (w15) := by
    have w15s := w15s.out
    exact Zmul h5 h8 (by omega) (((by simp only [Int.add_mul, Int.mul_add, Int.mul_assoc, Int.mul_comm, Int.mul_left_comm, Int.reduceMul, Int.reduceNeg, Int.mul_one, Int.one_mul] <;> omega : (20 * x1) * (x3) = 20 * (x1 * x3)).trans (by (try simp only [m10e.out]) <;> omega)).trans w15s)
  have h43 : Is ρ bt43 (w16) := by
    have w16s := w16s.out
    exact Zmul h7 h12 (by omega) (((by simp only [Int.add_mul, Int.mul_add, Int.mul_assoc, Int.mul_comm, Int.mul_left_comm, Int.reduceMul, Int.reduceNeg, Int.mul_one, Int.one_mul] <;> omega : (30 * x2) * (x5) = 30 * (x2 * x5)).trans (by (try simp only [m13e.out]) <;> omega)).trans w16s)
  have h44 : Is ρ bt44 (w15 + w16) := Ya h42 h43 (by omega)
  have h45 : Is ρ bt45 (w15 + w16 + 10000 * x0 + 1000) := Ya h44 h40 (by omega)
  have h46 : Is ρ bt46 (x18) := Zconv e18 (by omega)
  have h47 : Is ρ bt47 (r4) := Ys h11 h8 (by omega)
  have h48 : Is ρ bt48 (w18) := by
    have w18s := w18s.out
    exact Zmul h46 h47 (by omega) (((by simp only [Int.add_mul, Int.mul_add, Int.mul_assoc, Int.mul_comm, Int.mul_left_comm, Int.reduceMul, Int.reduceNeg, Int.mul_one, Int.one_mul] <;> omega : (x18) * (r4) = r4 * x18).trans (by (try simp only [m17e.out]) <;> omega)).trans w18s)
  have h49 : Is ρ bt49 (q19) := Zquop h48 (Zc 255) (by omega) (by omega) q19e.out
  have h50 : Is ρ bt50 (q19 + x3) := Ya h8 h49 (by omega)
  have h51 : Is ρ bt51 (w22) := by
    have w22s := w22s.out
    exact Zmul h5 h50 (by omega) (((by simp only [Int.add_mul, Int.mul_add, Int.mul_assoc, Int.mul_comm, Int.mul_left_comm, Int.reduceMul, Int.reduceNeg, Int.mul_one, Int.one_mul] <;> omega : (20 * x1) * (q19 + x3) = 20 * (q19 * x1) + 20 * (x1 * x3)).trans (by (try simp only [m21e.out, m10e.out]) <;> omega)).trans w22s)
  have h52 : Is ρ bt52 (w22 + 10000 * x0 + 1000) := Ya h40 h51 (by omega)
  have h53 : Is ρ bt53 (x19) := Zconv e19 (by omega)
  have h54 : Is ρ bt54 (r6) := Ys h15 h12 (by omega)
  have h55 : Is ρ bt55 (w24) := by
    have w24s := w24s.out
    exact Zmul h53 h54 (by omega) (((by simp only [Int.add_mul, Int.mul_add, Int.mul_assoc, Int.mul_comm, Int.mul_left_comm, Int.reduceMul, Int.reduceNeg, Int.mul_one, Int.one_mul] <;> omega : (x19) * (r6) = r6 * x19).trans (by (try simp only [m23e.out]) <;> omega)).trans w24s)
  have h56 : Is ρ bt56 (q25) := Zquop h55 (Zc 255) (by omega) (by omega) q25e.out
  have h57 : Is ρ bt57 (q25 + x5) := Ya h12 h56 (by omega)
  have h58 : Is ρ bt58 (w28) := by
    have w28s := w28s.out
    exact Zmul h7 h57 (by omega) (((by simp only [Int.add_mul, Int.mul_add, Int.mul_assoc, Int.mul_comm, Int.mul_left_comm, Int.reduceMul, Int.reduceNeg, Int.mul_one, Int.one_mul] <;> omega : (30 * x2) * (q25 + x5) = 30 * (q25 * x2) + 30 * (x2 * x5)).trans (by (try simp only [m27e.out, m13e.out]) <;> omega)).trans w28s)
  have h59 : Is ρ bt59 (w22 + w28 + 10000 * x0 + 1000) := Ya h52 h58 (by omega)
  have h60 : Is ρ bt60 (x26) := Zconv e26 (by omega)
  have h61 : Is ρ bt61 (x27) := Zconv e27 (by omega)
  have h62 : Is ρ bt62 (x26 + x27) := Ya h60 h61 (by omega)
  have h63 : Is ρ bt63 (500000 * x14) := Ym (Zc 1000) h34 (by omega)
  have h64 : Is ρ bt64 (q31) := by
    have w29s := w29s.out
    have w30s := w30s.out
    exact Ztq (w29s ▸ h63) (w30s ▸ h41) q31e.out (by omega)
  have h65 : Is ρ bt65 (q31) := Ya (Zc 0) h64 (by omega)
  have h66 : Is ρ bt66 (x20) := Zconv e20 (by omega)
  have h67 : Is ρ bt67 (x15) := Ys h36 h34 (by omega)
  have h68 : Is ρ bt68 (w34) := by
    have w34s := w34s.out
    exact Zmul h66 h67 (by omega) (((by simp only [Int.add_mul, Int.mul_add, Int.mul_assoc, Int.mul_comm, Int.mul_left_comm, Int.reduceMul, Int.reduceNeg, Int.mul_one, Int.one_mul] <;> omega : (x20) * (x15) = x15 * x20).trans (by (try simp only [m33e.out]) <;> omega)).trans w34s)
  have h69 : Is ρ bt69 (q35) := Zquop h68 (Zc 255) (by omega) (by omega) q35e.out
  have h70 : Is ρ bt70 (q35 + 500 * x14) := Ya h34 h69 (by omega)
  have h71 : Is ρ bt71 (1000 * q35 + 500000 * x14) := Ym (Zc 1000) h70 (by omega)
  have h72 : Is ρ bt72 (q39) := by
    have w37s := w37s.out
    have w38s := w38s.out
    exact Ztq (w37s ▸ h71) (w38s ▸ h59) q39e.out (by omega)
  have h73 : Is ρ bt73 (500000 * x14 + 1000 * x15) := Ym (Zc 1000) h36 (by omega)
  have h74 : Is ρ bt74 (q43) := by
    have w41s := w41s.out
    have w42s := w42s.out
    exact Ztq (w41s ▸ h73) (w42s ▸ h45) q43e.out (by omega)
  have h75 : Is ρ bt75 (q43) := Ya (Zc 0) h74 (by omega)
  have h76 : Is ρ bt76 (255 * r4) := Ym (Zc 255) h47 (by omega)
  have h77 : Is ρ bt77 (r4) := Zqx h76 (Zc 255) (by omega) (by omega) (by omega)
  have h78 : Is ρ bt78 (r4 + x3) := Ya h8 h77 (by omega)
  have h79 : Is ρ bt79 (w11) := by
    have w11s := w11s.out
    exact Zmul h5 h78 (by omega) (((by simp only [Int.add_mul, Int.mul_add, Int.mul_assoc, Int.mul_comm, Int.mul_left_comm, Int.reduceMul, Int.reduceNeg, Int.mul_one, Int.one_mul] <;> omega : (20 * x1) * (r4 + x3) = 20 * (r4 * x1) + 20 * (x1 * x3)).trans (by (try simp only [m9e.out, m10e.out]) <;> omega)).trans w11s)
  have h80 : Is ρ bt80 (w11 + 10000 * x0 + 1000) := Ya h40 h79 (by omega)
  have h81 : Is ρ bt81 (255 * r6) := Ym (Zc 255) h54 (by omega)
  have h82 : Is ρ bt82 (r6) := Zqx h81 (Zc 255) (by omega) (by omega) (by omega)
  have h83 : Is ρ bt83 (r6 + x5) := Ya h12 h82 (by omega)
  have h84 : Is ρ bt84 (w14) := by
    have w14s := w14s.out
    exact Zmul h7 h83 (by omega) (((by simp only [Int.add_mul, Int.mul_add, Int.mul_assoc, Int.mul_comm, Int.mul_left_comm, Int.reduceMul, Int.reduceNeg, Int.mul_one, Int.one_mul] <;> omega : (30 * x2) * (r6 + x5) = 30 * (r6 * x2) + 30 * (x2 * x5)).trans (by (try simp only [m12e.out, m13e.out]) <;> omega)).trans w14s)
  have h85 : Is ρ bt85 (w11 + w14 + 10000 * x0 + 1000) := Ya h80 h84 (by omega)
  have h86 : Is ρ bt86 (0) := Ym (Zc 0) h67 (by omega)
  have h87 : Is ρ bt87 (0) := Zqx h86 (Zc 255) (by omega) (by omega) (by omega)
  have h88 : Is ρ bt88 (500 * x14) := Ya h34 h87 (by omega)
  have h89 : Is ρ bt89 (500000 * x14) := Ym (Zc 1000) h88 (by omega)
  have h90 : Is ρ bt90 (q31) := by
    have w29s := w29s.out
    have w30s := w30s.out
    exact Ztq (w29s ▸ h89) (w30s ▸ h85) q31e.out (by omega)
  have h91 : Is ρ bt91 (0) := Ym (Zc 0) h47 (by omega)
  have h92 : Is ρ bt92 (0) := Zqx h91 (Zc 255) (by omega) (by omega) (by omega)
  have h93 : Is ρ bt93 (x3) := Ya h8 h92 (by omega)
  have h94 : Is ρ bt94 (w15) := by
    have w15s := w15s.out
    exact Zmul h5 h93 (by omega) (((by simp only [Int.add_mul, Int.mul_add, Int.mul_assoc, Int.mul_comm, Int.mul_left_comm, Int.reduceMul, Int.reduceNeg, Int.mul_one, Int.one_mul] <;> omega : (20 * x1) * (x3) = 20 * (x1 * x3)).trans (by (try simp only [m10e.out]) <;> omega)).trans w15s)
  have h95 : Is ρ bt95 (w15 + 10000 * x0 + 1000) := Ya h40 h94 (by omega)
  have h96 : Is ρ bt96 (0) := Ym (Zc 0) h54 (by omega)
  have h97 : Is ρ bt97 (0) := Zqx h96 (Zc 255) (by omega) (by omega) (by omega)
  have h98 : Is ρ bt98 (x5) := Ya h12 h97 (by omega)
  have h99 : Is ρ bt99 (w16) := by
    have w16s := w16s.out
    exact Zmul h7 h98 (by omega) (((by simp only [Int.add_mul, Int.mul_add, Int.mul_assoc, Int.mul_comm, Int.mul_left_comm, Int.reduceMul, Int.reduceNeg, Int.mul_one, Int.one_mul] <;> omega : (30 * x2) * (x5) = 30 * (x2 * x5)).trans (by (try simp only [m13e.out]) <;> omega)).trans w16s)
  have h100 : Is ρ bt100 (w15 + w16 + 10000 * x0 + 1000) := Ya h95 h99 (by omega)
  have h101 : Is ρ bt101 (255 * x15) := Ym (Zc 255) h67 (by omega)
  have h102 : Is ρ bt102 (x15) := Zqx h101 (Zc 255) (by omega) (by omega) (by omega)
  have h103 : Is ρ bt103 (500 * x14 + x15) := Ya h34 h102 (by omega)
  have h104 : Is ρ bt104 (500000 * x14 + 1000 * x15) := Ym (Zc 1000) h103 (by omega)
  have h105 : Is ρ bt105 (q43) := by
    have w41s := w41s.out
    have w42s := w42s.out
    exact Ztq (w41s ▸ h104) (w42s ▸ h100) q43e.out (by omega)
  have h106 : Is ρ bt106 (q31 + (-1) * x26 + (-1) * x27) := Ys h65 h62 (by omega)
  have h107 : Is ρ bt107 (u45) := by
    have u45s := u45s.out
    exact Zmx h106 (Zc 0) (by omega)
  have h108 : Is ρ bt108 (x25) := Zconv e25 (by omega)
  have h109 : Is ρ bt109 (x27) := Ys h62 h60 (by omega)
  have h110 : Is ρ bt110 (w47) := by
    have w47s := w47s.out
    exact Zmul h108 h109 (by omega) (((by simp only [Int.add_mul, Int.mul_add, Int.mul_assoc, Int.mul_comm, Int.mul_left_comm, Int.reduceMul, Int.reduceNeg, Int.mul_one, Int.one_mul] <;> omega : (x25) * (x27) = x25 * x27).trans (by (try simp only [m46e.out]) <;> omega)).trans w47s)
  have h111 : Is ρ bt111 (q48) := Zquop h110 (Zc 255) (by omega) (by omega) q48e.out
  have h112 : Is ρ bt112 (q48 + x26) := Ya h60 h111 (by omega)
  have h113 : Is ρ bt113 (q39 + (-1) * q48 + (-1) * x26) := Ys h72 h112 (by omega)
  have h114 : Is ρ bt114 (u50) := by
    have u50s := u50s.out
    exact Zmx (Zc 0) h113 (by omega)
  have h115 : Is ρ bt115 (q43 + (-1) * x26) := Ys h75 h60 (by omega)
  have h116 : Is ρ bt116 (u51) := by
    have u51s := u51s.out
    exact Zmx h115 (Zc 0) (by omega)
  have h117 : Is ρ bt117 (10 * x12) := Ys h32 h29 (by omega)
  have h118 : Is ρ bt118 (w53) := by
    have w53s := w53s.out
    exact Zmul h108 h117 (by omega) (((by simp only [Int.add_mul, Int.mul_add, Int.mul_assoc, Int.mul_comm, Int.mul_left_comm, Int.reduceMul, Int.reduceNeg, Int.mul_one, Int.one_mul] <;> omega : (x25) * (10 * x12) = 10 * (x12 * x25)).trans (by (try simp only [m52e.out]) <;> omega)).trans w53s)
  have h119 : Is ρ bt119 (q54) := Zquop h118 (Zc 255) (by omega) (by omega) q54e.out
  have h120 : Is ρ bt120 (q54 + 100 * x11 + 1) := Ya h29 h119 (by omega)
  have h121 : Is ρ bt121 (x16) := Zconv e16 (by omega)
  have h122 : Is ρ bt122 (r57) := Zremp h121 (Zc 1000) (by omega) r57e.out
  have h123 : Is ρ bt123 (x17) := Zconv e17 (by omega)
  have h124 : Is ρ bt124 (r59) := Zremp h123 (Zc 50) (by omega) r59e.out
  have h125 : Is ρ bt125 (r57 + r59) := Ya h122 h124 (by omega)
  have h126 : Is ρ bt126 (w61) := by
    have w61s := w61s.out
    exact Zmul h18 h122 (by omega) (((by simp only [Int.add_mul, Int.mul_add, Int.mul_assoc, Int.mul_comm, Int.mul_left_comm, Int.reduceMul, Int.reduceNeg, Int.mul_one, Int.one_mul] <;> omega : (100 * x7 + 1) * (r57) = 100 * (r57 * x7) + 1 * r57).trans (by (try simp only [m60e.out]) <;> omega)).trans w61s)
  have h127 : Is ρ bt127 (q62) := Zquop h126 (Zc 1000) (by omega) (by omega) q62e.out
  have h128 : Is ρ bt128 (q31 + q62) := Ya h127 h64 (by omega)
  have h129 : Is ρ bt129 (x21) := Zconv e21 (by omega)
  have h130 : Is ρ bt130 (10 * x8) := Ys h21 h18 (by omega)
  have h131 : Is ρ bt131 (w65) := by
    have w65s := w65s.out
    exact Zmul h129 h130 (by omega) (((by simp only [Int.add_mul, Int.mul_add, Int.mul_assoc, Int.mul_comm, Int.mul_left_comm, Int.reduceMul, Int.reduceNeg, Int.mul_one, Int.one_mul] <;> omega : (x21) * (10 * x8) = 10 * (x21 * x8)).trans (by (try simp only [m64e.out]) <;> omega)).trans w65s)
  have h132 : Is ρ bt132 (q66) := Zquop h131 (Zc 255) (by omega) (by omega) q66e.out
  have h133 : Is ρ bt133 (q66 + 100 * x7 + 1) := Ya h18 h132 (by omega)
  have h134 : Is ρ bt134 (x22) := Zconv e22 (by omega)
  have h135 : Is ρ bt135 (r59) := Ys h125 h122 (by omega)
  have h136 : Is ρ bt136 (w69) := by
    have w69s := w69s.out
    exact Zmul h134 h135 (by omega) (((by simp only [Int.add_mul, Int.mul_add, Int.mul_assoc, Int.mul_comm, Int.mul_left_comm, Int.reduceMul, Int.reduceNeg, Int.mul_one, Int.one_mul] <;> omega : (x22) * (r59) = r59 * x22).trans (by (try simp only [m68e.out]) <;> omega)).trans w69s)
  have h137 : Is ρ bt137 (q70) := Zquop h136 (Zc 255) (by omega) (by omega) q70e.out
  have h138 : Is ρ bt138 (q70 + r57) := Ya h122 h137 (by omega)
  have h139 : Is ρ bt139 (w75) := by
    have w75s := w75s.out
    exact Zmul h133 h138 (by omega) (((by simp only [Int.add_mul, Int.mul_add, Int.mul_assoc, Int.mul_comm, Int.mul_left_comm, Int.reduceMul, Int.reduceNeg, Int.mul_one, Int.one_mul] <;> omega : (q66 + 100 * x7 + 1) * (q70 + r57) = q66 * q70 + q66 * r57 + 100 * (q70 * x7) + 100 * (r57 * x7) + 1 * q70 + 1 * r57).trans (by (try simp only [m72e.out, m73e.out, m74e.out, m60e.out]) <;> omega)).trans w75s)
  have h140 : Is ρ bt140 (q76) := Zquop h139 (Zc 1000) (by omega) (by omega) q76e.out
  have h141 : Is ρ bt141 (q39 + q76) := Ya h72 h140 (by omega)
  have h142 : Is ρ bt142 (w81) := by
    have w81s := w81s.out
    exact Zmul h21 h125 (by omega) (((by simp only [Int.add_mul, Int.mul_add, Int.mul_assoc, Int.mul_comm, Int.mul_left_comm, Int.reduceMul, Int.reduceNeg, Int.mul_one, Int.one_mul] <;> omega : (100 * x7 + 10 * x8 + 1) * (r57 + r59) = 100 * (r57 * x7) + 100 * (r59 * x7) + 10 * (r57 * x8) + 10 * (r59 * x8) + 1 * r57 + 1 * r59).trans (by (try simp only [m60e.out, m78e.out, m79e.out, m80e.out]) <;> omega)).trans w81s)
  have h143 : Is ρ bt143 (q82) := Zquop h142 (Zc 1000) (by omega) (by omega) q82e.out
  have h144 : Is ρ bt144 (q43 + q82) := Ya h143 h74 (by omega)
  have h145 : Is ρ bt145 (0) := Ym (Zc 0) h130 (by omega)
  have h146 : Is ρ bt146 (0) := Zqx h145 (Zc 255) (by omega) (by omega) (by omega)
  have h147 : Is ρ bt147 (100 * x7 + 1) := Ya h18 h146 (by omega)
  have h148 : Is ρ bt148 (0) := Ym (Zc 0) h135 (by omega)
  have h149 : Is ρ bt149 (0) := Zqx h148 (Zc 255) (by omega) (by omega) (by omega)
  have h150 : Is ρ bt150 (r57) := Ya h122 h149 (by omega)
  have h151 : Is ρ bt151 (w61) := by
    have w61s := w61s.out
    exact Zmul h147 h150 (by omega) (((by simp only [Int.add_mul, Int.mul_add, Int.mul_assoc, Int.mul_comm, Int.mul_left_comm, Int.reduceMul, Int.reduceNeg, Int.mul_one, Int.one_mul] <;> omega : (100 * x7 + 1) * (r57) = 100 * (r57 * x7) + 1 * r57).trans (by (try simp only [m60e.out]) <;> omega)).trans w61s)
  have h152 : Is ρ bt152 (q62) := Zquop h151 (Zc 1000) (by omega) (by omega) q62e.out
  have h153 : Is ρ bt153 (q31 + q62) := Ya h90 h152 (by omega)
  have h154 : Is ρ bt154 (2550 * x8) := Ym (Zc 255) h130 (by omega)
  have h155 : Is ρ bt155 (10 * x8) := Zqx h154 (Zc 255) (by omega) (by omega) (by omega)
  have h156 : Is ρ bt156 (100 * x7 + 10 * x8 + 1) := Ya h18 h155 (by omega)
  have h157 : Is ρ bt157 (255 * r59) := Ym (Zc 255) h135 (by omega)
  have h158 : Is ρ bt158 (r59) := Zqx h157 (Zc 255) (by omega) (by omega) (by omega)
  have h159 : Is ρ bt159 (r57 + r59) := Ya h122 h158 (by omega)
  have h160 : Is ρ bt160 (w81) := by
    have w81s := w81s.out
    exact Zmul h156 h159 (by omega) (((by simp only [Int.add_mul, Int.mul_add, Int.mul_assoc, Int.mul_comm, Int.mul_left_comm, Int.reduceMul, Int.reduceNeg, Int.mul_one, Int.one_mul] <;> omega : (100 * x7 + 10 * x8 + 1) * (r57 + r59) = 100 * (r57 * x7) + 100 * (r59 * x7) + 10 * (r57 * x8) + 10 * (r59 * x8) + 1 * r57 + 1 * r59).trans (by (try simp only [m60e.out, m78e.out, m79e.out, m80e.out]) <;> omega)).trans w81s)
  have h161 : Is ρ bt161 (q82) := Zquop h160 (Zc 1000) (by omega) (by omega) q82e.out
  have h162 : Is ρ bt162 (q43 + q82) := Ya h105 h161 (by omega)
  have h163 : Is ρ bt163 (q31 + q62 + (-1) * x26 + (-1) * x27) := Ys h128 h62 (by omega)
  have h164 : Is ρ bt164 (u84) := by
    have u84s := u84s.out
    exact Zmx h163 (Zc 0) (by omega)
  have h165 : Is ρ bt165 (q39 + (-1) * q48 + q76 + (-1) * x26) := Ys h141 h112 (by omega)
  have h166 : Is ρ bt166 (u85) := by
    have u85s := u85s.out
    exact Zmx (Zc 0) h165 (by omega)
  have h167 : Is ρ bt167 (q43 + q82 + (-1) * x26) := Ys h144 h60 (by omega)
  have h168 : Is ρ bt168 (u86) := by
    have u86s := u86s.out
    exact Zmx h167 (Zc 0) (by omega)
  have h169 : Is ρ bt169 (r88) := Zremp h121 (Zc 500) (by omega) r88e.out
  have h170 : Is ρ bt170 (r59 + r88) := Ya h169 h124 (by omega)
  have h171 : Is ρ bt171 (w90) := by
    have w90s := w90s.out
    exact Zmul h23 h169 (by omega) (((by simp only [Int.add_mul, Int.mul_add, Int.mul_assoc, Int.mul_comm, Int.mul_left_comm, Int.reduceMul, Int.reduceNeg, Int.mul_one, Int.one_mul] <;> omega : (x9 + 1) * (r88) = r88 * x9 + 1 * r88).trans (by (try simp only [m89e.out]) <;> omega)).trans w90s)
  have h172 : Is ρ bt172 (x23) := Zconv e23 (by omega)
  have h173 : Is ρ bt173 (r8) := Ys h26 h23 (by omega)
  have h174 : Is ρ bt174 (w92) := by
    have w92s := w92s.out
    exact Zmul h172 h173 (by omega) (((by simp only [Int.add_mul, Int.mul_add, Int.mul_assoc, Int.mul_comm, Int.mul_left_comm, Int.reduceMul, Int.reduceNeg, Int.mul_one, Int.one_mul] <;> omega : (x23) * (r8) = r8 * x23).trans (by (try simp only [m91e.out]) <;> omega)).trans w92s)
  have h175 : Is ρ bt175 (q93) := Zquop h174 (Zc 255) (by omega) (by omega) q93e.out
  have h176 : Is ρ bt176 (q93 + x9 + 1) := Ya h23 h175 (by omega)
  have h177 : Is ρ bt177 (x24) := Zconv e24 (by omega)
  have h178 : Is ρ bt178 (r59) := Ys h170 h169 (by omega)
  have h179 : Is ρ bt179 (w96) := by
    have w96s := w96s.out
    exact Zmul h177 h178 (by omega) (((by simp only [Int.add_mul, Int.mul_add, Int.mul_assoc, Int.mul_comm, Int.mul_left_comm, Int.reduceMul, Int.reduceNeg, Int.mul_one, Int.one_mul] <;> omega : (x24) * (r59) = r59 * x24).trans (by (try simp only [m95e.out]) <;> omega)).trans w96s)
  have h180 : Is ρ bt180 (q97) := Zquop h179 (Zc 255) (by omega) (by omega) q97e.out
  have h181 : Is ρ bt181 (q97 + r88) := Ya h169 h180 (by omega)
  have h182 : Is ρ bt182 (w102) := by
    have w102s := w102s.out
    exact Zmul h176 h181 (by omega) (((by simp only [Int.add_mul, Int.mul_add, Int.mul_assoc, Int.mul_comm, Int.mul_left_comm, Int.reduceMul, Int.reduceNeg, Int.mul_one, Int.one_mul] <;> omega : (q93 + x9 + 1) * (q97 + r88) = q93 * q97 + q93 * r88 + q97 * x9 + r88 * x9 + 1 * q97 + 1 * r88).trans (by (try simp only [m99e.out, m100e.out, m101e.out, m89e.out]) <;> omega)).trans w102s)
  have h183 : Is ρ bt183 (w106) := by
    have w106s := w106s.out
    exact Zmul h26 h170 (by omega) (((by simp only [Int.add_mul, Int.mul_add, Int.mul_assoc, Int.mul_comm, Int.mul_left_comm, Int.reduceMul, Int.reduceNeg, Int.mul_one, Int.one_mul] <;> omega : (r8 + x9 + 1) * (r59 + r88) = r59 * r8 + r8 * r88 + r59 * x9 + r88 * x9 + 1 * r59 + 1 * r88).trans (by (try simp only [m103e.out, m104e.out, m105e.out, m89e.out]) <;> omega)).trans w106s)
  have h184 : Is ρ bt184 (0) := Ym (Zc 0) h173 (by omega)
  have h185 : Is ρ bt185 (0) := Zqx h184 (Zc 255) (by omega) (by omega) (by omega)
  have h186 : Is ρ bt186 (x9 + 1) := Ya h23 h185 (by omega)
  have h187 : Is ρ bt187 (0) := Ym (Zc 0) h178 (by omega)
  have h188 : Is ρ bt188 (0) := Zqx h187 (Zc 255) (by omega) (by omega) (by omega)
  have h189 : Is ρ bt189 (r88) := Ya h169 h188 (by omega)
  have h190 : Is ρ bt190 (w90) := by
    have w90s := w90s.out
    exact Zmul h186 h189 (by omega) (((by simp only [Int.add_mul, Int.mul_add, Int.mul_assoc, Int.mul_comm, Int.mul_left_comm, Int.reduceMul, Int.reduceNeg, Int.mul_one, Int.one_mul] <;> omega : (x9 + 1) * (r88) = r88 * x9 + 1 * r88).trans (by (try simp only [m89e.out]) <;> omega)).trans w90s)
  have h191 : Is ρ bt191 (255 * r8) := Ym (Zc 255) h173 (by omega)
  have h192 : Is ρ bt192 (r8) := Zqx h191 (Zc 255) (by omega) (by omega) (by omega)
  have h193 : Is ρ bt193 (r8 + x9 + 1) := Ya h23 h192 (by omega)
  have h194 : Is ρ bt194 (255 * r59) := Ym (Zc 255) h178 (by omega)
  have h195 : Is ρ bt195 (r59) := Zqx h194 (Zc 255) (by omega) (by omega) (by omega)
  have h196 : Is ρ bt196 (r59 + r88) := Ya h169 h195 (by omega)
  have h197 : Is ρ bt197 (w106) := by
    have w106s := w106s.out
    exact Zmul h193 h196 (by omega) (((by simp only [Int.add_mul, Int.mul_add, Int.mul_assoc, Int.mul_comm, Int.mul_left_comm, Int.reduceMul, Int.reduceNeg, Int.mul_one, Int.one_mul] <;> omega : (r8 + x9 + 1) * (r59 + r88) = r59 * r8 + r8 * r88 + r59 * x9 + r88 * x9 + 1 * r59 + 1 * r88).trans (by (try simp only [m103e.out, m104e.out, m105e.out, m89e.out]) <;> omega)).trans w106s)
  have h198 : Is ρ bt198 (w90 + (-1) * x26 + (-1) * x27) := Ys h171 h62 (by omega)
  have h199 : Is ρ bt199 (u107) := by
    have u107s := u107s.out
    exact Zmx h198 (Zc 0) (by omega)
  have h200 : Is ρ bt200 ((-1) * q48 + w102 + (-1) * x26) := Ys h182 h112 (by omega)
  have h201 : Is ρ bt201 (u108) := by
    have u108s := u108s.out
    exact Zmx (Zc 0) h200 (by omega)
  have h202 : Is ρ bt202 (w106 + (-1) * x26) := Ys h183 h60 (by omega)
  have h203 : Is ρ bt203 (u109) := by
    have u109s := u109s.out
    exact Zmx h202 (Zc 0) (by omega)
  exact ⟨h0, h3, h5, h7, h8, h11, h12, h15, h18, h21, h23, h26, h29, h32, h34, h36, h41, h45, h59, h60, h62, h65, h72, h75, h85, h90, h100, h105, h107, h114, h116, h120, h122, h125, h128, h141, h144, h153, h162, h164, h166, h168, h169, h170, h171, h182, h183, h190, h197, h199, h201, h203⟩
theorem bt_d0 {q31 q39 q35 w37 w29 w38 w30 x14 w11 w14 x0 w22 w28 m10 m9 m12 m13 m21 m27 : Int} (b_q35 : 0 ≤ q35 ∧ q35 ≤ 65535) (b_w37 : 0 ≤ w37 ∧ w37 ≤ 32833035000) (rf4 : w29 ≤ w37 → w38 ≤ w30 → 0 ≤ w37 → q31 ≤ q39) (w29s : 500000 * x14 = w29) (w30s : w11 + w14 + 10000 * x0 + 1000 = w30) (w37s : 1000 * q35 + 500000 * x14 = w37) (w38s : w22 + w28 + 10000 * x0 + 1000 = w38) (w11s : 20 * m10 + 20 * m9 = w11) (w14s : 30 * m12 + 30 * m13 = w14) (w22s : 20 * m10 + 20 * m21 = w22) (w28s : 30 * m13 + 30 * m27 = w28) (rf1_0 : 0 ≤ (-1) * m21 + m9) (rf2_0 : 0 ≤ m12 + (-1) * m27) : (q31 : Int) ≤ q39 := by omega
theorem bt_d1 {q39 q43 w41 w37 w42 w38 q35 x14 w22 w28 x0 x15 w15 w16 m10 m21 m13 m27 x1 q19 x2 q25 : Int} (b_w41 : 0 ≤ w41 ∧ w41 ≤ 32833035000) (rf5 : w37 ≤ w41 → w42 ≤ w38 → 0 ≤ w41 → q39 ≤ q43) (w37s : 1000 * q35 + 500000 * x14 = w37) (w38s : w22 + w28 + 10000 * x0 + 1000 = w38) (w41s : 500000 * x14 + 1000 * x15 = w41) (w42s : w15 + w16 + 10000 * x0 + 1000 = w42) (rf3 : 0 ≤ (-1) * q35 + x15) (w22s : 20 * m10 + 20 * m21 = w22) (w28s : 30 * m13 + 30 * m27 = w28) (w15s : 20 * m10 = w15) (w16s : 30 * m13 = w16) (m21f1 : (0) * x1 + (0) * q19 - (0) ≤ m21) (m27f1 : (0) * x2 + (0) * q25 - (0) ≤ m27) : (q39 : Int) ≤ q43 := by omega
theorem bt_d2 {u45 u50 q35 w37 q31 x26 x27 q39 q48 w29 w38 w30 x14 w11 w14 x0 w22 w28 m10 m9 m12 m13 m21 m27 : Int} (b_q35 : 0 ≤ q35 ∧ q35 ≤ 65535) (b_w37 : 0 ≤ w37 ∧ w37 ≤ 32833035000) (u45s : max (q31 + (-1) * x26 + (-1) * x27) 0 = u45) (u50s : max (q39 + (-1) * q48 + (-1) * x26) 0 = u50) (rf4 : w29 ≤ w37 → w38 ≤ w30 → 0 ≤ w37 → q31 ≤ q39) (rf11 : 0 ≤ (-1) * q48 + x27) (w29s : 500000 * x14 = w29) (w30s : w11 + w14 + 10000 * x0 + 1000 = w30) (w37s : 1000 * q35 + 500000 * x14 = w37) (w38s : w22 + w28 + 10000 * x0 + 1000 = w38) (w11s : 20 * m10 + 20 * m9 = w11) (w14s : 30 * m12 + 30 * m13 = w14) (w22s : 20 * m10 + 20 * m21 = w22) (w28s : 30 * m13 + 30 * m27 = w28) (rf1_0 : 0 ≤ (-1) * m21 + m9) (rf2_0 : 0 ≤ m12 + (-1) * m27) : (u45 : Int) ≤ u50 := by omega
theorem bt_d3 {u50 u51 q48 w41 q39 x26 q43 w37 w42 w38 q35 x14 w22 w28 x0 x15 w15 w16 m10 m21 m13 m27 x1 q19 x2 q25 : Int} (b_q48 : 0 ≤ q48 ∧ q48 ≤ 255) (b_w41 : 0 ≤ w41 ∧ w41 ≤ 32833035000) (u50s : max (q39 + (-1) * q48 + (-1) * x26) 0 = u50) (u51s : max (q43 + (-1) * x26) 0 = u51) (rf5 : w37 ≤ w41 → w42 ≤ w38 → 0 ≤ w41 → q39 ≤ q43) (w37s : 1000 * q35 + 500000 * x14 = w37) (w38s : w22 + w28 + 10000 * x0 + 1000 = w38) (w41s : 500000 * x14 + 1000 * x15 = w41) (w42s : w15 + w16 + 10000 * x0 + 1000 = w42) (rf3 : 0 ≤ (-1) * q35 + x15) (w22s : 20 * m10 + 20 * m21 = w22) (w28s : 30 * m13 + 30 * m27 = w28) (w15s : 20 * m10 = w15) (w16s : 30 * m13 = w16) (m21f1 : (0) * x1 + (0) * q19 - (0) ≤ m21) (m27f1 : (0) * x2 + (0) * q25 - (0) ≤ m27) : (u50 : Int) ≤ u51 := by omega
theorem bt_d4 {q31 q62 q39 q76 q35 q70 r63 r77 w37 w29 w38 w30 w61 w75 x14 w11 w14 x0 w22 w28 m60 r57 m72 m73 m74 m10 m9 m12 m13 m21 m27 q66 x7 : Int} (b_q35 : 0 ≤ q35 ∧ q35 ≤ 65535) (b_q70 : 0 ≤ q70 ∧ q70 ≤ 49) (b_r63 : 0 ≤ r63 ∧ r63 ≤ 999) (b_r77 : 0 ≤ r77 ∧ r77 ≤ 999) (b_w37 : 0 ≤ w37 ∧ w37 ≤ 32833035000) (rf4 : w29 ≤ w37 → w38 ≤ w30 → 0 ≤ w37 → q31 ≤ q39) (q62s : w61 = 1000 * q62 + r63) (q76s : w75 = 1000 * q76 + r77) (w29s : 500000 * x14 = w29) (w30s : w11 + w14 + 10000 * x0 + 1000 = w30) (w37s : 1000 * q35 + 500000 * x14 = w37) (w38s : w22 + w28 + 10000 * x0 + 1000 = w38) (w61s : 100 * m60 + r57 = w61) (w75s : 100 * m60 + m72 + m73 + 100 * m74 + q70 + r57 = w75) (w11s : 20 * m10 + 20 * m9 = w11) (w14s : 30 * m12 + 30 * m13 = w14) (w22s : 20 * m10 + 20 * m21 = w22) (w28s : 30 * m13 + 30 * m27 = w28) (m72f1 : (0) * q70 + (0) * q66 - (0) ≤ m72) (m73f1 : (0) * r57 + (0) * q66 - (0) ≤ m73) (m74f1 : (0) * x7 + (0) * q70 - (0) ≤ m74) (rf1_0 : 0 ≤ (-1) * m21 + m9) (rf2_0 : 0 ≤ m12 + (-1) * m27) : (q31 + q62 : Int) ≤ q39 + q76 := by omega
theorem bt_d5 {q39 q76 q43 q82 r77 r83 w41 w37 w42 w38 w75 w81 q35 x14 w22 w28 x0 x15 w15 w16 m60 m72 m73 m74 q70 r57 m78 m79 m80 r59 m10 m21 m13 m27 m110 x1 q19 x2 q25 : Int} (b_r77 : 0 ≤ r77 ∧ r77 ≤ 999) (b_r83 : 0 ≤ r83 ∧ r83 ≤ 999) (b_w41 : 0 ≤ w41 ∧ w41 ≤ 32833035000) (rf5 : w37 ≤ w41 → w42 ≤ w38 → 0 ≤ w41 → q39 ≤ q43) (q76s : w75 = 1000 * q76 + r77) (q82s : w81 = 1000 * q82 + r83) (w37s : 1000 * q35 + 500000 * x14 = w37) (w38s : w22 + w28 + 10000 * x0 + 1000 = w38) (w41s : 500000 * x14 + 1000 * x15 = w41) (w42s : w15 + w16 + 10000 * x0 + 1000 = w42) (w75s : 100 * m60 + m72 + m73 + 100 * m74 + q70 + r57 = w75) (w81s : 100 * m60 + 100 * m78 + 10 * m79 + 10 * m80 + r57 + r59 = w81) (rf3 : 0 ≤ (-1) * q35 + x15) (w22s : 20 * m10 + 20 * m21 = w22) (w28s : 30 * m13 + 30 * m27 = w28) (w15s : 20 * m10 = w15) (w16s : 30 * m13 = w16) (rf6_1 : 0 ≤ 10 * m110 + (-1) * m72) (rf6_0 : 0 ≤ (-1) * m73 + 10 * m79) (rf7_1 : 0 ≤ (-1) * m74 + m78) (rf7 : 0 ≤ (-1) * q70 + r59) (rf7_0 : 0 ≤ (-1) * m110 + m80) (m21f1 : (0) * x1 + (0) * q19 - (0) ≤ m21) (m27f1 : (0) * x2 + (0) * q25 - (0) ≤ m27) : (q39 + q76 : Int) ≤ q43 + q82 := by omega
theorem bt_d6 {u84 u85 q35 q70 r63 r77 w37 q31 q62 x26 x27 q39 q48 q76 w29 w38 w30 w61 w75 x14 w11 w14 x0 w22 w28 m60 r57 m72 m73 m74 m10 m9 m12 m13 m21 m27 q66 x7 : Int} (b_q35 : 0 ≤ q35 ∧ q35 ≤ 65535) (b_q70 : 0 ≤ q70 ∧ q70 ≤ 49) (b_r63 : 0 ≤ r63 ∧ r63 ≤ 999) (b_r77 : 0 ≤ r77 ∧ r77 ≤ 999) (b_w37 : 0 ≤ w37 ∧ w37 ≤ 32833035000) (u84s : max (q31 + q62 + (-1) * x26 + (-1) * x27) 0 = u84) (u85s : max (q39 + (-1) * q48 + q76 + (-1) * x26) 0 = u85) (rf4 : w29 ≤ w37 → w38 ≤ w30 → 0 ≤ w37 → q31 ≤ q39) (q62s : w61 = 1000 * q62 + r63) (rf11 : 0 ≤ (-1) * q48 + x27) (q76s : w75 = 1000 * q76 + r77) (w29s : 500000 * x14 = w29) (w30s : w11 + w14 + 10000 * x0 + 1000 = w30) (w37s : 1000 * q35 + 500000 * x14 = w37) (w38s : w22 + w28 + 10000 * x0 + 1000 = w38) (w61s : 100 * m60 + r57 = w61) (w75s : 100 * m60 + m72 + m73 + 100 * m74 + q70 + r57 = w75) (w11s : 20 * m10 + 20 * m9 = w11) (w14s : 30 * m12 + 30 * m13 = w14) (w22s : 20 * m10 + 20 * m21 = w22) (w28s : 30 * m13 + 30 * m27 = w28) (m72f1 : (0) * q70 + (0) * q66 - (0) ≤ m72) (m73f1 : (0) * r57 + (0) * q66 - (0) ≤ m73) (m74f1 : (0) * x7 + (0) * q70 - (0) ≤ m74) (rf1_0 : 0 ≤ (-1) * m21 + m9) (rf2_0 : 0 ≤ m12 + (-1) * m27) : (u84 : Int) ≤ u85 := by omega
theorem bt_d7 {u85 u86 q48 r77 r83 w41 q39 q76 x26 q43 q82 w37 w42 w38 w75 w81 q35 x14 w22 w28 x0 x15 w15 w16 m60 m72 m73 m74 q70 r57 m78 m79 m80 r59 m10 m21 m13 m27 m110 x1 q19 x2 q25 : Int} (b_q48 : 0 ≤ q48 ∧ q48 ≤ 255) (b_r77 : 0 ≤ r77 ∧ r77 ≤ 999) (b_r83 : 0 ≤ r83 ∧ r83 ≤ 999) (b_w41 : 0 ≤ w41 ∧ w41 ≤ 32833035000) (u85s : max (q39 + (-1) * q48 + q76 + (-1) * x26) 0 = u85) (u86s : max (q43 + q82 + (-1) * x26) 0 = u86) (rf5 : w37 ≤ w41 → w42 ≤ w38 → 0 ≤ w41 → q39 ≤ q43) (q76s : w75 = 1000 * q76 + r77) (q82s : w81 = 1000 * q82 + r83) (w37s : 1000 * q35 + 500000 * x14 = w37) (w38s : w22 + w28 + 10000 * x0 + 1000 = w38) (w41s : 500000 * x14 + 1000 * x15 = w41) (w42s : w15 + w16 + 10000 * x0 + 1000 = w42) (w75s : 100 * m60 + m72 + m73 + 100 * m74 + q70 + r57 = w75) (w81s : 100 * m60 + 100 * m78 + 10 * m79 + 10 * m80 + r57 + r59 = w81) (rf3 : 0 ≤ (-1) * q35 + x15) (w22s : 20 * m10 + 20 * m21 = w22) (w28s : 30 * m13 + 30 * m27 = w28) (w15s : 20 * m10 = w15) (w16s : 30 * m13 = w16) (rf6_1 : 0 ≤ 10 * m110 + (-1) * m72) (rf6_0 : 0 ≤ (-1) * m73 + 10 * m79) (rf7_1 : 0 ≤ (-1) * m74 + m78) (rf7 : 0 ≤ (-1) * q70 + r59) (rf7_0 : 0 ≤ (-1) * m110 + m80) (m21f1 : (0) * x1 + (0) * q19 - (0) ≤ m21) (m27f1 : (0) * x2 + (0) * q25 - (0) ≤ m27) : (u85 : Int) ≤ u86 := by omega
theorem bt_d8 {w90 w102 q97 m89 r88 m100 m101 m99 q93 x9 : Int} (b_q97 : 0 ≤ q97 ∧ q97 ≤ 49) (w90s : m89 + r88 = w90) (w102s : m100 + m101 + m89 + m99 + q97 + r88 = w102) (m100f1 : (0) * r88 + (0) * q93 - (0) ≤ m100) (m101f1 : (0) * x9 + (0) * q97 - (0) ≤ m101) (m99f1 : (0) * q97 + (0) * q93 - (0) ≤ m99) : (w90 : Int) ≤ w102 := by omega
theorem bt_d9 {w102 w106 m100 m101 m89 m99 q97 r88 m103 m104 m105 r59 m111 : Int}  (w102s : m100 + m101 + m89 + m99 + q97 + r88 = w102) (w106s : m103 + m104 + m105 + m89 + r59 + r88 = w106) (rf8_1 : 0 ≤ (-1) * m100 + m104) (rf9_1 : 0 ≤ (-1) * m101 + m105) (rf8_0 : 0 ≤ m111 + (-1) * m99) (rf9 : 0 ≤ (-1) * q97 + r59) (rf9_0 : 0 ≤ m103 + (-1) * m111) : (w102 : Int) ≤ w106 := by omega
theorem bt_d10 {u107 u108 m100 m101 m99 q97 w90 x26 x27 q48 w102 m89 r88 : Int} (b_m100 : 0 ≤ m100 ∧ m100 ≤ 9481) (b_m101 : 0 ≤ m101 ∧ m101 ≤ 12495) (b_m99 : 0 ≤ m99 ∧ m99 ≤ 931) (b_q97 : 0 ≤ q97 ∧ q97 ≤ 49) (u107s : max (w90 + (-1) * x26 + (-1) * x27) 0 = u107) (u108s : max ((-1) * q48 + w102 + (-1) * x26) 0 = u108) (w90s : m89 + r88 = w90) (rf11 : 0 ≤ (-1) * q48 + x27) (w102s : m100 + m101 + m89 + m99 + q97 + r88 = w102) : (u107 : Int) ≤ u108 := by omega
theorem bt_d11 {u108 u109 q48 w102 x26 w106 m100 m101 m89 m99 q97 r88 m103 m104 m105 r59 m111 : Int} (b_q48 : 0 ≤ q48 ∧ q48 ≤ 255) (u108s : max ((-1) * q48 + w102 + (-1) * x26) 0 = u108) (u109s : max (w106 + (-1) * x26) 0 = u109) (w102s : m100 + m101 + m89 + m99 + q97 + r88 = w102) (w106s : m103 + m104 + m105 + m89 + r59 + r88 = w106) (rf8_1 : 0 ≤ (-1) * m100 + m104) (rf9_1 : 0 ≤ (-1) * m101 + m105) (rf8_0 : 0 ≤ m111 + (-1) * m99) (rf9 : 0 ≤ (-1) * q97 + r59) (rf9_0 : 0 ≤ m103 + (-1) * m111) : (u108 : Int) ≤ u109 := by omega
theorem bt_t12 {x0 : Int} (b_x0 : 0 ≤ x0 ∧ x0 ≤ 255) : ¬ ((10 * x0 + 1 : Int) ≤ 0) := by omega
theorem bt_t13 {x0 : Int} (b_x0 : 0 ≤ x0 ∧ x0 ≤ 255) : (0 : Int) ≤ 10 * x0 + 1 := by omega
theorem bt_t14 {x0 : Int} (b_x0 : 0 ≤ x0 ∧ x0 ≤ 255) : (10 * x0 + 1 : Int) ≤ 100000 := by omega
theorem bt_t15 {x1 : Int} (b_x1 : 0 ≤ x1 ∧ x1 ≤ 255) : (0 : Int) ≤ 20 * x1 := by omega
theorem bt_t16 {x1 : Int} (b_x1 : 0 ≤ x1 ∧ x1 ≤ 255) : (20 * x1 : Int) ≤ 100000 := by omega
theorem bt_t17 {x2 : Int} (b_x2 : 0 ≤ x2 ∧ x2 ≤ 255) : (0 : Int) ≤ 30 * x2 := by omega
theorem bt_t18 {x2 : Int} (b_x2 : 0 ≤ x2 ∧ x2 ≤ 255) : (30 * x2 : Int) ≤ 100000 := by omega
theorem bt_t19 {x3 : Int} (b_x3 : 0 ≤ x3 ∧ x3 ≤ 255) : (0 : Int) ≤ x3 := by omega
theorem bt_t20 {x3 r4 : Int} (b_x3 : 0 ≤ x3 ∧ x3 ≤ 255) (b_r4 : 0 ≤ r4 ∧ r4 ≤ 59) : (x3 : Int) ≤ r4 + x3 := by omega
theorem bt_t21 {r4 x3 : Int} (b_r4 : 0 ≤ r4 ∧ r4 ≤ 59) (b_x3 : 0 ≤ x3 ∧ x3 ≤ 255) : (r4 + x3 : Int) ≤ 1000 := by omega
theorem bt_t22 {x5 : Int} (b_x5 : 0 ≤ x5 ∧ x5 ≤ 255) : (0 : Int) ≤ x5 := by omega
theorem bt_c0 {ρ : Env} {x0 x1 x2 x3 r4 x5 : Int} {t : DT} (h3 : Is ρ bt3 (10 * x0 + 1)) (h5 : Is ρ bt5 (20 * x1)) (h7 : Is ρ bt7 (30 * x2)) (h8 : Is ρ bt8 (x3)) (h11 : Is ρ bt11 (r4 + x3)) (h12 : Is ρ bt12 (x5)) (b_x0 : 0 ≤ x0 ∧ x0 ≤ 255) (b_x1 : 0 ≤ x1 ∧ x1 ≤ 255) (b_x2 : 0 ≤ x2 ∧ x2 ≤ 255) (b_x3 : 0 ≤ x3 ∧ x3 ≤ 255) (b_r4 : 0 ≤ r4 ∧ r4 ≤ 59) (b_x5 : 0 ≤ x5 ∧ x5 ≤ 255) (ht : t.goal ρ) : (btC0 t).goal ρ := by
  unfold btC0
  refine aF (Nleq h3 (Zc 0) (bt_t12 b_x0)) ?_
  refine aT (Pleq (Zc 0) h3 (bt_t13 b_x0)) ?_
  refine aT (Pleq h3 (Zc 100000) (bt_t14 b_x0)) ?_
  refine aT (Pleq (Zc 0) h5 (bt_t15 b_x1)) ?_
  refine aT (Pleq h5 (Zc 100000) (bt_t16 b_x1)) ?_
  refine aT (Pleq (Zc 0) h7 (bt_t17 b_x2)) ?_
  refine aT (Pleq h7 (Zc 100000) (bt_t18 b_x2)) ?_
  refine aT (Pleq (Zc 0) h8 (bt_t19 b_x3)) ?_
  refine aT (Pleq h8 h11 (bt_t20 b_x3 b_r4)) ?_
  refine aT (Pleq h11 (Zc 1000) (bt_t21 b_r4 b_x3)) ?_
  refine aT (Pleq (Zc 0) h12 (bt_t22 b_x5)) ?_
  exact ht
theorem bt_t23 {x5 r6 : Int} (b_x5 : 0 ≤ x5 ∧ x5 ≤ 255) (b_r6 : 0 ≤ r6 ∧ r6 ≤ 59) : (x5 : Int) ≤ r6 + x5 := by omega
theorem bt_t24 {r6 x5 : Int} (b_r6 : 0 ≤ r6 ∧ r6 ≤ 59) (b_x5 : 0 ≤ x5 ∧ x5 ≤ 255) : (r6 + x5 : Int) ≤ 1000 := by omega
theorem bt_t25 {x7 : Int} (b_x7 : 0 ≤ x7 ∧ x7 ≤ 255) : (1 : Int) ≤ 100 * x7 + 1 := by omega
theorem bt_t26 {x7 x8 : Int} (b_x7 : 0 ≤ x7 ∧ x7 ≤ 255) (b_x8 : 0 ≤ x8 ∧ x8 ≤ 255) : (100 * x7 + 1 : Int) ≤ 100 * x7 + 10 * x8 + 1 := by omega
theorem bt_c1 {ρ : Env} {x5 r6 x7 x8 : Int} {t : DT} (h12 : Is ρ bt12 (x5)) (h15 : Is ρ bt15 (r6 + x5)) (h18 : Is ρ bt18 (100 * x7 + 1)) (h21 : Is ρ bt21 (100 * x7 + 10 * x8 + 1)) (b_x5 : 0 ≤ x5 ∧ x5 ≤ 255) (b_r6 : 0 ≤ r6 ∧ r6 ≤ 59) (b_x7 : 0 ≤ x7 ∧ x7 ≤ 255) (b_x8 : 0 ≤ x8 ∧ x8 ≤ 255) (ht : t.goal ρ) : (btC1 t).goal ρ := by
  unfold btC1
  refine aT (Pleq h12 h15 (bt_t23 b_x5 b_r6)) ?_
  refine aT (Pleq h15 (Zc 1000) (bt_t24 b_r6 b_x5)) ?_
  refine aT (Pleq (Zc 1) h18 (bt_t25 b_x7)) ?_
  refine aT (Pleq h18 h21 (bt_t26 b_x7 b_x8)) ?_
  exact ht
theorem bt_t27 {x7 x8 : Int} (b_x7 : 0 ≤ x7 ∧ x7 ≤ 255) (b_x8 : 0 ≤ x8 ∧ x8 ≤ 255) : (100 * x7 + 10 * x8 + 1 : Int) ≤ 100000000 := by omega
theorem bt_t28 {x9 : Int} (b_x9 : 0 ≤ x9 ∧ x9 ≤ 255) : (1 : Int) ≤ x9 + 1 := by omega
theorem bt_t29 {x9 r8 : Int} (b_x9 : 0 ≤ x9 ∧ x9 ≤ 255) (b_r8 : 0 ≤ r8 ∧ r8 ≤ 19) : (x9 + 1 : Int) ≤ r8 + x9 + 1 := by omega
theorem bt_c2 {ρ : Env} {x7 x8 x9 r8 : Int} {t : DT} (h21 : Is ρ bt21 (100 * x7 + 10 * x8 + 1)) (h23 : Is ρ bt23 (x9 + 1)) (h26 : Is ρ bt26 (r8 + x9 + 1)) (b_x7 : 0 ≤ x7 ∧ x7 ≤ 255) (b_x8 : 0 ≤ x8 ∧ x8 ≤ 255) (b_x9 : 0 ≤ x9 ∧ x9 ≤ 255) (b_r8 : 0 ≤ r8 ∧ r8 ≤ 19) (ht : t.goal ρ) : (btC2 t).goal ρ := by
  unfold btC2
  refine aT (Pleq h21 (Zc 100000000) (bt_t27 b_x7 b_x8)) ?_
  refine aT (Pleq (Zc 1) h23 (bt_t28 b_x9)) ?_
  refine aT (Pleq h23 h26 (bt_t29 b_x9 b_r8)) ?_
  exact ht
theorem bt_t30 {r8 x9 : Int} (b_r8 : 0 ≤ r8 ∧ r8 ≤ 19) (b_x9 : 0 ≤ x9 ∧ x9 ≤ 255) : (r8 + x9 + 1 : Int) ≤ 100000 := by omega
theorem bt_t31 {x11 : Int} (b_x11 : 0 ≤ x11 ∧ x11 ≤ 255) : (1 : Int) ≤ 100 * x11 + 1 := by omega
theorem bt_t32 {x11 x12 : Int} (b_x11 : 0 ≤ x11 ∧ x11 ≤ 255) (b_x12 : 0 ≤ x12 ∧ x12 ≤ 255) : (100 * x11 + 1 : Int) ≤ 100 * x11 + 10 * x12 + 1 := by omega
theorem bt_t33 {x11 x12 : Int} (b_x11 : 0 ≤ x11 ∧ x11 ≤ 255) (b_x12 : 0 ≤ x12 ∧ x12 ≤ 255) : (100 * x11 + 10 * x12 + 1 : Int) ≤ 100000000 := by omega
theorem bt_t34 {x14 : Int} (b_x14 : 0 ≤ x14 ∧ x14 ≤ 65535) : (0 : Int) ≤ 500 * x14 := by omega
theorem bt_c3 {ρ : Env} {r8 x9 x11 x12 x14 : Int} {t : DT} (h26 : Is ρ bt26 (r8 + x9 + 1)) (h29 : Is ρ bt29 (100 * x11 + 1)) (h32 : Is ρ bt32 (100 * x11 + 10 * x12 + 1)) (h34 : Is ρ bt34 (500 * x14)) (b_r8 : 0 ≤ r8 ∧ r8 ≤ 19) (b_x9 : 0 ≤ x9 ∧ x9 ≤ 255) (b_x11 : 0 ≤ x11 ∧ x11 ≤ 255) (b_x12 : 0 ≤ x12 ∧ x12 ≤ 255) (b_x14 : 0 ≤ x14 ∧ x14 ≤ 65535) (ht : t.goal ρ) : (btC3 t).goal ρ := by
  unfold btC3
  refine aT (Pleq h26 (Zc 100000) (bt_t30 b_r8 b_x9)) ?_
  refine aT (Pleq (Zc 1) h29 (bt_t31 b_x11)) ?_
  refine aT (Pleq h29 h32 (bt_t32 b_x11 b_x12)) ?_
  refine aT (Pleq h32 (Zc 100000000) (bt_t33 b_x11 b_x12)) ?_
  refine aT (Pleq (Zc 0) h34 (bt_t34 b_x14)) ?_
  exact ht
theorem bt_t35 {x14 x15 : Int} (b_x14 : 0 ≤ x14 ∧ x14 ≤ 65535) (b_x15 : 0 ≤ x15 ∧ x15 ≤ 65535) : (500 * x14 : Int) ≤ 500 * x14 + x15 := by omega
theorem bt_t36 {x14 x15 : Int} (b_x14 : 0 ≤ x14 ∧ x14 ≤ 65535) (b_x15 : 0 ≤ x15 ∧ x15 ≤ 65535) : (500 * x14 + x15 : Int) ≤ 10000000000000 := by omega
theorem bt_t37 {w11 w14 x0 : Int} (b_w11 : 0 ≤ w11 ∧ w11 ≤ 1601400) (b_w14 : 0 ≤ w14 ∧ w14 ≤ 2402100) (b_x0 : 0 ≤ x0 ∧ x0 ≤ 255) : ¬ ((w11 + w14 + 10000 * x0 + 1000 : Int) = 0) := by omega
theorem bt_t38 {w15 w16 x0 : Int} (b_w15 : 0 ≤ w15 ∧ w15 ≤ 1300500) (b_w16 : 0 ≤ w16 ∧ w16 ≤ 1950750) (b_x0 : 0 ≤ x0 ∧ x0 ≤ 255) : ¬ ((w15 + w16 + 10000 * x0 + 1000 : Int) = 0) := by omega
theorem bt_t39 {w22 w28 x0 : Int} (b_w22 : 0 ≤ w22 ∧ w22 ≤ 1601400) (b_w28 : 0 ≤ w28 ∧ w28 ≤ 2402100) (b_x0 : 0 ≤ x0 ∧ x0 ≤ 255) : ¬ ((w22 + w28 + 10000 * x0 + 1000 : Int) = 0) := by omega
theorem bt_t40 {x26 : Int} (b_x26 : 0 ≤ x26 ∧ x26 ≤ 255) : (0 : Int) ≤ x26 := by omega
theorem bt_t41 {x26 x27 : Int} (b_x26 : 0 ≤ x26 ∧ x26 ≤ 255) (b_x27 : 0 ≤ x27 ∧ x27 ≤ 255) : (x26 : Int) ≤ x26 + x27 := by omega
theorem bt_c4 {ρ : Env} {w15 w16 x0 w22 w28 x26 x27 : Int} {t : DT} (h45 : Is ρ bt45 (w15 + w16 + 10000 * x0 + 1000)) (h59 : Is ρ bt59 (w22 + w28 + 10000 * x0 + 1000)) (h60 : Is ρ bt60 (x26)) (h62 : Is ρ bt62 (x26 + x27)) (b_w15 : 0 ≤ w15 ∧ w15 ≤ 1300500) (b_w16 : 0 ≤ w16 ∧ w16 ≤ 1950750) (b_x0 : 0 ≤ x0 ∧ x0 ≤ 255) (b_w22 : 0 ≤ w22 ∧ w22 ≤ 1601400) (b_w28 : 0 ≤ w28 ∧ w28 ≤ 2402100) (b_x26 : 0 ≤ x26 ∧ x26 ≤ 255) (b_x27 : 0 ≤ x27 ∧ x27 ≤ 255) (ht : t.goal ρ) : (btC4 t).goal ρ := by
  unfold btC4
  refine aF (Neql h45 (Zc 0) (bt_t38 b_w15 b_w16 b_x0)) ?_
  refine aF (Neql h59 (Zc 0) (bt_t39 b_w22 b_w28 b_x0)) ?_
  refine aT (Pleq (Zc 0) h60 (bt_t40 b_x26)) ?_
  refine aT (Pleq h60 h62 (bt_t41 b_x26 b_x27)) ?_
  exact ht
theorem bt_t42 {x26 x27 : Int} (b_x26 : 0 ≤ x26 ∧ x26 ≤ 255) (b_x27 : 0 ≤ x27 ∧ x27 ≤ 255) : (x26 + x27 : Int) ≤ 100000000 := by omega
theorem bt_t43 {q31 : Int} (b_q31 : 0 ≤ q31 ∧ q31 ≤ 32767500) : (q31 : Int) = q31 := by omega
theorem bt_t44 {q43 : Int} (b_q43 : 0 ≤ q43 ∧ q43 ≤ 32833035) : (q43 : Int) = q43 := by omega
theorem bt_d12 {q39 q54 x11 w41 q43 w37 w42 w38 q35 x14 w22 w28 x0 x15 w15 w16 m10 m21 m13 m27 x1 q19 x2 q25 : Int} (b_q54 : 0 ≤ q54 ∧ q54 ≤ 2550) (b_w41 : 0 ≤ w41 ∧ w41 ≤ 32833035000) (k13 : (q43 : Int) ≤ 100 * x11 + 1) (rf5 : w37 ≤ w41 → w42 ≤ w38 → 0 ≤ w41 → q39 ≤ q43) (w37s : 1000 * q35 + 500000 * x14 = w37) (w38s : w22 + w28 + 10000 * x0 + 1000 = w38) (w41s : 500000 * x14 + 1000 * x15 = w41) (w42s : w15 + w16 + 10000 * x0 + 1000 = w42) (rf3 : 0 ≤ (-1) * q35 + x15) (w22s : 20 * m10 + 20 * m21 = w22) (w28s : 30 * m13 + 30 * m27 = w28) (w15s : 20 * m10 = w15) (w16s : 30 * m13 = w16) (m21f1 : (0) * x1 + (0) * q19 - (0) ≤ m21) (m27f1 : (0) * x2 + (0) * q25 - (0) ≤ m27) : (q39 : Int) ≤ q54 + 100 * x11 + 1 := by omega
theorem bt_d13 {q31 x11 x12 q35 w37 q43 w29 w38 w30 q39 w41 w42 x14 w11 w14 x0 w22 w28 x15 w15 w16 m10 m9 m12 m13 m21 m27 x1 q19 x2 q25 : Int} (b_q35 : 0 ≤ q35 ∧ q35 ≤ 65535) (b_w37 : 0 ≤ w37 ∧ w37 ≤ 32833035000) (b_x12 : 0 ≤ x12 ∧ x12 ≤ 255) (k13 : (q43 : Int) ≤ 100 * x11 + 1) (rf4 : w29 ≤ w37 → w38 ≤ w30 → 0 ≤ w37 → q31 ≤ q39) (rf5 : w37 ≤ w41 → w42 ≤ w38 → 0 ≤ w41 → q39 ≤ q43) (w29s : 500000 * x14 = w29) (w30s : w11 + w14 + 10000 * x0 + 1000 = w30) (w37s : 1000 * q35 + 500000 * x14 = w37) (w38s : w22 + w28 + 10000 * x0 + 1000 = w38) (w41s : 500000 * x14 + 1000 * x15 = w41) (w42s : w15 + w16 + 10000 * x0 + 1000 = w42) (w11s : 20 * m10 + 20 * m9 = w11) (w14s : 30 * m12 + 30 * m13 = w14) (rf3 : 0 ≤ (-1) * q35 + x15) (w22s : 20 * m10 + 20 * m21 = w22) (w28s : 30 * m13 + 30 * m27 = w28) (w15s : 20 * m10 = w15) (w16s : 30 * m13 = w16) (rf1_0 : 0 ≤ (-1) * m21 + m9) (rf2_0 : 0 ≤ m12 + (-1) * m27) (m21f1 : (0) * x1 + (0) * q19 - (0) ≤ m21) (m27f1 : (0) * x2 + (0) * q25 - (0) ≤ m27) : (q31 : Int) ≤ 100 * x11 + 10 * x12 + 1 := by omega
theorem bt_d14 {q39 q54 x11 q35 w37 q31 x12 w29 w38 w30 x14 w22 w28 x0 w11 w14 m10 m21 m13 m27 m9 m12 : Int} (b_q35 : 0 ≤ q35 ∧ q35 ≤ 65535) (b_w37 : 0 ≤ w37 ∧ w37 ≤ 32833035000) (k14 : ¬ ((q31 : Int) ≤ 100 * x11 + 10 * x12 + 1)) (rf4 : w29 ≤ w37 → w38 ≤ w30 → 0 ≤ w37 → q31 ≤ q39) (rf10 : 0 ≤ (-1) * q54 + 10 * x12) (w37s : 1000 * q35 + 500000 * x14 = w37) (w38s : w22 + w28 + 10000 * x0 + 1000 = w38) (w29s : 500000 * x14 = w29) (w30s : w11 + w14 + 10000 * x0 + 1000 = w30) (w22s : 20 * m10 + 20 * m21 = w22) (w28s : 30 * m13 + 30 * m27 = w28) (w11s : 20 * m10 + 20 * m9 = w11) (w14s : 30 * m12 + 30 * m13 = w14) (rf1_0 : 0 ≤ (-1) * m21 + m9) (rf2_0 : 0 ≤ m12 + (-1) * m27) : ¬ ((q39 : Int) ≤ q54 + 100 * x11 + 1) := by omega
theorem bt_t48 {r57 : Int} (b_r57 : 0 ≤ r57 ∧ r57 ≤ 999) : (0 : Int) ≤ r57 := by omega
theorem bt_t49 {r57 r59 : Int} (b_r57 : 0 ≤ r57 ∧ r57 ≤ 999) (b_r59 : 0 ≤ r59 ∧ r59 ≤ 49) : (r57 : Int) ≤ r57 + r59 := by omega
theorem bt_t50 {r57 r59 : Int} (b_r57 : 0 ≤ r57 ∧ r57 ≤ 999) (b_r59 : 0 ≤ r59 ∧ r59 ≤ 49) : (r57 + r59 : Int) ≤ 100000 := by omega
theorem bt_t51 {q31 q62 : Int} (b_q31 : 0 ≤ q31 ∧ q31 ≤ 32767500) (b_q62 : 0 ≤ q62 ∧ q62 ≤ 25475) : (q31 + q62 : Int) = q31 + q62 := by omega
theorem bt_t52 {q43 q82 : Int} (b_q43 : 0 ≤ q43 ∧ q43 ≤ 32833035) (b_q82 : 0 ≤ q82 ∧ q82 ≤ 29397) : (q43 + q82 : Int) = q43 + q82 := by omega
theorem bt_d15 {q39 q76 q54 x11 r77 r83 w41 q43 q82 w37 w42 w38 w75 w81 q35 x14 w22 w28 x0 x15 w15 w16 m60 m72 m73 m74 q70 r57 m78 m79 m80 r59 m10 m21 m13 m27 m110 x1 q19 x2 q25 : Int} (b_q54 : 0 ≤ q54 ∧ q54 ≤ 2550) (b_r77 : 0 ≤ r77 ∧ r77 ≤ 999) (b_r83 : 0 ≤ r83 ∧ r83 ≤ 999) (b_w41 : 0 ≤ w41 ∧ w41 ≤ 32833035000) (k17 : (q43 + q82 : Int) ≤ 100 * x11 + 1) (rf5 : w37 ≤ w41 → w42 ≤ w38 → 0 ≤ w41 → q39 ≤ q43) (q76s : w75 = 1000 * q76 + r77) (q82s : w81 = 1000 * q82 + r83) (w37s : 1000 * q35 + 500000 * x14 = w37) (w38s : w22 + w28 + 10000 * x0 + 1000 = w38) (w41s : 500000 * x14 + 1000 * x15 = w41) (w42s : w15 + w16 + 10000 * x0 + 1000 = w42) (w75s : 100 * m60 + m72 + m73 + 100 * m74 + q70 + r57 = w75) (w81s : 100 * m60 + 100 * m78 + 10 * m79 + 10 * m80 + r57 + r59 = w81) (rf3 : 0 ≤ (-1) * q35 + x15) (w22s : 20 * m10 + 20 * m21 = w22) (w28s : 30 * m13 + 30 * m27 = w28) (w15s : 20 * m10 = w15) (w16s : 30 * m13 = w16) (rf6_1 : 0 ≤ 10 * m110 + (-1) * m72) (rf6_0 : 0 ≤ (-1) * m73 + 10 * m79) (rf7_1 : 0 ≤ (-1) * m74 + m78) (rf7 : 0 ≤ (-1) * q70 + r59) (rf7_0 : 0 ≤ (-1) * m110 + m80) (m21f1 : (0) * x1 + (0) * q19 - (0) ≤ m21) (m27f1 : (0) * x2 + (0) * q25 - (0) ≤ m27) : (q39 + q76 : Int) ≤ q54 + 100 * x11 + 1 := by omega
theorem bt_d16 {q31 q62 x11 x12 q35 r59 r63 r83 w37 q43 q82 w29 w38 w30 q39 w61 w41 w42 w81 x14 w11 w14 x0 w22 w28 m60 r57 x15 w15 w16 m78 m79 m80 m10 m9 m12 m13 m21 m27 x7 x8 x1 q19 x2 q25 : Int} (b_q35 : 0 ≤ q35 ∧ q35 ≤ 65535) (b_r59 : 0 ≤ r59 ∧ r59 ≤ 49) (b_r63 : 0 ≤ r63 ∧ r63 ≤ 999) (b_r83 : 0 ≤ r83 ∧ r83 ≤ 999) (b_w37 : 0 ≤ w37 ∧ w37 ≤ 32833035000) (b_x12 : 0 ≤ x12 ∧ x12 ≤ 255) (k17 : (q43 + q82 : Int) ≤ 100 * x11 + 1) (rf4 : w29 ≤ w37 → w38 ≤ w30 → 0 ≤ w37 → q31 ≤ q39) (q62s : w61 = 1000 * q62 + r63) (rf5 : w37 ≤ w41 → w42 ≤ w38 → 0 ≤ w41 → q39 ≤ q43) (q82s : w81 = 1000 * q82 + r83) (w29s : 500000 * x14 = w29) (w30s : w11 + w14 + 10000 * x0 + 1000 = w30) (w37s : 1000 * q35 + 500000 * x14 = w37) (w38s : w22 + w28 + 10000 * x0 + 1000 = w38) (w61s : 100 * m60 + r57 = w61) (w41s : 500000 * x14 + 1000 * x15 = w41) (w42s : w15 + w16 + 10000 * x0 + 1000 = w42) (w81s : 100 * m60 + 100 * m78 + 10 * m79 + 10 * m80 + r57 + r59 = w81) (w11s : 20 * m10 + 20 * m9 = w11) (w14s : 30 * m12 + 30 * m13 = w14) (rf3 : 0 ≤ (-1) * q35 + x15) (w22s : 20 * m10 + 20 * m21 = w22) (w28s : 30 * m13 + 30 * m27 = w28) (w15s : 20 * m10 = w15) (w16s : 30 * m13 = w16) (m78f1 : (0) * x7 + (0) * r59 - (0) ≤ m78) (m79f1 : (0) * x8 + (0) * r57 - (0) ≤ m79) (m80f1 : (0) * x8 + (0) * r59 - (0) ≤ m80) (rf1_0 : 0 ≤ (-1) * m21 + m9) (rf2_0 : 0 ≤ m12 + (-1) * m27) (m21f1 : (0) * x1 + (0) * q19 - (0) ≤ m21) (m27f1 : (0) * x2 + (0) * q25 - (0) ≤ m27) : (q31 + q62 : Int) ≤ 100 * x11 + 10 * x12 + 1 := by omega
theorem bt_d17 {q39 q76 q54 x11 q35 q70 r63 r77 w37 q31 q62 x12 w29 w38 w30 w75 w61 x14 w22 w28 x0 w11 w14 m60 m72 m73 m74 r57 m10 m21 m13 m27 m9 m12 q66 x7 : Int} (b_q35 : 0 ≤ q35 ∧ q35 ≤ 65535) (b_q70 : 0 ≤ q70 ∧ q70 ≤ 49) (b_r63 : 0 ≤ r63 ∧ r63 ≤ 999) (b_r77 : 0 ≤ r77 ∧ r77 ≤ 999) (b_w37 : 0 ≤ w37 ∧ w37 ≤ 32833035000) (k18 : ¬ ((q31 + q62 : Int) ≤ 100 * x11 + 10 * x12 + 1)) (rf4 : w29 ≤ w37 → w38 ≤ w30 → 0 ≤ w37 → q31 ≤ q39) (q76s : w75 = 1000 * q76 + r77) (rf10 : 0 ≤ (-1) * q54 + 10 * x12) (q62s : w61 = 1000 * q62 + r63) (w37s : 1000 * q35 + 500000 * x14 = w37) (w38s : w22 + w28 + 10000 * x0 + 1000 = w38) (w29s : 500000 * x14 = w29) (w30s : w11 + w14 + 10000 * x0 + 1000 = w30) (w75s : 100 * m60 + m72 + m73 + 100 * m74 + q70 + r57 = w75) (w61s : 100 * m60 + r57 = w61) (w22s : 20 * m10 + 20 * m21 = w22) (w28s : 30 * m13 + 30 * m27 = w28) (w11s : 20 * m10 + 20 * m9 = w11) (w14s : 30 * m12 + 30 * m13 = w14) (m72f1 : (0) * q70 + (0) * q66 - (0) ≤ m72) (m73f1 : (0) * r57 + (0) * q66 - (0) ≤ m73) (m74f1 : (0) * x7 + (0) * q70 - (0) ≤ m74) (rf1_0 : 0 ≤ (-1) * m21 + m9) (rf2_0 : 0 ≤ m12 + (-1) * m27) : ¬ ((q39 + q76 : Int) ≤ q54 + 100 * x11 + 1) := by omega
theorem bt_t56 {r88 : Int} (b_r88 : 0 ≤ r88 ∧ r88 ≤ 499) : (0 : Int) ≤ r88 := by omega
theorem bt_t57 {r88 r59 : Int} (b_r88 : 0 ≤ r88 ∧ r88 ≤ 499) (b_r59 : 0 ≤ r59 ∧ r59 ≤ 49) : (r88 : Int) ≤ r59 + r88 := by omega
theorem bt_t58 {r59 r88 : Int} (b_r59 : 0 ≤ r59 ∧ r59 ≤ 49) (b_r88 : 0 ≤ r88 ∧ r88 ≤ 499) : (r59 + r88 : Int) ≤ 100000 := by omega
theorem bt_t59 {w90 : Int} (b_w90 : 0 ≤ w90 ∧ w90 ≤ 127744) : (w90 : Int) = w90 := by omega
theorem bt_t60 {w106 : Int} (b_w106 : 0 ≤ w106 ∧ w106 ≤ 150700) : (w106 : Int) = w106 := by omega
theorem bt_d18 {w102 q54 x11 w106 m100 m101 m89 m99 q97 r88 m103 m104 m105 r59 m111 : Int} (b_q54 : 0 ≤ q54 ∧ q54 ≤ 2550) (k18 : (w106 : Int) ≤ 100 * x11 + 1) (w102s : m100 + m101 + m89 + m99 + q97 + r88 = w102) (w106s : m103 + m104 + m105 + m89 + r59 + r88 = w106) (rf8_1 : 0 ≤ (-1) * m100 + m104) (rf9_1 : 0 ≤ (-1) * m101 + m105) (rf8_0 : 0 ≤ m111 + (-1) * m99) (rf9 : 0 ≤ (-1) * q97 + r59) (rf9_0 : 0 ≤ m103 + (-1) * m111) : (w102 : Int) ≤ q54 + 100 * x11 + 1 := by omega
theorem bt_d19 {w90 x11 x12 r59 w106 m89 r88 m103 m104 m105 r8 x9 : Int} (b_r59 : 0 ≤ r59 ∧ r59 ≤ 49) (b_x12 : 0 ≤ x12 ∧ x12 ≤ 255) (k18 : (w106 : Int) ≤ 100 * x11 + 1) (w90s : m89 + r88 = w90) (w106s : m103 + m104 + m105 + m89 + r59 + r88 = w106) (m103f1 : (0) * r8 + (0) * r59 - (0) ≤ m103) (m104f1 : (0) * r88 + (0) * r8 - (0) ≤ m104) (m105f1 : (0) * x9 + (0) * r59 - (0) ≤ m105) : (w90 : Int) ≤ 100 * x11 + 10 * x12 + 1 := by omega
theorem bt_d20 {w102 q54 x11 q97 w90 x12 m100 m101 m89 m99 r88 q93 x9 : Int} (b_q97 : 0 ≤ q97 ∧ q97 ≤ 49) (k19 : ¬ ((w90 : Int) ≤ 100 * x11 + 10 * x12 + 1)) (w102s : m100 + m101 + m89 + m99 + q97 + r88 = w102) (rf10 : 0 ≤ (-1) * q54 + 10 * x12) (w90s : m89 + r88 = w90) (m100f1 : (0) * r88 + (0) * q93 - (0) ≤ m100) (m101f1 : (0) * x9 + (0) * q97 - (0) ≤ m101) (m99f1 : (0) * q97 + (0) * q93 - (0) ≤ m99) : ¬ ((w102 : Int) ≤ q54 + 100 * x11 + 1) := by omega
end Go.Proofs.Ytknphpihipkdpaa.Cx
