/- BoltLearned. Made by tools/gen_blaw.py. -/
import Derived.Test.YtknphpihipkdpaaBLdT
import Derived.Test.YtknphpihipkdpaaCxGcd
import Derived.Test.YtknphpihipkdpaaBLdE
set_option linter.unusedSimpArgs false
set_option linter.unusedVariables false
set_option maxRecDepth 100000
set_option maxHeartbeats 4000000
namespace Go.Proofs.Ytknphpihipkdpaa.Cx
open Go Go.RowKit

theorem bd_aq1 {x13 : Int} (b_x13 : 0 ≤ x13 ∧ x13 ≤ 255) : ∃ q r : Int, Hd ((x13) / 3 = q) ∧ Hd ((x13) % 3 = r) ∧ (x13 = 3 * q + r) ∧ (0 ≤ q ∧ q ≤ 85) ∧ (0 ≤ r ∧ r ≤ 2) := ⟨_, _, ⟨rfl⟩, ⟨rfl⟩, by omega, by omega, by omega⟩
theorem bd_aq3 {x4 : Int} (b_x4 : 0 ≤ x4 ∧ x4 ≤ 255) : ∃ q r : Int, Hd ((x4) / 60 = q) ∧ Hd ((x4) % 60 = r) ∧ (x4 = 60 * q + r) ∧ (0 ≤ q ∧ q ≤ 4) ∧ (0 ≤ r ∧ r ≤ 59) := ⟨_, _, ⟨rfl⟩, ⟨rfl⟩, by omega, by omega, by omega⟩
theorem bd_am5 {r4 x18 : Int} (b_r4 : 0 ≤ r4 ∧ r4 ≤ 59) (b_x18 : 0 ≤ x18 ∧ x18 ≤ 255) : ∃ m : Int, Hd (r4 * x18 = m) ∧ ((0) * x18 + (0) * r4 - (0) ≤ m) ∧ ((59) * x18 + (255) * r4 - (15045) ≤ m) ∧ (m ≤ (59) * x18 + (0) * r4 - (0)) ∧ (m ≤ (0) * x18 + (255) * r4 - (0)) ∧ (0 ≤ m ∧ m ≤ 15045) := by
  obtain ⟨h1, h2, h3, h4⟩ := mcc (x := r4) (y := x18) b_r4.1 b_r4.2 b_x18.1 b_x18.2
  refine ⟨_, ⟨rfl⟩, ?_, ?_, ?_, ?_, ?_, ?_⟩ <;> omega
theorem bd_aw6 {m5 : Int} (b_m5 : 0 ≤ m5 ∧ m5 ≤ 15045) : ∃ w : Int, (m5 = w) ∧ (0 ≤ w ∧ w ≤ 15045) := ⟨_, rfl, by omega, by omega⟩
theorem bd_aq7 {w6 : Int} (b_w6 : 0 ≤ w6 ∧ w6 ≤ 15045) : ∃ q r : Int, Hd ((w6) / 255 = q) ∧ Hd ((w6) % 255 = r) ∧ (w6 = 255 * q + r) ∧ (0 ≤ q ∧ q ≤ 59) ∧ (0 ≤ r ∧ r ≤ 254) := ⟨_, _, ⟨rfl⟩, ⟨rfl⟩, by omega, by omega, by omega⟩
theorem bd_aq9 {x6 : Int} (b_x6 : 0 ≤ x6 ∧ x6 ≤ 255) : ∃ q r : Int, Hd ((x6) / 60 = q) ∧ Hd ((x6) % 60 = r) ∧ (x6 = 60 * q + r) ∧ (0 ≤ q ∧ q ≤ 4) ∧ (0 ≤ r ∧ r ≤ 59) := ⟨_, _, ⟨rfl⟩, ⟨rfl⟩, by omega, by omega, by omega⟩
theorem bd_am11 {r10 x19 : Int} (b_r10 : 0 ≤ r10 ∧ r10 ≤ 59) (b_x19 : 0 ≤ x19 ∧ x19 ≤ 255) : ∃ m : Int, Hd (r10 * x19 = m) ∧ ((0) * x19 + (0) * r10 - (0) ≤ m) ∧ ((59) * x19 + (255) * r10 - (15045) ≤ m) ∧ (m ≤ (59) * x19 + (0) * r10 - (0)) ∧ (m ≤ (0) * x19 + (255) * r10 - (0)) ∧ (0 ≤ m ∧ m ≤ 15045) := by
  obtain ⟨h1, h2, h3, h4⟩ := mcc (x := r10) (y := x19) b_r10.1 b_r10.2 b_x19.1 b_x19.2
  refine ⟨_, ⟨rfl⟩, ?_, ?_, ?_, ?_, ?_, ?_⟩ <;> omega
theorem bd_aw12 {m11 : Int} (b_m11 : 0 ≤ m11 ∧ m11 ≤ 15045) : ∃ w : Int, (m11 = w) ∧ (0 ≤ w ∧ w ≤ 15045) := ⟨_, rfl, by omega, by omega⟩
theorem bd_aq13 {w12 : Int} (b_w12 : 0 ≤ w12 ∧ w12 ≤ 15045) : ∃ q r : Int, Hd ((w12) / 255 = q) ∧ Hd ((w12) % 255 = r) ∧ (w12 = 255 * q + r) ∧ (0 ≤ q ∧ q ≤ 59) ∧ (0 ≤ r ∧ r ≤ 254) := ⟨_, _, ⟨rfl⟩, ⟨rfl⟩, by omega, by omega, by omega⟩
theorem bd_am15 {q7 x1 : Int} (b_q7 : 0 ≤ q7 ∧ q7 ≤ 59) (b_x1 : 0 ≤ x1 ∧ x1 ≤ 255) : ∃ m : Int, Hd (q7 * x1 = m) ∧ ((0) * x1 + (0) * q7 - (0) ≤ m) ∧ ((59) * x1 + (255) * q7 - (15045) ≤ m) ∧ (m ≤ (59) * x1 + (0) * q7 - (0)) ∧ (m ≤ (0) * x1 + (255) * q7 - (0)) ∧ (0 ≤ m ∧ m ≤ 15045) := by
  obtain ⟨h1, h2, h3, h4⟩ := mcc (x := q7) (y := x1) b_q7.1 b_q7.2 b_x1.1 b_x1.2
  refine ⟨_, ⟨rfl⟩, ?_, ?_, ?_, ?_, ?_, ?_⟩ <;> omega
theorem bd_am16 {x1 x3 : Int} (b_x1 : 0 ≤ x1 ∧ x1 ≤ 255) (b_x3 : 0 ≤ x3 ∧ x3 ≤ 255) : ∃ m : Int, Hd (x1 * x3 = m) ∧ ((0) * x3 + (0) * x1 - (0) ≤ m) ∧ ((255) * x3 + (255) * x1 - (65025) ≤ m) ∧ (m ≤ (255) * x3 + (0) * x1 - (0)) ∧ (m ≤ (0) * x3 + (255) * x1 - (0)) ∧ (0 ≤ m ∧ m ≤ 65025) := by
  obtain ⟨h1, h2, h3, h4⟩ := mcc (x := x1) (y := x3) b_x1.1 b_x1.2 b_x3.1 b_x3.2
  refine ⟨_, ⟨rfl⟩, ?_, ?_, ?_, ?_, ?_, ?_⟩ <;> omega
theorem bd_aw17 {m15 m16 : Int} (b_m15 : 0 ≤ m15 ∧ m15 ≤ 15045) (b_m16 : 0 ≤ m16 ∧ m16 ≤ 65025) : ∃ w : Int, (20 * m15 + 20 * m16 = w) ∧ (0 ≤ w ∧ w ≤ 1601400) := ⟨_, rfl, by omega, by omega⟩
theorem bd_am18 {q13 x2 : Int} (b_q13 : 0 ≤ q13 ∧ q13 ≤ 59) (b_x2 : 0 ≤ x2 ∧ x2 ≤ 255) : ∃ m : Int, Hd (q13 * x2 = m) ∧ ((0) * x2 + (0) * q13 - (0) ≤ m) ∧ ((59) * x2 + (255) * q13 - (15045) ≤ m) ∧ (m ≤ (59) * x2 + (0) * q13 - (0)) ∧ (m ≤ (0) * x2 + (255) * q13 - (0)) ∧ (0 ≤ m ∧ m ≤ 15045) := by
  obtain ⟨h1, h2, h3, h4⟩ := mcc (x := q13) (y := x2) b_q13.1 b_q13.2 b_x2.1 b_x2.2
  refine ⟨_, ⟨rfl⟩, ?_, ?_, ?_, ?_, ?_, ?_⟩ <;> omega
theorem bd_am19 {x2 x5 : Int} (b_x2 : 0 ≤ x2 ∧ x2 ≤ 255) (b_x5 : 0 ≤ x5 ∧ x5 ≤ 255) : ∃ m : Int, Hd (x2 * x5 = m) ∧ ((0) * x5 + (0) * x2 - (0) ≤ m) ∧ ((255) * x5 + (255) * x2 - (65025) ≤ m) ∧ (m ≤ (255) * x5 + (0) * x2 - (0)) ∧ (m ≤ (0) * x5 + (255) * x2 - (0)) ∧ (0 ≤ m ∧ m ≤ 65025) := by
  obtain ⟨h1, h2, h3, h4⟩ := mcc (x := x2) (y := x5) b_x2.1 b_x2.2 b_x5.1 b_x5.2
  refine ⟨_, ⟨rfl⟩, ?_, ?_, ?_, ?_, ?_, ?_⟩ <;> omega
theorem bd_aw20 {m18 m19 : Int} (b_m18 : 0 ≤ m18 ∧ m18 ≤ 15045) (b_m19 : 0 ≤ m19 ∧ m19 ≤ 65025) : ∃ w : Int, (30 * m18 + 30 * m19 = w) ∧ (0 ≤ w ∧ w ≤ 2402100) := ⟨_, rfl, by omega, by omega⟩
theorem bd_aq21 {x10 : Int} (b_x10 : 0 ≤ x10 ∧ x10 ≤ 255) : ∃ q r : Int, Hd ((x10) / 20 = q) ∧ Hd ((x10) % 20 = r) ∧ (x10 = 20 * q + r) ∧ (0 ≤ q ∧ q ≤ 12) ∧ (0 ≤ r ∧ r ≤ 19) := ⟨_, _, ⟨rfl⟩, ⟨rfl⟩, by omega, by omega, by omega⟩
theorem bd_am23 {r4 x1 : Int} (b_r4 : 0 ≤ r4 ∧ r4 ≤ 59) (b_x1 : 0 ≤ x1 ∧ x1 ≤ 255) : ∃ m : Int, Hd (r4 * x1 = m) ∧ ((0) * x1 + (0) * r4 - (0) ≤ m) ∧ ((59) * x1 + (255) * r4 - (15045) ≤ m) ∧ (m ≤ (59) * x1 + (0) * r4 - (0)) ∧ (m ≤ (0) * x1 + (255) * r4 - (0)) ∧ (0 ≤ m ∧ m ≤ 15045) := by
  obtain ⟨h1, h2, h3, h4⟩ := mcc (x := r4) (y := x1) b_r4.1 b_r4.2 b_x1.1 b_x1.2
  refine ⟨_, ⟨rfl⟩, ?_, ?_, ?_, ?_, ?_, ?_⟩ <;> omega
theorem bd_aw24 {m16 m23 : Int} (b_m16 : 0 ≤ m16 ∧ m16 ≤ 65025) (b_m23 : 0 ≤ m23 ∧ m23 ≤ 15045) : ∃ w : Int, (20 * m16 + 20 * m23 = w) ∧ (0 ≤ w ∧ w ≤ 1601400) := ⟨_, rfl, by omega, by omega⟩
theorem bd_am25 {r10 x2 : Int} (b_r10 : 0 ≤ r10 ∧ r10 ≤ 59) (b_x2 : 0 ≤ x2 ∧ x2 ≤ 255) : ∃ m : Int, Hd (r10 * x2 = m) ∧ ((0) * x2 + (0) * r10 - (0) ≤ m) ∧ ((59) * x2 + (255) * r10 - (15045) ≤ m) ∧ (m ≤ (59) * x2 + (0) * r10 - (0)) ∧ (m ≤ (0) * x2 + (255) * r10 - (0)) ∧ (0 ≤ m ∧ m ≤ 15045) := by
  obtain ⟨h1, h2, h3, h4⟩ := mcc (x := r10) (y := x2) b_r10.1 b_r10.2 b_x2.1 b_x2.2
  refine ⟨_, ⟨rfl⟩, ?_, ?_, ?_, ?_, ?_, ?_⟩ <;> omega
theorem bd_aw26 {m19 m25 : Int} (b_m19 : 0 ≤ m19 ∧ m19 ≤ 65025) (b_m25 : 0 ≤ m25 ∧ m25 ≤ 15045) : ∃ w : Int, (30 * m19 + 30 * m25 = w) ∧ (0 ≤ w ∧ w ≤ 2402100) := ⟨_, rfl, by omega, by omega⟩
theorem bd_aw27 {m16 : Int} (b_m16 : 0 ≤ m16 ∧ m16 ≤ 65025) : ∃ w : Int, (20 * m16 = w) ∧ (0 ≤ w ∧ w ≤ 1300500) := ⟨_, rfl, by omega, by omega⟩
theorem bd_aw28 {m19 : Int} (b_m19 : 0 ≤ m19 ∧ m19 ≤ 65025) : ∃ w : Int, (30 * m19 = w) ∧ (0 ≤ w ∧ w ≤ 1950750) := ⟨_, rfl, by omega, by omega⟩
theorem bd_am29 {x1 x29 : Int} (b_x1 : 0 ≤ x1 ∧ x1 ≤ 255) (b_x29 : 0 ≤ x29 ∧ x29 ≤ 1000) : ∃ m : Int, Hd (x1 * x29 = m) ∧ ((0) * x29 + (0) * x1 - (0) ≤ m) ∧ ((255) * x29 + (1000) * x1 - (255000) ≤ m) ∧ (m ≤ (255) * x29 + (0) * x1 - (0)) ∧ (m ≤ (0) * x29 + (1000) * x1 - (0)) ∧ (0 ≤ m ∧ m ≤ 255000) := by
  obtain ⟨h1, h2, h3, h4⟩ := mcc (x := x1) (y := x29) b_x1.1 b_x1.2 b_x29.1 b_x29.2
  refine ⟨_, ⟨rfl⟩, ?_, ?_, ?_, ?_, ?_, ?_⟩ <;> omega
theorem bd_aw30 {m29 : Int} (b_m29 : 0 ≤ m29 ∧ m29 ≤ 255000) : ∃ w : Int, (20 * m29 = w) ∧ (0 ≤ w ∧ w ≤ 5100000) := ⟨_, rfl, by omega, by omega⟩
theorem bd_am31 {x2 x31 : Int} (b_x2 : 0 ≤ x2 ∧ x2 ≤ 255) (b_x31 : 0 ≤ x31 ∧ x31 ≤ 1000) : ∃ m : Int, Hd (x2 * x31 = m) ∧ ((0) * x31 + (0) * x2 - (0) ≤ m) ∧ ((255) * x31 + (1000) * x2 - (255000) ≤ m) ∧ (m ≤ (255) * x31 + (0) * x2 - (0)) ∧ (m ≤ (0) * x31 + (1000) * x2 - (0)) ∧ (0 ≤ m ∧ m ≤ 255000) := by
  obtain ⟨h1, h2, h3, h4⟩ := mcc (x := x2) (y := x31) b_x2.1 b_x2.2 b_x31.1 b_x31.2
  refine ⟨_, ⟨rfl⟩, ?_, ?_, ?_, ?_, ?_, ?_⟩ <;> omega
theorem bd_aw32 {m31 : Int} (b_m31 : 0 ≤ m31 ∧ m31 ≤ 255000) : ∃ w : Int, (30 * m31 = w) ∧ (0 ≤ w ∧ w ≤ 7650000) := ⟨_, rfl, by omega, by omega⟩
theorem bd_am33 {x1 x28 : Int} (b_x1 : 0 ≤ x1 ∧ x1 ≤ 255) (b_x28 : 0 ≤ x28 ∧ x28 ≤ 1000) : ∃ m : Int, Hd (x1 * x28 = m) ∧ ((0) * x28 + (0) * x1 - (0) ≤ m) ∧ ((255) * x28 + (1000) * x1 - (255000) ≤ m) ∧ (m ≤ (255) * x28 + (0) * x1 - (0)) ∧ (m ≤ (0) * x28 + (1000) * x1 - (0)) ∧ (0 ≤ m ∧ m ≤ 255000) := by
  obtain ⟨h1, h2, h3, h4⟩ := mcc (x := x1) (y := x28) b_x1.1 b_x1.2 b_x28.1 b_x28.2
  refine ⟨_, ⟨rfl⟩, ?_, ?_, ?_, ?_, ?_, ?_⟩ <;> omega
theorem bd_aw34 {m33 : Int} (b_m33 : 0 ≤ m33 ∧ m33 ≤ 255000) : ∃ w : Int, (20 * m33 = w) ∧ (0 ≤ w ∧ w ≤ 5100000) := ⟨_, rfl, by omega, by omega⟩
theorem bd_am35 {x2 x30 : Int} (b_x2 : 0 ≤ x2 ∧ x2 ≤ 255) (b_x30 : 0 ≤ x30 ∧ x30 ≤ 1000) : ∃ m : Int, Hd (x2 * x30 = m) ∧ ((0) * x30 + (0) * x2 - (0) ≤ m) ∧ ((255) * x30 + (1000) * x2 - (255000) ≤ m) ∧ (m ≤ (255) * x30 + (0) * x2 - (0)) ∧ (m ≤ (0) * x30 + (1000) * x2 - (0)) ∧ (0 ≤ m ∧ m ≤ 255000) := by
  obtain ⟨h1, h2, h3, h4⟩ := mcc (x := x2) (y := x30) b_x2.1 b_x2.2 b_x30.1 b_x30.2
  refine ⟨_, ⟨rfl⟩, ?_, ?_, ?_, ?_, ?_, ?_⟩ <;> omega
theorem bd_aw36 {m35 : Int} (b_m35 : 0 ≤ m35 ∧ m35 ≤ 255000) : ∃ w : Int, (30 * m35 = w) ∧ (0 ≤ w ∧ w ≤ 7650000) := ⟨_, rfl, by omega, by omega⟩
theorem bd_aw37 {x14 : Int} (b_x14 : 0 ≤ x14 ∧ x14 ≤ 65535) : ∃ w : Int, (500000 * x14 = w) ∧ (0 ≤ w ∧ w ≤ 32767500000) := ⟨_, rfl, by omega, by omega⟩
theorem bd_aw38 {w24 w26 x0 : Int} (b_w24 : 0 ≤ w24 ∧ w24 ≤ 1601400) (b_w26 : 0 ≤ w26 ∧ w26 ≤ 2402100) (b_x0 : 0 ≤ x0 ∧ x0 ≤ 255) : ∃ w : Int, (w24 + w26 + 10000 * x0 + 1000 = w) ∧ (1000 ≤ w ∧ w ≤ 6554500) := ⟨_, rfl, by omega, by omega⟩
theorem bd_aq39 {w37 w38 : Int} (b_w37 : 0 ≤ w37 ∧ w37 ≤ 32767500000) (b_w38 : 1000 ≤ w38 ∧ w38 ≤ 6554500) : ∃ q : Int, Hd (w37.tdiv w38 = q) ∧ QD w37 w38 q ∧ (0 ≤ q ∧ q ≤ 32767500) := by
  obtain ⟨q, h1, h2⟩ := qD_ex w37 w38 (by omega)
  obtain ⟨h3, h4⟩ := qD_rng (lo := 0) (hi := 32767500000) (dl := 1000) h2 (by omega) (by omega) (by omega) (by omega) (by omega) (by omega)
  have h5 := (h2.1 (by omega)).1
  exact ⟨q, h1, h2, by omega, by omega⟩
theorem bd_am40 {q39 w38 : Int} (b_q39 : 0 ≤ q39 ∧ q39 ≤ 32767500) (b_w38 : 1000 ≤ w38 ∧ w38 ≤ 6554500) : ∃ m : Int, Hd (q39 * w38 = m) ∧ ((0) * w38 + (1000) * q39 - (0) ≤ m) ∧ ((32767500) * w38 + (6554500) * q39 - (214774578750000) ≤ m) ∧ (m ≤ (32767500) * w38 + (1000) * q39 - (32767500000)) ∧ (m ≤ (0) * w38 + (6554500) * q39 - (0)) ∧ (0 ≤ m ∧ m ≤ 214774578750000) := by
  obtain ⟨h1, h2, h3, h4⟩ := mcc (x := q39) (y := w38) b_q39.1 b_q39.2 b_w38.1 b_w38.2
  refine ⟨_, ⟨rfl⟩, ?_, ?_, ?_, ?_, ?_, ?_⟩ <;> omega
theorem bd_aw41 {w30 w32 x0 : Int} (b_w30 : 0 ≤ w30 ∧ w30 ≤ 5100000) (b_w32 : 0 ≤ w32 ∧ w32 ≤ 7650000) (b_x0 : 0 ≤ x0 ∧ x0 ≤ 255) : ∃ w : Int, (w30 + w32 + 10000 * x0 + 1000 = w) ∧ (1000 ≤ w ∧ w ≤ 15301000) := ⟨_, rfl, by omega, by omega⟩
theorem bd_aq42 {w37 w41 : Int} (b_w37 : 0 ≤ w37 ∧ w37 ≤ 32767500000) (b_w41 : 1000 ≤ w41 ∧ w41 ≤ 15301000) : ∃ q : Int, Hd (w37.tdiv w41 = q) ∧ QD w37 w41 q ∧ (0 ≤ q ∧ q ≤ 32767500) := by
  obtain ⟨q, h1, h2⟩ := qD_ex w37 w41 (by omega)
  obtain ⟨h3, h4⟩ := qD_rng (lo := 0) (hi := 32767500000) (dl := 1000) h2 (by omega) (by omega) (by omega) (by omega) (by omega) (by omega)
  have h5 := (h2.1 (by omega)).1
  exact ⟨q, h1, h2, by omega, by omega⟩
theorem bd_am43 {q42 w41 : Int} (b_q42 : 0 ≤ q42 ∧ q42 ≤ 32767500) (b_w41 : 1000 ≤ w41 ∧ w41 ≤ 15301000) : ∃ m : Int, Hd (q42 * w41 = m) ∧ ((0) * w41 + (1000) * q42 - (0) ≤ m) ∧ ((32767500) * w41 + (15301000) * q42 - (501375517500000) ≤ m) ∧ (m ≤ (32767500) * w41 + (1000) * q42 - (32767500000)) ∧ (m ≤ (0) * w41 + (15301000) * q42 - (0)) ∧ (0 ≤ m ∧ m ≤ 501375517500000) := by
  obtain ⟨h1, h2, h3, h4⟩ := mcc (x := q42) (y := w41) b_q42.1 b_q42.2 b_w41.1 b_w41.2
  refine ⟨_, ⟨rfl⟩, ?_, ?_, ?_, ?_, ?_, ?_⟩ <;> omega
theorem bd_aw44 {x14 x15 : Int} (b_x14 : 0 ≤ x14 ∧ x14 ≤ 65535) (b_x15 : 0 ≤ x15 ∧ x15 ≤ 65535) : ∃ w : Int, (500000 * x14 + 1000 * x15 = w) ∧ (0 ≤ w ∧ w ≤ 32833035000) := ⟨_, rfl, by omega, by omega⟩
theorem bd_aw45 {w34 w36 x0 : Int} (b_w34 : 0 ≤ w34 ∧ w34 ≤ 5100000) (b_w36 : 0 ≤ w36 ∧ w36 ≤ 7650000) (b_x0 : 0 ≤ x0 ∧ x0 ≤ 255) : ∃ w : Int, (w34 + w36 + 10000 * x0 + 1000 = w) ∧ (1000 ≤ w ∧ w ≤ 15301000) := ⟨_, rfl, by omega, by omega⟩
theorem bd_aq46 {w44 w45 : Int} (b_w44 : 0 ≤ w44 ∧ w44 ≤ 32833035000) (b_w45 : 1000 ≤ w45 ∧ w45 ≤ 15301000) : ∃ q : Int, Hd (w44.tdiv w45 = q) ∧ QD w44 w45 q ∧ (0 ≤ q ∧ q ≤ 32833035) := by
  obtain ⟨q, h1, h2⟩ := qD_ex w44 w45 (by omega)
  obtain ⟨h3, h4⟩ := qD_rng (lo := 0) (hi := 32833035000) (dl := 1000) h2 (by omega) (by omega) (by omega) (by omega) (by omega) (by omega)
  have h5 := (h2.1 (by omega)).1
  exact ⟨q, h1, h2, by omega, by omega⟩
theorem bd_am47 {q46 w45 : Int} (b_q46 : 0 ≤ q46 ∧ q46 ≤ 32833035) (b_w45 : 1000 ≤ w45 ∧ w45 ≤ 15301000) : ∃ m : Int, Hd (q46 * w45 = m) ∧ ((0) * w45 + (1000) * q46 - (0) ≤ m) ∧ ((32833035) * w45 + (15301000) * q46 - (502378268535000) ≤ m) ∧ (m ≤ (32833035) * w45 + (1000) * q46 - (32833035000)) ∧ (m ≤ (0) * w45 + (15301000) * q46 - (0)) ∧ (0 ≤ m ∧ m ≤ 502378268535000) := by
  obtain ⟨h1, h2, h3, h4⟩ := mcc (x := q46) (y := w45) b_q46.1 b_q46.2 b_w45.1 b_w45.2
  refine ⟨_, ⟨rfl⟩, ?_, ?_, ?_, ?_, ?_, ?_⟩ <;> omega
theorem bd_aw48 {w27 w28 x0 : Int} (b_w27 : 0 ≤ w27 ∧ w27 ≤ 1300500) (b_w28 : 0 ≤ w28 ∧ w28 ≤ 1950750) (b_x0 : 0 ≤ x0 ∧ x0 ≤ 255) : ∃ w : Int, (w27 + w28 + 10000 * x0 + 1000 = w) ∧ (1000 ≤ w ∧ w ≤ 5802250) := ⟨_, rfl, by omega, by omega⟩
theorem bd_aq49 {w44 w48 : Int} (b_w44 : 0 ≤ w44 ∧ w44 ≤ 32833035000) (b_w48 : 1000 ≤ w48 ∧ w48 ≤ 5802250) : ∃ q : Int, Hd (w44.tdiv w48 = q) ∧ QD w44 w48 q ∧ (0 ≤ q ∧ q ≤ 32833035) := by
  obtain ⟨q, h1, h2⟩ := qD_ex w44 w48 (by omega)
  obtain ⟨h3, h4⟩ := qD_rng (lo := 0) (hi := 32833035000) (dl := 1000) h2 (by omega) (by omega) (by omega) (by omega) (by omega) (by omega)
  have h5 := (h2.1 (by omega)).1
  exact ⟨q, h1, h2, by omega, by omega⟩
theorem bd_am50 {q49 w48 : Int} (b_q49 : 0 ≤ q49 ∧ q49 ≤ 32833035) (b_w48 : 1000 ≤ w48 ∧ w48 ≤ 5802250) : ∃ m : Int, Hd (q49 * w48 = m) ∧ ((0) * w48 + (1000) * q49 - (0) ≤ m) ∧ ((32833035) * w48 + (5802250) * q49 - (190505477328750) ≤ m) ∧ (m ≤ (32833035) * w48 + (1000) * q49 - (32833035000)) ∧ (m ≤ (0) * w48 + (5802250) * q49 - (0)) ∧ (0 ≤ m ∧ m ≤ 190505477328750) := by
  obtain ⟨h1, h2, h3, h4⟩ := mcc (x := q49) (y := w48) b_q49.1 b_q49.2 b_w48.1 b_w48.2
  refine ⟨_, ⟨rfl⟩, ?_, ?_, ?_, ?_, ?_, ?_⟩ <;> omega
theorem bd_am51 {x15 x20 : Int} (b_x15 : 0 ≤ x15 ∧ x15 ≤ 65535) (b_x20 : 0 ≤ x20 ∧ x20 ≤ 255) : ∃ m : Int, Hd (x15 * x20 = m) ∧ ((0) * x20 + (0) * x15 - (0) ≤ m) ∧ ((65535) * x20 + (255) * x15 - (16711425) ≤ m) ∧ (m ≤ (65535) * x20 + (0) * x15 - (0)) ∧ (m ≤ (0) * x20 + (255) * x15 - (0)) ∧ (0 ≤ m ∧ m ≤ 16711425) := by
  obtain ⟨h1, h2, h3, h4⟩ := mcc (x := x15) (y := x20) b_x15.1 b_x15.2 b_x20.1 b_x20.2
  refine ⟨_, ⟨rfl⟩, ?_, ?_, ?_, ?_, ?_, ?_⟩ <;> omega
theorem bd_aw52 {m51 : Int} (b_m51 : 0 ≤ m51 ∧ m51 ≤ 16711425) : ∃ w : Int, (m51 = w) ∧ (0 ≤ w ∧ w ≤ 16711425) := ⟨_, rfl, by omega, by omega⟩
theorem bd_aq53 {w52 : Int} (b_w52 : 0 ≤ w52 ∧ w52 ≤ 16711425) : ∃ q r : Int, Hd ((w52) / 255 = q) ∧ Hd ((w52) % 255 = r) ∧ (w52 = 255 * q + r) ∧ (0 ≤ q ∧ q ≤ 65535) ∧ (0 ≤ r ∧ r ≤ 254) := ⟨_, _, ⟨rfl⟩, ⟨rfl⟩, by omega, by omega, by omega⟩
theorem bd_aw55 {q53 x14 : Int} (b_q53 : 0 ≤ q53 ∧ q53 ≤ 65535) (b_x14 : 0 ≤ x14 ∧ x14 ≤ 65535) : ∃ w : Int, (1000 * q53 + 500000 * x14 = w) ∧ (0 ≤ w ∧ w ≤ 32833035000) := ⟨_, rfl, by omega, by omega⟩
theorem bd_aw56 {w17 w20 x0 : Int} (b_w17 : 0 ≤ w17 ∧ w17 ≤ 1601400) (b_w20 : 0 ≤ w20 ∧ w20 ≤ 2402100) (b_x0 : 0 ≤ x0 ∧ x0 ≤ 255) : ∃ w : Int, (w17 + w20 + 10000 * x0 + 1000 = w) ∧ (1000 ≤ w ∧ w ≤ 6554500) := ⟨_, rfl, by omega, by omega⟩
theorem bd_aq57 {w55 w56 : Int} (b_w55 : 0 ≤ w55 ∧ w55 ≤ 32833035000) (b_w56 : 1000 ≤ w56 ∧ w56 ≤ 6554500) : ∃ q : Int, Hd (w55.tdiv w56 = q) ∧ QD w55 w56 q ∧ (0 ≤ q ∧ q ≤ 32833035) := by
  obtain ⟨q, h1, h2⟩ := qD_ex w55 w56 (by omega)
  obtain ⟨h3, h4⟩ := qD_rng (lo := 0) (hi := 32833035000) (dl := 1000) h2 (by omega) (by omega) (by omega) (by omega) (by omega) (by omega)
  have h5 := (h2.1 (by omega)).1
  exact ⟨q, h1, h2, by omega, by omega⟩
theorem bd_am58 {q57 w56 : Int} (b_q57 : 0 ≤ q57 ∧ q57 ≤ 32833035) (b_w56 : 1000 ≤ w56 ∧ w56 ≤ 6554500) : ∃ m : Int, Hd (q57 * w56 = m) ∧ ((0) * w56 + (1000) * q57 - (0) ≤ m) ∧ ((32833035) * w56 + (6554500) * q57 - (215204127907500) ≤ m) ∧ (m ≤ (32833035) * w56 + (1000) * q57 - (32833035000)) ∧ (m ≤ (0) * w56 + (6554500) * q57 - (0)) ∧ (0 ≤ m ∧ m ≤ 215204127907500) := by
  obtain ⟨h1, h2, h3, h4⟩ := mcc (x := q57) (y := w56) b_q57.1 b_q57.2 b_w56.1 b_w56.2
  refine ⟨_, ⟨rfl⟩, ?_, ?_, ?_, ?_, ?_, ?_⟩ <;> omega
theorem bd_am59 {x1 x34 : Int} (b_x1 : 0 ≤ x1 ∧ x1 ≤ 255) (b_x34 : 0 ≤ x34 ∧ x34 ≤ 1000) : ∃ m : Int, Hd (x1 * x34 = m) ∧ ((0) * x34 + (0) * x1 - (0) ≤ m) ∧ ((255) * x34 + (1000) * x1 - (255000) ≤ m) ∧ (m ≤ (255) * x34 + (0) * x1 - (0)) ∧ (m ≤ (0) * x34 + (1000) * x1 - (0)) ∧ (0 ≤ m ∧ m ≤ 255000) := by
  obtain ⟨h1, h2, h3, h4⟩ := mcc (x := x1) (y := x34) b_x1.1 b_x1.2 b_x34.1 b_x34.2
  refine ⟨_, ⟨rfl⟩, ?_, ?_, ?_, ?_, ?_, ?_⟩ <;> omega
theorem bd_aw60 {m59 : Int} (b_m59 : 0 ≤ m59 ∧ m59 ≤ 255000) : ∃ w : Int, (20 * m59 = w) ∧ (0 ≤ w ∧ w ≤ 5100000) := ⟨_, rfl, by omega, by omega⟩
theorem bd_am61 {x2 x36 : Int} (b_x2 : 0 ≤ x2 ∧ x2 ≤ 255) (b_x36 : 0 ≤ x36 ∧ x36 ≤ 1000) : ∃ m : Int, Hd (x2 * x36 = m) ∧ ((0) * x36 + (0) * x2 - (0) ≤ m) ∧ ((255) * x36 + (1000) * x2 - (255000) ≤ m) ∧ (m ≤ (255) * x36 + (0) * x2 - (0)) ∧ (m ≤ (0) * x36 + (1000) * x2 - (0)) ∧ (0 ≤ m ∧ m ≤ 255000) := by
  obtain ⟨h1, h2, h3, h4⟩ := mcc (x := x2) (y := x36) b_x2.1 b_x2.2 b_x36.1 b_x36.2
  refine ⟨_, ⟨rfl⟩, ?_, ?_, ?_, ?_, ?_, ?_⟩ <;> omega
theorem bd_aw62 {m61 : Int} (b_m61 : 0 ≤ m61 ∧ m61 ≤ 255000) : ∃ w : Int, (30 * m61 = w) ∧ (0 ≤ w ∧ w ≤ 7650000) := ⟨_, rfl, by omega, by omega⟩
theorem bd_am63 {x1 x33 : Int} (b_x1 : 0 ≤ x1 ∧ x1 ≤ 255) (b_x33 : 0 ≤ x33 ∧ x33 ≤ 1000) : ∃ m : Int, Hd (x1 * x33 = m) ∧ ((0) * x33 + (0) * x1 - (0) ≤ m) ∧ ((255) * x33 + (1000) * x1 - (255000) ≤ m) ∧ (m ≤ (255) * x33 + (0) * x1 - (0)) ∧ (m ≤ (0) * x33 + (1000) * x1 - (0)) ∧ (0 ≤ m ∧ m ≤ 255000) := by
  obtain ⟨h1, h2, h3, h4⟩ := mcc (x := x1) (y := x33) b_x1.1 b_x1.2 b_x33.1 b_x33.2
  refine ⟨_, ⟨rfl⟩, ?_, ?_, ?_, ?_, ?_, ?_⟩ <;> omega
theorem bd_aw64 {m63 : Int} (b_m63 : 0 ≤ m63 ∧ m63 ≤ 255000) : ∃ w : Int, (20 * m63 = w) ∧ (0 ≤ w ∧ w ≤ 5100000) := ⟨_, rfl, by omega, by omega⟩
theorem bd_am65 {x2 x35 : Int} (b_x2 : 0 ≤ x2 ∧ x2 ≤ 255) (b_x35 : 0 ≤ x35 ∧ x35 ≤ 1000) : ∃ m : Int, Hd (x2 * x35 = m) ∧ ((0) * x35 + (0) * x2 - (0) ≤ m) ∧ ((255) * x35 + (1000) * x2 - (255000) ≤ m) ∧ (m ≤ (255) * x35 + (0) * x2 - (0)) ∧ (m ≤ (0) * x35 + (1000) * x2 - (0)) ∧ (0 ≤ m ∧ m ≤ 255000) := by
  obtain ⟨h1, h2, h3, h4⟩ := mcc (x := x2) (y := x35) b_x2.1 b_x2.2 b_x35.1 b_x35.2
  refine ⟨_, ⟨rfl⟩, ?_, ?_, ?_, ?_, ?_, ?_⟩ <;> omega
theorem bd_aw66 {m65 : Int} (b_m65 : 0 ≤ m65 ∧ m65 ≤ 255000) : ∃ w : Int, (30 * m65 = w) ∧ (0 ≤ w ∧ w ≤ 7650000) := ⟨_, rfl, by omega, by omega⟩
theorem bd_aw67  : ∃ w : Int, (0 = w) ∧ (0 ≤ w ∧ w ≤ 0) := ⟨_, rfl, by omega, by omega⟩
theorem bd_aq68 {w67 w38 : Int} (b_w67 : 0 ≤ w67 ∧ w67 ≤ 0) (b_w38 : 1000 ≤ w38 ∧ w38 ≤ 6554500) : ∃ q : Int, Hd (w67.tdiv w38 = q) ∧ QD w67 w38 q ∧ (0 ≤ q ∧ q ≤ 0) := by
  obtain ⟨q, h1, h2⟩ := qD_ex w67 w38 (by omega)
  obtain ⟨h3, h4⟩ := qD_rng (lo := 0) (hi := 0) (dl := 1000) h2 (by omega) (by omega) (by omega) (by omega) (by omega) (by omega)
  have h5 := (h2.1 (by omega)).1
  exact ⟨q, h1, h2, by omega, by omega⟩
theorem bd_am69 {q68 w38 : Int} (b_q68 : 0 ≤ q68 ∧ q68 ≤ 0) (b_w38 : 1000 ≤ w38 ∧ w38 ≤ 6554500) : ∃ m : Int, Hd (q68 * w38 = m) ∧ ((0) * w38 + (1000) * q68 - (0) ≤ m) ∧ ((0) * w38 + (6554500) * q68 - (0) ≤ m) ∧ (m ≤ (0) * w38 + (1000) * q68 - (0)) ∧ (m ≤ (0) * w38 + (6554500) * q68 - (0)) ∧ (0 ≤ m ∧ m ≤ 0) := by
  obtain ⟨h1, h2, h3, h4⟩ := mcc (x := q68) (y := w38) b_q68.1 b_q68.2 b_w38.1 b_w38.2
  refine ⟨_, ⟨rfl⟩, ?_, ?_, ?_, ?_, ?_, ?_⟩ <;> omega
theorem bd_aw70 {w60 w62 x0 : Int} (b_w60 : 0 ≤ w60 ∧ w60 ≤ 5100000) (b_w62 : 0 ≤ w62 ∧ w62 ≤ 7650000) (b_x0 : 0 ≤ x0 ∧ x0 ≤ 255) : ∃ w : Int, (w60 + w62 + 10000 * x0 + 1000 = w) ∧ (1000 ≤ w ∧ w ≤ 15301000) := ⟨_, rfl, by omega, by omega⟩
theorem bd_aq71 {w67 w70 : Int} (b_w67 : 0 ≤ w67 ∧ w67 ≤ 0) (b_w70 : 1000 ≤ w70 ∧ w70 ≤ 15301000) : ∃ q : Int, Hd (w67.tdiv w70 = q) ∧ QD w67 w70 q ∧ (0 ≤ q ∧ q ≤ 0) := by
  obtain ⟨q, h1, h2⟩ := qD_ex w67 w70 (by omega)
  obtain ⟨h3, h4⟩ := qD_rng (lo := 0) (hi := 0) (dl := 1000) h2 (by omega) (by omega) (by omega) (by omega) (by omega) (by omega)
  have h5 := (h2.1 (by omega)).1
  exact ⟨q, h1, h2, by omega, by omega⟩
theorem bd_am72 {q71 w70 : Int} (b_q71 : 0 ≤ q71 ∧ q71 ≤ 0) (b_w70 : 1000 ≤ w70 ∧ w70 ≤ 15301000) : ∃ m : Int, Hd (q71 * w70 = m) ∧ ((0) * w70 + (1000) * q71 - (0) ≤ m) ∧ ((0) * w70 + (15301000) * q71 - (0) ≤ m) ∧ (m ≤ (0) * w70 + (1000) * q71 - (0)) ∧ (m ≤ (0) * w70 + (15301000) * q71 - (0)) ∧ (0 ≤ m ∧ m ≤ 0) := by
  obtain ⟨h1, h2, h3, h4⟩ := mcc (x := q71) (y := w70) b_q71.1 b_q71.2 b_w70.1 b_w70.2
  refine ⟨_, ⟨rfl⟩, ?_, ?_, ?_, ?_, ?_, ?_⟩ <;> omega
theorem bd_aw73 {w64 w66 x0 : Int} (b_w64 : 0 ≤ w64 ∧ w64 ≤ 5100000) (b_w66 : 0 ≤ w66 ∧ w66 ≤ 7650000) (b_x0 : 0 ≤ x0 ∧ x0 ≤ 255) : ∃ w : Int, (w64 + w66 + 10000 * x0 + 1000 = w) ∧ (1000 ≤ w ∧ w ≤ 15301000) := ⟨_, rfl, by omega, by omega⟩
theorem bd_aq74 {w67 w73 : Int} (b_w67 : 0 ≤ w67 ∧ w67 ≤ 0) (b_w73 : 1000 ≤ w73 ∧ w73 ≤ 15301000) : ∃ q : Int, Hd (w67.tdiv w73 = q) ∧ QD w67 w73 q ∧ (0 ≤ q ∧ q ≤ 0) := by
  obtain ⟨q, h1, h2⟩ := qD_ex w67 w73 (by omega)
  obtain ⟨h3, h4⟩ := qD_rng (lo := 0) (hi := 0) (dl := 1000) h2 (by omega) (by omega) (by omega) (by omega) (by omega) (by omega)
  have h5 := (h2.1 (by omega)).1
  exact ⟨q, h1, h2, by omega, by omega⟩
theorem bd_am75 {q74 w73 : Int} (b_q74 : 0 ≤ q74 ∧ q74 ≤ 0) (b_w73 : 1000 ≤ w73 ∧ w73 ≤ 15301000) : ∃ m : Int, Hd (q74 * w73 = m) ∧ ((0) * w73 + (1000) * q74 - (0) ≤ m) ∧ ((0) * w73 + (15301000) * q74 - (0) ≤ m) ∧ (m ≤ (0) * w73 + (1000) * q74 - (0)) ∧ (m ≤ (0) * w73 + (15301000) * q74 - (0)) ∧ (0 ≤ m ∧ m ≤ 0) := by
  obtain ⟨h1, h2, h3, h4⟩ := mcc (x := q74) (y := w73) b_q74.1 b_q74.2 b_w73.1 b_w73.2
  refine ⟨_, ⟨rfl⟩, ?_, ?_, ?_, ?_, ?_, ?_⟩ <;> omega
theorem bd_aq76 {w67 w48 : Int} (b_w67 : 0 ≤ w67 ∧ w67 ≤ 0) (b_w48 : 1000 ≤ w48 ∧ w48 ≤ 5802250) : ∃ q : Int, Hd (w67.tdiv w48 = q) ∧ QD w67 w48 q ∧ (0 ≤ q ∧ q ≤ 0) := by
  obtain ⟨q, h1, h2⟩ := qD_ex w67 w48 (by omega)
  obtain ⟨h3, h4⟩ := qD_rng (lo := 0) (hi := 0) (dl := 1000) h2 (by omega) (by omega) (by omega) (by omega) (by omega) (by omega)
  have h5 := (h2.1 (by omega)).1
  exact ⟨q, h1, h2, by omega, by omega⟩
theorem bd_am77 {q76 w48 : Int} (b_q76 : 0 ≤ q76 ∧ q76 ≤ 0) (b_w48 : 1000 ≤ w48 ∧ w48 ≤ 5802250) : ∃ m : Int, Hd (q76 * w48 = m) ∧ ((0) * w48 + (1000) * q76 - (0) ≤ m) ∧ ((0) * w48 + (5802250) * q76 - (0) ≤ m) ∧ (m ≤ (0) * w48 + (1000) * q76 - (0)) ∧ (m ≤ (0) * w48 + (5802250) * q76 - (0)) ∧ (0 ≤ m ∧ m ≤ 0) := by
  obtain ⟨h1, h2, h3, h4⟩ := mcc (x := q76) (y := w48) b_q76.1 b_q76.2 b_w48.1 b_w48.2
  refine ⟨_, ⟨rfl⟩, ?_, ?_, ?_, ?_, ?_, ?_⟩ <;> omega
theorem bd_aq78 {w67 w56 : Int} (b_w67 : 0 ≤ w67 ∧ w67 ≤ 0) (b_w56 : 1000 ≤ w56 ∧ w56 ≤ 6554500) : ∃ q : Int, Hd (w67.tdiv w56 = q) ∧ QD w67 w56 q ∧ (0 ≤ q ∧ q ≤ 0) := by
  obtain ⟨q, h1, h2⟩ := qD_ex w67 w56 (by omega)
  obtain ⟨h3, h4⟩ := qD_rng (lo := 0) (hi := 0) (dl := 1000) h2 (by omega) (by omega) (by omega) (by omega) (by omega) (by omega)
  have h5 := (h2.1 (by omega)).1
  exact ⟨q, h1, h2, by omega, by omega⟩
theorem bd_am79 {q78 w56 : Int} (b_q78 : 0 ≤ q78 ∧ q78 ≤ 0) (b_w56 : 1000 ≤ w56 ∧ w56 ≤ 6554500) : ∃ m : Int, Hd (q78 * w56 = m) ∧ ((0) * w56 + (1000) * q78 - (0) ≤ m) ∧ ((0) * w56 + (6554500) * q78 - (0) ≤ m) ∧ (m ≤ (0) * w56 + (1000) * q78 - (0)) ∧ (m ≤ (0) * w56 + (6554500) * q78 - (0)) ∧ (0 ≤ m ∧ m ≤ 0) := by
  obtain ⟨h1, h2, h3, h4⟩ := mcc (x := q78) (y := w56) b_q78.1 b_q78.2 b_w56.1 b_w56.2
  refine ⟨_, ⟨rfl⟩, ?_, ?_, ?_, ?_, ?_, ?_⟩ <;> omega
theorem bd_au80 {q57 x26 : Int} (b_q57 : 0 ≤ q57 ∧ q57 ≤ 32833035) (b_x26 : 0 ≤ x26 ∧ x26 ≤ 255) : ∃ m : Int, (max (q57 + (-1) * x26) 0 = m) ∧ (0 ≤ m ∧ m ≤ 32833035) := ⟨_, rfl, by omega, by omega⟩
theorem bd_rf1 {q7 : Int} (b_q7 : 0 ≤ q7 ∧ q7 ≤ 59) : 0 ≤ q7 := by omega
theorem bd_rf2 {q7 r4 r8 w6 m5 x18 : Int} (b_r8 : 0 ≤ r8 ∧ r8 ≤ 254) (q7s : w6 = 255 * q7 + r8) (w6s : m5 = w6) (m5f4 : m5 ≤ (0) * x18 + (255) * r4 - (0)) : 0 ≤ (-1) * q7 + r4 := by omega
theorem bd_rf3 {q13 : Int} (b_q13 : 0 ≤ q13 ∧ q13 ≤ 59) : 0 ≤ q13 := by omega
theorem bd_rf4 {q13 r10 r14 w12 m11 x19 : Int} (b_r14 : 0 ≤ r14 ∧ r14 ≤ 254) (q13s : w12 = 255 * q13 + r14) (w12s : m11 = w12) (m11f4 : m11 ≤ (0) * x19 + (255) * r10 - (0)) : 0 ≤ (-1) * q13 + r10 := by omega
set_option maxHeartbeats 40000000 in
theorem bd_g0 {ρ : Env} {x13 r2 x0 x1 x3 x4 r4 x18 w6 m5 q7 x2 x5 x6 r10 x19 w12 m11 q13 w17 m15 m16 w20 m18 m19 x7 x8 x9 x10 r22 x11 x12 x14 x15 w24 m23 w26 m25 w27 w28 x29 w30 m29 x31 w32 m31 x28 w34 m33 x30 w36 m35 q39 w37 w38 q42 w41 q46 w44 w45 q49 w48 x20 w52 m51 q53 q57 w55 w56 x34 w60 m59 x36 w62 m61 x33 w64 m63 x35 w66 m65 q68 w67 q71 w70 q74 w73 q76 q78 x26 u80 x27 : Int} (e13 : Is ρ (.v 13) x13) (r2e : Hd ((x13) % 3 = r2)) (e0 : Is ρ (.v 0) x0) (e1 : Is ρ (.v 1) x1) (e3 : Is ρ (.v 3) x3) (e4 : Is ρ (.v 4) x4) (r4e : Hd ((x4) % 60 = r4)) (e18 : Is ρ (.v 18) x18) (m5e : Hd (r4 * x18 = m5)) (w6s : Hd (m5 = w6)) (q7e : Hd ((w6) / 255 = q7)) (e2 : Is ρ (.v 2) x2) (e5 : Is ρ (.v 5) x5) (e6 : Is ρ (.v 6) x6) (r10e : Hd ((x6) % 60 = r10)) (e19 : Is ρ (.v 19) x19) (m11e : Hd (r10 * x19 = m11)) (w12s : Hd (m11 = w12)) (q13e : Hd ((w12) / 255 = q13)) (m15e : Hd (q7 * x1 = m15)) (m16e : Hd (x1 * x3 = m16)) (w17s : Hd (20 * m15 + 20 * m16 = w17)) (m18e : Hd (q13 * x2 = m18)) (m19e : Hd (x2 * x5 = m19)) (w20s : Hd (30 * m18 + 30 * m19 = w20)) (e7 : Is ρ (.v 7) x7) (e8 : Is ρ (.v 8) x8) (e9 : Is ρ (.v 9) x9) (e10 : Is ρ (.v 10) x10) (r22e : Hd ((x10) % 20 = r22)) (e11 : Is ρ (.v 11) x11) (e12 : Is ρ (.v 12) x12) (e14 : Is ρ (.v 14) x14) (e15 : Is ρ (.v 15) x15) (m23e : Hd (r4 * x1 = m23)) (w24s : Hd (20 * m16 + 20 * m23 = w24)) (m25e : Hd (r10 * x2 = m25)) (w26s : Hd (30 * m19 + 30 * m25 = w26)) (w27s : Hd (20 * m16 = w27)) (w28s : Hd (30 * m19 = w28)) (e29 : Is ρ (.v 29) x29) (m29e : Hd (x1 * x29 = m29)) (w30s : Hd (20 * m29 = w30)) (e31 : Is ρ (.v 31) x31) (m31e : Hd (x2 * x31 = m31)) (w32s : Hd (30 * m31 = w32)) (e28 : Is ρ (.v 28) x28) (m33e : Hd (x1 * x28 = m33)) (w34s : Hd (20 * m33 = w34)) (e30 : Is ρ (.v 30) x30) (m35e : Hd (x2 * x30 = m35)) (w36s : Hd (30 * m35 = w36)) (q39e : Hd (w37.tdiv w38 = q39)) (w37s : Hd (500000 * x14 = w37)) (w38s : Hd (w24 + w26 + 10000 * x0 + 1000 = w38)) (q42e : Hd (w37.tdiv w41 = q42)) (w41s : Hd (w30 + w32 + 10000 * x0 + 1000 = w41)) (q46e : Hd (w44.tdiv w45 = q46)) (w44s : Hd (500000 * x14 + 1000 * x15 = w44)) (w45s : Hd (w34 + w36 + 10000 * x0 + 1000 = w45)) (q49e : Hd (w44.tdiv w48 = q49)) (w48s : Hd (w27 + w28 + 10000 * x0 + 1000 = w48)) (e20 : Is ρ (.v 20) x20) (m51e : Hd (x15 * x20 = m51)) (w52s : Hd (m51 = w52)) (q53e : Hd ((w52) / 255 = q53)) (q57e : Hd (w55.tdiv w56 = q57)) (w55s : Hd (1000 * q53 + 500000 * x14 = w55)) (w56s : Hd (w17 + w20 + 10000 * x0 + 1000 = w56)) (e34 : Is ρ (.v 34) x34) (m59e : Hd (x1 * x34 = m59)) (w60s : Hd (20 * m59 = w60)) (e36 : Is ρ (.v 36) x36) (m61e : Hd (x2 * x36 = m61)) (w62s : Hd (30 * m61 = w62)) (e33 : Is ρ (.v 33) x33) (m63e : Hd (x1 * x33 = m63)) (w64s : Hd (20 * m63 = w64)) (e35 : Is ρ (.v 35) x35) (m65e : Hd (x2 * x35 = m65)) (w66s : Hd (30 * m65 = w66)) (q68e : Hd (w67.tdiv w38 = q68)) (w67s : Hd (0 = w67)) (q71e : Hd (w67.tdiv w70 = q71)) (w70s : Hd (w60 + w62 + 10000 * x0 + 1000 = w70)) (q74e : Hd (w67.tdiv w73 = q74)) (w73s : Hd (w64 + w66 + 10000 * x0 + 1000 = w73)) (q76e : Hd (w67.tdiv w48 = q76)) (q78e : Hd (w67.tdiv w56 = q78)) (e26 : Is ρ (.v 26) x26) (u80s : Hd (max (q57 + (-1) * x26) 0 = u80)) (e27 : Is ρ (.v 27) x27) (b_x13 : 0 ≤ x13 ∧ x13 ≤ 255) (b_r2 : 0 ≤ r2 ∧ r2 ≤ 2) (b_x0 : 0 ≤ x0 ∧ x0 ≤ 255) (b_x1 : 0 ≤ x1 ∧ x1 ≤ 255) (b_x3 : 0 ≤ x3 ∧ x3 ≤ 255) (b_x4 : 0 ≤ x4 ∧ x4 ≤ 255) (b_r4 : 0 ≤ r4 ∧ r4 ≤ 59) (b_x18 : 0 ≤ x18 ∧ x18 ≤ 255) (b_w6 : 0 ≤ w6 ∧ w6 ≤ 15045) (b_m5 : 0 ≤ m5 ∧ m5 ≤ 15045) (b_q7 : 0 ≤ q7 ∧ q7 ≤ 59) (b_x2 : 0 ≤ x2 ∧ x2 ≤ 255) (b_x5 : 0 ≤ x5 ∧ x5 ≤ 255) (b_x6 : 0 ≤ x6 ∧ x6 ≤ 255) (b_r10 : 0 ≤ r10 ∧ r10 ≤ 59) (b_x19 : 0 ≤ x19 ∧ x19 ≤ 255) (b_w12 : 0 ≤ w12 ∧ w12 ≤ 15045) (b_m11 : 0 ≤ m11 ∧ m11 ≤ 15045) (b_q13 : 0 ≤ q13 ∧ q13 ≤ 59) (b_w17 : 0 ≤ w17 ∧ w17 ≤ 1601400) (b_m15 : 0 ≤ m15 ∧ m15 ≤ 15045) (b_m16 : 0 ≤ m16 ∧ m16 ≤ 65025) (b_w20 : 0 ≤ w20 ∧ w20 ≤ 2402100) (b_m18 : 0 ≤ m18 ∧ m18 ≤ 15045) (b_m19 : 0 ≤ m19 ∧ m19 ≤ 65025) (b_x7 : 0 ≤ x7 ∧ x7 ≤ 255) (b_x8 : 0 ≤ x8 ∧ x8 ≤ 255) (b_x9 : 0 ≤ x9 ∧ x9 ≤ 255) (b_x10 : 0 ≤ x10 ∧ x10 ≤ 255) (b_r22 : 0 ≤ r22 ∧ r22 ≤ 19) (b_x11 : 0 ≤ x11 ∧ x11 ≤ 255) (b_x12 : 0 ≤ x12 ∧ x12 ≤ 255) (b_x14 : 0 ≤ x14 ∧ x14 ≤ 65535) (b_x15 : 0 ≤ x15 ∧ x15 ≤ 65535) (b_w24 : 0 ≤ w24 ∧ w24 ≤ 1601400) (b_m23 : 0 ≤ m23 ∧ m23 ≤ 15045) (b_w26 : 0 ≤ w26 ∧ w26 ≤ 2402100) (b_m25 : 0 ≤ m25 ∧ m25 ≤ 15045) (b_w27 : 0 ≤ w27 ∧ w27 ≤ 1300500) (b_w28 : 0 ≤ w28 ∧ w28 ≤ 1950750) (b_x29 : 0 ≤ x29 ∧ x29 ≤ 1000) (b_w30 : 0 ≤ w30 ∧ w30 ≤ 5100000) (b_m29 : 0 ≤ m29 ∧ m29 ≤ 255000) (b_x31 : 0 ≤ x31 ∧ x31 ≤ 1000) (b_w32 : 0 ≤ w32 ∧ w32 ≤ 7650000) (b_m31 : 0 ≤ m31 ∧ m31 ≤ 255000) (b_x28 : 0 ≤ x28 ∧ x28 ≤ 1000) (b_w34 : 0 ≤ w34 ∧ w34 ≤ 5100000) (b_m33 : 0 ≤ m33 ∧ m33 ≤ 255000) (b_x30 : 0 ≤ x30 ∧ x30 ≤ 1000) (b_w36 : 0 ≤ w36 ∧ w36 ≤ 7650000) (b_m35 : 0 ≤ m35 ∧ m35 ≤ 255000) (b_q39 : 0 ≤ q39 ∧ q39 ≤ 32767500) (b_w37 : 0 ≤ w37 ∧ w37 ≤ 32767500000) (b_w38 : 1000 ≤ w38 ∧ w38 ≤ 6554500) (b_q42 : 0 ≤ q42 ∧ q42 ≤ 32767500) (b_w41 : 1000 ≤ w41 ∧ w41 ≤ 15301000) (b_q46 : 0 ≤ q46 ∧ q46 ≤ 32833035) (b_w44 : 0 ≤ w44 ∧ w44 ≤ 32833035000) (b_w45 : 1000 ≤ w45 ∧ w45 ≤ 15301000) (b_q49 : 0 ≤ q49 ∧ q49 ≤ 32833035) (b_w48 : 1000 ≤ w48 ∧ w48 ≤ 5802250) (b_x20 : 0 ≤ x20 ∧ x20 ≤ 255) (b_w52 : 0 ≤ w52 ∧ w52 ≤ 16711425) (b_m51 : 0 ≤ m51 ∧ m51 ≤ 16711425) (b_q53 : 0 ≤ q53 ∧ q53 ≤ 65535) (b_q57 : 0 ≤ q57 ∧ q57 ≤ 32833035) (b_w55 : 0 ≤ w55 ∧ w55 ≤ 32833035000) (b_w56 : 1000 ≤ w56 ∧ w56 ≤ 6554500) (b_x34 : 0 ≤ x34 ∧ x34 ≤ 1000) (b_w60 : 0 ≤ w60 ∧ w60 ≤ 5100000) (b_m59 : 0 ≤ m59 ∧ m59 ≤ 255000) (b_x36 : 0 ≤ x36 ∧ x36 ≤ 1000) (b_w62 : 0 ≤ w62 ∧ w62 ≤ 7650000) (b_m61 : 0 ≤ m61 ∧ m61 ≤ 255000) (b_x33 : 0 ≤ x33 ∧ x33 ≤ 1000) (b_w64 : 0 ≤ w64 ∧ w64 ≤ 5100000) (b_m63 : 0 ≤ m63 ∧ m63 ≤ 255000) (b_x35 : 0 ≤ x35 ∧ x35 ≤ 1000) (b_w66 : 0 ≤ w66 ∧ w66 ≤ 7650000) (b_m65 : 0 ≤ m65 ∧ m65 ≤ 255000) (b_q68 : 0 ≤ q68 ∧ q68 ≤ 0) (b_w67 : 0 ≤ w67 ∧ w67 ≤ 0) (b_q71 : 0 ≤ q71 ∧ q71 ≤ 0) (b_w70 : 1000 ≤ w70 ∧ w70 ≤ 15301000) (b_q74 : 0 ≤ q74 ∧ q74 ≤ 0) (b_w73 : 1000 ≤ w73 ∧ w73 ≤ 15301000) (b_q76 : 0 ≤ q76 ∧ q76 ≤ 0) (b_q78 : 0 ≤ q78 ∧ q78 ≤ 0) (b_x26 : 0 ≤ x26 ∧ x26 ≤ 255) (b_u80 : 0 ≤ u80 ∧ u80 ≤ 32833035) (b_x27 : 0 ≤ x27 ∧ x27 ≤ 255) : Is ρ bd0 (r2) ∧ Is ρ bd3 (10 * x0 + 1) ∧ Is ρ bd6 (20 * x1) ∧ Is ρ bd7 (x3) ∧ Is ρ bd11 (r4 + x3) ∧ Is ρ bd15 (q7 + x3) ∧ Is ρ bd19 (30 * x2) ∧ Is ρ bd20 (x5) ∧ Is ρ bd24 (r10 + x5) ∧ Is ρ bd28 (q13 + x5) ∧ Is ρ bd30 (w17 + w20 + 10000 * x0 + 1000) ∧ Is ρ bd33 (100 * x7 + 1) ∧ Is ρ bd36 (100 * x7 + 10 * x8 + 1) ∧ Is ρ bd38 (x9 + 1) ∧ Is ρ bd41 (r22 + x9 + 1) ∧ Is ρ bd44 (100 * x11 + 1) ∧ Is ρ bd47 (100 * x11 + 10 * x12 + 1) ∧ Is ρ bd49 (500 * x14) ∧ Is ρ bd51 (500 * x14 + x15) ∧ Is ρ bd55 (w24 + w26 + 10000 * x0 + 1000) ∧ Is ρ bd59 (w27 + w28 + 10000 * x0 + 1000) ∧ Is ρ bd63 (w30 + w32 + 10000 * x0 + 1000) ∧ Is ρ bd67 (w34 + w36 + 10000 * x0 + 1000) ∧ Is ρ bd70 (q39) ∧ Is ρ bd72 (q42) ∧ Is ρ bd75 (q46) ∧ Is ρ bd77 (q49) ∧ Is ρ bd84 (q57) ∧ Is ρ bd88 (w60 + w62 + 10000 * x0 + 1000) ∧ Is ρ bd92 (w64 + w66 + 10000 * x0 + 1000) ∧ Is ρ bd94 (q68) ∧ Is ρ bd96 (q71) ∧ Is ρ bd98 (q74) ∧ Is ρ bd100 (q76) ∧ Is ρ bd105 (q78) ∧ Is ρ bd108 (u80) ∧ Is ρ bd110 (q57 + x27) ∧ Is ρ bd112 (0) ∧ Is ρ bd113 (q78 + x27) := by
  have h0 : Is ρ bd0 (r2) := Zremp e13 (Zc 3) (by omega) r2e.out
  have h1 : Is ρ bd1 (x0) := Zconv e0 (by omega)
  have h2 : Is ρ bd2 (10 * x0) := Ym (Zc 10) h1 (by omega)
  have h3 : Is ρ bd3 (10 * x0 + 1) := Ya (Zc 1) h2 (by omega)
  have h5 : Is ρ bd5 (x1) := Zconv e1 (by omega)
  have h6 : Is ρ bd6 (20 * x1) := Ym (Zc 20) h5 (by omega)
  have h7 : Is ρ bd7 (x3) := Zconv e3 (by omega)
  have h9 : Is ρ bd9 (x4) := Zconv e4 (by omega)
  have h10 : Is ρ bd10 (r4) := Zremp h9 (Zc 60) (by omega) r4e.out
  have h11 : Is ρ bd11 (r4 + x3) := Ya h7 h10 (by omega)
  have h8 : Is ρ bd8 (x18) := Zconv e18 (by omega)
  have h12 : Is ρ bd12 (r4) := Ys h11 h7 (by omega)
  have h13 : Is ρ bd13 (w6) := by
    have w6s := w6s.out
    exact Zmul h8 h12 (by omega) (((by simp only [Int.add_mul, Int.mul_add, Int.mul_assoc, Int.mul_comm, Int.mul_left_comm, Int.reduceMul, Int.reduceNeg, Int.mul_one, Int.one_mul] <;> omega : (x18) * (r4) = r4 * x18).trans (by (try simp only [m5e.out]) <;> omega)).trans w6s)
  have h14 : Is ρ bd14 (q7) := Zquop h13 (Zc 255) (by omega) (by omega) q7e.out
  have h15 : Is ρ bd15 (q7 + x3) := Ya h7 h14 (by omega)
  have h18 : Is ρ bd18 (x2) := Zconv e2 (by omega)
  have h19 : Is ρ bd19 (30 * x2) := Ym (Zc 30) h18 (by omega)
  have h20 : Is ρ bd20 (x5) := Zconv e5 (by omega)
  have h22 : Is ρ bd22 (x6) := Zconv e6 (by omega)
  have h23 : Is ρ bd23 (r10) := Zremp h22 (Zc 60) (by omega) r10e.out
  have h24 : Is ρ bd24 (r10 + x5) := Ya h20 h23 (by omega)
  have h21 : Is ρ bd21 (x19) := Zconv e19 (by omega)
  have h25 : Is ρ bd25 (r10) := Ys h24 h20 (by omega)
  have h26 : Is ρ bd26 (w12) := by
    have w12s := w12s.out
    exact Zmul h21 h25 (by omega) (((by simp only [Int.add_mul, Int.mul_add, Int.mul_assoc, Int.mul_comm, Int.mul_left_comm, Int.reduceMul, Int.reduceNeg, Int.mul_one, Int.one_mul] <;> omega : (x19) * (r10) = r10 * x19).trans (by (try simp only [m11e.out]) <;> omega)).trans w12s)
  have h27 : Is ρ bd27 (q13) := Zquop h26 (Zc 255) (by omega) (by omega) q13e.out
  have h28 : Is ρ bd28 (q13 + x5) := Ya h20 h27 (by omega)
  have h4 : Is ρ bd4 (10000 * x0 + 1000) := Ym (Zc 1000) h3 (by omega)
  have h16 : Is ρ bd16 (w17) := by
    have w17s := w17s.out
    exact Zmul h6 h15 (by omega) (((by simp only [Int.add_mul, Int.mul_add, Int.mul_assoc, Int.mul_comm, Int.mul_left_comm, Int.reduceMul, Int.reduceNeg, Int.mul_one, Int.one_mul] <;> omega : (20 * x1) * (q7 + x3) = 20 * (q7 * x1) + 20 * (x1 * x3)).trans (by (try simp only [m15e.out, m16e.out]) <;> omega)).trans w17s)
  have h17 : Is ρ bd17 (w17 + 10000 * x0 + 1000) := Ya h4 h16 (by omega)
  have h29 : Is ρ bd29 (w20) := by
    have w20s := w20s.out
    exact Zmul h19 h28 (by omega) (((by simp only [Int.add_mul, Int.mul_add, Int.mul_assoc, Int.mul_comm, Int.mul_left_comm, Int.reduceMul, Int.reduceNeg, Int.mul_one, Int.one_mul] <;> omega : (30 * x2) * (q13 + x5) = 30 * (q13 * x2) + 30 * (x2 * x5)).trans (by (try simp only [m18e.out, m19e.out]) <;> omega)).trans w20s)
  have h30 : Is ρ bd30 (w17 + w20 + 10000 * x0 + 1000) := Ya h17 h29 (by omega)
  have h31 : Is ρ bd31 (x7) := Zconv e7 (by omega)
  have h32 : Is ρ bd32 (100 * x7) := Ym (Zc 100) h31 (by omega)
  have h33 : Is ρ bd33 (100 * x7 + 1) := Ya (Zc 1) h32 (by omega)
  have h34 : Is ρ bd34 (x8) := Zconv e8 (by omega)
  have h35 : Is ρ bd35 (10 * x8) := Ym (Zc 10) h34 (by omega)
  have h36 : Is ρ bd36 (100 * x7 + 10 * x8 + 1) := Ya h33 h35 (by omega)
  have h37 : Is ρ bd37 (x9) := Zconv e9 (by omega)
  have h38 : Is ρ bd38 (x9 + 1) := Ya (Zc 1) h37 (by omega)
  have h39 : Is ρ bd39 (x10) := Zconv e10 (by omega)
  have h40 : Is ρ bd40 (r22) := Zremp h39 (Zc 20) (by omega) r22e.out
  have h41 : Is ρ bd41 (r22 + x9 + 1) := Ya h38 h40 (by omega)
  have h42 : Is ρ bd42 (x11) := Zconv e11 (by omega)
  have h43 : Is ρ bd43 (100 * x11) := Ym (Zc 100) h42 (by omega)
  have h44 : Is ρ bd44 (100 * x11 + 1) := Ya (Zc 1) h43 (by omega)
  have h45 : Is ρ bd45 (x12) := Zconv e12 (by omega)
  have h46 : Is ρ bd46 (10 * x12) := Ym (Zc 10) h45 (by omega)
  have h47 : Is ρ bd47 (100 * x11 + 10 * x12 + 1) := Ya h44 h46 (by omega)
  have h48 : Is ρ bd48 (x14) := Zconv e14 (by omega)
  have h49 : Is ρ bd49 (500 * x14) := Ym (Zc 500) h48 (by omega)
  have h50 : Is ρ bd50 (x15) := Zconv e15 (by omega)
  have h51 : Is ρ bd51 (500 * x14 + x15) := Ya h49 h50 (by omega)
  have h52 : Is ρ bd52 (w24) := by
    have w24s := w24s.out
    exact Zmul h6 h11 (by omega) (((by simp only [Int.add_mul, Int.mul_add, Int.mul_assoc, Int.mul_comm, Int.mul_left_comm, Int.reduceMul, Int.reduceNeg, Int.mul_one, Int.one_mul] <;> omega : (20 * x1) * (r4 + x3) = 20 * (r4 * x1) + 20 * (x1 * x3)).trans (by (try simp only [m23e.out, m16e.out]) <;> omega)).trans w24s)
  have h53 : Is ρ bd53 (w26) := by
    have w26s := w26s.out
    exact Zmul h19 h24 (by omega) (((by simp only [Int.add_mul, Int.mul_add, Int.mul_assoc, Int.mul_comm, Int.mul_left_comm, Int.reduceMul, Int.reduceNeg, Int.mul_one, Int.one_mul] <;> omega : (30 * x2) * (r10 + x5) = 30 * (r10 * x2) + 30 * (x2 * x5)).trans (by (try simp only [m25e.out, m19e.out]) <;> omega)).trans w26s)
  have h54 : Is ρ bd54 (w24 + w26) := Ya h52 h53 (by omega)
  have h55 : Is ρ bd55 (w24 + w26 + 10000 * x0 + 1000) := Ya h54 h4 (by omega)
  have h56 : Is ρ bd56 (w27) := by
    have w27s := w27s.out
    exact Zmul h6 h7 (by omega) (((by simp only [Int.add_mul, Int.mul_add, Int.mul_assoc, Int.mul_comm, Int.mul_left_comm, Int.reduceMul, Int.reduceNeg, Int.mul_one, Int.one_mul] <;> omega : (20 * x1) * (x3) = 20 * (x1 * x3)).trans (by (try simp only [m16e.out]) <;> omega)).trans w27s)
  have h57 : Is ρ bd57 (w28) := by
    have w28s := w28s.out
    exact Zmul h19 h20 (by omega) (((by simp only [Int.add_mul, Int.mul_add, Int.mul_assoc, Int.mul_comm, Int.mul_left_comm, Int.reduceMul, Int.reduceNeg, Int.mul_one, Int.one_mul] <;> omega : (30 * x2) * (x5) = 30 * (x2 * x5)).trans (by (try simp only [m19e.out]) <;> omega)).trans w28s)
  have h58 : Is ρ bd58 (w27 + w28) := Ya h56 h57 (by omega)
  have h59 : Is ρ bd59 (w27 + w28 + 10000 * x0 + 1000) := Ya h58 h4 (by omega)
  have h60 : Is ρ bd60 (w30) := by
    have w30s := w30s.out
    exact Zmul h6 e29 (by omega) (((by simp only [Int.add_mul, Int.mul_add, Int.mul_assoc, Int.mul_comm, Int.mul_left_comm, Int.reduceMul, Int.reduceNeg, Int.mul_one, Int.one_mul] <;> omega : (20 * x1) * (x29) = 20 * (x1 * x29)).trans (by (try simp only [m29e.out]) <;> omega)).trans w30s)
  have h61 : Is ρ bd61 (w32) := by
    have w32s := w32s.out
    exact Zmul h19 e31 (by omega) (((by simp only [Int.add_mul, Int.mul_add, Int.mul_assoc, Int.mul_comm, Int.mul_left_comm, Int.reduceMul, Int.reduceNeg, Int.mul_one, Int.one_mul] <;> omega : (30 * x2) * (x31) = 30 * (x2 * x31)).trans (by (try simp only [m31e.out]) <;> omega)).trans w32s)
  have h62 : Is ρ bd62 (w30 + w32) := Ya h60 h61 (by omega)
  have h63 : Is ρ bd63 (w30 + w32 + 10000 * x0 + 1000) := Ya h62 h4 (by omega)
  have h64 : Is ρ bd64 (w34) := by
    have w34s := w34s.out
    exact Zmul h6 e28 (by omega) (((by simp only [Int.add_mul, Int.mul_add, Int.mul_assoc, Int.mul_comm, Int.mul_left_comm, Int.reduceMul, Int.reduceNeg, Int.mul_one, Int.one_mul] <;> omega : (20 * x1) * (x28) = 20 * (x1 * x28)).trans (by (try simp only [m33e.out]) <;> omega)).trans w34s)
  have h65 : Is ρ bd65 (w36) := by
    have w36s := w36s.out
    exact Zmul h19 e30 (by omega) (((by simp only [Int.add_mul, Int.mul_add, Int.mul_assoc, Int.mul_comm, Int.mul_left_comm, Int.reduceMul, Int.reduceNeg, Int.mul_one, Int.one_mul] <;> omega : (30 * x2) * (x30) = 30 * (x2 * x30)).trans (by (try simp only [m35e.out]) <;> omega)).trans w36s)
  have h66 : Is ρ bd66 (w34 + w36) := Ya h64 h65 (by omega)
  have h67 : Is ρ bd67 (w34 + w36 + 10000 * x0 + 1000) := Ya h66 h4 (by omega)
  have h68 : Is ρ bd68 (500000 * x14) := Ym (Zc 1000) h49 (by omega)
  have h69 : Is ρ bd69 (q39) := by
    have w37s := w37s.out
    have w38s := w38s.out
    exact Ztq (w37s ▸ h68) (w38s ▸ h55) q39e.out (by omega)
  have h70 : Is ρ bd70 (q39) := Ya (Zc 0) h69 (by omega)
  have h71 : Is ρ bd71 (q42) := by
    have w37s := w37s.out
    have w41s := w41s.out
    exact Ztq (w37s ▸ h68) (w41s ▸ h63) q42e.out (by omega)
  have h72 : Is ρ bd72 (q42) := Ya (Zc 0) h71 (by omega)
  have h73 : Is ρ bd73 (500000 * x14 + 1000 * x15) := Ym (Zc 1000) h51 (by omega)
  have h74 : Is ρ bd74 (q46) := by
    have w44s := w44s.out
    have w45s := w45s.out
    exact Ztq (w44s ▸ h73) (w45s ▸ h67) q46e.out (by omega)
  have h75 : Is ρ bd75 (q46) := Ya (Zc 0) h74 (by omega)
  have h76 : Is ρ bd76 (q49) := by
    have w44s := w44s.out
    have w48s := w48s.out
    exact Ztq (w44s ▸ h73) (w48s ▸ h59) q49e.out (by omega)
  have h77 : Is ρ bd77 (q49) := Ya (Zc 0) h76 (by omega)
  have h78 : Is ρ bd78 (x20) := Zconv e20 (by omega)
  have h79 : Is ρ bd79 (x15) := Ys h51 h49 (by omega)
  have h80 : Is ρ bd80 (w52) := by
    have w52s := w52s.out
    exact Zmul h78 h79 (by omega) (((by simp only [Int.add_mul, Int.mul_add, Int.mul_assoc, Int.mul_comm, Int.mul_left_comm, Int.reduceMul, Int.reduceNeg, Int.mul_one, Int.one_mul] <;> omega : (x20) * (x15) = x15 * x20).trans (by (try simp only [m51e.out]) <;> omega)).trans w52s)
  have h81 : Is ρ bd81 (q53) := Zquop h80 (Zc 255) (by omega) (by omega) q53e.out
  have h82 : Is ρ bd82 (q53 + 500 * x14) := Ya h49 h81 (by omega)
  have h83 : Is ρ bd83 (1000 * q53 + 500000 * x14) := Ym (Zc 1000) h82 (by omega)
  have h84 : Is ρ bd84 (q57) := by
    have w55s := w55s.out
    have w56s := w56s.out
    exact Ztq (w55s ▸ h83) (w56s ▸ h30) q57e.out (by omega)
  have h85 : Is ρ bd85 (w60) := by
    have w60s := w60s.out
    exact Zmul h6 e34 (by omega) (((by simp only [Int.add_mul, Int.mul_add, Int.mul_assoc, Int.mul_comm, Int.mul_left_comm, Int.reduceMul, Int.reduceNeg, Int.mul_one, Int.one_mul] <;> omega : (20 * x1) * (x34) = 20 * (x1 * x34)).trans (by (try simp only [m59e.out]) <;> omega)).trans w60s)
  have h86 : Is ρ bd86 (w62) := by
    have w62s := w62s.out
    exact Zmul h19 e36 (by omega) (((by simp only [Int.add_mul, Int.mul_add, Int.mul_assoc, Int.mul_comm, Int.mul_left_comm, Int.reduceMul, Int.reduceNeg, Int.mul_one, Int.one_mul] <;> omega : (30 * x2) * (x36) = 30 * (x2 * x36)).trans (by (try simp only [m61e.out]) <;> omega)).trans w62s)
  have h87 : Is ρ bd87 (w60 + w62) := Ya h85 h86 (by omega)
  have h88 : Is ρ bd88 (w60 + w62 + 10000 * x0 + 1000) := Ya h87 h4 (by omega)
  have h89 : Is ρ bd89 (w64) := by
    have w64s := w64s.out
    exact Zmul h6 e33 (by omega) (((by simp only [Int.add_mul, Int.mul_add, Int.mul_assoc, Int.mul_comm, Int.mul_left_comm, Int.reduceMul, Int.reduceNeg, Int.mul_one, Int.one_mul] <;> omega : (20 * x1) * (x33) = 20 * (x1 * x33)).trans (by (try simp only [m63e.out]) <;> omega)).trans w64s)
  have h90 : Is ρ bd90 (w66) := by
    have w66s := w66s.out
    exact Zmul h19 e35 (by omega) (((by simp only [Int.add_mul, Int.mul_add, Int.mul_assoc, Int.mul_comm, Int.mul_left_comm, Int.reduceMul, Int.reduceNeg, Int.mul_one, Int.one_mul] <;> omega : (30 * x2) * (x35) = 30 * (x2 * x35)).trans (by (try simp only [m65e.out]) <;> omega)).trans w66s)
  have h91 : Is ρ bd91 (w64 + w66) := Ya h89 h90 (by omega)
  have h92 : Is ρ bd92 (w64 + w66 + 10000 * x0 + 1000) := Ya h91 h4 (by omega)
  have h93 : Is ρ bd93 (q68) := by
    have w67s := w67s.out
    have w38s := w38s.out
    exact Ztq (w67s ▸ (Zc 0)) (w38s ▸ h55) q68e.out (by omega)
  have h94 : Is ρ bd94 (q68) := Ya (Zc 0) h93 (by omega)
  have h95 : Is ρ bd95 (q71) := by
    have w67s := w67s.out
    have w70s := w70s.out
    exact Ztq (w67s ▸ (Zc 0)) (w70s ▸ h88) q71e.out (by omega)
  have h96 : Is ρ bd96 (q71) := Ya (Zc 0) h95 (by omega)
  have h97 : Is ρ bd97 (q74) := by
    have w67s := w67s.out
    have w73s := w73s.out
    exact Ztq (w67s ▸ (Zc 0)) (w73s ▸ h92) q74e.out (by omega)
  have h98 : Is ρ bd98 (q74) := Ya (Zc 0) h97 (by omega)
  have h99 : Is ρ bd99 (q76) := by
    have w67s := w67s.out
    have w48s := w48s.out
    exact Ztq (w67s ▸ (Zc 0)) (w48s ▸ h59) q76e.out (by omega)
  have h100 : Is ρ bd100 (q76) := Ya (Zc 0) h99 (by omega)
  have h101 : Is ρ bd101 (0) := Ym h78 (Zc 0) (by omega)
  have h102 : Is ρ bd102 (0) := Zqx h101 (Zc 255) (by omega) (by omega) (by omega)
  have h103 : Is ρ bd103 (0) := Ya (Zc 0) h102 (by omega)
  have h104 : Is ρ bd104 (0) := Ym (Zc 1000) h103 (by omega)
  have h105 : Is ρ bd105 (q78) := by
    have w67s := w67s.out
    have w56s := w56s.out
    exact Ztq (w67s ▸ h104) (w56s ▸ h30) q78e.out (by omega)
  have h106 : Is ρ bd106 (x26) := Zconv e26 (by omega)
  have h107 : Is ρ bd107 (q57 + (-1) * x26) := Ys h84 h106 (by omega)
  have h108 : Is ρ bd108 (u80) := by
    have u80s := u80s.out
    exact Zmx (Zc 0) h107 (by omega)
  have h109 : Is ρ bd109 (x27) := Zconv e27 (by omega)
  have h110 : Is ρ bd110 (q57 + x27) := Ya h84 h109 (by omega)
  have h111 : Is ρ bd111 (q78 + (-1) * x26) := Ys h105 h106 (by omega)
  have h112 : Is ρ bd112 (0) := Zmx (Zc 0) h111 (by omega)
  have h113 : Is ρ bd113 (q78 + x27) := Ya h105 h109 (by omega)
  exact ⟨h0, h3, h6, h7, h11, h15, h19, h20, h24, h28, h30, h33, h36, h38, h41, h44, h47, h49, h51, h55, h59, h63, h67, h70, h72, h75, h77, h84, h88, h92, h94, h96, h98, h100, h105, h108, h110, h112, h113⟩
theorem bd_rf5 {x28 x3 x29 r4 : Int}  (po0_2 : x3 ≤ x28 ∧ x29 ≤ r4 + x3) : 0 ≤ x28 + (-1) * x3 := by omega
theorem bd_rf5_0 {x28 x3 m16 m33 x1 : Int} (b_x1 : 0 ≤ x1 ∧ x1 ≤ 255) (rf5 : 0 ≤ x28 + (-1) * x3) (m33e : Hd (x1 * x28 = m33)) (m16e : Hd (x1 * x3 = m16)) : 0 ≤ (-1) * m16 + m33 := by
  have e1 : (x28 + (-1) * x3) * (x1) = (-1) * m16 + m33 := ((by simp only [Int.add_mul, Int.mul_add, Int.mul_assoc, Int.mul_comm, Int.mul_left_comm, Int.reduceMul, Int.reduceNeg, Int.mul_one, Int.one_mul] <;> omega : (x28 + (-1) * x3) * (x1) = x1 * x28 + (-1) * (x1 * x3)).trans (by (try simp only [m33e.out, m16e.out]) <;> omega))
  exact e1 ▸ Int.mul_nonneg (by omega) (by omega)
theorem bd_rf6 {q7 x28 x3 x29 : Int}  (po0_0 : x28 ≤ q7 + x3 ∧ q7 + x3 ≤ x29) : 0 ≤ q7 + (-1) * x28 + x3 := by omega
theorem bd_rf6_0 {q7 x28 x3 m15 m16 m33 x1 : Int} (b_x1 : 0 ≤ x1 ∧ x1 ≤ 255) (rf6 : 0 ≤ q7 + (-1) * x28 + x3) (m15e : Hd (q7 * x1 = m15)) (m33e : Hd (x1 * x28 = m33)) (m16e : Hd (x1 * x3 = m16)) : 0 ≤ m15 + m16 + (-1) * m33 := by
  have e1 : (q7 + (-1) * x28 + x3) * (x1) = m15 + m16 + (-1) * m33 := ((by simp only [Int.add_mul, Int.mul_add, Int.mul_assoc, Int.mul_comm, Int.mul_left_comm, Int.reduceMul, Int.reduceNeg, Int.mul_one, Int.one_mul] <;> omega : (q7 + (-1) * x28 + x3) * (x1) = q7 * x1 + (-1) * (x1 * x28) + x1 * x3).trans (by (try simp only [m15e.out, m33e.out, m16e.out]) <;> omega))
  exact e1 ▸ Int.mul_nonneg (by omega) (by omega)
theorem bd_rf7 {q7 x29 x3 x28 : Int}  (po0_0 : x28 ≤ q7 + x3 ∧ q7 + x3 ≤ x29) : 0 ≤ (-1) * q7 + x29 + (-1) * x3 := by omega
theorem bd_rf7_0 {q7 x29 x3 m15 m16 m29 x1 : Int} (b_x1 : 0 ≤ x1 ∧ x1 ≤ 255) (rf7 : 0 ≤ (-1) * q7 + x29 + (-1) * x3) (m15e : Hd (q7 * x1 = m15)) (m29e : Hd (x1 * x29 = m29)) (m16e : Hd (x1 * x3 = m16)) : 0 ≤ (-1) * m15 + (-1) * m16 + m29 := by
  have e1 : ((-1) * q7 + x29 + (-1) * x3) * (x1) = (-1) * m15 + (-1) * m16 + m29 := ((by simp only [Int.add_mul, Int.mul_add, Int.mul_assoc, Int.mul_comm, Int.mul_left_comm, Int.reduceMul, Int.reduceNeg, Int.mul_one, Int.one_mul] <;> omega : ((-1) * q7 + x29 + (-1) * x3) * (x1) = (-1) * (q7 * x1) + x1 * x29 + (-1) * (x1 * x3)).trans (by (try simp only [m15e.out, m29e.out, m16e.out]) <;> omega))
  exact e1 ▸ Int.mul_nonneg (by omega) (by omega)
theorem bd_rf8 {r4 x29 x3 x28 : Int}  (po0_2 : x3 ≤ x28 ∧ x29 ≤ r4 + x3) : 0 ≤ r4 + (-1) * x29 + x3 := by omega
theorem bd_rf8_0 {r4 x29 x3 m16 m23 m29 x1 : Int} (b_x1 : 0 ≤ x1 ∧ x1 ≤ 255) (rf8 : 0 ≤ r4 + (-1) * x29 + x3) (m23e : Hd (r4 * x1 = m23)) (m29e : Hd (x1 * x29 = m29)) (m16e : Hd (x1 * x3 = m16)) : 0 ≤ m16 + m23 + (-1) * m29 := by
  have e1 : (r4 + (-1) * x29 + x3) * (x1) = m16 + m23 + (-1) * m29 := ((by simp only [Int.add_mul, Int.mul_add, Int.mul_assoc, Int.mul_comm, Int.mul_left_comm, Int.reduceMul, Int.reduceNeg, Int.mul_one, Int.one_mul] <;> omega : (r4 + (-1) * x29 + x3) * (x1) = r4 * x1 + (-1) * (x1 * x29) + x1 * x3).trans (by (try simp only [m23e.out, m29e.out, m16e.out]) <;> omega))
  exact e1 ▸ Int.mul_nonneg (by omega) (by omega)
theorem bd_rf9 {x30 x5 x31 r10 : Int}  (po0_3 : x5 ≤ x30 ∧ x31 ≤ r10 + x5) : 0 ≤ x30 + (-1) * x5 := by omega
theorem bd_rf9_0 {x30 x5 m19 m35 x2 : Int} (b_x2 : 0 ≤ x2 ∧ x2 ≤ 255) (rf9 : 0 ≤ x30 + (-1) * x5) (m35e : Hd (x2 * x30 = m35)) (m19e : Hd (x2 * x5 = m19)) : 0 ≤ (-1) * m19 + m35 := by
  have e1 : (x30 + (-1) * x5) * (x2) = (-1) * m19 + m35 := ((by simp only [Int.add_mul, Int.mul_add, Int.mul_assoc, Int.mul_comm, Int.mul_left_comm, Int.reduceMul, Int.reduceNeg, Int.mul_one, Int.one_mul] <;> omega : (x30 + (-1) * x5) * (x2) = x2 * x30 + (-1) * (x2 * x5)).trans (by (try simp only [m35e.out, m19e.out]) <;> omega))
  exact e1 ▸ Int.mul_nonneg (by omega) (by omega)
theorem bd_rf10 {q13 x30 x5 x31 : Int}  (po0_1 : x30 ≤ q13 + x5 ∧ q13 + x5 ≤ x31) : 0 ≤ q13 + (-1) * x30 + x5 := by omega
theorem bd_rf10_0 {q13 x30 x5 m18 m19 m35 x2 : Int} (b_x2 : 0 ≤ x2 ∧ x2 ≤ 255) (rf10 : 0 ≤ q13 + (-1) * x30 + x5) (m18e : Hd (q13 * x2 = m18)) (m35e : Hd (x2 * x30 = m35)) (m19e : Hd (x2 * x5 = m19)) : 0 ≤ m18 + m19 + (-1) * m35 := by
  have e1 : (q13 + (-1) * x30 + x5) * (x2) = m18 + m19 + (-1) * m35 := ((by simp only [Int.add_mul, Int.mul_add, Int.mul_assoc, Int.mul_comm, Int.mul_left_comm, Int.reduceMul, Int.reduceNeg, Int.mul_one, Int.one_mul] <;> omega : (q13 + (-1) * x30 + x5) * (x2) = q13 * x2 + (-1) * (x2 * x30) + x2 * x5).trans (by (try simp only [m18e.out, m35e.out, m19e.out]) <;> omega))
  exact e1 ▸ Int.mul_nonneg (by omega) (by omega)
theorem bd_rf11 {q13 x31 x5 x30 : Int}  (po0_1 : x30 ≤ q13 + x5 ∧ q13 + x5 ≤ x31) : 0 ≤ (-1) * q13 + x31 + (-1) * x5 := by omega
theorem bd_rf11_0 {q13 x31 x5 m18 m19 m31 x2 : Int} (b_x2 : 0 ≤ x2 ∧ x2 ≤ 255) (rf11 : 0 ≤ (-1) * q13 + x31 + (-1) * x5) (m18e : Hd (q13 * x2 = m18)) (m31e : Hd (x2 * x31 = m31)) (m19e : Hd (x2 * x5 = m19)) : 0 ≤ (-1) * m18 + (-1) * m19 + m31 := by
  have e1 : ((-1) * q13 + x31 + (-1) * x5) * (x2) = (-1) * m18 + (-1) * m19 + m31 := ((by simp only [Int.add_mul, Int.mul_add, Int.mul_assoc, Int.mul_comm, Int.mul_left_comm, Int.reduceMul, Int.reduceNeg, Int.mul_one, Int.one_mul] <;> omega : ((-1) * q13 + x31 + (-1) * x5) * (x2) = (-1) * (q13 * x2) + x2 * x31 + (-1) * (x2 * x5)).trans (by (try simp only [m18e.out, m31e.out, m19e.out]) <;> omega))
  exact e1 ▸ Int.mul_nonneg (by omega) (by omega)
theorem bd_rf12 {r10 x31 x5 x30 : Int}  (po0_3 : x5 ≤ x30 ∧ x31 ≤ r10 + x5) : 0 ≤ r10 + (-1) * x31 + x5 := by omega
theorem bd_rf12_0 {r10 x31 x5 m19 m25 m31 x2 : Int} (b_x2 : 0 ≤ x2 ∧ x2 ≤ 255) (rf12 : 0 ≤ r10 + (-1) * x31 + x5) (m25e : Hd (r10 * x2 = m25)) (m31e : Hd (x2 * x31 = m31)) (m19e : Hd (x2 * x5 = m19)) : 0 ≤ m19 + m25 + (-1) * m31 := by
  have e1 : (r10 + (-1) * x31 + x5) * (x2) = m19 + m25 + (-1) * m31 := ((by simp only [Int.add_mul, Int.mul_add, Int.mul_assoc, Int.mul_comm, Int.mul_left_comm, Int.reduceMul, Int.reduceNeg, Int.mul_one, Int.one_mul] <;> omega : (r10 + (-1) * x31 + x5) * (x2) = r10 * x2 + (-1) * (x2 * x31) + x2 * x5).trans (by (try simp only [m25e.out, m31e.out, m19e.out]) <;> omega))
  exact e1 ▸ Int.mul_nonneg (by omega) (by omega)
theorem bd_rf13 {x3 x33 x34 r4 : Int}  (po1_2 : x3 ≤ x33 ∧ x34 ≤ r4 + x3) : 0 ≤ (-1) * x3 + x33 := by omega
theorem bd_rf13_0 {x3 x33 m16 m63 x1 : Int} (b_x1 : 0 ≤ x1 ∧ x1 ≤ 255) (rf13 : 0 ≤ (-1) * x3 + x33) (m16e : Hd (x1 * x3 = m16)) (m63e : Hd (x1 * x33 = m63)) : 0 ≤ (-1) * m16 + m63 := by
  have e1 : ((-1) * x3 + x33) * (x1) = (-1) * m16 + m63 := ((by simp only [Int.add_mul, Int.mul_add, Int.mul_assoc, Int.mul_comm, Int.mul_left_comm, Int.reduceMul, Int.reduceNeg, Int.mul_one, Int.one_mul] <;> omega : ((-1) * x3 + x33) * (x1) = (-1) * (x1 * x3) + x1 * x33).trans (by (try simp only [m16e.out, m63e.out]) <;> omega))
  exact e1 ▸ Int.mul_nonneg (by omega) (by omega)
theorem bd_rf14 {q7 x3 x33 x34 : Int}  (po1_0 : x33 ≤ q7 + x3 ∧ q7 + x3 ≤ x34) : 0 ≤ q7 + x3 + (-1) * x33 := by omega
theorem bd_rf14_0 {q7 x3 x33 m15 m16 m63 x1 : Int} (b_x1 : 0 ≤ x1 ∧ x1 ≤ 255) (rf14 : 0 ≤ q7 + x3 + (-1) * x33) (m15e : Hd (q7 * x1 = m15)) (m16e : Hd (x1 * x3 = m16)) (m63e : Hd (x1 * x33 = m63)) : 0 ≤ m15 + m16 + (-1) * m63 := by
  have e1 : (q7 + x3 + (-1) * x33) * (x1) = m15 + m16 + (-1) * m63 := ((by simp only [Int.add_mul, Int.mul_add, Int.mul_assoc, Int.mul_comm, Int.mul_left_comm, Int.reduceMul, Int.reduceNeg, Int.mul_one, Int.one_mul] <;> omega : (q7 + x3 + (-1) * x33) * (x1) = q7 * x1 + x1 * x3 + (-1) * (x1 * x33)).trans (by (try simp only [m15e.out, m16e.out, m63e.out]) <;> omega))
  exact e1 ▸ Int.mul_nonneg (by omega) (by omega)
theorem bd_rf15 {q7 x3 x34 x33 : Int}  (po1_0 : x33 ≤ q7 + x3 ∧ q7 + x3 ≤ x34) : 0 ≤ (-1) * q7 + (-1) * x3 + x34 := by omega
theorem bd_rf15_0 {q7 x3 x34 m15 m16 m59 x1 : Int} (b_x1 : 0 ≤ x1 ∧ x1 ≤ 255) (rf15 : 0 ≤ (-1) * q7 + (-1) * x3 + x34) (m15e : Hd (q7 * x1 = m15)) (m16e : Hd (x1 * x3 = m16)) (m59e : Hd (x1 * x34 = m59)) : 0 ≤ (-1) * m15 + (-1) * m16 + m59 := by
  have e1 : ((-1) * q7 + (-1) * x3 + x34) * (x1) = (-1) * m15 + (-1) * m16 + m59 := ((by simp only [Int.add_mul, Int.mul_add, Int.mul_assoc, Int.mul_comm, Int.mul_left_comm, Int.reduceMul, Int.reduceNeg, Int.mul_one, Int.one_mul] <;> omega : ((-1) * q7 + (-1) * x3 + x34) * (x1) = (-1) * (q7 * x1) + (-1) * (x1 * x3) + x1 * x34).trans (by (try simp only [m15e.out, m16e.out, m59e.out]) <;> omega))
  exact e1 ▸ Int.mul_nonneg (by omega) (by omega)
theorem bd_rf16 {r4 x3 x34 x33 : Int}  (po1_2 : x3 ≤ x33 ∧ x34 ≤ r4 + x3) : 0 ≤ r4 + x3 + (-1) * x34 := by omega
theorem bd_rf16_0 {r4 x3 x34 m16 m23 m59 x1 : Int} (b_x1 : 0 ≤ x1 ∧ x1 ≤ 255) (rf16 : 0 ≤ r4 + x3 + (-1) * x34) (m23e : Hd (r4 * x1 = m23)) (m16e : Hd (x1 * x3 = m16)) (m59e : Hd (x1 * x34 = m59)) : 0 ≤ m16 + m23 + (-1) * m59 := by
  have e1 : (r4 + x3 + (-1) * x34) * (x1) = m16 + m23 + (-1) * m59 := ((by simp only [Int.add_mul, Int.mul_add, Int.mul_assoc, Int.mul_comm, Int.mul_left_comm, Int.reduceMul, Int.reduceNeg, Int.mul_one, Int.one_mul] <;> omega : (r4 + x3 + (-1) * x34) * (x1) = r4 * x1 + x1 * x3 + (-1) * (x1 * x34)).trans (by (try simp only [m23e.out, m16e.out, m59e.out]) <;> omega))
  exact e1 ▸ Int.mul_nonneg (by omega) (by omega)
theorem bd_rf17 {x35 x5 x36 r10 : Int}  (po1_3 : x5 ≤ x35 ∧ x36 ≤ r10 + x5) : 0 ≤ x35 + (-1) * x5 := by omega
theorem bd_rf17_0 {x35 x5 m19 m65 x2 : Int} (b_x2 : 0 ≤ x2 ∧ x2 ≤ 255) (rf17 : 0 ≤ x35 + (-1) * x5) (m65e : Hd (x2 * x35 = m65)) (m19e : Hd (x2 * x5 = m19)) : 0 ≤ (-1) * m19 + m65 := by
  have e1 : (x35 + (-1) * x5) * (x2) = (-1) * m19 + m65 := ((by simp only [Int.add_mul, Int.mul_add, Int.mul_assoc, Int.mul_comm, Int.mul_left_comm, Int.reduceMul, Int.reduceNeg, Int.mul_one, Int.one_mul] <;> omega : (x35 + (-1) * x5) * (x2) = x2 * x35 + (-1) * (x2 * x5)).trans (by (try simp only [m65e.out, m19e.out]) <;> omega))
  exact e1 ▸ Int.mul_nonneg (by omega) (by omega)
theorem bd_rf18 {q13 x35 x5 x36 : Int}  (po1_1 : x35 ≤ q13 + x5 ∧ q13 + x5 ≤ x36) : 0 ≤ q13 + (-1) * x35 + x5 := by omega
theorem bd_rf18_0 {q13 x35 x5 m18 m19 m65 x2 : Int} (b_x2 : 0 ≤ x2 ∧ x2 ≤ 255) (rf18 : 0 ≤ q13 + (-1) * x35 + x5) (m18e : Hd (q13 * x2 = m18)) (m65e : Hd (x2 * x35 = m65)) (m19e : Hd (x2 * x5 = m19)) : 0 ≤ m18 + m19 + (-1) * m65 := by
  have e1 : (q13 + (-1) * x35 + x5) * (x2) = m18 + m19 + (-1) * m65 := ((by simp only [Int.add_mul, Int.mul_add, Int.mul_assoc, Int.mul_comm, Int.mul_left_comm, Int.reduceMul, Int.reduceNeg, Int.mul_one, Int.one_mul] <;> omega : (q13 + (-1) * x35 + x5) * (x2) = q13 * x2 + (-1) * (x2 * x35) + x2 * x5).trans (by (try simp only [m18e.out, m65e.out, m19e.out]) <;> omega))
  exact e1 ▸ Int.mul_nonneg (by omega) (by omega)
theorem bd_rf19 {q13 x36 x5 x35 : Int}  (po1_1 : x35 ≤ q13 + x5 ∧ q13 + x5 ≤ x36) : 0 ≤ (-1) * q13 + x36 + (-1) * x5 := by omega
theorem bd_rf19_0 {q13 x36 x5 m18 m19 m61 x2 : Int} (b_x2 : 0 ≤ x2 ∧ x2 ≤ 255) (rf19 : 0 ≤ (-1) * q13 + x36 + (-1) * x5) (m18e : Hd (q13 * x2 = m18)) (m61e : Hd (x2 * x36 = m61)) (m19e : Hd (x2 * x5 = m19)) : 0 ≤ (-1) * m18 + (-1) * m19 + m61 := by
  have e1 : ((-1) * q13 + x36 + (-1) * x5) * (x2) = (-1) * m18 + (-1) * m19 + m61 := ((by simp only [Int.add_mul, Int.mul_add, Int.mul_assoc, Int.mul_comm, Int.mul_left_comm, Int.reduceMul, Int.reduceNeg, Int.mul_one, Int.one_mul] <;> omega : ((-1) * q13 + x36 + (-1) * x5) * (x2) = (-1) * (q13 * x2) + x2 * x36 + (-1) * (x2 * x5)).trans (by (try simp only [m18e.out, m61e.out, m19e.out]) <;> omega))
  exact e1 ▸ Int.mul_nonneg (by omega) (by omega)
theorem bd_rf20 {r10 x36 x5 x35 : Int}  (po1_3 : x5 ≤ x35 ∧ x36 ≤ r10 + x5) : 0 ≤ r10 + (-1) * x36 + x5 := by omega
theorem bd_rf20_0 {r10 x36 x5 m19 m25 m61 x2 : Int} (b_x2 : 0 ≤ x2 ∧ x2 ≤ 255) (rf20 : 0 ≤ r10 + (-1) * x36 + x5) (m25e : Hd (r10 * x2 = m25)) (m61e : Hd (x2 * x36 = m61)) (m19e : Hd (x2 * x5 = m19)) : 0 ≤ m19 + m25 + (-1) * m61 := by
  have e1 : (r10 + (-1) * x36 + x5) * (x2) = m19 + m25 + (-1) * m61 := ((by simp only [Int.add_mul, Int.mul_add, Int.mul_assoc, Int.mul_comm, Int.mul_left_comm, Int.reduceMul, Int.reduceNeg, Int.mul_one, Int.one_mul] <;> omega : (r10 + (-1) * x36 + x5) * (x2) = r10 * x2 + (-1) * (x2 * x36) + x2 * x5).trans (by (try simp only [m25e.out, m61e.out, m19e.out]) <;> omega))
  exact e1 ▸ Int.mul_nonneg (by omega) (by omega)
theorem bd_rf21 {q7 : Int}  (rf1 : 0 ≤ q7) : 0 ≤ q7 := by omega
theorem bd_rf21_0 {q7 m15 x1 : Int} (b_x1 : 0 ≤ x1 ∧ x1 ≤ 255) (rf21 : 0 ≤ q7) (m15e : Hd (q7 * x1 = m15)) : 0 ≤ m15 := by
  have e1 : (q7) * (x1) = m15 := ((by simp only [Int.add_mul, Int.mul_add, Int.mul_assoc, Int.mul_comm, Int.mul_left_comm, Int.reduceMul, Int.reduceNeg, Int.mul_one, Int.one_mul] <;> omega : (q7) * (x1) = q7 * x1).trans (by (try simp only [m15e.out]) <;> omega))
  exact e1 ▸ Int.mul_nonneg (by omega) (by omega)
theorem bd_rf22 {q7 r4 : Int}  (rf2 : 0 ≤ (-1) * q7 + r4) : 0 ≤ (-1) * q7 + r4 := by omega
theorem bd_rf22_0 {q7 r4 m15 m23 x1 : Int} (b_x1 : 0 ≤ x1 ∧ x1 ≤ 255) (rf22 : 0 ≤ (-1) * q7 + r4) (m15e : Hd (q7 * x1 = m15)) (m23e : Hd (r4 * x1 = m23)) : 0 ≤ (-1) * m15 + m23 := by
  have e1 : ((-1) * q7 + r4) * (x1) = (-1) * m15 + m23 := ((by simp only [Int.add_mul, Int.mul_add, Int.mul_assoc, Int.mul_comm, Int.mul_left_comm, Int.reduceMul, Int.reduceNeg, Int.mul_one, Int.one_mul] <;> omega : ((-1) * q7 + r4) * (x1) = (-1) * (q7 * x1) + r4 * x1).trans (by (try simp only [m15e.out, m23e.out]) <;> omega))
  exact e1 ▸ Int.mul_nonneg (by omega) (by omega)
theorem bd_rf23 {q13 : Int}  (rf3 : 0 ≤ q13) : 0 ≤ q13 := by omega
theorem bd_rf23_0 {q13 m18 x2 : Int} (b_x2 : 0 ≤ x2 ∧ x2 ≤ 255) (rf23 : 0 ≤ q13) (m18e : Hd (q13 * x2 = m18)) : 0 ≤ m18 := by
  have e1 : (q13) * (x2) = m18 := ((by simp only [Int.add_mul, Int.mul_add, Int.mul_assoc, Int.mul_comm, Int.mul_left_comm, Int.reduceMul, Int.reduceNeg, Int.mul_one, Int.one_mul] <;> omega : (q13) * (x2) = q13 * x2).trans (by (try simp only [m18e.out]) <;> omega))
  exact e1 ▸ Int.mul_nonneg (by omega) (by omega)
theorem bd_rf24 {q13 r10 : Int}  (rf4 : 0 ≤ (-1) * q13 + r10) : 0 ≤ (-1) * q13 + r10 := by omega
theorem bd_rf24_0 {q13 r10 m18 m25 x2 : Int} (b_x2 : 0 ≤ x2 ∧ x2 ≤ 255) (rf24 : 0 ≤ (-1) * q13 + r10) (m18e : Hd (q13 * x2 = m18)) (m25e : Hd (r10 * x2 = m25)) : 0 ≤ (-1) * m18 + m25 := by
  have e1 : ((-1) * q13 + r10) * (x2) = (-1) * m18 + m25 := ((by simp only [Int.add_mul, Int.mul_add, Int.mul_assoc, Int.mul_comm, Int.mul_left_comm, Int.reduceMul, Int.reduceNeg, Int.mul_one, Int.one_mul] <;> omega : ((-1) * q13 + r10) * (x2) = (-1) * (q13 * x2) + r10 * x2).trans (by (try simp only [m18e.out, m25e.out]) <;> omega))
  exact e1 ▸ Int.mul_nonneg (by omega) (by omega)
theorem bd_rf25 {q53 x15 r54 w52 m51 x20 : Int} (b_r54 : 0 ≤ r54 ∧ r54 ≤ 254) (q53s : w52 = 255 * q53 + r54) (w52s : m51 = w52) (m51f4 : m51 ≤ (0) * x20 + (255) * x15 - (0)) : 0 ≤ (-1) * q53 + x15 := by omega
theorem bd_d0 {x28 q7 x3 x29 : Int}  (po0_0 : x28 ≤ q7 + x3 ∧ q7 + x3 ≤ x29) : (x28 : Int) ≤ q7 + x3 := by omega
theorem bd_d1 {q7 x3 x29 x28 : Int}  (po0_0 : x28 ≤ q7 + x3 ∧ q7 + x3 ≤ x29) : (q7 + x3 : Int) ≤ x29 := by omega
theorem bd_d2 {x30 q13 x5 x31 : Int}  (po0_1 : x30 ≤ q13 + x5 ∧ q13 + x5 ≤ x31) : (x30 : Int) ≤ q13 + x5 := by omega
theorem bd_d3 {q13 x5 x31 x30 : Int}  (po0_1 : x30 ≤ q13 + x5 ∧ q13 + x5 ≤ x31) : (q13 + x5 : Int) ≤ x31 := by omega
theorem bd_d4 {x3 x28 x29 r4 : Int}  (po0_2 : x3 ≤ x28 ∧ x29 ≤ r4 + x3) : (x3 : Int) ≤ x28 := by omega
theorem bd_d5 {x29 r4 x3 x28 : Int}  (po0_2 : x3 ≤ x28 ∧ x29 ≤ r4 + x3) : (x29 : Int) ≤ r4 + x3 := by omega
theorem bd_d6 {x5 x30 x31 r10 : Int}  (po0_3 : x5 ≤ x30 ∧ x31 ≤ r10 + x5) : (x5 : Int) ≤ x30 := by omega
theorem bd_d7 {x31 r10 x5 x30 : Int}  (po0_3 : x5 ≤ x30 ∧ x31 ≤ r10 + x5) : (x31 : Int) ≤ r10 + x5 := by omega
theorem bd_d8 {x28 x29 q7 x3 : Int}  (po0_0 : x28 ≤ q7 + x3 ∧ q7 + x3 ≤ x29) : (x28 : Int) ≤ x29 := by omega
theorem bd_d9 {x30 x31 q13 x5 : Int}  (po0_1 : x30 ≤ q13 + x5 ∧ q13 + x5 ≤ x31) : (x30 : Int) ≤ x31 := by omega
theorem bd_d10 {x33 q7 x3 x34 : Int}  (po1_0 : x33 ≤ q7 + x3 ∧ q7 + x3 ≤ x34) : (x33 : Int) ≤ q7 + x3 := by omega
theorem bd_d11 {q7 x3 x34 x33 : Int}  (po1_0 : x33 ≤ q7 + x3 ∧ q7 + x3 ≤ x34) : (q7 + x3 : Int) ≤ x34 := by omega
theorem bd_d12 {x35 q13 x5 x36 : Int}  (po1_1 : x35 ≤ q13 + x5 ∧ q13 + x5 ≤ x36) : (x35 : Int) ≤ q13 + x5 := by omega
theorem bd_d13 {q13 x5 x36 x35 : Int}  (po1_1 : x35 ≤ q13 + x5 ∧ q13 + x5 ≤ x36) : (q13 + x5 : Int) ≤ x36 := by omega
theorem bd_d14 {x3 x33 x34 r4 : Int}  (po1_2 : x3 ≤ x33 ∧ x34 ≤ r4 + x3) : (x3 : Int) ≤ x33 := by omega
theorem bd_d15 {x34 r4 x3 x33 : Int}  (po1_2 : x3 ≤ x33 ∧ x34 ≤ r4 + x3) : (x34 : Int) ≤ r4 + x3 := by omega
theorem bd_d16 {x5 x35 x36 r10 : Int}  (po1_3 : x5 ≤ x35 ∧ x36 ≤ r10 + x5) : (x5 : Int) ≤ x35 := by omega
theorem bd_d17 {x36 r10 x5 x35 : Int}  (po1_3 : x5 ≤ x35 ∧ x36 ≤ r10 + x5) : (x36 : Int) ≤ r10 + x5 := by omega
theorem bd_d18 {x33 x34 q7 x3 : Int}  (po1_0 : x33 ≤ q7 + x3 ∧ q7 + x3 ≤ x34) : (x33 : Int) ≤ x34 := by omega
theorem bd_d19 {x35 x36 q13 x5 : Int}  (po1_1 : x35 ≤ q13 + x5 ∧ q13 + x5 ≤ x36) : (x35 : Int) ≤ x36 := by omega
theorem bd_t21 {w17 w20 x0 : Int} (b_w17 : 0 ≤ w17 ∧ w17 ≤ 1601400) (b_w20 : 0 ≤ w20 ∧ w20 ≤ 2402100) (b_x0 : 0 ≤ x0 ∧ x0 ≤ 255) : ¬ ((w17 + w20 + 10000 * x0 + 1000 : Int) = 0) := by omega
theorem bd_t22 {x32 : Int} (b_x32 : 0 ≤ x32 ∧ x32 ≤ 0) : (x32 : Int) = 0 := by omega
theorem bd_t23 {x0 : Int} (b_x0 : 0 ≤ x0 ∧ x0 ≤ 255) : ¬ ((10 * x0 + 1 : Int) ≤ 0) := by omega
theorem bd_t24 {x0 : Int} (b_x0 : 0 ≤ x0 ∧ x0 ≤ 255) : (0 : Int) ≤ 10 * x0 + 1 := by omega
theorem bd_t25 {x0 : Int} (b_x0 : 0 ≤ x0 ∧ x0 ≤ 255) : (10 * x0 + 1 : Int) ≤ 100000 := by omega
theorem bd_t26 {x1 : Int} (b_x1 : 0 ≤ x1 ∧ x1 ≤ 255) : (0 : Int) ≤ 20 * x1 := by omega
theorem bd_t27 {x1 : Int} (b_x1 : 0 ≤ x1 ∧ x1 ≤ 255) : (20 * x1 : Int) ≤ 100000 := by omega
theorem bd_t28 {x2 : Int} (b_x2 : 0 ≤ x2 ∧ x2 ≤ 255) : (0 : Int) ≤ 30 * x2 := by omega
theorem bd_t29 {x2 : Int} (b_x2 : 0 ≤ x2 ∧ x2 ≤ 255) : (30 * x2 : Int) ≤ 100000 := by omega
theorem bd_t30 {x3 : Int} (b_x3 : 0 ≤ x3 ∧ x3 ≤ 255) : (0 : Int) ≤ x3 := by omega
theorem bd_t31 {x3 r4 : Int} (b_x3 : 0 ≤ x3 ∧ x3 ≤ 255) (b_r4 : 0 ≤ r4 ∧ r4 ≤ 59) : (x3 : Int) ≤ r4 + x3 := by omega
theorem bd_t32 {r4 x3 : Int} (b_r4 : 0 ≤ r4 ∧ r4 ≤ 59) (b_x3 : 0 ≤ x3 ∧ x3 ≤ 255) : (r4 + x3 : Int) ≤ 1000 := by omega
theorem bd_t33 {x5 : Int} (b_x5 : 0 ≤ x5 ∧ x5 ≤ 255) : (0 : Int) ≤ x5 := by omega
theorem bd_t34 {x5 r10 : Int} (b_x5 : 0 ≤ x5 ∧ x5 ≤ 255) (b_r10 : 0 ≤ r10 ∧ r10 ≤ 59) : (x5 : Int) ≤ r10 + x5 := by omega
theorem bd_t35 {r10 x5 : Int} (b_r10 : 0 ≤ r10 ∧ r10 ≤ 59) (b_x5 : 0 ≤ x5 ∧ x5 ≤ 255) : (r10 + x5 : Int) ≤ 1000 := by omega
theorem bd_t36 {x7 : Int} (b_x7 : 0 ≤ x7 ∧ x7 ≤ 255) : (1 : Int) ≤ 100 * x7 + 1 := by omega
theorem bd_t37 {x7 x8 : Int} (b_x7 : 0 ≤ x7 ∧ x7 ≤ 255) (b_x8 : 0 ≤ x8 ∧ x8 ≤ 255) : (100 * x7 + 1 : Int) ≤ 100 * x7 + 10 * x8 + 1 := by omega
theorem bd_t38 {x7 x8 : Int} (b_x7 : 0 ≤ x7 ∧ x7 ≤ 255) (b_x8 : 0 ≤ x8 ∧ x8 ≤ 255) : (100 * x7 + 10 * x8 + 1 : Int) ≤ 100000000 := by omega
theorem bd_t39 {x9 : Int} (b_x9 : 0 ≤ x9 ∧ x9 ≤ 255) : (1 : Int) ≤ x9 + 1 := by omega
theorem bd_t40 {x9 r22 : Int} (b_x9 : 0 ≤ x9 ∧ x9 ≤ 255) (b_r22 : 0 ≤ r22 ∧ r22 ≤ 19) : (x9 + 1 : Int) ≤ r22 + x9 + 1 := by omega
theorem bd_t41 {r22 x9 : Int} (b_r22 : 0 ≤ r22 ∧ r22 ≤ 19) (b_x9 : 0 ≤ x9 ∧ x9 ≤ 255) : (r22 + x9 + 1 : Int) ≤ 100000 := by omega
theorem bd_t42 {x11 : Int} (b_x11 : 0 ≤ x11 ∧ x11 ≤ 255) : (1 : Int) ≤ 100 * x11 + 1 := by omega
theorem bd_t43 {x11 x12 : Int} (b_x11 : 0 ≤ x11 ∧ x11 ≤ 255) (b_x12 : 0 ≤ x12 ∧ x12 ≤ 255) : (100 * x11 + 1 : Int) ≤ 100 * x11 + 10 * x12 + 1 := by omega
theorem bd_t44 {x11 x12 : Int} (b_x11 : 0 ≤ x11 ∧ x11 ≤ 255) (b_x12 : 0 ≤ x12 ∧ x12 ≤ 255) : (100 * x11 + 10 * x12 + 1 : Int) ≤ 100000000 := by omega
theorem bd_t45 {x14 : Int} (b_x14 : 0 ≤ x14 ∧ x14 ≤ 65535) : (0 : Int) ≤ 500 * x14 := by omega
theorem bd_t46 {x14 x15 : Int} (b_x14 : 0 ≤ x14 ∧ x14 ≤ 65535) (b_x15 : 0 ≤ x15 ∧ x15 ≤ 65535) : (500 * x14 : Int) ≤ 500 * x14 + x15 := by omega
theorem bd_t47 {x14 x15 : Int} (b_x14 : 0 ≤ x14 ∧ x14 ≤ 65535) (b_x15 : 0 ≤ x15 ∧ x15 ≤ 65535) : (500 * x14 + x15 : Int) ≤ 10000000000000 := by omega
theorem bd_t48 {w24 w26 x0 : Int} (b_w24 : 0 ≤ w24 ∧ w24 ≤ 1601400) (b_w26 : 0 ≤ w26 ∧ w26 ≤ 2402100) (b_x0 : 0 ≤ x0 ∧ x0 ≤ 255) : ¬ ((w24 + w26 + 10000 * x0 + 1000 : Int) = 0) := by omega
theorem bd_t49 {w27 w28 x0 : Int} (b_w27 : 0 ≤ w27 ∧ w27 ≤ 1300500) (b_w28 : 0 ≤ w28 ∧ w28 ≤ 1950750) (b_x0 : 0 ≤ x0 ∧ x0 ≤ 255) : ¬ ((w27 + w28 + 10000 * x0 + 1000 : Int) = 0) := by omega
theorem bd_t50 {x28 : Int} (b_x28 : 0 ≤ x28 ∧ x28 ≤ 1000) : (0 : Int) ≤ x28 := by omega
theorem bd_t51 {x29 : Int} (b_x29 : 0 ≤ x29 ∧ x29 ≤ 1000) : (x29 : Int) ≤ 1000 := by omega
theorem bd_t52 {x30 : Int} (b_x30 : 0 ≤ x30 ∧ x30 ≤ 1000) : (0 : Int) ≤ x30 := by omega
theorem bd_t53 {x31 : Int} (b_x31 : 0 ≤ x31 ∧ x31 ≤ 1000) : (x31 : Int) ≤ 1000 := by omega
theorem bd_t54 {w30 w32 x0 : Int} (b_w30 : 0 ≤ w30 ∧ w30 ≤ 5100000) (b_w32 : 0 ≤ w32 ∧ w32 ≤ 7650000) (b_x0 : 0 ≤ x0 ∧ x0 ≤ 255) : ¬ ((w30 + w32 + 10000 * x0 + 1000 : Int) = 0) := by omega
theorem bd_t55 {w34 w36 x0 : Int} (b_w34 : 0 ≤ w34 ∧ w34 ≤ 5100000) (b_w36 : 0 ≤ w36 ∧ w36 ≤ 7650000) (b_x0 : 0 ≤ x0 ∧ x0 ≤ 255) : ¬ ((w34 + w36 + 10000 * x0 + 1000 : Int) = 0) := by omega
theorem bd_d20 {q39 q42 w37 w41 w38 w24 w26 x0 w30 w32 m16 m23 m19 m25 m29 m31 : Int} (b_w37 : 0 ≤ w37 ∧ w37 ≤ 32767500000) (rf26 : w37 ≤ w37 → w41 ≤ w38 → 0 ≤ w37 → q39 ≤ q42) (w38s : w24 + w26 + 10000 * x0 + 1000 = w38) (w41s : w30 + w32 + 10000 * x0 + 1000 = w41) (w24s : 20 * m16 + 20 * m23 = w24) (w26s : 30 * m19 + 30 * m25 = w26) (w30s : 20 * m29 = w30) (w32s : 30 * m31 = w32) (rf8_0 : 0 ≤ m16 + m23 + (-1) * m29) (rf12_0 : 0 ≤ m19 + m25 + (-1) * m31) : (q39 : Int) ≤ q42 := by omega
theorem bd_d21 {q46 q49 w44 w48 w45 w34 w36 x0 w27 w28 m33 m35 m16 m19 : Int} (b_w44 : 0 ≤ w44 ∧ w44 ≤ 32833035000) (rf46 : w44 ≤ w44 → w48 ≤ w45 → 0 ≤ w44 → q46 ≤ q49) (w45s : w34 + w36 + 10000 * x0 + 1000 = w45) (w48s : w27 + w28 + 10000 * x0 + 1000 = w48) (w34s : 20 * m33 = w34) (w36s : 30 * m35 = w36) (w27s : 20 * m16 = w27) (w28s : 30 * m19 = w28) (rf5_0 : 0 ≤ (-1) * m16 + m33) (rf9_0 : 0 ≤ (-1) * m19 + m35) : (q46 : Int) ≤ q49 := by omega
theorem bd_d22 {q42 q57 q53 w55 w37 w56 w41 x14 w30 w32 x0 w17 w20 m29 m31 m15 m16 m18 m19 : Int} (b_q53 : 0 ≤ q53 ∧ q53 ≤ 65535) (b_w55 : 0 ≤ w55 ∧ w55 ≤ 32833035000) (rf38 : w37 ≤ w55 → w56 ≤ w41 → 0 ≤ w55 → q42 ≤ q57) (w37s : 500000 * x14 = w37) (w41s : w30 + w32 + 10000 * x0 + 1000 = w41) (w55s : 1000 * q53 + 500000 * x14 = w55) (w56s : w17 + w20 + 10000 * x0 + 1000 = w56) (w30s : 20 * m29 = w30) (w32s : 30 * m31 = w32) (w17s : 20 * m15 + 20 * m16 = w17) (w20s : 30 * m18 + 30 * m19 = w20) (rf7_0 : 0 ≤ (-1) * m15 + (-1) * m16 + m29) (rf11_0 : 0 ≤ (-1) * m18 + (-1) * m19 + m31) : (q42 : Int) ≤ q57 := by omega
theorem bd_d23 {q57 q46 w44 w55 w45 w56 q53 x14 w17 w20 x0 x15 w34 w36 m15 m16 m18 m19 m33 m35 : Int} (b_w44 : 0 ≤ w44 ∧ w44 ≤ 32833035000) (rf64 : w55 ≤ w44 → w45 ≤ w56 → 0 ≤ w44 → q57 ≤ q46) (w55s : 1000 * q53 + 500000 * x14 = w55) (w56s : w17 + w20 + 10000 * x0 + 1000 = w56) (w44s : 500000 * x14 + 1000 * x15 = w44) (w45s : w34 + w36 + 10000 * x0 + 1000 = w45) (rf25 : 0 ≤ (-1) * q53 + x15) (w17s : 20 * m15 + 20 * m16 = w17) (w20s : 30 * m18 + 30 * m19 = w20) (w34s : 20 * m33 = w34) (w36s : 30 * m35 = w36) (rf6_0 : 0 ≤ m15 + m16 + (-1) * m33) (rf10_0 : 0 ≤ m18 + m19 + (-1) * m35) : (q57 : Int) ≤ q46 := by omega
theorem bd_t60 {x37 : Int} (b_x37 : 0 ≤ x37 ∧ x37 ≤ 0) : (x37 : Int) = 0 := by omega
theorem bd_t61 {x33 : Int} (b_x33 : 0 ≤ x33 ∧ x33 ≤ 1000) : (0 : Int) ≤ x33 := by omega
theorem bd_t62 {x34 : Int} (b_x34 : 0 ≤ x34 ∧ x34 ≤ 1000) : (x34 : Int) ≤ 1000 := by omega
theorem bd_t63 {x35 : Int} (b_x35 : 0 ≤ x35 ∧ x35 ≤ 1000) : (0 : Int) ≤ x35 := by omega
theorem bd_t64 {x36 : Int} (b_x36 : 0 ≤ x36 ∧ x36 ≤ 1000) : (x36 : Int) ≤ 1000 := by omega
theorem bd_t65 {w60 w62 x0 : Int} (b_w60 : 0 ≤ w60 ∧ w60 ≤ 5100000) (b_w62 : 0 ≤ w62 ∧ w62 ≤ 7650000) (b_x0 : 0 ≤ x0 ∧ x0 ≤ 255) : ¬ ((w60 + w62 + 10000 * x0 + 1000 : Int) = 0) := by omega
theorem bd_t66 {w64 w66 x0 : Int} (b_w64 : 0 ≤ w64 ∧ w64 ≤ 5100000) (b_w66 : 0 ≤ w66 ∧ w66 ≤ 7650000) (b_x0 : 0 ≤ x0 ∧ x0 ≤ 255) : ¬ ((w64 + w66 + 10000 * x0 + 1000 : Int) = 0) := by omega
theorem bd_t67 {q68 q71 : Int} (b_q68 : 0 ≤ q68 ∧ q68 ≤ 0) (b_q71 : 0 ≤ q71 ∧ q71 ≤ 0) : (q68 : Int) ≤ q71 := by omega
theorem bd_t68 {q74 q76 : Int} (b_q74 : 0 ≤ q74 ∧ q74 ≤ 0) (b_q76 : 0 ≤ q76 ∧ q76 ≤ 0) : (q74 : Int) ≤ q76 := by omega
theorem bd_t69 {q71 q78 : Int} (b_q71 : 0 ≤ q71 ∧ q71 ≤ 0) (b_q78 : 0 ≤ q78 ∧ q78 ≤ 0) : (q71 : Int) ≤ q78 := by omega
theorem bd_t70 {q78 q74 : Int} (b_q78 : 0 ≤ q78 ∧ q78 ≤ 0) (b_q74 : 0 ≤ q74 ∧ q74 ≤ 0) : (q78 : Int) ≤ q74 := by omega
theorem bd_goal {ρ : Env} {x0 x1 x2 x3 x4 x5 x6 x7 x8 x9 x10 x11 x12 x13 x14 x15 x16 x17 x18 x19 x20 x21 x22 x23 x24 x25 x26 x27 x28 x29 x30 x31 x32 x33 x34 x35 x36 x37 : Int} (e0 : Is ρ (.v 0) x0) (b_x0 : 0 ≤ x0 ∧ x0 ≤ 255) (e1 : Is ρ (.v 1) x1) (b_x1 : 0 ≤ x1 ∧ x1 ≤ 255) (e2 : Is ρ (.v 2) x2) (b_x2 : 0 ≤ x2 ∧ x2 ≤ 255) (e3 : Is ρ (.v 3) x3) (b_x3 : 0 ≤ x3 ∧ x3 ≤ 255) (e4 : Is ρ (.v 4) x4) (b_x4 : 0 ≤ x4 ∧ x4 ≤ 255) (e5 : Is ρ (.v 5) x5) (b_x5 : 0 ≤ x5 ∧ x5 ≤ 255) (e6 : Is ρ (.v 6) x6) (b_x6 : 0 ≤ x6 ∧ x6 ≤ 255) (e7 : Is ρ (.v 7) x7) (b_x7 : 0 ≤ x7 ∧ x7 ≤ 255) (e8 : Is ρ (.v 8) x8) (b_x8 : 0 ≤ x8 ∧ x8 ≤ 255) (e9 : Is ρ (.v 9) x9) (b_x9 : 0 ≤ x9 ∧ x9 ≤ 255) (e10 : Is ρ (.v 10) x10) (b_x10 : 0 ≤ x10 ∧ x10 ≤ 255) (e11 : Is ρ (.v 11) x11) (b_x11 : 0 ≤ x11 ∧ x11 ≤ 255) (e12 : Is ρ (.v 12) x12) (b_x12 : 0 ≤ x12 ∧ x12 ≤ 255) (e13 : Is ρ (.v 13) x13) (b_x13 : 0 ≤ x13 ∧ x13 ≤ 255) (e14 : Is ρ (.v 14) x14) (b_x14 : 0 ≤ x14 ∧ x14 ≤ 65535) (e15 : Is ρ (.v 15) x15) (b_x15 : 0 ≤ x15 ∧ x15 ≤ 65535) (e16 : Is ρ (.v 16) x16) (b_x16 : 0 ≤ x16 ∧ x16 ≤ 65535) (e17 : Is ρ (.v 17) x17) (b_x17 : 0 ≤ x17 ∧ x17 ≤ 65535) (e18 : Is ρ (.v 18) x18) (b_x18 : 0 ≤ x18 ∧ x18 ≤ 255) (e19 : Is ρ (.v 19) x19) (b_x19 : 0 ≤ x19 ∧ x19 ≤ 255) (e20 : Is ρ (.v 20) x20) (b_x20 : 0 ≤ x20 ∧ x20 ≤ 255) (e21 : Is ρ (.v 21) x21) (b_x21 : 0 ≤ x21 ∧ x21 ≤ 255) (e22 : Is ρ (.v 22) x22) (b_x22 : 0 ≤ x22 ∧ x22 ≤ 255) (e23 : Is ρ (.v 23) x23) (b_x23 : 0 ≤ x23 ∧ x23 ≤ 255) (e24 : Is ρ (.v 24) x24) (b_x24 : 0 ≤ x24 ∧ x24 ≤ 255) (e25 : Is ρ (.v 25) x25) (b_x25 : 0 ≤ x25 ∧ x25 ≤ 255) (e26 : Is ρ (.v 26) x26) (b_x26 : 0 ≤ x26 ∧ x26 ≤ 255) (e27 : Is ρ (.v 27) x27) (b_x27 : 0 ≤ x27 ∧ x27 ≤ 255) (e28 : Is ρ (.v 28) x28) (b_x28 : 0 ≤ x28 ∧ x28 ≤ 1000) (e29 : Is ρ (.v 29) x29) (b_x29 : 0 ≤ x29 ∧ x29 ≤ 1000) (e30 : Is ρ (.v 30) x30) (b_x30 : 0 ≤ x30 ∧ x30 ≤ 1000) (e31 : Is ρ (.v 31) x31) (b_x31 : 0 ≤ x31 ∧ x31 ≤ 1000) (e32 : Is ρ (.v 32) x32) (b_x32 : 0 ≤ x32 ∧ x32 ≤ 0) (e33 : Is ρ (.v 33) x33) (b_x33 : 0 ≤ x33 ∧ x33 ≤ 1000) (e34 : Is ρ (.v 34) x34) (b_x34 : 0 ≤ x34 ∧ x34 ≤ 1000) (e35 : Is ρ (.v 35) x35) (b_x35 : 0 ≤ x35 ∧ x35 ≤ 1000) (e36 : Is ρ (.v 36) x36) (b_x36 : 0 ≤ x36 ∧ x36 ≤ 1000) (e37 : Is ρ (.v 37) x37) (b_x37 : 0 ≤ x37 ∧ x37 ≤ 0) (p0 : blePost (IE.den ρ bd3) (IE.den ρ bd6) (IE.den ρ bd19) (IE.den ρ bd7) (IE.den ρ bd11) (IE.den ρ bd20) (IE.den ρ bd24) (IE.den ρ bd33) (IE.den ρ bd36) (IE.den ρ bd38) (IE.den ρ bd41) (IE.den ρ bd44) (IE.den ρ bd47) (IE.den ρ bd49) (IE.den ρ bd51) (IE.den ρ bd108) (IE.den ρ bd110) (IE.den ρ bd15) (IE.den ρ bd28) (IE.den ρ bd30) (x28, x29, x30, x31, x32)) (p1 : blePost (IE.den ρ bd3) (IE.den ρ bd6) (IE.den ρ bd19) (IE.den ρ bd7) (IE.den ρ bd11) (IE.den ρ bd20) (IE.den ρ bd24) (IE.den ρ bd33) (IE.den ρ bd36) (IE.den ρ bd38) (IE.den ρ bd41) (IE.den ρ bd44) (IE.den ρ bd47) (IE.den ρ (.c 0)) (IE.den ρ (.c 0)) (IE.den ρ bd112) (IE.den ρ bd113) (IE.den ρ bd15) (IE.den ρ bd28) (IE.den ρ bd30) (x33, x34, x35, x36, x37)) : bdTree.goal ρ := by
  obtain ⟨q1, r2, q1e, r2e, q1s, b_q1, b_r2⟩ := bd_aq1 b_x13
  obtain ⟨q3, r4, q3e, r4e, q3s, b_q3, b_r4⟩ := bd_aq3 b_x4
  obtain ⟨m5, m5e, m5f1, m5f2, m5f3, m5f4, b_m5⟩ := bd_am5 b_r4 b_x18
  obtain ⟨w6, w6s, b_w6⟩ := bd_aw6 b_m5
  obtain ⟨q7, r8, q7e, r8e, q7s, b_q7, b_r8⟩ := bd_aq7 b_w6
  obtain ⟨q9, r10, q9e, r10e, q9s, b_q9, b_r10⟩ := bd_aq9 b_x6
  obtain ⟨m11, m11e, m11f1, m11f2, m11f3, m11f4, b_m11⟩ := bd_am11 b_r10 b_x19
  obtain ⟨w12, w12s, b_w12⟩ := bd_aw12 b_m11
  obtain ⟨q13, r14, q13e, r14e, q13s, b_q13, b_r14⟩ := bd_aq13 b_w12
  obtain ⟨m15, m15e, m15f1, m15f2, m15f3, m15f4, b_m15⟩ := bd_am15 b_q7 b_x1
  obtain ⟨m16, m16e, m16f1, m16f2, m16f3, m16f4, b_m16⟩ := bd_am16 b_x1 b_x3
  obtain ⟨w17, w17s, b_w17⟩ := bd_aw17 b_m15 b_m16
  obtain ⟨m18, m18e, m18f1, m18f2, m18f3, m18f4, b_m18⟩ := bd_am18 b_q13 b_x2
  obtain ⟨m19, m19e, m19f1, m19f2, m19f3, m19f4, b_m19⟩ := bd_am19 b_x2 b_x5
  obtain ⟨w20, w20s, b_w20⟩ := bd_aw20 b_m18 b_m19
  obtain ⟨q21, r22, q21e, r22e, q21s, b_q21, b_r22⟩ := bd_aq21 b_x10
  obtain ⟨m23, m23e, m23f1, m23f2, m23f3, m23f4, b_m23⟩ := bd_am23 b_r4 b_x1
  obtain ⟨w24, w24s, b_w24⟩ := bd_aw24 b_m16 b_m23
  obtain ⟨m25, m25e, m25f1, m25f2, m25f3, m25f4, b_m25⟩ := bd_am25 b_r10 b_x2
  obtain ⟨w26, w26s, b_w26⟩ := bd_aw26 b_m19 b_m25
  obtain ⟨w27, w27s, b_w27⟩ := bd_aw27 b_m16
  obtain ⟨w28, w28s, b_w28⟩ := bd_aw28 b_m19
  obtain ⟨m29, m29e, m29f1, m29f2, m29f3, m29f4, b_m29⟩ := bd_am29 b_x1 b_x29
  obtain ⟨w30, w30s, b_w30⟩ := bd_aw30 b_m29
  obtain ⟨m31, m31e, m31f1, m31f2, m31f3, m31f4, b_m31⟩ := bd_am31 b_x2 b_x31
  obtain ⟨w32, w32s, b_w32⟩ := bd_aw32 b_m31
  obtain ⟨m33, m33e, m33f1, m33f2, m33f3, m33f4, b_m33⟩ := bd_am33 b_x1 b_x28
  obtain ⟨w34, w34s, b_w34⟩ := bd_aw34 b_m33
  obtain ⟨m35, m35e, m35f1, m35f2, m35f3, m35f4, b_m35⟩ := bd_am35 b_x2 b_x30
  obtain ⟨w36, w36s, b_w36⟩ := bd_aw36 b_m35
  obtain ⟨w37, w37s, b_w37⟩ := bd_aw37 b_x14
  obtain ⟨w38, w38s, b_w38⟩ := bd_aw38 b_w24 b_w26 b_x0
  obtain ⟨q39, q39e, q39h, b_q39⟩ := bd_aq39 b_w37 b_w38
  obtain ⟨m40, m40e, m40f1, m40f2, m40f3, m40f4, b_m40⟩ := bd_am40 b_q39 b_w38
  have q39d := qD_is q39h m40e.out
  obtain ⟨w41, w41s, b_w41⟩ := bd_aw41 b_w30 b_w32 b_x0
  obtain ⟨q42, q42e, q42h, b_q42⟩ := bd_aq42 b_w37 b_w41
  obtain ⟨m43, m43e, m43f1, m43f2, m43f3, m43f4, b_m43⟩ := bd_am43 b_q42 b_w41
  have q42d := qD_is q42h m43e.out
  obtain ⟨w44, w44s, b_w44⟩ := bd_aw44 b_x14 b_x15
  obtain ⟨w45, w45s, b_w45⟩ := bd_aw45 b_w34 b_w36 b_x0
  obtain ⟨q46, q46e, q46h, b_q46⟩ := bd_aq46 b_w44 b_w45
  obtain ⟨m47, m47e, m47f1, m47f2, m47f3, m47f4, b_m47⟩ := bd_am47 b_q46 b_w45
  have q46d := qD_is q46h m47e.out
  obtain ⟨w48, w48s, b_w48⟩ := bd_aw48 b_w27 b_w28 b_x0
  obtain ⟨q49, q49e, q49h, b_q49⟩ := bd_aq49 b_w44 b_w48
  obtain ⟨m50, m50e, m50f1, m50f2, m50f3, m50f4, b_m50⟩ := bd_am50 b_q49 b_w48
  have q49d := qD_is q49h m50e.out
  obtain ⟨m51, m51e, m51f1, m51f2, m51f3, m51f4, b_m51⟩ := bd_am51 b_x15 b_x20
  obtain ⟨w52, w52s, b_w52⟩ := bd_aw52 b_m51
  obtain ⟨q53, r54, q53e, r54e, q53s, b_q53, b_r54⟩ := bd_aq53 b_w52
  obtain ⟨w55, w55s, b_w55⟩ := bd_aw55 b_q53 b_x14
  obtain ⟨w56, w56s, b_w56⟩ := bd_aw56 b_w17 b_w20 b_x0
  obtain ⟨q57, q57e, q57h, b_q57⟩ := bd_aq57 b_w55 b_w56
  obtain ⟨m58, m58e, m58f1, m58f2, m58f3, m58f4, b_m58⟩ := bd_am58 b_q57 b_w56
  have q57d := qD_is q57h m58e.out
  obtain ⟨m59, m59e, m59f1, m59f2, m59f3, m59f4, b_m59⟩ := bd_am59 b_x1 b_x34
  obtain ⟨w60, w60s, b_w60⟩ := bd_aw60 b_m59
  obtain ⟨m61, m61e, m61f1, m61f2, m61f3, m61f4, b_m61⟩ := bd_am61 b_x2 b_x36
  obtain ⟨w62, w62s, b_w62⟩ := bd_aw62 b_m61
  obtain ⟨m63, m63e, m63f1, m63f2, m63f3, m63f4, b_m63⟩ := bd_am63 b_x1 b_x33
  obtain ⟨w64, w64s, b_w64⟩ := bd_aw64 b_m63
  obtain ⟨m65, m65e, m65f1, m65f2, m65f3, m65f4, b_m65⟩ := bd_am65 b_x2 b_x35
  obtain ⟨w66, w66s, b_w66⟩ := bd_aw66 b_m65
  obtain ⟨w67, w67s, b_w67⟩ := bd_aw67 
  obtain ⟨q68, q68e, q68h, b_q68⟩ := bd_aq68 b_w67 b_w38
  obtain ⟨m69, m69e, m69f1, m69f2, m69f3, m69f4, b_m69⟩ := bd_am69 b_q68 b_w38
  have q68d := qD_is q68h m69e.out
  obtain ⟨w70, w70s, b_w70⟩ := bd_aw70 b_w60 b_w62 b_x0
  obtain ⟨q71, q71e, q71h, b_q71⟩ := bd_aq71 b_w67 b_w70
  obtain ⟨m72, m72e, m72f1, m72f2, m72f3, m72f4, b_m72⟩ := bd_am72 b_q71 b_w70
  have q71d := qD_is q71h m72e.out
  obtain ⟨w73, w73s, b_w73⟩ := bd_aw73 b_w64 b_w66 b_x0
  obtain ⟨q74, q74e, q74h, b_q74⟩ := bd_aq74 b_w67 b_w73
  obtain ⟨m75, m75e, m75f1, m75f2, m75f3, m75f4, b_m75⟩ := bd_am75 b_q74 b_w73
  have q74d := qD_is q74h m75e.out
  obtain ⟨q76, q76e, q76h, b_q76⟩ := bd_aq76 b_w67 b_w48
  obtain ⟨m77, m77e, m77f1, m77f2, m77f3, m77f4, b_m77⟩ := bd_am77 b_q76 b_w48
  have q76d := qD_is q76h m77e.out
  obtain ⟨q78, q78e, q78h, b_q78⟩ := bd_aq78 b_w67 b_w56
  obtain ⟨m79, m79e, m79f1, m79f2, m79f3, m79f4, b_m79⟩ := bd_am79 b_q78 b_w56
  have q78d := qD_is q78h m79e.out
  obtain ⟨u80, u80s, b_u80⟩ := bd_au80 b_q57 b_x26
  have rf1 := bd_rf1 b_q7 
  have rf2 := bd_rf2 b_r8 q7s w6s m5f4
  have rf3 := bd_rf3 b_q13 
  have rf4 := bd_rf4 b_r14 q13s w12s m11f4
  obtain ⟨h0, h3, h6, h7, h11, h15, h19, h20, h24, h28, h30, h33, h36, h38, h41, h44, h47, h49, h51, h55, h59, h63, h67, h70, h72, h75, h77, h84, h88, h92, h94, h96, h98, h100, h105, h108, h110, h112, h113⟩ := bd_g0 (ρ := ρ) e13 r2e e0 e1 e3 e4 r4e e18 m5e ⟨w6s⟩ q7e e2 e5 e6 r10e e19 m11e ⟨w12s⟩ q13e m15e m16e ⟨w17s⟩ m18e m19e ⟨w20s⟩ e7 e8 e9 e10 r22e e11 e12 e14 e15 m23e ⟨w24s⟩ m25e ⟨w26s⟩ ⟨w27s⟩ ⟨w28s⟩ e29 m29e ⟨w30s⟩ e31 m31e ⟨w32s⟩ e28 m33e ⟨w34s⟩ e30 m35e ⟨w36s⟩ q39e ⟨w37s⟩ ⟨w38s⟩ q42e ⟨w41s⟩ q46e ⟨w44s⟩ ⟨w45s⟩ q49e ⟨w48s⟩ e20 m51e ⟨w52s⟩ q53e q57e ⟨w55s⟩ ⟨w56s⟩ e34 m59e ⟨w60s⟩ e36 m61e ⟨w62s⟩ e33 m63e ⟨w64s⟩ e35 m65e ⟨w66s⟩ q68e ⟨w67s⟩ q71e ⟨w70s⟩ q74e ⟨w73s⟩ q76e q78e e26 ⟨u80s⟩ e27 b_x13 b_r2 b_x0 b_x1 b_x3 b_x4 b_r4 b_x18 b_w6 b_m5 b_q7 b_x2 b_x5 b_x6 b_r10 b_x19 b_w12 b_m11 b_q13 b_w17 b_m15 b_m16 b_w20 b_m18 b_m19 b_x7 b_x8 b_x9 b_x10 b_r22 b_x11 b_x12 b_x14 b_x15 b_w24 b_m23 b_w26 b_m25 b_w27 b_w28 b_x29 b_w30 b_m29 b_x31 b_w32 b_m31 b_x28 b_w34 b_m33 b_x30 b_w36 b_m35 b_q39 b_w37 b_w38 b_q42 b_w41 b_q46 b_w44 b_w45 b_q49 b_w48 b_x20 b_w52 b_m51 b_q53 b_q57 b_w55 b_w56 b_x34 b_w60 b_m59 b_x36 b_w62 b_m61 b_x33 b_w64 b_m63 b_x35 b_w66 b_m65 b_q68 b_w67 b_q71 b_w70 b_q74 b_w73 b_q76 b_q78 b_x26 b_u80 b_x27
  have po0_0 : x28 ≤ q7 + x3 ∧ q7 + x3 ≤ x29 := by
    have h := p0.2.1
    rw [(IE.Z_den _ _).trans h15.out] at h
    exact h
  have po0_1 : x30 ≤ q13 + x5 ∧ q13 + x5 ≤ x31 := by
    have h := p0.2.2.1
    rw [(IE.Z_den _ _).trans h28.out] at h
    exact h
  have po0_2 : x3 ≤ x28 ∧ x29 ≤ r4 + x3 := by
    have h := p0.2.2.2.1
    rw [(IE.Z_den _ _).trans h7.out, (IE.Z_den _ _).trans h11.out] at h
    exact h
  have po0_3 : x5 ≤ x30 ∧ x31 ≤ r10 + x5 := by
    have h := p0.2.2.2.2.1
    rw [(IE.Z_den _ _).trans h20.out, (IE.Z_den _ _).trans h24.out] at h
    exact h
  have po1_0 : x33 ≤ q7 + x3 ∧ q7 + x3 ≤ x34 := by
    have h := p1.2.1
    rw [(IE.Z_den _ _).trans h15.out] at h
    exact h
  have po1_1 : x35 ≤ q13 + x5 ∧ q13 + x5 ≤ x36 := by
    have h := p1.2.2.1
    rw [(IE.Z_den _ _).trans h28.out] at h
    exact h
  have po1_2 : x3 ≤ x33 ∧ x34 ≤ r4 + x3 := by
    have h := p1.2.2.2.1
    rw [(IE.Z_den _ _).trans h7.out, (IE.Z_den _ _).trans h11.out] at h
    exact h
  have po1_3 : x5 ≤ x35 ∧ x36 ≤ r10 + x5 := by
    have h := p1.2.2.2.2.1
    rw [(IE.Z_den _ _).trans h20.out, (IE.Z_den _ _).trans h24.out] at h
    exact h
  have rf5 := bd_rf5  po0_2
  have rf5_0 := bd_rf5_0 b_x1 rf5 m33e m16e
  have rf6 := bd_rf6  po0_0
  have rf6_0 := bd_rf6_0 b_x1 rf6 m15e m33e m16e
  have rf7 := bd_rf7  po0_0
  have rf7_0 := bd_rf7_0 b_x1 rf7 m15e m29e m16e
  have rf8 := bd_rf8  po0_2
  have rf8_0 := bd_rf8_0 b_x1 rf8 m23e m29e m16e
  have rf9 := bd_rf9  po0_3
  have rf9_0 := bd_rf9_0 b_x2 rf9 m35e m19e
  have rf10 := bd_rf10  po0_1
  have rf10_0 := bd_rf10_0 b_x2 rf10 m18e m35e m19e
  have rf11 := bd_rf11  po0_1
  have rf11_0 := bd_rf11_0 b_x2 rf11 m18e m31e m19e
  have rf12 := bd_rf12  po0_3
  have rf12_0 := bd_rf12_0 b_x2 rf12 m25e m31e m19e
  have rf13 := bd_rf13  po1_2
  have rf13_0 := bd_rf13_0 b_x1 rf13 m16e m63e
  have rf14 := bd_rf14  po1_0
  have rf14_0 := bd_rf14_0 b_x1 rf14 m15e m16e m63e
  have rf15 := bd_rf15  po1_0
  have rf15_0 := bd_rf15_0 b_x1 rf15 m15e m16e m59e
  have rf16 := bd_rf16  po1_2
  have rf16_0 := bd_rf16_0 b_x1 rf16 m23e m16e m59e
  have rf17 := bd_rf17  po1_3
  have rf17_0 := bd_rf17_0 b_x2 rf17 m65e m19e
  have rf18 := bd_rf18  po1_1
  have rf18_0 := bd_rf18_0 b_x2 rf18 m18e m65e m19e
  have rf19 := bd_rf19  po1_1
  have rf19_0 := bd_rf19_0 b_x2 rf19 m18e m61e m19e
  have rf20 := bd_rf20  po1_3
  have rf20_0 := bd_rf20_0 b_x2 rf20 m25e m61e m19e
  have rf21 := bd_rf21  rf1
  have rf21_0 := bd_rf21_0 b_x1 rf21 m15e
  have rf22 := bd_rf22  rf2
  have rf22_0 := bd_rf22_0 b_x1 rf22 m15e m23e
  have rf23 := bd_rf23  rf3
  have rf23_0 := bd_rf23_0 b_x2 rf23 m18e
  have rf24 := bd_rf24  rf4
  have rf24_0 := bd_rf24_0 b_x2 rf24 m18e m25e
  have rf25 := bd_rf25 b_r54 q53s w52s m51f4
  have rf26 : w37 ≤ w37 → w41 ≤ w38 → 0 ≤ w37 → q39 ≤ q42 := qD_mono q39h q42h (Int.le_trans (by decide) b_w38.1) (Int.le_trans (by decide) b_w41.1)
  have rf27 : w37 ≤ w44 → w45 ≤ w38 → 0 ≤ w44 → q39 ≤ q46 := qD_mono q39h q46h (Int.le_trans (by decide) b_w38.1) (Int.le_trans (by decide) b_w45.1)
  have rf28 : w37 ≤ w44 → w48 ≤ w38 → 0 ≤ w44 → q39 ≤ q49 := qD_mono q39h q49h (Int.le_trans (by decide) b_w38.1) (Int.le_trans (by decide) b_w48.1)
  have rf29 : w37 ≤ w55 → w56 ≤ w38 → 0 ≤ w55 → q39 ≤ q57 := qD_mono q39h q57h (Int.le_trans (by decide) b_w38.1) (Int.le_trans (by decide) b_w56.1)
  have rf30 : w37 ≤ w67 → w38 ≤ w38 → 0 ≤ w67 → q39 ≤ q68 := qD_mono q39h q68h (Int.le_trans (by decide) b_w38.1) (Int.le_trans (by decide) b_w38.1)
  have rf31 : w37 ≤ w67 → w70 ≤ w38 → 0 ≤ w67 → q39 ≤ q71 := qD_mono q39h q71h (Int.le_trans (by decide) b_w38.1) (Int.le_trans (by decide) b_w70.1)
  have rf32 : w37 ≤ w67 → w73 ≤ w38 → 0 ≤ w67 → q39 ≤ q74 := qD_mono q39h q74h (Int.le_trans (by decide) b_w38.1) (Int.le_trans (by decide) b_w73.1)
  have rf33 : w37 ≤ w67 → w48 ≤ w38 → 0 ≤ w67 → q39 ≤ q76 := qD_mono q39h q76h (Int.le_trans (by decide) b_w38.1) (Int.le_trans (by decide) b_w48.1)
  have rf34 : w37 ≤ w67 → w56 ≤ w38 → 0 ≤ w67 → q39 ≤ q78 := qD_mono q39h q78h (Int.le_trans (by decide) b_w38.1) (Int.le_trans (by decide) b_w56.1)
  have rf35 : w37 ≤ w37 → w38 ≤ w41 → 0 ≤ w37 → q42 ≤ q39 := qD_mono q42h q39h (Int.le_trans (by decide) b_w41.1) (Int.le_trans (by decide) b_w38.1)
  have rf36 : w37 ≤ w44 → w45 ≤ w41 → 0 ≤ w44 → q42 ≤ q46 := qD_mono q42h q46h (Int.le_trans (by decide) b_w41.1) (Int.le_trans (by decide) b_w45.1)
  have rf37 : w37 ≤ w44 → w48 ≤ w41 → 0 ≤ w44 → q42 ≤ q49 := qD_mono q42h q49h (Int.le_trans (by decide) b_w41.1) (Int.le_trans (by decide) b_w48.1)
  have rf38 : w37 ≤ w55 → w56 ≤ w41 → 0 ≤ w55 → q42 ≤ q57 := qD_mono q42h q57h (Int.le_trans (by decide) b_w41.1) (Int.le_trans (by decide) b_w56.1)
  have rf39 : w37 ≤ w67 → w38 ≤ w41 → 0 ≤ w67 → q42 ≤ q68 := qD_mono q42h q68h (Int.le_trans (by decide) b_w41.1) (Int.le_trans (by decide) b_w38.1)
  have rf40 : w37 ≤ w67 → w70 ≤ w41 → 0 ≤ w67 → q42 ≤ q71 := qD_mono q42h q71h (Int.le_trans (by decide) b_w41.1) (Int.le_trans (by decide) b_w70.1)
  have rf41 : w37 ≤ w67 → w73 ≤ w41 → 0 ≤ w67 → q42 ≤ q74 := qD_mono q42h q74h (Int.le_trans (by decide) b_w41.1) (Int.le_trans (by decide) b_w73.1)
  have rf42 : w37 ≤ w67 → w48 ≤ w41 → 0 ≤ w67 → q42 ≤ q76 := qD_mono q42h q76h (Int.le_trans (by decide) b_w41.1) (Int.le_trans (by decide) b_w48.1)
  have rf43 : w37 ≤ w67 → w56 ≤ w41 → 0 ≤ w67 → q42 ≤ q78 := qD_mono q42h q78h (Int.le_trans (by decide) b_w41.1) (Int.le_trans (by decide) b_w56.1)
  have rf44 : w44 ≤ w37 → w38 ≤ w45 → 0 ≤ w37 → q46 ≤ q39 := qD_mono q46h q39h (Int.le_trans (by decide) b_w45.1) (Int.le_trans (by decide) b_w38.1)
  have rf45 : w44 ≤ w37 → w41 ≤ w45 → 0 ≤ w37 → q46 ≤ q42 := qD_mono q46h q42h (Int.le_trans (by decide) b_w45.1) (Int.le_trans (by decide) b_w41.1)
  have rf46 : w44 ≤ w44 → w48 ≤ w45 → 0 ≤ w44 → q46 ≤ q49 := qD_mono q46h q49h (Int.le_trans (by decide) b_w45.1) (Int.le_trans (by decide) b_w48.1)
  have rf47 : w44 ≤ w55 → w56 ≤ w45 → 0 ≤ w55 → q46 ≤ q57 := qD_mono q46h q57h (Int.le_trans (by decide) b_w45.1) (Int.le_trans (by decide) b_w56.1)
  have rf48 : w44 ≤ w67 → w38 ≤ w45 → 0 ≤ w67 → q46 ≤ q68 := qD_mono q46h q68h (Int.le_trans (by decide) b_w45.1) (Int.le_trans (by decide) b_w38.1)
  have rf49 : w44 ≤ w67 → w70 ≤ w45 → 0 ≤ w67 → q46 ≤ q71 := qD_mono q46h q71h (Int.le_trans (by decide) b_w45.1) (Int.le_trans (by decide) b_w70.1)
  have rf50 : w44 ≤ w67 → w73 ≤ w45 → 0 ≤ w67 → q46 ≤ q74 := qD_mono q46h q74h (Int.le_trans (by decide) b_w45.1) (Int.le_trans (by decide) b_w73.1)
  have rf51 : w44 ≤ w67 → w48 ≤ w45 → 0 ≤ w67 → q46 ≤ q76 := qD_mono q46h q76h (Int.le_trans (by decide) b_w45.1) (Int.le_trans (by decide) b_w48.1)
  have rf52 : w44 ≤ w67 → w56 ≤ w45 → 0 ≤ w67 → q46 ≤ q78 := qD_mono q46h q78h (Int.le_trans (by decide) b_w45.1) (Int.le_trans (by decide) b_w56.1)
  have rf53 : w44 ≤ w37 → w38 ≤ w48 → 0 ≤ w37 → q49 ≤ q39 := qD_mono q49h q39h (Int.le_trans (by decide) b_w48.1) (Int.le_trans (by decide) b_w38.1)
  have rf54 : w44 ≤ w37 → w41 ≤ w48 → 0 ≤ w37 → q49 ≤ q42 := qD_mono q49h q42h (Int.le_trans (by decide) b_w48.1) (Int.le_trans (by decide) b_w41.1)
  have rf55 : w44 ≤ w44 → w45 ≤ w48 → 0 ≤ w44 → q49 ≤ q46 := qD_mono q49h q46h (Int.le_trans (by decide) b_w48.1) (Int.le_trans (by decide) b_w45.1)
  have rf56 : w44 ≤ w55 → w56 ≤ w48 → 0 ≤ w55 → q49 ≤ q57 := qD_mono q49h q57h (Int.le_trans (by decide) b_w48.1) (Int.le_trans (by decide) b_w56.1)
  have rf57 : w44 ≤ w67 → w38 ≤ w48 → 0 ≤ w67 → q49 ≤ q68 := qD_mono q49h q68h (Int.le_trans (by decide) b_w48.1) (Int.le_trans (by decide) b_w38.1)
  have rf58 : w44 ≤ w67 → w70 ≤ w48 → 0 ≤ w67 → q49 ≤ q71 := qD_mono q49h q71h (Int.le_trans (by decide) b_w48.1) (Int.le_trans (by decide) b_w70.1)
  have rf59 : w44 ≤ w67 → w73 ≤ w48 → 0 ≤ w67 → q49 ≤ q74 := qD_mono q49h q74h (Int.le_trans (by decide) b_w48.1) (Int.le_trans (by decide) b_w73.1)
  have rf60 : w44 ≤ w67 → w48 ≤ w48 → 0 ≤ w67 → q49 ≤ q76 := qD_mono q49h q76h (Int.le_trans (by decide) b_w48.1) (Int.le_trans (by decide) b_w48.1)
  have rf61 : w44 ≤ w67 → w56 ≤ w48 → 0 ≤ w67 → q49 ≤ q78 := qD_mono q49h q78h (Int.le_trans (by decide) b_w48.1) (Int.le_trans (by decide) b_w56.1)
  have rf62 : w55 ≤ w37 → w38 ≤ w56 → 0 ≤ w37 → q57 ≤ q39 := qD_mono q57h q39h (Int.le_trans (by decide) b_w56.1) (Int.le_trans (by decide) b_w38.1)
  have rf63 : w55 ≤ w37 → w41 ≤ w56 → 0 ≤ w37 → q57 ≤ q42 := qD_mono q57h q42h (Int.le_trans (by decide) b_w56.1) (Int.le_trans (by decide) b_w41.1)
  have rf64 : w55 ≤ w44 → w45 ≤ w56 → 0 ≤ w44 → q57 ≤ q46 := qD_mono q57h q46h (Int.le_trans (by decide) b_w56.1) (Int.le_trans (by decide) b_w45.1)
  have rf65 : w55 ≤ w44 → w48 ≤ w56 → 0 ≤ w44 → q57 ≤ q49 := qD_mono q57h q49h (Int.le_trans (by decide) b_w56.1) (Int.le_trans (by decide) b_w48.1)
  have rf66 : w55 ≤ w67 → w38 ≤ w56 → 0 ≤ w67 → q57 ≤ q68 := qD_mono q57h q68h (Int.le_trans (by decide) b_w56.1) (Int.le_trans (by decide) b_w38.1)
  have rf67 : w55 ≤ w67 → w70 ≤ w56 → 0 ≤ w67 → q57 ≤ q71 := qD_mono q57h q71h (Int.le_trans (by decide) b_w56.1) (Int.le_trans (by decide) b_w70.1)
  have rf68 : w55 ≤ w67 → w73 ≤ w56 → 0 ≤ w67 → q57 ≤ q74 := qD_mono q57h q74h (Int.le_trans (by decide) b_w56.1) (Int.le_trans (by decide) b_w73.1)
  have rf69 : w55 ≤ w67 → w48 ≤ w56 → 0 ≤ w67 → q57 ≤ q76 := qD_mono q57h q76h (Int.le_trans (by decide) b_w56.1) (Int.le_trans (by decide) b_w48.1)
  have rf70 : w55 ≤ w67 → w56 ≤ w56 → 0 ≤ w67 → q57 ≤ q78 := qD_mono q57h q78h (Int.le_trans (by decide) b_w56.1) (Int.le_trans (by decide) b_w56.1)
  have rf71 : w67 ≤ w37 → w38 ≤ w38 → 0 ≤ w37 → q68 ≤ q39 := qD_mono q68h q39h (Int.le_trans (by decide) b_w38.1) (Int.le_trans (by decide) b_w38.1)
  have rf72 : w67 ≤ w37 → w41 ≤ w38 → 0 ≤ w37 → q68 ≤ q42 := qD_mono q68h q42h (Int.le_trans (by decide) b_w38.1) (Int.le_trans (by decide) b_w41.1)
  have rf73 : w67 ≤ w44 → w45 ≤ w38 → 0 ≤ w44 → q68 ≤ q46 := qD_mono q68h q46h (Int.le_trans (by decide) b_w38.1) (Int.le_trans (by decide) b_w45.1)
  have rf74 : w67 ≤ w44 → w48 ≤ w38 → 0 ≤ w44 → q68 ≤ q49 := qD_mono q68h q49h (Int.le_trans (by decide) b_w38.1) (Int.le_trans (by decide) b_w48.1)
  have rf75 : w67 ≤ w55 → w56 ≤ w38 → 0 ≤ w55 → q68 ≤ q57 := qD_mono q68h q57h (Int.le_trans (by decide) b_w38.1) (Int.le_trans (by decide) b_w56.1)
  have rf76 : w67 ≤ w67 → w70 ≤ w38 → 0 ≤ w67 → q68 ≤ q71 := qD_mono q68h q71h (Int.le_trans (by decide) b_w38.1) (Int.le_trans (by decide) b_w70.1)
  have rf77 : w67 ≤ w67 → w73 ≤ w38 → 0 ≤ w67 → q68 ≤ q74 := qD_mono q68h q74h (Int.le_trans (by decide) b_w38.1) (Int.le_trans (by decide) b_w73.1)
  have rf78 : w67 ≤ w67 → w48 ≤ w38 → 0 ≤ w67 → q68 ≤ q76 := qD_mono q68h q76h (Int.le_trans (by decide) b_w38.1) (Int.le_trans (by decide) b_w48.1)
  have rf79 : w67 ≤ w67 → w56 ≤ w38 → 0 ≤ w67 → q68 ≤ q78 := qD_mono q68h q78h (Int.le_trans (by decide) b_w38.1) (Int.le_trans (by decide) b_w56.1)
  have rf80 : w67 ≤ w37 → w38 ≤ w70 → 0 ≤ w37 → q71 ≤ q39 := qD_mono q71h q39h (Int.le_trans (by decide) b_w70.1) (Int.le_trans (by decide) b_w38.1)
  have rf81 : w67 ≤ w37 → w41 ≤ w70 → 0 ≤ w37 → q71 ≤ q42 := qD_mono q71h q42h (Int.le_trans (by decide) b_w70.1) (Int.le_trans (by decide) b_w41.1)
  have rf82 : w67 ≤ w44 → w45 ≤ w70 → 0 ≤ w44 → q71 ≤ q46 := qD_mono q71h q46h (Int.le_trans (by decide) b_w70.1) (Int.le_trans (by decide) b_w45.1)
  have rf83 : w67 ≤ w44 → w48 ≤ w70 → 0 ≤ w44 → q71 ≤ q49 := qD_mono q71h q49h (Int.le_trans (by decide) b_w70.1) (Int.le_trans (by decide) b_w48.1)
  have rf84 : w67 ≤ w55 → w56 ≤ w70 → 0 ≤ w55 → q71 ≤ q57 := qD_mono q71h q57h (Int.le_trans (by decide) b_w70.1) (Int.le_trans (by decide) b_w56.1)
  have rf85 : w67 ≤ w67 → w38 ≤ w70 → 0 ≤ w67 → q71 ≤ q68 := qD_mono q71h q68h (Int.le_trans (by decide) b_w70.1) (Int.le_trans (by decide) b_w38.1)
  have rf86 : w67 ≤ w67 → w73 ≤ w70 → 0 ≤ w67 → q71 ≤ q74 := qD_mono q71h q74h (Int.le_trans (by decide) b_w70.1) (Int.le_trans (by decide) b_w73.1)
  have rf87 : w67 ≤ w67 → w48 ≤ w70 → 0 ≤ w67 → q71 ≤ q76 := qD_mono q71h q76h (Int.le_trans (by decide) b_w70.1) (Int.le_trans (by decide) b_w48.1)
  have rf88 : w67 ≤ w67 → w56 ≤ w70 → 0 ≤ w67 → q71 ≤ q78 := qD_mono q71h q78h (Int.le_trans (by decide) b_w70.1) (Int.le_trans (by decide) b_w56.1)
  have rf89 : w67 ≤ w37 → w38 ≤ w73 → 0 ≤ w37 → q74 ≤ q39 := qD_mono q74h q39h (Int.le_trans (by decide) b_w73.1) (Int.le_trans (by decide) b_w38.1)
  have rf90 : w67 ≤ w37 → w41 ≤ w73 → 0 ≤ w37 → q74 ≤ q42 := qD_mono q74h q42h (Int.le_trans (by decide) b_w73.1) (Int.le_trans (by decide) b_w41.1)
  have rf91 : w67 ≤ w44 → w45 ≤ w73 → 0 ≤ w44 → q74 ≤ q46 := qD_mono q74h q46h (Int.le_trans (by decide) b_w73.1) (Int.le_trans (by decide) b_w45.1)
  have rf92 : w67 ≤ w44 → w48 ≤ w73 → 0 ≤ w44 → q74 ≤ q49 := qD_mono q74h q49h (Int.le_trans (by decide) b_w73.1) (Int.le_trans (by decide) b_w48.1)
  have rf93 : w67 ≤ w55 → w56 ≤ w73 → 0 ≤ w55 → q74 ≤ q57 := qD_mono q74h q57h (Int.le_trans (by decide) b_w73.1) (Int.le_trans (by decide) b_w56.1)
  have rf94 : w67 ≤ w67 → w38 ≤ w73 → 0 ≤ w67 → q74 ≤ q68 := qD_mono q74h q68h (Int.le_trans (by decide) b_w73.1) (Int.le_trans (by decide) b_w38.1)
  have rf95 : w67 ≤ w67 → w70 ≤ w73 → 0 ≤ w67 → q74 ≤ q71 := qD_mono q74h q71h (Int.le_trans (by decide) b_w73.1) (Int.le_trans (by decide) b_w70.1)
  have rf96 : w67 ≤ w67 → w48 ≤ w73 → 0 ≤ w67 → q74 ≤ q76 := qD_mono q74h q76h (Int.le_trans (by decide) b_w73.1) (Int.le_trans (by decide) b_w48.1)
  have rf97 : w67 ≤ w67 → w56 ≤ w73 → 0 ≤ w67 → q74 ≤ q78 := qD_mono q74h q78h (Int.le_trans (by decide) b_w73.1) (Int.le_trans (by decide) b_w56.1)
  have rf98 : w67 ≤ w37 → w38 ≤ w48 → 0 ≤ w37 → q76 ≤ q39 := qD_mono q76h q39h (Int.le_trans (by decide) b_w48.1) (Int.le_trans (by decide) b_w38.1)
  have rf99 : w67 ≤ w37 → w41 ≤ w48 → 0 ≤ w37 → q76 ≤ q42 := qD_mono q76h q42h (Int.le_trans (by decide) b_w48.1) (Int.le_trans (by decide) b_w41.1)
  have rf100 : w67 ≤ w44 → w45 ≤ w48 → 0 ≤ w44 → q76 ≤ q46 := qD_mono q76h q46h (Int.le_trans (by decide) b_w48.1) (Int.le_trans (by decide) b_w45.1)
  have rf101 : w67 ≤ w44 → w48 ≤ w48 → 0 ≤ w44 → q76 ≤ q49 := qD_mono q76h q49h (Int.le_trans (by decide) b_w48.1) (Int.le_trans (by decide) b_w48.1)
  have rf102 : w67 ≤ w55 → w56 ≤ w48 → 0 ≤ w55 → q76 ≤ q57 := qD_mono q76h q57h (Int.le_trans (by decide) b_w48.1) (Int.le_trans (by decide) b_w56.1)
  have rf103 : w67 ≤ w67 → w38 ≤ w48 → 0 ≤ w67 → q76 ≤ q68 := qD_mono q76h q68h (Int.le_trans (by decide) b_w48.1) (Int.le_trans (by decide) b_w38.1)
  have rf104 : w67 ≤ w67 → w70 ≤ w48 → 0 ≤ w67 → q76 ≤ q71 := qD_mono q76h q71h (Int.le_trans (by decide) b_w48.1) (Int.le_trans (by decide) b_w70.1)
  have rf105 : w67 ≤ w67 → w73 ≤ w48 → 0 ≤ w67 → q76 ≤ q74 := qD_mono q76h q74h (Int.le_trans (by decide) b_w48.1) (Int.le_trans (by decide) b_w73.1)
  have rf106 : w67 ≤ w67 → w56 ≤ w48 → 0 ≤ w67 → q76 ≤ q78 := qD_mono q76h q78h (Int.le_trans (by decide) b_w48.1) (Int.le_trans (by decide) b_w56.1)
  have rf107 : w67 ≤ w37 → w38 ≤ w56 → 0 ≤ w37 → q78 ≤ q39 := qD_mono q78h q39h (Int.le_trans (by decide) b_w56.1) (Int.le_trans (by decide) b_w38.1)
  have rf108 : w67 ≤ w37 → w41 ≤ w56 → 0 ≤ w37 → q78 ≤ q42 := qD_mono q78h q42h (Int.le_trans (by decide) b_w56.1) (Int.le_trans (by decide) b_w41.1)
  have rf109 : w67 ≤ w44 → w45 ≤ w56 → 0 ≤ w44 → q78 ≤ q46 := qD_mono q78h q46h (Int.le_trans (by decide) b_w56.1) (Int.le_trans (by decide) b_w45.1)
  have rf110 : w67 ≤ w44 → w48 ≤ w56 → 0 ≤ w44 → q78 ≤ q49 := qD_mono q78h q49h (Int.le_trans (by decide) b_w56.1) (Int.le_trans (by decide) b_w48.1)
  have rf111 : w67 ≤ w55 → w56 ≤ w56 → 0 ≤ w55 → q78 ≤ q57 := qD_mono q78h q57h (Int.le_trans (by decide) b_w56.1) (Int.le_trans (by decide) b_w56.1)
  have rf112 : w67 ≤ w67 → w38 ≤ w56 → 0 ≤ w67 → q78 ≤ q68 := qD_mono q78h q68h (Int.le_trans (by decide) b_w56.1) (Int.le_trans (by decide) b_w38.1)
  have rf113 : w67 ≤ w67 → w70 ≤ w56 → 0 ≤ w67 → q78 ≤ q71 := qD_mono q78h q71h (Int.le_trans (by decide) b_w56.1) (Int.le_trans (by decide) b_w70.1)
  have rf114 : w67 ≤ w67 → w73 ≤ w56 → 0 ≤ w67 → q78 ≤ q74 := qD_mono q78h q74h (Int.le_trans (by decide) b_w56.1) (Int.le_trans (by decide) b_w73.1)
  have rf115 : w67 ≤ w67 → w48 ≤ w56 → 0 ≤ w67 → q78 ≤ q76 := qD_mono q78h q76h (Int.le_trans (by decide) b_w56.1) (Int.le_trans (by decide) b_w48.1)
  refine ask_p (fun g => ?_) (fun g => ?_)
  · have k0 := Zeqlt h0 (Zc 0) g; clear g
    refine aF (Neql h30 (Zc 0) (bd_t21 b_w17 b_w20 b_x0)) ?_
    refine aT (Peql e32 (Zc 0) (bd_t22 b_x32)) ?_
    refine aT (Pleq e28 h15 (bd_d0 po0_0)) ?_
    refine aT (Pleq h15 e29 (bd_d1 po0_0)) ?_
    refine aT (Pleq e30 h28 (bd_d2 po0_1)) ?_
    refine aT (Pleq h28 e31 (bd_d3 po0_1)) ?_
    refine aT (Pleq h7 e28 (bd_d4 po0_2)) ?_
    refine aT (Pleq e29 h11 (bd_d5 po0_2)) ?_
    refine aT (Pleq h20 e30 (bd_d6 po0_3)) ?_
    refine aT (Pleq e31 h24 (bd_d7 po0_3)) ?_
    refine aF (Nleq h3 (Zc 0) (bd_t23 b_x0)) ?_
    refine aT (Pleq (Zc 0) h3 (bd_t24 b_x0)) ?_
    refine aT (Pleq h3 (Zc 100000) (bd_t25 b_x0)) ?_
    refine aT (Pleq (Zc 0) h6 (bd_t26 b_x1)) ?_
    refine aT (Pleq h6 (Zc 100000) (bd_t27 b_x1)) ?_
    refine aT (Pleq (Zc 0) h19 (bd_t28 b_x2)) ?_
    refine aT (Pleq h19 (Zc 100000) (bd_t29 b_x2)) ?_
    refine aT (Pleq (Zc 0) h7 (bd_t30 b_x3)) ?_
    refine aT (Pleq h7 h11 (bd_t31 b_x3 b_r4)) ?_
    refine aT (Pleq h11 (Zc 1000) (bd_t32 b_r4 b_x3)) ?_
    refine aT (Pleq (Zc 0) h20 (bd_t33 b_x5)) ?_
    refine aT (Pleq h20 h24 (bd_t34 b_x5 b_r10)) ?_
    refine aT (Pleq h24 (Zc 1000) (bd_t35 b_r10 b_x5)) ?_
    refine aT (Pleq (Zc 1) h33 (bd_t36 b_x7)) ?_
    refine aT (Pleq h33 h36 (bd_t37 b_x7 b_x8)) ?_
    refine aT (Pleq h36 (Zc 100000000) (bd_t38 b_x7 b_x8)) ?_
    refine aT (Pleq (Zc 1) h38 (bd_t39 b_x9)) ?_
    refine aT (Pleq h38 h41 (bd_t40 b_x9 b_r22)) ?_
    refine aT (Pleq h41 (Zc 100000) (bd_t41 b_r22 b_x9)) ?_
    refine aT (Pleq (Zc 1) h44 (bd_t42 b_x11)) ?_
    refine aT (Pleq h44 h47 (bd_t43 b_x11 b_x12)) ?_
    refine aT (Pleq h47 (Zc 100000000) (bd_t44 b_x11 b_x12)) ?_
    refine aT (Pleq (Zc 0) h49 (bd_t45 b_x14)) ?_
    refine aT (Pleq h49 h51 (bd_t46 b_x14 b_x15)) ?_
    refine aT (Pleq h51 (Zc 10000000000000) (bd_t47 b_x14 b_x15)) ?_
    refine aF (Neql h55 (Zc 0) (bd_t48 b_w24 b_w26 b_x0)) ?_
    refine aF (Neql h59 (Zc 0) (bd_t49 b_w27 b_w28 b_x0)) ?_
    refine aT (Pleq (Zc 0) e28 (bd_t50 b_x28)) ?_
    refine aT (Pleq e28 e29 (bd_d8 po0_0)) ?_
    refine aT (Pleq e29 (Zc 1000) (bd_t51 b_x29)) ?_
    refine aT (Pleq (Zc 0) e30 (bd_t52 b_x30)) ?_
    refine aT (Pleq e30 e31 (bd_d9 po0_1)) ?_
    refine aT (Pleq e31 (Zc 1000) (bd_t53 b_x31)) ?_
    refine aF (Neql h63 (Zc 0) (bd_t54 b_w30 b_w32 b_x0)) ?_
    refine aF (Neql h67 (Zc 0) (bd_t55 b_w34 b_w36 b_x0)) ?_
    refine aT (Pleq h70 h72 (bd_d20 b_w37 rf26 w38s w41s w24s w26s w30s w32s rf8_0 rf12_0)) ?_
    refine aT (Pleq h75 h77 (bd_d21 b_w44 rf46 w45s w48s w34s w36s w27s w28s rf5_0 rf9_0)) ?_
    refine aT (Pleq h72 h84 (bd_d22 b_q53 b_w55 rf38 w37s w41s w55s w56s w30s w32s w17s w20s rf7_0 rf11_0)) ?_
    refine aT (Pleq h84 h75 (bd_d23 b_w44 rf64 w55s w56s w44s w45s rf25 w17s w20s w34s w36s rf6_0 rf10_0)) ?_
    exact rfl
  have k0 := Zeqlf h0 (Zc 0) g; clear g
  refine ask_q (fun g => ?_) (fun g => ?_)
  · have k1 := Zeqlf h0 (Zc 1) g; clear g
    refine aF (Neql h30 (Zc 0) (bd_t21 b_w17 b_w20 b_x0)) ?_
    refine aT (Peql e37 (Zc 0) (bd_t60 b_x37)) ?_
    refine aT (Pleq e33 h15 (bd_d10 po1_0)) ?_
    refine aT (Pleq h15 e34 (bd_d11 po1_0)) ?_
    refine aT (Pleq e35 h28 (bd_d12 po1_1)) ?_
    refine aT (Pleq h28 e36 (bd_d13 po1_1)) ?_
    refine aT (Pleq h7 e33 (bd_d14 po1_2)) ?_
    refine aT (Pleq e34 h11 (bd_d15 po1_2)) ?_
    refine aT (Pleq h20 e35 (bd_d16 po1_3)) ?_
    refine aT (Pleq e36 h24 (bd_d17 po1_3)) ?_
    refine aF (Nleq h3 (Zc 0) (bd_t23 b_x0)) ?_
    refine aT (Pleq (Zc 0) h3 (bd_t24 b_x0)) ?_
    refine aT (Pleq h3 (Zc 100000) (bd_t25 b_x0)) ?_
    refine aT (Pleq (Zc 0) h6 (bd_t26 b_x1)) ?_
    refine aT (Pleq h6 (Zc 100000) (bd_t27 b_x1)) ?_
    refine aT (Pleq (Zc 0) h19 (bd_t28 b_x2)) ?_
    refine aT (Pleq h19 (Zc 100000) (bd_t29 b_x2)) ?_
    refine aT (Pleq (Zc 0) h7 (bd_t30 b_x3)) ?_
    refine aT (Pleq h7 h11 (bd_t31 b_x3 b_r4)) ?_
    refine aT (Pleq h11 (Zc 1000) (bd_t32 b_r4 b_x3)) ?_
    refine aT (Pleq (Zc 0) h20 (bd_t33 b_x5)) ?_
    refine aT (Pleq h20 h24 (bd_t34 b_x5 b_r10)) ?_
    refine aT (Pleq h24 (Zc 1000) (bd_t35 b_r10 b_x5)) ?_
    refine aT (Pleq (Zc 1) h33 (bd_t36 b_x7)) ?_
    refine aT (Pleq h33 h36 (bd_t37 b_x7 b_x8)) ?_
    refine aT (Pleq h36 (Zc 100000000) (bd_t38 b_x7 b_x8)) ?_
    refine aT (Pleq (Zc 1) h38 (bd_t39 b_x9)) ?_
    refine aT (Pleq h38 h41 (bd_t40 b_x9 b_r22)) ?_
    refine aT (Pleq h41 (Zc 100000) (bd_t41 b_r22 b_x9)) ?_
    refine aT (Pleq (Zc 1) h44 (bd_t42 b_x11)) ?_
    refine aT (Pleq h44 h47 (bd_t43 b_x11 b_x12)) ?_
    refine aT (Pleq h47 (Zc 100000000) (bd_t44 b_x11 b_x12)) ?_
    refine aF (Neql h55 (Zc 0) (bd_t48 b_w24 b_w26 b_x0)) ?_
    refine aF (Neql h59 (Zc 0) (bd_t49 b_w27 b_w28 b_x0)) ?_
    refine aT (Pleq (Zc 0) e33 (bd_t61 b_x33)) ?_
    refine aT (Pleq e33 e34 (bd_d18 po1_0)) ?_
    refine aT (Pleq e34 (Zc 1000) (bd_t62 b_x34)) ?_
    refine aT (Pleq (Zc 0) e35 (bd_t63 b_x35)) ?_
    refine aT (Pleq e35 e36 (bd_d19 po1_1)) ?_
    refine aT (Pleq e36 (Zc 1000) (bd_t64 b_x36)) ?_
    refine aF (Neql h88 (Zc 0) (bd_t65 b_w60 b_w62 b_x0)) ?_
    refine aF (Neql h92 (Zc 0) (bd_t66 b_w64 b_w66 b_x0)) ?_
    refine aT (Pleq h94 h96 (bd_t67 b_q68 b_q71)) ?_
    refine aT (Pleq h98 h100 (bd_t68 b_q74 b_q76)) ?_
    refine aT (Pleq h96 h105 (bd_t69 b_q71 b_q78)) ?_
    refine aT (Pleq h105 h98 (bd_t70 b_q78 b_q74)) ?_
    exact rfl
  have k1 := Zeqlt h0 (Zc 1) g; clear g
  refine aF (Neql h30 (Zc 0) (bd_t21 b_w17 b_w20 b_x0)) ?_
  refine aT (Peql e32 (Zc 0) (bd_t22 b_x32)) ?_
  refine aT (Pleq e28 h15 (bd_d0 po0_0)) ?_
  refine aT (Pleq h15 e29 (bd_d1 po0_0)) ?_
  refine aT (Pleq e30 h28 (bd_d2 po0_1)) ?_
  refine aT (Pleq h28 e31 (bd_d3 po0_1)) ?_
  refine aT (Pleq h7 e28 (bd_d4 po0_2)) ?_
  refine aT (Pleq e29 h11 (bd_d5 po0_2)) ?_
  refine aT (Pleq h20 e30 (bd_d6 po0_3)) ?_
  refine aT (Pleq e31 h24 (bd_d7 po0_3)) ?_
  refine aF (Nleq h3 (Zc 0) (bd_t23 b_x0)) ?_
  refine aT (Pleq (Zc 0) h3 (bd_t24 b_x0)) ?_
  refine aT (Pleq h3 (Zc 100000) (bd_t25 b_x0)) ?_
  refine aT (Pleq (Zc 0) h6 (bd_t26 b_x1)) ?_
  refine aT (Pleq h6 (Zc 100000) (bd_t27 b_x1)) ?_
  refine aT (Pleq (Zc 0) h19 (bd_t28 b_x2)) ?_
  refine aT (Pleq h19 (Zc 100000) (bd_t29 b_x2)) ?_
  refine aT (Pleq (Zc 0) h7 (bd_t30 b_x3)) ?_
  refine aT (Pleq h7 h11 (bd_t31 b_x3 b_r4)) ?_
  refine aT (Pleq h11 (Zc 1000) (bd_t32 b_r4 b_x3)) ?_
  refine aT (Pleq (Zc 0) h20 (bd_t33 b_x5)) ?_
  refine aT (Pleq h20 h24 (bd_t34 b_x5 b_r10)) ?_
  refine aT (Pleq h24 (Zc 1000) (bd_t35 b_r10 b_x5)) ?_
  refine aT (Pleq (Zc 1) h33 (bd_t36 b_x7)) ?_
  refine aT (Pleq h33 h36 (bd_t37 b_x7 b_x8)) ?_
  refine aT (Pleq h36 (Zc 100000000) (bd_t38 b_x7 b_x8)) ?_
  refine aT (Pleq (Zc 1) h38 (bd_t39 b_x9)) ?_
  refine aT (Pleq h38 h41 (bd_t40 b_x9 b_r22)) ?_
  refine aT (Pleq h41 (Zc 100000) (bd_t41 b_r22 b_x9)) ?_
  refine aT (Pleq (Zc 1) h44 (bd_t42 b_x11)) ?_
  refine aT (Pleq h44 h47 (bd_t43 b_x11 b_x12)) ?_
  refine aT (Pleq h47 (Zc 100000000) (bd_t44 b_x11 b_x12)) ?_
  refine aT (Pleq (Zc 0) h49 (bd_t45 b_x14)) ?_
  refine aT (Pleq h49 h51 (bd_t46 b_x14 b_x15)) ?_
  refine aT (Pleq h51 (Zc 10000000000000) (bd_t47 b_x14 b_x15)) ?_
  refine aF (Neql h55 (Zc 0) (bd_t48 b_w24 b_w26 b_x0)) ?_
  refine aF (Neql h59 (Zc 0) (bd_t49 b_w27 b_w28 b_x0)) ?_
  refine aT (Pleq (Zc 0) e28 (bd_t50 b_x28)) ?_
  refine aT (Pleq e28 e29 (bd_d8 po0_0)) ?_
  refine aT (Pleq e29 (Zc 1000) (bd_t51 b_x29)) ?_
  refine aT (Pleq (Zc 0) e30 (bd_t52 b_x30)) ?_
  refine aT (Pleq e30 e31 (bd_d9 po0_1)) ?_
  refine aT (Pleq e31 (Zc 1000) (bd_t53 b_x31)) ?_
  refine aF (Neql h63 (Zc 0) (bd_t54 b_w30 b_w32 b_x0)) ?_
  refine aF (Neql h67 (Zc 0) (bd_t55 b_w34 b_w36 b_x0)) ?_
  refine aT (Pleq h70 h72 (bd_d20 b_w37 rf26 w38s w41s w24s w26s w30s w32s rf8_0 rf12_0)) ?_
  refine aT (Pleq h75 h77 (bd_d21 b_w44 rf46 w45s w48s w34s w36s w27s w28s rf5_0 rf9_0)) ?_
  refine aT (Pleq h72 h84 (bd_d22 b_q53 b_w55 rf38 w37s w41s w55s w56s w30s w32s w17s w20s rf7_0 rf11_0)) ?_
  refine aT (Pleq h84 h75 (bd_d23 b_w44 rf64 w55s w56s w44s w45s rf25 w17s w20s w34s w36s rf6_0 rf10_0)) ?_
  exact rfl
end Go.Proofs.Ytknphpihipkdpaa.Cx
