/- bolt.Learn: true frictions lie in what it returns. Made by tools/cxvc.py. -/
import Derived.Test.YtknphpihipkdpaaBLearnN0T
set_option linter.unusedSimpArgs false
set_option linter.unusedVariables false
set_option maxRecDepth 100000
set_option maxHeartbeats 4000000
namespace Go.Proofs.Ytknphpihipkdpaa.Cx
open Go Go.RowKit

theorem blen0_au1 {x20 x21 : Int} (b_x20 : 0 ≤ x20 ∧ x20 ≤ 1001) (b_x21 : 0 ≤ x21 ∧ x21 ≤ 1000) : ∃ m : Int, (max (x20 + (-1) * x21) 0 = m) ∧ (0 ≤ m ∧ m ≤ 1001) := ⟨_, rfl, by omega, by omega⟩
theorem blen0_au2 {x20 x22 : Int} (b_x20 : 0 ≤ x20 ∧ x20 ≤ 1001) (b_x22 : 0 ≤ x22 ∧ x22 ≤ 1000) : ∃ m : Int, (max ((-1) * x20 + x22) 0 = m) ∧ (0 ≤ m ∧ m ≤ 1000) := ⟨_, rfl, by omega, by omega⟩
theorem blen0_am3 {x1 x3 : Int} (b_x1 : 0 ≤ x1 ∧ x1 ≤ 100000) (b_x3 : 0 ≤ x3 ∧ x3 ≤ 1000) : ∃ m : Int, Hd (x1 * x3 = m) ∧ ((0) * x3 + (0) * x1 - (0) ≤ m) ∧ ((100000) * x3 + (1000) * x1 - (100000000) ≤ m) ∧ (m ≤ (100000) * x3 + (0) * x1 - (0)) ∧ (m ≤ (0) * x3 + (1000) * x1 - (0)) ∧ (0 ≤ m ∧ m ≤ 100000000) := by
  obtain ⟨h1, h2, h3, h4⟩ := mcc (x := x1) (y := x3) b_x1.1 b_x1.2 b_x3.1 b_x3.2
  refine ⟨_, ⟨rfl⟩, ?_, ?_, ?_, ?_, ?_, ?_⟩ <;> omega
theorem blen0_aw4 {m3 : Int} (b_m3 : 0 ≤ m3 ∧ m3 ≤ 100000000) : ∃ w : Int, (m3 = w) ∧ (0 ≤ w ∧ w ≤ 100000000) := ⟨_, rfl, by omega, by omega⟩
theorem blen0_am5 {x2 x5 : Int} (b_x2 : 0 ≤ x2 ∧ x2 ≤ 100000) (b_x5 : 0 ≤ x5 ∧ x5 ≤ 1000) : ∃ m : Int, Hd (x2 * x5 = m) ∧ ((0) * x5 + (0) * x2 - (0) ≤ m) ∧ ((100000) * x5 + (1000) * x2 - (100000000) ≤ m) ∧ (m ≤ (100000) * x5 + (0) * x2 - (0)) ∧ (m ≤ (0) * x5 + (1000) * x2 - (0)) ∧ (0 ≤ m ∧ m ≤ 100000000) := by
  obtain ⟨h1, h2, h3, h4⟩ := mcc (x := x2) (y := x5) b_x2.1 b_x2.2 b_x5.1 b_x5.2
  refine ⟨_, ⟨rfl⟩, ?_, ?_, ?_, ?_, ?_, ?_⟩ <;> omega
theorem blen0_aw6 {m5 : Int} (b_m5 : 0 ≤ m5 ∧ m5 ≤ 100000000) : ∃ w : Int, (m5 = w) ∧ (0 ≤ w ∧ w ≤ 100000000) := ⟨_, rfl, by omega, by omega⟩
theorem blen0_aw7 {x13 : Int} (b_x13 : 0 ≤ x13 ∧ x13 ≤ 10000000000000) : ∃ w : Int, (1000 * x13 = w) ∧ (0 ≤ w ∧ w ≤ 10000000000000000) := ⟨_, rfl, by omega, by omega⟩
theorem blen0_aw8 {x16 : Int} (b_x16 : 0 ≤ x16 ∧ x16 ≤ 100000000) : ∃ w : Int, (x16 + 1 = w) ∧ (1 ≤ w ∧ w ≤ 100000001) := ⟨_, rfl, by omega, by omega⟩
theorem blen0_aq9 {w7 w8 : Int} (b_w7 : 0 ≤ w7 ∧ w7 ≤ 10000000000000000) (b_w8 : 1 ≤ w8 ∧ w8 ≤ 100000001) : ∃ q : Int, Hd (w7.tdiv w8 = q) ∧ QD w7 w8 q ∧ (0 ≤ q ∧ q ≤ 10000000000000000) := by
  obtain ⟨q, h1, h2⟩ := qD_ex w7 w8 (by omega)
  obtain ⟨h3, h4⟩ := qD_rng (lo := 0) (hi := 10000000000000000) (dl := 1) h2 (by omega) (by omega) (by omega) (by omega) (by omega) (by omega)
  have h5 := (h2.1 (by omega)).1
  exact ⟨q, h1, h2, by omega, by omega⟩
theorem blen0_am10 {q9 w8 : Int} (b_q9 : 0 ≤ q9 ∧ q9 ≤ 10000000000000000) (b_w8 : 1 ≤ w8 ∧ w8 ≤ 100000001) : ∃ m : Int, Hd (q9 * w8 = m) ∧ ((0) * w8 + (1) * q9 - (0) ≤ m) ∧ ((10000000000000000) * w8 + (100000001) * q9 - (1000000010000000000000000) ≤ m) ∧ (m ≤ (10000000000000000) * w8 + (1) * q9 - (10000000000000000)) ∧ (m ≤ (0) * w8 + (100000001) * q9 - (0)) ∧ (0 ≤ m ∧ m ≤ 1000000010000000000000000) := by
  obtain ⟨h1, h2, h3, h4⟩ := mcc (x := q9) (y := w8) b_q9.1 b_q9.2 b_w8.1 b_w8.2
  refine ⟨_, ⟨rfl⟩, ?_, ?_, ?_, ?_, ?_, ?_⟩ <;> omega
theorem blen0_au11 {q9 w4 w6 x0 : Int} (b_q9 : 0 ≤ q9 ∧ q9 ≤ 10000000000000000) (b_w4 : 0 ≤ w4 ∧ w4 ≤ 100000000) (b_w6 : 0 ≤ w6 ∧ w6 ≤ 100000000) (b_x0 : 1 ≤ x0 ∧ x0 ≤ 100000) : ∃ m : Int, (max ((-1) * q9 + w4 + w6 + 1000 * x0 + (-1)) 0 = m) ∧ (0 ≤ m ∧ m ≤ 299999999) := ⟨_, rfl, by omega, by omega⟩
theorem blen0_am12 {x1 x20 : Int} (b_x1 : 0 ≤ x1 ∧ x1 ≤ 100000) (b_x20 : 0 ≤ x20 ∧ x20 ≤ 1001) : ∃ m : Int, Hd (x1 * x20 = m) ∧ ((0) * x20 + (0) * x1 - (0) ≤ m) ∧ ((100000) * x20 + (1001) * x1 - (100100000) ≤ m) ∧ (m ≤ (100000) * x20 + (0) * x1 - (0)) ∧ (m ≤ (0) * x20 + (1001) * x1 - (0)) ∧ (0 ≤ m ∧ m ≤ 100100000) := by
  obtain ⟨h1, h2, h3, h4⟩ := mcc (x := x1) (y := x20) b_x1.1 b_x1.2 b_x20.1 b_x20.2
  refine ⟨_, ⟨rfl⟩, ?_, ?_, ?_, ?_, ?_, ?_⟩ <;> omega
theorem blen0_aw13 {m12 : Int} (b_m12 : 0 ≤ m12 ∧ m12 ≤ 100100000) : ∃ w : Int, (m12 = w) ∧ (0 ≤ w ∧ w ≤ 100100000) := ⟨_, rfl, by omega, by omega⟩
theorem blen0_aw14 {q9 u11 w13 x0 : Int} (b_q9 : 0 ≤ q9 ∧ q9 ≤ 10000000000000000) (b_u11 : 0 ≤ u11 ∧ u11 ≤ 299999999) (b_w13 : 0 ≤ w13 ∧ w13 ≤ 100100000) (b_x0 : 1 ≤ x0 ∧ x0 ≤ 100000) : ∃ w : Int, (q9 + u11 + (-1) * w13 + (-1000) * x0 + 1 = w) ∧ (-200099999 ≤ w ∧ w ≤ 10000000299999000) := ⟨_, rfl, by omega, by omega⟩
theorem blen0_aq15 {w14 x2 : Int} (b_w14 : -200099999 ≤ w14 ∧ w14 ≤ 10000000299999000) (b_x2 : 0 ≤ x2 ∧ x2 ≤ 100000) : ∃ q : Int, Hd (w14.tdiv x2 = q) ∧ (1 ≤ x2 → QD w14 x2 q) ∧ (-200099999 ≤ q ∧ q ≤ 10000000299999000) := qZ_ex w14 x2 (-200099999) 10000000299999000 (by omega) (by omega) (by omega) (by omega) (by omega)
theorem blen0_am16 {q15 x2 : Int} (b_q15 : -200099999 ≤ q15 ∧ q15 ≤ 10000000299999000) (b_x2 : 0 ≤ x2 ∧ x2 ≤ 100000) : ∃ m : Int, Hd (q15 * x2 = m) ∧ ((-200099999) * x2 + (0) * q15 - (0) ≤ m) ∧ ((10000000299999000) * x2 + (100000) * q15 - (1000000029999900000000) ≤ m) ∧ (m ≤ (10000000299999000) * x2 + (0) * q15 - (0)) ∧ (m ≤ (-200099999) * x2 + (100000) * q15 - (-20009999900000)) ∧ (-20009999900000 ≤ m ∧ m ≤ 1000000029999900000000) := by
  obtain ⟨h1, h2, h3, h4⟩ := mcc (x := q15) (y := x2) b_q15.1 b_q15.2 b_x2.1 b_x2.2
  refine ⟨_, ⟨rfl⟩, ?_, ?_, ?_, ?_, ?_, ?_⟩ <;> omega
theorem blen0_au17 {q15 x5 : Int} (b_q15 : -200099999 ≤ q15 ∧ q15 ≤ 10000000299999000) (b_x5 : 0 ≤ x5 ∧ x5 ≤ 1000) : ∃ m : Int, (max ((-1) * q15 + x5 + (-1)) 0 = m) ∧ (0 ≤ m ∧ m ≤ 200100998) := ⟨_, rfl, by omega, by omega⟩
theorem blen0_au18 {q15 u17 x23 : Int} (b_q15 : -200099999 ≤ q15 ∧ q15 ≤ 10000000299999000) (b_u17 : 0 ≤ u17 ∧ u17 ≤ 200100998) (b_x23 : 0 ≤ x23 ∧ x23 ≤ 1000) : ∃ m : Int, (max (q15 + u17 + (-1) * x23 + 1) 0 = m) ∧ (0 ≤ m ∧ m ≤ 10000000500099999) := ⟨_, rfl, by omega, by omega⟩
theorem blen0_aw19 {w13 x0 x25 : Int} (b_w13 : 0 ≤ w13 ∧ w13 ≤ 100100000) (b_x0 : 1 ≤ x0 ∧ x0 ≤ 100000) (b_x25 : 0 ≤ x25 ∧ x25 ≤ 1000000000000000000) : ∃ w : Int, (w13 + 1000 * x0 + (-1) * x25 = w) ∧ (-999999999999999000 ≤ w ∧ w ≤ 200100000) := ⟨_, rfl, by omega, by omega⟩
theorem blen0_aq20 {w19 x2 : Int} (b_w19 : -999999999999999000 ≤ w19 ∧ w19 ≤ 200100000) (b_x2 : 0 ≤ x2 ∧ x2 ≤ 100000) : ∃ q : Int, Hd (w19.tdiv x2 = q) ∧ (1 ≤ x2 → QD w19 x2 q) ∧ (-999999999999999000 ≤ q ∧ q ≤ 200100000) := qZ_ex w19 x2 (-999999999999999000) 200100000 (by omega) (by omega) (by omega) (by omega) (by omega)
theorem blen0_am21 {q20 x2 : Int} (b_q20 : -999999999999999000 ≤ q20 ∧ q20 ≤ 200100000) (b_x2 : 0 ≤ x2 ∧ x2 ≤ 100000) : ∃ m : Int, Hd (q20 * x2 = m) ∧ ((-999999999999999000) * x2 + (0) * q20 - (0) ≤ m) ∧ ((200100000) * x2 + (100000) * q20 - (20010000000000) ≤ m) ∧ (m ≤ (200100000) * x2 + (0) * q20 - (0)) ∧ (m ≤ (-999999999999999000) * x2 + (100000) * q20 - (-99999999999999900000000)) ∧ (-99999999999999900000000 ≤ m ∧ m ≤ 20010000000000) := by
  obtain ⟨h1, h2, h3, h4⟩ := mcc (x := q20) (y := x2) b_q20.1 b_q20.2 b_x2.1 b_x2.2
  refine ⟨_, ⟨rfl⟩, ?_, ?_, ?_, ?_, ?_, ?_⟩ <;> omega
theorem blen0_au22 {q20 x6 : Int} (b_q20 : -999999999999999000 ≤ q20 ∧ q20 ≤ 200100000) (b_x6 : 0 ≤ x6 ∧ x6 ≤ 1000) : ∃ m : Int, (max ((-1) * q20 + (-1) * x6 + (-1)) 0 = m) ∧ (0 ≤ m ∧ m ≤ 999999999999998999) := ⟨_, rfl, by omega, by omega⟩
theorem blen0_au23 {q20 u22 x24 : Int} (b_q20 : -999999999999999000 ≤ q20 ∧ q20 ≤ 200100000) (b_u22 : 0 ≤ u22 ∧ u22 ≤ 999999999999998999) (b_x24 : 0 ≤ x24 ∧ x24 ≤ 1000) : ∃ m : Int, (max (q20 + u22 + x24 + 1) 0 = m) ∧ (0 ≤ m ∧ m ≤ 1000000000200100000) := ⟨_, rfl, by omega, by omega⟩
theorem blen0_au24 {q20 x6 : Int} (b_q20 : -999999999999999000 ≤ q20 ∧ q20 ≤ 200100000) (b_x6 : 0 ≤ x6 ∧ x6 ≤ 1000) : ∃ m : Int, (max ((-1) * q20 + (-1) * x6) 0 = m) ∧ (0 ≤ m ∧ m ≤ 999999999999999000) := ⟨_, rfl, by omega, by omega⟩
theorem blen0_au25 {q20 u24 x24 : Int} (b_q20 : -999999999999999000 ≤ q20 ∧ q20 ≤ 200100000) (b_u24 : 0 ≤ u24 ∧ u24 ≤ 999999999999999000) (b_x24 : 0 ≤ x24 ∧ x24 ≤ 1000) : ∃ m : Int, (max (q20 + u24 + x24) 0 = m) ∧ (0 ≤ m ∧ m ≤ 1000000000200100000) := ⟨_, rfl, by omega, by omega⟩
theorem blen0_au26 {q15 x5 : Int} (b_q15 : -200099999 ≤ q15 ∧ q15 ≤ 10000000299999000) (b_x5 : 0 ≤ x5 ∧ x5 ≤ 1000) : ∃ m : Int, (max ((-1) * q15 + x5) 0 = m) ∧ (0 ≤ m ∧ m ≤ 200100999) := ⟨_, rfl, by omega, by omega⟩
theorem blen0_au27 {q15 u26 x23 : Int} (b_q15 : -200099999 ≤ q15 ∧ q15 ≤ 10000000299999000) (b_u26 : 0 ≤ u26 ∧ u26 ≤ 200100999) (b_x23 : 0 ≤ x23 ∧ x23 ≤ 1000) : ∃ m : Int, (max (q15 + u26 + (-1) * x23) 0 = m) ∧ (0 ≤ m ∧ m ≤ 10000000500099999) := ⟨_, rfl, by omega, by omega⟩
theorem blen0_rf1 {x23 x5 x21 x22 x24 x3 x4 x6 : Int} (b_x5 : 0 ≤ x5 ∧ x5 ≤ 1000) (i4 : (x21 = 1000 ∧ x22 = 0 ∧ x23 = 1000 ∧ x24 = 0) ∨ (x3 ≤ x21 ∧ x22 ≤ x4 ∧ x5 ≤ x23 ∧ x24 ≤ x6)) : Hd (min (x23) (x5) = x5) := ⟨by omega⟩
theorem blen0_rf2 {x24 x6 x21 x22 x23 x3 x4 x5 : Int} (b_x6 : 0 ≤ x6 ∧ x6 ≤ 1000) (i4 : (x21 = 1000 ∧ x22 = 0 ∧ x23 = 1000 ∧ x24 = 0) ∨ (x3 ≤ x21 ∧ x22 ≤ x4 ∧ x5 ≤ x23 ∧ x24 ≤ x6)) : Hd (max (x24) (x6) = x6) := ⟨by omega⟩
theorem blen0_am28 {x1 x17 : Int} (b_x1 : 0 ≤ x1 ∧ x1 ≤ 100000) (b_x17 : 0 ≤ x17 ∧ x17 ≤ 1000) : ∃ m : Int, Hd (x1 * x17 = m) ∧ ((0) * x17 + (0) * x1 - (0) ≤ m) ∧ ((100000) * x17 + (1000) * x1 - (100000000) ≤ m) ∧ (m ≤ (100000) * x17 + (0) * x1 - (0)) ∧ (m ≤ (0) * x17 + (1000) * x1 - (0)) ∧ (0 ≤ m ∧ m ≤ 100000000) := by
  obtain ⟨h1, h2, h3, h4⟩ := mcc (x := x1) (y := x17) b_x1.1 b_x1.2 b_x17.1 b_x17.2
  refine ⟨_, ⟨rfl⟩, ?_, ?_, ?_, ?_, ?_, ?_⟩ <;> omega
theorem blen0_am29 {x18 x2 : Int} (b_x18 : 0 ≤ x18 ∧ x18 ≤ 1000) (b_x2 : 0 ≤ x2 ∧ x2 ≤ 100000) : ∃ m : Int, Hd (x18 * x2 = m) ∧ ((0) * x2 + (0) * x18 - (0) ≤ m) ∧ ((1000) * x2 + (100000) * x18 - (100000000) ≤ m) ∧ (m ≤ (1000) * x2 + (0) * x18 - (0)) ∧ (m ≤ (0) * x2 + (100000) * x18 - (0)) ∧ (0 ≤ m ∧ m ≤ 100000000) := by
  obtain ⟨h1, h2, h3, h4⟩ := mcc (x := x18) (y := x2) b_x18.1 b_x18.2 b_x2.1 b_x2.2
  refine ⟨_, ⟨rfl⟩, ?_, ?_, ?_, ?_, ?_, ?_⟩ <;> omega
theorem blen0_am30 {x16 x19 : Int} (b_x16 : 0 ≤ x16 ∧ x16 ≤ 100000000) (b_x19 : 1000 ≤ x19 ∧ x19 ≤ 300000000) : ∃ m : Int, Hd (x16 * x19 = m) ∧ ((0) * x19 + (1000) * x16 - (0) ≤ m) ∧ ((100000000) * x19 + (300000000) * x16 - (30000000000000000) ≤ m) ∧ (m ≤ (100000000) * x19 + (1000) * x16 - (100000000000)) ∧ (m ≤ (0) * x19 + (300000000) * x16 - (0)) ∧ (0 ≤ m ∧ m ≤ 30000000000000000) := by
  obtain ⟨h1, h2, h3, h4⟩ := mcc (x := x16) (y := x19) b_x16.1 b_x16.2 b_x19.1 b_x19.2
  refine ⟨_, ⟨rfl⟩, ?_, ?_, ?_, ?_, ?_, ?_⟩ <;> omega
theorem blen0_am31 {x15 x19 : Int} (b_x15 : 0 ≤ x15 ∧ x15 ≤ 100000000) (b_x19 : 1000 ≤ x19 ∧ x19 ≤ 300000000) : ∃ m : Int, Hd (x15 * x19 = m) ∧ ((0) * x19 + (1000) * x15 - (0) ≤ m) ∧ ((100000000) * x19 + (300000000) * x15 - (30000000000000000) ≤ m) ∧ (m ≤ (100000000) * x19 + (1000) * x15 - (100000000000)) ∧ (m ≤ (0) * x19 + (300000000) * x15 - (0)) ∧ (0 ≤ m ∧ m ≤ 30000000000000000) := by
  obtain ⟨h1, h2, h3, h4⟩ := mcc (x := x15) (y := x19) b_x15.1 b_x15.2 b_x19.1 b_x19.2
  refine ⟨_, ⟨rfl⟩, ?_, ?_, ?_, ?_, ?_, ?_⟩ <;> omega
theorem blen0_rf6 {x17 x3 : Int}  (v7 : x3 ≤ x17) : 0 ≤ x17 + (-1) * x3 := by omega
theorem blen0_rf6_0 {x17 x3 m28 m3 x1 : Int} (b_x1 : 0 ≤ x1 ∧ x1 ≤ 100000) (rf6 : 0 ≤ x17 + (-1) * x3) (m28e : Hd (x1 * x17 = m28)) (m3e : Hd (x1 * x3 = m3)) : 0 ≤ m28 + (-1) * m3 := by
  have e1 : (x17 + (-1) * x3) * (x1) = m28 + (-1) * m3 := ((by simp only [Int.add_mul, Int.mul_add, Int.mul_assoc, Int.mul_comm, Int.mul_left_comm, Int.reduceMul, Int.reduceNeg, Int.mul_one, Int.one_mul] <;> omega : (x17 + (-1) * x3) * (x1) = x1 * x17 + (-1) * (x1 * x3)).trans (by (try simp only [m28e.out, m3e.out]) <;> omega))
  exact e1 ▸ Int.mul_nonneg (by omega) (by omega)
theorem blen0_rf7 {x17 x4 : Int}  (v8 : x17 ≤ x4) : 0 ≤ (-1) * x17 + x4 := by omega
theorem blen0_am32 {x1 x4 : Int} (b_x1 : 0 ≤ x1 ∧ x1 ≤ 100000) (b_x4 : 0 ≤ x4 ∧ x4 ≤ 1000) : ∃ m : Int, Hd (x1 * x4 = m) ∧ ((0) * x4 + (0) * x1 - (0) ≤ m) ∧ ((100000) * x4 + (1000) * x1 - (100000000) ≤ m) ∧ (m ≤ (100000) * x4 + (0) * x1 - (0)) ∧ (m ≤ (0) * x4 + (1000) * x1 - (0)) ∧ (0 ≤ m ∧ m ≤ 100000000) := by
  obtain ⟨h1, h2, h3, h4⟩ := mcc (x := x1) (y := x4) b_x1.1 b_x1.2 b_x4.1 b_x4.2
  refine ⟨_, ⟨rfl⟩, ?_, ?_, ?_, ?_, ?_, ?_⟩ <;> omega
theorem blen0_rf7_0 {x17 x4 m28 m32 x1 : Int} (b_x1 : 0 ≤ x1 ∧ x1 ≤ 100000) (rf7 : 0 ≤ (-1) * x17 + x4) (m28e : Hd (x1 * x17 = m28)) (m32e : Hd (x1 * x4 = m32)) : 0 ≤ (-1) * m28 + m32 := by
  have e1 : ((-1) * x17 + x4) * (x1) = (-1) * m28 + m32 := ((by simp only [Int.add_mul, Int.mul_add, Int.mul_assoc, Int.mul_comm, Int.mul_left_comm, Int.reduceMul, Int.reduceNeg, Int.mul_one, Int.one_mul] <;> omega : ((-1) * x17 + x4) * (x1) = (-1) * (x1 * x17) + x1 * x4).trans (by (try simp only [m28e.out, m32e.out]) <;> omega))
  exact e1 ▸ Int.mul_nonneg (by omega) (by omega)
theorem blen0_rf8 {x18 x5 : Int}  (v9 : x5 ≤ x18) : 0 ≤ x18 + (-1) * x5 := by omega
theorem blen0_rf8_0 {x18 x5 m29 m5 x2 : Int} (b_x2 : 0 ≤ x2 ∧ x2 ≤ 100000) (rf8 : 0 ≤ x18 + (-1) * x5) (m29e : Hd (x18 * x2 = m29)) (m5e : Hd (x2 * x5 = m5)) : 0 ≤ m29 + (-1) * m5 := by
  have e1 : (x18 + (-1) * x5) * (x2) = m29 + (-1) * m5 := ((by simp only [Int.add_mul, Int.mul_add, Int.mul_assoc, Int.mul_comm, Int.mul_left_comm, Int.reduceMul, Int.reduceNeg, Int.mul_one, Int.one_mul] <;> omega : (x18 + (-1) * x5) * (x2) = x18 * x2 + (-1) * (x2 * x5)).trans (by (try simp only [m29e.out, m5e.out]) <;> omega))
  exact e1 ▸ Int.mul_nonneg (by omega) (by omega)
theorem blen0_rf9 {x18 x6 : Int}  (v10 : x18 ≤ x6) : 0 ≤ (-1) * x18 + x6 := by omega
theorem blen0_am33 {x2 x6 : Int} (b_x2 : 0 ≤ x2 ∧ x2 ≤ 100000) (b_x6 : 0 ≤ x6 ∧ x6 ≤ 1000) : ∃ m : Int, Hd (x2 * x6 = m) ∧ ((0) * x6 + (0) * x2 - (0) ≤ m) ∧ ((100000) * x6 + (1000) * x2 - (100000000) ≤ m) ∧ (m ≤ (100000) * x6 + (0) * x2 - (0)) ∧ (m ≤ (0) * x6 + (1000) * x2 - (0)) ∧ (0 ≤ m ∧ m ≤ 100000000) := by
  obtain ⟨h1, h2, h3, h4⟩ := mcc (x := x2) (y := x6) b_x2.1 b_x2.2 b_x6.1 b_x6.2
  refine ⟨_, ⟨rfl⟩, ?_, ?_, ?_, ?_, ?_, ?_⟩ <;> omega
theorem blen0_rf9_0 {x18 x6 m29 m33 x2 : Int} (b_x2 : 0 ≤ x2 ∧ x2 ≤ 100000) (rf9 : 0 ≤ (-1) * x18 + x6) (m29e : Hd (x18 * x2 = m29)) (m33e : Hd (x2 * x6 = m33)) : 0 ≤ (-1) * m29 + m33 := by
  have e1 : ((-1) * x18 + x6) * (x2) = (-1) * m29 + m33 := ((by simp only [Int.add_mul, Int.mul_add, Int.mul_assoc, Int.mul_comm, Int.mul_left_comm, Int.reduceMul, Int.reduceNeg, Int.mul_one, Int.one_mul] <;> omega : ((-1) * x18 + x6) * (x2) = (-1) * (x18 * x2) + x2 * x6).trans (by (try simp only [m29e.out, m33e.out]) <;> omega))
  exact e1 ▸ Int.mul_nonneg (by omega) (by omega)
theorem blen0_rf10 {x19 m30 q9 w7 w8 x16 : Int} (b_w8 : 1 ≤ w8 ∧ w8 ≤ 100000001) (q9h : QD w7 w8 q9) (m30e : Hd (x16 * x19 = m30)) (w8s : x16 + 1 = w8) : 1 ≤ x19 ∨ 0 ≤ w7 → x19 ≤ q9 ∧ m30 + x19 ≤ w7 ∨ q9 + 1 ≤ x19 ∧ w7 + 1 ≤ m30 + x19 := qD_gal q9h (by omega) (by
  have e1 : (x19) * (x16 + 1) = m30 + x19 := ((by simp only [Int.add_mul, Int.mul_add, Int.mul_assoc, Int.mul_comm, Int.mul_left_comm, Int.reduceMul, Int.reduceNeg, Int.mul_one, Int.one_mul] <;> omega : (x19) * (x16 + 1) = x16 * x19 + 1 * x19).trans (by (try simp only [m30e.out]) <;> omega))
  rw [w8s] at e1
  exact e1)
theorem blen0_rf11 {q15 x18 m16 m29 x2 : Int} (b_x2 : 0 ≤ x2 ∧ x2 ≤ 100000) (m16e : Hd (q15 * x2 = m16)) (m29e : Hd (x18 * x2 = m29)) : 0 ≤ q15 + (-1) * x18 → 0 ≤ m16 + (-1) * m29 := fun hc => by
  have k : 0 ≤ q15 + (-1) * x18 := by omega
  have e1 : (q15 + (-1) * x18) * (x2) = m16 + (-1) * m29 := ((by simp only [Int.add_mul, Int.mul_add, Int.mul_assoc, Int.mul_comm, Int.mul_left_comm, Int.reduceMul, Int.reduceNeg, Int.mul_one, Int.one_mul] <;> omega : (q15 + (-1) * x18) * (x2) = q15 * x2 + (-1) * (x18 * x2)).trans (by (try simp only [m16e.out, m29e.out]) <;> omega))
  exact e1 ▸ Int.mul_nonneg k (by omega)
theorem blen0_rf12 {q15 x18 m16 m29 x2 : Int} (b_x2 : 0 ≤ x2 ∧ x2 ≤ 100000) (m16e : Hd (q15 * x2 = m16)) (m29e : Hd (x18 * x2 = m29)) : 0 ≤ (-1) * q15 + x18 → 0 ≤ (-1) * m16 + m29 := fun hc => by
  have k : 0 ≤ (-1) * q15 + x18 := by omega
  have e1 : ((-1) * q15 + x18) * (x2) = (-1) * m16 + m29 := ((by simp only [Int.add_mul, Int.mul_add, Int.mul_assoc, Int.mul_comm, Int.mul_left_comm, Int.reduceMul, Int.reduceNeg, Int.mul_one, Int.one_mul] <;> omega : ((-1) * q15 + x18) * (x2) = (-1) * (q15 * x2) + x18 * x2).trans (by (try simp only [m16e.out, m29e.out]) <;> omega))
  exact e1 ▸ Int.mul_nonneg k (by omega)
theorem blen0_rf13 {q15 x18 m16 m29 x2 : Int} (b_x2 : 0 ≤ x2 ∧ x2 ≤ 100000) (m16e : Hd (q15 * x2 = m16)) (m29e : Hd (x18 * x2 = m29)) : 0 ≤ q15 + (-1) * x18 + (-1) → 0 ≤ m16 + (-1) * m29 + (-1) * x2 := fun hc => by
  have k : 0 ≤ q15 + (-1) * x18 + (-1) := by omega
  have e1 : (q15 + (-1) * x18 + (-1)) * (x2) = m16 + (-1) * m29 + (-1) * x2 := ((by simp only [Int.add_mul, Int.mul_add, Int.mul_assoc, Int.mul_comm, Int.mul_left_comm, Int.reduceMul, Int.reduceNeg, Int.mul_one, Int.one_mul] <;> omega : (q15 + (-1) * x18 + (-1)) * (x2) = q15 * x2 + (-1) * (x18 * x2) + (-1) * x2).trans (by (try simp only [m16e.out, m29e.out]) <;> omega))
  exact e1 ▸ Int.mul_nonneg k (by omega)
theorem blen0_rf14 {q15 x18 m16 m29 x2 : Int} (b_x2 : 0 ≤ x2 ∧ x2 ≤ 100000) (m16e : Hd (q15 * x2 = m16)) (m29e : Hd (x18 * x2 = m29)) : 0 ≤ (-1) * q15 + x18 + (-1) → 0 ≤ (-1) * m16 + m29 + (-1) * x2 := fun hc => by
  have k : 0 ≤ (-1) * q15 + x18 + (-1) := by omega
  have e1 : ((-1) * q15 + x18 + (-1)) * (x2) = (-1) * m16 + m29 + (-1) * x2 := ((by simp only [Int.add_mul, Int.mul_add, Int.mul_assoc, Int.mul_comm, Int.mul_left_comm, Int.reduceMul, Int.reduceNeg, Int.mul_one, Int.one_mul] <;> omega : ((-1) * q15 + x18 + (-1)) * (x2) = (-1) * (q15 * x2) + x18 * x2 + (-1) * x2).trans (by (try simp only [m16e.out, m29e.out]) <;> omega))
  exact e1 ▸ Int.mul_nonneg k (by omega)
theorem blen0_rf15 {q15 x18 m16 m29 x2 : Int} (b_x2 : 0 ≤ x2 ∧ x2 ≤ 100000) (m16e : Hd (q15 * x2 = m16)) (m29e : Hd (x18 * x2 = m29)) : 0 ≤ q15 + x18 → 0 ≤ m16 + m29 := fun hc => by
  have k : 0 ≤ q15 + x18 := by omega
  have e1 : (q15 + x18) * (x2) = m16 + m29 := ((by simp only [Int.add_mul, Int.mul_add, Int.mul_assoc, Int.mul_comm, Int.mul_left_comm, Int.reduceMul, Int.reduceNeg, Int.mul_one, Int.one_mul] <;> omega : (q15 + x18) * (x2) = q15 * x2 + x18 * x2).trans (by (try simp only [m16e.out, m29e.out]) <;> omega))
  exact e1 ▸ Int.mul_nonneg k (by omega)
theorem blen0_rf16 {q15 x18 m16 m29 x2 : Int} (b_x2 : 0 ≤ x2 ∧ x2 ≤ 100000) (m16e : Hd (q15 * x2 = m16)) (m29e : Hd (x18 * x2 = m29)) : 0 ≤ (-1) * q15 + (-1) * x18 → 0 ≤ (-1) * m16 + (-1) * m29 := fun hc => by
  have k : 0 ≤ (-1) * q15 + (-1) * x18 := by omega
  have e1 : ((-1) * q15 + (-1) * x18) * (x2) = (-1) * m16 + (-1) * m29 := ((by simp only [Int.add_mul, Int.mul_add, Int.mul_assoc, Int.mul_comm, Int.mul_left_comm, Int.reduceMul, Int.reduceNeg, Int.mul_one, Int.one_mul] <;> omega : ((-1) * q15 + (-1) * x18) * (x2) = (-1) * (q15 * x2) + (-1) * (x18 * x2)).trans (by (try simp only [m16e.out, m29e.out]) <;> omega))
  exact e1 ▸ Int.mul_nonneg k (by omega)
theorem blen0_rf17 {q15 x18 m16 m29 x2 : Int} (b_x2 : 0 ≤ x2 ∧ x2 ≤ 100000) (m16e : Hd (q15 * x2 = m16)) (m29e : Hd (x18 * x2 = m29)) : 0 ≤ q15 + x18 + (-1) → 0 ≤ m16 + m29 + (-1) * x2 := fun hc => by
  have k : 0 ≤ q15 + x18 + (-1) := by omega
  have e1 : (q15 + x18 + (-1)) * (x2) = m16 + m29 + (-1) * x2 := ((by simp only [Int.add_mul, Int.mul_add, Int.mul_assoc, Int.mul_comm, Int.mul_left_comm, Int.reduceMul, Int.reduceNeg, Int.mul_one, Int.one_mul] <;> omega : (q15 + x18 + (-1)) * (x2) = q15 * x2 + x18 * x2 + (-1) * x2).trans (by (try simp only [m16e.out, m29e.out]) <;> omega))
  exact e1 ▸ Int.mul_nonneg k (by omega)
theorem blen0_rf18 {q15 x18 m16 m29 x2 : Int} (b_x2 : 0 ≤ x2 ∧ x2 ≤ 100000) (m16e : Hd (q15 * x2 = m16)) (m29e : Hd (x18 * x2 = m29)) : 0 ≤ (-1) * q15 + (-1) * x18 + (-1) → 0 ≤ (-1) * m16 + (-1) * m29 + (-1) * x2 := fun hc => by
  have k : 0 ≤ (-1) * q15 + (-1) * x18 + (-1) := by omega
  have e1 : ((-1) * q15 + (-1) * x18 + (-1)) * (x2) = (-1) * m16 + (-1) * m29 + (-1) * x2 := ((by simp only [Int.add_mul, Int.mul_add, Int.mul_assoc, Int.mul_comm, Int.mul_left_comm, Int.reduceMul, Int.reduceNeg, Int.mul_one, Int.one_mul] <;> omega : ((-1) * q15 + (-1) * x18 + (-1)) * (x2) = (-1) * (q15 * x2) + (-1) * (x18 * x2) + (-1) * x2).trans (by (try simp only [m16e.out, m29e.out]) <;> omega))
  exact e1 ▸ Int.mul_nonneg k (by omega)
theorem blen0_rf19 {q20 x18 m21 m29 x2 : Int} (b_x2 : 0 ≤ x2 ∧ x2 ≤ 100000) (m21e : Hd (q20 * x2 = m21)) (m29e : Hd (x18 * x2 = m29)) : 0 ≤ q20 + (-1) * x18 → 0 ≤ m21 + (-1) * m29 := fun hc => by
  have k : 0 ≤ q20 + (-1) * x18 := by omega
  have e1 : (q20 + (-1) * x18) * (x2) = m21 + (-1) * m29 := ((by simp only [Int.add_mul, Int.mul_add, Int.mul_assoc, Int.mul_comm, Int.mul_left_comm, Int.reduceMul, Int.reduceNeg, Int.mul_one, Int.one_mul] <;> omega : (q20 + (-1) * x18) * (x2) = q20 * x2 + (-1) * (x18 * x2)).trans (by (try simp only [m21e.out, m29e.out]) <;> omega))
  exact e1 ▸ Int.mul_nonneg k (by omega)
theorem blen0_rf20 {q20 x18 m21 m29 x2 : Int} (b_x2 : 0 ≤ x2 ∧ x2 ≤ 100000) (m21e : Hd (q20 * x2 = m21)) (m29e : Hd (x18 * x2 = m29)) : 0 ≤ (-1) * q20 + x18 → 0 ≤ (-1) * m21 + m29 := fun hc => by
  have k : 0 ≤ (-1) * q20 + x18 := by omega
  have e1 : ((-1) * q20 + x18) * (x2) = (-1) * m21 + m29 := ((by simp only [Int.add_mul, Int.mul_add, Int.mul_assoc, Int.mul_comm, Int.mul_left_comm, Int.reduceMul, Int.reduceNeg, Int.mul_one, Int.one_mul] <;> omega : ((-1) * q20 + x18) * (x2) = (-1) * (q20 * x2) + x18 * x2).trans (by (try simp only [m21e.out, m29e.out]) <;> omega))
  exact e1 ▸ Int.mul_nonneg k (by omega)
theorem blen0_rf21 {q20 x18 m21 m29 x2 : Int} (b_x2 : 0 ≤ x2 ∧ x2 ≤ 100000) (m21e : Hd (q20 * x2 = m21)) (m29e : Hd (x18 * x2 = m29)) : 0 ≤ q20 + (-1) * x18 + (-1) → 0 ≤ m21 + (-1) * m29 + (-1) * x2 := fun hc => by
  have k : 0 ≤ q20 + (-1) * x18 + (-1) := by omega
  have e1 : (q20 + (-1) * x18 + (-1)) * (x2) = m21 + (-1) * m29 + (-1) * x2 := ((by simp only [Int.add_mul, Int.mul_add, Int.mul_assoc, Int.mul_comm, Int.mul_left_comm, Int.reduceMul, Int.reduceNeg, Int.mul_one, Int.one_mul] <;> omega : (q20 + (-1) * x18 + (-1)) * (x2) = q20 * x2 + (-1) * (x18 * x2) + (-1) * x2).trans (by (try simp only [m21e.out, m29e.out]) <;> omega))
  exact e1 ▸ Int.mul_nonneg k (by omega)
theorem blen0_rf22 {q20 x18 m21 m29 x2 : Int} (b_x2 : 0 ≤ x2 ∧ x2 ≤ 100000) (m21e : Hd (q20 * x2 = m21)) (m29e : Hd (x18 * x2 = m29)) : 0 ≤ (-1) * q20 + x18 + (-1) → 0 ≤ (-1) * m21 + m29 + (-1) * x2 := fun hc => by
  have k : 0 ≤ (-1) * q20 + x18 + (-1) := by omega
  have e1 : ((-1) * q20 + x18 + (-1)) * (x2) = (-1) * m21 + m29 + (-1) * x2 := ((by simp only [Int.add_mul, Int.mul_add, Int.mul_assoc, Int.mul_comm, Int.mul_left_comm, Int.reduceMul, Int.reduceNeg, Int.mul_one, Int.one_mul] <;> omega : ((-1) * q20 + x18 + (-1)) * (x2) = (-1) * (q20 * x2) + x18 * x2 + (-1) * x2).trans (by (try simp only [m21e.out, m29e.out]) <;> omega))
  exact e1 ▸ Int.mul_nonneg k (by omega)
theorem blen0_rf23 {q20 x18 m21 m29 x2 : Int} (b_x2 : 0 ≤ x2 ∧ x2 ≤ 100000) (m21e : Hd (q20 * x2 = m21)) (m29e : Hd (x18 * x2 = m29)) : 0 ≤ q20 + x18 → 0 ≤ m21 + m29 := fun hc => by
  have k : 0 ≤ q20 + x18 := by omega
  have e1 : (q20 + x18) * (x2) = m21 + m29 := ((by simp only [Int.add_mul, Int.mul_add, Int.mul_assoc, Int.mul_comm, Int.mul_left_comm, Int.reduceMul, Int.reduceNeg, Int.mul_one, Int.one_mul] <;> omega : (q20 + x18) * (x2) = q20 * x2 + x18 * x2).trans (by (try simp only [m21e.out, m29e.out]) <;> omega))
  exact e1 ▸ Int.mul_nonneg k (by omega)
theorem blen0_rf24 {q20 x18 m21 m29 x2 : Int} (b_x2 : 0 ≤ x2 ∧ x2 ≤ 100000) (m21e : Hd (q20 * x2 = m21)) (m29e : Hd (x18 * x2 = m29)) : 0 ≤ (-1) * q20 + (-1) * x18 → 0 ≤ (-1) * m21 + (-1) * m29 := fun hc => by
  have k : 0 ≤ (-1) * q20 + (-1) * x18 := by omega
  have e1 : ((-1) * q20 + (-1) * x18) * (x2) = (-1) * m21 + (-1) * m29 := ((by simp only [Int.add_mul, Int.mul_add, Int.mul_assoc, Int.mul_comm, Int.mul_left_comm, Int.reduceMul, Int.reduceNeg, Int.mul_one, Int.one_mul] <;> omega : ((-1) * q20 + (-1) * x18) * (x2) = (-1) * (q20 * x2) + (-1) * (x18 * x2)).trans (by (try simp only [m21e.out, m29e.out]) <;> omega))
  exact e1 ▸ Int.mul_nonneg k (by omega)
theorem blen0_rf25 {q20 x18 m21 m29 x2 : Int} (b_x2 : 0 ≤ x2 ∧ x2 ≤ 100000) (m21e : Hd (q20 * x2 = m21)) (m29e : Hd (x18 * x2 = m29)) : 0 ≤ q20 + x18 + (-1) → 0 ≤ m21 + m29 + (-1) * x2 := fun hc => by
  have k : 0 ≤ q20 + x18 + (-1) := by omega
  have e1 : (q20 + x18 + (-1)) * (x2) = m21 + m29 + (-1) * x2 := ((by simp only [Int.add_mul, Int.mul_add, Int.mul_assoc, Int.mul_comm, Int.mul_left_comm, Int.reduceMul, Int.reduceNeg, Int.mul_one, Int.one_mul] <;> omega : (q20 + x18 + (-1)) * (x2) = q20 * x2 + x18 * x2 + (-1) * x2).trans (by (try simp only [m21e.out, m29e.out]) <;> omega))
  exact e1 ▸ Int.mul_nonneg k (by omega)
theorem blen0_rf26 {q20 x18 m21 m29 x2 : Int} (b_x2 : 0 ≤ x2 ∧ x2 ≤ 100000) (m21e : Hd (q20 * x2 = m21)) (m29e : Hd (x18 * x2 = m29)) : 0 ≤ (-1) * q20 + (-1) * x18 + (-1) → 0 ≤ (-1) * m21 + (-1) * m29 + (-1) * x2 := fun hc => by
  have k : 0 ≤ (-1) * q20 + (-1) * x18 + (-1) := by omega
  have e1 : ((-1) * q20 + (-1) * x18 + (-1)) * (x2) = (-1) * m21 + (-1) * m29 + (-1) * x2 := ((by simp only [Int.add_mul, Int.mul_add, Int.mul_assoc, Int.mul_comm, Int.mul_left_comm, Int.reduceMul, Int.reduceNeg, Int.mul_one, Int.one_mul] <;> omega : ((-1) * q20 + (-1) * x18 + (-1)) * (x2) = (-1) * (q20 * x2) + (-1) * (x18 * x2) + (-1) * x2).trans (by (try simp only [m21e.out, m29e.out]) <;> omega))
  exact e1 ▸ Int.mul_nonneg k (by omega)
theorem blen0_rf27 {x17 x20 m12 m28 x1 : Int} (b_x1 : 0 ≤ x1 ∧ x1 ≤ 100000) (m28e : Hd (x1 * x17 = m28)) (m12e : Hd (x1 * x20 = m12)) : 0 ≤ (-1) * x17 + x20 → 0 ≤ m12 + (-1) * m28 := fun hc => by
  have k : 0 ≤ (-1) * x17 + x20 := by omega
  have e1 : ((-1) * x17 + x20) * (x1) = m12 + (-1) * m28 := ((by simp only [Int.add_mul, Int.mul_add, Int.mul_assoc, Int.mul_comm, Int.mul_left_comm, Int.reduceMul, Int.reduceNeg, Int.mul_one, Int.one_mul] <;> omega : ((-1) * x17 + x20) * (x1) = (-1) * (x1 * x17) + x1 * x20).trans (by (try simp only [m28e.out, m12e.out]) <;> omega))
  exact e1 ▸ Int.mul_nonneg k (by omega)
theorem blen0_rf28 {x17 x20 m12 m28 x1 : Int} (b_x1 : 0 ≤ x1 ∧ x1 ≤ 100000) (m28e : Hd (x1 * x17 = m28)) (m12e : Hd (x1 * x20 = m12)) : 0 ≤ x17 + (-1) * x20 → 0 ≤ (-1) * m12 + m28 := fun hc => by
  have k : 0 ≤ x17 + (-1) * x20 := by omega
  have e1 : (x17 + (-1) * x20) * (x1) = (-1) * m12 + m28 := ((by simp only [Int.add_mul, Int.mul_add, Int.mul_assoc, Int.mul_comm, Int.mul_left_comm, Int.reduceMul, Int.reduceNeg, Int.mul_one, Int.one_mul] <;> omega : (x17 + (-1) * x20) * (x1) = x1 * x17 + (-1) * (x1 * x20)).trans (by (try simp only [m28e.out, m12e.out]) <;> omega))
  exact e1 ▸ Int.mul_nonneg k (by omega)
set_option maxHeartbeats 40000000 in
theorem blen0_g0 {ρ : Env} {x20 x21 u1 x22 u2 x1 x3 w4 m3 x2 x5 w6 m5 x0 x13 x16 q9 w7 w8 u11 w13 m12 q15 w14 u17 x23 u18 x25 q20 w19 x6 u22 x24 u23 u24 u25 m21 u26 u27 m16 : Int} (e20 : Is ρ (.v 20) x20) (e21 : Is ρ (.v 21) x21) (u1s : Hd (max (x20 + (-1) * x21) 0 = u1)) (e22 : Is ρ (.v 22) x22) (u2s : Hd (max ((-1) * x20 + x22) 0 = u2)) (e1 : Is ρ (.v 1) x1) (e3 : Is ρ (.v 3) x3) (m3e : Hd (x1 * x3 = m3)) (w4s : Hd (m3 = w4)) (e2 : Is ρ (.v 2) x2) (e5 : Is ρ (.v 5) x5) (m5e : Hd (x2 * x5 = m5)) (w6s : Hd (m5 = w6)) (e0 : Is ρ (.v 0) x0) (e13 : Is ρ (.v 13) x13) (e16 : Is ρ (.v 16) x16) (q9e : Hd (w7.tdiv w8 = q9)) (w7s : Hd (1000 * x13 = w7)) (w8s : Hd (x16 + 1 = w8)) (u11s : Hd (max ((-1) * q9 + w4 + w6 + 1000 * x0 + (-1)) 0 = u11)) (m12e : Hd (x1 * x20 = m12)) (w13s : Hd (m12 = w13)) (q15e : Hd (w14.tdiv x2 = q15)) (w14s : Hd (q9 + u11 + (-1) * w13 + (-1000) * x0 + 1 = w14)) (u17s : Hd (max ((-1) * q15 + x5 + (-1)) 0 = u17)) (e23 : Is ρ (.v 23) x23) (u18s : Hd (max (q15 + u17 + (-1) * x23 + 1) 0 = u18)) (e25 : Is ρ (.v 25) x25) (q20e : Hd (w19.tdiv x2 = q20)) (w19s : Hd (w13 + 1000 * x0 + (-1) * x25 = w19)) (e6 : Is ρ (.v 6) x6) (u22s : Hd (max ((-1) * q20 + (-1) * x6 + (-1)) 0 = u22)) (e24 : Is ρ (.v 24) x24) (u23s : Hd (max (q20 + u22 + x24 + 1) 0 = u23)) (u24s : Hd (max ((-1) * q20 + (-1) * x6) 0 = u24)) (u25s : Hd (max (q20 + u24 + x24) 0 = u25)) (m21e : Hd (q20 * x2 = m21)) (u26s : Hd (max ((-1) * q15 + x5) 0 = u26)) (u27s : Hd (max (q15 + u26 + (-1) * x23) 0 = u27)) (m16e : Hd (q15 * x2 = m16)) (rf1 : Hd (min (x23) (x5) = x5)) (rf2 : Hd (max (x24) (x6) = x6)) (b_x20 : 0 ≤ x20 ∧ x20 ≤ 1001) (b_x21 : 0 ≤ x21 ∧ x21 ≤ 1000) (b_u1 : 0 ≤ u1 ∧ u1 ≤ 1001) (b_x22 : 0 ≤ x22 ∧ x22 ≤ 1000) (b_u2 : 0 ≤ u2 ∧ u2 ≤ 1000) (b_x1 : 0 ≤ x1 ∧ x1 ≤ 100000) (b_x3 : 0 ≤ x3 ∧ x3 ≤ 1000) (b_w4 : 0 ≤ w4 ∧ w4 ≤ 100000000) (b_m3 : 0 ≤ m3 ∧ m3 ≤ 100000000) (b_x2 : 0 ≤ x2 ∧ x2 ≤ 100000) (b_x5 : 0 ≤ x5 ∧ x5 ≤ 1000) (b_w6 : 0 ≤ w6 ∧ w6 ≤ 100000000) (b_m5 : 0 ≤ m5 ∧ m5 ≤ 100000000) (b_x0 : 1 ≤ x0 ∧ x0 ≤ 100000) (b_x13 : 0 ≤ x13 ∧ x13 ≤ 10000000000000) (b_x16 : 0 ≤ x16 ∧ x16 ≤ 100000000) (b_q9 : 0 ≤ q9 ∧ q9 ≤ 10000000000000000) (b_w7 : 0 ≤ w7 ∧ w7 ≤ 10000000000000000) (b_w8 : 1 ≤ w8 ∧ w8 ≤ 100000001) (b_u11 : 0 ≤ u11 ∧ u11 ≤ 299999999) (b_w13 : 0 ≤ w13 ∧ w13 ≤ 100100000) (b_m12 : 0 ≤ m12 ∧ m12 ≤ 100100000) (b_q15 : -200099999 ≤ q15 ∧ q15 ≤ 10000000299999000) (b_w14 : -200099999 ≤ w14 ∧ w14 ≤ 10000000299999000) (b_u17 : 0 ≤ u17 ∧ u17 ≤ 200100998) (b_x23 : 0 ≤ x23 ∧ x23 ≤ 1000) (b_u18 : 0 ≤ u18 ∧ u18 ≤ 10000000500099999) (b_x25 : 0 ≤ x25 ∧ x25 ≤ 1000000000000000000) (b_q20 : -999999999999999000 ≤ q20 ∧ q20 ≤ 200100000) (b_w19 : -999999999999999000 ≤ w19 ∧ w19 ≤ 200100000) (b_x6 : 0 ≤ x6 ∧ x6 ≤ 1000) (b_u22 : 0 ≤ u22 ∧ u22 ≤ 999999999999998999) (b_x24 : 0 ≤ x24 ∧ x24 ≤ 1000) (b_u23 : 0 ≤ u23 ∧ u23 ≤ 1000000000200100000) (b_u24 : 0 ≤ u24 ∧ u24 ≤ 999999999999999000) (b_u25 : 0 ≤ u25 ∧ u25 ≤ 1000000000200100000) (b_m21 : -99999999999999900000000 ≤ m21 ∧ m21 ≤ 20010000000000) (b_u26 : 0 ≤ u26 ∧ u26 ≤ 200100999) (b_u27 : 0 ≤ u27 ∧ u27 ≤ 10000000500099999) (b_m16 : -20009999900000 ≤ m16 ∧ m16 ≤ 1000000029999900000000) : Is ρ blen00 (x20 + 1) ∧ Is ρ blen01 ((-1) * u1 + x20) ∧ Is ρ blen02 (u2 + x20) ∧ Is ρ blen018 (q9 + u11 + (-1) * w13 + (-1000) * x0 + 1) ∧ Is ρ blen021 (q15 + u17 + 1) ∧ Is ρ blen022 (q15 + u17 + (-1) * u18 + 1) ∧ Is ρ blen023 ((-1) * w13 + (-1000) * x0 + x25) ∧ Is ρ blen028 ((-1) * q20 + (-1) * u22 + (-1)) ∧ Is ρ blen029 ((-1) * q20 + (-1) * u22 + u23 + (-1)) ∧ Is ρ blen031 ((-1) * q20 + (-1) * u24) ∧ Is ρ blen032 ((-1) * q20 + (-1) * u24 + u25) ∧ Is ρ blen033 ((-1) * m21 + w19) ∧ Is ρ blen034 (q15 + u26) ∧ Is ρ blen035 (q15 + u26 + (-1) * u27) ∧ Is ρ blen036 ((-1) * m16 + w14) ∧ Is ρ blen037 (x5) ∧ Is ρ blen038 (x6) := by
  have h0 : Is ρ blen00 (x20 + 1) := Ya e20 (Zc 1) (by omega)
  have h1 : Is ρ blen01 ((-1) * u1 + x20) := by
    have u1s := u1s.out
    exact Zmn e21 e20 (by omega)
  have h2 : Is ρ blen02 (u2 + x20) := by
    have u2s := u2s.out
    exact Zmx e22 e20 (by omega)
  have h3 : Is ρ blen03 (w4) := by
    have w4s := w4s.out
    exact Zmul e1 e3 (by omega) (((by simp only [Int.add_mul, Int.mul_add, Int.mul_assoc, Int.mul_comm, Int.mul_left_comm, Int.reduceMul, Int.reduceNeg, Int.mul_one, Int.one_mul] <;> omega : (x1) * (x3) = x1 * x3).trans (by (try simp only [m3e.out]) <;> omega)).trans w4s)
  have h4 : Is ρ blen04 (w6) := by
    have w6s := w6s.out
    exact Zmul e2 e5 (by omega) (((by simp only [Int.add_mul, Int.mul_add, Int.mul_assoc, Int.mul_comm, Int.mul_left_comm, Int.reduceMul, Int.reduceNeg, Int.mul_one, Int.one_mul] <;> omega : (x2) * (x5) = x2 * x5).trans (by (try simp only [m5e.out]) <;> omega)).trans w6s)
  have h5 : Is ρ blen05 (w4 + w6) := Ya h3 h4 (by omega)
  have h6 : Is ρ blen06 (1000 * x0) := Ym (Zc 1000) e0 (by omega)
  have h7 : Is ρ blen07 (w4 + w6 + 1000 * x0) := Ya h5 h6 (by omega)
  have h8 : Is ρ blen08 (1000 * x13) := Ym (Zc 1000) e13 (by omega)
  have h9 : Is ρ blen09 (x16 + 1) := Ya e16 (Zc 1) (by omega)
  have h10 : Is ρ blen010 (q9) := by
    have w7s := w7s.out
    have w8s := w8s.out
    exact Ztq (w7s ▸ h8) (w8s ▸ h9) q9e.out (by omega)
  have h11 : Is ρ blen011 (q9 + 1) := Ya h10 (Zc 1) (by omega)
  have h12 : Is ρ blen012 (q9 + u11 + 1) := by
    have u11s := u11s.out
    exact Zmx h7 h11 (by omega)
  have h13 : Is ρ blen013 (w13) := by
    have w13s := w13s.out
    exact Zmul e1 e20 (by omega) (((by simp only [Int.add_mul, Int.mul_add, Int.mul_assoc, Int.mul_comm, Int.mul_left_comm, Int.reduceMul, Int.reduceNeg, Int.mul_one, Int.one_mul] <;> omega : (x1) * (x20) = x1 * x20).trans (by (try simp only [m12e.out]) <;> omega)).trans w13s)
  have h14 : Is ρ blen014 (0) := Ym e2 (Zc 0) (by omega)
  have h15 : Is ρ blen015 (w13) := Ya h13 h14 (by omega)
  have h16 : Is ρ blen016 (w13 + 1000 * x0) := Ya h6 h15 (by omega)
  have h17 : Is ρ blen017 ((-1) * w13 + (-1000) * x0) := Ys (Zc 0) h16 (by omega)
  have h18 : Is ρ blen018 (q9 + u11 + (-1) * w13 + (-1000) * x0 + 1) := Ya h12 h17 (by omega)
  have h19 : Is ρ blen019 (q15) := by
    have w14s := w14s.out
    exact Ztq (w14s ▸ h18) e2 q15e.out (by omega)
  have h20 : Is ρ blen020 (q15 + 1) := Ya h19 (Zc 1) (by omega)
  have h21 : Is ρ blen021 (q15 + u17 + 1) := by
    have u17s := u17s.out
    exact Zmx e5 h20 (by omega)
  have h22 : Is ρ blen022 (q15 + u17 + (-1) * u18 + 1) := by
    have u18s := u18s.out
    exact Zmn e23 h21 (by omega)
  have h23 : Is ρ blen023 ((-1) * w13 + (-1000) * x0 + x25) := Ya e25 h17 (by omega)
  have h24 : Is ρ blen024 (w13 + 1000 * x0 + (-1) * x25) := Ys (Zc 0) h23 (by omega)
  have h25 : Is ρ blen025 (q20) := by
    have w19s := w19s.out
    exact Ztq (w19s ▸ h24) e2 q20e.out (by omega)
  have h26 : Is ρ blen026 (q20 + 1) := Ya h25 (Zc 1) (by omega)
  have h27 : Is ρ blen027 ((-1) * q20 + (-1)) := Ys (Zc 0) h26 (by omega)
  have h28 : Is ρ blen028 ((-1) * q20 + (-1) * u22 + (-1)) := by
    have u22s := u22s.out
    exact Zmn e6 h27 (by omega)
  have h29 : Is ρ blen029 ((-1) * q20 + (-1) * u22 + u23 + (-1)) := by
    have u23s := u23s.out
    exact Zmx e24 h28 (by omega)
  have h30 : Is ρ blen030 ((-1) * q20) := Ys (Zc 0) h25 (by omega)
  have h31 : Is ρ blen031 ((-1) * q20 + (-1) * u24) := by
    have u24s := u24s.out
    exact Zmn e6 h30 (by omega)
  have h32 : Is ρ blen032 ((-1) * q20 + (-1) * u24 + u25) := by
    have u25s := u25s.out
    exact Zmx e24 h31 (by omega)
  have h33 : Is ρ blen033 ((-1) * m21 + w19) := by
    have w19s := w19s.out
    exact ZtrD (w19s ▸ h24) e2 q20e.out m21e.out (by omega)
  have h34 : Is ρ blen034 (q15 + u26) := by
    have u26s := u26s.out
    exact Zmx e5 h19 (by omega)
  have h35 : Is ρ blen035 (q15 + u26 + (-1) * u27) := by
    have u27s := u27s.out
    exact Zmn e23 h34 (by omega)
  have h36 : Is ρ blen036 ((-1) * m16 + w14) := by
    have w14s := w14s.out
    exact ZtrD (w14s ▸ h18) e2 q15e.out m16e.out (by omega)
  have h37 : Is ρ blen037 (x5) := Zmn e23 e5 rf1.out
  have h38 : Is ρ blen038 (x6) := Zmx e24 e6 rf2.out
  exact ⟨h0, h1, h2, h18, h21, h22, h23, h28, h29, h31, h32, h33, h34, h35, h36, h37, h38⟩
theorem blen0_d0 {x5 x6 : Int}  (v1 : x5 ≤ x6) : (x5 : Int) ≤ x6 := by omega
theorem blen0_d1 {x20 x4 : Int} (b_x20 : 0 ≤ x20 ∧ x20 ≤ 1001) (b_x4 : 0 ≤ x4 ∧ x4 ≤ 1000) (k0 : (x20 : Int) ≤ x4) : (0 : Int) ≤ (x20 + 1) ∧ (x20 + 1 : Int) ≤ 1001 := by omega
theorem blen0_d2 {u1 x20 x21 x4 : Int} (b_x20 : 0 ≤ x20 ∧ x20 ≤ 1001) (b_x21 : 0 ≤ x21 ∧ x21 ≤ 1000) (b_x4 : 0 ≤ x4 ∧ x4 ≤ 1000) (k0 : (x20 : Int) ≤ x4) (u1s : max (x20 + (-1) * x21) 0 = u1) : (0 : Int) ≤ ((-1) * u1 + x20) ∧ ((-1) * u1 + x20 : Int) ≤ 1000 := by omega
theorem blen0_d3 {u2 x20 x22 x4 : Int} (b_x20 : 0 ≤ x20 ∧ x20 ≤ 1001) (b_x22 : 0 ≤ x22 ∧ x22 ≤ 1000) (b_x4 : 0 ≤ x4 ∧ x4 ≤ 1000) (k0 : (x20 : Int) ≤ x4) (u2s : max ((-1) * x20 + x22) 0 = u2) : (0 : Int) ≤ (u2 + x20) ∧ (u2 + x20 : Int) ≤ 1000 := by omega
theorem blen0_d4 {x5 : Int} (b_x5 : 0 ≤ x5 ∧ x5 ≤ 1000) : (0 : Int) ≤ (x5) ∧ (x5 : Int) ≤ 1000 := by omega
theorem blen0_d5 {x6 : Int} (b_x6 : 0 ≤ x6 ∧ x6 ≤ 1000) : (0 : Int) ≤ (x6) ∧ (x6 : Int) ≤ 1000 := by omega
theorem blen0_d6 {x25 : Int} (b_x25 : 0 ≤ x25 ∧ x25 ≤ 1000000000000000000) : (0 : Int) ≤ (x25) ∧ (x25 : Int) ≤ 1000000000000000000 := by omega
theorem blen0_d7 {x20 x3 : Int}  (i0 : x3 ≤ x20) : x3 ≤ (x20 + 1) := by omega
theorem blen0_d8 {x19 x25 : Int}  (i1 : x19 ≤ x25) : x19 ≤ (x25) := by omega
theorem blen0_d9 {x20 x4 : Int}  (k0 : (x20 : Int) ≤ x4) : (x20 + 1) ≤ x4 + 1 := by omega
theorem blen0_d10 {u1 u2 x17 x18 x20 x5 x6 x21 x22 x23 x24 : Int} (b_u2 : 0 ≤ u2 ∧ u2 ≤ 1000) (i3 : x17 + 1 ≤ x20 → x21 ≤ x17 ∧ x17 ≤ x22 ∧ x23 ≤ x18 ∧ x18 ≤ x24) (u1s : max (x20 + (-1) * x21) 0 = u1) (v9 : x5 ≤ x18) (v10 : x18 ≤ x6) : x17 + 1 ≤ (x20 + 1) → ((-1) * u1 + x20) ≤ x17 ∧ x17 ≤ (u2 + x20) ∧ (x5) ≤ x18 ∧ x18 ≤ (x6) := by omega
theorem blen0_d11 {u1 u2 x20 x3 x4 x5 x6 x21 x22 x23 x24 : Int} (b_x3 : 0 ≤ x3 ∧ x3 ≤ 1000) (b_x4 : 0 ≤ x4 ∧ x4 ≤ 1000) (k0 : (x20 : Int) ≤ x4) (u1s : max (x20 + (-1) * x21) 0 = u1) (i0 : x3 ≤ x20) (u2s : max ((-1) * x20 + x22) 0 = u2) (i4 : (x21 = 1000 ∧ x22 = 0 ∧ x23 = 1000 ∧ x24 = 0) ∨ (x3 ≤ x21 ∧ x22 ≤ x4 ∧ x5 ≤ x23 ∧ x24 ≤ x6)) : (((-1) * u1 + x20) = 1000 ∧ (u2 + x20) = 0 ∧ (x5) = 1000 ∧ (x6) = 0) ∨ (x3 ≤ ((-1) * u1 + x20) ∧ (u2 + x20) ≤ x4 ∧ x5 ≤ (x5) ∧ (x6) ≤ x6) := by omega
theorem blen0_d12 {x20 x4 : Int}  : (x4 + 1 - (x20 + 1)) + 1 ≤ x4 + 1 - (x20) := by omega
theorem blen0_d13 {x20 x4 : Int}  (k0 : (x20 : Int) ≤ x4) : 1 ≤ x4 + 1 - (x20) := by omega
theorem blen0_d14 {x21 : Int} (b_x21 : 0 ≤ x21 ∧ x21 ≤ 1000) : (0 : Int) ≤ (x21) ∧ (x21 : Int) ≤ 1000 := by omega
theorem blen0_d15 {x22 : Int} (b_x22 : 0 ≤ x22 ∧ x22 ≤ 1000) : (0 : Int) ≤ (x22) ∧ (x22 : Int) ≤ 1000 := by omega
theorem blen0_d16 {x23 : Int} (b_x23 : 0 ≤ x23 ∧ x23 ≤ 1000) : (0 : Int) ≤ (x23) ∧ (x23 : Int) ≤ 1000 := by omega
theorem blen0_d17 {x24 : Int} (b_x24 : 0 ≤ x24 ∧ x24 ≤ 1000) : (0 : Int) ≤ (x24) ∧ (x24 : Int) ≤ 1000 := by omega
theorem blen0_d18 {x17 x18 x20 x21 x22 x23 x24 m12 m28 x19 x0 m29 x2 w13 x25 : Int}  (i3 : x17 + 1 ≤ x20 → x21 ≤ x17 ∧ x17 ≤ x22 ∧ x23 ≤ x18 ∧ x18 ≤ x24) (rf28 : 0 ≤ x17 + (-1) * x20 → 0 ≤ (-1) * m12 + m28) (rf3 : x19 = 1000 * x0 + m28 + m29) (m29f1 : (0) * x2 + (0) * x18 - (0) ≤ m29) (k3 : ¬ ((0 : Int) ≤ (-1) * w13 + (-1000) * x0 + x25)) (i1 : x19 ≤ x25) (w13s : m12 = w13) : x17 + 1 ≤ (x20 + 1) → (x21) ≤ x17 ∧ x17 ≤ (x22) ∧ (x23) ≤ x18 ∧ x18 ≤ (x24) := by omega
theorem blen0_d19 {x21 x22 x23 x24 x3 x4 x5 x6 : Int}  (i4 : (x21 = 1000 ∧ x22 = 0 ∧ x23 = 1000 ∧ x24 = 0) ∨ (x3 ≤ x21 ∧ x22 ≤ x4 ∧ x5 ≤ x23 ∧ x24 ≤ x6)) : ((x21) = 1000 ∧ (x22) = 0 ∧ (x23) = 1000 ∧ (x24) = 0) ∨ (x3 ≤ (x21) ∧ (x22) ≤ x4 ∧ x5 ≤ (x23) ∧ (x24) ≤ x6) := by omega
theorem blen0_d20 {x17 x18 x20 x21 x22 x23 x24 w7 m12 m28 x2 x19 x0 m29 m3 m5 q9 u11 w13 x13 m30 w4 w6 : Int} (b_w7 : 0 ≤ w7 ∧ w7 ≤ 10000000000000000) (rf27 : 0 ≤ (-1) * x17 + x20 → 0 ≤ m12 + (-1) * m28) (k1 : (x2 : Int) ≤ 0) (rf3 : x19 = 1000 * x0 + m28 + m29) (rf6_0 : 0 ≤ m28 + (-1) * m3) (m29f3 : m29 ≤ (1000) * x2 + (0) * x18 - (0)) (rf8_0 : 0 ≤ m29 + (-1) * m5) (k2 : ¬ ((q9 + u11 + (-1) * w13 + (-1000) * x0 + 1 : Int) ≤ 0)) (rf4 : 1000 * x13 + 1 ≤ m30 + x19) (rf10 : 1 ≤ x19 ∨ 0 ≤ w7 → x19 ≤ q9 ∧ m30 + x19 ≤ w7 ∨ q9 + 1 ≤ x19 ∧ w7 + 1 ≤ m30 + x19) (u11s : max ((-1) * q9 + w4 + w6 + 1000 * x0 + (-1)) 0 = u11) (w13s : m12 = w13) (w7s : 1000 * x13 = w7) (w4s : m3 = w4) (w6s : m5 = w6) : x17 + 1 ≤ (x20 + 1) → (x21) ≤ x17 ∧ x17 ≤ (x22) ∧ (x23) ≤ x18 ∧ x18 ≤ (x24) := by omega
theorem blen0_d21 {x2 : Int}  (k1 : ¬ ((x2 : Int) ≤ 0)) : ¬ ((x2 : Int) = 0) := by omega
theorem blen0_d22 {q15 u26 u27 x23 x5 : Int} (b_x23 : 0 ≤ x23 ∧ x23 ≤ 1000) (b_x5 : 0 ≤ x5 ∧ x5 ≤ 1000) (u26s : max ((-1) * q15 + x5) 0 = u26) (u27s : max (q15 + u26 + (-1) * x23) 0 = u27) : (0 : Int) ≤ (q15 + u26 + (-1) * u27) ∧ (q15 + u26 + (-1) * u27 : Int) ≤ 1000 := by omega
theorem blen0_d23 {q20 u24 u25 x24 x6 : Int} (b_x24 : 0 ≤ x24 ∧ x24 ≤ 1000) (b_x6 : 0 ≤ x6 ∧ x6 ≤ 1000) (u24s : max ((-1) * q20 + (-1) * x6) 0 = u24) (u25s : max (q20 + u24 + x24) 0 = u25) : (0 : Int) ≤ ((-1) * q20 + (-1) * u24 + u25) ∧ ((-1) * q20 + (-1) * u24 + u25 : Int) ≤ 1000 := by omega
theorem blen0_d24 {q15 q20 u1 u2 u24 u25 u26 u27 x17 x18 x20 w7 x21 x22 x23 x24 m12 m28 x2 w14 m16 m29 x5 x6 m21 w19 x19 x0 m3 q9 u11 w13 m5 x25 x13 m30 w4 w6 : Int} (b_u2 : 0 ≤ u2 ∧ u2 ≤ 1000) (b_u27 : 0 ≤ u27 ∧ u27 ≤ 10000000500099999) (b_w7 : 0 ≤ w7 ∧ w7 ≤ 10000000000000000) (i3 : x17 + 1 ≤ x20 → x21 ≤ x17 ∧ x17 ≤ x22 ∧ x23 ≤ x18 ∧ x18 ≤ x24) (rf27 : 0 ≤ (-1) * x17 + x20 → 0 ≤ m12 + (-1) * m28) (rf28 : 0 ≤ x17 + (-1) * x20 → 0 ≤ (-1) * m12 + m28) (u1s : max (x20 + (-1) * x21) 0 = u1) (q15d : 1 ≤ x2 → ((0 ≤ w14 → 0 ≤ q15 ∧ m16 ≤ w14 ∧ w14 ≤ m16 + (x2 - 1)) ∧ (w14 ≤ 0 → q15 ≤ 0 ∧ w14 ≤ m16 ∧ m16 ≤ w14 + (x2 - 1)))) (rf13 : 0 ≤ q15 + (-1) * x18 + (-1) → 0 ≤ m16 + (-1) * m29 + (-1) * x2) (u26s : max ((-1) * q15 + x5) 0 = u26) (v9 : x5 ≤ x18) (v10 : x18 ≤ x6) (rf25 : 0 ≤ q20 + x18 + (-1) → 0 ≤ m21 + m29 + (-1) * x2) (q20d : 1 ≤ x2 → ((0 ≤ w19 → 0 ≤ q20 ∧ m21 ≤ w19 ∧ w19 ≤ m21 + (x2 - 1)) ∧ (w19 ≤ 0 → q20 ≤ 0 ∧ w19 ≤ m21 ∧ m21 ≤ w19 + (x2 - 1)))) (u24s : max ((-1) * q20 + (-1) * x6) 0 = u24) (u25s : max (q20 + u24 + x24) 0 = u25) (k1 : ¬ ((x2 : Int) ≤ 0)) (rf3 : x19 = 1000 * x0 + m28 + m29) (rf6_0 : 0 ≤ m28 + (-1) * m3) (w14s : q9 + u11 + (-1) * w13 + (-1000) * x0 + 1 = w14) (rf8_0 : 0 ≤ m29 + (-1) * m5) (w19s : w13 + 1000 * x0 + (-1) * x25 = w19) (i1 : x19 ≤ x25) (rf4 : 1000 * x13 + 1 ≤ m30 + x19) (rf10 : 1 ≤ x19 ∨ 0 ≤ w7 → x19 ≤ q9 ∧ m30 + x19 ≤ w7 ∨ q9 + 1 ≤ x19 ∧ w7 + 1 ≤ m30 + x19) (u11s : max ((-1) * q9 + w4 + w6 + 1000 * x0 + (-1)) 0 = u11) (w13s : m12 = w13) (w7s : 1000 * x13 = w7) (w4s : m3 = w4) (w6s : m5 = w6) : x17 + 1 ≤ (x20 + 1) → ((-1) * u1 + x20) ≤ x17 ∧ x17 ≤ (u2 + x20) ∧ (q15 + u26 + (-1) * u27) ≤ x18 ∧ x18 ≤ ((-1) * q20 + (-1) * u24 + u25) := by omega
theorem blen0_d25 {q15 q20 u1 u2 u24 u25 u26 u27 x20 x3 x4 x5 x6 x21 x22 x23 x24 : Int} (b_x20 : 0 ≤ x20 ∧ x20 ≤ 1001) (b_x3 : 0 ≤ x3 ∧ x3 ≤ 1000) (b_x5 : 0 ≤ x5 ∧ x5 ≤ 1000) (b_x6 : 0 ≤ x6 ∧ x6 ≤ 1000) (k0 : (x20 : Int) ≤ x4) (u1s : max (x20 + (-1) * x21) 0 = u1) (i0 : x3 ≤ x20) (u2s : max ((-1) * x20 + x22) 0 = u2) (u26s : max ((-1) * q15 + x5) 0 = u26) (u27s : max (q15 + u26 + (-1) * x23) 0 = u27) (u24s : max ((-1) * q20 + (-1) * x6) 0 = u24) (u25s : max (q20 + u24 + x24) 0 = u25) (i4 : (x21 = 1000 ∧ x22 = 0 ∧ x23 = 1000 ∧ x24 = 0) ∨ (x3 ≤ x21 ∧ x22 ≤ x4 ∧ x5 ≤ x23 ∧ x24 ≤ x6)) : (((-1) * u1 + x20) = 1000 ∧ (u2 + x20) = 0 ∧ (q15 + u26 + (-1) * u27) = 1000 ∧ ((-1) * q20 + (-1) * u24 + u25) = 0) ∨ (x3 ≤ ((-1) * u1 + x20) ∧ (u2 + x20) ≤ x4 ∧ x5 ≤ (q15 + u26 + (-1) * u27) ∧ ((-1) * q20 + (-1) * u24 + u25) ≤ x6) := by omega
theorem blen0_d26 {x17 x18 x20 x21 x22 x23 x24 w7 m12 m28 x5 x6 q15 m16 m29 x2 q20 m21 u26 u24 x19 x0 m3 w14 m5 w19 q9 u11 w13 x25 x13 m30 w4 w6 : Int} (b_w7 : 0 ≤ w7 ∧ w7 ≤ 10000000000000000) (i3 : x17 + 1 ≤ x20 → x21 ≤ x17 ∧ x17 ≤ x22 ∧ x23 ≤ x18 ∧ x18 ≤ x24) (rf27 : 0 ≤ (-1) * x17 + x20 → 0 ≤ m12 + (-1) * m28) (rf28 : 0 ≤ x17 + (-1) * x20 → 0 ≤ (-1) * m12 + m28) (v9 : x5 ≤ x18) (v10 : x18 ≤ x6) (rf13 : 0 ≤ q15 + (-1) * x18 + (-1) → 0 ≤ m16 + (-1) * m29 + (-1) * x2) (rf25 : 0 ≤ q20 + x18 + (-1) → 0 ≤ m21 + m29 + (-1) * x2) (k1 : ¬ ((x2 : Int) ≤ 0)) (k8 : ¬ ((q15 + u26 : Int) ≤ (-1) * q20 + (-1) * u24)) (rf3 : x19 = 1000 * x0 + m28 + m29) (rf6_0 : 0 ≤ m28 + (-1) * m3) (q15d : 1 ≤ x2 → ((0 ≤ w14 → 0 ≤ q15 ∧ m16 ≤ w14 ∧ w14 ≤ m16 + (x2 - 1)) ∧ (w14 ≤ 0 → q15 ≤ 0 ∧ w14 ≤ m16 ∧ m16 ≤ w14 + (x2 - 1)))) (rf8_0 : 0 ≤ m29 + (-1) * m5) (q20d : 1 ≤ x2 → ((0 ≤ w19 → 0 ≤ q20 ∧ m21 ≤ w19 ∧ w19 ≤ m21 + (x2 - 1)) ∧ (w19 ≤ 0 → q20 ≤ 0 ∧ w19 ≤ m21 ∧ m21 ≤ w19 + (x2 - 1)))) (w14s : q9 + u11 + (-1) * w13 + (-1000) * x0 + 1 = w14) (w19s : w13 + 1000 * x0 + (-1) * x25 = w19) (u26s : max ((-1) * q15 + x5) 0 = u26) (u24s : max ((-1) * q20 + (-1) * x6) 0 = u24) (i1 : x19 ≤ x25) (rf4 : 1000 * x13 + 1 ≤ m30 + x19) (rf10 : 1 ≤ x19 ∨ 0 ≤ w7 → x19 ≤ q9 ∧ m30 + x19 ≤ w7 ∨ q9 + 1 ≤ x19 ∧ w7 + 1 ≤ m30 + x19) (u11s : max ((-1) * q9 + w4 + w6 + 1000 * x0 + (-1)) 0 = u11) (w13s : m12 = w13) (w7s : 1000 * x13 = w7) (w4s : m3 = w4) (w6s : m5 = w6) : x17 + 1 ≤ (x20 + 1) → (x21) ≤ x17 ∧ x17 ≤ (x22) ∧ (x23) ≤ x18 ∧ x18 ≤ (x24) := by omega
theorem blen0_d27 {q15 u26 q20 u22 x5 x2 w19 m21 : Int} (b_u22 : 0 ≤ u22 ∧ u22 ≤ 999999999999998999) (b_x5 : 0 ≤ x5 ∧ x5 ≤ 1000) (u26s : max ((-1) * q15 + x5) 0 = u26) (q20d : 1 ≤ x2 → ((0 ≤ w19 → 0 ≤ q20 ∧ m21 ≤ w19 ∧ w19 ≤ m21 + (x2 - 1)) ∧ (w19 ≤ 0 → q20 ≤ 0 ∧ w19 ≤ m21 ∧ m21 ≤ w19 + (x2 - 1)))) (k1 : ¬ ((x2 : Int) ≤ 0)) (k7 : ¬ (((-1) * m21 + w19 : Int) ≤ 0)) : ¬ ((q15 + u26 : Int) ≤ (-1) * q20 + (-1) * u22 + (-1)) := by omega
theorem blen0_d28 {x17 x18 x20 x21 x22 x23 x24 m12 m28 x2 m21 w19 x19 x0 m29 q20 w13 x25 : Int}  (i3 : x17 + 1 ≤ x20 → x21 ≤ x17 ∧ x17 ≤ x22 ∧ x23 ≤ x18 ∧ x18 ≤ x24) (rf28 : 0 ≤ x17 + (-1) * x20 → 0 ≤ (-1) * m12 + m28) (k1 : ¬ ((x2 : Int) ≤ 0)) (k7 : ¬ (((-1) * m21 + w19 : Int) ≤ 0)) (rf3 : x19 = 1000 * x0 + m28 + m29) (m29f1 : (0) * x2 + (0) * x18 - (0) ≤ m29) (q20d : 1 ≤ x2 → ((0 ≤ w19 → 0 ≤ q20 ∧ m21 ≤ w19 ∧ w19 ≤ m21 + (x2 - 1)) ∧ (w19 ≤ 0 → q20 ≤ 0 ∧ w19 ≤ m21 ∧ m21 ≤ w19 + (x2 - 1)))) (w19s : w13 + 1000 * x0 + (-1) * x25 = w19) (i1 : x19 ≤ x25) (w13s : m12 = w13) : x17 + 1 ≤ (x20 + 1) → (x21) ≤ x17 ∧ x17 ≤ (x22) ∧ (x23) ≤ x18 ∧ x18 ≤ (x24) := by omega
theorem blen0_d29 {m21 w19 w7 w13 x0 x25 x2 q20 x19 m28 m29 m5 m16 w14 q15 x13 m30 q9 m3 u11 w4 w6 : Int} (b_w7 : 0 ≤ w7 ∧ w7 ≤ 10000000000000000) (w19s : w13 + 1000 * x0 + (-1) * x25 = w19) (k1 : ¬ ((x2 : Int) ≤ 0)) (q20d : 1 ≤ x2 → ((0 ≤ w19 → 0 ≤ q20 ∧ m21 ≤ w19 ∧ w19 ≤ m21 + (x2 - 1)) ∧ (w19 ≤ 0 → q20 ≤ 0 ∧ w19 ≤ m21 ∧ m21 ≤ w19 + (x2 - 1)))) (rf3 : x19 = 1000 * x0 + m28 + m29) (rf8_0 : 0 ≤ m29 + (-1) * m5) (i1 : x19 ≤ x25) (k4 : ¬ (((-1) * m16 + w14 : Int) ≤ 0)) (q15d : 1 ≤ x2 → ((0 ≤ w14 → 0 ≤ q15 ∧ m16 ≤ w14 ∧ w14 ≤ m16 + (x2 - 1)) ∧ (w14 ≤ 0 → q15 ≤ 0 ∧ w14 ≤ m16 ∧ m16 ≤ w14 + (x2 - 1)))) (rf4 : 1000 * x13 + 1 ≤ m30 + x19) (rf10 : 1 ≤ x19 ∨ 0 ≤ w7 → x19 ≤ q9 ∧ m30 + x19 ≤ w7 ∨ q9 + 1 ≤ x19 ∧ w7 + 1 ≤ m30 + x19) (rf6_0 : 0 ≤ m28 + (-1) * m3) (w14s : q9 + u11 + (-1) * w13 + (-1000) * x0 + 1 = w14) (w7s : 1000 * x13 = w7) (u11s : max ((-1) * q9 + w4 + w6 + 1000 * x0 + (-1)) 0 = u11) (w4s : m3 = w4) (w6s : m5 = w6) : ((-1) * m21 + w19 : Int) ≤ 0 := by omega
theorem blen0_d30 {q15 u17 u18 x23 x5 : Int} (b_x23 : 0 ≤ x23 ∧ x23 ≤ 1000) (b_x5 : 0 ≤ x5 ∧ x5 ≤ 1000) (u17s : max ((-1) * q15 + x5 + (-1)) 0 = u17) (u18s : max (q15 + u17 + (-1) * x23 + 1) 0 = u18) : (0 : Int) ≤ (q15 + u17 + (-1) * u18 + 1) ∧ (q15 + u17 + (-1) * u18 + 1 : Int) ≤ 1000 := by omega
theorem blen0_d31 {q15 q20 u1 u17 u18 u2 u24 u25 x17 x18 x20 w7 x21 x22 x23 x24 m12 m28 m16 m29 x5 x6 m21 x2 w19 w14 x19 x0 m3 q9 u11 w13 m5 x25 x13 m30 w4 w6 : Int} (b_u18 : 0 ≤ u18 ∧ u18 ≤ 10000000500099999) (b_u2 : 0 ≤ u2 ∧ u2 ≤ 1000) (b_w7 : 0 ≤ w7 ∧ w7 ≤ 10000000000000000) (i3 : x17 + 1 ≤ x20 → x21 ≤ x17 ∧ x17 ≤ x22 ∧ x23 ≤ x18 ∧ x18 ≤ x24) (rf27 : 0 ≤ (-1) * x17 + x20 → 0 ≤ m12 + (-1) * m28) (rf28 : 0 ≤ x17 + (-1) * x20 → 0 ≤ (-1) * m12 + m28) (u1s : max (x20 + (-1) * x21) 0 = u1) (rf11 : 0 ≤ q15 + (-1) * x18 → 0 ≤ m16 + (-1) * m29) (u17s : max ((-1) * q15 + x5 + (-1)) 0 = u17) (v9 : x5 ≤ x18) (v10 : x18 ≤ x6) (rf25 : 0 ≤ q20 + x18 + (-1) → 0 ≤ m21 + m29 + (-1) * x2) (q20d : 1 ≤ x2 → ((0 ≤ w19 → 0 ≤ q20 ∧ m21 ≤ w19 ∧ w19 ≤ m21 + (x2 - 1)) ∧ (w19 ≤ 0 → q20 ≤ 0 ∧ w19 ≤ m21 ∧ m21 ≤ w19 + (x2 - 1)))) (u24s : max ((-1) * q20 + (-1) * x6) 0 = u24) (u25s : max (q20 + u24 + x24) 0 = u25) (k1 : ¬ ((x2 : Int) ≤ 0)) (k4 : ¬ (((-1) * m16 + w14 : Int) ≤ 0)) (rf3 : x19 = 1000 * x0 + m28 + m29) (rf6_0 : 0 ≤ m28 + (-1) * m3) (w14s : q9 + u11 + (-1) * w13 + (-1000) * x0 + 1 = w14) (rf8_0 : 0 ≤ m29 + (-1) * m5) (w19s : w13 + 1000 * x0 + (-1) * x25 = w19) (i1 : x19 ≤ x25) (rf4 : 1000 * x13 + 1 ≤ m30 + x19) (rf10 : 1 ≤ x19 ∨ 0 ≤ w7 → x19 ≤ q9 ∧ m30 + x19 ≤ w7 ∨ q9 + 1 ≤ x19 ∧ w7 + 1 ≤ m30 + x19) (u11s : max ((-1) * q9 + w4 + w6 + 1000 * x0 + (-1)) 0 = u11) (w13s : m12 = w13) (w7s : 1000 * x13 = w7) (w4s : m3 = w4) (w6s : m5 = w6) : x17 + 1 ≤ (x20 + 1) → ((-1) * u1 + x20) ≤ x17 ∧ x17 ≤ (u2 + x20) ∧ (q15 + u17 + (-1) * u18 + 1) ≤ x18 ∧ x18 ≤ ((-1) * q20 + (-1) * u24 + u25) := by omega
theorem blen0_d32 {q15 q20 u1 u17 u18 u2 u24 u25 x20 x3 x4 x5 x6 x21 x22 x23 x24 : Int} (b_x20 : 0 ≤ x20 ∧ x20 ≤ 1001) (b_x4 : 0 ≤ x4 ∧ x4 ≤ 1000) (b_x5 : 0 ≤ x5 ∧ x5 ≤ 1000) (b_x6 : 0 ≤ x6 ∧ x6 ≤ 1000) (k0 : (x20 : Int) ≤ x4) (u1s : max (x20 + (-1) * x21) 0 = u1) (i0 : x3 ≤ x20) (u2s : max ((-1) * x20 + x22) 0 = u2) (u17s : max ((-1) * q15 + x5 + (-1)) 0 = u17) (u18s : max (q15 + u17 + (-1) * x23 + 1) 0 = u18) (u24s : max ((-1) * q20 + (-1) * x6) 0 = u24) (u25s : max (q20 + u24 + x24) 0 = u25) (i4 : (x21 = 1000 ∧ x22 = 0 ∧ x23 = 1000 ∧ x24 = 0) ∨ (x3 ≤ x21 ∧ x22 ≤ x4 ∧ x5 ≤ x23 ∧ x24 ≤ x6)) : (((-1) * u1 + x20) = 1000 ∧ (u2 + x20) = 0 ∧ (q15 + u17 + (-1) * u18 + 1) = 1000 ∧ ((-1) * q20 + (-1) * u24 + u25) = 0) ∨ (x3 ≤ ((-1) * u1 + x20) ∧ (u2 + x20) ≤ x4 ∧ x5 ≤ (q15 + u17 + (-1) * u18 + 1) ∧ ((-1) * q20 + (-1) * u24 + u25) ≤ x6) := by omega
theorem blen0_d33 {x17 x18 x20 x21 x22 x23 x24 w7 m12 m28 x5 x6 q15 m16 m29 q20 m21 x2 w14 u17 u24 x19 x0 m3 m5 w19 q9 u11 w13 x25 x13 m30 w4 w6 : Int} (b_w7 : 0 ≤ w7 ∧ w7 ≤ 10000000000000000) (i3 : x17 + 1 ≤ x20 → x21 ≤ x17 ∧ x17 ≤ x22 ∧ x23 ≤ x18 ∧ x18 ≤ x24) (rf27 : 0 ≤ (-1) * x17 + x20 → 0 ≤ m12 + (-1) * m28) (rf28 : 0 ≤ x17 + (-1) * x20 → 0 ≤ (-1) * m12 + m28) (v9 : x5 ≤ x18) (v10 : x18 ≤ x6) (rf11 : 0 ≤ q15 + (-1) * x18 → 0 ≤ m16 + (-1) * m29) (rf25 : 0 ≤ q20 + x18 + (-1) → 0 ≤ m21 + m29 + (-1) * x2) (k1 : ¬ ((x2 : Int) ≤ 0)) (k4 : ¬ (((-1) * m16 + w14 : Int) ≤ 0)) (k8 : ¬ ((q15 + u17 + 1 : Int) ≤ (-1) * q20 + (-1) * u24)) (rf3 : x19 = 1000 * x0 + m28 + m29) (rf6_0 : 0 ≤ m28 + (-1) * m3) (rf8_0 : 0 ≤ m29 + (-1) * m5) (q20d : 1 ≤ x2 → ((0 ≤ w19 → 0 ≤ q20 ∧ m21 ≤ w19 ∧ w19 ≤ m21 + (x2 - 1)) ∧ (w19 ≤ 0 → q20 ≤ 0 ∧ w19 ≤ m21 ∧ m21 ≤ w19 + (x2 - 1)))) (w14s : q9 + u11 + (-1) * w13 + (-1000) * x0 + 1 = w14) (u17s : max ((-1) * q15 + x5 + (-1)) 0 = u17) (u24s : max ((-1) * q20 + (-1) * x6) 0 = u24) (i1 : x19 ≤ x25) (rf4 : 1000 * x13 + 1 ≤ m30 + x19) (rf10 : 1 ≤ x19 ∨ 0 ≤ w7 → x19 ≤ q9 ∧ m30 + x19 ≤ w7 ∨ q9 + 1 ≤ x19 ∧ w7 + 1 ≤ m30 + x19) (w19s : w13 + 1000 * x0 + (-1) * x25 = w19) (u11s : max ((-1) * q9 + w4 + w6 + 1000 * x0 + (-1)) 0 = u11) (w13s : m12 = w13) (w7s : 1000 * x13 = w7) (w4s : m3 = w4) (w6s : m5 = w6) : x17 + 1 ≤ (x20 + 1) → (x21) ≤ x17 ∧ x17 ≤ (x22) ∧ (x23) ≤ x18 ∧ x18 ≤ (x24) := by omega
theorem blen0_d34 {x21 x22 x17 x20 x23 x18 x24 x4 : Int}  (i3 : x17 + 1 ≤ x20 → x21 ≤ x17 ∧ x17 ≤ x22 ∧ x23 ≤ x18 ∧ x18 ≤ x24) (k0 : ¬ ((x20 : Int) ≤ x4)) (v8 : x17 ≤ x4) : (x21 : Int) ≤ x22 := by omega
theorem blen0_d35  : (0 : Int) = 0 := by omega
theorem blen0_d36 {x17 x21 x22 x20 x23 x18 x24 x4 : Int}  (i3 : x17 + 1 ≤ x20 → x21 ≤ x17 ∧ x17 ≤ x22 ∧ x23 ≤ x18 ∧ x18 ≤ x24) (v8 : x17 ≤ x4) (k0 : ¬ ((x20 : Int) ≤ x4)) : (x21) ≤ x17 ∧ x17 ≤ (x22) := by omega
theorem blen0_d37 {x18 x23 x24 x17 x20 x21 x22 x4 : Int}  (i3 : x17 + 1 ≤ x20 → x21 ≤ x17 ∧ x17 ≤ x22 ∧ x23 ≤ x18 ∧ x18 ≤ x24) (k0 : ¬ ((x20 : Int) ≤ x4)) (v8 : x17 ≤ x4) : (x23) ≤ x18 ∧ x18 ≤ (x24) := by omega
theorem blen0_d38 {x21 x22 x3 x4 x23 x24 x5 x6 : Int} (b_x3 : 0 ≤ x3 ∧ x3 ≤ 1000) (b_x4 : 0 ≤ x4 ∧ x4 ≤ 1000) (i4 : (x21 = 1000 ∧ x22 = 0 ∧ x23 = 1000 ∧ x24 = 0) ∨ (x3 ≤ x21 ∧ x22 ≤ x4 ∧ x5 ≤ x23 ∧ x24 ≤ x6)) : x3 ≤ (x21) ∧ (x22) ≤ x4 := by omega
theorem blen0_d39 {x23 x24 x5 x6 x21 x22 x3 x4 : Int} (b_x5 : 0 ≤ x5 ∧ x5 ≤ 1000) (b_x6 : 0 ≤ x6 ∧ x6 ≤ 1000) (i4 : (x21 = 1000 ∧ x22 = 0 ∧ x23 = 1000 ∧ x24 = 0) ∨ (x3 ≤ x21 ∧ x22 ≤ x4 ∧ x5 ≤ x23 ∧ x24 ≤ x6)) : x5 ≤ (x23) ∧ (x24) ≤ x6 := by omega
theorem blen0_d40 {x21 x22 x23 x24 : Int} (b_x21 : 0 ≤ x21 ∧ x21 ≤ 1000) (b_x22 : 0 ≤ x22 ∧ x22 ≤ 1000) (b_x23 : 0 ≤ x23 ∧ x23 ≤ 1000) (b_x24 : 0 ≤ x24 ∧ x24 ≤ 1000) : (0 ≤ (x21) ∧ (x21) ≤ 1000) ∧ (0 ≤ (x22) ∧ (x22) ≤ 1000) ∧ (0 ≤ (x23) ∧ (x23) ≤ 1000) ∧ (0 ≤ (x24) ∧ (x24) ≤ 1000) := by omega
end Go.Proofs.Ytknphpihipkdpaa.Cx
