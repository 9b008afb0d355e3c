/- TopBoltThread: the tests of the law and their arithmetic. Made by tools/cxroot.py. -/
import Derived.Test.YtknphpihipkdpaaBThreadT
import Derived.Test.YtknphpihipkdpaaCxGcd
set_option linter.unusedSimpArgs false
set_option linter.unusedVariables false
set_option maxRecDepth 100000
set_option maxHeartbeats 4000000
namespace Go.Proofs.Ytknphpihipkdpaa.Cx
open Go Go.RowKit

theorem bh_aq1 {x9 : Int} (b_x9 : 0 ≤ x9 ∧ x9 ≤ 65535) : ∃ q r : Int, Hd ((x9) / 5000 = q) ∧ Hd ((x9) % 5000 = r) ∧ (x9 = 5000 * q + r) ∧ (0 ≤ q ∧ q ≤ 13) ∧ (0 ≤ r ∧ r ≤ 4999) := ⟨_, _, ⟨rfl⟩, ⟨rfl⟩, by omega, by omega, by omega⟩
theorem bh_aq3 {x9 : Int} (b_x9 : 0 ≤ x9 ∧ x9 ≤ 65535) : ∃ q r : Int, Hd ((x9) / 3 = q) ∧ Hd ((x9) % 3 = r) ∧ (x9 = 3 * q + r) ∧ (0 ≤ q ∧ q ≤ 21845) ∧ (0 ≤ r ∧ r ≤ 2) := ⟨_, _, ⟨rfl⟩, ⟨rfl⟩, by omega, by omega, by omega⟩
theorem bh_am5 {r2 r4 : Int} (b_r2 : 0 ≤ r2 ∧ r2 ≤ 4999) (b_r4 : 0 ≤ r4 ∧ r4 ≤ 2) : ∃ m : Int, Hd (r2 * r4 = m) ∧ ((0) * r4 + (0) * r2 - (0) ≤ m) ∧ ((4999) * r4 + (2) * r2 - (9998) ≤ m) ∧ (m ≤ (4999) * r4 + (0) * r2 - (0)) ∧ (m ≤ (0) * r4 + (2) * r2 - (0)) ∧ (0 ≤ m ∧ m ≤ 9998) := by
  obtain ⟨h1, h2, h3, h4⟩ := mcc (x := r2) (y := r4) b_r2.1 b_r2.2 b_r4.1 b_r4.2
  refine ⟨_, ⟨rfl⟩, ?_, ?_, ?_, ?_, ?_, ?_⟩ <;> omega
theorem bh_aw6 {m5 r2 r4 : Int} (b_m5 : 0 ≤ m5 ∧ m5 ≤ 9998) (b_r2 : 0 ≤ r2 ∧ r2 ≤ 4999) (b_r4 : 0 ≤ r4 ∧ r4 ≤ 2) : ∃ w : Int, (4 * m5 + 4 * r2 + 4000 * r4 + 4000 = w) ∧ (4000 ≤ w ∧ w ≤ 71988) := ⟨_, rfl, by omega, by omega⟩
theorem bh_aq7 {w6 : Int} (b_w6 : 4000 ≤ w6 ∧ w6 ≤ 71988) : ∃ q r : Int, Hd ((500 * w6) / 1000 = q) ∧ Hd ((500 * w6) % 1000 = r) ∧ (500 * w6 = 1000 * q + r) ∧ (2000 ≤ q ∧ q ≤ 35994) ∧ (0 ≤ r ∧ r ≤ 999) := ⟨_, _, ⟨rfl⟩, ⟨rfl⟩, by omega, by omega, by omega⟩
theorem bh_aq9 {w6 : Int} (b_w6 : 4000 ≤ w6 ∧ w6 ≤ 71988) : ∃ q r : Int, Hd ((250 * w6) / 1000 = q) ∧ Hd ((250 * w6) % 1000 = r) ∧ (250 * w6 = 1000 * q + r) ∧ (1000 ≤ q ∧ q ≤ 17997) ∧ (0 ≤ r ∧ r ≤ 999) := ⟨_, _, ⟨rfl⟩, ⟨rfl⟩, by omega, by omega, by omega⟩
theorem bh_aq11 {w6 : Int} (b_w6 : 4000 ≤ w6 ∧ w6 ≤ 71988) : ∃ q r : Int, Hd ((125 * w6) / 1000 = q) ∧ Hd ((125 * w6) % 1000 = r) ∧ (125 * w6 = 1000 * q + r) ∧ (500 ≤ q ∧ q ≤ 8998) ∧ (0 ≤ r ∧ r ≤ 999) := ⟨_, _, ⟨rfl⟩, ⟨rfl⟩, by omega, by omega, by omega⟩
theorem bh_aq13 {w6 : Int} (b_w6 : 4000 ≤ w6 ∧ w6 ≤ 71988) : ∃ q r : Int, Hd ((25 * w6) / 1000 = q) ∧ Hd ((25 * w6) % 1000 = r) ∧ (25 * w6 = 1000 * q + r) ∧ (100 ≤ q ∧ q ≤ 1799) ∧ (0 ≤ r ∧ r ≤ 999) := ⟨_, _, ⟨rfl⟩, ⟨rfl⟩, by omega, by omega, by omega⟩
theorem bh_aq15 {w6 : Int} (b_w6 : 4000 ≤ w6 ∧ w6 ≤ 71988) : ∃ q r : Int, Hd ((5 * w6) / 1000 = q) ∧ Hd ((5 * w6) % 1000 = r) ∧ (5 * w6 = 1000 * q + r) ∧ (20 ≤ q ∧ q ≤ 359) ∧ (0 ≤ r ∧ r ≤ 999) := ⟨_, _, ⟨rfl⟩, ⟨rfl⟩, by omega, by omega, by omega⟩
theorem bh_aq17 {w6 : Int} (b_w6 : 4000 ≤ w6 ∧ w6 ≤ 71988) : ∃ q r : Int, Hd ((w6) / 1000 = q) ∧ Hd ((w6) % 1000 = r) ∧ (w6 = 1000 * q + r) ∧ (4 ≤ q ∧ q ≤ 71) ∧ (0 ≤ r ∧ r ≤ 999) := ⟨_, _, ⟨rfl⟩, ⟨rfl⟩, by omega, by omega, by omega⟩
theorem bh_aq19 {x10 : Int} (b_x10 : 0 ≤ x10 ∧ x10 ≤ 65535) : ∃ q r : Int, Hd ((x10) / 900 = q) ∧ Hd ((x10) % 900 = r) ∧ (x10 = 900 * q + r) ∧ (0 ≤ q ∧ q ≤ 72) ∧ (0 ≤ r ∧ r ≤ 899) := ⟨_, _, ⟨rfl⟩, ⟨rfl⟩, by omega, by omega, by omega⟩
theorem bh_aq21 {x11 : Int} (b_x11 : 0 ≤ x11 ∧ x11 ≤ 65535) : ∃ q r : Int, Hd ((x11) / 900 = q) ∧ Hd ((x11) % 900 = r) ∧ (x11 = 900 * q + r) ∧ (0 ≤ q ∧ q ≤ 72) ∧ (0 ≤ r ∧ r ≤ 899) := ⟨_, _, ⟨rfl⟩, ⟨rfl⟩, by omega, by omega, by omega⟩
theorem bh_aq23 {x14 : Int} (b_x14 : 0 ≤ x14 ∧ x14 ≤ 65535) : ∃ q r : Int, Hd ((x14) / 2001 = q) ∧ Hd ((x14) % 2001 = r) ∧ (x14 = 2001 * q + r) ∧ (0 ≤ q ∧ q ≤ 32) ∧ (0 ≤ r ∧ r ≤ 2000) := ⟨_, _, ⟨rfl⟩, ⟨rfl⟩, by omega, by omega, by omega⟩
theorem bh_am25 {r24 w6 : Int} (b_r24 : 0 ≤ r24 ∧ r24 ≤ 2000) (b_w6 : 4000 ≤ w6 ∧ w6 ≤ 71988) : ∃ m : Int, Hd (r24 * w6 = m) ∧ ((0) * w6 + (4000) * r24 - (0) ≤ m) ∧ ((2000) * w6 + (71988) * r24 - (143976000) ≤ m) ∧ (m ≤ (2000) * w6 + (4000) * r24 - (8000000)) ∧ (m ≤ (0) * w6 + (71988) * r24 - (0)) ∧ (0 ≤ m ∧ m ≤ 143976000) := by
  obtain ⟨h1, h2, h3, h4⟩ := mcc (x := r24) (y := w6) b_r24.1 b_r24.2 b_w6.1 b_w6.2
  refine ⟨_, ⟨rfl⟩, ?_, ?_, ?_, ?_, ?_, ?_⟩ <;> omega
theorem bh_aw26 {m25 : Int} (b_m25 : 0 ≤ m25 ∧ m25 ≤ 143976000) : ∃ w : Int, (1000 * m25 = w) ∧ (0 ≤ w ∧ w ≤ 143976000000) := ⟨_, rfl, by omega, by omega⟩
theorem bh_aq27 {w26 : Int} (b_w26 : 0 ≤ w26 ∧ w26 ≤ 143976000000) : ∃ q r : Int, Hd ((w26) / 1000000 = q) ∧ Hd ((w26) % 1000000 = r) ∧ (w26 = 1000000 * q + r) ∧ (0 ≤ q ∧ q ≤ 143976) ∧ (0 ≤ r ∧ r ≤ 999999) := ⟨_, _, ⟨rfl⟩, ⟨rfl⟩, by omega, by omega, by omega⟩
theorem bh_ag29 {w26 r28 : Int} (b_w26 : 0 ≤ w26 ∧ w26 ≤ 143976000000) (r28e : Hd ((w26) % 1000000 = r28)) : ∃ g N D : Int, Hd ((Int.gcd w26 1000000 : Int) = g) ∧ Hd (N * g = w26) ∧ Hd (D * g = 1000000) ∧ (1 ≤ g ∧ g ≤ 1000000) ∧ (0 ≤ N ∧ N ≤ 143976000000) ∧ (1 ≤ D ∧ D ≤ 1000000) ∧ ((r28 = 0 → g = 1000000 ∧ D = 1 ∧ 1000000 * N = w26) ∧ (D = 1 → r28 = 0)) := by
  obtain ⟨g, N, D, h1, h2, h3, h4, h5, h6, h7⟩ := gcdc_ex w26 1000000 r28 (by omega) (by omega) r28e.out
  exact ⟨g, N, D, h1, h2, h3, h4, by omega, h6, h7⟩
theorem bh_aw32 {m25 : Int} (b_m25 : 0 ≤ m25 ∧ m25 ≤ 143976000) : ∃ w : Int, (m25 = w) ∧ (0 ≤ w ∧ w ≤ 143976000) := ⟨_, rfl, by omega, by omega⟩
theorem bh_aq33 {w32 : Int} (b_w32 : 0 ≤ w32 ∧ w32 ≤ 143976000) : ∃ q r : Int, Hd ((w32) / 1000 = q) ∧ Hd ((w32) % 1000 = r) ∧ (w32 = 1000 * q + r) ∧ (0 ≤ q ∧ q ≤ 143976) ∧ (0 ≤ r ∧ r ≤ 999) := ⟨_, _, ⟨rfl⟩, ⟨rfl⟩, by omega, by omega, by omega⟩
theorem bh_aq35 {x8 : Int} (b_x8 : 0 ≤ x8 ∧ x8 ≤ 255) : ∃ q r : Int, Hd ((x8) / 20 = q) ∧ Hd ((x8) % 20 = r) ∧ (x8 = 20 * q + r) ∧ (0 ≤ q ∧ q ≤ 12) ∧ (0 ≤ r ∧ r ≤ 19) := ⟨_, _, ⟨rfl⟩, ⟨rfl⟩, by omega, by omega, by omega⟩
theorem bh_am37 {r36 w6 : Int} (b_r36 : 0 ≤ r36 ∧ r36 ≤ 19) (b_w6 : 4000 ≤ w6 ∧ w6 ≤ 71988) : ∃ m : Int, Hd (r36 * w6 = m) ∧ ((0) * w6 + (4000) * r36 - (0) ≤ m) ∧ ((19) * w6 + (71988) * r36 - (1367772) ≤ m) ∧ (m ≤ (19) * w6 + (4000) * r36 - (76000)) ∧ (m ≤ (0) * w6 + (71988) * r36 - (0)) ∧ (0 ≤ m ∧ m ≤ 1367772) := by
  obtain ⟨h1, h2, h3, h4⟩ := mcc (x := r36) (y := w6) b_r36.1 b_r36.2 b_w6.1 b_w6.2
  refine ⟨_, ⟨rfl⟩, ?_, ?_, ?_, ?_, ?_, ?_⟩ <;> omega
theorem bh_am38 {w6 x7 : Int} (b_w6 : 4000 ≤ w6 ∧ w6 ≤ 71988) (b_x7 : 0 ≤ x7 ∧ x7 ≤ 255) : ∃ m : Int, Hd (w6 * x7 = m) ∧ ((4000) * x7 + (0) * w6 - (0) ≤ m) ∧ ((71988) * x7 + (255) * w6 - (18356940) ≤ m) ∧ (m ≤ (71988) * x7 + (0) * w6 - (0)) ∧ (m ≤ (4000) * x7 + (255) * w6 - (1020000)) ∧ (0 ≤ m ∧ m ≤ 18356940) := by
  obtain ⟨h1, h2, h3, h4⟩ := mcc (x := w6) (y := x7) b_w6.1 b_w6.2 b_x7.1 b_x7.2
  refine ⟨_, ⟨rfl⟩, ?_, ?_, ?_, ?_, ?_, ?_⟩ <;> omega
theorem bh_aw39 {m37 m38 w6 : Int} (b_m37 : 0 ≤ m37 ∧ m37 ≤ 1367772) (b_m38 : 0 ≤ m38 ∧ m38 ≤ 18356940) (b_w6 : 4000 ≤ w6 ∧ w6 ≤ 71988) : ∃ w : Int, (m37 + m38 + w6 = w) ∧ (4000 ≤ w ∧ w ≤ 19796700) := ⟨_, rfl, by omega, by omega⟩
theorem bh_aq40 {x4 : Int} (b_x4 : 0 ≤ x4 ∧ x4 ≤ 255) : ∃ q r : Int, Hd ((x4) / 60 = q) ∧ Hd ((x4) % 60 = r) ∧ (x4 = 60 * q + r) ∧ (0 ≤ q ∧ q ≤ 4) ∧ (0 ≤ r ∧ r ≤ 59) := ⟨_, _, ⟨rfl⟩, ⟨rfl⟩, by omega, by omega, by omega⟩
theorem bh_aq42 {x6 : Int} (b_x6 : 0 ≤ x6 ∧ x6 ≤ 255) : ∃ q r : Int, Hd ((x6) / 60 = q) ∧ Hd ((x6) % 60 = r) ∧ (x6 = 60 * q + r) ∧ (0 ≤ q ∧ q ≤ 4) ∧ (0 ≤ r ∧ r ≤ 59) := ⟨_, _, ⟨rfl⟩, ⟨rfl⟩, by omega, by omega, by omega⟩
theorem bh_aw44 {m38 w6 : Int} (b_m38 : 0 ≤ m38 ∧ m38 ≤ 18356940) (b_w6 : 4000 ≤ w6 ∧ w6 ≤ 71988) : ∃ w : Int, (m38 + w6 = w) ∧ (4000 ≤ w ∧ w ≤ 18428928) := ⟨_, rfl, by omega, by omega⟩
theorem bh_am45 {r41 x1 : Int} (b_r41 : 0 ≤ r41 ∧ r41 ≤ 59) (b_x1 : 0 ≤ x1 ∧ x1 ≤ 255) : ∃ m : Int, Hd (r41 * x1 = m) ∧ ((0) * x1 + (0) * r41 - (0) ≤ m) ∧ ((59) * x1 + (255) * r41 - (15045) ≤ m) ∧ (m ≤ (59) * x1 + (0) * r41 - (0)) ∧ (m ≤ (0) * x1 + (255) * r41 - (0)) ∧ (0 ≤ m ∧ m ≤ 15045) := by
  obtain ⟨h1, h2, h3, h4⟩ := mcc (x := r41) (y := x1) b_r41.1 b_r41.2 b_x1.1 b_x1.2
  refine ⟨_, ⟨rfl⟩, ?_, ?_, ?_, ?_, ?_, ?_⟩ <;> omega
theorem bh_am46 {x1 x3 : Int} (b_x1 : 0 ≤ x1 ∧ x1 ≤ 255) (b_x3 : 0 ≤ x3 ∧ x3 ≤ 255) : ∃ m : Int, Hd (x1 * x3 = m) ∧ ((0) * x3 + (0) * x1 - (0) ≤ m) ∧ ((255) * x3 + (255) * x1 - (65025) ≤ m) ∧ (m ≤ (255) * x3 + (0) * x1 - (0)) ∧ (m ≤ (0) * x3 + (255) * x1 - (0)) ∧ (0 ≤ m ∧ m ≤ 65025) := by
  obtain ⟨h1, h2, h3, h4⟩ := mcc (x := x1) (y := x3) b_x1.1 b_x1.2 b_x3.1 b_x3.2
  refine ⟨_, ⟨rfl⟩, ?_, ?_, ?_, ?_, ?_, ?_⟩ <;> omega
theorem bh_aw47 {m45 m46 : Int} (b_m45 : 0 ≤ m45 ∧ m45 ≤ 15045) (b_m46 : 0 ≤ m46 ∧ m46 ≤ 65025) : ∃ w : Int, (20 * m45 + 20 * m46 = w) ∧ (0 ≤ w ∧ w ≤ 1601400) := ⟨_, rfl, by omega, by omega⟩
theorem bh_am48 {r43 x2 : Int} (b_r43 : 0 ≤ r43 ∧ r43 ≤ 59) (b_x2 : 0 ≤ x2 ∧ x2 ≤ 255) : ∃ m : Int, Hd (r43 * x2 = m) ∧ ((0) * x2 + (0) * r43 - (0) ≤ m) ∧ ((59) * x2 + (255) * r43 - (15045) ≤ m) ∧ (m ≤ (59) * x2 + (0) * r43 - (0)) ∧ (m ≤ (0) * x2 + (255) * r43 - (0)) ∧ (0 ≤ m ∧ m ≤ 15045) := by
  obtain ⟨h1, h2, h3, h4⟩ := mcc (x := r43) (y := x2) b_r43.1 b_r43.2 b_x2.1 b_x2.2
  refine ⟨_, ⟨rfl⟩, ?_, ?_, ?_, ?_, ?_, ?_⟩ <;> omega
theorem bh_am49 {x2 x5 : Int} (b_x2 : 0 ≤ x2 ∧ x2 ≤ 255) (b_x5 : 0 ≤ x5 ∧ x5 ≤ 255) : ∃ m : Int, Hd (x2 * x5 = m) ∧ ((0) * x5 + (0) * x2 - (0) ≤ m) ∧ ((255) * x5 + (255) * x2 - (65025) ≤ m) ∧ (m ≤ (255) * x5 + (0) * x2 - (0)) ∧ (m ≤ (0) * x5 + (255) * x2 - (0)) ∧ (0 ≤ m ∧ m ≤ 65025) := by
  obtain ⟨h1, h2, h3, h4⟩ := mcc (x := x2) (y := x5) b_x2.1 b_x2.2 b_x5.1 b_x5.2
  refine ⟨_, ⟨rfl⟩, ?_, ?_, ?_, ?_, ?_, ?_⟩ <;> omega
theorem bh_aw50 {m48 m49 : Int} (b_m48 : 0 ≤ m48 ∧ m48 ≤ 15045) (b_m49 : 0 ≤ m49 ∧ m49 ≤ 65025) : ∃ w : Int, (30 * m48 + 30 * m49 = w) ∧ (0 ≤ w ∧ w ≤ 2402100) := ⟨_, rfl, by omega, by omega⟩
theorem bh_aw51 {m46 : Int} (b_m46 : 0 ≤ m46 ∧ m46 ≤ 65025) : ∃ w : Int, (20 * m46 = w) ∧ (0 ≤ w ∧ w ≤ 1300500) := ⟨_, rfl, by omega, by omega⟩
theorem bh_aw52 {m49 : Int} (b_m49 : 0 ≤ m49 ∧ m49 ≤ 65025) : ∃ w : Int, (30 * m49 = w) ∧ (0 ≤ w ∧ w ≤ 1950750) := ⟨_, rfl, by omega, by omega⟩
theorem bh_am53 {r24 w44 : Int} (b_r24 : 0 ≤ r24 ∧ r24 ≤ 2000) (b_w44 : 4000 ≤ w44 ∧ w44 ≤ 18428928) : ∃ m : Int, Hd (r24 * w44 = m) ∧ ((0) * w44 + (4000) * r24 - (0) ≤ m) ∧ ((2000) * w44 + (18428928) * r24 - (36857856000) ≤ m) ∧ (m ≤ (2000) * w44 + (4000) * r24 - (8000000)) ∧ (m ≤ (0) * w44 + (18428928) * r24 - (0)) ∧ (0 ≤ m ∧ m ≤ 36857856000) := by
  obtain ⟨h1, h2, h3, h4⟩ := mcc (x := r24) (y := w44) b_r24.1 b_r24.2 b_w44.1 b_w44.2
  refine ⟨_, ⟨rfl⟩, ?_, ?_, ?_, ?_, ?_, ?_⟩ <;> omega
theorem bh_aw54 {m53 : Int} (b_m53 : 0 ≤ m53 ∧ m53 ≤ 36857856000) : ∃ w : Int, (m53 = w) ∧ (0 ≤ w ∧ w ≤ 36857856000) := ⟨_, rfl, by omega, by omega⟩
theorem bh_aq55 {w54 : Int} (b_w54 : 0 ≤ w54 ∧ w54 ≤ 36857856000) : ∃ q r : Int, Hd ((w54) / 1000 = q) ∧ Hd ((w54) % 1000 = r) ∧ (w54 = 1000 * q + r) ∧ (0 ≤ q ∧ q ≤ 36857856) ∧ (0 ≤ r ∧ r ≤ 999) := ⟨_, _, ⟨rfl⟩, ⟨rfl⟩, by omega, by omega, by omega⟩
theorem bh_aw57  : ∃ w : Int, (0 = w) ∧ (0 ≤ w ∧ w ≤ 0) := ⟨_, rfl, by omega, by omega⟩
theorem bh_aw58 {w47 w50 : Int} (b_w47 : 0 ≤ w47 ∧ w47 ≤ 1601400) (b_w50 : 0 ≤ w50 ∧ w50 ≤ 2402100) : ∃ w : Int, (w47 + w50 + 100000 = w) ∧ (100000 ≤ w ∧ w ≤ 4103500) := ⟨_, rfl, by omega, by omega⟩
theorem bh_aq59 {w57 w58 : Int} (b_w57 : 0 ≤ w57 ∧ w57 ≤ 0) (b_w58 : 100000 ≤ w58 ∧ w58 ≤ 4103500) : ∃ q : Int, Hd (w57.tdiv w58 = q) ∧ QD w57 w58 q ∧ (0 ≤ q ∧ q ≤ 0) := by
  obtain ⟨q, h1, h2⟩ := qD_ex w57 w58 (by omega)
  obtain ⟨h3, h4⟩ := qD_rng (lo := 0) (hi := 0) (dl := 100000) h2 (by omega) (by omega) (by omega) (by omega) (by omega) (by omega)
  have h5 := (h2.1 (by omega)).1
  exact ⟨q, h1, h2, by omega, by omega⟩
theorem bh_am60 {q59 w58 : Int} (b_q59 : 0 ≤ q59 ∧ q59 ≤ 0) (b_w58 : 100000 ≤ w58 ∧ w58 ≤ 4103500) : ∃ m : Int, Hd (q59 * w58 = m) ∧ ((0) * w58 + (100000) * q59 - (0) ≤ m) ∧ ((0) * w58 + (4103500) * q59 - (0) ≤ m) ∧ (m ≤ (0) * w58 + (100000) * q59 - (0)) ∧ (m ≤ (0) * w58 + (4103500) * q59 - (0)) ∧ (0 ≤ m ∧ m ≤ 0) := by
  obtain ⟨h1, h2, h3, h4⟩ := mcc (x := q59) (y := w58) b_q59.1 b_q59.2 b_w58.1 b_w58.2
  refine ⟨_, ⟨rfl⟩, ?_, ?_, ?_, ?_, ?_, ?_⟩ <;> omega
theorem bh_am61 {n30 x7 : Int} (b_n30 : 0 ≤ n30 ∧ n30 ≤ 143976000000) (b_x7 : 0 ≤ x7 ∧ x7 ≤ 255) : ∃ m : Int, Hd (n30 * x7 = m) ∧ ((0) * x7 + (0) * n30 - (0) ≤ m) ∧ ((143976000000) * x7 + (255) * n30 - (36713880000000) ≤ m) ∧ (m ≤ (143976000000) * x7 + (0) * n30 - (0)) ∧ (m ≤ (0) * x7 + (255) * n30 - (0)) ∧ (0 ≤ m ∧ m ≤ 36713880000000) := by
  obtain ⟨h1, h2, h3, h4⟩ := mcc (x := n30) (y := x7) b_n30.1 b_n30.2 b_x7.1 b_x7.2
  refine ⟨_, ⟨rfl⟩, ?_, ?_, ?_, ?_, ?_, ?_⟩ <;> omega
theorem bh_aw62 {m61 n30 : Int} (b_m61 : 0 ≤ m61 ∧ m61 ≤ 36713880000000) (b_n30 : 0 ≤ n30 ∧ n30 ≤ 143976000000) : ∃ w : Int, (m61 + n30 = w) ∧ (0 ≤ w ∧ w ≤ 36857856000000) := ⟨_, rfl, by omega, by omega⟩
theorem bh_am63 {r24 w39 : Int} (b_r24 : 0 ≤ r24 ∧ r24 ≤ 2000) (b_w39 : 4000 ≤ w39 ∧ w39 ≤ 19796700) : ∃ m : Int, Hd (r24 * w39 = m) ∧ ((0) * w39 + (4000) * r24 - (0) ≤ m) ∧ ((2000) * w39 + (19796700) * r24 - (39593400000) ≤ m) ∧ (m ≤ (2000) * w39 + (4000) * r24 - (8000000)) ∧ (m ≤ (0) * w39 + (19796700) * r24 - (0)) ∧ (0 ≤ m ∧ m ≤ 39593400000) := by
  obtain ⟨h1, h2, h3, h4⟩ := mcc (x := r24) (y := w39) b_r24.1 b_r24.2 b_w39.1 b_w39.2
  refine ⟨_, ⟨rfl⟩, ?_, ?_, ?_, ?_, ?_, ?_⟩ <;> omega
theorem bh_aw64 {m63 : Int} (b_m63 : 0 ≤ m63 ∧ m63 ≤ 39593400000) : ∃ w : Int, (m63 = w) ∧ (0 ≤ w ∧ w ≤ 39593400000) := ⟨_, rfl, by omega, by omega⟩
theorem bh_aq65 {w64 : Int} (b_w64 : 0 ≤ w64 ∧ w64 ≤ 39593400000) : ∃ q r : Int, Hd ((w64) / 1000 = q) ∧ Hd ((w64) % 1000 = r) ∧ (w64 = 1000 * q + r) ∧ (0 ≤ q ∧ q ≤ 39593400) ∧ (0 ≤ r ∧ r ≤ 999) := ⟨_, _, ⟨rfl⟩, ⟨rfl⟩, by omega, by omega, by omega⟩
theorem bh_aw67 {w51 w52 : Int} (b_w51 : 0 ≤ w51 ∧ w51 ≤ 1300500) (b_w52 : 0 ≤ w52 ∧ w52 ≤ 1950750) : ∃ w : Int, (w51 + w52 + 100000 = w) ∧ (100000 ≤ w ∧ w ≤ 3351250) := ⟨_, rfl, by omega, by omega⟩
theorem bh_aq68 {w57 w67 : Int} (b_w57 : 0 ≤ w57 ∧ w57 ≤ 0) (b_w67 : 100000 ≤ w67 ∧ w67 ≤ 3351250) : ∃ q : Int, Hd (w57.tdiv w67 = q) ∧ QD w57 w67 q ∧ (0 ≤ q ∧ q ≤ 0) := by
  obtain ⟨q, h1, h2⟩ := qD_ex w57 w67 (by omega)
  obtain ⟨h3, h4⟩ := qD_rng (lo := 0) (hi := 0) (dl := 100000) h2 (by omega) (by omega) (by omega) (by omega) (by omega) (by omega)
  have h5 := (h2.1 (by omega)).1
  exact ⟨q, h1, h2, by omega, by omega⟩
theorem bh_am69 {q68 w67 : Int} (b_q68 : 0 ≤ q68 ∧ q68 ≤ 0) (b_w67 : 100000 ≤ w67 ∧ w67 ≤ 3351250) : ∃ m : Int, Hd (q68 * w67 = m) ∧ ((0) * w67 + (100000) * q68 - (0) ≤ m) ∧ ((0) * w67 + (3351250) * q68 - (0) ≤ m) ∧ (m ≤ (0) * w67 + (100000) * q68 - (0)) ∧ (m ≤ (0) * w67 + (3351250) * q68 - (0)) ∧ (0 ≤ m ∧ m ≤ 0) := by
  obtain ⟨h1, h2, h3, h4⟩ := mcc (x := q68) (y := w67) b_q68.1 b_q68.2 b_w67.1 b_w67.2
  refine ⟨_, ⟨rfl⟩, ?_, ?_, ?_, ?_, ?_, ?_⟩ <;> omega
theorem bh_am70 {n30 r36 : Int} (b_n30 : 0 ≤ n30 ∧ n30 ≤ 143976000000) (b_r36 : 0 ≤ r36 ∧ r36 ≤ 19) : ∃ m : Int, Hd (n30 * r36 = m) ∧ ((0) * r36 + (0) * n30 - (0) ≤ m) ∧ ((143976000000) * r36 + (19) * n30 - (2735544000000) ≤ m) ∧ (m ≤ (143976000000) * r36 + (0) * n30 - (0)) ∧ (m ≤ (0) * r36 + (19) * n30 - (0)) ∧ (0 ≤ m ∧ m ≤ 2735544000000) := by
  obtain ⟨h1, h2, h3, h4⟩ := mcc (x := n30) (y := r36) b_n30.1 b_n30.2 b_r36.1 b_r36.2
  refine ⟨_, ⟨rfl⟩, ?_, ?_, ?_, ?_, ?_, ?_⟩ <;> omega
theorem bh_aw71 {m61 m70 n30 : Int} (b_m61 : 0 ≤ m61 ∧ m61 ≤ 36713880000000) (b_m70 : 0 ≤ m70 ∧ m70 ≤ 2735544000000) (b_n30 : 0 ≤ n30 ∧ n30 ≤ 143976000000) : ∃ w : Int, (m61 + m70 + n30 = w) ∧ (0 ≤ w ∧ w ≤ 39593400000000) := ⟨_, rfl, by omega, by omega⟩
theorem bh_aq72 {x14 : Int} (b_x14 : 0 ≤ x14 ∧ x14 ≤ 65535) : ∃ q r : Int, Hd ((x14) / 401 = q) ∧ Hd ((x14) % 401 = r) ∧ (x14 = 401 * q + r) ∧ (0 ≤ q ∧ q ≤ 163) ∧ (0 ≤ r ∧ r ≤ 400) := ⟨_, _, ⟨rfl⟩, ⟨rfl⟩, by omega, by omega, by omega⟩
theorem bh_am74 {r73 w6 : Int} (b_r73 : 0 ≤ r73 ∧ r73 ≤ 400) (b_w6 : 4000 ≤ w6 ∧ w6 ≤ 71988) : ∃ m : Int, Hd (r73 * w6 = m) ∧ ((0) * w6 + (4000) * r73 - (0) ≤ m) ∧ ((400) * w6 + (71988) * r73 - (28795200) ≤ m) ∧ (m ≤ (400) * w6 + (4000) * r73 - (1600000)) ∧ (m ≤ (0) * w6 + (71988) * r73 - (0)) ∧ (0 ≤ m ∧ m ≤ 28795200) := by
  obtain ⟨h1, h2, h3, h4⟩ := mcc (x := r73) (y := w6) b_r73.1 b_r73.2 b_w6.1 b_w6.2
  refine ⟨_, ⟨rfl⟩, ?_, ?_, ?_, ?_, ?_, ?_⟩ <;> omega
theorem bh_aw75 {m74 : Int} (b_m74 : 0 ≤ m74 ∧ m74 ≤ 28795200) : ∃ w : Int, (5000 * m74 = w) ∧ (0 ≤ w ∧ w ≤ 143976000000) := ⟨_, rfl, by omega, by omega⟩
theorem bh_aq76 {w75 : Int} (b_w75 : 0 ≤ w75 ∧ w75 ≤ 143976000000) : ∃ q r : Int, Hd ((w75) / 1000000 = q) ∧ Hd ((w75) % 1000000 = r) ∧ (w75 = 1000000 * q + r) ∧ (0 ≤ q ∧ q ≤ 143976) ∧ (0 ≤ r ∧ r ≤ 999999) := ⟨_, _, ⟨rfl⟩, ⟨rfl⟩, by omega, by omega, by omega⟩
theorem bh_ag78 {w75 r77 : Int} (b_w75 : 0 ≤ w75 ∧ w75 ≤ 143976000000) (r77e : Hd ((w75) % 1000000 = r77)) : ∃ g N D : Int, Hd ((Int.gcd w75 1000000 : Int) = g) ∧ Hd (N * g = w75) ∧ Hd (D * g = 1000000) ∧ (1 ≤ g ∧ g ≤ 1000000) ∧ (0 ≤ N ∧ N ≤ 143976000000) ∧ (1 ≤ D ∧ D ≤ 1000000) ∧ ((r77 = 0 → g = 1000000 ∧ D = 1 ∧ 1000000 * N = w75) ∧ (D = 1 → r77 = 0)) := by
  obtain ⟨g, N, D, h1, h2, h3, h4, h5, h6, h7⟩ := gcdc_ex w75 1000000 r77 (by omega) (by omega) r77e.out
  exact ⟨g, N, D, h1, h2, h3, h4, by omega, h6, h7⟩
theorem bh_aw81 {m74 : Int} (b_m74 : 0 ≤ m74 ∧ m74 ≤ 28795200) : ∃ w : Int, (5 * m74 = w) ∧ (0 ≤ w ∧ w ≤ 143976000) := ⟨_, rfl, by omega, by omega⟩
theorem bh_aq82 {w81 : Int} (b_w81 : 0 ≤ w81 ∧ w81 ≤ 143976000) : ∃ q r : Int, Hd ((w81) / 1000 = q) ∧ Hd ((w81) % 1000 = r) ∧ (w81 = 1000 * q + r) ∧ (0 ≤ q ∧ q ≤ 143976) ∧ (0 ≤ r ∧ r ≤ 999) := ⟨_, _, ⟨rfl⟩, ⟨rfl⟩, by omega, by omega, by omega⟩
theorem bh_am84 {r73 w44 : Int} (b_r73 : 0 ≤ r73 ∧ r73 ≤ 400) (b_w44 : 4000 ≤ w44 ∧ w44 ≤ 18428928) : ∃ m : Int, Hd (r73 * w44 = m) ∧ ((0) * w44 + (4000) * r73 - (0) ≤ m) ∧ ((400) * w44 + (18428928) * r73 - (7371571200) ≤ m) ∧ (m ≤ (400) * w44 + (4000) * r73 - (1600000)) ∧ (m ≤ (0) * w44 + (18428928) * r73 - (0)) ∧ (0 ≤ m ∧ m ≤ 7371571200) := by
  obtain ⟨h1, h2, h3, h4⟩ := mcc (x := r73) (y := w44) b_r73.1 b_r73.2 b_w44.1 b_w44.2
  refine ⟨_, ⟨rfl⟩, ?_, ?_, ?_, ?_, ?_, ?_⟩ <;> omega
theorem bh_aw85 {m84 : Int} (b_m84 : 0 ≤ m84 ∧ m84 ≤ 7371571200) : ∃ w : Int, (5 * m84 = w) ∧ (0 ≤ w ∧ w ≤ 36857856000) := ⟨_, rfl, by omega, by omega⟩
theorem bh_aq86 {w85 : Int} (b_w85 : 0 ≤ w85 ∧ w85 ≤ 36857856000) : ∃ q r : Int, Hd ((w85) / 1000 = q) ∧ Hd ((w85) % 1000 = r) ∧ (w85 = 1000 * q + r) ∧ (0 ≤ q ∧ q ≤ 36857856) ∧ (0 ≤ r ∧ r ≤ 999) := ⟨_, _, ⟨rfl⟩, ⟨rfl⟩, by omega, by omega, by omega⟩
theorem bh_am88 {n79 x7 : Int} (b_n79 : 0 ≤ n79 ∧ n79 ≤ 143976000000) (b_x7 : 0 ≤ x7 ∧ x7 ≤ 255) : ∃ m : Int, Hd (n79 * x7 = m) ∧ ((0) * x7 + (0) * n79 - (0) ≤ m) ∧ ((143976000000) * x7 + (255) * n79 - (36713880000000) ≤ m) ∧ (m ≤ (143976000000) * x7 + (0) * n79 - (0)) ∧ (m ≤ (0) * x7 + (255) * n79 - (0)) ∧ (0 ≤ m ∧ m ≤ 36713880000000) := by
  obtain ⟨h1, h2, h3, h4⟩ := mcc (x := n79) (y := x7) b_n79.1 b_n79.2 b_x7.1 b_x7.2
  refine ⟨_, ⟨rfl⟩, ?_, ?_, ?_, ?_, ?_, ?_⟩ <;> omega
theorem bh_aw89 {m88 n79 : Int} (b_m88 : 0 ≤ m88 ∧ m88 ≤ 36713880000000) (b_n79 : 0 ≤ n79 ∧ n79 ≤ 143976000000) : ∃ w : Int, (m88 + n79 = w) ∧ (0 ≤ w ∧ w ≤ 36857856000000) := ⟨_, rfl, by omega, by omega⟩
theorem bh_am90 {r73 w39 : Int} (b_r73 : 0 ≤ r73 ∧ r73 ≤ 400) (b_w39 : 4000 ≤ w39 ∧ w39 ≤ 19796700) : ∃ m : Int, Hd (r73 * w39 = m) ∧ ((0) * w39 + (4000) * r73 - (0) ≤ m) ∧ ((400) * w39 + (19796700) * r73 - (7918680000) ≤ m) ∧ (m ≤ (400) * w39 + (4000) * r73 - (1600000)) ∧ (m ≤ (0) * w39 + (19796700) * r73 - (0)) ∧ (0 ≤ m ∧ m ≤ 7918680000) := by
  obtain ⟨h1, h2, h3, h4⟩ := mcc (x := r73) (y := w39) b_r73.1 b_r73.2 b_w39.1 b_w39.2
  refine ⟨_, ⟨rfl⟩, ?_, ?_, ?_, ?_, ?_, ?_⟩ <;> omega
theorem bh_aw91 {m90 : Int} (b_m90 : 0 ≤ m90 ∧ m90 ≤ 7918680000) : ∃ w : Int, (5 * m90 = w) ∧ (0 ≤ w ∧ w ≤ 39593400000) := ⟨_, rfl, by omega, by omega⟩
theorem bh_aq92 {w91 : Int} (b_w91 : 0 ≤ w91 ∧ w91 ≤ 39593400000) : ∃ q r : Int, Hd ((w91) / 1000 = q) ∧ Hd ((w91) % 1000 = r) ∧ (w91 = 1000 * q + r) ∧ (0 ≤ q ∧ q ≤ 39593400) ∧ (0 ≤ r ∧ r ≤ 999) := ⟨_, _, ⟨rfl⟩, ⟨rfl⟩, by omega, by omega, by omega⟩
theorem bh_am94 {n79 r36 : Int} (b_n79 : 0 ≤ n79 ∧ n79 ≤ 143976000000) (b_r36 : 0 ≤ r36 ∧ r36 ≤ 19) : ∃ m : Int, Hd (n79 * r36 = m) ∧ ((0) * r36 + (0) * n79 - (0) ≤ m) ∧ ((143976000000) * r36 + (19) * n79 - (2735544000000) ≤ m) ∧ (m ≤ (143976000000) * r36 + (0) * n79 - (0)) ∧ (m ≤ (0) * r36 + (19) * n79 - (0)) ∧ (0 ≤ m ∧ m ≤ 2735544000000) := by
  obtain ⟨h1, h2, h3, h4⟩ := mcc (x := n79) (y := r36) b_n79.1 b_n79.2 b_r36.1 b_r36.2
  refine ⟨_, ⟨rfl⟩, ?_, ?_, ?_, ?_, ?_, ?_⟩ <;> omega
theorem bh_aw95 {m88 m94 n79 : Int} (b_m88 : 0 ≤ m88 ∧ m88 ≤ 36713880000000) (b_m94 : 0 ≤ m94 ∧ m94 ≤ 2735544000000) (b_n79 : 0 ≤ n79 ∧ n79 ≤ 143976000000) : ∃ w : Int, (m88 + m94 + n79 = w) ∧ (0 ≤ w ∧ w ≤ 39593400000000) := ⟨_, rfl, by omega, by omega⟩
theorem bh_aq96 {x14 : Int} (b_x14 : 0 ≤ x14 ∧ x14 ≤ 65535) : ∃ q r : Int, Hd ((x14) / 81 = q) ∧ Hd ((x14) % 81 = r) ∧ (x14 = 81 * q + r) ∧ (0 ≤ q ∧ q ≤ 809) ∧ (0 ≤ r ∧ r ≤ 80) := ⟨_, _, ⟨rfl⟩, ⟨rfl⟩, by omega, by omega, by omega⟩
theorem bh_am98 {r97 w6 : Int} (b_r97 : 0 ≤ r97 ∧ r97 ≤ 80) (b_w6 : 4000 ≤ w6 ∧ w6 ≤ 71988) : ∃ m : Int, Hd (r97 * w6 = m) ∧ ((0) * w6 + (4000) * r97 - (0) ≤ m) ∧ ((80) * w6 + (71988) * r97 - (5759040) ≤ m) ∧ (m ≤ (80) * w6 + (4000) * r97 - (320000)) ∧ (m ≤ (0) * w6 + (71988) * r97 - (0)) ∧ (0 ≤ m ∧ m ≤ 5759040) := by
  obtain ⟨h1, h2, h3, h4⟩ := mcc (x := r97) (y := w6) b_r97.1 b_r97.2 b_w6.1 b_w6.2
  refine ⟨_, ⟨rfl⟩, ?_, ?_, ?_, ?_, ?_, ?_⟩ <;> omega
theorem bh_aw99 {m98 : Int} (b_m98 : 0 ≤ m98 ∧ m98 ≤ 5759040) : ∃ w : Int, (25000 * m98 = w) ∧ (0 ≤ w ∧ w ≤ 143976000000) := ⟨_, rfl, by omega, by omega⟩
theorem bh_aq100 {w99 : Int} (b_w99 : 0 ≤ w99 ∧ w99 ≤ 143976000000) : ∃ q r : Int, Hd ((w99) / 1000000 = q) ∧ Hd ((w99) % 1000000 = r) ∧ (w99 = 1000000 * q + r) ∧ (0 ≤ q ∧ q ≤ 143976) ∧ (0 ≤ r ∧ r ≤ 999999) := ⟨_, _, ⟨rfl⟩, ⟨rfl⟩, by omega, by omega, by omega⟩
theorem bh_ag102 {w99 r101 : Int} (b_w99 : 0 ≤ w99 ∧ w99 ≤ 143976000000) (r101e : Hd ((w99) % 1000000 = r101)) : ∃ g N D : Int, Hd ((Int.gcd w99 1000000 : Int) = g) ∧ Hd (N * g = w99) ∧ Hd (D * g = 1000000) ∧ (1 ≤ g ∧ g ≤ 1000000) ∧ (0 ≤ N ∧ N ≤ 143976000000) ∧ (1 ≤ D ∧ D ≤ 1000000) ∧ ((r101 = 0 → g = 1000000 ∧ D = 1 ∧ 1000000 * N = w99) ∧ (D = 1 → r101 = 0)) := by
  obtain ⟨g, N, D, h1, h2, h3, h4, h5, h6, h7⟩ := gcdc_ex w99 1000000 r101 (by omega) (by omega) r101e.out
  exact ⟨g, N, D, h1, h2, h3, h4, by omega, h6, h7⟩
theorem bh_aw105 {m98 : Int} (b_m98 : 0 ≤ m98 ∧ m98 ≤ 5759040) : ∃ w : Int, (25 * m98 = w) ∧ (0 ≤ w ∧ w ≤ 143976000) := ⟨_, rfl, by omega, by omega⟩
theorem bh_aq106 {w105 : Int} (b_w105 : 0 ≤ w105 ∧ w105 ≤ 143976000) : ∃ q r : Int, Hd ((w105) / 1000 = q) ∧ Hd ((w105) % 1000 = r) ∧ (w105 = 1000 * q + r) ∧ (0 ≤ q ∧ q ≤ 143976) ∧ (0 ≤ r ∧ r ≤ 999) := ⟨_, _, ⟨rfl⟩, ⟨rfl⟩, by omega, by omega, by omega⟩
theorem bh_am108 {r97 w44 : Int} (b_r97 : 0 ≤ r97 ∧ r97 ≤ 80) (b_w44 : 4000 ≤ w44 ∧ w44 ≤ 18428928) : ∃ m : Int, Hd (r97 * w44 = m) ∧ ((0) * w44 + (4000) * r97 - (0) ≤ m) ∧ ((80) * w44 + (18428928) * r97 - (1474314240) ≤ m) ∧ (m ≤ (80) * w44 + (4000) * r97 - (320000)) ∧ (m ≤ (0) * w44 + (18428928) * r97 - (0)) ∧ (0 ≤ m ∧ m ≤ 1474314240) := by
  obtain ⟨h1, h2, h3, h4⟩ := mcc (x := r97) (y := w44) b_r97.1 b_r97.2 b_w44.1 b_w44.2
  refine ⟨_, ⟨rfl⟩, ?_, ?_, ?_, ?_, ?_, ?_⟩ <;> omega
theorem bh_aw109 {m108 : Int} (b_m108 : 0 ≤ m108 ∧ m108 ≤ 1474314240) : ∃ w : Int, (25 * m108 = w) ∧ (0 ≤ w ∧ w ≤ 36857856000) := ⟨_, rfl, by omega, by omega⟩
theorem bh_aq110 {w109 : Int} (b_w109 : 0 ≤ w109 ∧ w109 ≤ 36857856000) : ∃ q r : Int, Hd ((w109) / 1000 = q) ∧ Hd ((w109) % 1000 = r) ∧ (w109 = 1000 * q + r) ∧ (0 ≤ q ∧ q ≤ 36857856) ∧ (0 ≤ r ∧ r ≤ 999) := ⟨_, _, ⟨rfl⟩, ⟨rfl⟩, by omega, by omega, by omega⟩
theorem bh_am112 {n103 x7 : Int} (b_n103 : 0 ≤ n103 ∧ n103 ≤ 143976000000) (b_x7 : 0 ≤ x7 ∧ x7 ≤ 255) : ∃ m : Int, Hd (n103 * x7 = m) ∧ ((0) * x7 + (0) * n103 - (0) ≤ m) ∧ ((143976000000) * x7 + (255) * n103 - (36713880000000) ≤ m) ∧ (m ≤ (143976000000) * x7 + (0) * n103 - (0)) ∧ (m ≤ (0) * x7 + (255) * n103 - (0)) ∧ (0 ≤ m ∧ m ≤ 36713880000000) := by
  obtain ⟨h1, h2, h3, h4⟩ := mcc (x := n103) (y := x7) b_n103.1 b_n103.2 b_x7.1 b_x7.2
  refine ⟨_, ⟨rfl⟩, ?_, ?_, ?_, ?_, ?_, ?_⟩ <;> omega
theorem bh_aw113 {m112 n103 : Int} (b_m112 : 0 ≤ m112 ∧ m112 ≤ 36713880000000) (b_n103 : 0 ≤ n103 ∧ n103 ≤ 143976000000) : ∃ w : Int, (m112 + n103 = w) ∧ (0 ≤ w ∧ w ≤ 36857856000000) := ⟨_, rfl, by omega, by omega⟩
theorem bh_am114 {r97 w39 : Int} (b_r97 : 0 ≤ r97 ∧ r97 ≤ 80) (b_w39 : 4000 ≤ w39 ∧ w39 ≤ 19796700) : ∃ m : Int, Hd (r97 * w39 = m) ∧ ((0) * w39 + (4000) * r97 - (0) ≤ m) ∧ ((80) * w39 + (19796700) * r97 - (1583736000) ≤ m) ∧ (m ≤ (80) * w39 + (4000) * r97 - (320000)) ∧ (m ≤ (0) * w39 + (19796700) * r97 - (0)) ∧ (0 ≤ m ∧ m ≤ 1583736000) := by
  obtain ⟨h1, h2, h3, h4⟩ := mcc (x := r97) (y := w39) b_r97.1 b_r97.2 b_w39.1 b_w39.2
  refine ⟨_, ⟨rfl⟩, ?_, ?_, ?_, ?_, ?_, ?_⟩ <;> omega
theorem bh_aw115 {m114 : Int} (b_m114 : 0 ≤ m114 ∧ m114 ≤ 1583736000) : ∃ w : Int, (25 * m114 = w) ∧ (0 ≤ w ∧ w ≤ 39593400000) := ⟨_, rfl, by omega, by omega⟩
theorem bh_aq116 {w115 : Int} (b_w115 : 0 ≤ w115 ∧ w115 ≤ 39593400000) : ∃ q r : Int, Hd ((w115) / 1000 = q) ∧ Hd ((w115) % 1000 = r) ∧ (w115 = 1000 * q + r) ∧ (0 ≤ q ∧ q ≤ 39593400) ∧ (0 ≤ r ∧ r ≤ 999) := ⟨_, _, ⟨rfl⟩, ⟨rfl⟩, by omega, by omega, by omega⟩
theorem bh_am118 {n103 r36 : Int} (b_n103 : 0 ≤ n103 ∧ n103 ≤ 143976000000) (b_r36 : 0 ≤ r36 ∧ r36 ≤ 19) : ∃ m : Int, Hd (n103 * r36 = m) ∧ ((0) * r36 + (0) * n103 - (0) ≤ m) ∧ ((143976000000) * r36 + (19) * n103 - (2735544000000) ≤ m) ∧ (m ≤ (143976000000) * r36 + (0) * n103 - (0)) ∧ (m ≤ (0) * r36 + (19) * n103 - (0)) ∧ (0 ≤ m ∧ m ≤ 2735544000000) := by
  obtain ⟨h1, h2, h3, h4⟩ := mcc (x := n103) (y := r36) b_n103.1 b_n103.2 b_r36.1 b_r36.2
  refine ⟨_, ⟨rfl⟩, ?_, ?_, ?_, ?_, ?_, ?_⟩ <;> omega
theorem bh_aw119 {m112 m118 n103 : Int} (b_m112 : 0 ≤ m112 ∧ m112 ≤ 36713880000000) (b_m118 : 0 ≤ m118 ∧ m118 ≤ 2735544000000) (b_n103 : 0 ≤ n103 ∧ n103 ≤ 143976000000) : ∃ w : Int, (m112 + m118 + n103 = w) ∧ (0 ≤ w ∧ w ≤ 39593400000000) := ⟨_, rfl, by omega, by omega⟩
theorem bh_aq120 {x14 : Int} (b_x14 : 0 ≤ x14 ∧ x14 ≤ 65535) : ∃ q r : Int, Hd ((x14) / 17 = q) ∧ Hd ((x14) % 17 = r) ∧ (x14 = 17 * q + r) ∧ (0 ≤ q ∧ q ≤ 3855) ∧ (0 ≤ r ∧ r ≤ 16) := ⟨_, _, ⟨rfl⟩, ⟨rfl⟩, by omega, by omega, by omega⟩
theorem bh_am122 {r121 w6 : Int} (b_r121 : 0 ≤ r121 ∧ r121 ≤ 16) (b_w6 : 4000 ≤ w6 ∧ w6 ≤ 71988) : ∃ m : Int, Hd (r121 * w6 = m) ∧ ((0) * w6 + (4000) * r121 - (0) ≤ m) ∧ ((16) * w6 + (71988) * r121 - (1151808) ≤ m) ∧ (m ≤ (16) * w6 + (4000) * r121 - (64000)) ∧ (m ≤ (0) * w6 + (71988) * r121 - (0)) ∧ (0 ≤ m ∧ m ≤ 1151808) := by
  obtain ⟨h1, h2, h3, h4⟩ := mcc (x := r121) (y := w6) b_r121.1 b_r121.2 b_w6.1 b_w6.2
  refine ⟨_, ⟨rfl⟩, ?_, ?_, ?_, ?_, ?_, ?_⟩ <;> omega
theorem bh_aw123 {m122 : Int} (b_m122 : 0 ≤ m122 ∧ m122 ≤ 1151808) : ∃ w : Int, (125000 * m122 = w) ∧ (0 ≤ w ∧ w ≤ 143976000000) := ⟨_, rfl, by omega, by omega⟩
theorem bh_aq124 {w123 : Int} (b_w123 : 0 ≤ w123 ∧ w123 ≤ 143976000000) : ∃ q r : Int, Hd ((w123) / 1000000 = q) ∧ Hd ((w123) % 1000000 = r) ∧ (w123 = 1000000 * q + r) ∧ (0 ≤ q ∧ q ≤ 143976) ∧ (0 ≤ r ∧ r ≤ 999999) := ⟨_, _, ⟨rfl⟩, ⟨rfl⟩, by omega, by omega, by omega⟩
theorem bh_ag126 {w123 r125 : Int} (b_w123 : 0 ≤ w123 ∧ w123 ≤ 143976000000) (r125e : Hd ((w123) % 1000000 = r125)) : ∃ g N D : Int, Hd ((Int.gcd w123 1000000 : Int) = g) ∧ Hd (N * g = w123) ∧ Hd (D * g = 1000000) ∧ (1 ≤ g ∧ g ≤ 1000000) ∧ (0 ≤ N ∧ N ≤ 143976000000) ∧ (1 ≤ D ∧ D ≤ 1000000) ∧ ((r125 = 0 → g = 1000000 ∧ D = 1 ∧ 1000000 * N = w123) ∧ (D = 1 → r125 = 0)) := by
  obtain ⟨g, N, D, h1, h2, h3, h4, h5, h6, h7⟩ := gcdc_ex w123 1000000 r125 (by omega) (by omega) r125e.out
  exact ⟨g, N, D, h1, h2, h3, h4, by omega, h6, h7⟩
theorem bh_aw129 {m122 : Int} (b_m122 : 0 ≤ m122 ∧ m122 ≤ 1151808) : ∃ w : Int, (125 * m122 = w) ∧ (0 ≤ w ∧ w ≤ 143976000) := ⟨_, rfl, by omega, by omega⟩
theorem bh_aq130 {w129 : Int} (b_w129 : 0 ≤ w129 ∧ w129 ≤ 143976000) : ∃ q r : Int, Hd ((w129) / 1000 = q) ∧ Hd ((w129) % 1000 = r) ∧ (w129 = 1000 * q + r) ∧ (0 ≤ q ∧ q ≤ 143976) ∧ (0 ≤ r ∧ r ≤ 999) := ⟨_, _, ⟨rfl⟩, ⟨rfl⟩, by omega, by omega, by omega⟩
theorem bh_am132 {r121 w44 : Int} (b_r121 : 0 ≤ r121 ∧ r121 ≤ 16) (b_w44 : 4000 ≤ w44 ∧ w44 ≤ 18428928) : ∃ m : Int, Hd (r121 * w44 = m) ∧ ((0) * w44 + (4000) * r121 - (0) ≤ m) ∧ ((16) * w44 + (18428928) * r121 - (294862848) ≤ m) ∧ (m ≤ (16) * w44 + (4000) * r121 - (64000)) ∧ (m ≤ (0) * w44 + (18428928) * r121 - (0)) ∧ (0 ≤ m ∧ m ≤ 294862848) := by
  obtain ⟨h1, h2, h3, h4⟩ := mcc (x := r121) (y := w44) b_r121.1 b_r121.2 b_w44.1 b_w44.2
  refine ⟨_, ⟨rfl⟩, ?_, ?_, ?_, ?_, ?_, ?_⟩ <;> omega
theorem bh_aw133 {m132 : Int} (b_m132 : 0 ≤ m132 ∧ m132 ≤ 294862848) : ∃ w : Int, (125 * m132 = w) ∧ (0 ≤ w ∧ w ≤ 36857856000) := ⟨_, rfl, by omega, by omega⟩
theorem bh_aq134 {w133 : Int} (b_w133 : 0 ≤ w133 ∧ w133 ≤ 36857856000) : ∃ q r : Int, Hd ((w133) / 1000 = q) ∧ Hd ((w133) % 1000 = r) ∧ (w133 = 1000 * q + r) ∧ (0 ≤ q ∧ q ≤ 36857856) ∧ (0 ≤ r ∧ r ≤ 999) := ⟨_, _, ⟨rfl⟩, ⟨rfl⟩, by omega, by omega, by omega⟩
theorem bh_am136 {n127 x7 : Int} (b_n127 : 0 ≤ n127 ∧ n127 ≤ 143976000000) (b_x7 : 0 ≤ x7 ∧ x7 ≤ 255) : ∃ m : Int, Hd (n127 * x7 = m) ∧ ((0) * x7 + (0) * n127 - (0) ≤ m) ∧ ((143976000000) * x7 + (255) * n127 - (36713880000000) ≤ m) ∧ (m ≤ (143976000000) * x7 + (0) * n127 - (0)) ∧ (m ≤ (0) * x7 + (255) * n127 - (0)) ∧ (0 ≤ m ∧ m ≤ 36713880000000) := by
  obtain ⟨h1, h2, h3, h4⟩ := mcc (x := n127) (y := x7) b_n127.1 b_n127.2 b_x7.1 b_x7.2
  refine ⟨_, ⟨rfl⟩, ?_, ?_, ?_, ?_, ?_, ?_⟩ <;> omega
theorem bh_aw137 {m136 n127 : Int} (b_m136 : 0 ≤ m136 ∧ m136 ≤ 36713880000000) (b_n127 : 0 ≤ n127 ∧ n127 ≤ 143976000000) : ∃ w : Int, (m136 + n127 = w) ∧ (0 ≤ w ∧ w ≤ 36857856000000) := ⟨_, rfl, by omega, by omega⟩
theorem bh_am138 {r121 w39 : Int} (b_r121 : 0 ≤ r121 ∧ r121 ≤ 16) (b_w39 : 4000 ≤ w39 ∧ w39 ≤ 19796700) : ∃ m : Int, Hd (r121 * w39 = m) ∧ ((0) * w39 + (4000) * r121 - (0) ≤ m) ∧ ((16) * w39 + (19796700) * r121 - (316747200) ≤ m) ∧ (m ≤ (16) * w39 + (4000) * r121 - (64000)) ∧ (m ≤ (0) * w39 + (19796700) * r121 - (0)) ∧ (0 ≤ m ∧ m ≤ 316747200) := by
  obtain ⟨h1, h2, h3, h4⟩ := mcc (x := r121) (y := w39) b_r121.1 b_r121.2 b_w39.1 b_w39.2
  refine ⟨_, ⟨rfl⟩, ?_, ?_, ?_, ?_, ?_, ?_⟩ <;> omega
theorem bh_aw139 {m138 : Int} (b_m138 : 0 ≤ m138 ∧ m138 ≤ 316747200) : ∃ w : Int, (125 * m138 = w) ∧ (0 ≤ w ∧ w ≤ 39593400000) := ⟨_, rfl, by omega, by omega⟩
theorem bh_aq140 {w139 : Int} (b_w139 : 0 ≤ w139 ∧ w139 ≤ 39593400000) : ∃ q r : Int, Hd ((w139) / 1000 = q) ∧ Hd ((w139) % 1000 = r) ∧ (w139 = 1000 * q + r) ∧ (0 ≤ q ∧ q ≤ 39593400) ∧ (0 ≤ r ∧ r ≤ 999) := ⟨_, _, ⟨rfl⟩, ⟨rfl⟩, by omega, by omega, by omega⟩
theorem bh_am142 {n127 r36 : Int} (b_n127 : 0 ≤ n127 ∧ n127 ≤ 143976000000) (b_r36 : 0 ≤ r36 ∧ r36 ≤ 19) : ∃ m : Int, Hd (n127 * r36 = m) ∧ ((0) * r36 + (0) * n127 - (0) ≤ m) ∧ ((143976000000) * r36 + (19) * n127 - (2735544000000) ≤ m) ∧ (m ≤ (143976000000) * r36 + (0) * n127 - (0)) ∧ (m ≤ (0) * r36 + (19) * n127 - (0)) ∧ (0 ≤ m ∧ m ≤ 2735544000000) := by
  obtain ⟨h1, h2, h3, h4⟩ := mcc (x := n127) (y := r36) b_n127.1 b_n127.2 b_r36.1 b_r36.2
  refine ⟨_, ⟨rfl⟩, ?_, ?_, ?_, ?_, ?_, ?_⟩ <;> omega
theorem bh_aw143 {m136 m142 n127 : Int} (b_m136 : 0 ≤ m136 ∧ m136 ≤ 36713880000000) (b_m142 : 0 ≤ m142 ∧ m142 ≤ 2735544000000) (b_n127 : 0 ≤ n127 ∧ n127 ≤ 143976000000) : ∃ w : Int, (m136 + m142 + n127 = w) ∧ (0 ≤ w ∧ w ≤ 39593400000000) := ⟨_, rfl, by omega, by omega⟩
theorem bh_aq144 {w6 : Int} (b_w6 : 4000 ≤ w6 ∧ w6 ≤ 71988) : ∃ q r : Int, Hd ((50 * w6) / 1000 = q) ∧ Hd ((50 * w6) % 1000 = r) ∧ (50 * w6 = 1000 * q + r) ∧ (200 ≤ q ∧ q ≤ 3599) ∧ (0 ≤ r ∧ r ≤ 999) := ⟨_, _, ⟨rfl⟩, ⟨rfl⟩, by omega, by omega, by omega⟩
theorem bh_aq146 {w6 : Int} (b_w6 : 4000 ≤ w6 ∧ w6 ≤ 71988) : ∃ q r : Int, Hd ((10 * w6) / 1000 = q) ∧ Hd ((10 * w6) % 1000 = r) ∧ (10 * w6 = 1000 * q + r) ∧ (40 ≤ q ∧ q ≤ 719) ∧ (0 ≤ r ∧ r ≤ 999) := ⟨_, _, ⟨rfl⟩, ⟨rfl⟩, by omega, by omega, by omega⟩
theorem bh_aq148 {w6 : Int} (b_w6 : 4000 ≤ w6 ∧ w6 ≤ 71988) : ∃ q r : Int, Hd ((2 * w6) / 1000 = q) ∧ Hd ((2 * w6) % 1000 = r) ∧ (2 * w6 = 1000 * q + r) ∧ (8 ≤ q ∧ q ≤ 143) ∧ (0 ≤ r ∧ r ≤ 999) := ⟨_, _, ⟨rfl⟩, ⟨rfl⟩, by omega, by omega, by omega⟩
theorem bh_aq150 {x14 : Int} (b_x14 : 0 ≤ x14 ∧ x14 ≤ 65535) : ∃ q r : Int, Hd ((x14) / 1001 = q) ∧ Hd ((x14) % 1001 = r) ∧ (x14 = 1001 * q + r) ∧ (0 ≤ q ∧ q ≤ 65) ∧ (0 ≤ r ∧ r ≤ 1000) := ⟨_, _, ⟨rfl⟩, ⟨rfl⟩, by omega, by omega, by omega⟩
theorem bh_am152 {r151 w6 : Int} (b_r151 : 0 ≤ r151 ∧ r151 ≤ 1000) (b_w6 : 4000 ≤ w6 ∧ w6 ≤ 71988) : ∃ m : Int, Hd (r151 * w6 = m) ∧ ((0) * w6 + (4000) * r151 - (0) ≤ m) ∧ ((1000) * w6 + (71988) * r151 - (71988000) ≤ m) ∧ (m ≤ (1000) * w6 + (4000) * r151 - (4000000)) ∧ (m ≤ (0) * w6 + (71988) * r151 - (0)) ∧ (0 ≤ m ∧ m ≤ 71988000) := by
  obtain ⟨h1, h2, h3, h4⟩ := mcc (x := r151) (y := w6) b_r151.1 b_r151.2 b_w6.1 b_w6.2
  refine ⟨_, ⟨rfl⟩, ?_, ?_, ?_, ?_, ?_, ?_⟩ <;> omega
theorem bh_aw153 {m152 : Int} (b_m152 : 0 ≤ m152 ∧ m152 ≤ 71988000) : ∃ w : Int, (2000 * m152 = w) ∧ (0 ≤ w ∧ w ≤ 143976000000) := ⟨_, rfl, by omega, by omega⟩
theorem bh_aq154 {w153 : Int} (b_w153 : 0 ≤ w153 ∧ w153 ≤ 143976000000) : ∃ q r : Int, Hd ((w153) / 1000000 = q) ∧ Hd ((w153) % 1000000 = r) ∧ (w153 = 1000000 * q + r) ∧ (0 ≤ q ∧ q ≤ 143976) ∧ (0 ≤ r ∧ r ≤ 999999) := ⟨_, _, ⟨rfl⟩, ⟨rfl⟩, by omega, by omega, by omega⟩
theorem bh_ag156 {w153 r155 : Int} (b_w153 : 0 ≤ w153 ∧ w153 ≤ 143976000000) (r155e : Hd ((w153) % 1000000 = r155)) : ∃ g N D : Int, Hd ((Int.gcd w153 1000000 : Int) = g) ∧ Hd (N * g = w153) ∧ Hd (D * g = 1000000) ∧ (1 ≤ g ∧ g ≤ 1000000) ∧ (0 ≤ N ∧ N ≤ 143976000000) ∧ (1 ≤ D ∧ D ≤ 1000000) ∧ ((r155 = 0 → g = 1000000 ∧ D = 1 ∧ 1000000 * N = w153) ∧ (D = 1 → r155 = 0)) := by
  obtain ⟨g, N, D, h1, h2, h3, h4, h5, h6, h7⟩ := gcdc_ex w153 1000000 r155 (by omega) (by omega) r155e.out
  exact ⟨g, N, D, h1, h2, h3, h4, by omega, h6, h7⟩
theorem bh_aw159 {m152 : Int} (b_m152 : 0 ≤ m152 ∧ m152 ≤ 71988000) : ∃ w : Int, (2 * m152 = w) ∧ (0 ≤ w ∧ w ≤ 143976000) := ⟨_, rfl, by omega, by omega⟩
theorem bh_aq160 {w159 : Int} (b_w159 : 0 ≤ w159 ∧ w159 ≤ 143976000) : ∃ q r : Int, Hd ((w159) / 1000 = q) ∧ Hd ((w159) % 1000 = r) ∧ (w159 = 1000 * q + r) ∧ (0 ≤ q ∧ q ≤ 143976) ∧ (0 ≤ r ∧ r ≤ 999) := ⟨_, _, ⟨rfl⟩, ⟨rfl⟩, by omega, by omega, by omega⟩
theorem bh_am162 {r151 w44 : Int} (b_r151 : 0 ≤ r151 ∧ r151 ≤ 1000) (b_w44 : 4000 ≤ w44 ∧ w44 ≤ 18428928) : ∃ m : Int, Hd (r151 * w44 = m) ∧ ((0) * w44 + (4000) * r151 - (0) ≤ m) ∧ ((1000) * w44 + (18428928) * r151 - (18428928000) ≤ m) ∧ (m ≤ (1000) * w44 + (4000) * r151 - (4000000)) ∧ (m ≤ (0) * w44 + (18428928) * r151 - (0)) ∧ (0 ≤ m ∧ m ≤ 18428928000) := by
  obtain ⟨h1, h2, h3, h4⟩ := mcc (x := r151) (y := w44) b_r151.1 b_r151.2 b_w44.1 b_w44.2
  refine ⟨_, ⟨rfl⟩, ?_, ?_, ?_, ?_, ?_, ?_⟩ <;> omega
theorem bh_aw163 {m162 : Int} (b_m162 : 0 ≤ m162 ∧ m162 ≤ 18428928000) : ∃ w : Int, (2 * m162 = w) ∧ (0 ≤ w ∧ w ≤ 36857856000) := ⟨_, rfl, by omega, by omega⟩
theorem bh_aq164 {w163 : Int} (b_w163 : 0 ≤ w163 ∧ w163 ≤ 36857856000) : ∃ q r : Int, Hd ((w163) / 1000 = q) ∧ Hd ((w163) % 1000 = r) ∧ (w163 = 1000 * q + r) ∧ (0 ≤ q ∧ q ≤ 36857856) ∧ (0 ≤ r ∧ r ≤ 999) := ⟨_, _, ⟨rfl⟩, ⟨rfl⟩, by omega, by omega, by omega⟩
theorem bh_am166 {n157 x7 : Int} (b_n157 : 0 ≤ n157 ∧ n157 ≤ 143976000000) (b_x7 : 0 ≤ x7 ∧ x7 ≤ 255) : ∃ m : Int, Hd (n157 * x7 = m) ∧ ((0) * x7 + (0) * n157 - (0) ≤ m) ∧ ((143976000000) * x7 + (255) * n157 - (36713880000000) ≤ m) ∧ (m ≤ (143976000000) * x7 + (0) * n157 - (0)) ∧ (m ≤ (0) * x7 + (255) * n157 - (0)) ∧ (0 ≤ m ∧ m ≤ 36713880000000) := by
  obtain ⟨h1, h2, h3, h4⟩ := mcc (x := n157) (y := x7) b_n157.1 b_n157.2 b_x7.1 b_x7.2
  refine ⟨_, ⟨rfl⟩, ?_, ?_, ?_, ?_, ?_, ?_⟩ <;> omega
theorem bh_aw167 {m166 n157 : Int} (b_m166 : 0 ≤ m166 ∧ m166 ≤ 36713880000000) (b_n157 : 0 ≤ n157 ∧ n157 ≤ 143976000000) : ∃ w : Int, (m166 + n157 = w) ∧ (0 ≤ w ∧ w ≤ 36857856000000) := ⟨_, rfl, by omega, by omega⟩
theorem bh_am168 {r151 w39 : Int} (b_r151 : 0 ≤ r151 ∧ r151 ≤ 1000) (b_w39 : 4000 ≤ w39 ∧ w39 ≤ 19796700) : ∃ m : Int, Hd (r151 * w39 = m) ∧ ((0) * w39 + (4000) * r151 - (0) ≤ m) ∧ ((1000) * w39 + (19796700) * r151 - (19796700000) ≤ m) ∧ (m ≤ (1000) * w39 + (4000) * r151 - (4000000)) ∧ (m ≤ (0) * w39 + (19796700) * r151 - (0)) ∧ (0 ≤ m ∧ m ≤ 19796700000) := by
  obtain ⟨h1, h2, h3, h4⟩ := mcc (x := r151) (y := w39) b_r151.1 b_r151.2 b_w39.1 b_w39.2
  refine ⟨_, ⟨rfl⟩, ?_, ?_, ?_, ?_, ?_, ?_⟩ <;> omega
theorem bh_aw169 {m168 : Int} (b_m168 : 0 ≤ m168 ∧ m168 ≤ 19796700000) : ∃ w : Int, (2 * m168 = w) ∧ (0 ≤ w ∧ w ≤ 39593400000) := ⟨_, rfl, by omega, by omega⟩
theorem bh_aq170 {w169 : Int} (b_w169 : 0 ≤ w169 ∧ w169 ≤ 39593400000) : ∃ q r : Int, Hd ((w169) / 1000 = q) ∧ Hd ((w169) % 1000 = r) ∧ (w169 = 1000 * q + r) ∧ (0 ≤ q ∧ q ≤ 39593400) ∧ (0 ≤ r ∧ r ≤ 999) := ⟨_, _, ⟨rfl⟩, ⟨rfl⟩, by omega, by omega, by omega⟩
theorem bh_am172 {n157 r36 : Int} (b_n157 : 0 ≤ n157 ∧ n157 ≤ 143976000000) (b_r36 : 0 ≤ r36 ∧ r36 ≤ 19) : ∃ m : Int, Hd (n157 * r36 = m) ∧ ((0) * r36 + (0) * n157 - (0) ≤ m) ∧ ((143976000000) * r36 + (19) * n157 - (2735544000000) ≤ m) ∧ (m ≤ (143976000000) * r36 + (0) * n157 - (0)) ∧ (m ≤ (0) * r36 + (19) * n157 - (0)) ∧ (0 ≤ m ∧ m ≤ 2735544000000) := by
  obtain ⟨h1, h2, h3, h4⟩ := mcc (x := n157) (y := r36) b_n157.1 b_n157.2 b_r36.1 b_r36.2
  refine ⟨_, ⟨rfl⟩, ?_, ?_, ?_, ?_, ?_, ?_⟩ <;> omega
theorem bh_aw173 {m166 m172 n157 : Int} (b_m166 : 0 ≤ m166 ∧ m166 ≤ 36713880000000) (b_m172 : 0 ≤ m172 ∧ m172 ≤ 2735544000000) (b_n157 : 0 ≤ n157 ∧ n157 ≤ 143976000000) : ∃ w : Int, (m166 + m172 + n157 = w) ∧ (0 ≤ w ∧ w ≤ 39593400000000) := ⟨_, rfl, by omega, by omega⟩
theorem bh_aq174 {x14 : Int} (b_x14 : 0 ≤ x14 ∧ x14 ≤ 65535) : ∃ q r : Int, Hd ((x14) / 201 = q) ∧ Hd ((x14) % 201 = r) ∧ (x14 = 201 * q + r) ∧ (0 ≤ q ∧ q ≤ 326) ∧ (0 ≤ r ∧ r ≤ 200) := ⟨_, _, ⟨rfl⟩, ⟨rfl⟩, by omega, by omega, by omega⟩
theorem bh_am176 {r175 w6 : Int} (b_r175 : 0 ≤ r175 ∧ r175 ≤ 200) (b_w6 : 4000 ≤ w6 ∧ w6 ≤ 71988) : ∃ m : Int, Hd (r175 * w6 = m) ∧ ((0) * w6 + (4000) * r175 - (0) ≤ m) ∧ ((200) * w6 + (71988) * r175 - (14397600) ≤ m) ∧ (m ≤ (200) * w6 + (4000) * r175 - (800000)) ∧ (m ≤ (0) * w6 + (71988) * r175 - (0)) ∧ (0 ≤ m ∧ m ≤ 14397600) := by
  obtain ⟨h1, h2, h3, h4⟩ := mcc (x := r175) (y := w6) b_r175.1 b_r175.2 b_w6.1 b_w6.2
  refine ⟨_, ⟨rfl⟩, ?_, ?_, ?_, ?_, ?_, ?_⟩ <;> omega
theorem bh_aw177 {m176 : Int} (b_m176 : 0 ≤ m176 ∧ m176 ≤ 14397600) : ∃ w : Int, (10000 * m176 = w) ∧ (0 ≤ w ∧ w ≤ 143976000000) := ⟨_, rfl, by omega, by omega⟩
theorem bh_aq178 {w177 : Int} (b_w177 : 0 ≤ w177 ∧ w177 ≤ 143976000000) : ∃ q r : Int, Hd ((w177) / 1000000 = q) ∧ Hd ((w177) % 1000000 = r) ∧ (w177 = 1000000 * q + r) ∧ (0 ≤ q ∧ q ≤ 143976) ∧ (0 ≤ r ∧ r ≤ 999999) := ⟨_, _, ⟨rfl⟩, ⟨rfl⟩, by omega, by omega, by omega⟩
theorem bh_ag180 {w177 r179 : Int} (b_w177 : 0 ≤ w177 ∧ w177 ≤ 143976000000) (r179e : Hd ((w177) % 1000000 = r179)) : ∃ g N D : Int, Hd ((Int.gcd w177 1000000 : Int) = g) ∧ Hd (N * g = w177) ∧ Hd (D * g = 1000000) ∧ (1 ≤ g ∧ g ≤ 1000000) ∧ (0 ≤ N ∧ N ≤ 143976000000) ∧ (1 ≤ D ∧ D ≤ 1000000) ∧ ((r179 = 0 → g = 1000000 ∧ D = 1 ∧ 1000000 * N = w177) ∧ (D = 1 → r179 = 0)) := by
  obtain ⟨g, N, D, h1, h2, h3, h4, h5, h6, h7⟩ := gcdc_ex w177 1000000 r179 (by omega) (by omega) r179e.out
  exact ⟨g, N, D, h1, h2, h3, h4, by omega, h6, h7⟩
theorem bh_aw183 {m176 : Int} (b_m176 : 0 ≤ m176 ∧ m176 ≤ 14397600) : ∃ w : Int, (10 * m176 = w) ∧ (0 ≤ w ∧ w ≤ 143976000) := ⟨_, rfl, by omega, by omega⟩
theorem bh_aq184 {w183 : Int} (b_w183 : 0 ≤ w183 ∧ w183 ≤ 143976000) : ∃ q r : Int, Hd ((w183) / 1000 = q) ∧ Hd ((w183) % 1000 = r) ∧ (w183 = 1000 * q + r) ∧ (0 ≤ q ∧ q ≤ 143976) ∧ (0 ≤ r ∧ r ≤ 999) := ⟨_, _, ⟨rfl⟩, ⟨rfl⟩, by omega, by omega, by omega⟩
theorem bh_am186 {r175 w44 : Int} (b_r175 : 0 ≤ r175 ∧ r175 ≤ 200) (b_w44 : 4000 ≤ w44 ∧ w44 ≤ 18428928) : ∃ m : Int, Hd (r175 * w44 = m) ∧ ((0) * w44 + (4000) * r175 - (0) ≤ m) ∧ ((200) * w44 + (18428928) * r175 - (3685785600) ≤ m) ∧ (m ≤ (200) * w44 + (4000) * r175 - (800000)) ∧ (m ≤ (0) * w44 + (18428928) * r175 - (0)) ∧ (0 ≤ m ∧ m ≤ 3685785600) := by
  obtain ⟨h1, h2, h3, h4⟩ := mcc (x := r175) (y := w44) b_r175.1 b_r175.2 b_w44.1 b_w44.2
  refine ⟨_, ⟨rfl⟩, ?_, ?_, ?_, ?_, ?_, ?_⟩ <;> omega
theorem bh_aw187 {m186 : Int} (b_m186 : 0 ≤ m186 ∧ m186 ≤ 3685785600) : ∃ w : Int, (10 * m186 = w) ∧ (0 ≤ w ∧ w ≤ 36857856000) := ⟨_, rfl, by omega, by omega⟩
theorem bh_aq188 {w187 : Int} (b_w187 : 0 ≤ w187 ∧ w187 ≤ 36857856000) : ∃ q r : Int, Hd ((w187) / 1000 = q) ∧ Hd ((w187) % 1000 = r) ∧ (w187 = 1000 * q + r) ∧ (0 ≤ q ∧ q ≤ 36857856) ∧ (0 ≤ r ∧ r ≤ 999) := ⟨_, _, ⟨rfl⟩, ⟨rfl⟩, by omega, by omega, by omega⟩
theorem bh_am190 {n181 x7 : Int} (b_n181 : 0 ≤ n181 ∧ n181 ≤ 143976000000) (b_x7 : 0 ≤ x7 ∧ x7 ≤ 255) : ∃ m : Int, Hd (n181 * x7 = m) ∧ ((0) * x7 + (0) * n181 - (0) ≤ m) ∧ ((143976000000) * x7 + (255) * n181 - (36713880000000) ≤ m) ∧ (m ≤ (143976000000) * x7 + (0) * n181 - (0)) ∧ (m ≤ (0) * x7 + (255) * n181 - (0)) ∧ (0 ≤ m ∧ m ≤ 36713880000000) := by
  obtain ⟨h1, h2, h3, h4⟩ := mcc (x := n181) (y := x7) b_n181.1 b_n181.2 b_x7.1 b_x7.2
  refine ⟨_, ⟨rfl⟩, ?_, ?_, ?_, ?_, ?_, ?_⟩ <;> omega
theorem bh_aw191 {m190 n181 : Int} (b_m190 : 0 ≤ m190 ∧ m190 ≤ 36713880000000) (b_n181 : 0 ≤ n181 ∧ n181 ≤ 143976000000) : ∃ w : Int, (m190 + n181 = w) ∧ (0 ≤ w ∧ w ≤ 36857856000000) := ⟨_, rfl, by omega, by omega⟩
theorem bh_am192 {r175 w39 : Int} (b_r175 : 0 ≤ r175 ∧ r175 ≤ 200) (b_w39 : 4000 ≤ w39 ∧ w39 ≤ 19796700) : ∃ m : Int, Hd (r175 * w39 = m) ∧ ((0) * w39 + (4000) * r175 - (0) ≤ m) ∧ ((200) * w39 + (19796700) * r175 - (3959340000) ≤ m) ∧ (m ≤ (200) * w39 + (4000) * r175 - (800000)) ∧ (m ≤ (0) * w39 + (19796700) * r175 - (0)) ∧ (0 ≤ m ∧ m ≤ 3959340000) := by
  obtain ⟨h1, h2, h3, h4⟩ := mcc (x := r175) (y := w39) b_r175.1 b_r175.2 b_w39.1 b_w39.2
  refine ⟨_, ⟨rfl⟩, ?_, ?_, ?_, ?_, ?_, ?_⟩ <;> omega
theorem bh_aw193 {m192 : Int} (b_m192 : 0 ≤ m192 ∧ m192 ≤ 3959340000) : ∃ w : Int, (10 * m192 = w) ∧ (0 ≤ w ∧ w ≤ 39593400000) := ⟨_, rfl, by omega, by omega⟩
theorem bh_aq194 {w193 : Int} (b_w193 : 0 ≤ w193 ∧ w193 ≤ 39593400000) : ∃ q r : Int, Hd ((w193) / 1000 = q) ∧ Hd ((w193) % 1000 = r) ∧ (w193 = 1000 * q + r) ∧ (0 ≤ q ∧ q ≤ 39593400) ∧ (0 ≤ r ∧ r ≤ 999) := ⟨_, _, ⟨rfl⟩, ⟨rfl⟩, by omega, by omega, by omega⟩
theorem bh_am196 {n181 r36 : Int} (b_n181 : 0 ≤ n181 ∧ n181 ≤ 143976000000) (b_r36 : 0 ≤ r36 ∧ r36 ≤ 19) : ∃ m : Int, Hd (n181 * r36 = m) ∧ ((0) * r36 + (0) * n181 - (0) ≤ m) ∧ ((143976000000) * r36 + (19) * n181 - (2735544000000) ≤ m) ∧ (m ≤ (143976000000) * r36 + (0) * n181 - (0)) ∧ (m ≤ (0) * r36 + (19) * n181 - (0)) ∧ (0 ≤ m ∧ m ≤ 2735544000000) := by
  obtain ⟨h1, h2, h3, h4⟩ := mcc (x := n181) (y := r36) b_n181.1 b_n181.2 b_r36.1 b_r36.2
  refine ⟨_, ⟨rfl⟩, ?_, ?_, ?_, ?_, ?_, ?_⟩ <;> omega
theorem bh_aw197 {m190 m196 n181 : Int} (b_m190 : 0 ≤ m190 ∧ m190 ≤ 36713880000000) (b_m196 : 0 ≤ m196 ∧ m196 ≤ 2735544000000) (b_n181 : 0 ≤ n181 ∧ n181 ≤ 143976000000) : ∃ w : Int, (m190 + m196 + n181 = w) ∧ (0 ≤ w ∧ w ≤ 39593400000000) := ⟨_, rfl, by omega, by omega⟩
theorem bh_aq198 {x14 : Int} (b_x14 : 0 ≤ x14 ∧ x14 ≤ 65535) : ∃ q r : Int, Hd ((x14) / 41 = q) ∧ Hd ((x14) % 41 = r) ∧ (x14 = 41 * q + r) ∧ (0 ≤ q ∧ q ≤ 1598) ∧ (0 ≤ r ∧ r ≤ 40) := ⟨_, _, ⟨rfl⟩, ⟨rfl⟩, by omega, by omega, by omega⟩
theorem bh_am200 {r199 w6 : Int} (b_r199 : 0 ≤ r199 ∧ r199 ≤ 40) (b_w6 : 4000 ≤ w6 ∧ w6 ≤ 71988) : ∃ m : Int, Hd (r199 * w6 = m) ∧ ((0) * w6 + (4000) * r199 - (0) ≤ m) ∧ ((40) * w6 + (71988) * r199 - (2879520) ≤ m) ∧ (m ≤ (40) * w6 + (4000) * r199 - (160000)) ∧ (m ≤ (0) * w6 + (71988) * r199 - (0)) ∧ (0 ≤ m ∧ m ≤ 2879520) := by
  obtain ⟨h1, h2, h3, h4⟩ := mcc (x := r199) (y := w6) b_r199.1 b_r199.2 b_w6.1 b_w6.2
  refine ⟨_, ⟨rfl⟩, ?_, ?_, ?_, ?_, ?_, ?_⟩ <;> omega
theorem bh_aw201 {m200 : Int} (b_m200 : 0 ≤ m200 ∧ m200 ≤ 2879520) : ∃ w : Int, (50000 * m200 = w) ∧ (0 ≤ w ∧ w ≤ 143976000000) := ⟨_, rfl, by omega, by omega⟩
theorem bh_aq202 {w201 : Int} (b_w201 : 0 ≤ w201 ∧ w201 ≤ 143976000000) : ∃ q r : Int, Hd ((w201) / 1000000 = q) ∧ Hd ((w201) % 1000000 = r) ∧ (w201 = 1000000 * q + r) ∧ (0 ≤ q ∧ q ≤ 143976) ∧ (0 ≤ r ∧ r ≤ 999999) := ⟨_, _, ⟨rfl⟩, ⟨rfl⟩, by omega, by omega, by omega⟩
theorem bh_ag204 {w201 r203 : Int} (b_w201 : 0 ≤ w201 ∧ w201 ≤ 143976000000) (r203e : Hd ((w201) % 1000000 = r203)) : ∃ g N D : Int, Hd ((Int.gcd w201 1000000 : Int) = g) ∧ Hd (N * g = w201) ∧ Hd (D * g = 1000000) ∧ (1 ≤ g ∧ g ≤ 1000000) ∧ (0 ≤ N ∧ N ≤ 143976000000) ∧ (1 ≤ D ∧ D ≤ 1000000) ∧ ((r203 = 0 → g = 1000000 ∧ D = 1 ∧ 1000000 * N = w201) ∧ (D = 1 → r203 = 0)) := by
  obtain ⟨g, N, D, h1, h2, h3, h4, h5, h6, h7⟩ := gcdc_ex w201 1000000 r203 (by omega) (by omega) r203e.out
  exact ⟨g, N, D, h1, h2, h3, h4, by omega, h6, h7⟩
theorem bh_aw207 {m200 : Int} (b_m200 : 0 ≤ m200 ∧ m200 ≤ 2879520) : ∃ w : Int, (50 * m200 = w) ∧ (0 ≤ w ∧ w ≤ 143976000) := ⟨_, rfl, by omega, by omega⟩
theorem bh_aq208 {w207 : Int} (b_w207 : 0 ≤ w207 ∧ w207 ≤ 143976000) : ∃ q r : Int, Hd ((w207) / 1000 = q) ∧ Hd ((w207) % 1000 = r) ∧ (w207 = 1000 * q + r) ∧ (0 ≤ q ∧ q ≤ 143976) ∧ (0 ≤ r ∧ r ≤ 999) := ⟨_, _, ⟨rfl⟩, ⟨rfl⟩, by omega, by omega, by omega⟩
theorem bh_am210 {r199 w44 : Int} (b_r199 : 0 ≤ r199 ∧ r199 ≤ 40) (b_w44 : 4000 ≤ w44 ∧ w44 ≤ 18428928) : ∃ m : Int, Hd (r199 * w44 = m) ∧ ((0) * w44 + (4000) * r199 - (0) ≤ m) ∧ ((40) * w44 + (18428928) * r199 - (737157120) ≤ m) ∧ (m ≤ (40) * w44 + (4000) * r199 - (160000)) ∧ (m ≤ (0) * w44 + (18428928) * r199 - (0)) ∧ (0 ≤ m ∧ m ≤ 737157120) := by
  obtain ⟨h1, h2, h3, h4⟩ := mcc (x := r199) (y := w44) b_r199.1 b_r199.2 b_w44.1 b_w44.2
  refine ⟨_, ⟨rfl⟩, ?_, ?_, ?_, ?_, ?_, ?_⟩ <;> omega
theorem bh_aw211 {m210 : Int} (b_m210 : 0 ≤ m210 ∧ m210 ≤ 737157120) : ∃ w : Int, (50 * m210 = w) ∧ (0 ≤ w ∧ w ≤ 36857856000) := ⟨_, rfl, by omega, by omega⟩
theorem bh_aq212 {w211 : Int} (b_w211 : 0 ≤ w211 ∧ w211 ≤ 36857856000) : ∃ q r : Int, Hd ((w211) / 1000 = q) ∧ Hd ((w211) % 1000 = r) ∧ (w211 = 1000 * q + r) ∧ (0 ≤ q ∧ q ≤ 36857856) ∧ (0 ≤ r ∧ r ≤ 999) := ⟨_, _, ⟨rfl⟩, ⟨rfl⟩, by omega, by omega, by omega⟩
theorem bh_am214 {n205 x7 : Int} (b_n205 : 0 ≤ n205 ∧ n205 ≤ 143976000000) (b_x7 : 0 ≤ x7 ∧ x7 ≤ 255) : ∃ m : Int, Hd (n205 * x7 = m) ∧ ((0) * x7 + (0) * n205 - (0) ≤ m) ∧ ((143976000000) * x7 + (255) * n205 - (36713880000000) ≤ m) ∧ (m ≤ (143976000000) * x7 + (0) * n205 - (0)) ∧ (m ≤ (0) * x7 + (255) * n205 - (0)) ∧ (0 ≤ m ∧ m ≤ 36713880000000) := by
  obtain ⟨h1, h2, h3, h4⟩ := mcc (x := n205) (y := x7) b_n205.1 b_n205.2 b_x7.1 b_x7.2
  refine ⟨_, ⟨rfl⟩, ?_, ?_, ?_, ?_, ?_, ?_⟩ <;> omega
theorem bh_aw215 {m214 n205 : Int} (b_m214 : 0 ≤ m214 ∧ m214 ≤ 36713880000000) (b_n205 : 0 ≤ n205 ∧ n205 ≤ 143976000000) : ∃ w : Int, (m214 + n205 = w) ∧ (0 ≤ w ∧ w ≤ 36857856000000) := ⟨_, rfl, by omega, by omega⟩
theorem bh_am216 {r199 w39 : Int} (b_r199 : 0 ≤ r199 ∧ r199 ≤ 40) (b_w39 : 4000 ≤ w39 ∧ w39 ≤ 19796700) : ∃ m : Int, Hd (r199 * w39 = m) ∧ ((0) * w39 + (4000) * r199 - (0) ≤ m) ∧ ((40) * w39 + (19796700) * r199 - (791868000) ≤ m) ∧ (m ≤ (40) * w39 + (4000) * r199 - (160000)) ∧ (m ≤ (0) * w39 + (19796700) * r199 - (0)) ∧ (0 ≤ m ∧ m ≤ 791868000) := by
  obtain ⟨h1, h2, h3, h4⟩ := mcc (x := r199) (y := w39) b_r199.1 b_r199.2 b_w39.1 b_w39.2
  refine ⟨_, ⟨rfl⟩, ?_, ?_, ?_, ?_, ?_, ?_⟩ <;> omega
theorem bh_aw217 {m216 : Int} (b_m216 : 0 ≤ m216 ∧ m216 ≤ 791868000) : ∃ w : Int, (50 * m216 = w) ∧ (0 ≤ w ∧ w ≤ 39593400000) := ⟨_, rfl, by omega, by omega⟩
theorem bh_aq218 {w217 : Int} (b_w217 : 0 ≤ w217 ∧ w217 ≤ 39593400000) : ∃ q r : Int, Hd ((w217) / 1000 = q) ∧ Hd ((w217) % 1000 = r) ∧ (w217 = 1000 * q + r) ∧ (0 ≤ q ∧ q ≤ 39593400) ∧ (0 ≤ r ∧ r ≤ 999) := ⟨_, _, ⟨rfl⟩, ⟨rfl⟩, by omega, by omega, by omega⟩
theorem bh_am220 {n205 r36 : Int} (b_n205 : 0 ≤ n205 ∧ n205 ≤ 143976000000) (b_r36 : 0 ≤ r36 ∧ r36 ≤ 19) : ∃ m : Int, Hd (n205 * r36 = m) ∧ ((0) * r36 + (0) * n205 - (0) ≤ m) ∧ ((143976000000) * r36 + (19) * n205 - (2735544000000) ≤ m) ∧ (m ≤ (143976000000) * r36 + (0) * n205 - (0)) ∧ (m ≤ (0) * r36 + (19) * n205 - (0)) ∧ (0 ≤ m ∧ m ≤ 2735544000000) := by
  obtain ⟨h1, h2, h3, h4⟩ := mcc (x := n205) (y := r36) b_n205.1 b_n205.2 b_r36.1 b_r36.2
  refine ⟨_, ⟨rfl⟩, ?_, ?_, ?_, ?_, ?_, ?_⟩ <;> omega
theorem bh_aw221 {m214 m220 n205 : Int} (b_m214 : 0 ≤ m214 ∧ m214 ≤ 36713880000000) (b_m220 : 0 ≤ m220 ∧ m220 ≤ 2735544000000) (b_n205 : 0 ≤ n205 ∧ n205 ≤ 143976000000) : ∃ w : Int, (m214 + m220 + n205 = w) ∧ (0 ≤ w ∧ w ≤ 39593400000000) := ⟨_, rfl, by omega, by omega⟩
theorem bh_aq222 {x14 : Int} (b_x14 : 0 ≤ x14 ∧ x14 ≤ 65535) : ∃ q r : Int, Hd ((x14) / 9 = q) ∧ Hd ((x14) % 9 = r) ∧ (x14 = 9 * q + r) ∧ (0 ≤ q ∧ q ≤ 7281) ∧ (0 ≤ r ∧ r ≤ 8) := ⟨_, _, ⟨rfl⟩, ⟨rfl⟩, by omega, by omega, by omega⟩
theorem bh_am224 {r223 w6 : Int} (b_r223 : 0 ≤ r223 ∧ r223 ≤ 8) (b_w6 : 4000 ≤ w6 ∧ w6 ≤ 71988) : ∃ m : Int, Hd (r223 * w6 = m) ∧ ((0) * w6 + (4000) * r223 - (0) ≤ m) ∧ ((8) * w6 + (71988) * r223 - (575904) ≤ m) ∧ (m ≤ (8) * w6 + (4000) * r223 - (32000)) ∧ (m ≤ (0) * w6 + (71988) * r223 - (0)) ∧ (0 ≤ m ∧ m ≤ 575904) := by
  obtain ⟨h1, h2, h3, h4⟩ := mcc (x := r223) (y := w6) b_r223.1 b_r223.2 b_w6.1 b_w6.2
  refine ⟨_, ⟨rfl⟩, ?_, ?_, ?_, ?_, ?_, ?_⟩ <;> omega
theorem bh_aw225 {m224 : Int} (b_m224 : 0 ≤ m224 ∧ m224 ≤ 575904) : ∃ w : Int, (250000 * m224 = w) ∧ (0 ≤ w ∧ w ≤ 143976000000) := ⟨_, rfl, by omega, by omega⟩
theorem bh_aq226 {w225 : Int} (b_w225 : 0 ≤ w225 ∧ w225 ≤ 143976000000) : ∃ q r : Int, Hd ((w225) / 1000000 = q) ∧ Hd ((w225) % 1000000 = r) ∧ (w225 = 1000000 * q + r) ∧ (0 ≤ q ∧ q ≤ 143976) ∧ (0 ≤ r ∧ r ≤ 999999) := ⟨_, _, ⟨rfl⟩, ⟨rfl⟩, by omega, by omega, by omega⟩
theorem bh_ag228 {w225 r227 : Int} (b_w225 : 0 ≤ w225 ∧ w225 ≤ 143976000000) (r227e : Hd ((w225) % 1000000 = r227)) : ∃ g N D : Int, Hd ((Int.gcd w225 1000000 : Int) = g) ∧ Hd (N * g = w225) ∧ Hd (D * g = 1000000) ∧ (1 ≤ g ∧ g ≤ 1000000) ∧ (0 ≤ N ∧ N ≤ 143976000000) ∧ (1 ≤ D ∧ D ≤ 1000000) ∧ ((r227 = 0 → g = 1000000 ∧ D = 1 ∧ 1000000 * N = w225) ∧ (D = 1 → r227 = 0)) := by
  obtain ⟨g, N, D, h1, h2, h3, h4, h5, h6, h7⟩ := gcdc_ex w225 1000000 r227 (by omega) (by omega) r227e.out
  exact ⟨g, N, D, h1, h2, h3, h4, by omega, h6, h7⟩
theorem bh_aw231 {m224 : Int} (b_m224 : 0 ≤ m224 ∧ m224 ≤ 575904) : ∃ w : Int, (250 * m224 = w) ∧ (0 ≤ w ∧ w ≤ 143976000) := ⟨_, rfl, by omega, by omega⟩
theorem bh_aq232 {w231 : Int} (b_w231 : 0 ≤ w231 ∧ w231 ≤ 143976000) : ∃ q r : Int, Hd ((w231) / 1000 = q) ∧ Hd ((w231) % 1000 = r) ∧ (w231 = 1000 * q + r) ∧ (0 ≤ q ∧ q ≤ 143976) ∧ (0 ≤ r ∧ r ≤ 999) := ⟨_, _, ⟨rfl⟩, ⟨rfl⟩, by omega, by omega, by omega⟩
theorem bh_am234 {r223 w44 : Int} (b_r223 : 0 ≤ r223 ∧ r223 ≤ 8) (b_w44 : 4000 ≤ w44 ∧ w44 ≤ 18428928) : ∃ m : Int, Hd (r223 * w44 = m) ∧ ((0) * w44 + (4000) * r223 - (0) ≤ m) ∧ ((8) * w44 + (18428928) * r223 - (147431424) ≤ m) ∧ (m ≤ (8) * w44 + (4000) * r223 - (32000)) ∧ (m ≤ (0) * w44 + (18428928) * r223 - (0)) ∧ (0 ≤ m ∧ m ≤ 147431424) := by
  obtain ⟨h1, h2, h3, h4⟩ := mcc (x := r223) (y := w44) b_r223.1 b_r223.2 b_w44.1 b_w44.2
  refine ⟨_, ⟨rfl⟩, ?_, ?_, ?_, ?_, ?_, ?_⟩ <;> omega
theorem bh_aw235 {m234 : Int} (b_m234 : 0 ≤ m234 ∧ m234 ≤ 147431424) : ∃ w : Int, (250 * m234 = w) ∧ (0 ≤ w ∧ w ≤ 36857856000) := ⟨_, rfl, by omega, by omega⟩
theorem bh_aq236 {w235 : Int} (b_w235 : 0 ≤ w235 ∧ w235 ≤ 36857856000) : ∃ q r : Int, Hd ((w235) / 1000 = q) ∧ Hd ((w235) % 1000 = r) ∧ (w235 = 1000 * q + r) ∧ (0 ≤ q ∧ q ≤ 36857856) ∧ (0 ≤ r ∧ r ≤ 999) := ⟨_, _, ⟨rfl⟩, ⟨rfl⟩, by omega, by omega, by omega⟩
theorem bh_am238 {n229 x7 : Int} (b_n229 : 0 ≤ n229 ∧ n229 ≤ 143976000000) (b_x7 : 0 ≤ x7 ∧ x7 ≤ 255) : ∃ m : Int, Hd (n229 * x7 = m) ∧ ((0) * x7 + (0) * n229 - (0) ≤ m) ∧ ((143976000000) * x7 + (255) * n229 - (36713880000000) ≤ m) ∧ (m ≤ (143976000000) * x7 + (0) * n229 - (0)) ∧ (m ≤ (0) * x7 + (255) * n229 - (0)) ∧ (0 ≤ m ∧ m ≤ 36713880000000) := by
  obtain ⟨h1, h2, h3, h4⟩ := mcc (x := n229) (y := x7) b_n229.1 b_n229.2 b_x7.1 b_x7.2
  refine ⟨_, ⟨rfl⟩, ?_, ?_, ?_, ?_, ?_, ?_⟩ <;> omega
theorem bh_aw239 {m238 n229 : Int} (b_m238 : 0 ≤ m238 ∧ m238 ≤ 36713880000000) (b_n229 : 0 ≤ n229 ∧ n229 ≤ 143976000000) : ∃ w : Int, (m238 + n229 = w) ∧ (0 ≤ w ∧ w ≤ 36857856000000) := ⟨_, rfl, by omega, by omega⟩
theorem bh_am240 {r223 w39 : Int} (b_r223 : 0 ≤ r223 ∧ r223 ≤ 8) (b_w39 : 4000 ≤ w39 ∧ w39 ≤ 19796700) : ∃ m : Int, Hd (r223 * w39 = m) ∧ ((0) * w39 + (4000) * r223 - (0) ≤ m) ∧ ((8) * w39 + (19796700) * r223 - (158373600) ≤ m) ∧ (m ≤ (8) * w39 + (4000) * r223 - (32000)) ∧ (m ≤ (0) * w39 + (19796700) * r223 - (0)) ∧ (0 ≤ m ∧ m ≤ 158373600) := by
  obtain ⟨h1, h2, h3, h4⟩ := mcc (x := r223) (y := w39) b_r223.1 b_r223.2 b_w39.1 b_w39.2
  refine ⟨_, ⟨rfl⟩, ?_, ?_, ?_, ?_, ?_, ?_⟩ <;> omega
theorem bh_aw241 {m240 : Int} (b_m240 : 0 ≤ m240 ∧ m240 ≤ 158373600) : ∃ w : Int, (250 * m240 = w) ∧ (0 ≤ w ∧ w ≤ 39593400000) := ⟨_, rfl, by omega, by omega⟩
theorem bh_aq242 {w241 : Int} (b_w241 : 0 ≤ w241 ∧ w241 ≤ 39593400000) : ∃ q r : Int, Hd ((w241) / 1000 = q) ∧ Hd ((w241) % 1000 = r) ∧ (w241 = 1000 * q + r) ∧ (0 ≤ q ∧ q ≤ 39593400) ∧ (0 ≤ r ∧ r ≤ 999) := ⟨_, _, ⟨rfl⟩, ⟨rfl⟩, by omega, by omega, by omega⟩
theorem bh_am244 {n229 r36 : Int} (b_n229 : 0 ≤ n229 ∧ n229 ≤ 143976000000) (b_r36 : 0 ≤ r36 ∧ r36 ≤ 19) : ∃ m : Int, Hd (n229 * r36 = m) ∧ ((0) * r36 + (0) * n229 - (0) ≤ m) ∧ ((143976000000) * r36 + (19) * n229 - (2735544000000) ≤ m) ∧ (m ≤ (143976000000) * r36 + (0) * n229 - (0)) ∧ (m ≤ (0) * r36 + (19) * n229 - (0)) ∧ (0 ≤ m ∧ m ≤ 2735544000000) := by
  obtain ⟨h1, h2, h3, h4⟩ := mcc (x := n229) (y := r36) b_n229.1 b_n229.2 b_r36.1 b_r36.2
  refine ⟨_, ⟨rfl⟩, ?_, ?_, ?_, ?_, ?_, ?_⟩ <;> omega
theorem bh_aw245 {m238 m244 n229 : Int} (b_m238 : 0 ≤ m238 ∧ m238 ≤ 36713880000000) (b_m244 : 0 ≤ m244 ∧ m244 ≤ 2735544000000) (b_n229 : 0 ≤ n229 ∧ n229 ≤ 143976000000) : ∃ w : Int, (m238 + m244 + n229 = w) ∧ (0 ≤ w ∧ w ≤ 39593400000000) := ⟨_, rfl, by omega, by omega⟩
theorem bh_rf1 {q17 r18 w6 : Int}  (q17s : w6 = 1000 * q17 + r18) : 0 ≤ (-1000) * q17 + (-1) * r18 + w6 := by omega
theorem bh_am246 {q17 r24 : Int} (b_q17 : 4 ≤ q17 ∧ q17 ≤ 71) (b_r24 : 0 ≤ r24 ∧ r24 ≤ 2000) : ∃ m : Int, Hd (q17 * r24 = m) ∧ ((4) * r24 + (0) * q17 - (0) ≤ m) ∧ ((71) * r24 + (2000) * q17 - (142000) ≤ m) ∧ (m ≤ (71) * r24 + (0) * q17 - (0)) ∧ (m ≤ (4) * r24 + (2000) * q17 - (8000)) ∧ (0 ≤ m ∧ m ≤ 142000) := by
  obtain ⟨h1, h2, h3, h4⟩ := mcc (x := q17) (y := r24) b_q17.1 b_q17.2 b_r24.1 b_r24.2
  refine ⟨_, ⟨rfl⟩, ?_, ?_, ?_, ?_, ?_, ?_⟩ <;> omega
theorem bh_am247 {r18 r24 : Int} (b_r18 : 0 ≤ r18 ∧ r18 ≤ 999) (b_r24 : 0 ≤ r24 ∧ r24 ≤ 2000) : ∃ m : Int, Hd (r18 * r24 = m) ∧ ((0) * r24 + (0) * r18 - (0) ≤ m) ∧ ((999) * r24 + (2000) * r18 - (1998000) ≤ m) ∧ (m ≤ (999) * r24 + (0) * r18 - (0)) ∧ (m ≤ (0) * r24 + (2000) * r18 - (0)) ∧ (0 ≤ m ∧ m ≤ 1998000) := by
  obtain ⟨h1, h2, h3, h4⟩ := mcc (x := r18) (y := r24) b_r18.1 b_r18.2 b_r24.1 b_r24.2
  refine ⟨_, ⟨rfl⟩, ?_, ?_, ?_, ?_, ?_, ?_⟩ <;> omega
theorem bh_rf1_0 {q17 r18 w6 m246 m247 m25 r24 : Int} (b_r24 : 0 ≤ r24 ∧ r24 ≤ 2000) (rf1 : 0 ≤ (-1000) * q17 + (-1) * r18 + w6) (m246e : Hd (q17 * r24 = m246)) (m247e : Hd (r18 * r24 = m247)) (m25e : Hd (r24 * w6 = m25)) : 0 ≤ (-1000) * m246 + (-1) * m247 + m25 := by
  have e1 : ((-1000) * q17 + (-1) * r18 + w6) * (r24) = (-1000) * m246 + (-1) * m247 + m25 := ((by simp only [Int.add_mul, Int.mul_add, Int.mul_assoc, Int.mul_comm, Int.mul_left_comm, Int.reduceMul, Int.reduceNeg, Int.mul_one, Int.one_mul] <;> omega : ((-1000) * q17 + (-1) * r18 + w6) * (r24) = (-1000) * (q17 * r24) + (-1) * (r18 * r24) + r24 * w6).trans (by (try simp only [m246e.out, m247e.out, m25e.out]) <;> omega))
  exact e1 ▸ Int.mul_nonneg (by omega) (by omega)
theorem bh_rf2 {q17 r18 w6 : Int}  (q17s : w6 = 1000 * q17 + r18) : 0 ≤ 1000 * q17 + r18 + (-1) * w6 := by omega
theorem bh_rf2_0 {q17 r18 w6 m246 m247 m25 r24 : Int} (b_r24 : 0 ≤ r24 ∧ r24 ≤ 2000) (rf2 : 0 ≤ 1000 * q17 + r18 + (-1) * w6) (m246e : Hd (q17 * r24 = m246)) (m247e : Hd (r18 * r24 = m247)) (m25e : Hd (r24 * w6 = m25)) : 0 ≤ 1000 * m246 + m247 + (-1) * m25 := by
  have e1 : (1000 * q17 + r18 + (-1) * w6) * (r24) = 1000 * m246 + m247 + (-1) * m25 := ((by simp only [Int.add_mul, Int.mul_add, Int.mul_assoc, Int.mul_comm, Int.mul_left_comm, Int.reduceMul, Int.reduceNeg, Int.mul_one, Int.one_mul] <;> omega : (1000 * q17 + r18 + (-1) * w6) * (r24) = 1000 * (q17 * r24) + r18 * r24 + (-1) * (r24 * w6)).trans (by (try simp only [m246e.out, m247e.out, m25e.out]) <;> omega))
  exact e1 ▸ Int.mul_nonneg (by omega) (by omega)
theorem bh_am248 {m25 x7 : Int} (b_m25 : 0 ≤ m25 ∧ m25 ≤ 143976000) (b_x7 : 0 ≤ x7 ∧ x7 ≤ 255) : ∃ m : Int, Hd (m25 * x7 = m) ∧ ((0) * x7 + (0) * m25 - (0) ≤ m) ∧ ((143976000) * x7 + (255) * m25 - (36713880000) ≤ m) ∧ (m ≤ (143976000) * x7 + (0) * m25 - (0)) ∧ (m ≤ (0) * x7 + (255) * m25 - (0)) ∧ (0 ≤ m ∧ m ≤ 36713880000) := by
  obtain ⟨h1, h2, h3, h4⟩ := mcc (x := m25) (y := x7) b_m25.1 b_m25.2 b_x7.1 b_x7.2
  refine ⟨_, ⟨rfl⟩, ?_, ?_, ?_, ?_, ?_, ?_⟩ <;> omega
theorem bh_rf3 {m25 n30 r28 m248 m61 x7 g29 d31 w26 : Int} (b_r28 : 0 ≤ r28 ∧ r28 ≤ 999999) (b_x7 : 0 ≤ x7 ∧ x7 ≤ 255) (g29s : (r28 = 0 → g29 = 1000000 ∧ d31 = 1 ∧ 1000000 * n30 = w26) ∧ (d31 = 1 → r28 = 0)) (w26s : 1000 * m25 = w26) (m248e : Hd (m25 * x7 = m248)) (m61e : Hd (n30 * x7 = m61)) : 0 ≤ (-1) * r28 → 0 ≤ (-1) * m248 + 1000 * m61 := fun hc => by
  have k : 0 ≤ (-1) * m25 + 1000 * n30 := by omega
  have e1 : ((-1) * m25 + 1000 * n30) * (x7) = (-1) * m248 + 1000 * m61 := ((by simp only [Int.add_mul, Int.mul_add, Int.mul_assoc, Int.mul_comm, Int.mul_left_comm, Int.reduceMul, Int.reduceNeg, Int.mul_one, Int.one_mul] <;> omega : ((-1) * m25 + 1000 * n30) * (x7) = (-1) * (m25 * x7) + 1000 * (n30 * x7)).trans (by (try simp only [m248e.out, m61e.out]) <;> omega))
  exact e1 ▸ Int.mul_nonneg k (by omega)
theorem bh_rf4 {m25 n30 r28 m248 m61 x7 g29 d31 w26 : Int} (b_r28 : 0 ≤ r28 ∧ r28 ≤ 999999) (b_x7 : 0 ≤ x7 ∧ x7 ≤ 255) (g29s : (r28 = 0 → g29 = 1000000 ∧ d31 = 1 ∧ 1000000 * n30 = w26) ∧ (d31 = 1 → r28 = 0)) (w26s : 1000 * m25 = w26) (m248e : Hd (m25 * x7 = m248)) (m61e : Hd (n30 * x7 = m61)) : 0 ≤ (-1) * r28 → 0 ≤ m248 + (-1000) * m61 := fun hc => by
  have k : 0 ≤ m25 + (-1000) * n30 := by omega
  have e1 : (m25 + (-1000) * n30) * (x7) = m248 + (-1000) * m61 := ((by simp only [Int.add_mul, Int.mul_add, Int.mul_assoc, Int.mul_comm, Int.mul_left_comm, Int.reduceMul, Int.reduceNeg, Int.mul_one, Int.one_mul] <;> omega : (m25 + (-1000) * n30) * (x7) = m25 * x7 + (-1000) * (n30 * x7)).trans (by (try simp only [m248e.out, m61e.out]) <;> omega))
  exact e1 ▸ Int.mul_nonneg k (by omega)
theorem bh_am249 {m38 r24 : Int} (b_m38 : 0 ≤ m38 ∧ m38 ≤ 18356940) (b_r24 : 0 ≤ r24 ∧ r24 ≤ 2000) : ∃ m : Int, Hd (m38 * r24 = m) ∧ ((0) * r24 + (0) * m38 - (0) ≤ m) ∧ ((18356940) * r24 + (2000) * m38 - (36713880000) ≤ m) ∧ (m ≤ (18356940) * r24 + (0) * m38 - (0)) ∧ (m ≤ (0) * r24 + (2000) * m38 - (0)) ∧ (0 ≤ m ∧ m ≤ 36713880000) := by
  obtain ⟨h1, h2, h3, h4⟩ := mcc (x := m38) (y := r24) b_m38.1 b_m38.2 b_r24.1 b_r24.2
  refine ⟨_, ⟨rfl⟩, ?_, ?_, ?_, ?_, ?_, ?_⟩ <;> omega
theorem bh_am250 {m25 r36 : Int} (b_m25 : 0 ≤ m25 ∧ m25 ≤ 143976000) (b_r36 : 0 ≤ r36 ∧ r36 ≤ 19) : ∃ m : Int, Hd (m25 * r36 = m) ∧ ((0) * r36 + (0) * m25 - (0) ≤ m) ∧ ((143976000) * r36 + (19) * m25 - (2735544000) ≤ m) ∧ (m ≤ (143976000) * r36 + (0) * m25 - (0)) ∧ (m ≤ (0) * r36 + (19) * m25 - (0)) ∧ (0 ≤ m ∧ m ≤ 2735544000) := by
  obtain ⟨h1, h2, h3, h4⟩ := mcc (x := m25) (y := r36) b_m25.1 b_m25.2 b_r36.1 b_r36.2
  refine ⟨_, ⟨rfl⟩, ?_, ?_, ?_, ?_, ?_, ?_⟩ <;> omega
theorem bh_rf6 {m25 n30 r28 m250 m70 r36 g29 d31 w26 : Int} (b_r28 : 0 ≤ r28 ∧ r28 ≤ 999999) (b_r36 : 0 ≤ r36 ∧ r36 ≤ 19) (g29s : (r28 = 0 → g29 = 1000000 ∧ d31 = 1 ∧ 1000000 * n30 = w26) ∧ (d31 = 1 → r28 = 0)) (w26s : 1000 * m25 = w26) (m250e : Hd (m25 * r36 = m250)) (m70e : Hd (n30 * r36 = m70)) : 0 ≤ (-1) * r28 → 0 ≤ (-1) * m250 + 1000 * m70 := fun hc => by
  have k : 0 ≤ (-1) * m25 + 1000 * n30 := by omega
  have e1 : ((-1) * m25 + 1000 * n30) * (r36) = (-1) * m250 + 1000 * m70 := ((by simp only [Int.add_mul, Int.mul_add, Int.mul_assoc, Int.mul_comm, Int.mul_left_comm, Int.reduceMul, Int.reduceNeg, Int.mul_one, Int.one_mul] <;> omega : ((-1) * m25 + 1000 * n30) * (r36) = (-1) * (m25 * r36) + 1000 * (n30 * r36)).trans (by (try simp only [m250e.out, m70e.out]) <;> omega))
  exact e1 ▸ Int.mul_nonneg k (by omega)
theorem bh_rf7 {m25 n30 r28 m250 m70 r36 g29 d31 w26 : Int} (b_r28 : 0 ≤ r28 ∧ r28 ≤ 999999) (b_r36 : 0 ≤ r36 ∧ r36 ≤ 19) (g29s : (r28 = 0 → g29 = 1000000 ∧ d31 = 1 ∧ 1000000 * n30 = w26) ∧ (d31 = 1 → r28 = 0)) (w26s : 1000 * m25 = w26) (m250e : Hd (m25 * r36 = m250)) (m70e : Hd (n30 * r36 = m70)) : 0 ≤ (-1) * r28 → 0 ≤ m250 + (-1000) * m70 := fun hc => by
  have k : 0 ≤ m25 + (-1000) * n30 := by omega
  have e1 : (m25 + (-1000) * n30) * (r36) = m250 + (-1000) * m70 := ((by simp only [Int.add_mul, Int.mul_add, Int.mul_assoc, Int.mul_comm, Int.mul_left_comm, Int.reduceMul, Int.reduceNeg, Int.mul_one, Int.one_mul] <;> omega : (m25 + (-1000) * n30) * (r36) = m25 * r36 + (-1000) * (n30 * r36)).trans (by (try simp only [m250e.out, m70e.out]) <;> omega))
  exact e1 ▸ Int.mul_nonneg k (by omega)
theorem bh_am251 {m37 r24 : Int} (b_m37 : 0 ≤ m37 ∧ m37 ≤ 1367772) (b_r24 : 0 ≤ r24 ∧ r24 ≤ 2000) : ∃ m : Int, Hd (m37 * r24 = m) ∧ ((0) * r24 + (0) * m37 - (0) ≤ m) ∧ ((1367772) * r24 + (2000) * m37 - (2735544000) ≤ m) ∧ (m ≤ (1367772) * r24 + (0) * m37 - (0)) ∧ (m ≤ (0) * r24 + (2000) * m37 - (0)) ∧ (0 ≤ m ∧ m ≤ 2735544000) := by
  obtain ⟨h1, h2, h3, h4⟩ := mcc (x := m37) (y := r24) b_m37.1 b_m37.2 b_r24.1 b_r24.2
  refine ⟨_, ⟨rfl⟩, ?_, ?_, ?_, ?_, ?_, ?_⟩ <;> omega
theorem bh_rf9 {m38 w44 w6 : Int}  (w44s : m38 + w6 = w44) : 0 ≤ (-1) * m38 + w44 + (-1) * w6 := by omega
theorem bh_rf9_0 {m38 w44 w6 m249 m25 m53 r24 : Int} (b_r24 : 0 ≤ r24 ∧ r24 ≤ 2000) (rf9 : 0 ≤ (-1) * m38 + w44 + (-1) * w6) (m249e : Hd (m38 * r24 = m249)) (m53e : Hd (r24 * w44 = m53)) (m25e : Hd (r24 * w6 = m25)) : 0 ≤ (-1) * m249 + (-1) * m25 + m53 := by
  have e1 : ((-1) * m38 + w44 + (-1) * w6) * (r24) = (-1) * m249 + (-1) * m25 + m53 := ((by simp only [Int.add_mul, Int.mul_add, Int.mul_assoc, Int.mul_comm, Int.mul_left_comm, Int.reduceMul, Int.reduceNeg, Int.mul_one, Int.one_mul] <;> omega : ((-1) * m38 + w44 + (-1) * w6) * (r24) = (-1) * (m38 * r24) + r24 * w44 + (-1) * (r24 * w6)).trans (by (try simp only [m249e.out, m53e.out, m25e.out]) <;> omega))
  exact e1 ▸ Int.mul_nonneg (by omega) (by omega)
theorem bh_rf10 {m38 w44 w6 : Int}  (w44s : m38 + w6 = w44) : 0 ≤ m38 + (-1) * w44 + w6 := by omega
theorem bh_rf10_0 {m38 w44 w6 m249 m25 m53 r24 : Int} (b_r24 : 0 ≤ r24 ∧ r24 ≤ 2000) (rf10 : 0 ≤ m38 + (-1) * w44 + w6) (m249e : Hd (m38 * r24 = m249)) (m53e : Hd (r24 * w44 = m53)) (m25e : Hd (r24 * w6 = m25)) : 0 ≤ m249 + m25 + (-1) * m53 := by
  have e1 : (m38 + (-1) * w44 + w6) * (r24) = m249 + m25 + (-1) * m53 := ((by simp only [Int.add_mul, Int.mul_add, Int.mul_assoc, Int.mul_comm, Int.mul_left_comm, Int.reduceMul, Int.reduceNeg, Int.mul_one, Int.one_mul] <;> omega : (m38 + (-1) * w44 + w6) * (r24) = m38 * r24 + (-1) * (r24 * w44) + r24 * w6).trans (by (try simp only [m249e.out, m53e.out, m25e.out]) <;> omega))
  exact e1 ▸ Int.mul_nonneg (by omega) (by omega)
theorem bh_rf11 {m37 m38 w39 w6 : Int}  (w39s : m37 + m38 + w6 = w39) : 0 ≤ (-1) * m37 + (-1) * m38 + w39 + (-1) * w6 := by omega
theorem bh_rf11_0 {m37 m38 w39 w6 m249 m25 m251 m63 r24 : Int} (b_r24 : 0 ≤ r24 ∧ r24 ≤ 2000) (rf11 : 0 ≤ (-1) * m37 + (-1) * m38 + w39 + (-1) * w6) (m251e : Hd (m37 * r24 = m251)) (m249e : Hd (m38 * r24 = m249)) (m63e : Hd (r24 * w39 = m63)) (m25e : Hd (r24 * w6 = m25)) : 0 ≤ (-1) * m249 + (-1) * m25 + (-1) * m251 + m63 := by
  have e1 : ((-1) * m37 + (-1) * m38 + w39 + (-1) * w6) * (r24) = (-1) * m249 + (-1) * m25 + (-1) * m251 + m63 := ((by simp only [Int.add_mul, Int.mul_add, Int.mul_assoc, Int.mul_comm, Int.mul_left_comm, Int.reduceMul, Int.reduceNeg, Int.mul_one, Int.one_mul] <;> omega : ((-1) * m37 + (-1) * m38 + w39 + (-1) * w6) * (r24) = (-1) * (m37 * r24) + (-1) * (m38 * r24) + r24 * w39 + (-1) * (r24 * w6)).trans (by (try simp only [m251e.out, m249e.out, m63e.out, m25e.out]) <;> omega))
  exact e1 ▸ Int.mul_nonneg (by omega) (by omega)
theorem bh_rf12 {m37 m38 w39 w6 : Int}  (w39s : m37 + m38 + w6 = w39) : 0 ≤ m37 + m38 + (-1) * w39 + w6 := by omega
theorem bh_rf12_0 {m37 m38 w39 w6 m249 m25 m251 m63 r24 : Int} (b_r24 : 0 ≤ r24 ∧ r24 ≤ 2000) (rf12 : 0 ≤ m37 + m38 + (-1) * w39 + w6) (m251e : Hd (m37 * r24 = m251)) (m249e : Hd (m38 * r24 = m249)) (m63e : Hd (r24 * w39 = m63)) (m25e : Hd (r24 * w6 = m25)) : 0 ≤ m249 + m25 + m251 + (-1) * m63 := by
  have e1 : (m37 + m38 + (-1) * w39 + w6) * (r24) = m249 + m25 + m251 + (-1) * m63 := ((by simp only [Int.add_mul, Int.mul_add, Int.mul_assoc, Int.mul_comm, Int.mul_left_comm, Int.reduceMul, Int.reduceNeg, Int.mul_one, Int.one_mul] <;> omega : (m37 + m38 + (-1) * w39 + w6) * (r24) = m37 * r24 + m38 * r24 + (-1) * (r24 * w39) + r24 * w6).trans (by (try simp only [m251e.out, m249e.out, m63e.out, m25e.out]) <;> omega))
  exact e1 ▸ Int.mul_nonneg (by omega) (by omega)
theorem bh_rf13 {q15 r16 w6 : Int}  (q15s : 5 * w6 = 1000 * q15 + r16) : 0 ≤ (-1000) * q15 + (-1) * r16 + 5 * w6 := by omega
theorem bh_am252 {q15 r73 : Int} (b_q15 : 20 ≤ q15 ∧ q15 ≤ 359) (b_r73 : 0 ≤ r73 ∧ r73 ≤ 400) : ∃ m : Int, Hd (q15 * r73 = m) ∧ ((20) * r73 + (0) * q15 - (0) ≤ m) ∧ ((359) * r73 + (400) * q15 - (143600) ≤ m) ∧ (m ≤ (359) * r73 + (0) * q15 - (0)) ∧ (m ≤ (20) * r73 + (400) * q15 - (8000)) ∧ (0 ≤ m ∧ m ≤ 143600) := by
  obtain ⟨h1, h2, h3, h4⟩ := mcc (x := q15) (y := r73) b_q15.1 b_q15.2 b_r73.1 b_r73.2
  refine ⟨_, ⟨rfl⟩, ?_, ?_, ?_, ?_, ?_, ?_⟩ <;> omega
theorem bh_am253 {r16 r73 : Int} (b_r16 : 0 ≤ r16 ∧ r16 ≤ 999) (b_r73 : 0 ≤ r73 ∧ r73 ≤ 400) : ∃ m : Int, Hd (r16 * r73 = m) ∧ ((0) * r73 + (0) * r16 - (0) ≤ m) ∧ ((999) * r73 + (400) * r16 - (399600) ≤ m) ∧ (m ≤ (999) * r73 + (0) * r16 - (0)) ∧ (m ≤ (0) * r73 + (400) * r16 - (0)) ∧ (0 ≤ m ∧ m ≤ 399600) := by
  obtain ⟨h1, h2, h3, h4⟩ := mcc (x := r16) (y := r73) b_r16.1 b_r16.2 b_r73.1 b_r73.2
  refine ⟨_, ⟨rfl⟩, ?_, ?_, ?_, ?_, ?_, ?_⟩ <;> omega
theorem bh_rf13_0 {q15 r16 w6 m252 m253 m74 r73 : Int} (b_r73 : 0 ≤ r73 ∧ r73 ≤ 400) (rf13 : 0 ≤ (-1000) * q15 + (-1) * r16 + 5 * w6) (m252e : Hd (q15 * r73 = m252)) (m253e : Hd (r16 * r73 = m253)) (m74e : Hd (r73 * w6 = m74)) : 0 ≤ (-1000) * m252 + (-1) * m253 + 5 * m74 := by
  have e1 : ((-1000) * q15 + (-1) * r16 + 5 * w6) * (r73) = (-1000) * m252 + (-1) * m253 + 5 * m74 := ((by simp only [Int.add_mul, Int.mul_add, Int.mul_assoc, Int.mul_comm, Int.mul_left_comm, Int.reduceMul, Int.reduceNeg, Int.mul_one, Int.one_mul] <;> omega : ((-1000) * q15 + (-1) * r16 + 5 * w6) * (r73) = (-1000) * (q15 * r73) + (-1) * (r16 * r73) + 5 * (r73 * w6)).trans (by (try simp only [m252e.out, m253e.out, m74e.out]) <;> omega))
  exact e1 ▸ Int.mul_nonneg (by omega) (by omega)
theorem bh_rf14 {q15 r16 w6 : Int}  (q15s : 5 * w6 = 1000 * q15 + r16) : 0 ≤ 1000 * q15 + r16 + (-5) * w6 := by omega
theorem bh_rf14_0 {q15 r16 w6 m252 m253 m74 r73 : Int} (b_r73 : 0 ≤ r73 ∧ r73 ≤ 400) (rf14 : 0 ≤ 1000 * q15 + r16 + (-5) * w6) (m252e : Hd (q15 * r73 = m252)) (m253e : Hd (r16 * r73 = m253)) (m74e : Hd (r73 * w6 = m74)) : 0 ≤ 1000 * m252 + m253 + (-5) * m74 := by
  have e1 : (1000 * q15 + r16 + (-5) * w6) * (r73) = 1000 * m252 + m253 + (-5) * m74 := ((by simp only [Int.add_mul, Int.mul_add, Int.mul_assoc, Int.mul_comm, Int.mul_left_comm, Int.reduceMul, Int.reduceNeg, Int.mul_one, Int.one_mul] <;> omega : (1000 * q15 + r16 + (-5) * w6) * (r73) = 1000 * (q15 * r73) + r16 * r73 + (-5) * (r73 * w6)).trans (by (try simp only [m252e.out, m253e.out, m74e.out]) <;> omega))
  exact e1 ▸ Int.mul_nonneg (by omega) (by omega)
theorem bh_am254 {m74 x7 : Int} (b_m74 : 0 ≤ m74 ∧ m74 ≤ 28795200) (b_x7 : 0 ≤ x7 ∧ x7 ≤ 255) : ∃ m : Int, Hd (m74 * x7 = m) ∧ ((0) * x7 + (0) * m74 - (0) ≤ m) ∧ ((28795200) * x7 + (255) * m74 - (7342776000) ≤ m) ∧ (m ≤ (28795200) * x7 + (0) * m74 - (0)) ∧ (m ≤ (0) * x7 + (255) * m74 - (0)) ∧ (0 ≤ m ∧ m ≤ 7342776000) := by
  obtain ⟨h1, h2, h3, h4⟩ := mcc (x := m74) (y := x7) b_m74.1 b_m74.2 b_x7.1 b_x7.2
  refine ⟨_, ⟨rfl⟩, ?_, ?_, ?_, ?_, ?_, ?_⟩ <;> omega
theorem bh_rf15 {m74 n79 r77 m254 m88 x7 g78 d80 w75 : Int} (b_r77 : 0 ≤ r77 ∧ r77 ≤ 999999) (b_x7 : 0 ≤ x7 ∧ x7 ≤ 255) (g78s : (r77 = 0 → g78 = 1000000 ∧ d80 = 1 ∧ 1000000 * n79 = w75) ∧ (d80 = 1 → r77 = 0)) (w75s : 5000 * m74 = w75) (m254e : Hd (m74 * x7 = m254)) (m88e : Hd (n79 * x7 = m88)) : 0 ≤ (-1) * r77 → 0 ≤ (-5) * m254 + 1000 * m88 := fun hc => by
  have k : 0 ≤ (-5) * m74 + 1000 * n79 := by omega
  have e1 : ((-5) * m74 + 1000 * n79) * (x7) = (-5) * m254 + 1000 * m88 := ((by simp only [Int.add_mul, Int.mul_add, Int.mul_assoc, Int.mul_comm, Int.mul_left_comm, Int.reduceMul, Int.reduceNeg, Int.mul_one, Int.one_mul] <;> omega : ((-5) * m74 + 1000 * n79) * (x7) = (-5) * (m74 * x7) + 1000 * (n79 * x7)).trans (by (try simp only [m254e.out, m88e.out]) <;> omega))
  exact e1 ▸ Int.mul_nonneg k (by omega)
theorem bh_rf16 {m74 n79 r77 m254 m88 x7 g78 d80 w75 : Int} (b_r77 : 0 ≤ r77 ∧ r77 ≤ 999999) (b_x7 : 0 ≤ x7 ∧ x7 ≤ 255) (g78s : (r77 = 0 → g78 = 1000000 ∧ d80 = 1 ∧ 1000000 * n79 = w75) ∧ (d80 = 1 → r77 = 0)) (w75s : 5000 * m74 = w75) (m254e : Hd (m74 * x7 = m254)) (m88e : Hd (n79 * x7 = m88)) : 0 ≤ (-1) * r77 → 0 ≤ 5 * m254 + (-1000) * m88 := fun hc => by
  have k : 0 ≤ 5 * m74 + (-1000) * n79 := by omega
  have e1 : (5 * m74 + (-1000) * n79) * (x7) = 5 * m254 + (-1000) * m88 := ((by simp only [Int.add_mul, Int.mul_add, Int.mul_assoc, Int.mul_comm, Int.mul_left_comm, Int.reduceMul, Int.reduceNeg, Int.mul_one, Int.one_mul] <;> omega : (5 * m74 + (-1000) * n79) * (x7) = 5 * (m74 * x7) + (-1000) * (n79 * x7)).trans (by (try simp only [m254e.out, m88e.out]) <;> omega))
  exact e1 ▸ Int.mul_nonneg k (by omega)
theorem bh_am255 {m38 r73 : Int} (b_m38 : 0 ≤ m38 ∧ m38 ≤ 18356940) (b_r73 : 0 ≤ r73 ∧ r73 ≤ 400) : ∃ m : Int, Hd (m38 * r73 = m) ∧ ((0) * r73 + (0) * m38 - (0) ≤ m) ∧ ((18356940) * r73 + (400) * m38 - (7342776000) ≤ m) ∧ (m ≤ (18356940) * r73 + (0) * m38 - (0)) ∧ (m ≤ (0) * r73 + (400) * m38 - (0)) ∧ (0 ≤ m ∧ m ≤ 7342776000) := by
  obtain ⟨h1, h2, h3, h4⟩ := mcc (x := m38) (y := r73) b_m38.1 b_m38.2 b_r73.1 b_r73.2
  refine ⟨_, ⟨rfl⟩, ?_, ?_, ?_, ?_, ?_, ?_⟩ <;> omega
theorem bh_am256 {m74 r36 : Int} (b_m74 : 0 ≤ m74 ∧ m74 ≤ 28795200) (b_r36 : 0 ≤ r36 ∧ r36 ≤ 19) : ∃ m : Int, Hd (m74 * r36 = m) ∧ ((0) * r36 + (0) * m74 - (0) ≤ m) ∧ ((28795200) * r36 + (19) * m74 - (547108800) ≤ m) ∧ (m ≤ (28795200) * r36 + (0) * m74 - (0)) ∧ (m ≤ (0) * r36 + (19) * m74 - (0)) ∧ (0 ≤ m ∧ m ≤ 547108800) := by
  obtain ⟨h1, h2, h3, h4⟩ := mcc (x := m74) (y := r36) b_m74.1 b_m74.2 b_r36.1 b_r36.2
  refine ⟨_, ⟨rfl⟩, ?_, ?_, ?_, ?_, ?_, ?_⟩ <;> omega
theorem bh_rf18 {m74 n79 r77 m256 m94 r36 g78 d80 w75 : Int} (b_r36 : 0 ≤ r36 ∧ r36 ≤ 19) (b_r77 : 0 ≤ r77 ∧ r77 ≤ 999999) (g78s : (r77 = 0 → g78 = 1000000 ∧ d80 = 1 ∧ 1000000 * n79 = w75) ∧ (d80 = 1 → r77 = 0)) (w75s : 5000 * m74 = w75) (m256e : Hd (m74 * r36 = m256)) (m94e : Hd (n79 * r36 = m94)) : 0 ≤ (-1) * r77 → 0 ≤ (-5) * m256 + 1000 * m94 := fun hc => by
  have k : 0 ≤ (-5) * m74 + 1000 * n79 := by omega
  have e1 : ((-5) * m74 + 1000 * n79) * (r36) = (-5) * m256 + 1000 * m94 := ((by simp only [Int.add_mul, Int.mul_add, Int.mul_assoc, Int.mul_comm, Int.mul_left_comm, Int.reduceMul, Int.reduceNeg, Int.mul_one, Int.one_mul] <;> omega : ((-5) * m74 + 1000 * n79) * (r36) = (-5) * (m74 * r36) + 1000 * (n79 * r36)).trans (by (try simp only [m256e.out, m94e.out]) <;> omega))
  exact e1 ▸ Int.mul_nonneg k (by omega)
theorem bh_rf19 {m74 n79 r77 m256 m94 r36 g78 d80 w75 : Int} (b_r36 : 0 ≤ r36 ∧ r36 ≤ 19) (b_r77 : 0 ≤ r77 ∧ r77 ≤ 999999) (g78s : (r77 = 0 → g78 = 1000000 ∧ d80 = 1 ∧ 1000000 * n79 = w75) ∧ (d80 = 1 → r77 = 0)) (w75s : 5000 * m74 = w75) (m256e : Hd (m74 * r36 = m256)) (m94e : Hd (n79 * r36 = m94)) : 0 ≤ (-1) * r77 → 0 ≤ 5 * m256 + (-1000) * m94 := fun hc => by
  have k : 0 ≤ 5 * m74 + (-1000) * n79 := by omega
  have e1 : (5 * m74 + (-1000) * n79) * (r36) = 5 * m256 + (-1000) * m94 := ((by simp only [Int.add_mul, Int.mul_add, Int.mul_assoc, Int.mul_comm, Int.mul_left_comm, Int.reduceMul, Int.reduceNeg, Int.mul_one, Int.one_mul] <;> omega : (5 * m74 + (-1000) * n79) * (r36) = 5 * (m74 * r36) + (-1000) * (n79 * r36)).trans (by (try simp only [m256e.out, m94e.out]) <;> omega))
  exact e1 ▸ Int.mul_nonneg k (by omega)
theorem bh_am257 {m37 r73 : Int} (b_m37 : 0 ≤ m37 ∧ m37 ≤ 1367772) (b_r73 : 0 ≤ r73 ∧ r73 ≤ 400) : ∃ m : Int, Hd (m37 * r73 = m) ∧ ((0) * r73 + (0) * m37 - (0) ≤ m) ∧ ((1367772) * r73 + (400) * m37 - (547108800) ≤ m) ∧ (m ≤ (1367772) * r73 + (0) * m37 - (0)) ∧ (m ≤ (0) * r73 + (400) * m37 - (0)) ∧ (0 ≤ m ∧ m ≤ 547108800) := by
  obtain ⟨h1, h2, h3, h4⟩ := mcc (x := m37) (y := r73) b_m37.1 b_m37.2 b_r73.1 b_r73.2
  refine ⟨_, ⟨rfl⟩, ?_, ?_, ?_, ?_, ?_, ?_⟩ <;> omega
theorem bh_rf21 {m38 w44 w6 : Int}  (rf9 : 0 ≤ (-1) * m38 + w44 + (-1) * w6) : 0 ≤ (-1) * m38 + w44 + (-1) * w6 := by omega
theorem bh_rf21_0 {m38 w44 w6 m255 m74 m84 r73 : Int} (b_r73 : 0 ≤ r73 ∧ r73 ≤ 400) (rf21 : 0 ≤ (-1) * m38 + w44 + (-1) * w6) (m255e : Hd (m38 * r73 = m255)) (m84e : Hd (r73 * w44 = m84)) (m74e : Hd (r73 * w6 = m74)) : 0 ≤ (-1) * m255 + (-1) * m74 + m84 := by
  have e1 : ((-1) * m38 + w44 + (-1) * w6) * (r73) = (-1) * m255 + (-1) * m74 + m84 := ((by simp only [Int.add_mul, Int.mul_add, Int.mul_assoc, Int.mul_comm, Int.mul_left_comm, Int.reduceMul, Int.reduceNeg, Int.mul_one, Int.one_mul] <;> omega : ((-1) * m38 + w44 + (-1) * w6) * (r73) = (-1) * (m38 * r73) + r73 * w44 + (-1) * (r73 * w6)).trans (by (try simp only [m255e.out, m84e.out, m74e.out]) <;> omega))
  exact e1 ▸ Int.mul_nonneg (by omega) (by omega)
theorem bh_rf22 {m38 w44 w6 : Int}  (rf10 : 0 ≤ m38 + (-1) * w44 + w6) : 0 ≤ m38 + (-1) * w44 + w6 := by omega
theorem bh_rf22_0 {m38 w44 w6 m255 m74 m84 r73 : Int} (b_r73 : 0 ≤ r73 ∧ r73 ≤ 400) (rf22 : 0 ≤ m38 + (-1) * w44 + w6) (m255e : Hd (m38 * r73 = m255)) (m84e : Hd (r73 * w44 = m84)) (m74e : Hd (r73 * w6 = m74)) : 0 ≤ m255 + m74 + (-1) * m84 := by
  have e1 : (m38 + (-1) * w44 + w6) * (r73) = m255 + m74 + (-1) * m84 := ((by simp only [Int.add_mul, Int.mul_add, Int.mul_assoc, Int.mul_comm, Int.mul_left_comm, Int.reduceMul, Int.reduceNeg, Int.mul_one, Int.one_mul] <;> omega : (m38 + (-1) * w44 + w6) * (r73) = m38 * r73 + (-1) * (r73 * w44) + r73 * w6).trans (by (try simp only [m255e.out, m84e.out, m74e.out]) <;> omega))
  exact e1 ▸ Int.mul_nonneg (by omega) (by omega)
theorem bh_rf23 {m37 m38 w39 w6 : Int}  (rf11 : 0 ≤ (-1) * m37 + (-1) * m38 + w39 + (-1) * w6) : 0 ≤ (-1) * m37 + (-1) * m38 + w39 + (-1) * w6 := by omega
theorem bh_rf23_0 {m37 m38 w39 w6 m255 m257 m74 m90 r73 : Int} (b_r73 : 0 ≤ r73 ∧ r73 ≤ 400) (rf23 : 0 ≤ (-1) * m37 + (-1) * m38 + w39 + (-1) * w6) (m257e : Hd (m37 * r73 = m257)) (m255e : Hd (m38 * r73 = m255)) (m90e : Hd (r73 * w39 = m90)) (m74e : Hd (r73 * w6 = m74)) : 0 ≤ (-1) * m255 + (-1) * m257 + (-1) * m74 + m90 := by
  have e1 : ((-1) * m37 + (-1) * m38 + w39 + (-1) * w6) * (r73) = (-1) * m255 + (-1) * m257 + (-1) * m74 + m90 := ((by simp only [Int.add_mul, Int.mul_add, Int.mul_assoc, Int.mul_comm, Int.mul_left_comm, Int.reduceMul, Int.reduceNeg, Int.mul_one, Int.one_mul] <;> omega : ((-1) * m37 + (-1) * m38 + w39 + (-1) * w6) * (r73) = (-1) * (m37 * r73) + (-1) * (m38 * r73) + r73 * w39 + (-1) * (r73 * w6)).trans (by (try simp only [m257e.out, m255e.out, m90e.out, m74e.out]) <;> omega))
  exact e1 ▸ Int.mul_nonneg (by omega) (by omega)
theorem bh_rf24 {m37 m38 w39 w6 : Int}  (rf12 : 0 ≤ m37 + m38 + (-1) * w39 + w6) : 0 ≤ m37 + m38 + (-1) * w39 + w6 := by omega
theorem bh_rf24_0 {m37 m38 w39 w6 m255 m257 m74 m90 r73 : Int} (b_r73 : 0 ≤ r73 ∧ r73 ≤ 400) (rf24 : 0 ≤ m37 + m38 + (-1) * w39 + w6) (m257e : Hd (m37 * r73 = m257)) (m255e : Hd (m38 * r73 = m255)) (m90e : Hd (r73 * w39 = m90)) (m74e : Hd (r73 * w6 = m74)) : 0 ≤ m255 + m257 + m74 + (-1) * m90 := by
  have e1 : (m37 + m38 + (-1) * w39 + w6) * (r73) = m255 + m257 + m74 + (-1) * m90 := ((by simp only [Int.add_mul, Int.mul_add, Int.mul_assoc, Int.mul_comm, Int.mul_left_comm, Int.reduceMul, Int.reduceNeg, Int.mul_one, Int.one_mul] <;> omega : (m37 + m38 + (-1) * w39 + w6) * (r73) = m37 * r73 + m38 * r73 + (-1) * (r73 * w39) + r73 * w6).trans (by (try simp only [m257e.out, m255e.out, m90e.out, m74e.out]) <;> omega))
  exact e1 ▸ Int.mul_nonneg (by omega) (by omega)
theorem bh_rf25 {q13 r14 w6 : Int}  (q13s : 25 * w6 = 1000 * q13 + r14) : 0 ≤ (-1000) * q13 + (-1) * r14 + 25 * w6 := by omega
theorem bh_am258 {q13 r97 : Int} (b_q13 : 100 ≤ q13 ∧ q13 ≤ 1799) (b_r97 : 0 ≤ r97 ∧ r97 ≤ 80) : ∃ m : Int, Hd (q13 * r97 = m) ∧ ((100) * r97 + (0) * q13 - (0) ≤ m) ∧ ((1799) * r97 + (80) * q13 - (143920) ≤ m) ∧ (m ≤ (1799) * r97 + (0) * q13 - (0)) ∧ (m ≤ (100) * r97 + (80) * q13 - (8000)) ∧ (0 ≤ m ∧ m ≤ 143920) := by
  obtain ⟨h1, h2, h3, h4⟩ := mcc (x := q13) (y := r97) b_q13.1 b_q13.2 b_r97.1 b_r97.2
  refine ⟨_, ⟨rfl⟩, ?_, ?_, ?_, ?_, ?_, ?_⟩ <;> omega
theorem bh_am259 {r14 r97 : Int} (b_r14 : 0 ≤ r14 ∧ r14 ≤ 999) (b_r97 : 0 ≤ r97 ∧ r97 ≤ 80) : ∃ m : Int, Hd (r14 * r97 = m) ∧ ((0) * r97 + (0) * r14 - (0) ≤ m) ∧ ((999) * r97 + (80) * r14 - (79920) ≤ m) ∧ (m ≤ (999) * r97 + (0) * r14 - (0)) ∧ (m ≤ (0) * r97 + (80) * r14 - (0)) ∧ (0 ≤ m ∧ m ≤ 79920) := by
  obtain ⟨h1, h2, h3, h4⟩ := mcc (x := r14) (y := r97) b_r14.1 b_r14.2 b_r97.1 b_r97.2
  refine ⟨_, ⟨rfl⟩, ?_, ?_, ?_, ?_, ?_, ?_⟩ <;> omega
theorem bh_rf25_0 {q13 r14 w6 m258 m259 m98 r97 : Int} (b_r97 : 0 ≤ r97 ∧ r97 ≤ 80) (rf25 : 0 ≤ (-1000) * q13 + (-1) * r14 + 25 * w6) (m258e : Hd (q13 * r97 = m258)) (m259e : Hd (r14 * r97 = m259)) (m98e : Hd (r97 * w6 = m98)) : 0 ≤ (-1000) * m258 + (-1) * m259 + 25 * m98 := by
  have e1 : ((-1000) * q13 + (-1) * r14 + 25 * w6) * (r97) = (-1000) * m258 + (-1) * m259 + 25 * m98 := ((by simp only [Int.add_mul, Int.mul_add, Int.mul_assoc, Int.mul_comm, Int.mul_left_comm, Int.reduceMul, Int.reduceNeg, Int.mul_one, Int.one_mul] <;> omega : ((-1000) * q13 + (-1) * r14 + 25 * w6) * (r97) = (-1000) * (q13 * r97) + (-1) * (r14 * r97) + 25 * (r97 * w6)).trans (by (try simp only [m258e.out, m259e.out, m98e.out]) <;> omega))
  exact e1 ▸ Int.mul_nonneg (by omega) (by omega)
theorem bh_rf26 {q13 r14 w6 : Int}  (q13s : 25 * w6 = 1000 * q13 + r14) : 0 ≤ 1000 * q13 + r14 + (-25) * w6 := by omega
theorem bh_rf26_0 {q13 r14 w6 m258 m259 m98 r97 : Int} (b_r97 : 0 ≤ r97 ∧ r97 ≤ 80) (rf26 : 0 ≤ 1000 * q13 + r14 + (-25) * w6) (m258e : Hd (q13 * r97 = m258)) (m259e : Hd (r14 * r97 = m259)) (m98e : Hd (r97 * w6 = m98)) : 0 ≤ 1000 * m258 + m259 + (-25) * m98 := by
  have e1 : (1000 * q13 + r14 + (-25) * w6) * (r97) = 1000 * m258 + m259 + (-25) * m98 := ((by simp only [Int.add_mul, Int.mul_add, Int.mul_assoc, Int.mul_comm, Int.mul_left_comm, Int.reduceMul, Int.reduceNeg, Int.mul_one, Int.one_mul] <;> omega : (1000 * q13 + r14 + (-25) * w6) * (r97) = 1000 * (q13 * r97) + r14 * r97 + (-25) * (r97 * w6)).trans (by (try simp only [m258e.out, m259e.out, m98e.out]) <;> omega))
  exact e1 ▸ Int.mul_nonneg (by omega) (by omega)
theorem bh_am260 {m98 x7 : Int} (b_m98 : 0 ≤ m98 ∧ m98 ≤ 5759040) (b_x7 : 0 ≤ x7 ∧ x7 ≤ 255) : ∃ m : Int, Hd (m98 * x7 = m) ∧ ((0) * x7 + (0) * m98 - (0) ≤ m) ∧ ((5759040) * x7 + (255) * m98 - (1468555200) ≤ m) ∧ (m ≤ (5759040) * x7 + (0) * m98 - (0)) ∧ (m ≤ (0) * x7 + (255) * m98 - (0)) ∧ (0 ≤ m ∧ m ≤ 1468555200) := by
  obtain ⟨h1, h2, h3, h4⟩ := mcc (x := m98) (y := x7) b_m98.1 b_m98.2 b_x7.1 b_x7.2
  refine ⟨_, ⟨rfl⟩, ?_, ?_, ?_, ?_, ?_, ?_⟩ <;> omega
theorem bh_rf27 {m98 n103 r101 m112 m260 x7 g102 d104 w99 : Int} (b_r101 : 0 ≤ r101 ∧ r101 ≤ 999999) (b_x7 : 0 ≤ x7 ∧ x7 ≤ 255) (g102s : (r101 = 0 → g102 = 1000000 ∧ d104 = 1 ∧ 1000000 * n103 = w99) ∧ (d104 = 1 → r101 = 0)) (w99s : 25000 * m98 = w99) (m260e : Hd (m98 * x7 = m260)) (m112e : Hd (n103 * x7 = m112)) : 0 ≤ (-1) * r101 → 0 ≤ 1000 * m112 + (-25) * m260 := fun hc => by
  have k : 0 ≤ (-25) * m98 + 1000 * n103 := by omega
  have e1 : ((-25) * m98 + 1000 * n103) * (x7) = 1000 * m112 + (-25) * m260 := ((by simp only [Int.add_mul, Int.mul_add, Int.mul_assoc, Int.mul_comm, Int.mul_left_comm, Int.reduceMul, Int.reduceNeg, Int.mul_one, Int.one_mul] <;> omega : ((-25) * m98 + 1000 * n103) * (x7) = (-25) * (m98 * x7) + 1000 * (n103 * x7)).trans (by (try simp only [m260e.out, m112e.out]) <;> omega))
  exact e1 ▸ Int.mul_nonneg k (by omega)
theorem bh_rf28 {m98 n103 r101 m112 m260 x7 g102 d104 w99 : Int} (b_r101 : 0 ≤ r101 ∧ r101 ≤ 999999) (b_x7 : 0 ≤ x7 ∧ x7 ≤ 255) (g102s : (r101 = 0 → g102 = 1000000 ∧ d104 = 1 ∧ 1000000 * n103 = w99) ∧ (d104 = 1 → r101 = 0)) (w99s : 25000 * m98 = w99) (m260e : Hd (m98 * x7 = m260)) (m112e : Hd (n103 * x7 = m112)) : 0 ≤ (-1) * r101 → 0 ≤ (-1000) * m112 + 25 * m260 := fun hc => by
  have k : 0 ≤ 25 * m98 + (-1000) * n103 := by omega
  have e1 : (25 * m98 + (-1000) * n103) * (x7) = (-1000) * m112 + 25 * m260 := ((by simp only [Int.add_mul, Int.mul_add, Int.mul_assoc, Int.mul_comm, Int.mul_left_comm, Int.reduceMul, Int.reduceNeg, Int.mul_one, Int.one_mul] <;> omega : (25 * m98 + (-1000) * n103) * (x7) = 25 * (m98 * x7) + (-1000) * (n103 * x7)).trans (by (try simp only [m260e.out, m112e.out]) <;> omega))
  exact e1 ▸ Int.mul_nonneg k (by omega)
theorem bh_am261 {m38 r97 : Int} (b_m38 : 0 ≤ m38 ∧ m38 ≤ 18356940) (b_r97 : 0 ≤ r97 ∧ r97 ≤ 80) : ∃ m : Int, Hd (m38 * r97 = m) ∧ ((0) * r97 + (0) * m38 - (0) ≤ m) ∧ ((18356940) * r97 + (80) * m38 - (1468555200) ≤ m) ∧ (m ≤ (18356940) * r97 + (0) * m38 - (0)) ∧ (m ≤ (0) * r97 + (80) * m38 - (0)) ∧ (0 ≤ m ∧ m ≤ 1468555200) := by
  obtain ⟨h1, h2, h3, h4⟩ := mcc (x := m38) (y := r97) b_m38.1 b_m38.2 b_r97.1 b_r97.2
  refine ⟨_, ⟨rfl⟩, ?_, ?_, ?_, ?_, ?_, ?_⟩ <;> omega
theorem bh_am262 {m98 r36 : Int} (b_m98 : 0 ≤ m98 ∧ m98 ≤ 5759040) (b_r36 : 0 ≤ r36 ∧ r36 ≤ 19) : ∃ m : Int, Hd (m98 * r36 = m) ∧ ((0) * r36 + (0) * m98 - (0) ≤ m) ∧ ((5759040) * r36 + (19) * m98 - (109421760) ≤ m) ∧ (m ≤ (5759040) * r36 + (0) * m98 - (0)) ∧ (m ≤ (0) * r36 + (19) * m98 - (0)) ∧ (0 ≤ m ∧ m ≤ 109421760) := by
  obtain ⟨h1, h2, h3, h4⟩ := mcc (x := m98) (y := r36) b_m98.1 b_m98.2 b_r36.1 b_r36.2
  refine ⟨_, ⟨rfl⟩, ?_, ?_, ?_, ?_, ?_, ?_⟩ <;> omega
theorem bh_rf30 {m98 n103 r101 m118 m262 r36 g102 d104 w99 : Int} (b_r101 : 0 ≤ r101 ∧ r101 ≤ 999999) (b_r36 : 0 ≤ r36 ∧ r36 ≤ 19) (g102s : (r101 = 0 → g102 = 1000000 ∧ d104 = 1 ∧ 1000000 * n103 = w99) ∧ (d104 = 1 → r101 = 0)) (w99s : 25000 * m98 = w99) (m262e : Hd (m98 * r36 = m262)) (m118e : Hd (n103 * r36 = m118)) : 0 ≤ (-1) * r101 → 0 ≤ 1000 * m118 + (-25) * m262 := fun hc => by
  have k : 0 ≤ (-25) * m98 + 1000 * n103 := by omega
  have e1 : ((-25) * m98 + 1000 * n103) * (r36) = 1000 * m118 + (-25) * m262 := ((by simp only [Int.add_mul, Int.mul_add, Int.mul_assoc, Int.mul_comm, Int.mul_left_comm, Int.reduceMul, Int.reduceNeg, Int.mul_one, Int.one_mul] <;> omega : ((-25) * m98 + 1000 * n103) * (r36) = (-25) * (m98 * r36) + 1000 * (n103 * r36)).trans (by (try simp only [m262e.out, m118e.out]) <;> omega))
  exact e1 ▸ Int.mul_nonneg k (by omega)
theorem bh_rf31 {m98 n103 r101 m118 m262 r36 g102 d104 w99 : Int} (b_r101 : 0 ≤ r101 ∧ r101 ≤ 999999) (b_r36 : 0 ≤ r36 ∧ r36 ≤ 19) (g102s : (r101 = 0 → g102 = 1000000 ∧ d104 = 1 ∧ 1000000 * n103 = w99) ∧ (d104 = 1 → r101 = 0)) (w99s : 25000 * m98 = w99) (m262e : Hd (m98 * r36 = m262)) (m118e : Hd (n103 * r36 = m118)) : 0 ≤ (-1) * r101 → 0 ≤ (-1000) * m118 + 25 * m262 := fun hc => by
  have k : 0 ≤ 25 * m98 + (-1000) * n103 := by omega
  have e1 : (25 * m98 + (-1000) * n103) * (r36) = (-1000) * m118 + 25 * m262 := ((by simp only [Int.add_mul, Int.mul_add, Int.mul_assoc, Int.mul_comm, Int.mul_left_comm, Int.reduceMul, Int.reduceNeg, Int.mul_one, Int.one_mul] <;> omega : (25 * m98 + (-1000) * n103) * (r36) = 25 * (m98 * r36) + (-1000) * (n103 * r36)).trans (by (try simp only [m262e.out, m118e.out]) <;> omega))
  exact e1 ▸ Int.mul_nonneg k (by omega)
theorem bh_am263 {m37 r97 : Int} (b_m37 : 0 ≤ m37 ∧ m37 ≤ 1367772) (b_r97 : 0 ≤ r97 ∧ r97 ≤ 80) : ∃ m : Int, Hd (m37 * r97 = m) ∧ ((0) * r97 + (0) * m37 - (0) ≤ m) ∧ ((1367772) * r97 + (80) * m37 - (109421760) ≤ m) ∧ (m ≤ (1367772) * r97 + (0) * m37 - (0)) ∧ (m ≤ (0) * r97 + (80) * m37 - (0)) ∧ (0 ≤ m ∧ m ≤ 109421760) := by
  obtain ⟨h1, h2, h3, h4⟩ := mcc (x := m37) (y := r97) b_m37.1 b_m37.2 b_r97.1 b_r97.2
  refine ⟨_, ⟨rfl⟩, ?_, ?_, ?_, ?_, ?_, ?_⟩ <;> omega
theorem bh_rf33 {m38 w44 w6 : Int}  (rf9 : 0 ≤ (-1) * m38 + w44 + (-1) * w6) : 0 ≤ (-1) * m38 + w44 + (-1) * w6 := by omega
theorem bh_rf33_0 {m38 w44 w6 m108 m261 m98 r97 : Int} (b_r97 : 0 ≤ r97 ∧ r97 ≤ 80) (rf33 : 0 ≤ (-1) * m38 + w44 + (-1) * w6) (m261e : Hd (m38 * r97 = m261)) (m108e : Hd (r97 * w44 = m108)) (m98e : Hd (r97 * w6 = m98)) : 0 ≤ m108 + (-1) * m261 + (-1) * m98 := by
  have e1 : ((-1) * m38 + w44 + (-1) * w6) * (r97) = m108 + (-1) * m261 + (-1) * m98 := ((by simp only [Int.add_mul, Int.mul_add, Int.mul_assoc, Int.mul_comm, Int.mul_left_comm, Int.reduceMul, Int.reduceNeg, Int.mul_one, Int.one_mul] <;> omega : ((-1) * m38 + w44 + (-1) * w6) * (r97) = (-1) * (m38 * r97) + r97 * w44 + (-1) * (r97 * w6)).trans (by (try simp only [m261e.out, m108e.out, m98e.out]) <;> omega))
  exact e1 ▸ Int.mul_nonneg (by omega) (by omega)
theorem bh_rf34 {m38 w44 w6 : Int}  (rf10 : 0 ≤ m38 + (-1) * w44 + w6) : 0 ≤ m38 + (-1) * w44 + w6 := by omega
theorem bh_rf34_0 {m38 w44 w6 m108 m261 m98 r97 : Int} (b_r97 : 0 ≤ r97 ∧ r97 ≤ 80) (rf34 : 0 ≤ m38 + (-1) * w44 + w6) (m261e : Hd (m38 * r97 = m261)) (m108e : Hd (r97 * w44 = m108)) (m98e : Hd (r97 * w6 = m98)) : 0 ≤ (-1) * m108 + m261 + m98 := by
  have e1 : (m38 + (-1) * w44 + w6) * (r97) = (-1) * m108 + m261 + m98 := ((by simp only [Int.add_mul, Int.mul_add, Int.mul_assoc, Int.mul_comm, Int.mul_left_comm, Int.reduceMul, Int.reduceNeg, Int.mul_one, Int.one_mul] <;> omega : (m38 + (-1) * w44 + w6) * (r97) = m38 * r97 + (-1) * (r97 * w44) + r97 * w6).trans (by (try simp only [m261e.out, m108e.out, m98e.out]) <;> omega))
  exact e1 ▸ Int.mul_nonneg (by omega) (by omega)
theorem bh_rf35 {m37 m38 w39 w6 : Int}  (rf11 : 0 ≤ (-1) * m37 + (-1) * m38 + w39 + (-1) * w6) : 0 ≤ (-1) * m37 + (-1) * m38 + w39 + (-1) * w6 := by omega
theorem bh_rf35_0 {m37 m38 w39 w6 m114 m261 m263 m98 r97 : Int} (b_r97 : 0 ≤ r97 ∧ r97 ≤ 80) (rf35 : 0 ≤ (-1) * m37 + (-1) * m38 + w39 + (-1) * w6) (m263e : Hd (m37 * r97 = m263)) (m261e : Hd (m38 * r97 = m261)) (m114e : Hd (r97 * w39 = m114)) (m98e : Hd (r97 * w6 = m98)) : 0 ≤ m114 + (-1) * m261 + (-1) * m263 + (-1) * m98 := by
  have e1 : ((-1) * m37 + (-1) * m38 + w39 + (-1) * w6) * (r97) = m114 + (-1) * m261 + (-1) * m263 + (-1) * m98 := ((by simp only [Int.add_mul, Int.mul_add, Int.mul_assoc, Int.mul_comm, Int.mul_left_comm, Int.reduceMul, Int.reduceNeg, Int.mul_one, Int.one_mul] <;> omega : ((-1) * m37 + (-1) * m38 + w39 + (-1) * w6) * (r97) = (-1) * (m37 * r97) + (-1) * (m38 * r97) + r97 * w39 + (-1) * (r97 * w6)).trans (by (try simp only [m263e.out, m261e.out, m114e.out, m98e.out]) <;> omega))
  exact e1 ▸ Int.mul_nonneg (by omega) (by omega)
theorem bh_rf36 {m37 m38 w39 w6 : Int}  (rf12 : 0 ≤ m37 + m38 + (-1) * w39 + w6) : 0 ≤ m37 + m38 + (-1) * w39 + w6 := by omega
theorem bh_rf36_0 {m37 m38 w39 w6 m114 m261 m263 m98 r97 : Int} (b_r97 : 0 ≤ r97 ∧ r97 ≤ 80) (rf36 : 0 ≤ m37 + m38 + (-1) * w39 + w6) (m263e : Hd (m37 * r97 = m263)) (m261e : Hd (m38 * r97 = m261)) (m114e : Hd (r97 * w39 = m114)) (m98e : Hd (r97 * w6 = m98)) : 0 ≤ (-1) * m114 + m261 + m263 + m98 := by
  have e1 : (m37 + m38 + (-1) * w39 + w6) * (r97) = (-1) * m114 + m261 + m263 + m98 := ((by simp only [Int.add_mul, Int.mul_add, Int.mul_assoc, Int.mul_comm, Int.mul_left_comm, Int.reduceMul, Int.reduceNeg, Int.mul_one, Int.one_mul] <;> omega : (m37 + m38 + (-1) * w39 + w6) * (r97) = m37 * r97 + m38 * r97 + (-1) * (r97 * w39) + r97 * w6).trans (by (try simp only [m263e.out, m261e.out, m114e.out, m98e.out]) <;> omega))
  exact e1 ▸ Int.mul_nonneg (by omega) (by omega)
theorem bh_rf37 {q11 r12 w6 : Int}  (q11s : 125 * w6 = 1000 * q11 + r12) : 0 ≤ (-1000) * q11 + (-1) * r12 + 125 * w6 := by omega
theorem bh_am264 {q11 r121 : Int} (b_q11 : 500 ≤ q11 ∧ q11 ≤ 8998) (b_r121 : 0 ≤ r121 ∧ r121 ≤ 16) : ∃ m : Int, Hd (q11 * r121 = m) ∧ ((500) * r121 + (0) * q11 - (0) ≤ m) ∧ ((8998) * r121 + (16) * q11 - (143968) ≤ m) ∧ (m ≤ (8998) * r121 + (0) * q11 - (0)) ∧ (m ≤ (500) * r121 + (16) * q11 - (8000)) ∧ (0 ≤ m ∧ m ≤ 143968) := by
  obtain ⟨h1, h2, h3, h4⟩ := mcc (x := q11) (y := r121) b_q11.1 b_q11.2 b_r121.1 b_r121.2
  refine ⟨_, ⟨rfl⟩, ?_, ?_, ?_, ?_, ?_, ?_⟩ <;> omega
theorem bh_am265 {r12 r121 : Int} (b_r12 : 0 ≤ r12 ∧ r12 ≤ 999) (b_r121 : 0 ≤ r121 ∧ r121 ≤ 16) : ∃ m : Int, Hd (r12 * r121 = m) ∧ ((0) * r121 + (0) * r12 - (0) ≤ m) ∧ ((999) * r121 + (16) * r12 - (15984) ≤ m) ∧ (m ≤ (999) * r121 + (0) * r12 - (0)) ∧ (m ≤ (0) * r121 + (16) * r12 - (0)) ∧ (0 ≤ m ∧ m ≤ 15984) := by
  obtain ⟨h1, h2, h3, h4⟩ := mcc (x := r12) (y := r121) b_r12.1 b_r12.2 b_r121.1 b_r121.2
  refine ⟨_, ⟨rfl⟩, ?_, ?_, ?_, ?_, ?_, ?_⟩ <;> omega
theorem bh_rf37_0 {q11 r12 w6 m122 m264 m265 r121 : Int} (b_r121 : 0 ≤ r121 ∧ r121 ≤ 16) (rf37 : 0 ≤ (-1000) * q11 + (-1) * r12 + 125 * w6) (m264e : Hd (q11 * r121 = m264)) (m265e : Hd (r12 * r121 = m265)) (m122e : Hd (r121 * w6 = m122)) : 0 ≤ 125 * m122 + (-1000) * m264 + (-1) * m265 := by
  have e1 : ((-1000) * q11 + (-1) * r12 + 125 * w6) * (r121) = 125 * m122 + (-1000) * m264 + (-1) * m265 := ((by simp only [Int.add_mul, Int.mul_add, Int.mul_assoc, Int.mul_comm, Int.mul_left_comm, Int.reduceMul, Int.reduceNeg, Int.mul_one, Int.one_mul] <;> omega : ((-1000) * q11 + (-1) * r12 + 125 * w6) * (r121) = (-1000) * (q11 * r121) + (-1) * (r12 * r121) + 125 * (r121 * w6)).trans (by (try simp only [m264e.out, m265e.out, m122e.out]) <;> omega))
  exact e1 ▸ Int.mul_nonneg (by omega) (by omega)
theorem bh_rf38 {q11 r12 w6 : Int}  (q11s : 125 * w6 = 1000 * q11 + r12) : 0 ≤ 1000 * q11 + r12 + (-125) * w6 := by omega
theorem bh_rf38_0 {q11 r12 w6 m122 m264 m265 r121 : Int} (b_r121 : 0 ≤ r121 ∧ r121 ≤ 16) (rf38 : 0 ≤ 1000 * q11 + r12 + (-125) * w6) (m264e : Hd (q11 * r121 = m264)) (m265e : Hd (r12 * r121 = m265)) (m122e : Hd (r121 * w6 = m122)) : 0 ≤ (-125) * m122 + 1000 * m264 + m265 := by
  have e1 : (1000 * q11 + r12 + (-125) * w6) * (r121) = (-125) * m122 + 1000 * m264 + m265 := ((by simp only [Int.add_mul, Int.mul_add, Int.mul_assoc, Int.mul_comm, Int.mul_left_comm, Int.reduceMul, Int.reduceNeg, Int.mul_one, Int.one_mul] <;> omega : (1000 * q11 + r12 + (-125) * w6) * (r121) = 1000 * (q11 * r121) + r12 * r121 + (-125) * (r121 * w6)).trans (by (try simp only [m264e.out, m265e.out, m122e.out]) <;> omega))
  exact e1 ▸ Int.mul_nonneg (by omega) (by omega)
theorem bh_am266 {m122 x7 : Int} (b_m122 : 0 ≤ m122 ∧ m122 ≤ 1151808) (b_x7 : 0 ≤ x7 ∧ x7 ≤ 255) : ∃ m : Int, Hd (m122 * x7 = m) ∧ ((0) * x7 + (0) * m122 - (0) ≤ m) ∧ ((1151808) * x7 + (255) * m122 - (293711040) ≤ m) ∧ (m ≤ (1151808) * x7 + (0) * m122 - (0)) ∧ (m ≤ (0) * x7 + (255) * m122 - (0)) ∧ (0 ≤ m ∧ m ≤ 293711040) := by
  obtain ⟨h1, h2, h3, h4⟩ := mcc (x := m122) (y := x7) b_m122.1 b_m122.2 b_x7.1 b_x7.2
  refine ⟨_, ⟨rfl⟩, ?_, ?_, ?_, ?_, ?_, ?_⟩ <;> omega
theorem bh_rf39 {m122 n127 r125 m136 m266 x7 g126 d128 w123 : Int} (b_r125 : 0 ≤ r125 ∧ r125 ≤ 999999) (b_x7 : 0 ≤ x7 ∧ x7 ≤ 255) (g126s : (r125 = 0 → g126 = 1000000 ∧ d128 = 1 ∧ 1000000 * n127 = w123) ∧ (d128 = 1 → r125 = 0)) (w123s : 125000 * m122 = w123) (m266e : Hd (m122 * x7 = m266)) (m136e : Hd (n127 * x7 = m136)) : 0 ≤ (-1) * r125 → 0 ≤ 1000 * m136 + (-125) * m266 := fun hc => by
  have k : 0 ≤ (-125) * m122 + 1000 * n127 := by omega
  have e1 : ((-125) * m122 + 1000 * n127) * (x7) = 1000 * m136 + (-125) * m266 := ((by simp only [Int.add_mul, Int.mul_add, Int.mul_assoc, Int.mul_comm, Int.mul_left_comm, Int.reduceMul, Int.reduceNeg, Int.mul_one, Int.one_mul] <;> omega : ((-125) * m122 + 1000 * n127) * (x7) = (-125) * (m122 * x7) + 1000 * (n127 * x7)).trans (by (try simp only [m266e.out, m136e.out]) <;> omega))
  exact e1 ▸ Int.mul_nonneg k (by omega)
theorem bh_rf40 {m122 n127 r125 m136 m266 x7 g126 d128 w123 : Int} (b_r125 : 0 ≤ r125 ∧ r125 ≤ 999999) (b_x7 : 0 ≤ x7 ∧ x7 ≤ 255) (g126s : (r125 = 0 → g126 = 1000000 ∧ d128 = 1 ∧ 1000000 * n127 = w123) ∧ (d128 = 1 → r125 = 0)) (w123s : 125000 * m122 = w123) (m266e : Hd (m122 * x7 = m266)) (m136e : Hd (n127 * x7 = m136)) : 0 ≤ (-1) * r125 → 0 ≤ (-1000) * m136 + 125 * m266 := fun hc => by
  have k : 0 ≤ 125 * m122 + (-1000) * n127 := by omega
  have e1 : (125 * m122 + (-1000) * n127) * (x7) = (-1000) * m136 + 125 * m266 := ((by simp only [Int.add_mul, Int.mul_add, Int.mul_assoc, Int.mul_comm, Int.mul_left_comm, Int.reduceMul, Int.reduceNeg, Int.mul_one, Int.one_mul] <;> omega : (125 * m122 + (-1000) * n127) * (x7) = 125 * (m122 * x7) + (-1000) * (n127 * x7)).trans (by (try simp only [m266e.out, m136e.out]) <;> omega))
  exact e1 ▸ Int.mul_nonneg k (by omega)
theorem bh_am267 {m38 r121 : Int} (b_m38 : 0 ≤ m38 ∧ m38 ≤ 18356940) (b_r121 : 0 ≤ r121 ∧ r121 ≤ 16) : ∃ m : Int, Hd (m38 * r121 = m) ∧ ((0) * r121 + (0) * m38 - (0) ≤ m) ∧ ((18356940) * r121 + (16) * m38 - (293711040) ≤ m) ∧ (m ≤ (18356940) * r121 + (0) * m38 - (0)) ∧ (m ≤ (0) * r121 + (16) * m38 - (0)) ∧ (0 ≤ m ∧ m ≤ 293711040) := by
  obtain ⟨h1, h2, h3, h4⟩ := mcc (x := m38) (y := r121) b_m38.1 b_m38.2 b_r121.1 b_r121.2
  refine ⟨_, ⟨rfl⟩, ?_, ?_, ?_, ?_, ?_, ?_⟩ <;> omega
theorem bh_am268 {m122 r36 : Int} (b_m122 : 0 ≤ m122 ∧ m122 ≤ 1151808) (b_r36 : 0 ≤ r36 ∧ r36 ≤ 19) : ∃ m : Int, Hd (m122 * r36 = m) ∧ ((0) * r36 + (0) * m122 - (0) ≤ m) ∧ ((1151808) * r36 + (19) * m122 - (21884352) ≤ m) ∧ (m ≤ (1151808) * r36 + (0) * m122 - (0)) ∧ (m ≤ (0) * r36 + (19) * m122 - (0)) ∧ (0 ≤ m ∧ m ≤ 21884352) := by
  obtain ⟨h1, h2, h3, h4⟩ := mcc (x := m122) (y := r36) b_m122.1 b_m122.2 b_r36.1 b_r36.2
  refine ⟨_, ⟨rfl⟩, ?_, ?_, ?_, ?_, ?_, ?_⟩ <;> omega
theorem bh_rf42 {m122 n127 r125 m142 m268 r36 g126 d128 w123 : Int} (b_r125 : 0 ≤ r125 ∧ r125 ≤ 999999) (b_r36 : 0 ≤ r36 ∧ r36 ≤ 19) (g126s : (r125 = 0 → g126 = 1000000 ∧ d128 = 1 ∧ 1000000 * n127 = w123) ∧ (d128 = 1 → r125 = 0)) (w123s : 125000 * m122 = w123) (m268e : Hd (m122 * r36 = m268)) (m142e : Hd (n127 * r36 = m142)) : 0 ≤ (-1) * r125 → 0 ≤ 1000 * m142 + (-125) * m268 := fun hc => by
  have k : 0 ≤ (-125) * m122 + 1000 * n127 := by omega
  have e1 : ((-125) * m122 + 1000 * n127) * (r36) = 1000 * m142 + (-125) * m268 := ((by simp only [Int.add_mul, Int.mul_add, Int.mul_assoc, Int.mul_comm, Int.mul_left_comm, Int.reduceMul, Int.reduceNeg, Int.mul_one, Int.one_mul] <;> omega : ((-125) * m122 + 1000 * n127) * (r36) = (-125) * (m122 * r36) + 1000 * (n127 * r36)).trans (by (try simp only [m268e.out, m142e.out]) <;> omega))
  exact e1 ▸ Int.mul_nonneg k (by omega)
theorem bh_rf43 {m122 n127 r125 m142 m268 r36 g126 d128 w123 : Int} (b_r125 : 0 ≤ r125 ∧ r125 ≤ 999999) (b_r36 : 0 ≤ r36 ∧ r36 ≤ 19) (g126s : (r125 = 0 → g126 = 1000000 ∧ d128 = 1 ∧ 1000000 * n127 = w123) ∧ (d128 = 1 → r125 = 0)) (w123s : 125000 * m122 = w123) (m268e : Hd (m122 * r36 = m268)) (m142e : Hd (n127 * r36 = m142)) : 0 ≤ (-1) * r125 → 0 ≤ (-1000) * m142 + 125 * m268 := fun hc => by
  have k : 0 ≤ 125 * m122 + (-1000) * n127 := by omega
  have e1 : (125 * m122 + (-1000) * n127) * (r36) = (-1000) * m142 + 125 * m268 := ((by simp only [Int.add_mul, Int.mul_add, Int.mul_assoc, Int.mul_comm, Int.mul_left_comm, Int.reduceMul, Int.reduceNeg, Int.mul_one, Int.one_mul] <;> omega : (125 * m122 + (-1000) * n127) * (r36) = 125 * (m122 * r36) + (-1000) * (n127 * r36)).trans (by (try simp only [m268e.out, m142e.out]) <;> omega))
  exact e1 ▸ Int.mul_nonneg k (by omega)
theorem bh_am269 {m37 r121 : Int} (b_m37 : 0 ≤ m37 ∧ m37 ≤ 1367772) (b_r121 : 0 ≤ r121 ∧ r121 ≤ 16) : ∃ m : Int, Hd (m37 * r121 = m) ∧ ((0) * r121 + (0) * m37 - (0) ≤ m) ∧ ((1367772) * r121 + (16) * m37 - (21884352) ≤ m) ∧ (m ≤ (1367772) * r121 + (0) * m37 - (0)) ∧ (m ≤ (0) * r121 + (16) * m37 - (0)) ∧ (0 ≤ m ∧ m ≤ 21884352) := by
  obtain ⟨h1, h2, h3, h4⟩ := mcc (x := m37) (y := r121) b_m37.1 b_m37.2 b_r121.1 b_r121.2
  refine ⟨_, ⟨rfl⟩, ?_, ?_, ?_, ?_, ?_, ?_⟩ <;> omega
theorem bh_rf45 {m38 w44 w6 : Int}  (rf9 : 0 ≤ (-1) * m38 + w44 + (-1) * w6) : 0 ≤ (-1) * m38 + w44 + (-1) * w6 := by omega
theorem bh_rf45_0 {m38 w44 w6 m122 m132 m267 r121 : Int} (b_r121 : 0 ≤ r121 ∧ r121 ≤ 16) (rf45 : 0 ≤ (-1) * m38 + w44 + (-1) * w6) (m267e : Hd (m38 * r121 = m267)) (m132e : Hd (r121 * w44 = m132)) (m122e : Hd (r121 * w6 = m122)) : 0 ≤ (-1) * m122 + m132 + (-1) * m267 := by
  have e1 : ((-1) * m38 + w44 + (-1) * w6) * (r121) = (-1) * m122 + m132 + (-1) * m267 := ((by simp only [Int.add_mul, Int.mul_add, Int.mul_assoc, Int.mul_comm, Int.mul_left_comm, Int.reduceMul, Int.reduceNeg, Int.mul_one, Int.one_mul] <;> omega : ((-1) * m38 + w44 + (-1) * w6) * (r121) = (-1) * (m38 * r121) + r121 * w44 + (-1) * (r121 * w6)).trans (by (try simp only [m267e.out, m132e.out, m122e.out]) <;> omega))
  exact e1 ▸ Int.mul_nonneg (by omega) (by omega)
theorem bh_rf46 {m38 w44 w6 : Int}  (rf10 : 0 ≤ m38 + (-1) * w44 + w6) : 0 ≤ m38 + (-1) * w44 + w6 := by omega
theorem bh_rf46_0 {m38 w44 w6 m122 m132 m267 r121 : Int} (b_r121 : 0 ≤ r121 ∧ r121 ≤ 16) (rf46 : 0 ≤ m38 + (-1) * w44 + w6) (m267e : Hd (m38 * r121 = m267)) (m132e : Hd (r121 * w44 = m132)) (m122e : Hd (r121 * w6 = m122)) : 0 ≤ m122 + (-1) * m132 + m267 := by
  have e1 : (m38 + (-1) * w44 + w6) * (r121) = m122 + (-1) * m132 + m267 := ((by simp only [Int.add_mul, Int.mul_add, Int.mul_assoc, Int.mul_comm, Int.mul_left_comm, Int.reduceMul, Int.reduceNeg, Int.mul_one, Int.one_mul] <;> omega : (m38 + (-1) * w44 + w6) * (r121) = m38 * r121 + (-1) * (r121 * w44) + r121 * w6).trans (by (try simp only [m267e.out, m132e.out, m122e.out]) <;> omega))
  exact e1 ▸ Int.mul_nonneg (by omega) (by omega)
theorem bh_rf47 {m37 m38 w39 w6 : Int}  (rf11 : 0 ≤ (-1) * m37 + (-1) * m38 + w39 + (-1) * w6) : 0 ≤ (-1) * m37 + (-1) * m38 + w39 + (-1) * w6 := by omega
theorem bh_rf47_0 {m37 m38 w39 w6 m122 m138 m267 m269 r121 : Int} (b_r121 : 0 ≤ r121 ∧ r121 ≤ 16) (rf47 : 0 ≤ (-1) * m37 + (-1) * m38 + w39 + (-1) * w6) (m269e : Hd (m37 * r121 = m269)) (m267e : Hd (m38 * r121 = m267)) (m138e : Hd (r121 * w39 = m138)) (m122e : Hd (r121 * w6 = m122)) : 0 ≤ (-1) * m122 + m138 + (-1) * m267 + (-1) * m269 := by
  have e1 : ((-1) * m37 + (-1) * m38 + w39 + (-1) * w6) * (r121) = (-1) * m122 + m138 + (-1) * m267 + (-1) * m269 := ((by simp only [Int.add_mul, Int.mul_add, Int.mul_assoc, Int.mul_comm, Int.mul_left_comm, Int.reduceMul, Int.reduceNeg, Int.mul_one, Int.one_mul] <;> omega : ((-1) * m37 + (-1) * m38 + w39 + (-1) * w6) * (r121) = (-1) * (m37 * r121) + (-1) * (m38 * r121) + r121 * w39 + (-1) * (r121 * w6)).trans (by (try simp only [m269e.out, m267e.out, m138e.out, m122e.out]) <;> omega))
  exact e1 ▸ Int.mul_nonneg (by omega) (by omega)
theorem bh_rf48 {m37 m38 w39 w6 : Int}  (rf12 : 0 ≤ m37 + m38 + (-1) * w39 + w6) : 0 ≤ m37 + m38 + (-1) * w39 + w6 := by omega
theorem bh_rf48_0 {m37 m38 w39 w6 m122 m138 m267 m269 r121 : Int} (b_r121 : 0 ≤ r121 ∧ r121 ≤ 16) (rf48 : 0 ≤ m37 + m38 + (-1) * w39 + w6) (m269e : Hd (m37 * r121 = m269)) (m267e : Hd (m38 * r121 = m267)) (m138e : Hd (r121 * w39 = m138)) (m122e : Hd (r121 * w6 = m122)) : 0 ≤ m122 + (-1) * m138 + m267 + m269 := by
  have e1 : (m37 + m38 + (-1) * w39 + w6) * (r121) = m122 + (-1) * m138 + m267 + m269 := ((by simp only [Int.add_mul, Int.mul_add, Int.mul_assoc, Int.mul_comm, Int.mul_left_comm, Int.reduceMul, Int.reduceNeg, Int.mul_one, Int.one_mul] <;> omega : (m37 + m38 + (-1) * w39 + w6) * (r121) = m37 * r121 + m38 * r121 + (-1) * (r121 * w39) + r121 * w6).trans (by (try simp only [m269e.out, m267e.out, m138e.out, m122e.out]) <;> omega))
  exact e1 ▸ Int.mul_nonneg (by omega) (by omega)
theorem bh_rf49 {q148 r149 w6 : Int}  (q148s : 2 * w6 = 1000 * q148 + r149) : 0 ≤ (-1000) * q148 + (-1) * r149 + 2 * w6 := by omega
theorem bh_am270 {q148 r151 : Int} (b_q148 : 8 ≤ q148 ∧ q148 ≤ 143) (b_r151 : 0 ≤ r151 ∧ r151 ≤ 1000) : ∃ m : Int, Hd (q148 * r151 = m) ∧ ((8) * r151 + (0) * q148 - (0) ≤ m) ∧ ((143) * r151 + (1000) * q148 - (143000) ≤ m) ∧ (m ≤ (143) * r151 + (0) * q148 - (0)) ∧ (m ≤ (8) * r151 + (1000) * q148 - (8000)) ∧ (0 ≤ m ∧ m ≤ 143000) := by
  obtain ⟨h1, h2, h3, h4⟩ := mcc (x := q148) (y := r151) b_q148.1 b_q148.2 b_r151.1 b_r151.2
  refine ⟨_, ⟨rfl⟩, ?_, ?_, ?_, ?_, ?_, ?_⟩ <;> omega
theorem bh_am271 {r149 r151 : Int} (b_r149 : 0 ≤ r149 ∧ r149 ≤ 999) (b_r151 : 0 ≤ r151 ∧ r151 ≤ 1000) : ∃ m : Int, Hd (r149 * r151 = m) ∧ ((0) * r151 + (0) * r149 - (0) ≤ m) ∧ ((999) * r151 + (1000) * r149 - (999000) ≤ m) ∧ (m ≤ (999) * r151 + (0) * r149 - (0)) ∧ (m ≤ (0) * r151 + (1000) * r149 - (0)) ∧ (0 ≤ m ∧ m ≤ 999000) := by
  obtain ⟨h1, h2, h3, h4⟩ := mcc (x := r149) (y := r151) b_r149.1 b_r149.2 b_r151.1 b_r151.2
  refine ⟨_, ⟨rfl⟩, ?_, ?_, ?_, ?_, ?_, ?_⟩ <;> omega
theorem bh_rf49_0 {q148 r149 w6 m152 m270 m271 r151 : Int} (b_r151 : 0 ≤ r151 ∧ r151 ≤ 1000) (rf49 : 0 ≤ (-1000) * q148 + (-1) * r149 + 2 * w6) (m270e : Hd (q148 * r151 = m270)) (m271e : Hd (r149 * r151 = m271)) (m152e : Hd (r151 * w6 = m152)) : 0 ≤ 2 * m152 + (-1000) * m270 + (-1) * m271 := by
  have e1 : ((-1000) * q148 + (-1) * r149 + 2 * w6) * (r151) = 2 * m152 + (-1000) * m270 + (-1) * m271 := ((by simp only [Int.add_mul, Int.mul_add, Int.mul_assoc, Int.mul_comm, Int.mul_left_comm, Int.reduceMul, Int.reduceNeg, Int.mul_one, Int.one_mul] <;> omega : ((-1000) * q148 + (-1) * r149 + 2 * w6) * (r151) = (-1000) * (q148 * r151) + (-1) * (r149 * r151) + 2 * (r151 * w6)).trans (by (try simp only [m270e.out, m271e.out, m152e.out]) <;> omega))
  exact e1 ▸ Int.mul_nonneg (by omega) (by omega)
theorem bh_rf50 {q148 r149 w6 : Int}  (q148s : 2 * w6 = 1000 * q148 + r149) : 0 ≤ 1000 * q148 + r149 + (-2) * w6 := by omega
theorem bh_rf50_0 {q148 r149 w6 m152 m270 m271 r151 : Int} (b_r151 : 0 ≤ r151 ∧ r151 ≤ 1000) (rf50 : 0 ≤ 1000 * q148 + r149 + (-2) * w6) (m270e : Hd (q148 * r151 = m270)) (m271e : Hd (r149 * r151 = m271)) (m152e : Hd (r151 * w6 = m152)) : 0 ≤ (-2) * m152 + 1000 * m270 + m271 := by
  have e1 : (1000 * q148 + r149 + (-2) * w6) * (r151) = (-2) * m152 + 1000 * m270 + m271 := ((by simp only [Int.add_mul, Int.mul_add, Int.mul_assoc, Int.mul_comm, Int.mul_left_comm, Int.reduceMul, Int.reduceNeg, Int.mul_one, Int.one_mul] <;> omega : (1000 * q148 + r149 + (-2) * w6) * (r151) = 1000 * (q148 * r151) + r149 * r151 + (-2) * (r151 * w6)).trans (by (try simp only [m270e.out, m271e.out, m152e.out]) <;> omega))
  exact e1 ▸ Int.mul_nonneg (by omega) (by omega)
theorem bh_am272 {m152 x7 : Int} (b_m152 : 0 ≤ m152 ∧ m152 ≤ 71988000) (b_x7 : 0 ≤ x7 ∧ x7 ≤ 255) : ∃ m : Int, Hd (m152 * x7 = m) ∧ ((0) * x7 + (0) * m152 - (0) ≤ m) ∧ ((71988000) * x7 + (255) * m152 - (18356940000) ≤ m) ∧ (m ≤ (71988000) * x7 + (0) * m152 - (0)) ∧ (m ≤ (0) * x7 + (255) * m152 - (0)) ∧ (0 ≤ m ∧ m ≤ 18356940000) := by
  obtain ⟨h1, h2, h3, h4⟩ := mcc (x := m152) (y := x7) b_m152.1 b_m152.2 b_x7.1 b_x7.2
  refine ⟨_, ⟨rfl⟩, ?_, ?_, ?_, ?_, ?_, ?_⟩ <;> omega
theorem bh_rf51 {m152 n157 r155 m166 m272 x7 g156 d158 w153 : Int} (b_r155 : 0 ≤ r155 ∧ r155 ≤ 999999) (b_x7 : 0 ≤ x7 ∧ x7 ≤ 255) (g156s : (r155 = 0 → g156 = 1000000 ∧ d158 = 1 ∧ 1000000 * n157 = w153) ∧ (d158 = 1 → r155 = 0)) (w153s : 2000 * m152 = w153) (m272e : Hd (m152 * x7 = m272)) (m166e : Hd (n157 * x7 = m166)) : 0 ≤ (-1) * r155 → 0 ≤ 1000 * m166 + (-2) * m272 := fun hc => by
  have k : 0 ≤ (-2) * m152 + 1000 * n157 := by omega
  have e1 : ((-2) * m152 + 1000 * n157) * (x7) = 1000 * m166 + (-2) * m272 := ((by simp only [Int.add_mul, Int.mul_add, Int.mul_assoc, Int.mul_comm, Int.mul_left_comm, Int.reduceMul, Int.reduceNeg, Int.mul_one, Int.one_mul] <;> omega : ((-2) * m152 + 1000 * n157) * (x7) = (-2) * (m152 * x7) + 1000 * (n157 * x7)).trans (by (try simp only [m272e.out, m166e.out]) <;> omega))
  exact e1 ▸ Int.mul_nonneg k (by omega)
theorem bh_rf52 {m152 n157 r155 m166 m272 x7 g156 d158 w153 : Int} (b_r155 : 0 ≤ r155 ∧ r155 ≤ 999999) (b_x7 : 0 ≤ x7 ∧ x7 ≤ 255) (g156s : (r155 = 0 → g156 = 1000000 ∧ d158 = 1 ∧ 1000000 * n157 = w153) ∧ (d158 = 1 → r155 = 0)) (w153s : 2000 * m152 = w153) (m272e : Hd (m152 * x7 = m272)) (m166e : Hd (n157 * x7 = m166)) : 0 ≤ (-1) * r155 → 0 ≤ (-1000) * m166 + 2 * m272 := fun hc => by
  have k : 0 ≤ 2 * m152 + (-1000) * n157 := by omega
  have e1 : (2 * m152 + (-1000) * n157) * (x7) = (-1000) * m166 + 2 * m272 := ((by simp only [Int.add_mul, Int.mul_add, Int.mul_assoc, Int.mul_comm, Int.mul_left_comm, Int.reduceMul, Int.reduceNeg, Int.mul_one, Int.one_mul] <;> omega : (2 * m152 + (-1000) * n157) * (x7) = 2 * (m152 * x7) + (-1000) * (n157 * x7)).trans (by (try simp only [m272e.out, m166e.out]) <;> omega))
  exact e1 ▸ Int.mul_nonneg k (by omega)
theorem bh_am273 {m38 r151 : Int} (b_m38 : 0 ≤ m38 ∧ m38 ≤ 18356940) (b_r151 : 0 ≤ r151 ∧ r151 ≤ 1000) : ∃ m : Int, Hd (m38 * r151 = m) ∧ ((0) * r151 + (0) * m38 - (0) ≤ m) ∧ ((18356940) * r151 + (1000) * m38 - (18356940000) ≤ m) ∧ (m ≤ (18356940) * r151 + (0) * m38 - (0)) ∧ (m ≤ (0) * r151 + (1000) * m38 - (0)) ∧ (0 ≤ m ∧ m ≤ 18356940000) := by
  obtain ⟨h1, h2, h3, h4⟩ := mcc (x := m38) (y := r151) b_m38.1 b_m38.2 b_r151.1 b_r151.2
  refine ⟨_, ⟨rfl⟩, ?_, ?_, ?_, ?_, ?_, ?_⟩ <;> omega
theorem bh_am274 {m152 r36 : Int} (b_m152 : 0 ≤ m152 ∧ m152 ≤ 71988000) (b_r36 : 0 ≤ r36 ∧ r36 ≤ 19) : ∃ m : Int, Hd (m152 * r36 = m) ∧ ((0) * r36 + (0) * m152 - (0) ≤ m) ∧ ((71988000) * r36 + (19) * m152 - (1367772000) ≤ m) ∧ (m ≤ (71988000) * r36 + (0) * m152 - (0)) ∧ (m ≤ (0) * r36 + (19) * m152 - (0)) ∧ (0 ≤ m ∧ m ≤ 1367772000) := by
  obtain ⟨h1, h2, h3, h4⟩ := mcc (x := m152) (y := r36) b_m152.1 b_m152.2 b_r36.1 b_r36.2
  refine ⟨_, ⟨rfl⟩, ?_, ?_, ?_, ?_, ?_, ?_⟩ <;> omega
theorem bh_rf54 {m152 n157 r155 m172 m274 r36 g156 d158 w153 : Int} (b_r155 : 0 ≤ r155 ∧ r155 ≤ 999999) (b_r36 : 0 ≤ r36 ∧ r36 ≤ 19) (g156s : (r155 = 0 → g156 = 1000000 ∧ d158 = 1 ∧ 1000000 * n157 = w153) ∧ (d158 = 1 → r155 = 0)) (w153s : 2000 * m152 = w153) (m274e : Hd (m152 * r36 = m274)) (m172e : Hd (n157 * r36 = m172)) : 0 ≤ (-1) * r155 → 0 ≤ 1000 * m172 + (-2) * m274 := fun hc => by
  have k : 0 ≤ (-2) * m152 + 1000 * n157 := by omega
  have e1 : ((-2) * m152 + 1000 * n157) * (r36) = 1000 * m172 + (-2) * m274 := ((by simp only [Int.add_mul, Int.mul_add, Int.mul_assoc, Int.mul_comm, Int.mul_left_comm, Int.reduceMul, Int.reduceNeg, Int.mul_one, Int.one_mul] <;> omega : ((-2) * m152 + 1000 * n157) * (r36) = (-2) * (m152 * r36) + 1000 * (n157 * r36)).trans (by (try simp only [m274e.out, m172e.out]) <;> omega))
  exact e1 ▸ Int.mul_nonneg k (by omega)
theorem bh_rf55 {m152 n157 r155 m172 m274 r36 g156 d158 w153 : Int} (b_r155 : 0 ≤ r155 ∧ r155 ≤ 999999) (b_r36 : 0 ≤ r36 ∧ r36 ≤ 19) (g156s : (r155 = 0 → g156 = 1000000 ∧ d158 = 1 ∧ 1000000 * n157 = w153) ∧ (d158 = 1 → r155 = 0)) (w153s : 2000 * m152 = w153) (m274e : Hd (m152 * r36 = m274)) (m172e : Hd (n157 * r36 = m172)) : 0 ≤ (-1) * r155 → 0 ≤ (-1000) * m172 + 2 * m274 := fun hc => by
  have k : 0 ≤ 2 * m152 + (-1000) * n157 := by omega
  have e1 : (2 * m152 + (-1000) * n157) * (r36) = (-1000) * m172 + 2 * m274 := ((by simp only [Int.add_mul, Int.mul_add, Int.mul_assoc, Int.mul_comm, Int.mul_left_comm, Int.reduceMul, Int.reduceNeg, Int.mul_one, Int.one_mul] <;> omega : (2 * m152 + (-1000) * n157) * (r36) = 2 * (m152 * r36) + (-1000) * (n157 * r36)).trans (by (try simp only [m274e.out, m172e.out]) <;> omega))
  exact e1 ▸ Int.mul_nonneg k (by omega)
theorem bh_am275 {m37 r151 : Int} (b_m37 : 0 ≤ m37 ∧ m37 ≤ 1367772) (b_r151 : 0 ≤ r151 ∧ r151 ≤ 1000) : ∃ m : Int, Hd (m37 * r151 = m) ∧ ((0) * r151 + (0) * m37 - (0) ≤ m) ∧ ((1367772) * r151 + (1000) * m37 - (1367772000) ≤ m) ∧ (m ≤ (1367772) * r151 + (0) * m37 - (0)) ∧ (m ≤ (0) * r151 + (1000) * m37 - (0)) ∧ (0 ≤ m ∧ m ≤ 1367772000) := by
  obtain ⟨h1, h2, h3, h4⟩ := mcc (x := m37) (y := r151) b_m37.1 b_m37.2 b_r151.1 b_r151.2
  refine ⟨_, ⟨rfl⟩, ?_, ?_, ?_, ?_, ?_, ?_⟩ <;> omega
theorem bh_rf57 {m38 w44 w6 : Int}  (rf9 : 0 ≤ (-1) * m38 + w44 + (-1) * w6) : 0 ≤ (-1) * m38 + w44 + (-1) * w6 := by omega
theorem bh_rf57_0 {m38 w44 w6 m152 m162 m273 r151 : Int} (b_r151 : 0 ≤ r151 ∧ r151 ≤ 1000) (rf57 : 0 ≤ (-1) * m38 + w44 + (-1) * w6) (m273e : Hd (m38 * r151 = m273)) (m162e : Hd (r151 * w44 = m162)) (m152e : Hd (r151 * w6 = m152)) : 0 ≤ (-1) * m152 + m162 + (-1) * m273 := by
  have e1 : ((-1) * m38 + w44 + (-1) * w6) * (r151) = (-1) * m152 + m162 + (-1) * m273 := ((by simp only [Int.add_mul, Int.mul_add, Int.mul_assoc, Int.mul_comm, Int.mul_left_comm, Int.reduceMul, Int.reduceNeg, Int.mul_one, Int.one_mul] <;> omega : ((-1) * m38 + w44 + (-1) * w6) * (r151) = (-1) * (m38 * r151) + r151 * w44 + (-1) * (r151 * w6)).trans (by (try simp only [m273e.out, m162e.out, m152e.out]) <;> omega))
  exact e1 ▸ Int.mul_nonneg (by omega) (by omega)
theorem bh_rf58 {m38 w44 w6 : Int}  (rf10 : 0 ≤ m38 + (-1) * w44 + w6) : 0 ≤ m38 + (-1) * w44 + w6 := by omega
theorem bh_rf58_0 {m38 w44 w6 m152 m162 m273 r151 : Int} (b_r151 : 0 ≤ r151 ∧ r151 ≤ 1000) (rf58 : 0 ≤ m38 + (-1) * w44 + w6) (m273e : Hd (m38 * r151 = m273)) (m162e : Hd (r151 * w44 = m162)) (m152e : Hd (r151 * w6 = m152)) : 0 ≤ m152 + (-1) * m162 + m273 := by
  have e1 : (m38 + (-1) * w44 + w6) * (r151) = m152 + (-1) * m162 + m273 := ((by simp only [Int.add_mul, Int.mul_add, Int.mul_assoc, Int.mul_comm, Int.mul_left_comm, Int.reduceMul, Int.reduceNeg, Int.mul_one, Int.one_mul] <;> omega : (m38 + (-1) * w44 + w6) * (r151) = m38 * r151 + (-1) * (r151 * w44) + r151 * w6).trans (by (try simp only [m273e.out, m162e.out, m152e.out]) <;> omega))
  exact e1 ▸ Int.mul_nonneg (by omega) (by omega)
theorem bh_rf59 {m37 m38 w39 w6 : Int}  (rf11 : 0 ≤ (-1) * m37 + (-1) * m38 + w39 + (-1) * w6) : 0 ≤ (-1) * m37 + (-1) * m38 + w39 + (-1) * w6 := by omega
theorem bh_rf59_0 {m37 m38 w39 w6 m152 m168 m273 m275 r151 : Int} (b_r151 : 0 ≤ r151 ∧ r151 ≤ 1000) (rf59 : 0 ≤ (-1) * m37 + (-1) * m38 + w39 + (-1) * w6) (m275e : Hd (m37 * r151 = m275)) (m273e : Hd (m38 * r151 = m273)) (m168e : Hd (r151 * w39 = m168)) (m152e : Hd (r151 * w6 = m152)) : 0 ≤ (-1) * m152 + m168 + (-1) * m273 + (-1) * m275 := by
  have e1 : ((-1) * m37 + (-1) * m38 + w39 + (-1) * w6) * (r151) = (-1) * m152 + m168 + (-1) * m273 + (-1) * m275 := ((by simp only [Int.add_mul, Int.mul_add, Int.mul_assoc, Int.mul_comm, Int.mul_left_comm, Int.reduceMul, Int.reduceNeg, Int.mul_one, Int.one_mul] <;> omega : ((-1) * m37 + (-1) * m38 + w39 + (-1) * w6) * (r151) = (-1) * (m37 * r151) + (-1) * (m38 * r151) + r151 * w39 + (-1) * (r151 * w6)).trans (by (try simp only [m275e.out, m273e.out, m168e.out, m152e.out]) <;> omega))
  exact e1 ▸ Int.mul_nonneg (by omega) (by omega)
theorem bh_rf60 {m37 m38 w39 w6 : Int}  (rf12 : 0 ≤ m37 + m38 + (-1) * w39 + w6) : 0 ≤ m37 + m38 + (-1) * w39 + w6 := by omega
theorem bh_rf60_0 {m37 m38 w39 w6 m152 m168 m273 m275 r151 : Int} (b_r151 : 0 ≤ r151 ∧ r151 ≤ 1000) (rf60 : 0 ≤ m37 + m38 + (-1) * w39 + w6) (m275e : Hd (m37 * r151 = m275)) (m273e : Hd (m38 * r151 = m273)) (m168e : Hd (r151 * w39 = m168)) (m152e : Hd (r151 * w6 = m152)) : 0 ≤ m152 + (-1) * m168 + m273 + m275 := by
  have e1 : (m37 + m38 + (-1) * w39 + w6) * (r151) = m152 + (-1) * m168 + m273 + m275 := ((by simp only [Int.add_mul, Int.mul_add, Int.mul_assoc, Int.mul_comm, Int.mul_left_comm, Int.reduceMul, Int.reduceNeg, Int.mul_one, Int.one_mul] <;> omega : (m37 + m38 + (-1) * w39 + w6) * (r151) = m37 * r151 + m38 * r151 + (-1) * (r151 * w39) + r151 * w6).trans (by (try simp only [m275e.out, m273e.out, m168e.out, m152e.out]) <;> omega))
  exact e1 ▸ Int.mul_nonneg (by omega) (by omega)
theorem bh_rf61 {q146 r147 w6 : Int}  (q146s : 10 * w6 = 1000 * q146 + r147) : 0 ≤ (-1000) * q146 + (-1) * r147 + 10 * w6 := by omega
theorem bh_am276 {q146 r175 : Int} (b_q146 : 40 ≤ q146 ∧ q146 ≤ 719) (b_r175 : 0 ≤ r175 ∧ r175 ≤ 200) : ∃ m : Int, Hd (q146 * r175 = m) ∧ ((40) * r175 + (0) * q146 - (0) ≤ m) ∧ ((719) * r175 + (200) * q146 - (143800) ≤ m) ∧ (m ≤ (719) * r175 + (0) * q146 - (0)) ∧ (m ≤ (40) * r175 + (200) * q146 - (8000)) ∧ (0 ≤ m ∧ m ≤ 143800) := by
  obtain ⟨h1, h2, h3, h4⟩ := mcc (x := q146) (y := r175) b_q146.1 b_q146.2 b_r175.1 b_r175.2
  refine ⟨_, ⟨rfl⟩, ?_, ?_, ?_, ?_, ?_, ?_⟩ <;> omega
theorem bh_am277 {r147 r175 : Int} (b_r147 : 0 ≤ r147 ∧ r147 ≤ 999) (b_r175 : 0 ≤ r175 ∧ r175 ≤ 200) : ∃ m : Int, Hd (r147 * r175 = m) ∧ ((0) * r175 + (0) * r147 - (0) ≤ m) ∧ ((999) * r175 + (200) * r147 - (199800) ≤ m) ∧ (m ≤ (999) * r175 + (0) * r147 - (0)) ∧ (m ≤ (0) * r175 + (200) * r147 - (0)) ∧ (0 ≤ m ∧ m ≤ 199800) := by
  obtain ⟨h1, h2, h3, h4⟩ := mcc (x := r147) (y := r175) b_r147.1 b_r147.2 b_r175.1 b_r175.2
  refine ⟨_, ⟨rfl⟩, ?_, ?_, ?_, ?_, ?_, ?_⟩ <;> omega
theorem bh_rf61_0 {q146 r147 w6 m176 m276 m277 r175 : Int} (b_r175 : 0 ≤ r175 ∧ r175 ≤ 200) (rf61 : 0 ≤ (-1000) * q146 + (-1) * r147 + 10 * w6) (m276e : Hd (q146 * r175 = m276)) (m277e : Hd (r147 * r175 = m277)) (m176e : Hd (r175 * w6 = m176)) : 0 ≤ 10 * m176 + (-1000) * m276 + (-1) * m277 := by
  have e1 : ((-1000) * q146 + (-1) * r147 + 10 * w6) * (r175) = 10 * m176 + (-1000) * m276 + (-1) * m277 := ((by simp only [Int.add_mul, Int.mul_add, Int.mul_assoc, Int.mul_comm, Int.mul_left_comm, Int.reduceMul, Int.reduceNeg, Int.mul_one, Int.one_mul] <;> omega : ((-1000) * q146 + (-1) * r147 + 10 * w6) * (r175) = (-1000) * (q146 * r175) + (-1) * (r147 * r175) + 10 * (r175 * w6)).trans (by (try simp only [m276e.out, m277e.out, m176e.out]) <;> omega))
  exact e1 ▸ Int.mul_nonneg (by omega) (by omega)
theorem bh_rf62 {q146 r147 w6 : Int}  (q146s : 10 * w6 = 1000 * q146 + r147) : 0 ≤ 1000 * q146 + r147 + (-10) * w6 := by omega
theorem bh_rf62_0 {q146 r147 w6 m176 m276 m277 r175 : Int} (b_r175 : 0 ≤ r175 ∧ r175 ≤ 200) (rf62 : 0 ≤ 1000 * q146 + r147 + (-10) * w6) (m276e : Hd (q146 * r175 = m276)) (m277e : Hd (r147 * r175 = m277)) (m176e : Hd (r175 * w6 = m176)) : 0 ≤ (-10) * m176 + 1000 * m276 + m277 := by
  have e1 : (1000 * q146 + r147 + (-10) * w6) * (r175) = (-10) * m176 + 1000 * m276 + m277 := ((by simp only [Int.add_mul, Int.mul_add, Int.mul_assoc, Int.mul_comm, Int.mul_left_comm, Int.reduceMul, Int.reduceNeg, Int.mul_one, Int.one_mul] <;> omega : (1000 * q146 + r147 + (-10) * w6) * (r175) = 1000 * (q146 * r175) + r147 * r175 + (-10) * (r175 * w6)).trans (by (try simp only [m276e.out, m277e.out, m176e.out]) <;> omega))
  exact e1 ▸ Int.mul_nonneg (by omega) (by omega)
theorem bh_am278 {m176 x7 : Int} (b_m176 : 0 ≤ m176 ∧ m176 ≤ 14397600) (b_x7 : 0 ≤ x7 ∧ x7 ≤ 255) : ∃ m : Int, Hd (m176 * x7 = m) ∧ ((0) * x7 + (0) * m176 - (0) ≤ m) ∧ ((14397600) * x7 + (255) * m176 - (3671388000) ≤ m) ∧ (m ≤ (14397600) * x7 + (0) * m176 - (0)) ∧ (m ≤ (0) * x7 + (255) * m176 - (0)) ∧ (0 ≤ m ∧ m ≤ 3671388000) := by
  obtain ⟨h1, h2, h3, h4⟩ := mcc (x := m176) (y := x7) b_m176.1 b_m176.2 b_x7.1 b_x7.2
  refine ⟨_, ⟨rfl⟩, ?_, ?_, ?_, ?_, ?_, ?_⟩ <;> omega
theorem bh_rf63 {m176 n181 r179 m190 m278 x7 g180 d182 w177 : Int} (b_r179 : 0 ≤ r179 ∧ r179 ≤ 999999) (b_x7 : 0 ≤ x7 ∧ x7 ≤ 255) (g180s : (r179 = 0 → g180 = 1000000 ∧ d182 = 1 ∧ 1000000 * n181 = w177) ∧ (d182 = 1 → r179 = 0)) (w177s : 10000 * m176 = w177) (m278e : Hd (m176 * x7 = m278)) (m190e : Hd (n181 * x7 = m190)) : 0 ≤ (-1) * r179 → 0 ≤ 1000 * m190 + (-10) * m278 := fun hc => by
  have k : 0 ≤ (-10) * m176 + 1000 * n181 := by omega
  have e1 : ((-10) * m176 + 1000 * n181) * (x7) = 1000 * m190 + (-10) * m278 := ((by simp only [Int.add_mul, Int.mul_add, Int.mul_assoc, Int.mul_comm, Int.mul_left_comm, Int.reduceMul, Int.reduceNeg, Int.mul_one, Int.one_mul] <;> omega : ((-10) * m176 + 1000 * n181) * (x7) = (-10) * (m176 * x7) + 1000 * (n181 * x7)).trans (by (try simp only [m278e.out, m190e.out]) <;> omega))
  exact e1 ▸ Int.mul_nonneg k (by omega)
theorem bh_rf64 {m176 n181 r179 m190 m278 x7 g180 d182 w177 : Int} (b_r179 : 0 ≤ r179 ∧ r179 ≤ 999999) (b_x7 : 0 ≤ x7 ∧ x7 ≤ 255) (g180s : (r179 = 0 → g180 = 1000000 ∧ d182 = 1 ∧ 1000000 * n181 = w177) ∧ (d182 = 1 → r179 = 0)) (w177s : 10000 * m176 = w177) (m278e : Hd (m176 * x7 = m278)) (m190e : Hd (n181 * x7 = m190)) : 0 ≤ (-1) * r179 → 0 ≤ (-1000) * m190 + 10 * m278 := fun hc => by
  have k : 0 ≤ 10 * m176 + (-1000) * n181 := by omega
  have e1 : (10 * m176 + (-1000) * n181) * (x7) = (-1000) * m190 + 10 * m278 := ((by simp only [Int.add_mul, Int.mul_add, Int.mul_assoc, Int.mul_comm, Int.mul_left_comm, Int.reduceMul, Int.reduceNeg, Int.mul_one, Int.one_mul] <;> omega : (10 * m176 + (-1000) * n181) * (x7) = 10 * (m176 * x7) + (-1000) * (n181 * x7)).trans (by (try simp only [m278e.out, m190e.out]) <;> omega))
  exact e1 ▸ Int.mul_nonneg k (by omega)
theorem bh_am279 {m38 r175 : Int} (b_m38 : 0 ≤ m38 ∧ m38 ≤ 18356940) (b_r175 : 0 ≤ r175 ∧ r175 ≤ 200) : ∃ m : Int, Hd (m38 * r175 = m) ∧ ((0) * r175 + (0) * m38 - (0) ≤ m) ∧ ((18356940) * r175 + (200) * m38 - (3671388000) ≤ m) ∧ (m ≤ (18356940) * r175 + (0) * m38 - (0)) ∧ (m ≤ (0) * r175 + (200) * m38 - (0)) ∧ (0 ≤ m ∧ m ≤ 3671388000) := by
  obtain ⟨h1, h2, h3, h4⟩ := mcc (x := m38) (y := r175) b_m38.1 b_m38.2 b_r175.1 b_r175.2
  refine ⟨_, ⟨rfl⟩, ?_, ?_, ?_, ?_, ?_, ?_⟩ <;> omega
theorem bh_am280 {m176 r36 : Int} (b_m176 : 0 ≤ m176 ∧ m176 ≤ 14397600) (b_r36 : 0 ≤ r36 ∧ r36 ≤ 19) : ∃ m : Int, Hd (m176 * r36 = m) ∧ ((0) * r36 + (0) * m176 - (0) ≤ m) ∧ ((14397600) * r36 + (19) * m176 - (273554400) ≤ m) ∧ (m ≤ (14397600) * r36 + (0) * m176 - (0)) ∧ (m ≤ (0) * r36 + (19) * m176 - (0)) ∧ (0 ≤ m ∧ m ≤ 273554400) := by
  obtain ⟨h1, h2, h3, h4⟩ := mcc (x := m176) (y := r36) b_m176.1 b_m176.2 b_r36.1 b_r36.2
  refine ⟨_, ⟨rfl⟩, ?_, ?_, ?_, ?_, ?_, ?_⟩ <;> omega
theorem bh_rf66 {m176 n181 r179 m196 m280 r36 g180 d182 w177 : Int} (b_r179 : 0 ≤ r179 ∧ r179 ≤ 999999) (b_r36 : 0 ≤ r36 ∧ r36 ≤ 19) (g180s : (r179 = 0 → g180 = 1000000 ∧ d182 = 1 ∧ 1000000 * n181 = w177) ∧ (d182 = 1 → r179 = 0)) (w177s : 10000 * m176 = w177) (m280e : Hd (m176 * r36 = m280)) (m196e : Hd (n181 * r36 = m196)) : 0 ≤ (-1) * r179 → 0 ≤ 1000 * m196 + (-10) * m280 := fun hc => by
  have k : 0 ≤ (-10) * m176 + 1000 * n181 := by omega
  have e1 : ((-10) * m176 + 1000 * n181) * (r36) = 1000 * m196 + (-10) * m280 := ((by simp only [Int.add_mul, Int.mul_add, Int.mul_assoc, Int.mul_comm, Int.mul_left_comm, Int.reduceMul, Int.reduceNeg, Int.mul_one, Int.one_mul] <;> omega : ((-10) * m176 + 1000 * n181) * (r36) = (-10) * (m176 * r36) + 1000 * (n181 * r36)).trans (by (try simp only [m280e.out, m196e.out]) <;> omega))
  exact e1 ▸ Int.mul_nonneg k (by omega)
theorem bh_rf67 {m176 n181 r179 m196 m280 r36 g180 d182 w177 : Int} (b_r179 : 0 ≤ r179 ∧ r179 ≤ 999999) (b_r36 : 0 ≤ r36 ∧ r36 ≤ 19) (g180s : (r179 = 0 → g180 = 1000000 ∧ d182 = 1 ∧ 1000000 * n181 = w177) ∧ (d182 = 1 → r179 = 0)) (w177s : 10000 * m176 = w177) (m280e : Hd (m176 * r36 = m280)) (m196e : Hd (n181 * r36 = m196)) : 0 ≤ (-1) * r179 → 0 ≤ (-1000) * m196 + 10 * m280 := fun hc => by
  have k : 0 ≤ 10 * m176 + (-1000) * n181 := by omega
  have e1 : (10 * m176 + (-1000) * n181) * (r36) = (-1000) * m196 + 10 * m280 := ((by simp only [Int.add_mul, Int.mul_add, Int.mul_assoc, Int.mul_comm, Int.mul_left_comm, Int.reduceMul, Int.reduceNeg, Int.mul_one, Int.one_mul] <;> omega : (10 * m176 + (-1000) * n181) * (r36) = 10 * (m176 * r36) + (-1000) * (n181 * r36)).trans (by (try simp only [m280e.out, m196e.out]) <;> omega))
  exact e1 ▸ Int.mul_nonneg k (by omega)
theorem bh_am281 {m37 r175 : Int} (b_m37 : 0 ≤ m37 ∧ m37 ≤ 1367772) (b_r175 : 0 ≤ r175 ∧ r175 ≤ 200) : ∃ m : Int, Hd (m37 * r175 = m) ∧ ((0) * r175 + (0) * m37 - (0) ≤ m) ∧ ((1367772) * r175 + (200) * m37 - (273554400) ≤ m) ∧ (m ≤ (1367772) * r175 + (0) * m37 - (0)) ∧ (m ≤ (0) * r175 + (200) * m37 - (0)) ∧ (0 ≤ m ∧ m ≤ 273554400) := by
  obtain ⟨h1, h2, h3, h4⟩ := mcc (x := m37) (y := r175) b_m37.1 b_m37.2 b_r175.1 b_r175.2
  refine ⟨_, ⟨rfl⟩, ?_, ?_, ?_, ?_, ?_, ?_⟩ <;> omega
theorem bh_rf69 {m38 w44 w6 : Int}  (rf9 : 0 ≤ (-1) * m38 + w44 + (-1) * w6) : 0 ≤ (-1) * m38 + w44 + (-1) * w6 := by omega
theorem bh_rf69_0 {m38 w44 w6 m176 m186 m279 r175 : Int} (b_r175 : 0 ≤ r175 ∧ r175 ≤ 200) (rf69 : 0 ≤ (-1) * m38 + w44 + (-1) * w6) (m279e : Hd (m38 * r175 = m279)) (m186e : Hd (r175 * w44 = m186)) (m176e : Hd (r175 * w6 = m176)) : 0 ≤ (-1) * m176 + m186 + (-1) * m279 := by
  have e1 : ((-1) * m38 + w44 + (-1) * w6) * (r175) = (-1) * m176 + m186 + (-1) * m279 := ((by simp only [Int.add_mul, Int.mul_add, Int.mul_assoc, Int.mul_comm, Int.mul_left_comm, Int.reduceMul, Int.reduceNeg, Int.mul_one, Int.one_mul] <;> omega : ((-1) * m38 + w44 + (-1) * w6) * (r175) = (-1) * (m38 * r175) + r175 * w44 + (-1) * (r175 * w6)).trans (by (try simp only [m279e.out, m186e.out, m176e.out]) <;> omega))
  exact e1 ▸ Int.mul_nonneg (by omega) (by omega)
theorem bh_rf70 {m38 w44 w6 : Int}  (rf10 : 0 ≤ m38 + (-1) * w44 + w6) : 0 ≤ m38 + (-1) * w44 + w6 := by omega
theorem bh_rf70_0 {m38 w44 w6 m176 m186 m279 r175 : Int} (b_r175 : 0 ≤ r175 ∧ r175 ≤ 200) (rf70 : 0 ≤ m38 + (-1) * w44 + w6) (m279e : Hd (m38 * r175 = m279)) (m186e : Hd (r175 * w44 = m186)) (m176e : Hd (r175 * w6 = m176)) : 0 ≤ m176 + (-1) * m186 + m279 := by
  have e1 : (m38 + (-1) * w44 + w6) * (r175) = m176 + (-1) * m186 + m279 := ((by simp only [Int.add_mul, Int.mul_add, Int.mul_assoc, Int.mul_comm, Int.mul_left_comm, Int.reduceMul, Int.reduceNeg, Int.mul_one, Int.one_mul] <;> omega : (m38 + (-1) * w44 + w6) * (r175) = m38 * r175 + (-1) * (r175 * w44) + r175 * w6).trans (by (try simp only [m279e.out, m186e.out, m176e.out]) <;> omega))
  exact e1 ▸ Int.mul_nonneg (by omega) (by omega)
theorem bh_rf71 {m37 m38 w39 w6 : Int}  (rf11 : 0 ≤ (-1) * m37 + (-1) * m38 + w39 + (-1) * w6) : 0 ≤ (-1) * m37 + (-1) * m38 + w39 + (-1) * w6 := by omega
theorem bh_rf71_0 {m37 m38 w39 w6 m176 m192 m279 m281 r175 : Int} (b_r175 : 0 ≤ r175 ∧ r175 ≤ 200) (rf71 : 0 ≤ (-1) * m37 + (-1) * m38 + w39 + (-1) * w6) (m281e : Hd (m37 * r175 = m281)) (m279e : Hd (m38 * r175 = m279)) (m192e : Hd (r175 * w39 = m192)) (m176e : Hd (r175 * w6 = m176)) : 0 ≤ (-1) * m176 + m192 + (-1) * m279 + (-1) * m281 := by
  have e1 : ((-1) * m37 + (-1) * m38 + w39 + (-1) * w6) * (r175) = (-1) * m176 + m192 + (-1) * m279 + (-1) * m281 := ((by simp only [Int.add_mul, Int.mul_add, Int.mul_assoc, Int.mul_comm, Int.mul_left_comm, Int.reduceMul, Int.reduceNeg, Int.mul_one, Int.one_mul] <;> omega : ((-1) * m37 + (-1) * m38 + w39 + (-1) * w6) * (r175) = (-1) * (m37 * r175) + (-1) * (m38 * r175) + r175 * w39 + (-1) * (r175 * w6)).trans (by (try simp only [m281e.out, m279e.out, m192e.out, m176e.out]) <;> omega))
  exact e1 ▸ Int.mul_nonneg (by omega) (by omega)
theorem bh_rf72 {m37 m38 w39 w6 : Int}  (rf12 : 0 ≤ m37 + m38 + (-1) * w39 + w6) : 0 ≤ m37 + m38 + (-1) * w39 + w6 := by omega
theorem bh_rf72_0 {m37 m38 w39 w6 m176 m192 m279 m281 r175 : Int} (b_r175 : 0 ≤ r175 ∧ r175 ≤ 200) (rf72 : 0 ≤ m37 + m38 + (-1) * w39 + w6) (m281e : Hd (m37 * r175 = m281)) (m279e : Hd (m38 * r175 = m279)) (m192e : Hd (r175 * w39 = m192)) (m176e : Hd (r175 * w6 = m176)) : 0 ≤ m176 + (-1) * m192 + m279 + m281 := by
  have e1 : (m37 + m38 + (-1) * w39 + w6) * (r175) = m176 + (-1) * m192 + m279 + m281 := ((by simp only [Int.add_mul, Int.mul_add, Int.mul_assoc, Int.mul_comm, Int.mul_left_comm, Int.reduceMul, Int.reduceNeg, Int.mul_one, Int.one_mul] <;> omega : (m37 + m38 + (-1) * w39 + w6) * (r175) = m37 * r175 + m38 * r175 + (-1) * (r175 * w39) + r175 * w6).trans (by (try simp only [m281e.out, m279e.out, m192e.out, m176e.out]) <;> omega))
  exact e1 ▸ Int.mul_nonneg (by omega) (by omega)
theorem bh_rf73 {q144 r145 w6 : Int}  (q144s : 50 * w6 = 1000 * q144 + r145) : 0 ≤ (-1000) * q144 + (-1) * r145 + 50 * w6 := by omega
theorem bh_am282 {q144 r199 : Int} (b_q144 : 200 ≤ q144 ∧ q144 ≤ 3599) (b_r199 : 0 ≤ r199 ∧ r199 ≤ 40) : ∃ m : Int, Hd (q144 * r199 = m) ∧ ((200) * r199 + (0) * q144 - (0) ≤ m) ∧ ((3599) * r199 + (40) * q144 - (143960) ≤ m) ∧ (m ≤ (3599) * r199 + (0) * q144 - (0)) ∧ (m ≤ (200) * r199 + (40) * q144 - (8000)) ∧ (0 ≤ m ∧ m ≤ 143960) := by
  obtain ⟨h1, h2, h3, h4⟩ := mcc (x := q144) (y := r199) b_q144.1 b_q144.2 b_r199.1 b_r199.2
  refine ⟨_, ⟨rfl⟩, ?_, ?_, ?_, ?_, ?_, ?_⟩ <;> omega
theorem bh_am283 {r145 r199 : Int} (b_r145 : 0 ≤ r145 ∧ r145 ≤ 999) (b_r199 : 0 ≤ r199 ∧ r199 ≤ 40) : ∃ m : Int, Hd (r145 * r199 = m) ∧ ((0) * r199 + (0) * r145 - (0) ≤ m) ∧ ((999) * r199 + (40) * r145 - (39960) ≤ m) ∧ (m ≤ (999) * r199 + (0) * r145 - (0)) ∧ (m ≤ (0) * r199 + (40) * r145 - (0)) ∧ (0 ≤ m ∧ m ≤ 39960) := by
  obtain ⟨h1, h2, h3, h4⟩ := mcc (x := r145) (y := r199) b_r145.1 b_r145.2 b_r199.1 b_r199.2
  refine ⟨_, ⟨rfl⟩, ?_, ?_, ?_, ?_, ?_, ?_⟩ <;> omega
theorem bh_rf73_0 {q144 r145 w6 m200 m282 m283 r199 : Int} (b_r199 : 0 ≤ r199 ∧ r199 ≤ 40) (rf73 : 0 ≤ (-1000) * q144 + (-1) * r145 + 50 * w6) (m282e : Hd (q144 * r199 = m282)) (m283e : Hd (r145 * r199 = m283)) (m200e : Hd (r199 * w6 = m200)) : 0 ≤ 50 * m200 + (-1000) * m282 + (-1) * m283 := by
  have e1 : ((-1000) * q144 + (-1) * r145 + 50 * w6) * (r199) = 50 * m200 + (-1000) * m282 + (-1) * m283 := ((by simp only [Int.add_mul, Int.mul_add, Int.mul_assoc, Int.mul_comm, Int.mul_left_comm, Int.reduceMul, Int.reduceNeg, Int.mul_one, Int.one_mul] <;> omega : ((-1000) * q144 + (-1) * r145 + 50 * w6) * (r199) = (-1000) * (q144 * r199) + (-1) * (r145 * r199) + 50 * (r199 * w6)).trans (by (try simp only [m282e.out, m283e.out, m200e.out]) <;> omega))
  exact e1 ▸ Int.mul_nonneg (by omega) (by omega)
theorem bh_rf74 {q144 r145 w6 : Int}  (q144s : 50 * w6 = 1000 * q144 + r145) : 0 ≤ 1000 * q144 + r145 + (-50) * w6 := by omega
theorem bh_rf74_0 {q144 r145 w6 m200 m282 m283 r199 : Int} (b_r199 : 0 ≤ r199 ∧ r199 ≤ 40) (rf74 : 0 ≤ 1000 * q144 + r145 + (-50) * w6) (m282e : Hd (q144 * r199 = m282)) (m283e : Hd (r145 * r199 = m283)) (m200e : Hd (r199 * w6 = m200)) : 0 ≤ (-50) * m200 + 1000 * m282 + m283 := by
  have e1 : (1000 * q144 + r145 + (-50) * w6) * (r199) = (-50) * m200 + 1000 * m282 + m283 := ((by simp only [Int.add_mul, Int.mul_add, Int.mul_assoc, Int.mul_comm, Int.mul_left_comm, Int.reduceMul, Int.reduceNeg, Int.mul_one, Int.one_mul] <;> omega : (1000 * q144 + r145 + (-50) * w6) * (r199) = 1000 * (q144 * r199) + r145 * r199 + (-50) * (r199 * w6)).trans (by (try simp only [m282e.out, m283e.out, m200e.out]) <;> omega))
  exact e1 ▸ Int.mul_nonneg (by omega) (by omega)
theorem bh_am284 {m200 x7 : Int} (b_m200 : 0 ≤ m200 ∧ m200 ≤ 2879520) (b_x7 : 0 ≤ x7 ∧ x7 ≤ 255) : ∃ m : Int, Hd (m200 * x7 = m) ∧ ((0) * x7 + (0) * m200 - (0) ≤ m) ∧ ((2879520) * x7 + (255) * m200 - (734277600) ≤ m) ∧ (m ≤ (2879520) * x7 + (0) * m200 - (0)) ∧ (m ≤ (0) * x7 + (255) * m200 - (0)) ∧ (0 ≤ m ∧ m ≤ 734277600) := by
  obtain ⟨h1, h2, h3, h4⟩ := mcc (x := m200) (y := x7) b_m200.1 b_m200.2 b_x7.1 b_x7.2
  refine ⟨_, ⟨rfl⟩, ?_, ?_, ?_, ?_, ?_, ?_⟩ <;> omega
theorem bh_rf75 {m200 n205 r203 m214 m284 x7 g204 d206 w201 : Int} (b_r203 : 0 ≤ r203 ∧ r203 ≤ 999999) (b_x7 : 0 ≤ x7 ∧ x7 ≤ 255) (g204s : (r203 = 0 → g204 = 1000000 ∧ d206 = 1 ∧ 1000000 * n205 = w201) ∧ (d206 = 1 → r203 = 0)) (w201s : 50000 * m200 = w201) (m284e : Hd (m200 * x7 = m284)) (m214e : Hd (n205 * x7 = m214)) : 0 ≤ (-1) * r203 → 0 ≤ 1000 * m214 + (-50) * m284 := fun hc => by
  have k : 0 ≤ (-50) * m200 + 1000 * n205 := by omega
  have e1 : ((-50) * m200 + 1000 * n205) * (x7) = 1000 * m214 + (-50) * m284 := ((by simp only [Int.add_mul, Int.mul_add, Int.mul_assoc, Int.mul_comm, Int.mul_left_comm, Int.reduceMul, Int.reduceNeg, Int.mul_one, Int.one_mul] <;> omega : ((-50) * m200 + 1000 * n205) * (x7) = (-50) * (m200 * x7) + 1000 * (n205 * x7)).trans (by (try simp only [m284e.out, m214e.out]) <;> omega))
  exact e1 ▸ Int.mul_nonneg k (by omega)
theorem bh_rf76 {m200 n205 r203 m214 m284 x7 g204 d206 w201 : Int} (b_r203 : 0 ≤ r203 ∧ r203 ≤ 999999) (b_x7 : 0 ≤ x7 ∧ x7 ≤ 255) (g204s : (r203 = 0 → g204 = 1000000 ∧ d206 = 1 ∧ 1000000 * n205 = w201) ∧ (d206 = 1 → r203 = 0)) (w201s : 50000 * m200 = w201) (m284e : Hd (m200 * x7 = m284)) (m214e : Hd (n205 * x7 = m214)) : 0 ≤ (-1) * r203 → 0 ≤ (-1000) * m214 + 50 * m284 := fun hc => by
  have k : 0 ≤ 50 * m200 + (-1000) * n205 := by omega
  have e1 : (50 * m200 + (-1000) * n205) * (x7) = (-1000) * m214 + 50 * m284 := ((by simp only [Int.add_mul, Int.mul_add, Int.mul_assoc, Int.mul_comm, Int.mul_left_comm, Int.reduceMul, Int.reduceNeg, Int.mul_one, Int.one_mul] <;> omega : (50 * m200 + (-1000) * n205) * (x7) = 50 * (m200 * x7) + (-1000) * (n205 * x7)).trans (by (try simp only [m284e.out, m214e.out]) <;> omega))
  exact e1 ▸ Int.mul_nonneg k (by omega)
theorem bh_am285 {m38 r199 : Int} (b_m38 : 0 ≤ m38 ∧ m38 ≤ 18356940) (b_r199 : 0 ≤ r199 ∧ r199 ≤ 40) : ∃ m : Int, Hd (m38 * r199 = m) ∧ ((0) * r199 + (0) * m38 - (0) ≤ m) ∧ ((18356940) * r199 + (40) * m38 - (734277600) ≤ m) ∧ (m ≤ (18356940) * r199 + (0) * m38 - (0)) ∧ (m ≤ (0) * r199 + (40) * m38 - (0)) ∧ (0 ≤ m ∧ m ≤ 734277600) := by
  obtain ⟨h1, h2, h3, h4⟩ := mcc (x := m38) (y := r199) b_m38.1 b_m38.2 b_r199.1 b_r199.2
  refine ⟨_, ⟨rfl⟩, ?_, ?_, ?_, ?_, ?_, ?_⟩ <;> omega
theorem bh_am286 {m200 r36 : Int} (b_m200 : 0 ≤ m200 ∧ m200 ≤ 2879520) (b_r36 : 0 ≤ r36 ∧ r36 ≤ 19) : ∃ m : Int, Hd (m200 * r36 = m) ∧ ((0) * r36 + (0) * m200 - (0) ≤ m) ∧ ((2879520) * r36 + (19) * m200 - (54710880) ≤ m) ∧ (m ≤ (2879520) * r36 + (0) * m200 - (0)) ∧ (m ≤ (0) * r36 + (19) * m200 - (0)) ∧ (0 ≤ m ∧ m ≤ 54710880) := by
  obtain ⟨h1, h2, h3, h4⟩ := mcc (x := m200) (y := r36) b_m200.1 b_m200.2 b_r36.1 b_r36.2
  refine ⟨_, ⟨rfl⟩, ?_, ?_, ?_, ?_, ?_, ?_⟩ <;> omega
theorem bh_rf78 {m200 n205 r203 m220 m286 r36 g204 d206 w201 : Int} (b_r203 : 0 ≤ r203 ∧ r203 ≤ 999999) (b_r36 : 0 ≤ r36 ∧ r36 ≤ 19) (g204s : (r203 = 0 → g204 = 1000000 ∧ d206 = 1 ∧ 1000000 * n205 = w201) ∧ (d206 = 1 → r203 = 0)) (w201s : 50000 * m200 = w201) (m286e : Hd (m200 * r36 = m286)) (m220e : Hd (n205 * r36 = m220)) : 0 ≤ (-1) * r203 → 0 ≤ 1000 * m220 + (-50) * m286 := fun hc => by
  have k : 0 ≤ (-50) * m200 + 1000 * n205 := by omega
  have e1 : ((-50) * m200 + 1000 * n205) * (r36) = 1000 * m220 + (-50) * m286 := ((by simp only [Int.add_mul, Int.mul_add, Int.mul_assoc, Int.mul_comm, Int.mul_left_comm, Int.reduceMul, Int.reduceNeg, Int.mul_one, Int.one_mul] <;> omega : ((-50) * m200 + 1000 * n205) * (r36) = (-50) * (m200 * r36) + 1000 * (n205 * r36)).trans (by (try simp only [m286e.out, m220e.out]) <;> omega))
  exact e1 ▸ Int.mul_nonneg k (by omega)
theorem bh_rf79 {m200 n205 r203 m220 m286 r36 g204 d206 w201 : Int} (b_r203 : 0 ≤ r203 ∧ r203 ≤ 999999) (b_r36 : 0 ≤ r36 ∧ r36 ≤ 19) (g204s : (r203 = 0 → g204 = 1000000 ∧ d206 = 1 ∧ 1000000 * n205 = w201) ∧ (d206 = 1 → r203 = 0)) (w201s : 50000 * m200 = w201) (m286e : Hd (m200 * r36 = m286)) (m220e : Hd (n205 * r36 = m220)) : 0 ≤ (-1) * r203 → 0 ≤ (-1000) * m220 + 50 * m286 := fun hc => by
  have k : 0 ≤ 50 * m200 + (-1000) * n205 := by omega
  have e1 : (50 * m200 + (-1000) * n205) * (r36) = (-1000) * m220 + 50 * m286 := ((by simp only [Int.add_mul, Int.mul_add, Int.mul_assoc, Int.mul_comm, Int.mul_left_comm, Int.reduceMul, Int.reduceNeg, Int.mul_one, Int.one_mul] <;> omega : (50 * m200 + (-1000) * n205) * (r36) = 50 * (m200 * r36) + (-1000) * (n205 * r36)).trans (by (try simp only [m286e.out, m220e.out]) <;> omega))
  exact e1 ▸ Int.mul_nonneg k (by omega)
theorem bh_am287 {m37 r199 : Int} (b_m37 : 0 ≤ m37 ∧ m37 ≤ 1367772) (b_r199 : 0 ≤ r199 ∧ r199 ≤ 40) : ∃ m : Int, Hd (m37 * r199 = m) ∧ ((0) * r199 + (0) * m37 - (0) ≤ m) ∧ ((1367772) * r199 + (40) * m37 - (54710880) ≤ m) ∧ (m ≤ (1367772) * r199 + (0) * m37 - (0)) ∧ (m ≤ (0) * r199 + (40) * m37 - (0)) ∧ (0 ≤ m ∧ m ≤ 54710880) := by
  obtain ⟨h1, h2, h3, h4⟩ := mcc (x := m37) (y := r199) b_m37.1 b_m37.2 b_r199.1 b_r199.2
  refine ⟨_, ⟨rfl⟩, ?_, ?_, ?_, ?_, ?_, ?_⟩ <;> omega
theorem bh_rf81 {m38 w44 w6 : Int}  (rf9 : 0 ≤ (-1) * m38 + w44 + (-1) * w6) : 0 ≤ (-1) * m38 + w44 + (-1) * w6 := by omega
theorem bh_rf81_0 {m38 w44 w6 m200 m210 m285 r199 : Int} (b_r199 : 0 ≤ r199 ∧ r199 ≤ 40) (rf81 : 0 ≤ (-1) * m38 + w44 + (-1) * w6) (m285e : Hd (m38 * r199 = m285)) (m210e : Hd (r199 * w44 = m210)) (m200e : Hd (r199 * w6 = m200)) : 0 ≤ (-1) * m200 + m210 + (-1) * m285 := by
  have e1 : ((-1) * m38 + w44 + (-1) * w6) * (r199) = (-1) * m200 + m210 + (-1) * m285 := ((by simp only [Int.add_mul, Int.mul_add, Int.mul_assoc, Int.mul_comm, Int.mul_left_comm, Int.reduceMul, Int.reduceNeg, Int.mul_one, Int.one_mul] <;> omega : ((-1) * m38 + w44 + (-1) * w6) * (r199) = (-1) * (m38 * r199) + r199 * w44 + (-1) * (r199 * w6)).trans (by (try simp only [m285e.out, m210e.out, m200e.out]) <;> omega))
  exact e1 ▸ Int.mul_nonneg (by omega) (by omega)
theorem bh_rf82 {m38 w44 w6 : Int}  (rf10 : 0 ≤ m38 + (-1) * w44 + w6) : 0 ≤ m38 + (-1) * w44 + w6 := by omega
theorem bh_rf82_0 {m38 w44 w6 m200 m210 m285 r199 : Int} (b_r199 : 0 ≤ r199 ∧ r199 ≤ 40) (rf82 : 0 ≤ m38 + (-1) * w44 + w6) (m285e : Hd (m38 * r199 = m285)) (m210e : Hd (r199 * w44 = m210)) (m200e : Hd (r199 * w6 = m200)) : 0 ≤ m200 + (-1) * m210 + m285 := by
  have e1 : (m38 + (-1) * w44 + w6) * (r199) = m200 + (-1) * m210 + m285 := ((by simp only [Int.add_mul, Int.mul_add, Int.mul_assoc, Int.mul_comm, Int.mul_left_comm, Int.reduceMul, Int.reduceNeg, Int.mul_one, Int.one_mul] <;> omega : (m38 + (-1) * w44 + w6) * (r199) = m38 * r199 + (-1) * (r199 * w44) + r199 * w6).trans (by (try simp only [m285e.out, m210e.out, m200e.out]) <;> omega))
  exact e1 ▸ Int.mul_nonneg (by omega) (by omega)
theorem bh_rf83 {m37 m38 w39 w6 : Int}  (rf11 : 0 ≤ (-1) * m37 + (-1) * m38 + w39 + (-1) * w6) : 0 ≤ (-1) * m37 + (-1) * m38 + w39 + (-1) * w6 := by omega
theorem bh_rf83_0 {m37 m38 w39 w6 m200 m216 m285 m287 r199 : Int} (b_r199 : 0 ≤ r199 ∧ r199 ≤ 40) (rf83 : 0 ≤ (-1) * m37 + (-1) * m38 + w39 + (-1) * w6) (m287e : Hd (m37 * r199 = m287)) (m285e : Hd (m38 * r199 = m285)) (m216e : Hd (r199 * w39 = m216)) (m200e : Hd (r199 * w6 = m200)) : 0 ≤ (-1) * m200 + m216 + (-1) * m285 + (-1) * m287 := by
  have e1 : ((-1) * m37 + (-1) * m38 + w39 + (-1) * w6) * (r199) = (-1) * m200 + m216 + (-1) * m285 + (-1) * m287 := ((by simp only [Int.add_mul, Int.mul_add, Int.mul_assoc, Int.mul_comm, Int.mul_left_comm, Int.reduceMul, Int.reduceNeg, Int.mul_one, Int.one_mul] <;> omega : ((-1) * m37 + (-1) * m38 + w39 + (-1) * w6) * (r199) = (-1) * (m37 * r199) + (-1) * (m38 * r199) + r199 * w39 + (-1) * (r199 * w6)).trans (by (try simp only [m287e.out, m285e.out, m216e.out, m200e.out]) <;> omega))
  exact e1 ▸ Int.mul_nonneg (by omega) (by omega)
theorem bh_rf84 {m37 m38 w39 w6 : Int}  (rf12 : 0 ≤ m37 + m38 + (-1) * w39 + w6) : 0 ≤ m37 + m38 + (-1) * w39 + w6 := by omega
theorem bh_rf84_0 {m37 m38 w39 w6 m200 m216 m285 m287 r199 : Int} (b_r199 : 0 ≤ r199 ∧ r199 ≤ 40) (rf84 : 0 ≤ m37 + m38 + (-1) * w39 + w6) (m287e : Hd (m37 * r199 = m287)) (m285e : Hd (m38 * r199 = m285)) (m216e : Hd (r199 * w39 = m216)) (m200e : Hd (r199 * w6 = m200)) : 0 ≤ m200 + (-1) * m216 + m285 + m287 := by
  have e1 : (m37 + m38 + (-1) * w39 + w6) * (r199) = m200 + (-1) * m216 + m285 + m287 := ((by simp only [Int.add_mul, Int.mul_add, Int.mul_assoc, Int.mul_comm, Int.mul_left_comm, Int.reduceMul, Int.reduceNeg, Int.mul_one, Int.one_mul] <;> omega : (m37 + m38 + (-1) * w39 + w6) * (r199) = m37 * r199 + m38 * r199 + (-1) * (r199 * w39) + r199 * w6).trans (by (try simp only [m287e.out, m285e.out, m216e.out, m200e.out]) <;> omega))
  exact e1 ▸ Int.mul_nonneg (by omega) (by omega)
theorem bh_rf85 {q9 r10 w6 : Int}  (q9s : 250 * w6 = 1000 * q9 + r10) : 0 ≤ (-1000) * q9 + (-1) * r10 + 250 * w6 := by omega
theorem bh_am288 {q9 r223 : Int} (b_q9 : 1000 ≤ q9 ∧ q9 ≤ 17997) (b_r223 : 0 ≤ r223 ∧ r223 ≤ 8) : ∃ m : Int, Hd (q9 * r223 = m) ∧ ((1000) * r223 + (0) * q9 - (0) ≤ m) ∧ ((17997) * r223 + (8) * q9 - (143976) ≤ m) ∧ (m ≤ (17997) * r223 + (0) * q9 - (0)) ∧ (m ≤ (1000) * r223 + (8) * q9 - (8000)) ∧ (0 ≤ m ∧ m ≤ 143976) := by
  obtain ⟨h1, h2, h3, h4⟩ := mcc (x := q9) (y := r223) b_q9.1 b_q9.2 b_r223.1 b_r223.2
  refine ⟨_, ⟨rfl⟩, ?_, ?_, ?_, ?_, ?_, ?_⟩ <;> omega
theorem bh_am289 {r10 r223 : Int} (b_r10 : 0 ≤ r10 ∧ r10 ≤ 999) (b_r223 : 0 ≤ r223 ∧ r223 ≤ 8) : ∃ m : Int, Hd (r10 * r223 = m) ∧ ((0) * r223 + (0) * r10 - (0) ≤ m) ∧ ((999) * r223 + (8) * r10 - (7992) ≤ m) ∧ (m ≤ (999) * r223 + (0) * r10 - (0)) ∧ (m ≤ (0) * r223 + (8) * r10 - (0)) ∧ (0 ≤ m ∧ m ≤ 7992) := by
  obtain ⟨h1, h2, h3, h4⟩ := mcc (x := r10) (y := r223) b_r10.1 b_r10.2 b_r223.1 b_r223.2
  refine ⟨_, ⟨rfl⟩, ?_, ?_, ?_, ?_, ?_, ?_⟩ <;> omega
theorem bh_rf85_0 {q9 r10 w6 m224 m288 m289 r223 : Int} (b_r223 : 0 ≤ r223 ∧ r223 ≤ 8) (rf85 : 0 ≤ (-1000) * q9 + (-1) * r10 + 250 * w6) (m288e : Hd (q9 * r223 = m288)) (m289e : Hd (r10 * r223 = m289)) (m224e : Hd (r223 * w6 = m224)) : 0 ≤ 250 * m224 + (-1000) * m288 + (-1) * m289 := by
  have e1 : ((-1000) * q9 + (-1) * r10 + 250 * w6) * (r223) = 250 * m224 + (-1000) * m288 + (-1) * m289 := ((by simp only [Int.add_mul, Int.mul_add, Int.mul_assoc, Int.mul_comm, Int.mul_left_comm, Int.reduceMul, Int.reduceNeg, Int.mul_one, Int.one_mul] <;> omega : ((-1000) * q9 + (-1) * r10 + 250 * w6) * (r223) = (-1000) * (q9 * r223) + (-1) * (r10 * r223) + 250 * (r223 * w6)).trans (by (try simp only [m288e.out, m289e.out, m224e.out]) <;> omega))
  exact e1 ▸ Int.mul_nonneg (by omega) (by omega)
theorem bh_rf86 {q9 r10 w6 : Int}  (q9s : 250 * w6 = 1000 * q9 + r10) : 0 ≤ 1000 * q9 + r10 + (-250) * w6 := by omega
theorem bh_rf86_0 {q9 r10 w6 m224 m288 m289 r223 : Int} (b_r223 : 0 ≤ r223 ∧ r223 ≤ 8) (rf86 : 0 ≤ 1000 * q9 + r10 + (-250) * w6) (m288e : Hd (q9 * r223 = m288)) (m289e : Hd (r10 * r223 = m289)) (m224e : Hd (r223 * w6 = m224)) : 0 ≤ (-250) * m224 + 1000 * m288 + m289 := by
  have e1 : (1000 * q9 + r10 + (-250) * w6) * (r223) = (-250) * m224 + 1000 * m288 + m289 := ((by simp only [Int.add_mul, Int.mul_add, Int.mul_assoc, Int.mul_comm, Int.mul_left_comm, Int.reduceMul, Int.reduceNeg, Int.mul_one, Int.one_mul] <;> omega : (1000 * q9 + r10 + (-250) * w6) * (r223) = 1000 * (q9 * r223) + r10 * r223 + (-250) * (r223 * w6)).trans (by (try simp only [m288e.out, m289e.out, m224e.out]) <;> omega))
  exact e1 ▸ Int.mul_nonneg (by omega) (by omega)
theorem bh_am290 {m224 x7 : Int} (b_m224 : 0 ≤ m224 ∧ m224 ≤ 575904) (b_x7 : 0 ≤ x7 ∧ x7 ≤ 255) : ∃ m : Int, Hd (m224 * x7 = m) ∧ ((0) * x7 + (0) * m224 - (0) ≤ m) ∧ ((575904) * x7 + (255) * m224 - (146855520) ≤ m) ∧ (m ≤ (575904) * x7 + (0) * m224 - (0)) ∧ (m ≤ (0) * x7 + (255) * m224 - (0)) ∧ (0 ≤ m ∧ m ≤ 146855520) := by
  obtain ⟨h1, h2, h3, h4⟩ := mcc (x := m224) (y := x7) b_m224.1 b_m224.2 b_x7.1 b_x7.2
  refine ⟨_, ⟨rfl⟩, ?_, ?_, ?_, ?_, ?_, ?_⟩ <;> omega
theorem bh_rf87 {m224 n229 r227 m238 m290 x7 g228 d230 w225 : Int} (b_r227 : 0 ≤ r227 ∧ r227 ≤ 999999) (b_x7 : 0 ≤ x7 ∧ x7 ≤ 255) (g228s : (r227 = 0 → g228 = 1000000 ∧ d230 = 1 ∧ 1000000 * n229 = w225) ∧ (d230 = 1 → r227 = 0)) (w225s : 250000 * m224 = w225) (m290e : Hd (m224 * x7 = m290)) (m238e : Hd (n229 * x7 = m238)) : 0 ≤ (-1) * r227 → 0 ≤ 1000 * m238 + (-250) * m290 := fun hc => by
  have k : 0 ≤ (-250) * m224 + 1000 * n229 := by omega
  have e1 : ((-250) * m224 + 1000 * n229) * (x7) = 1000 * m238 + (-250) * m290 := ((by simp only [Int.add_mul, Int.mul_add, Int.mul_assoc, Int.mul_comm, Int.mul_left_comm, Int.reduceMul, Int.reduceNeg, Int.mul_one, Int.one_mul] <;> omega : ((-250) * m224 + 1000 * n229) * (x7) = (-250) * (m224 * x7) + 1000 * (n229 * x7)).trans (by (try simp only [m290e.out, m238e.out]) <;> omega))
  exact e1 ▸ Int.mul_nonneg k (by omega)
theorem bh_rf88 {m224 n229 r227 m238 m290 x7 g228 d230 w225 : Int} (b_r227 : 0 ≤ r227 ∧ r227 ≤ 999999) (b_x7 : 0 ≤ x7 ∧ x7 ≤ 255) (g228s : (r227 = 0 → g228 = 1000000 ∧ d230 = 1 ∧ 1000000 * n229 = w225) ∧ (d230 = 1 → r227 = 0)) (w225s : 250000 * m224 = w225) (m290e : Hd (m224 * x7 = m290)) (m238e : Hd (n229 * x7 = m238)) : 0 ≤ (-1) * r227 → 0 ≤ (-1000) * m238 + 250 * m290 := fun hc => by
  have k : 0 ≤ 250 * m224 + (-1000) * n229 := by omega
  have e1 : (250 * m224 + (-1000) * n229) * (x7) = (-1000) * m238 + 250 * m290 := ((by simp only [Int.add_mul, Int.mul_add, Int.mul_assoc, Int.mul_comm, Int.mul_left_comm, Int.reduceMul, Int.reduceNeg, Int.mul_one, Int.one_mul] <;> omega : (250 * m224 + (-1000) * n229) * (x7) = 250 * (m224 * x7) + (-1000) * (n229 * x7)).trans (by (try simp only [m290e.out, m238e.out]) <;> omega))
  exact e1 ▸ Int.mul_nonneg k (by omega)
theorem bh_am291 {m38 r223 : Int} (b_m38 : 0 ≤ m38 ∧ m38 ≤ 18356940) (b_r223 : 0 ≤ r223 ∧ r223 ≤ 8) : ∃ m : Int, Hd (m38 * r223 = m) ∧ ((0) * r223 + (0) * m38 - (0) ≤ m) ∧ ((18356940) * r223 + (8) * m38 - (146855520) ≤ m) ∧ (m ≤ (18356940) * r223 + (0) * m38 - (0)) ∧ (m ≤ (0) * r223 + (8) * m38 - (0)) ∧ (0 ≤ m ∧ m ≤ 146855520) := by
  obtain ⟨h1, h2, h3, h4⟩ := mcc (x := m38) (y := r223) b_m38.1 b_m38.2 b_r223.1 b_r223.2
  refine ⟨_, ⟨rfl⟩, ?_, ?_, ?_, ?_, ?_, ?_⟩ <;> omega
theorem bh_am292 {m224 r36 : Int} (b_m224 : 0 ≤ m224 ∧ m224 ≤ 575904) (b_r36 : 0 ≤ r36 ∧ r36 ≤ 19) : ∃ m : Int, Hd (m224 * r36 = m) ∧ ((0) * r36 + (0) * m224 - (0) ≤ m) ∧ ((575904) * r36 + (19) * m224 - (10942176) ≤ m) ∧ (m ≤ (575904) * r36 + (0) * m224 - (0)) ∧ (m ≤ (0) * r36 + (19) * m224 - (0)) ∧ (0 ≤ m ∧ m ≤ 10942176) := by
  obtain ⟨h1, h2, h3, h4⟩ := mcc (x := m224) (y := r36) b_m224.1 b_m224.2 b_r36.1 b_r36.2
  refine ⟨_, ⟨rfl⟩, ?_, ?_, ?_, ?_, ?_, ?_⟩ <;> omega
theorem bh_rf90 {m224 n229 r227 m244 m292 r36 g228 d230 w225 : Int} (b_r227 : 0 ≤ r227 ∧ r227 ≤ 999999) (b_r36 : 0 ≤ r36 ∧ r36 ≤ 19) (g228s : (r227 = 0 → g228 = 1000000 ∧ d230 = 1 ∧ 1000000 * n229 = w225) ∧ (d230 = 1 → r227 = 0)) (w225s : 250000 * m224 = w225) (m292e : Hd (m224 * r36 = m292)) (m244e : Hd (n229 * r36 = m244)) : 0 ≤ (-1) * r227 → 0 ≤ 1000 * m244 + (-250) * m292 := fun hc => by
  have k : 0 ≤ (-250) * m224 + 1000 * n229 := by omega
  have e1 : ((-250) * m224 + 1000 * n229) * (r36) = 1000 * m244 + (-250) * m292 := ((by simp only [Int.add_mul, Int.mul_add, Int.mul_assoc, Int.mul_comm, Int.mul_left_comm, Int.reduceMul, Int.reduceNeg, Int.mul_one, Int.one_mul] <;> omega : ((-250) * m224 + 1000 * n229) * (r36) = (-250) * (m224 * r36) + 1000 * (n229 * r36)).trans (by (try simp only [m292e.out, m244e.out]) <;> omega))
  exact e1 ▸ Int.mul_nonneg k (by omega)
theorem bh_rf91 {m224 n229 r227 m244 m292 r36 g228 d230 w225 : Int} (b_r227 : 0 ≤ r227 ∧ r227 ≤ 999999) (b_r36 : 0 ≤ r36 ∧ r36 ≤ 19) (g228s : (r227 = 0 → g228 = 1000000 ∧ d230 = 1 ∧ 1000000 * n229 = w225) ∧ (d230 = 1 → r227 = 0)) (w225s : 250000 * m224 = w225) (m292e : Hd (m224 * r36 = m292)) (m244e : Hd (n229 * r36 = m244)) : 0 ≤ (-1) * r227 → 0 ≤ (-1000) * m244 + 250 * m292 := fun hc => by
  have k : 0 ≤ 250 * m224 + (-1000) * n229 := by omega
  have e1 : (250 * m224 + (-1000) * n229) * (r36) = (-1000) * m244 + 250 * m292 := ((by simp only [Int.add_mul, Int.mul_add, Int.mul_assoc, Int.mul_comm, Int.mul_left_comm, Int.reduceMul, Int.reduceNeg, Int.mul_one, Int.one_mul] <;> omega : (250 * m224 + (-1000) * n229) * (r36) = 250 * (m224 * r36) + (-1000) * (n229 * r36)).trans (by (try simp only [m292e.out, m244e.out]) <;> omega))
  exact e1 ▸ Int.mul_nonneg k (by omega)
theorem bh_am293 {m37 r223 : Int} (b_m37 : 0 ≤ m37 ∧ m37 ≤ 1367772) (b_r223 : 0 ≤ r223 ∧ r223 ≤ 8) : ∃ m : Int, Hd (m37 * r223 = m) ∧ ((0) * r223 + (0) * m37 - (0) ≤ m) ∧ ((1367772) * r223 + (8) * m37 - (10942176) ≤ m) ∧ (m ≤ (1367772) * r223 + (0) * m37 - (0)) ∧ (m ≤ (0) * r223 + (8) * m37 - (0)) ∧ (0 ≤ m ∧ m ≤ 10942176) := by
  obtain ⟨h1, h2, h3, h4⟩ := mcc (x := m37) (y := r223) b_m37.1 b_m37.2 b_r223.1 b_r223.2
  refine ⟨_, ⟨rfl⟩, ?_, ?_, ?_, ?_, ?_, ?_⟩ <;> omega
theorem bh_rf93 {m38 w44 w6 : Int}  (rf9 : 0 ≤ (-1) * m38 + w44 + (-1) * w6) : 0 ≤ (-1) * m38 + w44 + (-1) * w6 := by omega
theorem bh_rf93_0 {m38 w44 w6 m224 m234 m291 r223 : Int} (b_r223 : 0 ≤ r223 ∧ r223 ≤ 8) (rf93 : 0 ≤ (-1) * m38 + w44 + (-1) * w6) (m291e : Hd (m38 * r223 = m291)) (m234e : Hd (r223 * w44 = m234)) (m224e : Hd (r223 * w6 = m224)) : 0 ≤ (-1) * m224 + m234 + (-1) * m291 := by
  have e1 : ((-1) * m38 + w44 + (-1) * w6) * (r223) = (-1) * m224 + m234 + (-1) * m291 := ((by simp only [Int.add_mul, Int.mul_add, Int.mul_assoc, Int.mul_comm, Int.mul_left_comm, Int.reduceMul, Int.reduceNeg, Int.mul_one, Int.one_mul] <;> omega : ((-1) * m38 + w44 + (-1) * w6) * (r223) = (-1) * (m38 * r223) + r223 * w44 + (-1) * (r223 * w6)).trans (by (try simp only [m291e.out, m234e.out, m224e.out]) <;> omega))
  exact e1 ▸ Int.mul_nonneg (by omega) (by omega)
theorem bh_rf94 {m38 w44 w6 : Int}  (rf10 : 0 ≤ m38 + (-1) * w44 + w6) : 0 ≤ m38 + (-1) * w44 + w6 := by omega
theorem bh_rf94_0 {m38 w44 w6 m224 m234 m291 r223 : Int} (b_r223 : 0 ≤ r223 ∧ r223 ≤ 8) (rf94 : 0 ≤ m38 + (-1) * w44 + w6) (m291e : Hd (m38 * r223 = m291)) (m234e : Hd (r223 * w44 = m234)) (m224e : Hd (r223 * w6 = m224)) : 0 ≤ m224 + (-1) * m234 + m291 := by
  have e1 : (m38 + (-1) * w44 + w6) * (r223) = m224 + (-1) * m234 + m291 := ((by simp only [Int.add_mul, Int.mul_add, Int.mul_assoc, Int.mul_comm, Int.mul_left_comm, Int.reduceMul, Int.reduceNeg, Int.mul_one, Int.one_mul] <;> omega : (m38 + (-1) * w44 + w6) * (r223) = m38 * r223 + (-1) * (r223 * w44) + r223 * w6).trans (by (try simp only [m291e.out, m234e.out, m224e.out]) <;> omega))
  exact e1 ▸ Int.mul_nonneg (by omega) (by omega)
theorem bh_rf95 {m37 m38 w39 w6 : Int}  (rf11 : 0 ≤ (-1) * m37 + (-1) * m38 + w39 + (-1) * w6) : 0 ≤ (-1) * m37 + (-1) * m38 + w39 + (-1) * w6 := by omega
theorem bh_rf95_0 {m37 m38 w39 w6 m224 m240 m291 m293 r223 : Int} (b_r223 : 0 ≤ r223 ∧ r223 ≤ 8) (rf95 : 0 ≤ (-1) * m37 + (-1) * m38 + w39 + (-1) * w6) (m293e : Hd (m37 * r223 = m293)) (m291e : Hd (m38 * r223 = m291)) (m240e : Hd (r223 * w39 = m240)) (m224e : Hd (r223 * w6 = m224)) : 0 ≤ (-1) * m224 + m240 + (-1) * m291 + (-1) * m293 := by
  have e1 : ((-1) * m37 + (-1) * m38 + w39 + (-1) * w6) * (r223) = (-1) * m224 + m240 + (-1) * m291 + (-1) * m293 := ((by simp only [Int.add_mul, Int.mul_add, Int.mul_assoc, Int.mul_comm, Int.mul_left_comm, Int.reduceMul, Int.reduceNeg, Int.mul_one, Int.one_mul] <;> omega : ((-1) * m37 + (-1) * m38 + w39 + (-1) * w6) * (r223) = (-1) * (m37 * r223) + (-1) * (m38 * r223) + r223 * w39 + (-1) * (r223 * w6)).trans (by (try simp only [m293e.out, m291e.out, m240e.out, m224e.out]) <;> omega))
  exact e1 ▸ Int.mul_nonneg (by omega) (by omega)
theorem bh_rf96 {m37 m38 w39 w6 : Int}  (rf12 : 0 ≤ m37 + m38 + (-1) * w39 + w6) : 0 ≤ m37 + m38 + (-1) * w39 + w6 := by omega
theorem bh_rf96_0 {m37 m38 w39 w6 m224 m240 m291 m293 r223 : Int} (b_r223 : 0 ≤ r223 ∧ r223 ≤ 8) (rf96 : 0 ≤ m37 + m38 + (-1) * w39 + w6) (m293e : Hd (m37 * r223 = m293)) (m291e : Hd (m38 * r223 = m291)) (m240e : Hd (r223 * w39 = m240)) (m224e : Hd (r223 * w6 = m224)) : 0 ≤ m224 + (-1) * m240 + m291 + m293 := by
  have e1 : (m37 + m38 + (-1) * w39 + w6) * (r223) = m224 + (-1) * m240 + m291 + m293 := ((by simp only [Int.add_mul, Int.mul_add, Int.mul_assoc, Int.mul_comm, Int.mul_left_comm, Int.reduceMul, Int.reduceNeg, Int.mul_one, Int.one_mul] <;> omega : (m37 + m38 + (-1) * w39 + w6) * (r223) = m37 * r223 + m38 * r223 + (-1) * (r223 * w39) + r223 * w6).trans (by (try simp only [m293e.out, m291e.out, m240e.out, m224e.out]) <;> omega))
  exact e1 ▸ Int.mul_nonneg (by omega) (by omega)
set_option maxHeartbeats 40000000 in
theorem bh_g0 {ρ : Env} {x9 r2 r4 w6 m5 r8 r10 r12 r14 r16 r18 x10 r20 x11 r22 x14 r24 w26 m25 g29 d31 n30 w32 q33 x7 x8 r36 w39 m37 m38 x1 x2 x3 x4 r41 x5 x6 r43 w44 w47 m45 m46 w50 m48 m49 w51 w52 w54 m53 q55 q59 w57 w58 w62 m61 w64 m63 q65 q68 w67 w71 m70 r73 w75 m74 g78 d80 n79 w81 q82 w85 m84 q86 w89 m88 w91 m90 q92 w95 m94 r97 w99 m98 g102 d104 n103 w105 q106 w109 m108 q110 w113 m112 w115 m114 q116 w119 m118 r121 w123 m122 g126 d128 n127 w129 q130 w133 m132 q134 w137 m136 w139 m138 q140 w143 m142 r145 r147 r149 r151 w153 m152 g156 d158 n157 w159 q160 w163 m162 q164 w167 m166 w169 m168 q170 w173 m172 r175 w177 m176 g180 d182 n181 w183 q184 w187 m186 q188 w191 m190 w193 m192 q194 w197 m196 r199 w201 m200 g204 d206 n205 w207 q208 w211 m210 q212 w215 m214 w217 m216 q218 w221 m220 r223 w225 m224 g228 d230 n229 w231 q232 w235 m234 q236 w239 m238 w241 m240 q242 w245 m244 : Int} (e9 : Is ρ (.v 9) x9) (r2e : Hd ((x9) % 5000 = r2)) (r4e : Hd ((x9) % 3 = r4)) (m5e : Hd (r2 * r4 = m5)) (w6s : Hd (4 * m5 + 4 * r2 + 4000 * r4 + 4000 = w6)) (r8e : Hd ((500 * w6) % 1000 = r8)) (r10e : Hd ((250 * w6) % 1000 = r10)) (r12e : Hd ((125 * w6) % 1000 = r12)) (r14e : Hd ((25 * w6) % 1000 = r14)) (r16e : Hd ((5 * w6) % 1000 = r16)) (r18e : Hd ((w6) % 1000 = r18)) (e10 : Is ρ (.v 10) x10) (r20e : Hd ((x10) % 900 = r20)) (e11 : Is ρ (.v 11) x11) (r22e : Hd ((x11) % 900 = r22)) (e14 : Is ρ (.v 14) x14) (r24e : Hd ((x14) % 2001 = r24)) (m25e : Hd (r24 * w6 = m25)) (w26s : Hd (1000 * m25 = w26)) (g29e : Hd ((Int.gcd w26 1000000 : Int) = g29)) (d31e : Hd (d31 * g29 = 1000000)) (n30e : Hd (n30 * g29 = w26)) (w32s : Hd (m25 = w32)) (q33e : Hd ((w32) / 1000 = q33)) (e7 : Is ρ (.v 7) x7) (e8 : Is ρ (.v 8) x8) (r36e : Hd ((x8) % 20 = r36)) (m37e : Hd (r36 * w6 = m37)) (m38e : Hd (w6 * x7 = m38)) (w39s : Hd (m37 + m38 + w6 = w39)) (e1 : Is ρ (.v 1) x1) (e2 : Is ρ (.v 2) x2) (e3 : Is ρ (.v 3) x3) (e4 : Is ρ (.v 4) x4) (r41e : Hd ((x4) % 60 = r41)) (e5 : Is ρ (.v 5) x5) (e6 : Is ρ (.v 6) x6) (r43e : Hd ((x6) % 60 = r43)) (w44s : Hd (m38 + w6 = w44)) (m45e : Hd (r41 * x1 = m45)) (m46e : Hd (x1 * x3 = m46)) (w47s : Hd (20 * m45 + 20 * m46 = w47)) (m48e : Hd (r43 * x2 = m48)) (m49e : Hd (x2 * x5 = m49)) (w50s : Hd (30 * m48 + 30 * m49 = w50)) (w51s : Hd (20 * m46 = w51)) (w52s : Hd (30 * m49 = w52)) (m53e : Hd (r24 * w44 = m53)) (w54s : Hd (m53 = w54)) (q55e : Hd ((w54) / 1000 = q55)) (q59e : Hd (w57.tdiv w58 = q59)) (w57s : Hd (0 = w57)) (w58s : Hd (w47 + w50 + 100000 = w58)) (m61e : Hd (n30 * x7 = m61)) (w62s : Hd (m61 + n30 = w62)) (m63e : Hd (r24 * w39 = m63)) (w64s : Hd (m63 = w64)) (q65e : Hd ((w64) / 1000 = q65)) (q68e : Hd (w57.tdiv w67 = q68)) (w67s : Hd (w51 + w52 + 100000 = w67)) (m70e : Hd (n30 * r36 = m70)) (w71s : Hd (m61 + m70 + n30 = w71)) (r73e : Hd ((x14) % 401 = r73)) (m74e : Hd (r73 * w6 = m74)) (w75s : Hd (5000 * m74 = w75)) (g78e : Hd ((Int.gcd w75 1000000 : Int) = g78)) (d80e : Hd (d80 * g78 = 1000000)) (n79e : Hd (n79 * g78 = w75)) (w81s : Hd (5 * m74 = w81)) (q82e : Hd ((w81) / 1000 = q82)) (m84e : Hd (r73 * w44 = m84)) (w85s : Hd (5 * m84 = w85)) (q86e : Hd ((w85) / 1000 = q86)) (m88e : Hd (n79 * x7 = m88)) (w89s : Hd (m88 + n79 = w89)) (m90e : Hd (r73 * w39 = m90)) (w91s : Hd (5 * m90 = w91)) (q92e : Hd ((w91) / 1000 = q92)) (m94e : Hd (n79 * r36 = m94)) (w95s : Hd (m88 + m94 + n79 = w95)) (r97e : Hd ((x14) % 81 = r97)) (m98e : Hd (r97 * w6 = m98)) (w99s : Hd (25000 * m98 = w99)) (g102e : Hd ((Int.gcd w99 1000000 : Int) = g102)) (d104e : Hd (d104 * g102 = 1000000)) (n103e : Hd (n103 * g102 = w99)) (w105s : Hd (25 * m98 = w105)) (q106e : Hd ((w105) / 1000 = q106)) (m108e : Hd (r97 * w44 = m108)) (w109s : Hd (25 * m108 = w109)) (q110e : Hd ((w109) / 1000 = q110)) (m112e : Hd (n103 * x7 = m112)) (w113s : Hd (m112 + n103 = w113)) (m114e : Hd (r97 * w39 = m114)) (w115s : Hd (25 * m114 = w115)) (q116e : Hd ((w115) / 1000 = q116)) (m118e : Hd (n103 * r36 = m118)) (w119s : Hd (m112 + m118 + n103 = w119)) (r121e : Hd ((x14) % 17 = r121)) (m122e : Hd (r121 * w6 = m122)) (w123s : Hd (125000 * m122 = w123)) (g126e : Hd ((Int.gcd w123 1000000 : Int) = g126)) (d128e : Hd (d128 * g126 = 1000000)) (n127e : Hd (n127 * g126 = w123)) (w129s : Hd (125 * m122 = w129)) (q130e : Hd ((w129) / 1000 = q130)) (m132e : Hd (r121 * w44 = m132)) (w133s : Hd (125 * m132 = w133)) (q134e : Hd ((w133) / 1000 = q134)) (m136e : Hd (n127 * x7 = m136)) (w137s : Hd (m136 + n127 = w137)) (m138e : Hd (r121 * w39 = m138)) (w139s : Hd (125 * m138 = w139)) (q140e : Hd ((w139) / 1000 = q140)) (m142e : Hd (n127 * r36 = m142)) (w143s : Hd (m136 + m142 + n127 = w143)) (r145e : Hd ((50 * w6) % 1000 = r145)) (r147e : Hd ((10 * w6) % 1000 = r147)) (r149e : Hd ((2 * w6) % 1000 = r149)) (r151e : Hd ((x14) % 1001 = r151)) (m152e : Hd (r151 * w6 = m152)) (w153s : Hd (2000 * m152 = w153)) (g156e : Hd ((Int.gcd w153 1000000 : Int) = g156)) (d158e : Hd (d158 * g156 = 1000000)) (n157e : Hd (n157 * g156 = w153)) (w159s : Hd (2 * m152 = w159)) (q160e : Hd ((w159) / 1000 = q160)) (m162e : Hd (r151 * w44 = m162)) (w163s : Hd (2 * m162 = w163)) (q164e : Hd ((w163) / 1000 = q164)) (m166e : Hd (n157 * x7 = m166)) (w167s : Hd (m166 + n157 = w167)) (m168e : Hd (r151 * w39 = m168)) (w169s : Hd (2 * m168 = w169)) (q170e : Hd ((w169) / 1000 = q170)) (m172e : Hd (n157 * r36 = m172)) (w173s : Hd (m166 + m172 + n157 = w173)) (r175e : Hd ((x14) % 201 = r175)) (m176e : Hd (r175 * w6 = m176)) (w177s : Hd (10000 * m176 = w177)) (g180e : Hd ((Int.gcd w177 1000000 : Int) = g180)) (d182e : Hd (d182 * g180 = 1000000)) (n181e : Hd (n181 * g180 = w177)) (w183s : Hd (10 * m176 = w183)) (q184e : Hd ((w183) / 1000 = q184)) (m186e : Hd (r175 * w44 = m186)) (w187s : Hd (10 * m186 = w187)) (q188e : Hd ((w187) / 1000 = q188)) (m190e : Hd (n181 * x7 = m190)) (w191s : Hd (m190 + n181 = w191)) (m192e : Hd (r175 * w39 = m192)) (w193s : Hd (10 * m192 = w193)) (q194e : Hd ((w193) / 1000 = q194)) (m196e : Hd (n181 * r36 = m196)) (w197s : Hd (m190 + m196 + n181 = w197)) (r199e : Hd ((x14) % 41 = r199)) (m200e : Hd (r199 * w6 = m200)) (w201s : Hd (50000 * m200 = w201)) (g204e : Hd ((Int.gcd w201 1000000 : Int) = g204)) (d206e : Hd (d206 * g204 = 1000000)) (n205e : Hd (n205 * g204 = w201)) (w207s : Hd (50 * m200 = w207)) (q208e : Hd ((w207) / 1000 = q208)) (m210e : Hd (r199 * w44 = m210)) (w211s : Hd (50 * m210 = w211)) (q212e : Hd ((w211) / 1000 = q212)) (m214e : Hd (n205 * x7 = m214)) (w215s : Hd (m214 + n205 = w215)) (m216e : Hd (r199 * w39 = m216)) (w217s : Hd (50 * m216 = w217)) (q218e : Hd ((w217) / 1000 = q218)) (m220e : Hd (n205 * r36 = m220)) (w221s : Hd (m214 + m220 + n205 = w221)) (r223e : Hd ((x14) % 9 = r223)) (m224e : Hd (r223 * w6 = m224)) (w225s : Hd (250000 * m224 = w225)) (g228e : Hd ((Int.gcd w225 1000000 : Int) = g228)) (d230e : Hd (d230 * g228 = 1000000)) (n229e : Hd (n229 * g228 = w225)) (w231s : Hd (250 * m224 = w231)) (q232e : Hd ((w231) / 1000 = q232)) (m234e : Hd (r223 * w44 = m234)) (w235s : Hd (250 * m234 = w235)) (q236e : Hd ((w235) / 1000 = q236)) (m238e : Hd (n229 * x7 = m238)) (w239s : Hd (m238 + n229 = w239)) (m240e : Hd (r223 * w39 = m240)) (w241s : Hd (250 * m240 = w241)) (q242e : Hd ((w241) / 1000 = q242)) (m244e : Hd (n229 * r36 = m244)) (w245s : Hd (m238 + m244 + n229 = w245)) (b_x9 : 0 ≤ x9 ∧ x9 ≤ 65535) (b_r2 : 0 ≤ r2 ∧ r2 ≤ 4999) (b_r4 : 0 ≤ r4 ∧ r4 ≤ 2) (b_w6 : 4000 ≤ w6 ∧ w6 ≤ 71988) (b_m5 : 0 ≤ m5 ∧ m5 ≤ 9998) (b_r8 : 0 ≤ r8 ∧ r8 ≤ 999) (b_r10 : 0 ≤ r10 ∧ r10 ≤ 999) (b_r12 : 0 ≤ r12 ∧ r12 ≤ 999) (b_r14 : 0 ≤ r14 ∧ r14 ≤ 999) (b_r16 : 0 ≤ r16 ∧ r16 ≤ 999) (b_r18 : 0 ≤ r18 ∧ r18 ≤ 999) (b_x10 : 0 ≤ x10 ∧ x10 ≤ 65535) (b_r20 : 0 ≤ r20 ∧ r20 ≤ 899) (b_x11 : 0 ≤ x11 ∧ x11 ≤ 65535) (b_r22 : 0 ≤ r22 ∧ r22 ≤ 899) (b_x14 : 0 ≤ x14 ∧ x14 ≤ 65535) (b_r24 : 0 ≤ r24 ∧ r24 ≤ 2000) (b_w26 : 0 ≤ w26 ∧ w26 ≤ 143976000000) (b_m25 : 0 ≤ m25 ∧ m25 ≤ 143976000) (b_g29 : 1 ≤ g29 ∧ g29 ≤ 1000000) (b_d31 : 1 ≤ d31 ∧ d31 ≤ 1000000) (b_n30 : 0 ≤ n30 ∧ n30 ≤ 143976000000) (b_w32 : 0 ≤ w32 ∧ w32 ≤ 143976000) (b_q33 : 0 ≤ q33 ∧ q33 ≤ 143976) (b_x7 : 0 ≤ x7 ∧ x7 ≤ 255) (b_x8 : 0 ≤ x8 ∧ x8 ≤ 255) (b_r36 : 0 ≤ r36 ∧ r36 ≤ 19) (b_w39 : 4000 ≤ w39 ∧ w39 ≤ 19796700) (b_m37 : 0 ≤ m37 ∧ m37 ≤ 1367772) (b_m38 : 0 ≤ m38 ∧ m38 ≤ 18356940) (b_x1 : 0 ≤ x1 ∧ x1 ≤ 255) (b_x2 : 0 ≤ x2 ∧ x2 ≤ 255) (b_x3 : 0 ≤ x3 ∧ x3 ≤ 255) (b_x4 : 0 ≤ x4 ∧ x4 ≤ 255) (b_r41 : 0 ≤ r41 ∧ r41 ≤ 59) (b_x5 : 0 ≤ x5 ∧ x5 ≤ 255) (b_x6 : 0 ≤ x6 ∧ x6 ≤ 255) (b_r43 : 0 ≤ r43 ∧ r43 ≤ 59) (b_w44 : 4000 ≤ w44 ∧ w44 ≤ 18428928) (b_w47 : 0 ≤ w47 ∧ w47 ≤ 1601400) (b_m45 : 0 ≤ m45 ∧ m45 ≤ 15045) (b_m46 : 0 ≤ m46 ∧ m46 ≤ 65025) (b_w50 : 0 ≤ w50 ∧ w50 ≤ 2402100) (b_m48 : 0 ≤ m48 ∧ m48 ≤ 15045) (b_m49 : 0 ≤ m49 ∧ m49 ≤ 65025) (b_w51 : 0 ≤ w51 ∧ w51 ≤ 1300500) (b_w52 : 0 ≤ w52 ∧ w52 ≤ 1950750) (b_w54 : 0 ≤ w54 ∧ w54 ≤ 36857856000) (b_m53 : 0 ≤ m53 ∧ m53 ≤ 36857856000) (b_q55 : 0 ≤ q55 ∧ q55 ≤ 36857856) (b_q59 : 0 ≤ q59 ∧ q59 ≤ 0) (b_w57 : 0 ≤ w57 ∧ w57 ≤ 0) (b_w58 : 100000 ≤ w58 ∧ w58 ≤ 4103500) (b_w62 : 0 ≤ w62 ∧ w62 ≤ 36857856000000) (b_m61 : 0 ≤ m61 ∧ m61 ≤ 36713880000000) (b_w64 : 0 ≤ w64 ∧ w64 ≤ 39593400000) (b_m63 : 0 ≤ m63 ∧ m63 ≤ 39593400000) (b_q65 : 0 ≤ q65 ∧ q65 ≤ 39593400) (b_q68 : 0 ≤ q68 ∧ q68 ≤ 0) (b_w67 : 100000 ≤ w67 ∧ w67 ≤ 3351250) (b_w71 : 0 ≤ w71 ∧ w71 ≤ 39593400000000) (b_m70 : 0 ≤ m70 ∧ m70 ≤ 2735544000000) (b_r73 : 0 ≤ r73 ∧ r73 ≤ 400) (b_w75 : 0 ≤ w75 ∧ w75 ≤ 143976000000) (b_m74 : 0 ≤ m74 ∧ m74 ≤ 28795200) (b_g78 : 1 ≤ g78 ∧ g78 ≤ 1000000) (b_d80 : 1 ≤ d80 ∧ d80 ≤ 1000000) (b_n79 : 0 ≤ n79 ∧ n79 ≤ 143976000000) (b_w81 : 0 ≤ w81 ∧ w81 ≤ 143976000) (b_q82 : 0 ≤ q82 ∧ q82 ≤ 143976) (b_w85 : 0 ≤ w85 ∧ w85 ≤ 36857856000) (b_m84 : 0 ≤ m84 ∧ m84 ≤ 7371571200) (b_q86 : 0 ≤ q86 ∧ q86 ≤ 36857856) (b_w89 : 0 ≤ w89 ∧ w89 ≤ 36857856000000) (b_m88 : 0 ≤ m88 ∧ m88 ≤ 36713880000000) (b_w91 : 0 ≤ w91 ∧ w91 ≤ 39593400000) (b_m90 : 0 ≤ m90 ∧ m90 ≤ 7918680000) (b_q92 : 0 ≤ q92 ∧ q92 ≤ 39593400) (b_w95 : 0 ≤ w95 ∧ w95 ≤ 39593400000000) (b_m94 : 0 ≤ m94 ∧ m94 ≤ 2735544000000) (b_r97 : 0 ≤ r97 ∧ r97 ≤ 80) (b_w99 : 0 ≤ w99 ∧ w99 ≤ 143976000000) (b_m98 : 0 ≤ m98 ∧ m98 ≤ 5759040) (b_g102 : 1 ≤ g102 ∧ g102 ≤ 1000000) (b_d104 : 1 ≤ d104 ∧ d104 ≤ 1000000) (b_n103 : 0 ≤ n103 ∧ n103 ≤ 143976000000) (b_w105 : 0 ≤ w105 ∧ w105 ≤ 143976000) (b_q106 : 0 ≤ q106 ∧ q106 ≤ 143976) (b_w109 : 0 ≤ w109 ∧ w109 ≤ 36857856000) (b_m108 : 0 ≤ m108 ∧ m108 ≤ 1474314240) (b_q110 : 0 ≤ q110 ∧ q110 ≤ 36857856) (b_w113 : 0 ≤ w113 ∧ w113 ≤ 36857856000000) (b_m112 : 0 ≤ m112 ∧ m112 ≤ 36713880000000) (b_w115 : 0 ≤ w115 ∧ w115 ≤ 39593400000) (b_m114 : 0 ≤ m114 ∧ m114 ≤ 1583736000) (b_q116 : 0 ≤ q116 ∧ q116 ≤ 39593400) (b_w119 : 0 ≤ w119 ∧ w119 ≤ 39593400000000) (b_m118 : 0 ≤ m118 ∧ m118 ≤ 2735544000000) (b_r121 : 0 ≤ r121 ∧ r121 ≤ 16) (b_w123 : 0 ≤ w123 ∧ w123 ≤ 143976000000) (b_m122 : 0 ≤ m122 ∧ m122 ≤ 1151808) (b_g126 : 1 ≤ g126 ∧ g126 ≤ 1000000) (b_d128 : 1 ≤ d128 ∧ d128 ≤ 1000000) (b_n127 : 0 ≤ n127 ∧ n127 ≤ 143976000000) (b_w129 : 0 ≤ w129 ∧ w129 ≤ 143976000) (b_q130 : 0 ≤ q130 ∧ q130 ≤ 143976) (b_w133 : 0 ≤ w133 ∧ w133 ≤ 36857856000) (b_m132 : 0 ≤ m132 ∧ m132 ≤ 294862848) (b_q134 : 0 ≤ q134 ∧ q134 ≤ 36857856) (b_w137 : 0 ≤ w137 ∧ w137 ≤ 36857856000000) (b_m136 : 0 ≤ m136 ∧ m136 ≤ 36713880000000) (b_w139 : 0 ≤ w139 ∧ w139 ≤ 39593400000) (b_m138 : 0 ≤ m138 ∧ m138 ≤ 316747200) (b_q140 : 0 ≤ q140 ∧ q140 ≤ 39593400) (b_w143 : 0 ≤ w143 ∧ w143 ≤ 39593400000000) (b_m142 : 0 ≤ m142 ∧ m142 ≤ 2735544000000) (b_r145 : 0 ≤ r145 ∧ r145 ≤ 999) (b_r147 : 0 ≤ r147 ∧ r147 ≤ 999) (b_r149 : 0 ≤ r149 ∧ r149 ≤ 999) (b_r151 : 0 ≤ r151 ∧ r151 ≤ 1000) (b_w153 : 0 ≤ w153 ∧ w153 ≤ 143976000000) (b_m152 : 0 ≤ m152 ∧ m152 ≤ 71988000) (b_g156 : 1 ≤ g156 ∧ g156 ≤ 1000000) (b_d158 : 1 ≤ d158 ∧ d158 ≤ 1000000) (b_n157 : 0 ≤ n157 ∧ n157 ≤ 143976000000) (b_w159 : 0 ≤ w159 ∧ w159 ≤ 143976000) (b_q160 : 0 ≤ q160 ∧ q160 ≤ 143976) (b_w163 : 0 ≤ w163 ∧ w163 ≤ 36857856000) (b_m162 : 0 ≤ m162 ∧ m162 ≤ 18428928000) (b_q164 : 0 ≤ q164 ∧ q164 ≤ 36857856) (b_w167 : 0 ≤ w167 ∧ w167 ≤ 36857856000000) (b_m166 : 0 ≤ m166 ∧ m166 ≤ 36713880000000) (b_w169 : 0 ≤ w169 ∧ w169 ≤ 39593400000) (b_m168 : 0 ≤ m168 ∧ m168 ≤ 19796700000) (b_q170 : 0 ≤ q170 ∧ q170 ≤ 39593400) (b_w173 : 0 ≤ w173 ∧ w173 ≤ 39593400000000) (b_m172 : 0 ≤ m172 ∧ m172 ≤ 2735544000000) (b_r175 : 0 ≤ r175 ∧ r175 ≤ 200) (b_w177 : 0 ≤ w177 ∧ w177 ≤ 143976000000) (b_m176 : 0 ≤ m176 ∧ m176 ≤ 14397600) (b_g180 : 1 ≤ g180 ∧ g180 ≤ 1000000) (b_d182 : 1 ≤ d182 ∧ d182 ≤ 1000000) (b_n181 : 0 ≤ n181 ∧ n181 ≤ 143976000000) (b_w183 : 0 ≤ w183 ∧ w183 ≤ 143976000) (b_q184 : 0 ≤ q184 ∧ q184 ≤ 143976) (b_w187 : 0 ≤ w187 ∧ w187 ≤ 36857856000) (b_m186 : 0 ≤ m186 ∧ m186 ≤ 3685785600) (b_q188 : 0 ≤ q188 ∧ q188 ≤ 36857856) (b_w191 : 0 ≤ w191 ∧ w191 ≤ 36857856000000) (b_m190 : 0 ≤ m190 ∧ m190 ≤ 36713880000000) (b_w193 : 0 ≤ w193 ∧ w193 ≤ 39593400000) (b_m192 : 0 ≤ m192 ∧ m192 ≤ 3959340000) (b_q194 : 0 ≤ q194 ∧ q194 ≤ 39593400) (b_w197 : 0 ≤ w197 ∧ w197 ≤ 39593400000000) (b_m196 : 0 ≤ m196 ∧ m196 ≤ 2735544000000) (b_r199 : 0 ≤ r199 ∧ r199 ≤ 40) (b_w201 : 0 ≤ w201 ∧ w201 ≤ 143976000000) (b_m200 : 0 ≤ m200 ∧ m200 ≤ 2879520) (b_g204 : 1 ≤ g204 ∧ g204 ≤ 1000000) (b_d206 : 1 ≤ d206 ∧ d206 ≤ 1000000) (b_n205 : 0 ≤ n205 ∧ n205 ≤ 143976000000) (b_w207 : 0 ≤ w207 ∧ w207 ≤ 143976000) (b_q208 : 0 ≤ q208 ∧ q208 ≤ 143976) (b_w211 : 0 ≤ w211 ∧ w211 ≤ 36857856000) (b_m210 : 0 ≤ m210 ∧ m210 ≤ 737157120) (b_q212 : 0 ≤ q212 ∧ q212 ≤ 36857856) (b_w215 : 0 ≤ w215 ∧ w215 ≤ 36857856000000) (b_m214 : 0 ≤ m214 ∧ m214 ≤ 36713880000000) (b_w217 : 0 ≤ w217 ∧ w217 ≤ 39593400000) (b_m216 : 0 ≤ m216 ∧ m216 ≤ 791868000) (b_q218 : 0 ≤ q218 ∧ q218 ≤ 39593400) (b_w221 : 0 ≤ w221 ∧ w221 ≤ 39593400000000) (b_m220 : 0 ≤ m220 ∧ m220 ≤ 2735544000000) (b_r223 : 0 ≤ r223 ∧ r223 ≤ 8) (b_w225 : 0 ≤ w225 ∧ w225 ≤ 143976000000) (b_m224 : 0 ≤ m224 ∧ m224 ≤ 575904) (b_g228 : 1 ≤ g228 ∧ g228 ≤ 1000000) (b_d230 : 1 ≤ d230 ∧ d230 ≤ 1000000) (b_n229 : 0 ≤ n229 ∧ n229 ≤ 143976000000) (b_w231 : 0 ≤ w231 ∧ w231 ≤ 143976000) (b_q232 : 0 ≤ q232 ∧ q232 ≤ 143976) (b_w235 : 0 ≤ w235 ∧ w235 ≤ 36857856000) (b_m234 : 0 ≤ m234 ∧ m234 ≤ 147431424) (b_q236 : 0 ≤ q236 ∧ q236 ≤ 36857856) (b_w239 : 0 ≤ w239 ∧ w239 ≤ 36857856000000) (b_m238 : 0 ≤ m238 ∧ m238 ≤ 36713880000000) (b_w241 : 0 ≤ w241 ∧ w241 ≤ 39593400000) (b_m240 : 0 ≤ m240 ∧ m240 ≤ 158373600) (b_q242 : 0 ≤ q242 ∧ q242 ≤ 39593400) (b_w245 : 0 ≤ w245 ∧ w245 ≤ 39593400000000) (b_m244 : 0 ≤ m244 ∧ m244 ≤ 2735544000000) : Is ρ bh3 (4 * r2 + 4000) ∧ Is ρ bh5 (r4 + 1) ∧ Is ρ bh8 (r8) ∧ Is ρ bh10 (r10) ∧ Is ρ bh12 (r12) ∧ Is ρ bh14 (r14) ∧ Is ρ bh16 (r16) ∧ Is ρ bh18 (r18) ∧ Is ρ bh21 (r20 + 1) ∧ Is ρ bh24 (r22 + 1) ∧ Is ρ bh26 (900 * r20 + 900 * r22 + 1800) ∧ Is ρ bh27 (2000 * r2 + 2000000) ∧ Is ρ bh30 (r24) ∧ Is ρ bh31 (1000 * r24) ∧ Is ρ bh32 (w26) ∧ Is ρ bh34 (d31) ∧ Is ρ bh35 (n30) ∧ Is ρ bh37 (q33) ∧ Is ρ bh39 (x7 + 1) ∧ Is ρ bh42 (r36 + x7 + 1) ∧ Is ρ bh43 (w39) ∧ Is ρ bh45 (20 * x1) ∧ Is ρ bh47 (30 * x2) ∧ Is ρ bh48 (x3) ∧ Is ρ bh51 (r41 + x3) ∧ Is ρ bh52 (x5) ∧ Is ρ bh55 (r43 + x5) ∧ Is ρ bh56 (w44) ∧ Is ρ bh60 (w47 + w50 + 100000) ∧ Is ρ bh64 (w51 + w52 + 100000) ∧ Is ρ bh68 (q55 + q59) ∧ Is ρ bh69 (w62) ∧ Is ρ bh73 (q65 + q68) ∧ Is ρ bh74 (w71) ∧ Is ρ bh76 (5 * r73) ∧ Is ρ bh77 (5000 * r73) ∧ Is ρ bh78 (w75) ∧ Is ρ bh80 (d80) ∧ Is ρ bh81 (n79) ∧ Is ρ bh83 (q82) ∧ Is ρ bh86 (q59 + q86) ∧ Is ρ bh87 (w89) ∧ Is ρ bh90 (q68 + q92) ∧ Is ρ bh91 (w95) ∧ Is ρ bh93 (25 * r97) ∧ Is ρ bh94 (25000 * r97) ∧ Is ρ bh95 (w99) ∧ Is ρ bh97 (d104) ∧ Is ρ bh98 (n103) ∧ Is ρ bh100 (q106) ∧ Is ρ bh103 (q110 + q59) ∧ Is ρ bh104 (w113) ∧ Is ρ bh107 (q116 + q68) ∧ Is ρ bh108 (w119) ∧ Is ρ bh110 (125 * r121) ∧ Is ρ bh111 (125000 * r121) ∧ Is ρ bh112 (w123) ∧ Is ρ bh114 (d128) ∧ Is ρ bh115 (n127) ∧ Is ρ bh117 (q130) ∧ Is ρ bh120 (q134 + q59) ∧ Is ρ bh121 (w137) ∧ Is ρ bh124 (q140 + q68) ∧ Is ρ bh125 (w143) ∧ Is ρ bh127 (r145) ∧ Is ρ bh129 (r147) ∧ Is ρ bh131 (r149) ∧ Is ρ bh133 (2 * r151) ∧ Is ρ bh134 (2000 * r151) ∧ Is ρ bh135 (w153) ∧ Is ρ bh137 (d158) ∧ Is ρ bh138 (n157) ∧ Is ρ bh140 (q160) ∧ Is ρ bh143 (q164 + q59) ∧ Is ρ bh144 (w167) ∧ Is ρ bh147 (q170 + q68) ∧ Is ρ bh148 (w173) ∧ Is ρ bh150 (10 * r175) ∧ Is ρ bh151 (10000 * r175) ∧ Is ρ bh152 (w177) ∧ Is ρ bh154 (d182) ∧ Is ρ bh155 (n181) ∧ Is ρ bh157 (q184) ∧ Is ρ bh160 (q188 + q59) ∧ Is ρ bh161 (w191) ∧ Is ρ bh164 (q194 + q68) ∧ Is ρ bh165 (w197) ∧ Is ρ bh167 (50 * r199) ∧ Is ρ bh168 (50000 * r199) ∧ Is ρ bh169 (w201) ∧ Is ρ bh171 (d206) ∧ Is ρ bh172 (n205) ∧ Is ρ bh174 (q208) ∧ Is ρ bh177 (q212 + q59) ∧ Is ρ bh178 (w215) ∧ Is ρ bh181 (q218 + q68) ∧ Is ρ bh182 (w221) ∧ Is ρ bh184 (250 * r223) ∧ Is ρ bh185 (250000 * r223) ∧ Is ρ bh186 (w225) ∧ Is ρ bh188 (d230) ∧ Is ρ bh189 (n229) ∧ Is ρ bh191 (q232) ∧ Is ρ bh194 (q236 + q59) ∧ Is ρ bh195 (w239) ∧ Is ρ bh198 (q242 + q68) ∧ Is ρ bh199 (w245) := by
  have h0 : Is ρ bh0 (x9) := Zconv e9 (by omega)
  have h1 : Is ρ bh1 (r2) := Zremp h0 (Zc 5000) (by omega) r2e.out
  have h2 : Is ρ bh2 (r2 + 1000) := Ya (Zc 1000) h1 (by omega)
  have h3 : Is ρ bh3 (4 * r2 + 4000) := Ym (Zc 4) h2 (by omega)
  have h4 : Is ρ bh4 (r4) := Zremp h0 (Zc 3) (by omega) r4e.out
  have h5 : Is ρ bh5 (r4 + 1) := Ya (Zc 1) h4 (by omega)
  have h6 : Is ρ bh6 (w6) := by
    have w6s := w6s.out
    exact Zmul h3 h5 (by omega) (((by simp only [Int.add_mul, Int.mul_add, Int.mul_assoc, Int.mul_comm, Int.mul_left_comm, Int.reduceMul, Int.reduceNeg, Int.mul_one, Int.one_mul] <;> omega : (4 * r2 + 4000) * (r4 + 1) = 4 * (r2 * r4) + 4 * r2 + 4000 * r4 + 4000).trans (by (try simp only [m5e.out]) <;> omega)).trans w6s)
  have h7 : Is ρ bh7 (500 * w6) := Ym h6 (Zc 500) (by omega)
  have h8 : Is ρ bh8 (r8) := Zremp h7 (Zc 1000) (by omega) r8e.out
  have h9 : Is ρ bh9 (250 * w6) := Ym h6 (Zc 250) (by omega)
  have h10 : Is ρ bh10 (r10) := Zremp h9 (Zc 1000) (by omega) r10e.out
  have h11 : Is ρ bh11 (125 * w6) := Ym h6 (Zc 125) (by omega)
  have h12 : Is ρ bh12 (r12) := Zremp h11 (Zc 1000) (by omega) r12e.out
  have h13 : Is ρ bh13 (25 * w6) := Ym h6 (Zc 25) (by omega)
  have h14 : Is ρ bh14 (r14) := Zremp h13 (Zc 1000) (by omega) r14e.out
  have h15 : Is ρ bh15 (5 * w6) := Ym h6 (Zc 5) (by omega)
  have h16 : Is ρ bh16 (r16) := Zremp h15 (Zc 1000) (by omega) r16e.out
  have h17 : Is ρ bh17 (w6) := Ym h6 (Zc 1) (by omega)
  have h18 : Is ρ bh18 (r18) := Zremp h17 (Zc 1000) (by omega) r18e.out
  have h19 : Is ρ bh19 (x10) := Zconv e10 (by omega)
  have h20 : Is ρ bh20 (r20) := Zremp h19 (Zc 900) (by omega) r20e.out
  have h21 : Is ρ bh21 (r20 + 1) := Ya (Zc 1) h20 (by omega)
  have h22 : Is ρ bh22 (x11) := Zconv e11 (by omega)
  have h23 : Is ρ bh23 (r22) := Zremp h22 (Zc 900) (by omega) r22e.out
  have h24 : Is ρ bh24 (r22 + 1) := Ya (Zc 1) h23 (by omega)
  have h25 : Is ρ bh25 (r20 + r22 + 2) := Ya h21 h24 (by omega)
  have h26 : Is ρ bh26 (900 * r20 + 900 * r22 + 1800) := Ym (Zc 900) h25 (by omega)
  have h27 : Is ρ bh27 (2000 * r2 + 2000000) := Ym (Zc 500) h3 (by omega)
  have h28 : Is ρ bh28 (x14) := Zconv e14 (by omega)
  have h29 : Is ρ bh29 (r24) := Zremp h28 (Zc 2001) (by omega) r24e.out
  have h30 : Is ρ bh30 (r24) := Ym (Zc 1) h29 (by omega)
  have h31 : Is ρ bh31 (1000 * r24) := Ym (Zc 1000) h30 (by omega)
  have h32 : Is ρ bh32 (w26) := by
    have w26s := w26s.out
    exact Zmul h6 h31 (by omega) (((by simp only [Int.add_mul, Int.mul_add, Int.mul_assoc, Int.mul_comm, Int.mul_left_comm, Int.reduceMul, Int.reduceNeg, Int.mul_one, Int.one_mul] <;> omega : (w6) * (1000 * r24) = 1000 * (r24 * w6)).trans (by (try simp only [m25e.out]) <;> omega)).trans w26s)
  have h33 : Is ρ bh33 (g29) := Zgcd h32 (Zc 1000000) g29e.out
  have h34 : Is ρ bh34 (d31) := Zgq (Zc 1000000) h33 d31e.out (by omega) (by omega)
  have h35 : Is ρ bh35 (n30) := Zgq h32 h33 n30e.out (by omega) (by omega)
  have h36 : Is ρ bh36 (w32) := by
    have w32s := w32s.out
    exact Zmul h6 h30 (by omega) (((by simp only [Int.add_mul, Int.mul_add, Int.mul_assoc, Int.mul_comm, Int.mul_left_comm, Int.reduceMul, Int.reduceNeg, Int.mul_one, Int.one_mul] <;> omega : (w6) * (r24) = r24 * w6).trans (by (try simp only [m25e.out]) <;> omega)).trans w32s)
  have h37 : Is ρ bh37 (q33) := Zquop h36 (Zc 1000) (by omega) (by omega) q33e.out
  have h38 : Is ρ bh38 (x7) := Zconv e7 (by omega)
  have h39 : Is ρ bh39 (x7 + 1) := Ya (Zc 1) h38 (by omega)
  have h40 : Is ρ bh40 (x8) := Zconv e8 (by omega)
  have h41 : Is ρ bh41 (r36) := Zremp h40 (Zc 20) (by omega) r36e.out
  have h42 : Is ρ bh42 (r36 + x7 + 1) := Ya h39 h41 (by omega)
  have h43 : Is ρ bh43 (w39) := by
    have w39s := w39s.out
    exact Zmul h42 h6 (by omega) (((by simp only [Int.add_mul, Int.mul_add, Int.mul_assoc, Int.mul_comm, Int.mul_left_comm, Int.reduceMul, Int.reduceNeg, Int.mul_one, Int.one_mul] <;> omega : (r36 + x7 + 1) * (w6) = r36 * w6 + w6 * x7 + 1 * w6).trans (by (try simp only [m37e.out, m38e.out]) <;> omega)).trans w39s)
  have h44 : Is ρ bh44 (x1) := Zconv e1 (by omega)
  have h45 : Is ρ bh45 (20 * x1) := Ym (Zc 20) h44 (by omega)
  have h46 : Is ρ bh46 (x2) := Zconv e2 (by omega)
  have h47 : Is ρ bh47 (30 * x2) := Ym (Zc 30) h46 (by omega)
  have h48 : Is ρ bh48 (x3) := Zconv e3 (by omega)
  have h49 : Is ρ bh49 (x4) := Zconv e4 (by omega)
  have h50 : Is ρ bh50 (r41) := Zremp h49 (Zc 60) (by omega) r41e.out
  have h51 : Is ρ bh51 (r41 + x3) := Ya h48 h50 (by omega)
  have h52 : Is ρ bh52 (x5) := Zconv e5 (by omega)
  have h53 : Is ρ bh53 (x6) := Zconv e6 (by omega)
  have h54 : Is ρ bh54 (r43) := Zremp h53 (Zc 60) (by omega) r43e.out
  have h55 : Is ρ bh55 (r43 + x5) := Ya h52 h54 (by omega)
  have h56 : Is ρ bh56 (w44) := by
    have w44s := w44s.out
    exact Zmul h39 h6 (by omega) (((by simp only [Int.add_mul, Int.mul_add, Int.mul_assoc, Int.mul_comm, Int.mul_left_comm, Int.reduceMul, Int.reduceNeg, Int.mul_one, Int.one_mul] <;> omega : (x7 + 1) * (w6) = w6 * x7 + 1 * w6).trans (by (try simp only [m38e.out]) <;> omega)).trans w44s)
  have h57 : Is ρ bh57 (w47) := by
    have w47s := w47s.out
    exact Zmul h45 h51 (by omega) (((by simp only [Int.add_mul, Int.mul_add, Int.mul_assoc, Int.mul_comm, Int.mul_left_comm, Int.reduceMul, Int.reduceNeg, Int.mul_one, Int.one_mul] <;> omega : (20 * x1) * (r41 + x3) = 20 * (r41 * x1) + 20 * (x1 * x3)).trans (by (try simp only [m45e.out, m46e.out]) <;> omega)).trans w47s)
  have h58 : Is ρ bh58 (w50) := by
    have w50s := w50s.out
    exact Zmul h47 h55 (by omega) (((by simp only [Int.add_mul, Int.mul_add, Int.mul_assoc, Int.mul_comm, Int.mul_left_comm, Int.reduceMul, Int.reduceNeg, Int.mul_one, Int.one_mul] <;> omega : (30 * x2) * (r43 + x5) = 30 * (r43 * x2) + 30 * (x2 * x5)).trans (by (try simp only [m48e.out, m49e.out]) <;> omega)).trans w50s)
  have h59 : Is ρ bh59 (w47 + w50) := Ya h57 h58 (by omega)
  have h60 : Is ρ bh60 (w47 + w50 + 100000) := Ya h59 (Zc 100000) (by omega)
  have h61 : Is ρ bh61 (w51) := by
    have w51s := w51s.out
    exact Zmul h45 h48 (by omega) (((by simp only [Int.add_mul, Int.mul_add, Int.mul_assoc, Int.mul_comm, Int.mul_left_comm, Int.reduceMul, Int.reduceNeg, Int.mul_one, Int.one_mul] <;> omega : (20 * x1) * (x3) = 20 * (x1 * x3)).trans (by (try simp only [m46e.out]) <;> omega)).trans w51s)
  have h62 : Is ρ bh62 (w52) := by
    have w52s := w52s.out
    exact Zmul h47 h52 (by omega) (((by simp only [Int.add_mul, Int.mul_add, Int.mul_assoc, Int.mul_comm, Int.mul_left_comm, Int.reduceMul, Int.reduceNeg, Int.mul_one, Int.one_mul] <;> omega : (30 * x2) * (x5) = 30 * (x2 * x5)).trans (by (try simp only [m49e.out]) <;> omega)).trans w52s)
  have h63 : Is ρ bh63 (w51 + w52) := Ya h61 h62 (by omega)
  have h64 : Is ρ bh64 (w51 + w52 + 100000) := Ya h63 (Zc 100000) (by omega)
  have h65 : Is ρ bh65 (w54) := by
    have w54s := w54s.out
    exact Zmul h56 h30 (by omega) (((by simp only [Int.add_mul, Int.mul_add, Int.mul_assoc, Int.mul_comm, Int.mul_left_comm, Int.reduceMul, Int.reduceNeg, Int.mul_one, Int.one_mul] <;> omega : (w44) * (r24) = r24 * w44).trans (by (try simp only [m53e.out]) <;> omega)).trans w54s)
  have h66 : Is ρ bh66 (q55) := Zquop h65 (Zc 1000) (by omega) (by omega) q55e.out
  have h67 : Is ρ bh67 (q59) := by
    have w57s := w57s.out
    have w58s := w58s.out
    exact Ztq (w57s ▸ (Zc 0)) (w58s ▸ h60) q59e.out (by omega)
  have h68 : Is ρ bh68 (q55 + q59) := Ya h66 h67 (by omega)
  have h69 : Is ρ bh69 (w62) := by
    have w62s := w62s.out
    exact Zmul h39 h35 (by omega) (((by simp only [Int.add_mul, Int.mul_add, Int.mul_assoc, Int.mul_comm, Int.mul_left_comm, Int.reduceMul, Int.reduceNeg, Int.mul_one, Int.one_mul] <;> omega : (x7 + 1) * (n30) = n30 * x7 + 1 * n30).trans (by (try simp only [m61e.out]) <;> omega)).trans w62s)
  have h70 : Is ρ bh70 (w64) := by
    have w64s := w64s.out
    exact Zmul h43 h30 (by omega) (((by simp only [Int.add_mul, Int.mul_add, Int.mul_assoc, Int.mul_comm, Int.mul_left_comm, Int.reduceMul, Int.reduceNeg, Int.mul_one, Int.one_mul] <;> omega : (w39) * (r24) = r24 * w39).trans (by (try simp only [m63e.out]) <;> omega)).trans w64s)
  have h71 : Is ρ bh71 (q65) := Zquop h70 (Zc 1000) (by omega) (by omega) q65e.out
  have h72 : Is ρ bh72 (q68) := by
    have w57s := w57s.out
    have w67s := w67s.out
    exact Ztq (w57s ▸ (Zc 0)) (w67s ▸ h64) q68e.out (by omega)
  have h73 : Is ρ bh73 (q65 + q68) := Ya h71 h72 (by omega)
  have h74 : Is ρ bh74 (w71) := by
    have w71s := w71s.out
    exact Zmul h42 h35 (by omega) (((by simp only [Int.add_mul, Int.mul_add, Int.mul_assoc, Int.mul_comm, Int.mul_left_comm, Int.reduceMul, Int.reduceNeg, Int.mul_one, Int.one_mul] <;> omega : (r36 + x7 + 1) * (n30) = n30 * r36 + n30 * x7 + 1 * n30).trans (by (try simp only [m70e.out, m61e.out]) <;> omega)).trans w71s)
  have h75 : Is ρ bh75 (r73) := Zremp h28 (Zc 401) (by omega) r73e.out
  have h76 : Is ρ bh76 (5 * r73) := Ym (Zc 5) h75 (by omega)
  have h77 : Is ρ bh77 (5000 * r73) := Ym (Zc 1000) h76 (by omega)
  have h78 : Is ρ bh78 (w75) := by
    have w75s := w75s.out
    exact Zmul h6 h77 (by omega) (((by simp only [Int.add_mul, Int.mul_add, Int.mul_assoc, Int.mul_comm, Int.mul_left_comm, Int.reduceMul, Int.reduceNeg, Int.mul_one, Int.one_mul] <;> omega : (w6) * (5000 * r73) = 5000 * (r73 * w6)).trans (by (try simp only [m74e.out]) <;> omega)).trans w75s)
  have h79 : Is ρ bh79 (g78) := Zgcd h78 (Zc 1000000) g78e.out
  have h80 : Is ρ bh80 (d80) := Zgq (Zc 1000000) h79 d80e.out (by omega) (by omega)
  have h81 : Is ρ bh81 (n79) := Zgq h78 h79 n79e.out (by omega) (by omega)
  have h82 : Is ρ bh82 (w81) := by
    have w81s := w81s.out
    exact Zmul h6 h76 (by omega) (((by simp only [Int.add_mul, Int.mul_add, Int.mul_assoc, Int.mul_comm, Int.mul_left_comm, Int.reduceMul, Int.reduceNeg, Int.mul_one, Int.one_mul] <;> omega : (w6) * (5 * r73) = 5 * (r73 * w6)).trans (by (try simp only [m74e.out]) <;> omega)).trans w81s)
  have h83 : Is ρ bh83 (q82) := Zquop h82 (Zc 1000) (by omega) (by omega) q82e.out
  have h84 : Is ρ bh84 (w85) := by
    have w85s := w85s.out
    exact Zmul h56 h76 (by omega) (((by simp only [Int.add_mul, Int.mul_add, Int.mul_assoc, Int.mul_comm, Int.mul_left_comm, Int.reduceMul, Int.reduceNeg, Int.mul_one, Int.one_mul] <;> omega : (w44) * (5 * r73) = 5 * (r73 * w44)).trans (by (try simp only [m84e.out]) <;> omega)).trans w85s)
  have h85 : Is ρ bh85 (q86) := Zquop h84 (Zc 1000) (by omega) (by omega) q86e.out
  have h86 : Is ρ bh86 (q59 + q86) := Ya h85 h67 (by omega)
  have h87 : Is ρ bh87 (w89) := by
    have w89s := w89s.out
    exact Zmul h39 h81 (by omega) (((by simp only [Int.add_mul, Int.mul_add, Int.mul_assoc, Int.mul_comm, Int.mul_left_comm, Int.reduceMul, Int.reduceNeg, Int.mul_one, Int.one_mul] <;> omega : (x7 + 1) * (n79) = n79 * x7 + 1 * n79).trans (by (try simp only [m88e.out]) <;> omega)).trans w89s)
  have h88 : Is ρ bh88 (w91) := by
    have w91s := w91s.out
    exact Zmul h43 h76 (by omega) (((by simp only [Int.add_mul, Int.mul_add, Int.mul_assoc, Int.mul_comm, Int.mul_left_comm, Int.reduceMul, Int.reduceNeg, Int.mul_one, Int.one_mul] <;> omega : (w39) * (5 * r73) = 5 * (r73 * w39)).trans (by (try simp only [m90e.out]) <;> omega)).trans w91s)
  have h89 : Is ρ bh89 (q92) := Zquop h88 (Zc 1000) (by omega) (by omega) q92e.out
  have h90 : Is ρ bh90 (q68 + q92) := Ya h89 h72 (by omega)
  have h91 : Is ρ bh91 (w95) := by
    have w95s := w95s.out
    exact Zmul h42 h81 (by omega) (((by simp only [Int.add_mul, Int.mul_add, Int.mul_assoc, Int.mul_comm, Int.mul_left_comm, Int.reduceMul, Int.reduceNeg, Int.mul_one, Int.one_mul] <;> omega : (r36 + x7 + 1) * (n79) = n79 * r36 + n79 * x7 + 1 * n79).trans (by (try simp only [m94e.out, m88e.out]) <;> omega)).trans w95s)
  have h92 : Is ρ bh92 (r97) := Zremp h28 (Zc 81) (by omega) r97e.out
  have h93 : Is ρ bh93 (25 * r97) := Ym (Zc 25) h92 (by omega)
  have h94 : Is ρ bh94 (25000 * r97) := Ym (Zc 1000) h93 (by omega)
  have h95 : Is ρ bh95 (w99) := by
    have w99s := w99s.out
    exact Zmul h6 h94 (by omega) (((by simp only [Int.add_mul, Int.mul_add, Int.mul_assoc, Int.mul_comm, Int.mul_left_comm, Int.reduceMul, Int.reduceNeg, Int.mul_one, Int.one_mul] <;> omega : (w6) * (25000 * r97) = 25000 * (r97 * w6)).trans (by (try simp only [m98e.out]) <;> omega)).trans w99s)
  have h96 : Is ρ bh96 (g102) := Zgcd h95 (Zc 1000000) g102e.out
  have h97 : Is ρ bh97 (d104) := Zgq (Zc 1000000) h96 d104e.out (by omega) (by omega)
  have h98 : Is ρ bh98 (n103) := Zgq h95 h96 n103e.out (by omega) (by omega)
  have h99 : Is ρ bh99 (w105) := by
    have w105s := w105s.out
    exact Zmul h6 h93 (by omega) (((by simp only [Int.add_mul, Int.mul_add, Int.mul_assoc, Int.mul_comm, Int.mul_left_comm, Int.reduceMul, Int.reduceNeg, Int.mul_one, Int.one_mul] <;> omega : (w6) * (25 * r97) = 25 * (r97 * w6)).trans (by (try simp only [m98e.out]) <;> omega)).trans w105s)
  have h100 : Is ρ bh100 (q106) := Zquop h99 (Zc 1000) (by omega) (by omega) q106e.out
  have h101 : Is ρ bh101 (w109) := by
    have w109s := w109s.out
    exact Zmul h56 h93 (by omega) (((by simp only [Int.add_mul, Int.mul_add, Int.mul_assoc, Int.mul_comm, Int.mul_left_comm, Int.reduceMul, Int.reduceNeg, Int.mul_one, Int.one_mul] <;> omega : (w44) * (25 * r97) = 25 * (r97 * w44)).trans (by (try simp only [m108e.out]) <;> omega)).trans w109s)
  have h102 : Is ρ bh102 (q110) := Zquop h101 (Zc 1000) (by omega) (by omega) q110e.out
  have h103 : Is ρ bh103 (q110 + q59) := Ya h102 h67 (by omega)
  have h104 : Is ρ bh104 (w113) := by
    have w113s := w113s.out
    exact Zmul h39 h98 (by omega) (((by simp only [Int.add_mul, Int.mul_add, Int.mul_assoc, Int.mul_comm, Int.mul_left_comm, Int.reduceMul, Int.reduceNeg, Int.mul_one, Int.one_mul] <;> omega : (x7 + 1) * (n103) = n103 * x7 + 1 * n103).trans (by (try simp only [m112e.out]) <;> omega)).trans w113s)
  have h105 : Is ρ bh105 (w115) := by
    have w115s := w115s.out
    exact Zmul h43 h93 (by omega) (((by simp only [Int.add_mul, Int.mul_add, Int.mul_assoc, Int.mul_comm, Int.mul_left_comm, Int.reduceMul, Int.reduceNeg, Int.mul_one, Int.one_mul] <;> omega : (w39) * (25 * r97) = 25 * (r97 * w39)).trans (by (try simp only [m114e.out]) <;> omega)).trans w115s)
  have h106 : Is ρ bh106 (q116) := Zquop h105 (Zc 1000) (by omega) (by omega) q116e.out
  have h107 : Is ρ bh107 (q116 + q68) := Ya h106 h72 (by omega)
  have h108 : Is ρ bh108 (w119) := by
    have w119s := w119s.out
    exact Zmul h42 h98 (by omega) (((by simp only [Int.add_mul, Int.mul_add, Int.mul_assoc, Int.mul_comm, Int.mul_left_comm, Int.reduceMul, Int.reduceNeg, Int.mul_one, Int.one_mul] <;> omega : (r36 + x7 + 1) * (n103) = n103 * r36 + n103 * x7 + 1 * n103).trans (by (try simp only [m118e.out, m112e.out]) <;> omega)).trans w119s)
  have h109 : Is ρ bh109 (r121) := Zremp h28 (Zc 17) (by omega) r121e.out
  have h110 : Is ρ bh110 (125 * r121) := Ym (Zc 125) h109 (by omega)
  have h111 : Is ρ bh111 (125000 * r121) := Ym (Zc 1000) h110 (by omega)
  have h112 : Is ρ bh112 (w123) := by
    have w123s := w123s.out
    exact Zmul h6 h111 (by omega) (((by simp only [Int.add_mul, Int.mul_add, Int.mul_assoc, Int.mul_comm, Int.mul_left_comm, Int.reduceMul, Int.reduceNeg, Int.mul_one, Int.one_mul] <;> omega : (w6) * (125000 * r121) = 125000 * (r121 * w6)).trans (by (try simp only [m122e.out]) <;> omega)).trans w123s)
  have h113 : Is ρ bh113 (g126) := Zgcd h112 (Zc 1000000) g126e.out
  have h114 : Is ρ bh114 (d128) := Zgq (Zc 1000000) h113 d128e.out (by omega) (by omega)
  have h115 : Is ρ bh115 (n127) := Zgq h112 h113 n127e.out (by omega) (by omega)
  have h116 : Is ρ bh116 (w129) := by
    have w129s := w129s.out
    exact Zmul h6 h110 (by omega) (((by simp only [Int.add_mul, Int.mul_add, Int.mul_assoc, Int.mul_comm, Int.mul_left_comm, Int.reduceMul, Int.reduceNeg, Int.mul_one, Int.one_mul] <;> omega : (w6) * (125 * r121) = 125 * (r121 * w6)).trans (by (try simp only [m122e.out]) <;> omega)).trans w129s)
  have h117 : Is ρ bh117 (q130) := Zquop h116 (Zc 1000) (by omega) (by omega) q130e.out
  have h118 : Is ρ bh118 (w133) := by
    have w133s := w133s.out
    exact Zmul h56 h110 (by omega) (((by simp only [Int.add_mul, Int.mul_add, Int.mul_assoc, Int.mul_comm, Int.mul_left_comm, Int.reduceMul, Int.reduceNeg, Int.mul_one, Int.one_mul] <;> omega : (w44) * (125 * r121) = 125 * (r121 * w44)).trans (by (try simp only [m132e.out]) <;> omega)).trans w133s)
  have h119 : Is ρ bh119 (q134) := Zquop h118 (Zc 1000) (by omega) (by omega) q134e.out
  have h120 : Is ρ bh120 (q134 + q59) := Ya h119 h67 (by omega)
  have h121 : Is ρ bh121 (w137) := by
    have w137s := w137s.out
    exact Zmul h39 h115 (by omega) (((by simp only [Int.add_mul, Int.mul_add, Int.mul_assoc, Int.mul_comm, Int.mul_left_comm, Int.reduceMul, Int.reduceNeg, Int.mul_one, Int.one_mul] <;> omega : (x7 + 1) * (n127) = n127 * x7 + 1 * n127).trans (by (try simp only [m136e.out]) <;> omega)).trans w137s)
  have h122 : Is ρ bh122 (w139) := by
    have w139s := w139s.out
    exact Zmul h43 h110 (by omega) (((by simp only [Int.add_mul, Int.mul_add, Int.mul_assoc, Int.mul_comm, Int.mul_left_comm, Int.reduceMul, Int.reduceNeg, Int.mul_one, Int.one_mul] <;> omega : (w39) * (125 * r121) = 125 * (r121 * w39)).trans (by (try simp only [m138e.out]) <;> omega)).trans w139s)
  have h123 : Is ρ bh123 (q140) := Zquop h122 (Zc 1000) (by omega) (by omega) q140e.out
  have h124 : Is ρ bh124 (q140 + q68) := Ya h123 h72 (by omega)
  have h125 : Is ρ bh125 (w143) := by
    have w143s := w143s.out
    exact Zmul h42 h115 (by omega) (((by simp only [Int.add_mul, Int.mul_add, Int.mul_assoc, Int.mul_comm, Int.mul_left_comm, Int.reduceMul, Int.reduceNeg, Int.mul_one, Int.one_mul] <;> omega : (r36 + x7 + 1) * (n127) = n127 * r36 + n127 * x7 + 1 * n127).trans (by (try simp only [m142e.out, m136e.out]) <;> omega)).trans w143s)
  have h126 : Is ρ bh126 (50 * w6) := Ym h6 (Zc 50) (by omega)
  have h127 : Is ρ bh127 (r145) := Zremp h126 (Zc 1000) (by omega) r145e.out
  have h128 : Is ρ bh128 (10 * w6) := Ym h6 (Zc 10) (by omega)
  have h129 : Is ρ bh129 (r147) := Zremp h128 (Zc 1000) (by omega) r147e.out
  have h130 : Is ρ bh130 (2 * w6) := Ym h6 (Zc 2) (by omega)
  have h131 : Is ρ bh131 (r149) := Zremp h130 (Zc 1000) (by omega) r149e.out
  have h132 : Is ρ bh132 (r151) := Zremp h28 (Zc 1001) (by omega) r151e.out
  have h133 : Is ρ bh133 (2 * r151) := Ym (Zc 2) h132 (by omega)
  have h134 : Is ρ bh134 (2000 * r151) := Ym (Zc 1000) h133 (by omega)
  have h135 : Is ρ bh135 (w153) := by
    have w153s := w153s.out
    exact Zmul h6 h134 (by omega) (((by simp only [Int.add_mul, Int.mul_add, Int.mul_assoc, Int.mul_comm, Int.mul_left_comm, Int.reduceMul, Int.reduceNeg, Int.mul_one, Int.one_mul] <;> omega : (w6) * (2000 * r151) = 2000 * (r151 * w6)).trans (by (try simp only [m152e.out]) <;> omega)).trans w153s)
  have h136 : Is ρ bh136 (g156) := Zgcd h135 (Zc 1000000) g156e.out
  have h137 : Is ρ bh137 (d158) := Zgq (Zc 1000000) h136 d158e.out (by omega) (by omega)
  have h138 : Is ρ bh138 (n157) := Zgq h135 h136 n157e.out (by omega) (by omega)
  have h139 : Is ρ bh139 (w159) := by
    have w159s := w159s.out
    exact Zmul h6 h133 (by omega) (((by simp only [Int.add_mul, Int.mul_add, Int.mul_assoc, Int.mul_comm, Int.mul_left_comm, Int.reduceMul, Int.reduceNeg, Int.mul_one, Int.one_mul] <;> omega : (w6) * (2 * r151) = 2 * (r151 * w6)).trans (by (try simp only [m152e.out]) <;> omega)).trans w159s)
  have h140 : Is ρ bh140 (q160) := Zquop h139 (Zc 1000) (by omega) (by omega) q160e.out
  have h141 : Is ρ bh141 (w163) := by
    have w163s := w163s.out
    exact Zmul h56 h133 (by omega) (((by simp only [Int.add_mul, Int.mul_add, Int.mul_assoc, Int.mul_comm, Int.mul_left_comm, Int.reduceMul, Int.reduceNeg, Int.mul_one, Int.one_mul] <;> omega : (w44) * (2 * r151) = 2 * (r151 * w44)).trans (by (try simp only [m162e.out]) <;> omega)).trans w163s)
  have h142 : Is ρ bh142 (q164) := Zquop h141 (Zc 1000) (by omega) (by omega) q164e.out
  have h143 : Is ρ bh143 (q164 + q59) := Ya h142 h67 (by omega)
  have h144 : Is ρ bh144 (w167) := by
    have w167s := w167s.out
    exact Zmul h39 h138 (by omega) (((by simp only [Int.add_mul, Int.mul_add, Int.mul_assoc, Int.mul_comm, Int.mul_left_comm, Int.reduceMul, Int.reduceNeg, Int.mul_one, Int.one_mul] <;> omega : (x7 + 1) * (n157) = n157 * x7 + 1 * n157).trans (by (try simp only [m166e.out]) <;> omega)).trans w167s)
  have h145 : Is ρ bh145 (w169) := by
    have w169s := w169s.out
    exact Zmul h43 h133 (by omega) (((by simp only [Int.add_mul, Int.mul_add, Int.mul_assoc, Int.mul_comm, Int.mul_left_comm, Int.reduceMul, Int.reduceNeg, Int.mul_one, Int.one_mul] <;> omega : (w39) * (2 * r151) = 2 * (r151 * w39)).trans (by (try simp only [m168e.out]) <;> omega)).trans w169s)
  have h146 : Is ρ bh146 (q170) := Zquop h145 (Zc 1000) (by omega) (by omega) q170e.out
  have h147 : Is ρ bh147 (q170 + q68) := Ya h146 h72 (by omega)
  have h148 : Is ρ bh148 (w173) := by
    have w173s := w173s.out
    exact Zmul h42 h138 (by omega) (((by simp only [Int.add_mul, Int.mul_add, Int.mul_assoc, Int.mul_comm, Int.mul_left_comm, Int.reduceMul, Int.reduceNeg, Int.mul_one, Int.one_mul] <;> omega : (r36 + x7 + 1) * (n157) = n157 * r36 + n157 * x7 + 1 * n157).trans (by (try simp only [m172e.out, m166e.out]) <;> omega)).trans w173s)
  have h149 : Is ρ bh149 (r175) := Zremp h28 (Zc 201) (by omega) r175e.out
  have h150 : Is ρ bh150 (10 * r175) := Ym (Zc 10) h149 (by omega)
  have h151 : Is ρ bh151 (10000 * r175) := Ym (Zc 1000) h150 (by omega)
  have h152 : Is ρ bh152 (w177) := by
    have w177s := w177s.out
    exact Zmul h6 h151 (by omega) (((by simp only [Int.add_mul, Int.mul_add, Int.mul_assoc, Int.mul_comm, Int.mul_left_comm, Int.reduceMul, Int.reduceNeg, Int.mul_one, Int.one_mul] <;> omega : (w6) * (10000 * r175) = 10000 * (r175 * w6)).trans (by (try simp only [m176e.out]) <;> omega)).trans w177s)
  have h153 : Is ρ bh153 (g180) := Zgcd h152 (Zc 1000000) g180e.out
  have h154 : Is ρ bh154 (d182) := Zgq (Zc 1000000) h153 d182e.out (by omega) (by omega)
  have h155 : Is ρ bh155 (n181) := Zgq h152 h153 n181e.out (by omega) (by omega)
  have h156 : Is ρ bh156 (w183) := by
    have w183s := w183s.out
    exact Zmul h6 h150 (by omega) (((by simp only [Int.add_mul, Int.mul_add, Int.mul_assoc, Int.mul_comm, Int.mul_left_comm, Int.reduceMul, Int.reduceNeg, Int.mul_one, Int.one_mul] <;> omega : (w6) * (10 * r175) = 10 * (r175 * w6)).trans (by (try simp only [m176e.out]) <;> omega)).trans w183s)
  have h157 : Is ρ bh157 (q184) := Zquop h156 (Zc 1000) (by omega) (by omega) q184e.out
  have h158 : Is ρ bh158 (w187) := by
    have w187s := w187s.out
    exact Zmul h56 h150 (by omega) (((by simp only [Int.add_mul, Int.mul_add, Int.mul_assoc, Int.mul_comm, Int.mul_left_comm, Int.reduceMul, Int.reduceNeg, Int.mul_one, Int.one_mul] <;> omega : (w44) * (10 * r175) = 10 * (r175 * w44)).trans (by (try simp only [m186e.out]) <;> omega)).trans w187s)
  have h159 : Is ρ bh159 (q188) := Zquop h158 (Zc 1000) (by omega) (by omega) q188e.out
  have h160 : Is ρ bh160 (q188 + q59) := Ya h159 h67 (by omega)
  have h161 : Is ρ bh161 (w191) := by
    have w191s := w191s.out
    exact Zmul h39 h155 (by omega) (((by simp only [Int.add_mul, Int.mul_add, Int.mul_assoc, Int.mul_comm, Int.mul_left_comm, Int.reduceMul, Int.reduceNeg, Int.mul_one, Int.one_mul] <;> omega : (x7 + 1) * (n181) = n181 * x7 + 1 * n181).trans (by (try simp only [m190e.out]) <;> omega)).trans w191s)
  have h162 : Is ρ bh162 (w193) := by
    have w193s := w193s.out
    exact Zmul h43 h150 (by omega) (((by simp only [Int.add_mul, Int.mul_add, Int.mul_assoc, Int.mul_comm, Int.mul_left_comm, Int.reduceMul, Int.reduceNeg, Int.mul_one, Int.one_mul] <;> omega : (w39) * (10 * r175) = 10 * (r175 * w39)).trans (by (try simp only [m192e.out]) <;> omega)).trans w193s)
  have h163 : Is ρ bh163 (q194) := Zquop h162 (Zc 1000) (by omega) (by omega) q194e.out
  have h164 : Is ρ bh164 (q194 + q68) := Ya h163 h72 (by omega)
  have h165 : Is ρ bh165 (w197) := by
    have w197s := w197s.out
    exact Zmul h42 h155 (by omega) (((by simp only [Int.add_mul, Int.mul_add, Int.mul_assoc, Int.mul_comm, Int.mul_left_comm, Int.reduceMul, Int.reduceNeg, Int.mul_one, Int.one_mul] <;> omega : (r36 + x7 + 1) * (n181) = n181 * r36 + n181 * x7 + 1 * n181).trans (by (try simp only [m196e.out, m190e.out]) <;> omega)).trans w197s)
  have h166 : Is ρ bh166 (r199) := Zremp h28 (Zc 41) (by omega) r199e.out
  have h167 : Is ρ bh167 (50 * r199) := Ym (Zc 50) h166 (by omega)
  have h168 : Is ρ bh168 (50000 * r199) := Ym (Zc 1000) h167 (by omega)
  have h169 : Is ρ bh169 (w201) := by
    have w201s := w201s.out
    exact Zmul h6 h168 (by omega) (((by simp only [Int.add_mul, Int.mul_add, Int.mul_assoc, Int.mul_comm, Int.mul_left_comm, Int.reduceMul, Int.reduceNeg, Int.mul_one, Int.one_mul] <;> omega : (w6) * (50000 * r199) = 50000 * (r199 * w6)).trans (by (try simp only [m200e.out]) <;> omega)).trans w201s)
  have h170 : Is ρ bh170 (g204) := Zgcd h169 (Zc 1000000) g204e.out
  have h171 : Is ρ bh171 (d206) := Zgq (Zc 1000000) h170 d206e.out (by omega) (by omega)
  have h172 : Is ρ bh172 (n205) := Zgq h169 h170 n205e.out (by omega) (by omega)
  have h173 : Is ρ bh173 (w207) := by
    have w207s := w207s.out
    exact Zmul h6 h167 (by omega) (((by simp only [Int.add_mul, Int.mul_add, Int.mul_assoc, Int.mul_comm, Int.mul_left_comm, Int.reduceMul, Int.reduceNeg, Int.mul_one, Int.one_mul] <;> omega : (w6) * (50 * r199) = 50 * (r199 * w6)).trans (by (try simp only [m200e.out]) <;> omega)).trans w207s)
  have h174 : Is ρ bh174 (q208) := Zquop h173 (Zc 1000) (by omega) (by omega) q208e.out
  have h175 : Is ρ bh175 (w211) := by
    have w211s := w211s.out
    exact Zmul h56 h167 (by omega) (((by simp only [Int.add_mul, Int.mul_add, Int.mul_assoc, Int.mul_comm, Int.mul_left_comm, Int.reduceMul, Int.reduceNeg, Int.mul_one, Int.one_mul] <;> omega : (w44) * (50 * r199) = 50 * (r199 * w44)).trans (by (try simp only [m210e.out]) <;> omega)).trans w211s)
  have h176 : Is ρ bh176 (q212) := Zquop h175 (Zc 1000) (by omega) (by omega) q212e.out
  have h177 : Is ρ bh177 (q212 + q59) := Ya h176 h67 (by omega)
  have h178 : Is ρ bh178 (w215) := by
    have w215s := w215s.out
    exact Zmul h39 h172 (by omega) (((by simp only [Int.add_mul, Int.mul_add, Int.mul_assoc, Int.mul_comm, Int.mul_left_comm, Int.reduceMul, Int.reduceNeg, Int.mul_one, Int.one_mul] <;> omega : (x7 + 1) * (n205) = n205 * x7 + 1 * n205).trans (by (try simp only [m214e.out]) <;> omega)).trans w215s)
  have h179 : Is ρ bh179 (w217) := by
    have w217s := w217s.out
    exact Zmul h43 h167 (by omega) (((by simp only [Int.add_mul, Int.mul_add, Int.mul_assoc, Int.mul_comm, Int.mul_left_comm, Int.reduceMul, Int.reduceNeg, Int.mul_one, Int.one_mul] <;> omega : (w39) * (50 * r199) = 50 * (r199 * w39)).trans (by (try simp only [m216e.out]) <;> omega)).trans w217s)
  have h180 : Is ρ bh180 (q218) := Zquop h179 (Zc 1000) (by omega) (by omega) q218e.out
  have h181 : Is ρ bh181 (q218 + q68) := Ya h180 h72 (by omega)
  have h182 : Is ρ bh182 (w221) := by
    have w221s := w221s.out
    exact Zmul h42 h172 (by omega) (((by simp only [Int.add_mul, Int.mul_add, Int.mul_assoc, Int.mul_comm, Int.mul_left_comm, Int.reduceMul, Int.reduceNeg, Int.mul_one, Int.one_mul] <;> omega : (r36 + x7 + 1) * (n205) = n205 * r36 + n205 * x7 + 1 * n205).trans (by (try simp only [m220e.out, m214e.out]) <;> omega)).trans w221s)
  have h183 : Is ρ bh183 (r223) := Zremp h28 (Zc 9) (by omega) r223e.out
  have h184 : Is ρ bh184 (250 * r223) := Ym (Zc 250) h183 (by omega)
  have h185 : Is ρ bh185 (250000 * r223) := Ym (Zc 1000) h184 (by omega)
  have h186 : Is ρ bh186 (w225) := by
    have w225s := w225s.out
    exact Zmul h6 h185 (by omega) (((by simp only [Int.add_mul, Int.mul_add, Int.mul_assoc, Int.mul_comm, Int.mul_left_comm, Int.reduceMul, Int.reduceNeg, Int.mul_one, Int.one_mul] <;> omega : (w6) * (250000 * r223) = 250000 * (r223 * w6)).trans (by (try simp only [m224e.out]) <;> omega)).trans w225s)
  have h187 : Is ρ bh187 (g228) := Zgcd h186 (Zc 1000000) g228e.out
  have h188 : Is ρ bh188 (d230) := Zgq (Zc 1000000) h187 d230e.out (by omega) (by omega)
  have h189 : Is ρ bh189 (n229) := Zgq h186 h187 n229e.out (by omega) (by omega)
  have h190 : Is ρ bh190 (w231) := by
    have w231s := w231s.out
    exact Zmul h6 h184 (by omega) (((by simp only [Int.add_mul, Int.mul_add, Int.mul_assoc, Int.mul_comm, Int.mul_left_comm, Int.reduceMul, Int.reduceNeg, Int.mul_one, Int.one_mul] <;> omega : (w6) * (250 * r223) = 250 * (r223 * w6)).trans (by (try simp only [m224e.out]) <;> omega)).trans w231s)
  have h191 : Is ρ bh191 (q232) := Zquop h190 (Zc 1000) (by omega) (by omega) q232e.out
  have h192 : Is ρ bh192 (w235) := by
    have w235s := w235s.out
    exact Zmul h56 h184 (by omega) (((by simp only [Int.add_mul, Int.mul_add, Int.mul_assoc, Int.mul_comm, Int.mul_left_comm, Int.reduceMul, Int.reduceNeg, Int.mul_one, Int.one_mul] <;> omega : (w44) * (250 * r223) = 250 * (r223 * w44)).trans (by (try simp only [m234e.out]) <;> omega)).trans w235s)
  have h193 : Is ρ bh193 (q236) := Zquop h192 (Zc 1000) (by omega) (by omega) q236e.out
  have h194 : Is ρ bh194 (q236 + q59) := Ya h193 h67 (by omega)
  have h195 : Is ρ bh195 (w239) := by
    have w239s := w239s.out
    exact Zmul h39 h189 (by omega) (((by simp only [Int.add_mul, Int.mul_add, Int.mul_assoc, Int.mul_comm, Int.mul_left_comm, Int.reduceMul, Int.reduceNeg, Int.mul_one, Int.one_mul] <;> omega : (x7 + 1) * (n229) = n229 * x7 + 1 * n229).trans (by (try simp only [m238e.out]) <;> omega)).trans w239s)
  have h196 : Is ρ bh196 (w241) := by
    have w241s := w241s.out
    exact Zmul h43 h184 (by omega) (((by simp only [Int.add_mul, Int.mul_add, Int.mul_assoc, Int.mul_comm, Int.mul_left_comm, Int.reduceMul, Int.reduceNeg, Int.mul_one, Int.one_mul] <;> omega : (w39) * (250 * r223) = 250 * (r223 * w39)).trans (by (try simp only [m240e.out]) <;> omega)).trans w241s)
  have h197 : Is ρ bh197 (q242) := Zquop h196 (Zc 1000) (by omega) (by omega) q242e.out
  have h198 : Is ρ bh198 (q242 + q68) := Ya h197 h72 (by omega)
  have h199 : Is ρ bh199 (w245) := by
    have w245s := w245s.out
    exact Zmul h42 h189 (by omega) (((by simp only [Int.add_mul, Int.mul_add, Int.mul_assoc, Int.mul_comm, Int.mul_left_comm, Int.reduceMul, Int.reduceNeg, Int.mul_one, Int.one_mul] <;> omega : (r36 + x7 + 1) * (n229) = n229 * r36 + n229 * x7 + 1 * n229).trans (by (try simp only [m244e.out, m238e.out]) <;> omega)).trans w245s)
  exact ⟨h3, h5, h8, h10, h12, h14, h16, h18, h21, h24, h26, h27, h30, h31, h32, h34, h35, h37, h39, h42, h43, h45, h47, h48, h51, h52, h55, h56, h60, h64, h68, h69, h73, h74, h76, h77, h78, h80, h81, h83, h86, h87, h90, h91, h93, h94, h95, h97, h98, h100, h103, h104, h107, h108, h110, h111, h112, h114, h115, h117, h120, h121, h124, h125, h127, h129, h131, h133, h134, h135, h137, h138, h140, h143, h144, h147, h148, h150, h151, h152, h154, h155, h157, h160, h161, h164, h165, h167, h168, h169, h171, h172, h174, h177, h178, h181, h182, h184, h185, h186, h188, h189, h191, h194, h195, h198, h199⟩
theorem bh_d0 {r8 w6 q7 m5 r2 r4 : Int} (b_r8 : 0 ≤ r8 ∧ r8 ≤ 999) (q7s : 500 * w6 = 1000 * q7 + r8) (w6s : 4 * m5 + 4 * r2 + 4000 * r4 + 4000 = w6) : (r8 : Int) = 0 := by omega
theorem bh_d1 {r10 q9 w6 m5 r2 r4 : Int} (b_r10 : 0 ≤ r10 ∧ r10 ≤ 999) (rf85 : 0 ≤ (-1000) * q9 + (-1) * r10 + 250 * w6) (rf86 : 0 ≤ 1000 * q9 + r10 + (-250) * w6) (w6s : 4 * m5 + 4 * r2 + 4000 * r4 + 4000 = w6) : (r10 : Int) = 0 := by omega
theorem bh_d2 {w44 w39 m37 m38 w6 : Int} (b_m37 : 0 ≤ m37 ∧ m37 ≤ 1367772) (rf10 : 0 ≤ m38 + (-1) * w44 + w6) (rf11 : 0 ≤ (-1) * m37 + (-1) * m38 + w39 + (-1) * w6) : (w44 : Int) ≤ w39 := by omega
theorem bh_t3 {r2 : Int} (b_r2 : 0 ≤ r2 ∧ r2 ≤ 4999) : (100 : Int) ≤ 4 * r2 + 4000 := by omega
theorem bh_t4 {r2 : Int} (b_r2 : 0 ≤ r2 ∧ r2 ≤ 4999) : (4 * r2 + 4000 : Int) ≤ 200000 := by omega
theorem bh_c0 {ρ : Env} {r2 : Int} {t : DT} (h3 : Is ρ bh3 (4 * r2 + 4000)) (b_r2 : 0 ≤ r2 ∧ r2 ≤ 4999) (ht : t.goal ρ) : (bhC0 t).goal ρ := by
  unfold bhC0
  refine aT (Pleq (Zc 100) h3 (bh_t3 b_r2)) ?_
  refine aT (Pleq h3 (Zc 200000) (bh_t4 b_r2)) ?_
  exact ht
theorem bh_t5 {r20 : Int} (b_r20 : 0 ≤ r20 ∧ r20 ≤ 899) : (0 : Int) ≤ r20 + 1 := by omega
theorem bh_t6 {r20 : Int} (b_r20 : 0 ≤ r20 ∧ r20 ≤ 899) : (r20 + 1 : Int) ≤ 3000 := by omega
theorem bh_t7 {r22 : Int} (b_r22 : 0 ≤ r22 ∧ r22 ≤ 899) : (0 : Int) ≤ r22 + 1 := by omega
theorem bh_t8 {r22 : Int} (b_r22 : 0 ≤ r22 ∧ r22 ≤ 899) : (r22 + 1 : Int) ≤ 3000 := by omega
theorem bh_c1 {ρ : Env} {r20 r22 : Int} {t : DT} (h21 : Is ρ bh21 (r20 + 1)) (h24 : Is ρ bh24 (r22 + 1)) (b_r20 : 0 ≤ r20 ∧ r20 ≤ 899) (b_r22 : 0 ≤ r22 ∧ r22 ≤ 899) (ht : t.goal ρ) : (bhC1 t).goal ρ := by
  unfold bhC1
  refine aT (Pleq (Zc 0) h21 (bh_t5 b_r20)) ?_
  refine aT (Pleq h21 (Zc 3000) (bh_t6 b_r20)) ?_
  refine aT (Pleq (Zc 0) h24 (bh_t7 b_r22)) ?_
  refine aT (Pleq h24 (Zc 3000) (bh_t8 b_r22)) ?_
  exact ht
theorem bh_t9 {r4 : Int} (b_r4 : 0 ≤ r4 ∧ r4 ≤ 2) : (1 : Int) ≤ r4 + 1 := by omega
theorem bh_t10 {r4 : Int} (b_r4 : 0 ≤ r4 ∧ r4 ≤ 2) : (r4 + 1 : Int) ≤ 8 := by omega
theorem bh_t11 {r20 r22 r2 : Int} (b_r20 : 0 ≤ r20 ∧ r20 ≤ 899) (b_r22 : 0 ≤ r22 ∧ r22 ≤ 899) (b_r2 : 0 ≤ r2 ∧ r2 ≤ 4999) : (900 * r20 + 900 * r22 + 1800 : Int) ≤ 2000 * r2 + 2000000 := by omega
theorem bh_t12 {r121 : Int} (b_r121 : 0 ≤ r121 ∧ r121 ≤ 16) : ((-1000000000) : Int) ≤ 125000 * r121 := by omega
theorem bh_t13 {r121 : Int} (b_r121 : 0 ≤ r121 ∧ r121 ≤ 16) : (125000 * r121 : Int) ≤ 1000000000 := by omega
theorem bh_t14 {w123 : Int} (b_w123 : 0 ≤ w123 ∧ w123 ≤ 143976000000) : ((-9223372036854775807) : Int) ≤ w123 := by omega
theorem bh_t15 {w123 : Int} (b_w123 : 0 ≤ w123 ∧ w123 ≤ 143976000000) : (w123 : Int) ≤ 9223372036854775807 := by omega
theorem bh_d3 {d128 r125 g126 n127 w123 m122 q124 m264 m265 r121 r12 : Int} (b_r125 : 0 ≤ r125 ∧ r125 ≤ 999999) (g126s : (r125 = 0 → g126 = 1000000 ∧ d128 = 1 ∧ 1000000 * n127 = w123) ∧ (d128 = 1 → r125 = 0)) (w123s : 125000 * m122 = w123) (q124s : w123 = 1000000 * q124 + r125) (rf37_0 : 0 ≤ 125 * m122 + (-1000) * m264 + (-1) * m265) (rf38_0 : 0 ≤ (-125) * m122 + 1000 * m264 + m265) (m265f1 : (0) * r121 + (0) * r12 - (0) ≤ m265) (m265f4 : m265 ≤ (0) * r121 + (16) * r12 - (0)) (k2 : (r12 : Int) = 0) : (d128 : Int) = 1 := by omega
theorem bh_d4 {n127 q130 r125 r131 g126 d128 w123 w129 m122 q124 m264 m265 r121 r12 : Int} (b_r125 : 0 ≤ r125 ∧ r125 ≤ 999999) (b_r131 : 0 ≤ r131 ∧ r131 ≤ 999) (g126s : (r125 = 0 → g126 = 1000000 ∧ d128 = 1 ∧ 1000000 * n127 = w123) ∧ (d128 = 1 → r125 = 0)) (q130s : w129 = 1000 * q130 + r131) (w123s : 125000 * m122 = w123) (q124s : w123 = 1000000 * q124 + r125) (w129s : 125 * m122 = w129) (rf37_0 : 0 ≤ 125 * m122 + (-1000) * m264 + (-1) * m265) (rf38_0 : 0 ≤ (-125) * m122 + 1000 * m264 + m265) (m265f1 : (0) * r121 + (0) * r12 - (0) ≤ m265) (m265f4 : m265 ≤ (0) * r121 + (16) * r12 - (0)) (k2 : (r12 : Int) = 0) : (n127 : Int) = q130 := by omega
theorem bh_t18 {w39 : Int} (b_w39 : 4000 ≤ w39 ∧ w39 ≤ 19796700) : (w39 : Int) ≤ 100000000 := by omega
theorem bh_t19 {x1 : Int} (b_x1 : 0 ≤ x1 ∧ x1 ≤ 255) : (0 : Int) ≤ 20 * x1 := by omega
theorem bh_c2 {ρ : Env} {w39 x1 : Int} {t : DT} (h43 : Is ρ bh43 (w39)) (h45 : Is ρ bh45 (20 * x1)) (b_w39 : 4000 ≤ w39 ∧ w39 ≤ 19796700) (b_x1 : 0 ≤ x1 ∧ x1 ≤ 255) (ht : t.goal ρ) : (bhC2 t).goal ρ := by
  unfold bhC2
  refine aT (Pleq h43 (Zc 100000000) (bh_t18 b_w39)) ?_
  refine aT (Pleq (Zc 0) h45 (bh_t19 b_x1)) ?_
  exact ht
theorem bh_t20 {x1 : Int} (b_x1 : 0 ≤ x1 ∧ x1 ≤ 255) : (20 * x1 : Int) ≤ 100000 := by omega
theorem bh_t21 {x2 : Int} (b_x2 : 0 ≤ x2 ∧ x2 ≤ 255) : (0 : Int) ≤ 30 * x2 := by omega
theorem bh_t22 {x2 : Int} (b_x2 : 0 ≤ x2 ∧ x2 ≤ 255) : (30 * x2 : Int) ≤ 100000 := by omega
theorem bh_t23 {x3 : Int} (b_x3 : 0 ≤ x3 ∧ x3 ≤ 255) : (0 : Int) ≤ x3 := by omega
theorem bh_t24 {x3 r41 : Int} (b_x3 : 0 ≤ x3 ∧ x3 ≤ 255) (b_r41 : 0 ≤ r41 ∧ r41 ≤ 59) : (x3 : Int) ≤ r41 + x3 := by omega
theorem bh_c3 {ρ : Env} {x1 x2 x3 r41 : Int} {t : DT} (h45 : Is ρ bh45 (20 * x1)) (h47 : Is ρ bh47 (30 * x2)) (h48 : Is ρ bh48 (x3)) (h51 : Is ρ bh51 (r41 + x3)) (b_x1 : 0 ≤ x1 ∧ x1 ≤ 255) (b_x2 : 0 ≤ x2 ∧ x2 ≤ 255) (b_x3 : 0 ≤ x3 ∧ x3 ≤ 255) (b_r41 : 0 ≤ r41 ∧ r41 ≤ 59) (ht : t.goal ρ) : (bhC3 t).goal ρ := by
  unfold bhC3
  refine aT (Pleq h45 (Zc 100000) (bh_t20 b_x1)) ?_
  refine aT (Pleq (Zc 0) h47 (bh_t21 b_x2)) ?_
  refine aT (Pleq h47 (Zc 100000) (bh_t22 b_x2)) ?_
  refine aT (Pleq (Zc 0) h48 (bh_t23 b_x3)) ?_
  refine aT (Pleq h48 h51 (bh_t24 b_x3 b_r41)) ?_
  exact ht
theorem bh_t25 {r41 x3 : Int} (b_r41 : 0 ≤ r41 ∧ r41 ≤ 59) (b_x3 : 0 ≤ x3 ∧ x3 ≤ 255) : (r41 + x3 : Int) ≤ 1000 := by omega
theorem bh_t26 {x5 : Int} (b_x5 : 0 ≤ x5 ∧ x5 ≤ 255) : (0 : Int) ≤ x5 := by omega
theorem bh_t27 {x5 r43 : Int} (b_x5 : 0 ≤ x5 ∧ x5 ≤ 255) (b_r43 : 0 ≤ r43 ∧ r43 ≤ 59) : (x5 : Int) ≤ r43 + x5 := by omega
theorem bh_t28 {r43 x5 : Int} (b_r43 : 0 ≤ r43 ∧ r43 ≤ 59) (b_x5 : 0 ≤ x5 ∧ x5 ≤ 255) : (r43 + x5 : Int) ≤ 1000 := by omega
theorem bh_c4 {ρ : Env} {r41 x3 x5 r43 : Int} {t : DT} (h51 : Is ρ bh51 (r41 + x3)) (h52 : Is ρ bh52 (x5)) (h55 : Is ρ bh55 (r43 + x5)) (b_r41 : 0 ≤ r41 ∧ r41 ≤ 59) (b_x3 : 0 ≤ x3 ∧ x3 ≤ 255) (b_x5 : 0 ≤ x5 ∧ x5 ≤ 255) (b_r43 : 0 ≤ r43 ∧ r43 ≤ 59) (ht : t.goal ρ) : (bhC4 t).goal ρ := by
  unfold bhC4
  refine aT (Pleq h51 (Zc 1000) (bh_t25 b_r41 b_x3)) ?_
  refine aT (Pleq (Zc 0) h52 (bh_t26 b_x5)) ?_
  refine aT (Pleq h52 h55 (bh_t27 b_x5 b_r43)) ?_
  refine aT (Pleq h55 (Zc 1000) (bh_t28 b_r43 b_x5)) ?_
  exact ht
theorem bh_t29 {w44 : Int} (b_w44 : 4000 ≤ w44 ∧ w44 ≤ 18428928) : (1 : Int) ≤ w44 := by omega
theorem bh_t30 {x7 : Int} (b_x7 : 0 ≤ x7 ∧ x7 ≤ 255) : (1 : Int) ≤ x7 + 1 := by omega
theorem bh_t31 {x7 r36 : Int} (b_x7 : 0 ≤ x7 ∧ x7 ≤ 255) (b_r36 : 0 ≤ r36 ∧ r36 ≤ 19) : (x7 + 1 : Int) ≤ r36 + x7 + 1 := by omega
theorem bh_t32 {r36 x7 : Int} (b_r36 : 0 ≤ r36 ∧ r36 ≤ 19) (b_x7 : 0 ≤ x7 ∧ x7 ≤ 255) : (r36 + x7 + 1 : Int) ≤ 100000 := by omega
theorem bh_t33 {r121 : Int} (b_r121 : 0 ≤ r121 ∧ r121 ≤ 16) : (0 : Int) ≤ 125 * r121 := by omega
theorem bh_t34 {r121 : Int} (b_r121 : 0 ≤ r121 ∧ r121 ≤ 16) : (125 * r121 : Int) ≤ 100000 := by omega
theorem bh_t35 {w47 w50 : Int} (b_w47 : 0 ≤ w47 ∧ w47 ≤ 1601400) (b_w50 : 0 ≤ w50 ∧ w50 ≤ 2402100) : ¬ ((w47 + w50 + 100000 : Int) = 0) := by omega
theorem bh_t36 {w51 w52 : Int} (b_w51 : 0 ≤ w51 ∧ w51 ≤ 1300500) (b_w52 : 0 ≤ w52 ∧ w52 ≤ 1950750) : ¬ ((w51 + w52 + 100000 : Int) = 0) := by omega
theorem bh_t37 {n127 : Int} (b_n127 : 0 ≤ n127 ∧ n127 ≤ 143976000000) : (0 : Int) ≤ n127 := by omega
theorem bh_d5 {q134 q59 w137 r125 r135 w133 m136 n127 m132 m266 g126 d128 w123 m122 m267 q124 m264 m265 r121 r12 : Int} (b_q59 : 0 ≤ q59 ∧ q59 ≤ 0) (b_r125 : 0 ≤ r125 ∧ r125 ≤ 999999) (b_r135 : 0 ≤ r135 ∧ r135 ≤ 999) (q134s : w133 = 1000 * q134 + r135) (w137s : m136 + n127 = w137) (w133s : 125 * m132 = w133) (rf39 : 0 ≤ (-1) * r125 → 0 ≤ 1000 * m136 + (-125) * m266) (rf40 : 0 ≤ (-1) * r125 → 0 ≤ (-1000) * m136 + 125 * m266) (g126s : (r125 = 0 → g126 = 1000000 ∧ d128 = 1 ∧ 1000000 * n127 = w123) ∧ (d128 = 1 → r125 = 0)) (rf45_0 : 0 ≤ (-1) * m122 + m132 + (-1) * m267) (rf46_0 : 0 ≤ m122 + (-1) * m132 + m267) (q124s : w123 = 1000000 * q124 + r125) (rf41 : m267 = m266) (w123s : 125000 * m122 = w123) (rf37_0 : 0 ≤ 125 * m122 + (-1000) * m264 + (-1) * m265) (rf38_0 : 0 ≤ (-125) * m122 + 1000 * m264 + m265) (m265f1 : (0) * r121 + (0) * r12 - (0) ≤ m265) (m265f4 : m265 ≤ (0) * r121 + (16) * r12 - (0)) (k2 : (r12 : Int) = 0) : (q134 + q59 : Int) = w137 := by omega
theorem bh_d6 {q140 q68 w143 r125 r141 w139 m136 m142 n127 m138 m266 m268 g126 d128 w123 m122 m267 m269 q124 m264 m265 r121 r12 : Int} (b_q68 : 0 ≤ q68 ∧ q68 ≤ 0) (b_r125 : 0 ≤ r125 ∧ r125 ≤ 999999) (b_r141 : 0 ≤ r141 ∧ r141 ≤ 999) (q140s : w139 = 1000 * q140 + r141) (w143s : m136 + m142 + n127 = w143) (w139s : 125 * m138 = w139) (rf39 : 0 ≤ (-1) * r125 → 0 ≤ 1000 * m136 + (-125) * m266) (rf40 : 0 ≤ (-1) * r125 → 0 ≤ (-1000) * m136 + 125 * m266) (rf42 : 0 ≤ (-1) * r125 → 0 ≤ 1000 * m142 + (-125) * m268) (rf43 : 0 ≤ (-1) * r125 → 0 ≤ (-1000) * m142 + 125 * m268) (g126s : (r125 = 0 → g126 = 1000000 ∧ d128 = 1 ∧ 1000000 * n127 = w123) ∧ (d128 = 1 → r125 = 0)) (rf47_0 : 0 ≤ (-1) * m122 + m138 + (-1) * m267 + (-1) * m269) (rf48_0 : 0 ≤ m122 + (-1) * m138 + m267 + m269) (q124s : w123 = 1000000 * q124 + r125) (rf41 : m267 = m266) (rf44 : m269 = m268) (w123s : 125000 * m122 = w123) (rf37_0 : 0 ≤ 125 * m122 + (-1000) * m264 + (-1) * m265) (rf38_0 : 0 ≤ (-125) * m122 + 1000 * m264 + m265) (m265f1 : (0) * r121 + (0) * r12 - (0) ≤ m265) (m265f4 : m265 ≤ (0) * r121 + (16) * r12 - (0)) (k2 : (r12 : Int) = 0) : (q140 + q68 : Int) = w143 := by omega
theorem bh_t40 {r97 : Int} (b_r97 : 0 ≤ r97 ∧ r97 ≤ 80) : ((-1000000000) : Int) ≤ 25000 * r97 := by omega
theorem bh_t41 {r97 : Int} (b_r97 : 0 ≤ r97 ∧ r97 ≤ 80) : (25000 * r97 : Int) ≤ 1000000000 := by omega
theorem bh_t42 {w99 : Int} (b_w99 : 0 ≤ w99 ∧ w99 ≤ 143976000000) : ((-9223372036854775807) : Int) ≤ w99 := by omega
theorem bh_t43 {w99 : Int} (b_w99 : 0 ≤ w99 ∧ w99 ≤ 143976000000) : (w99 : Int) ≤ 9223372036854775807 := by omega
theorem bh_d7 {d104 r101 g102 n103 w99 m98 q100 m258 m259 r97 r14 : Int} (b_r101 : 0 ≤ r101 ∧ r101 ≤ 999999) (g102s : (r101 = 0 → g102 = 1000000 ∧ d104 = 1 ∧ 1000000 * n103 = w99) ∧ (d104 = 1 → r101 = 0)) (w99s : 25000 * m98 = w99) (q100s : w99 = 1000000 * q100 + r101) (rf25_0 : 0 ≤ (-1000) * m258 + (-1) * m259 + 25 * m98) (rf26_0 : 0 ≤ 1000 * m258 + m259 + (-25) * m98) (m259f1 : (0) * r97 + (0) * r14 - (0) ≤ m259) (m259f4 : m259 ≤ (0) * r97 + (80) * r14 - (0)) (k3 : (r14 : Int) = 0) : (d104 : Int) = 1 := by omega
theorem bh_d8 {n103 q106 r101 r107 g102 d104 w99 w105 m98 q100 m258 m259 r97 r14 : Int} (b_r101 : 0 ≤ r101 ∧ r101 ≤ 999999) (b_r107 : 0 ≤ r107 ∧ r107 ≤ 999) (g102s : (r101 = 0 → g102 = 1000000 ∧ d104 = 1 ∧ 1000000 * n103 = w99) ∧ (d104 = 1 → r101 = 0)) (q106s : w105 = 1000 * q106 + r107) (w99s : 25000 * m98 = w99) (q100s : w99 = 1000000 * q100 + r101) (w105s : 25 * m98 = w105) (rf25_0 : 0 ≤ (-1000) * m258 + (-1) * m259 + 25 * m98) (rf26_0 : 0 ≤ 1000 * m258 + m259 + (-25) * m98) (m259f1 : (0) * r97 + (0) * r14 - (0) ≤ m259) (m259f4 : m259 ≤ (0) * r97 + (80) * r14 - (0)) (k3 : (r14 : Int) = 0) : (n103 : Int) = q106 := by omega
theorem bh_t46 {r97 : Int} (b_r97 : 0 ≤ r97 ∧ r97 ≤ 80) : (0 : Int) ≤ 25 * r97 := by omega
theorem bh_t47 {r97 : Int} (b_r97 : 0 ≤ r97 ∧ r97 ≤ 80) : (25 * r97 : Int) ≤ 100000 := by omega
theorem bh_t48 {n103 : Int} (b_n103 : 0 ≤ n103 ∧ n103 ≤ 143976000000) : (0 : Int) ≤ n103 := by omega
theorem bh_d9 {q110 q59 w113 r101 r111 w109 m112 n103 m108 m260 g102 d104 w99 m261 m98 q100 m258 m259 r97 r14 : Int} (b_q59 : 0 ≤ q59 ∧ q59 ≤ 0) (b_r101 : 0 ≤ r101 ∧ r101 ≤ 999999) (b_r111 : 0 ≤ r111 ∧ r111 ≤ 999) (q110s : w109 = 1000 * q110 + r111) (w113s : m112 + n103 = w113) (w109s : 25 * m108 = w109) (rf27 : 0 ≤ (-1) * r101 → 0 ≤ 1000 * m112 + (-25) * m260) (rf28 : 0 ≤ (-1) * r101 → 0 ≤ (-1000) * m112 + 25 * m260) (g102s : (r101 = 0 → g102 = 1000000 ∧ d104 = 1 ∧ 1000000 * n103 = w99) ∧ (d104 = 1 → r101 = 0)) (rf33_0 : 0 ≤ m108 + (-1) * m261 + (-1) * m98) (rf34_0 : 0 ≤ (-1) * m108 + m261 + m98) (q100s : w99 = 1000000 * q100 + r101) (rf29 : m261 = m260) (w99s : 25000 * m98 = w99) (rf25_0 : 0 ≤ (-1000) * m258 + (-1) * m259 + 25 * m98) (rf26_0 : 0 ≤ 1000 * m258 + m259 + (-25) * m98) (m259f1 : (0) * r97 + (0) * r14 - (0) ≤ m259) (m259f4 : m259 ≤ (0) * r97 + (80) * r14 - (0)) (k3 : (r14 : Int) = 0) : (q110 + q59 : Int) = w113 := by omega
theorem bh_d10 {q116 q68 w119 r101 r117 w115 m112 m118 n103 m114 m260 m262 g102 d104 w99 m261 m263 m98 q100 m258 m259 r97 r14 : Int} (b_q68 : 0 ≤ q68 ∧ q68 ≤ 0) (b_r101 : 0 ≤ r101 ∧ r101 ≤ 999999) (b_r117 : 0 ≤ r117 ∧ r117 ≤ 999) (q116s : w115 = 1000 * q116 + r117) (w119s : m112 + m118 + n103 = w119) (w115s : 25 * m114 = w115) (rf27 : 0 ≤ (-1) * r101 → 0 ≤ 1000 * m112 + (-25) * m260) (rf28 : 0 ≤ (-1) * r101 → 0 ≤ (-1000) * m112 + 25 * m260) (rf30 : 0 ≤ (-1) * r101 → 0 ≤ 1000 * m118 + (-25) * m262) (rf31 : 0 ≤ (-1) * r101 → 0 ≤ (-1000) * m118 + 25 * m262) (g102s : (r101 = 0 → g102 = 1000000 ∧ d104 = 1 ∧ 1000000 * n103 = w99) ∧ (d104 = 1 → r101 = 0)) (rf35_0 : 0 ≤ m114 + (-1) * m261 + (-1) * m263 + (-1) * m98) (rf36_0 : 0 ≤ (-1) * m114 + m261 + m263 + m98) (q100s : w99 = 1000000 * q100 + r101) (rf29 : m261 = m260) (rf32 : m263 = m262) (w99s : 25000 * m98 = w99) (rf25_0 : 0 ≤ (-1000) * m258 + (-1) * m259 + 25 * m98) (rf26_0 : 0 ≤ 1000 * m258 + m259 + (-25) * m98) (m259f1 : (0) * r97 + (0) * r14 - (0) ≤ m259) (m259f4 : m259 ≤ (0) * r97 + (80) * r14 - (0)) (k3 : (r14 : Int) = 0) : (q116 + q68 : Int) = w119 := by omega
theorem bh_t51 {r24 : Int} (b_r24 : 0 ≤ r24 ∧ r24 ≤ 2000) : ((-1000000000) : Int) ≤ 1000 * r24 := by omega
theorem bh_t52 {r24 : Int} (b_r24 : 0 ≤ r24 ∧ r24 ≤ 2000) : (1000 * r24 : Int) ≤ 1000000000 := by omega
theorem bh_t53 {w26 : Int} (b_w26 : 0 ≤ w26 ∧ w26 ≤ 143976000000) : ((-9223372036854775807) : Int) ≤ w26 := by omega
theorem bh_t54 {w26 : Int} (b_w26 : 0 ≤ w26 ∧ w26 ≤ 143976000000) : (w26 : Int) ≤ 9223372036854775807 := by omega
theorem bh_d11 {d31 r28 g29 n30 w26 m25 q27 m246 m247 r24 r18 : Int} (b_r28 : 0 ≤ r28 ∧ r28 ≤ 999999) (g29s : (r28 = 0 → g29 = 1000000 ∧ d31 = 1 ∧ 1000000 * n30 = w26) ∧ (d31 = 1 → r28 = 0)) (w26s : 1000 * m25 = w26) (q27s : w26 = 1000000 * q27 + r28) (rf1_0 : 0 ≤ (-1000) * m246 + (-1) * m247 + m25) (rf2_0 : 0 ≤ 1000 * m246 + m247 + (-1) * m25) (m247f1 : (0) * r24 + (0) * r18 - (0) ≤ m247) (m247f4 : m247 ≤ (0) * r24 + (2000) * r18 - (0)) (k5 : (r18 : Int) = 0) : (d31 : Int) = 1 := by omega
theorem bh_d12 {n30 q33 r28 r34 g29 d31 w26 w32 m25 q27 m246 m247 r24 r18 : Int} (b_r28 : 0 ≤ r28 ∧ r28 ≤ 999999) (b_r34 : 0 ≤ r34 ∧ r34 ≤ 999) (g29s : (r28 = 0 → g29 = 1000000 ∧ d31 = 1 ∧ 1000000 * n30 = w26) ∧ (d31 = 1 → r28 = 0)) (q33s : w32 = 1000 * q33 + r34) (w26s : 1000 * m25 = w26) (q27s : w26 = 1000000 * q27 + r28) (w32s : m25 = w32) (rf1_0 : 0 ≤ (-1000) * m246 + (-1) * m247 + m25) (rf2_0 : 0 ≤ 1000 * m246 + m247 + (-1) * m25) (m247f1 : (0) * r24 + (0) * r18 - (0) ≤ m247) (m247f4 : m247 ≤ (0) * r24 + (2000) * r18 - (0)) (k5 : (r18 : Int) = 0) : (n30 : Int) = q33 := by omega
theorem bh_t57 {r24 : Int} (b_r24 : 0 ≤ r24 ∧ r24 ≤ 2000) : (0 : Int) ≤ r24 := by omega
theorem bh_t58 {r24 : Int} (b_r24 : 0 ≤ r24 ∧ r24 ≤ 2000) : (r24 : Int) ≤ 100000 := by omega
theorem bh_t59 {n30 : Int} (b_n30 : 0 ≤ n30 ∧ n30 ≤ 143976000000) : (0 : Int) ≤ n30 := by omega
theorem bh_d13 {q55 q59 w62 r28 r56 w54 m61 n30 m53 m248 g29 d31 w26 m249 m25 q27 m246 m247 r24 r18 : Int} (b_q59 : 0 ≤ q59 ∧ q59 ≤ 0) (b_r28 : 0 ≤ r28 ∧ r28 ≤ 999999) (b_r56 : 0 ≤ r56 ∧ r56 ≤ 999) (q55s : w54 = 1000 * q55 + r56) (w62s : m61 + n30 = w62) (w54s : m53 = w54) (rf3 : 0 ≤ (-1) * r28 → 0 ≤ (-1) * m248 + 1000 * m61) (rf4 : 0 ≤ (-1) * r28 → 0 ≤ m248 + (-1000) * m61) (g29s : (r28 = 0 → g29 = 1000000 ∧ d31 = 1 ∧ 1000000 * n30 = w26) ∧ (d31 = 1 → r28 = 0)) (rf9_0 : 0 ≤ (-1) * m249 + (-1) * m25 + m53) (rf10_0 : 0 ≤ m249 + m25 + (-1) * m53) (q27s : w26 = 1000000 * q27 + r28) (rf5 : m249 = m248) (w26s : 1000 * m25 = w26) (rf1_0 : 0 ≤ (-1000) * m246 + (-1) * m247 + m25) (rf2_0 : 0 ≤ 1000 * m246 + m247 + (-1) * m25) (m247f1 : (0) * r24 + (0) * r18 - (0) ≤ m247) (m247f4 : m247 ≤ (0) * r24 + (2000) * r18 - (0)) (k5 : (r18 : Int) = 0) : (q55 + q59 : Int) = w62 := by omega
theorem bh_d14 {q65 q68 w71 r28 r66 w64 m61 m70 n30 m63 m248 m250 g29 d31 w26 m249 m25 m251 q27 m246 m247 r24 r18 : Int} (b_q68 : 0 ≤ q68 ∧ q68 ≤ 0) (b_r28 : 0 ≤ r28 ∧ r28 ≤ 999999) (b_r66 : 0 ≤ r66 ∧ r66 ≤ 999) (q65s : w64 = 1000 * q65 + r66) (w71s : m61 + m70 + n30 = w71) (w64s : m63 = w64) (rf3 : 0 ≤ (-1) * r28 → 0 ≤ (-1) * m248 + 1000 * m61) (rf4 : 0 ≤ (-1) * r28 → 0 ≤ m248 + (-1000) * m61) (rf6 : 0 ≤ (-1) * r28 → 0 ≤ (-1) * m250 + 1000 * m70) (rf7 : 0 ≤ (-1) * r28 → 0 ≤ m250 + (-1000) * m70) (g29s : (r28 = 0 → g29 = 1000000 ∧ d31 = 1 ∧ 1000000 * n30 = w26) ∧ (d31 = 1 → r28 = 0)) (rf11_0 : 0 ≤ (-1) * m249 + (-1) * m25 + (-1) * m251 + m63) (rf12_0 : 0 ≤ m249 + m25 + m251 + (-1) * m63) (q27s : w26 = 1000000 * q27 + r28) (rf5 : m249 = m248) (rf8 : m251 = m250) (w26s : 1000 * m25 = w26) (rf1_0 : 0 ≤ (-1000) * m246 + (-1) * m247 + m25) (rf2_0 : 0 ≤ 1000 * m246 + m247 + (-1) * m25) (m247f1 : (0) * r24 + (0) * r18 - (0) ≤ m247) (m247f4 : m247 ≤ (0) * r24 + (2000) * r18 - (0)) (k5 : (r18 : Int) = 0) : (q65 + q68 : Int) = w71 := by omega
theorem bh_t62 {r73 : Int} (b_r73 : 0 ≤ r73 ∧ r73 ≤ 400) : ((-1000000000) : Int) ≤ 5000 * r73 := by omega
theorem bh_t63 {r73 : Int} (b_r73 : 0 ≤ r73 ∧ r73 ≤ 400) : (5000 * r73 : Int) ≤ 1000000000 := by omega
theorem bh_t64 {w75 : Int} (b_w75 : 0 ≤ w75 ∧ w75 ≤ 143976000000) : ((-9223372036854775807) : Int) ≤ w75 := by omega
theorem bh_t65 {w75 : Int} (b_w75 : 0 ≤ w75 ∧ w75 ≤ 143976000000) : (w75 : Int) ≤ 9223372036854775807 := by omega
theorem bh_d15 {d80 r77 g78 n79 w75 m74 q76 m252 m253 r73 r16 : Int} (b_r77 : 0 ≤ r77 ∧ r77 ≤ 999999) (g78s : (r77 = 0 → g78 = 1000000 ∧ d80 = 1 ∧ 1000000 * n79 = w75) ∧ (d80 = 1 → r77 = 0)) (w75s : 5000 * m74 = w75) (q76s : w75 = 1000000 * q76 + r77) (rf13_0 : 0 ≤ (-1000) * m252 + (-1) * m253 + 5 * m74) (rf14_0 : 0 ≤ 1000 * m252 + m253 + (-5) * m74) (m253f1 : (0) * r73 + (0) * r16 - (0) ≤ m253) (m253f4 : m253 ≤ (0) * r73 + (400) * r16 - (0)) (k4 : (r16 : Int) = 0) : (d80 : Int) = 1 := by omega
theorem bh_d16 {n79 q82 r77 r83 g78 d80 w75 w81 m74 q76 m252 m253 r73 r16 : Int} (b_r77 : 0 ≤ r77 ∧ r77 ≤ 999999) (b_r83 : 0 ≤ r83 ∧ r83 ≤ 999) (g78s : (r77 = 0 → g78 = 1000000 ∧ d80 = 1 ∧ 1000000 * n79 = w75) ∧ (d80 = 1 → r77 = 0)) (q82s : w81 = 1000 * q82 + r83) (w75s : 5000 * m74 = w75) (q76s : w75 = 1000000 * q76 + r77) (w81s : 5 * m74 = w81) (rf13_0 : 0 ≤ (-1000) * m252 + (-1) * m253 + 5 * m74) (rf14_0 : 0 ≤ 1000 * m252 + m253 + (-5) * m74) (m253f1 : (0) * r73 + (0) * r16 - (0) ≤ m253) (m253f4 : m253 ≤ (0) * r73 + (400) * r16 - (0)) (k4 : (r16 : Int) = 0) : (n79 : Int) = q82 := by omega
theorem bh_t68 {r73 : Int} (b_r73 : 0 ≤ r73 ∧ r73 ≤ 400) : (0 : Int) ≤ 5 * r73 := by omega
theorem bh_t69 {r73 : Int} (b_r73 : 0 ≤ r73 ∧ r73 ≤ 400) : (5 * r73 : Int) ≤ 100000 := by omega
theorem bh_t70 {n79 : Int} (b_n79 : 0 ≤ n79 ∧ n79 ≤ 143976000000) : (0 : Int) ≤ n79 := by omega
theorem bh_d17 {q59 q86 w89 r77 r87 w85 m88 n79 m84 m254 g78 d80 w75 m255 m74 q76 m252 m253 r73 r16 : Int} (b_q59 : 0 ≤ q59 ∧ q59 ≤ 0) (b_r77 : 0 ≤ r77 ∧ r77 ≤ 999999) (b_r87 : 0 ≤ r87 ∧ r87 ≤ 999) (q86s : w85 = 1000 * q86 + r87) (w89s : m88 + n79 = w89) (w85s : 5 * m84 = w85) (rf15 : 0 ≤ (-1) * r77 → 0 ≤ (-5) * m254 + 1000 * m88) (rf16 : 0 ≤ (-1) * r77 → 0 ≤ 5 * m254 + (-1000) * m88) (g78s : (r77 = 0 → g78 = 1000000 ∧ d80 = 1 ∧ 1000000 * n79 = w75) ∧ (d80 = 1 → r77 = 0)) (rf21_0 : 0 ≤ (-1) * m255 + (-1) * m74 + m84) (rf22_0 : 0 ≤ m255 + m74 + (-1) * m84) (q76s : w75 = 1000000 * q76 + r77) (rf17 : m255 = m254) (w75s : 5000 * m74 = w75) (rf13_0 : 0 ≤ (-1000) * m252 + (-1) * m253 + 5 * m74) (rf14_0 : 0 ≤ 1000 * m252 + m253 + (-5) * m74) (m253f1 : (0) * r73 + (0) * r16 - (0) ≤ m253) (m253f4 : m253 ≤ (0) * r73 + (400) * r16 - (0)) (k4 : (r16 : Int) = 0) : (q59 + q86 : Int) = w89 := by omega
theorem bh_d18 {q68 q92 w95 r77 r93 w91 m88 m94 n79 m90 m254 m256 g78 d80 w75 m255 m257 m74 q76 m252 m253 r73 r16 : Int} (b_q68 : 0 ≤ q68 ∧ q68 ≤ 0) (b_r77 : 0 ≤ r77 ∧ r77 ≤ 999999) (b_r93 : 0 ≤ r93 ∧ r93 ≤ 999) (q92s : w91 = 1000 * q92 + r93) (w95s : m88 + m94 + n79 = w95) (w91s : 5 * m90 = w91) (rf15 : 0 ≤ (-1) * r77 → 0 ≤ (-5) * m254 + 1000 * m88) (rf16 : 0 ≤ (-1) * r77 → 0 ≤ 5 * m254 + (-1000) * m88) (rf18 : 0 ≤ (-1) * r77 → 0 ≤ (-5) * m256 + 1000 * m94) (rf19 : 0 ≤ (-1) * r77 → 0 ≤ 5 * m256 + (-1000) * m94) (g78s : (r77 = 0 → g78 = 1000000 ∧ d80 = 1 ∧ 1000000 * n79 = w75) ∧ (d80 = 1 → r77 = 0)) (rf23_0 : 0 ≤ (-1) * m255 + (-1) * m257 + (-1) * m74 + m90) (rf24_0 : 0 ≤ m255 + m257 + m74 + (-1) * m90) (q76s : w75 = 1000000 * q76 + r77) (rf17 : m255 = m254) (rf20 : m257 = m256) (w75s : 5000 * m74 = w75) (rf13_0 : 0 ≤ (-1000) * m252 + (-1) * m253 + 5 * m74) (rf14_0 : 0 ≤ 1000 * m252 + m253 + (-5) * m74) (m253f1 : (0) * r73 + (0) * r16 - (0) ≤ m253) (m253f4 : m253 ≤ (0) * r73 + (400) * r16 - (0)) (k4 : (r16 : Int) = 0) : (q68 + q92 : Int) = w95 := by omega
theorem bh_t73 {r223 : Int} (b_r223 : 0 ≤ r223 ∧ r223 ≤ 8) : ((-1000000000) : Int) ≤ 250000 * r223 := by omega
theorem bh_t74 {r223 : Int} (b_r223 : 0 ≤ r223 ∧ r223 ≤ 8) : (250000 * r223 : Int) ≤ 1000000000 := by omega
theorem bh_t75 {w225 : Int} (b_w225 : 0 ≤ w225 ∧ w225 ≤ 143976000000) : ((-9223372036854775807) : Int) ≤ w225 := by omega
theorem bh_t76 {w225 : Int} (b_w225 : 0 ≤ w225 ∧ w225 ≤ 143976000000) : (w225 : Int) ≤ 9223372036854775807 := by omega
theorem bh_d19 {d230 r10 r227 g228 n229 w225 m224 q226 m288 m289 m5 r2 r4 w6 q9 r223 : Int} (b_r10 : 0 ≤ r10 ∧ r10 ≤ 999) (b_r227 : 0 ≤ r227 ∧ r227 ≤ 999999) (g228s : (r227 = 0 → g228 = 1000000 ∧ d230 = 1 ∧ 1000000 * n229 = w225) ∧ (d230 = 1 → r227 = 0)) (w225s : 250000 * m224 = w225) (q226s : w225 = 1000000 * q226 + r227) (rf85_0 : 0 ≤ 250 * m224 + (-1000) * m288 + (-1) * m289) (rf86_0 : 0 ≤ (-250) * m224 + 1000 * m288 + m289) (w6s : 4 * m5 + 4 * r2 + 4000 * r4 + 4000 = w6) (rf85 : 0 ≤ (-1000) * q9 + (-1) * r10 + 250 * w6) (rf86 : 0 ≤ 1000 * q9 + r10 + (-250) * w6) (m289f1 : (0) * r223 + (0) * r10 - (0) ≤ m289) (m289f4 : m289 ≤ (0) * r223 + (8) * r10 - (0)) : (d230 : Int) = 1 := by omega
theorem bh_d20 {n229 q232 r10 r227 r233 g228 d230 w225 w231 m224 q226 m288 m289 m5 r2 r4 w6 q9 r223 : Int} (b_r10 : 0 ≤ r10 ∧ r10 ≤ 999) (b_r227 : 0 ≤ r227 ∧ r227 ≤ 999999) (b_r233 : 0 ≤ r233 ∧ r233 ≤ 999) (g228s : (r227 = 0 → g228 = 1000000 ∧ d230 = 1 ∧ 1000000 * n229 = w225) ∧ (d230 = 1 → r227 = 0)) (q232s : w231 = 1000 * q232 + r233) (w225s : 250000 * m224 = w225) (q226s : w225 = 1000000 * q226 + r227) (w231s : 250 * m224 = w231) (rf85_0 : 0 ≤ 250 * m224 + (-1000) * m288 + (-1) * m289) (rf86_0 : 0 ≤ (-250) * m224 + 1000 * m288 + m289) (w6s : 4 * m5 + 4 * r2 + 4000 * r4 + 4000 = w6) (rf85 : 0 ≤ (-1000) * q9 + (-1) * r10 + 250 * w6) (rf86 : 0 ≤ 1000 * q9 + r10 + (-250) * w6) (m289f1 : (0) * r223 + (0) * r10 - (0) ≤ m289) (m289f4 : m289 ≤ (0) * r223 + (8) * r10 - (0)) : (n229 : Int) = q232 := by omega
theorem bh_t79 {r223 : Int} (b_r223 : 0 ≤ r223 ∧ r223 ≤ 8) : (0 : Int) ≤ 250 * r223 := by omega
theorem bh_t80 {r223 : Int} (b_r223 : 0 ≤ r223 ∧ r223 ≤ 8) : (250 * r223 : Int) ≤ 100000 := by omega
theorem bh_t81 {n229 : Int} (b_n229 : 0 ≤ n229 ∧ n229 ≤ 143976000000) : (0 : Int) ≤ n229 := by omega
theorem bh_d21 {q236 q59 w239 r10 r227 r237 w235 m238 n229 m234 m290 g228 d230 w225 m224 m291 q226 m288 m289 m5 r2 r4 w6 q9 r223 : Int} (b_q59 : 0 ≤ q59 ∧ q59 ≤ 0) (b_r10 : 0 ≤ r10 ∧ r10 ≤ 999) (b_r227 : 0 ≤ r227 ∧ r227 ≤ 999999) (b_r237 : 0 ≤ r237 ∧ r237 ≤ 999) (q236s : w235 = 1000 * q236 + r237) (w239s : m238 + n229 = w239) (w235s : 250 * m234 = w235) (rf87 : 0 ≤ (-1) * r227 → 0 ≤ 1000 * m238 + (-250) * m290) (rf88 : 0 ≤ (-1) * r227 → 0 ≤ (-1000) * m238 + 250 * m290) (g228s : (r227 = 0 → g228 = 1000000 ∧ d230 = 1 ∧ 1000000 * n229 = w225) ∧ (d230 = 1 → r227 = 0)) (rf93_0 : 0 ≤ (-1) * m224 + m234 + (-1) * m291) (rf94_0 : 0 ≤ m224 + (-1) * m234 + m291) (q226s : w225 = 1000000 * q226 + r227) (rf89 : m291 = m290) (w225s : 250000 * m224 = w225) (rf85_0 : 0 ≤ 250 * m224 + (-1000) * m288 + (-1) * m289) (rf86_0 : 0 ≤ (-250) * m224 + 1000 * m288 + m289) (w6s : 4 * m5 + 4 * r2 + 4000 * r4 + 4000 = w6) (rf85 : 0 ≤ (-1000) * q9 + (-1) * r10 + 250 * w6) (rf86 : 0 ≤ 1000 * q9 + r10 + (-250) * w6) (m289f1 : (0) * r223 + (0) * r10 - (0) ≤ m289) (m289f4 : m289 ≤ (0) * r223 + (8) * r10 - (0)) : (q236 + q59 : Int) = w239 := by omega
theorem bh_d22 {q242 q68 w245 r10 r227 r243 w241 m238 m244 n229 m240 m290 m292 g228 d230 w225 m224 m291 m293 q226 m288 m289 m5 r2 r4 w6 q9 r223 : Int} (b_q68 : 0 ≤ q68 ∧ q68 ≤ 0) (b_r10 : 0 ≤ r10 ∧ r10 ≤ 999) (b_r227 : 0 ≤ r227 ∧ r227 ≤ 999999) (b_r243 : 0 ≤ r243 ∧ r243 ≤ 999) (q242s : w241 = 1000 * q242 + r243) (w245s : m238 + m244 + n229 = w245) (w241s : 250 * m240 = w241) (rf87 : 0 ≤ (-1) * r227 → 0 ≤ 1000 * m238 + (-250) * m290) (rf88 : 0 ≤ (-1) * r227 → 0 ≤ (-1000) * m238 + 250 * m290) (rf90 : 0 ≤ (-1) * r227 → 0 ≤ 1000 * m244 + (-250) * m292) (rf91 : 0 ≤ (-1) * r227 → 0 ≤ (-1000) * m244 + 250 * m292) (g228s : (r227 = 0 → g228 = 1000000 ∧ d230 = 1 ∧ 1000000 * n229 = w225) ∧ (d230 = 1 → r227 = 0)) (rf95_0 : 0 ≤ (-1) * m224 + m240 + (-1) * m291 + (-1) * m293) (rf96_0 : 0 ≤ m224 + (-1) * m240 + m291 + m293) (q226s : w225 = 1000000 * q226 + r227) (rf89 : m291 = m290) (rf92 : m293 = m292) (w225s : 250000 * m224 = w225) (rf85_0 : 0 ≤ 250 * m224 + (-1000) * m288 + (-1) * m289) (rf86_0 : 0 ≤ (-250) * m224 + 1000 * m288 + m289) (w6s : 4 * m5 + 4 * r2 + 4000 * r4 + 4000 = w6) (rf85 : 0 ≤ (-1000) * q9 + (-1) * r10 + 250 * w6) (rf86 : 0 ≤ 1000 * q9 + r10 + (-250) * w6) (m289f1 : (0) * r223 + (0) * r10 - (0) ≤ m289) (m289f4 : m289 ≤ (0) * r223 + (8) * r10 - (0)) : (q242 + q68 : Int) = w245 := by omega
theorem bh_t84 {r199 : Int} (b_r199 : 0 ≤ r199 ∧ r199 ≤ 40) : ((-1000000000) : Int) ≤ 50000 * r199 := by omega
theorem bh_t85 {r199 : Int} (b_r199 : 0 ≤ r199 ∧ r199 ≤ 40) : (50000 * r199 : Int) ≤ 1000000000 := by omega
theorem bh_t86 {w201 : Int} (b_w201 : 0 ≤ w201 ∧ w201 ≤ 143976000000) : ((-9223372036854775807) : Int) ≤ w201 := by omega
theorem bh_t87 {w201 : Int} (b_w201 : 0 ≤ w201 ∧ w201 ≤ 143976000000) : (w201 : Int) ≤ 9223372036854775807 := by omega
theorem bh_d23 {d206 r203 g204 n205 w201 m200 q202 m282 m283 r199 r145 : Int} (b_r203 : 0 ≤ r203 ∧ r203 ≤ 999999) (g204s : (r203 = 0 → g204 = 1000000 ∧ d206 = 1 ∧ 1000000 * n205 = w201) ∧ (d206 = 1 → r203 = 0)) (w201s : 50000 * m200 = w201) (q202s : w201 = 1000000 * q202 + r203) (rf73_0 : 0 ≤ 50 * m200 + (-1000) * m282 + (-1) * m283) (rf74_0 : 0 ≤ (-50) * m200 + 1000 * m282 + m283) (m283f1 : (0) * r199 + (0) * r145 - (0) ≤ m283) (m283f4 : m283 ≤ (0) * r199 + (40) * r145 - (0)) (k3 : (r145 : Int) = 0) : (d206 : Int) = 1 := by omega
theorem bh_d24 {n205 q208 r203 r209 g204 d206 w201 w207 m200 q202 m282 m283 r199 r145 : Int} (b_r203 : 0 ≤ r203 ∧ r203 ≤ 999999) (b_r209 : 0 ≤ r209 ∧ r209 ≤ 999) (g204s : (r203 = 0 → g204 = 1000000 ∧ d206 = 1 ∧ 1000000 * n205 = w201) ∧ (d206 = 1 → r203 = 0)) (q208s : w207 = 1000 * q208 + r209) (w201s : 50000 * m200 = w201) (q202s : w201 = 1000000 * q202 + r203) (w207s : 50 * m200 = w207) (rf73_0 : 0 ≤ 50 * m200 + (-1000) * m282 + (-1) * m283) (rf74_0 : 0 ≤ (-50) * m200 + 1000 * m282 + m283) (m283f1 : (0) * r199 + (0) * r145 - (0) ≤ m283) (m283f4 : m283 ≤ (0) * r199 + (40) * r145 - (0)) (k3 : (r145 : Int) = 0) : (n205 : Int) = q208 := by omega
theorem bh_t90 {r199 : Int} (b_r199 : 0 ≤ r199 ∧ r199 ≤ 40) : (0 : Int) ≤ 50 * r199 := by omega
theorem bh_t91 {r199 : Int} (b_r199 : 0 ≤ r199 ∧ r199 ≤ 40) : (50 * r199 : Int) ≤ 100000 := by omega
theorem bh_t92 {n205 : Int} (b_n205 : 0 ≤ n205 ∧ n205 ≤ 143976000000) : (0 : Int) ≤ n205 := by omega
theorem bh_d25 {q212 q59 w215 r203 r213 w211 m214 n205 m210 m284 g204 d206 w201 m200 m285 q202 m282 m283 r199 r145 : Int} (b_q59 : 0 ≤ q59 ∧ q59 ≤ 0) (b_r203 : 0 ≤ r203 ∧ r203 ≤ 999999) (b_r213 : 0 ≤ r213 ∧ r213 ≤ 999) (q212s : w211 = 1000 * q212 + r213) (w215s : m214 + n205 = w215) (w211s : 50 * m210 = w211) (rf75 : 0 ≤ (-1) * r203 → 0 ≤ 1000 * m214 + (-50) * m284) (rf76 : 0 ≤ (-1) * r203 → 0 ≤ (-1000) * m214 + 50 * m284) (g204s : (r203 = 0 → g204 = 1000000 ∧ d206 = 1 ∧ 1000000 * n205 = w201) ∧ (d206 = 1 → r203 = 0)) (rf81_0 : 0 ≤ (-1) * m200 + m210 + (-1) * m285) (rf82_0 : 0 ≤ m200 + (-1) * m210 + m285) (q202s : w201 = 1000000 * q202 + r203) (rf77 : m285 = m284) (w201s : 50000 * m200 = w201) (rf73_0 : 0 ≤ 50 * m200 + (-1000) * m282 + (-1) * m283) (rf74_0 : 0 ≤ (-50) * m200 + 1000 * m282 + m283) (m283f1 : (0) * r199 + (0) * r145 - (0) ≤ m283) (m283f4 : m283 ≤ (0) * r199 + (40) * r145 - (0)) (k3 : (r145 : Int) = 0) : (q212 + q59 : Int) = w215 := by omega
theorem bh_d26 {q218 q68 w221 r203 r219 w217 m214 m220 n205 m216 m284 m286 g204 d206 w201 m200 m285 m287 q202 m282 m283 r199 r145 : Int} (b_q68 : 0 ≤ q68 ∧ q68 ≤ 0) (b_r203 : 0 ≤ r203 ∧ r203 ≤ 999999) (b_r219 : 0 ≤ r219 ∧ r219 ≤ 999) (q218s : w217 = 1000 * q218 + r219) (w221s : m214 + m220 + n205 = w221) (w217s : 50 * m216 = w217) (rf75 : 0 ≤ (-1) * r203 → 0 ≤ 1000 * m214 + (-50) * m284) (rf76 : 0 ≤ (-1) * r203 → 0 ≤ (-1000) * m214 + 50 * m284) (rf78 : 0 ≤ (-1) * r203 → 0 ≤ 1000 * m220 + (-50) * m286) (rf79 : 0 ≤ (-1) * r203 → 0 ≤ (-1000) * m220 + 50 * m286) (g204s : (r203 = 0 → g204 = 1000000 ∧ d206 = 1 ∧ 1000000 * n205 = w201) ∧ (d206 = 1 → r203 = 0)) (rf83_0 : 0 ≤ (-1) * m200 + m216 + (-1) * m285 + (-1) * m287) (rf84_0 : 0 ≤ m200 + (-1) * m216 + m285 + m287) (q202s : w201 = 1000000 * q202 + r203) (rf77 : m285 = m284) (rf80 : m287 = m286) (w201s : 50000 * m200 = w201) (rf73_0 : 0 ≤ 50 * m200 + (-1000) * m282 + (-1) * m283) (rf74_0 : 0 ≤ (-50) * m200 + 1000 * m282 + m283) (m283f1 : (0) * r199 + (0) * r145 - (0) ≤ m283) (m283f4 : m283 ≤ (0) * r199 + (40) * r145 - (0)) (k3 : (r145 : Int) = 0) : (q218 + q68 : Int) = w221 := by omega
theorem bh_t95 {r151 : Int} (b_r151 : 0 ≤ r151 ∧ r151 ≤ 1000) : ((-1000000000) : Int) ≤ 2000 * r151 := by omega
theorem bh_t96 {r151 : Int} (b_r151 : 0 ≤ r151 ∧ r151 ≤ 1000) : (2000 * r151 : Int) ≤ 1000000000 := by omega
theorem bh_t97 {w153 : Int} (b_w153 : 0 ≤ w153 ∧ w153 ≤ 143976000000) : ((-9223372036854775807) : Int) ≤ w153 := by omega
theorem bh_t98 {w153 : Int} (b_w153 : 0 ≤ w153 ∧ w153 ≤ 143976000000) : (w153 : Int) ≤ 9223372036854775807 := by omega
theorem bh_d27 {d158 r155 g156 n157 w153 m152 q154 m270 m271 r151 r149 : Int} (b_r155 : 0 ≤ r155 ∧ r155 ≤ 999999) (g156s : (r155 = 0 → g156 = 1000000 ∧ d158 = 1 ∧ 1000000 * n157 = w153) ∧ (d158 = 1 → r155 = 0)) (w153s : 2000 * m152 = w153) (q154s : w153 = 1000000 * q154 + r155) (rf49_0 : 0 ≤ 2 * m152 + (-1000) * m270 + (-1) * m271) (rf50_0 : 0 ≤ (-2) * m152 + 1000 * m270 + m271) (m271f1 : (0) * r151 + (0) * r149 - (0) ≤ m271) (m271f4 : m271 ≤ (0) * r151 + (1000) * r149 - (0)) (k5 : (r149 : Int) = 0) : (d158 : Int) = 1 := by omega
theorem bh_d28 {n157 q160 r155 r161 g156 d158 w153 w159 m152 q154 m270 m271 r151 r149 : Int} (b_r155 : 0 ≤ r155 ∧ r155 ≤ 999999) (b_r161 : 0 ≤ r161 ∧ r161 ≤ 999) (g156s : (r155 = 0 → g156 = 1000000 ∧ d158 = 1 ∧ 1000000 * n157 = w153) ∧ (d158 = 1 → r155 = 0)) (q160s : w159 = 1000 * q160 + r161) (w153s : 2000 * m152 = w153) (q154s : w153 = 1000000 * q154 + r155) (w159s : 2 * m152 = w159) (rf49_0 : 0 ≤ 2 * m152 + (-1000) * m270 + (-1) * m271) (rf50_0 : 0 ≤ (-2) * m152 + 1000 * m270 + m271) (m271f1 : (0) * r151 + (0) * r149 - (0) ≤ m271) (m271f4 : m271 ≤ (0) * r151 + (1000) * r149 - (0)) (k5 : (r149 : Int) = 0) : (n157 : Int) = q160 := by omega
theorem bh_t101 {r151 : Int} (b_r151 : 0 ≤ r151 ∧ r151 ≤ 1000) : (0 : Int) ≤ 2 * r151 := by omega
theorem bh_t102 {r151 : Int} (b_r151 : 0 ≤ r151 ∧ r151 ≤ 1000) : (2 * r151 : Int) ≤ 100000 := by omega
end Go.Proofs.Ytknphpihipkdpaa.Cx
