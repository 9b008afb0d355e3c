/- TopBoltSwap: the tests of the law and their arithmetic. Made by tools/cxroot.py. -/
import Derived.Test.YtknphpihipkdpaaBSwapT
import Derived.Test.YtknphpihipkdpaaCxDiv0
set_option linter.unusedSimpArgs false
set_option linter.unusedVariables false
set_option maxRecDepth 100000
set_option maxHeartbeats 4000000
namespace Go.Proofs.Ytknphpihipkdpaa.Cx
open Go Go.RowKit

theorem bs_aq1 {x9 : Int} (b_x9 : 0 ≤ x9 ∧ x9 ≤ 255) : ∃ q r : Int, Hd ((x9) / 60 = q) ∧ Hd ((x9) % 60 = r) ∧ (x9 = 60 * q + r) ∧ (0 ≤ q ∧ q ≤ 4) ∧ (0 ≤ r ∧ r ≤ 59) := ⟨_, _, ⟨rfl⟩, ⟨rfl⟩, by omega, by omega, by omega⟩
theorem bs_aq3 {x11 : Int} (b_x11 : 0 ≤ x11 ∧ x11 ≤ 255) : ∃ q r : Int, Hd ((x11) / 20 = q) ∧ Hd ((x11) % 20 = r) ∧ (x11 = 20 * q + r) ∧ (0 ≤ q ∧ q ≤ 12) ∧ (0 ≤ r ∧ r ≤ 19) := ⟨_, _, ⟨rfl⟩, ⟨rfl⟩, by omega, by omega, by omega⟩
theorem bs_aq5 {x12 : Int} (b_x12 : 0 ≤ x12 ∧ x12 ≤ 255) : ∃ q r : Int, Hd (((-1) * x12).tdiv 100 = q) ∧ Hd (((-1) * x12).tmod 100 = r) ∧ ((-1) * x12 = 100 * q + r) ∧ (0 ≤ (-1) * x12 ∧ 0 ≤ r ∨ (-1) * x12 ≤ 0 ∧ r ≤ 0) ∧ (-2 ≤ q ∧ q ≤ 0) ∧ (-99 ≤ r ∧ r ≤ 0) := by
  obtain ⟨q, r, h1, h2, h3, h4, h5⟩ := td_ex2 ((-1) * x12) 100 (by omega)
  exact ⟨q, r, h1, h2, h3, h4, by omega, by omega⟩
theorem bs_aq7 {x12 : Int} (b_x12 : 0 ≤ x12 ∧ x12 ≤ 255) : ∃ q r : Int, Hd ((x12) / 2 = q) ∧ Hd ((x12) % 2 = r) ∧ (x12 = 2 * q + r) ∧ (0 ≤ q ∧ q ≤ 127) ∧ (0 ≤ r ∧ r ≤ 1) := ⟨_, _, ⟨rfl⟩, ⟨rfl⟩, by omega, by omega, by omega⟩
theorem bs_aq9 {x4 : Int} (b_x4 : 0 ≤ x4 ∧ x4 ≤ 255) : ∃ q r : Int, Hd ((x4) / 60 = q) ∧ Hd ((x4) % 60 = r) ∧ (x4 = 60 * q + r) ∧ (0 ≤ q ∧ q ≤ 4) ∧ (0 ≤ r ∧ r ≤ 59) := ⟨_, _, ⟨rfl⟩, ⟨rfl⟩, by omega, by omega, by omega⟩
theorem bs_aq11 {x6 : Int} (b_x6 : 0 ≤ x6 ∧ x6 ≤ 255) : ∃ q r : Int, Hd ((x6) / 60 = q) ∧ Hd ((x6) % 60 = r) ∧ (x6 = 60 * q + r) ∧ (0 ≤ q ∧ q ≤ 4) ∧ (0 ≤ r ∧ r ≤ 59) := ⟨_, _, ⟨rfl⟩, ⟨rfl⟩, by omega, by omega, by omega⟩
theorem bs_aq13 {x8 : Int} (b_x8 : 0 ≤ x8 ∧ x8 ≤ 255) : ∃ q r : Int, Hd ((x8) / 20 = q) ∧ Hd ((x8) % 20 = r) ∧ (x8 = 20 * q + r) ∧ (0 ≤ q ∧ q ≤ 12) ∧ (0 ≤ r ∧ r ≤ 19) := ⟨_, _, ⟨rfl⟩, ⟨rfl⟩, by omega, by omega, by omega⟩
theorem bs_am15 {r10 x1 : Int} (b_r10 : 0 ≤ r10 ∧ r10 ≤ 59) (b_x1 : 0 ≤ x1 ∧ x1 ≤ 255) : ∃ m : Int, Hd (r10 * x1 = m) ∧ ((0) * x1 + (0) * r10 - (0) ≤ m) ∧ ((59) * x1 + (255) * r10 - (15045) ≤ m) ∧ (m ≤ (59) * x1 + (0) * r10 - (0)) ∧ (m ≤ (0) * x1 + (255) * r10 - (0)) ∧ (0 ≤ m ∧ m ≤ 15045) := by
  obtain ⟨h1, h2, h3, h4⟩ := mcc (x := r10) (y := x1) b_r10.1 b_r10.2 b_x1.1 b_x1.2
  refine ⟨_, ⟨rfl⟩, ?_, ?_, ?_, ?_, ?_, ?_⟩ <;> omega
theorem bs_am16 {x1 x3 : Int} (b_x1 : 0 ≤ x1 ∧ x1 ≤ 255) (b_x3 : 0 ≤ x3 ∧ x3 ≤ 255) : ∃ m : Int, Hd (x1 * x3 = m) ∧ ((0) * x3 + (0) * x1 - (0) ≤ m) ∧ ((255) * x3 + (255) * x1 - (65025) ≤ m) ∧ (m ≤ (255) * x3 + (0) * x1 - (0)) ∧ (m ≤ (0) * x3 + (255) * x1 - (0)) ∧ (0 ≤ m ∧ m ≤ 65025) := by
  obtain ⟨h1, h2, h3, h4⟩ := mcc (x := x1) (y := x3) b_x1.1 b_x1.2 b_x3.1 b_x3.2
  refine ⟨_, ⟨rfl⟩, ?_, ?_, ?_, ?_, ?_, ?_⟩ <;> omega
theorem bs_aw17 {m15 m16 : Int} (b_m15 : 0 ≤ m15 ∧ m15 ≤ 15045) (b_m16 : 0 ≤ m16 ∧ m16 ≤ 65025) : ∃ w : Int, (20 * m15 + 20 * m16 = w) ∧ (0 ≤ w ∧ w ≤ 1601400) := ⟨_, rfl, by omega, by omega⟩
theorem bs_am18 {r12 x2 : Int} (b_r12 : 0 ≤ r12 ∧ r12 ≤ 59) (b_x2 : 0 ≤ x2 ∧ x2 ≤ 255) : ∃ m : Int, Hd (r12 * x2 = m) ∧ ((0) * x2 + (0) * r12 - (0) ≤ m) ∧ ((59) * x2 + (255) * r12 - (15045) ≤ m) ∧ (m ≤ (59) * x2 + (0) * r12 - (0)) ∧ (m ≤ (0) * x2 + (255) * r12 - (0)) ∧ (0 ≤ m ∧ m ≤ 15045) := by
  obtain ⟨h1, h2, h3, h4⟩ := mcc (x := r12) (y := x2) b_r12.1 b_r12.2 b_x2.1 b_x2.2
  refine ⟨_, ⟨rfl⟩, ?_, ?_, ?_, ?_, ?_, ?_⟩ <;> omega
theorem bs_am19 {x2 x5 : Int} (b_x2 : 0 ≤ x2 ∧ x2 ≤ 255) (b_x5 : 0 ≤ x5 ∧ x5 ≤ 255) : ∃ m : Int, Hd (x2 * x5 = m) ∧ ((0) * x5 + (0) * x2 - (0) ≤ m) ∧ ((255) * x5 + (255) * x2 - (65025) ≤ m) ∧ (m ≤ (255) * x5 + (0) * x2 - (0)) ∧ (m ≤ (0) * x5 + (255) * x2 - (0)) ∧ (0 ≤ m ∧ m ≤ 65025) := by
  obtain ⟨h1, h2, h3, h4⟩ := mcc (x := x2) (y := x5) b_x2.1 b_x2.2 b_x5.1 b_x5.2
  refine ⟨_, ⟨rfl⟩, ?_, ?_, ?_, ?_, ?_, ?_⟩ <;> omega
theorem bs_aw20 {m18 m19 : Int} (b_m18 : 0 ≤ m18 ∧ m18 ≤ 15045) (b_m19 : 0 ≤ m19 ∧ m19 ≤ 65025) : ∃ w : Int, (30 * m18 + 30 * m19 = w) ∧ (0 ≤ w ∧ w ≤ 2402100) := ⟨_, rfl, by omega, by omega⟩
theorem bs_aw21 {m16 : Int} (b_m16 : 0 ≤ m16 ∧ m16 ≤ 65025) : ∃ w : Int, (20 * m16 = w) ∧ (0 ≤ w ∧ w ≤ 1300500) := ⟨_, rfl, by omega, by omega⟩
theorem bs_aw22 {m19 : Int} (b_m19 : 0 ≤ m19 ∧ m19 ≤ 65025) : ∃ w : Int, (30 * m19 = w) ∧ (0 ≤ w ∧ w ≤ 1950750) := ⟨_, rfl, by omega, by omega⟩
theorem bs_aw23  : ∃ w : Int, (0 = w) ∧ (0 ≤ w ∧ w ≤ 0) := ⟨_, rfl, by omega, by omega⟩
theorem bs_aw24 {w17 w20 : Int} (b_w17 : 0 ≤ w17 ∧ w17 ≤ 1601400) (b_w20 : 0 ≤ w20 ∧ w20 ≤ 2402100) : ∃ w : Int, (w17 + w20 + 200000 = w) ∧ (200000 ≤ w ∧ w ≤ 4203500) := ⟨_, rfl, by omega, by omega⟩
theorem bs_aq25 {w23 w24 : Int} (b_w23 : 0 ≤ w23 ∧ w23 ≤ 0) (b_w24 : 200000 ≤ w24 ∧ w24 ≤ 4203500) : ∃ q : Int, Hd (w23.tdiv w24 = q) ∧ QD w23 w24 q ∧ (0 ≤ q ∧ q ≤ 0) := by
  obtain ⟨q, h1, h2⟩ := qD_ex w23 w24 (by omega)
  obtain ⟨h3, h4⟩ := qD_rng (lo := 0) (hi := 0) (dl := 200000) h2 (by omega) (by omega) (by omega) (by omega) (by omega) (by omega)
  have h5 := (h2.1 (by omega)).1
  exact ⟨q, h1, h2, by omega, by omega⟩
theorem bs_am26 {q25 w24 : Int} (b_q25 : 0 ≤ q25 ∧ q25 ≤ 0) (b_w24 : 200000 ≤ w24 ∧ w24 ≤ 4203500) : ∃ m : Int, Hd (q25 * w24 = m) ∧ ((0) * w24 + (200000) * q25 - (0) ≤ m) ∧ ((0) * w24 + (4203500) * q25 - (0) ≤ m) ∧ (m ≤ (0) * w24 + (200000) * q25 - (0)) ∧ (m ≤ (0) * w24 + (4203500) * q25 - (0)) ∧ (0 ≤ m ∧ m ≤ 0) := by
  obtain ⟨h1, h2, h3, h4⟩ := mcc (x := q25) (y := w24) b_q25.1 b_q25.2 b_w24.1 b_w24.2
  refine ⟨_, ⟨rfl⟩, ?_, ?_, ?_, ?_, ?_, ?_⟩ <;> omega
theorem bs_aw27 {w21 w22 : Int} (b_w21 : 0 ≤ w21 ∧ w21 ≤ 1300500) (b_w22 : 0 ≤ w22 ∧ w22 ≤ 1950750) : ∃ w : Int, (w21 + w22 + 200000 = w) ∧ (200000 ≤ w ∧ w ≤ 3451250) := ⟨_, rfl, by omega, by omega⟩
theorem bs_aq28 {w23 w27 : Int} (b_w23 : 0 ≤ w23 ∧ w23 ≤ 0) (b_w27 : 200000 ≤ w27 ∧ w27 ≤ 3451250) : ∃ q : Int, Hd (w23.tdiv w27 = q) ∧ QD w23 w27 q ∧ (0 ≤ q ∧ q ≤ 0) := by
  obtain ⟨q, h1, h2⟩ := qD_ex w23 w27 (by omega)
  obtain ⟨h3, h4⟩ := qD_rng (lo := 0) (hi := 0) (dl := 200000) h2 (by omega) (by omega) (by omega) (by omega) (by omega) (by omega)
  have h5 := (h2.1 (by omega)).1
  exact ⟨q, h1, h2, by omega, by omega⟩
theorem bs_am29 {q28 w27 : Int} (b_q28 : 0 ≤ q28 ∧ q28 ≤ 0) (b_w27 : 200000 ≤ w27 ∧ w27 ≤ 3451250) : ∃ m : Int, Hd (q28 * w27 = m) ∧ ((0) * w27 + (200000) * q28 - (0) ≤ m) ∧ ((0) * w27 + (3451250) * q28 - (0) ≤ m) ∧ (m ≤ (0) * w27 + (200000) * q28 - (0)) ∧ (m ≤ (0) * w27 + (3451250) * q28 - (0)) ∧ (0 ≤ m ∧ m ≤ 0) := by
  obtain ⟨h1, h2, h3, h4⟩ := mcc (x := q28) (y := w27) b_q28.1 b_q28.2 b_w27.1 b_w27.2
  refine ⟨_, ⟨rfl⟩, ?_, ?_, ?_, ?_, ?_, ?_⟩ <;> omega
theorem bs_aw30 {r2 r4 x10 : Int} (b_r2 : 0 ≤ r2 ∧ r2 ≤ 59) (b_r4 : 0 ≤ r4 ∧ r4 ≤ 19) (b_x10 : 0 ≤ x10 ∧ x10 ≤ 255) : ∃ w : Int, (500 * r2 + 1154 * r4 + 1154 * x10 = w) ∧ (0 ≤ w ∧ w ≤ 345696) := ⟨_, rfl, by omega, by omega⟩
theorem bs_aw31 {r2 : Int} (b_r2 : 0 ≤ r2 ∧ r2 ≤ 59) : ∃ w : Int, (1000 * r2 = w) ∧ (0 ≤ w ∧ w ≤ 59000) := ⟨_, rfl, by omega, by omega⟩
theorem bs_aq32 {w30 w31 : Int} (b_w30 : 0 ≤ w30 ∧ w30 ≤ 345696) (b_w31 : 0 ≤ w31 ∧ w31 ≤ 59000) : ∃ q : Int, Hd (w30.tdiv w31 = q) ∧ (1 ≤ w31 → QD w30 w31 q) ∧ (0 ≤ q ∧ q ≤ 345696) := qZ_ex w30 w31 (0) 345696 (by omega) (by omega) (by omega) (by omega) (by omega)
theorem bs_am33 {q32 w31 : Int} (b_q32 : 0 ≤ q32 ∧ q32 ≤ 345696) (b_w31 : 0 ≤ w31 ∧ w31 ≤ 59000) : ∃ m : Int, Hd (q32 * w31 = m) ∧ ((0) * w31 + (0) * q32 - (0) ≤ m) ∧ ((345696) * w31 + (59000) * q32 - (20396064000) ≤ m) ∧ (m ≤ (345696) * w31 + (0) * q32 - (0)) ∧ (m ≤ (0) * w31 + (59000) * q32 - (0)) ∧ (0 ≤ m ∧ m ≤ 20396064000) := by
  obtain ⟨h1, h2, h3, h4⟩ := mcc (x := q32) (y := w31) b_q32.1 b_q32.2 b_w31.1 b_w31.2
  refine ⟨_, ⟨rfl⟩, ?_, ?_, ?_, ?_, ?_, ?_⟩ <;> omega
theorem bs_au34 {q32 : Int} (b_q32 : 0 ≤ q32 ∧ q32 ≤ 345696) : ∃ m : Int, (max ((-1) * q32 + 99) 0 = m) ∧ (0 ≤ m ∧ m ≤ 99) := ⟨_, rfl, by omega, by omega⟩
theorem bs_aw35 {r2 r4 x10 : Int} (b_r2 : 0 ≤ r2 ∧ r2 ≤ 59) (b_r4 : 0 ≤ r4 ∧ r4 ≤ 19) (b_x10 : 0 ≤ x10 ∧ x10 ≤ 255) : ∃ w : Int, (500 * r2 + 1154 * r4 + 1154 * x10 + (-1154) = w) ∧ (-1154 ≤ w ∧ w ≤ 344542) := ⟨_, rfl, by omega, by omega⟩
theorem bs_aq36 {w35 w31 : Int} (b_w35 : -1154 ≤ w35 ∧ w35 ≤ 344542) (b_w31 : 0 ≤ w31 ∧ w31 ≤ 59000) : ∃ q : Int, Hd (w35.tdiv w31 = q) ∧ (1 ≤ w31 → QD w35 w31 q) ∧ (-1154 ≤ q ∧ q ≤ 344542) := qZ_ex w35 w31 (-1154) 344542 (by omega) (by omega) (by omega) (by omega) (by omega)
theorem bs_am37 {q36 w31 : Int} (b_q36 : -1154 ≤ q36 ∧ q36 ≤ 344542) (b_w31 : 0 ≤ w31 ∧ w31 ≤ 59000) : ∃ m : Int, Hd (q36 * w31 = m) ∧ ((-1154) * w31 + (0) * q36 - (0) ≤ m) ∧ ((344542) * w31 + (59000) * q36 - (20327978000) ≤ m) ∧ (m ≤ (344542) * w31 + (0) * q36 - (0)) ∧ (m ≤ (-1154) * w31 + (59000) * q36 - (-68086000)) ∧ (-68086000 ≤ m ∧ m ≤ 20327978000) := by
  obtain ⟨h1, h2, h3, h4⟩ := mcc (x := q36) (y := w31) b_q36.1 b_q36.2 b_w31.1 b_w31.2
  refine ⟨_, ⟨rfl⟩, ?_, ?_, ?_, ?_, ?_, ?_⟩ <;> omega
theorem bs_au38 {q36 : Int} (b_q36 : -1154 ≤ q36 ∧ q36 ≤ 344542) : ∃ m : Int, (max ((-1) * q36 + 99) 0 = m) ∧ (0 ≤ m ∧ m ≤ 1253) := ⟨_, rfl, by omega, by omega⟩
theorem bs_rf2 {w31 m33 q32 : Int} (b_q32 : 0 ≤ q32 ∧ q32 ≤ 345696) (m33e : Hd (q32 * w31 = m33)) : 0 ≤ w31 + (-1000) → 0 ≤ m33 + (-1000) * q32 := fun hc => by
  have k : 0 ≤ w31 + (-1000) := by omega
  have e1 : (w31 + (-1000)) * (q32) = m33 + (-1000) * q32 := ((by simp only [Int.add_mul, Int.mul_add, Int.mul_assoc, Int.mul_comm, Int.mul_left_comm, Int.reduceMul, Int.reduceNeg, Int.mul_one, Int.one_mul] <;> omega : (w31 + (-1000)) * (q32) = q32 * w31 + (-1000) * q32).trans (by (try simp only [m33e.out]) <;> omega))
  exact e1 ▸ Int.mul_nonneg k (by omega)
set_option maxHeartbeats 40000000 in
theorem bs_g0 {ρ : Env} {x9 r2 x10 x11 r4 x12 r6 q7 x1 x2 x3 x4 r10 x5 x6 r12 x7 x8 r14 w17 m15 m16 w20 m18 m19 w21 w22 q25 w23 w24 q28 w27 q32 w30 w31 u34 q36 w35 u38 : Int} (e9 : Is ρ (.v 9) x9) (r2e : Hd ((x9) % 60 = r2)) (e10 : Is ρ (.v 10) x10) (e11 : Is ρ (.v 11) x11) (r4e : Hd ((x11) % 20 = r4)) (e12 : Is ρ (.v 12) x12) (r6e : Hd (((-1) * x12).tmod 100 = r6)) (q7e : Hd ((x12) / 2 = q7)) (e1 : Is ρ (.v 1) x1) (e2 : Is ρ (.v 2) x2) (e3 : Is ρ (.v 3) x3) (e4 : Is ρ (.v 4) x4) (r10e : Hd ((x4) % 60 = r10)) (e5 : Is ρ (.v 5) x5) (e6 : Is ρ (.v 6) x6) (r12e : Hd ((x6) % 60 = r12)) (e7 : Is ρ (.v 7) x7) (e8 : Is ρ (.v 8) x8) (r14e : Hd ((x8) % 20 = r14)) (m15e : Hd (r10 * x1 = m15)) (m16e : Hd (x1 * x3 = m16)) (w17s : Hd (20 * m15 + 20 * m16 = w17)) (m18e : Hd (r12 * x2 = m18)) (m19e : Hd (x2 * x5 = m19)) (w20s : Hd (30 * m18 + 30 * m19 = w20)) (w21s : Hd (20 * m16 = w21)) (w22s : Hd (30 * m19 = w22)) (q25e : Hd (w23.tdiv w24 = q25)) (w23s : Hd (0 = w23)) (w24s : Hd (w17 + w20 + 200000 = w24)) (q28e : Hd (w23.tdiv w27 = q28)) (w27s : Hd (w21 + w22 + 200000 = w27)) (q32e : Hd (w30.tdiv w31 = q32)) (w30s : Hd (500 * r2 + 1154 * r4 + 1154 * x10 = w30)) (w31s : Hd (1000 * r2 = w31)) (u34s : Hd (max ((-1) * q32 + 99) 0 = u34)) (q36e : Hd (w35.tdiv w31 = q36)) (w35s : Hd (500 * r2 + 1154 * r4 + 1154 * x10 + (-1154) = w35)) (u38s : Hd (max ((-1) * q36 + 99) 0 = u38)) (b_x9 : 0 ≤ x9 ∧ x9 ≤ 255) (b_r2 : 0 ≤ r2 ∧ r2 ≤ 59) (b_x10 : 0 ≤ x10 ∧ x10 ≤ 255) (b_x11 : 0 ≤ x11 ∧ x11 ≤ 255) (b_r4 : 0 ≤ r4 ∧ r4 ≤ 19) (b_x12 : 0 ≤ x12 ∧ x12 ≤ 255) (b_r6 : -99 ≤ r6 ∧ r6 ≤ 0) (b_q7 : 0 ≤ q7 ∧ q7 ≤ 127) (b_x1 : 0 ≤ x1 ∧ x1 ≤ 255) (b_x2 : 0 ≤ x2 ∧ x2 ≤ 255) (b_x3 : 0 ≤ x3 ∧ x3 ≤ 255) (b_x4 : 0 ≤ x4 ∧ x4 ≤ 255) (b_r10 : 0 ≤ r10 ∧ r10 ≤ 59) (b_x5 : 0 ≤ x5 ∧ x5 ≤ 255) (b_x6 : 0 ≤ x6 ∧ x6 ≤ 255) (b_r12 : 0 ≤ r12 ∧ r12 ≤ 59) (b_x7 : 0 ≤ x7 ∧ x7 ≤ 255) (b_x8 : 0 ≤ x8 ∧ x8 ≤ 255) (b_r14 : 0 ≤ r14 ∧ r14 ≤ 19) (b_w17 : 0 ≤ w17 ∧ w17 ≤ 1601400) (b_m15 : 0 ≤ m15 ∧ m15 ≤ 15045) (b_m16 : 0 ≤ m16 ∧ m16 ≤ 65025) (b_w20 : 0 ≤ w20 ∧ w20 ≤ 2402100) (b_m18 : 0 ≤ m18 ∧ m18 ≤ 15045) (b_m19 : 0 ≤ m19 ∧ m19 ≤ 65025) (b_w21 : 0 ≤ w21 ∧ w21 ≤ 1300500) (b_w22 : 0 ≤ w22 ∧ w22 ≤ 1950750) (b_q25 : 0 ≤ q25 ∧ q25 ≤ 0) (b_w23 : 0 ≤ w23 ∧ w23 ≤ 0) (b_w24 : 200000 ≤ w24 ∧ w24 ≤ 4203500) (b_q28 : 0 ≤ q28 ∧ q28 ≤ 0) (b_w27 : 200000 ≤ w27 ∧ w27 ≤ 3451250) (b_q32 : 0 ≤ q32 ∧ q32 ≤ 345696) (b_w30 : 0 ≤ w30 ∧ w30 ≤ 345696) (b_w31 : 0 ≤ w31 ∧ w31 ≤ 59000) (b_u34 : 0 ≤ u34 ∧ u34 ≤ 99) (b_q36 : -1154 ≤ q36 ∧ q36 ≤ 344542) (b_w35 : -1154 ≤ w35 ∧ w35 ≤ 344542) (b_u38 : 0 ≤ u38 ∧ u38 ≤ 1253) : Is ρ bs2 (r2 + 10000) ∧ Is ρ bs3 (500 * r2 + 5000000) ∧ Is ρ bs5 ((-1) * x10) ∧ Is ρ bs7 (r4) ∧ Is ρ bs10 (r6) ∧ Is ρ bs11 (q7) ∧ Is ρ bs22 (500 * r2 + 1154 * r4 + 1154 * x10) ∧ Is ρ bs25 (1000 * r2) ∧ Is ρ bs26 ((-1) * x10 + 1) ∧ Is ρ bs30 (500 * r2 + 1154 * r4 + 1154 * x10 + (-1154)) ∧ Is ρ bs31 (r6 + (-7)) ∧ Is ρ bs32 (q7 + 7) ∧ Is ρ bs37 (500 * r2 + 1154 * r4 + 1154 * x10) ∧ Is ρ bs39 (20 * x1) ∧ Is ρ bs41 (30 * x2) ∧ Is ρ bs42 (x3) ∧ Is ρ bs45 (r10 + x3) ∧ Is ρ bs46 (x5) ∧ Is ρ bs49 (r12 + x5) ∧ Is ρ bs51 (x7 + 1) ∧ Is ρ bs54 (r14 + x7 + 1) ∧ Is ρ bs58 (w17 + w20 + 200000) ∧ Is ρ bs62 (w21 + w22 + 200000) ∧ Is ρ bs64 (q25) ∧ Is ρ bs66 (q28 + 100000) ∧ Is ρ bs67 (q28) ∧ Is ρ bs70 ((-1) * u34 + 100) ∧ Is ρ bs73 ((-1) * u38 + 100) ∧ Is ρ bs76 ((-1) * u34 + 100) ∧ Is ρ bs77 ((-1000) * u34 + 100000) ∧ Is ρ bs78 ((-1000) * u38 + 100000) ∧ Is ρ bs81 (q28 + (-1000) * u34 + 100000) ∧ Is ρ bs84 (q28 + (-1000) * u38 + 100000) := by
  have h0 : Is ρ bs0 (x9) := Zconv e9 (by omega)
  have h1 : Is ρ bs1 (r2) := Zremp h0 (Zc 60) (by omega) r2e.out
  have h2 : Is ρ bs2 (r2 + 10000) := Ya (Zc 10000) h1 (by omega)
  have h3 : Is ρ bs3 (500 * r2 + 5000000) := Ym (Zc 500) h2 (by omega)
  have h4 : Is ρ bs4 (x10) := Zconv e10 (by omega)
  have h5 : Is ρ bs5 ((-1) * x10) := Ys (Zc 0) h4 (by omega)
  have h6 : Is ρ bs6 (x11) := Zconv e11 (by omega)
  have h7 : Is ρ bs7 (r4) := Zremp h6 (Zc 20) (by omega) r4e.out
  have h8 : Is ρ bs8 (x12) := Zconv e12 (by omega)
  have h9 : Is ρ bs9 ((-1) * x12) := Ys (Zc 0) h8 (by omega)
  have h10 : Is ρ bs10 (r6) := Ztr h9 (Zc 100) r6e.out
  have h11 : Is ρ bs11 (q7) := Zquop h8 (Zc 2) (by omega) (by omega) q7e.out
  have h12 : Is ρ bs12 (r2) := Ys h2 (Zc 10000) (by omega)
  have h13 : Is ρ bs13 (500 * r2) := Ym (Zc 500) h12 (by omega)
  have h14 : Is ρ bs14 (1154 * r4) := Ym h7 (Zc 1154) (by omega)
  have h15 : Is ρ bs15 (500 * r2 + 1154 * r4) := Ya h13 h14 (by omega)
  have h16 : Is ρ bs16 ((-1154) * x10) := Ym h5 (Zc 1154) (by omega)
  have h17 : Is ρ bs17 (500 * r2 + 1154 * r4 + 1154 * x10) := Ys h15 h16 (by omega)
  have h18 : Is ρ bs18 (0) := Ym h10 (Zc 0) (by omega)
  have h19 : Is ρ bs19 (0) := Ym h11 (Zc 0) (by omega)
  have h20 : Is ρ bs20 (0) := Zmx h18 h19 (by omega)
  have h21 : Is ρ bs21 (500 * r2 + 1154 * r4 + 1154 * x10) := Ys h17 h20 (by omega)
  have h22 : Is ρ bs22 (500 * r2 + 1154 * r4 + 1154 * x10) := Ys h21 h20 (by omega)
  have h23 : Is ρ bs23 ((-1) * r2) := Ys (Zc 10000) h2 (by omega)
  have h24 : Is ρ bs24 (r2) := Zmx h12 h23 (by omega)
  have h25 : Is ρ bs25 (1000 * r2) := Ym (Zc 1000) h24 (by omega)
  have h26 : Is ρ bs26 ((-1) * x10 + 1) := Ya h5 (Zc 1) (by omega)
  have h27 : Is ρ bs27 ((-1154) * x10 + 1154) := Ym h26 (Zc 1154) (by omega)
  have h28 : Is ρ bs28 (500 * r2 + 1154 * r4 + 1154 * x10 + (-1154)) := Ys h15 h27 (by omega)
  have h29 : Is ρ bs29 (500 * r2 + 1154 * r4 + 1154 * x10 + (-1154)) := Ys h28 h20 (by omega)
  have h30 : Is ρ bs30 (500 * r2 + 1154 * r4 + 1154 * x10 + (-1154)) := Ys h29 h20 (by omega)
  have h31 : Is ρ bs31 (r6 + (-7)) := Ys h10 (Zc 7) (by omega)
  have h32 : Is ρ bs32 (q7 + 7) := Ya h11 (Zc 7) (by omega)
  have h33 : Is ρ bs33 (0) := Ym h31 (Zc 0) (by omega)
  have h34 : Is ρ bs34 (0) := Ym h32 (Zc 0) (by omega)
  have h35 : Is ρ bs35 (0) := Zmx h33 h34 (by omega)
  have h36 : Is ρ bs36 (500 * r2 + 1154 * r4 + 1154 * x10) := Ys h17 h35 (by omega)
  have h37 : Is ρ bs37 (500 * r2 + 1154 * r4 + 1154 * x10) := Ys h36 h35 (by omega)
  have h38 : Is ρ bs38 (x1) := Zconv e1 (by omega)
  have h39 : Is ρ bs39 (20 * x1) := Ym (Zc 20) h38 (by omega)
  have h40 : Is ρ bs40 (x2) := Zconv e2 (by omega)
  have h41 : Is ρ bs41 (30 * x2) := Ym (Zc 30) h40 (by omega)
  have h42 : Is ρ bs42 (x3) := Zconv e3 (by omega)
  have h43 : Is ρ bs43 (x4) := Zconv e4 (by omega)
  have h44 : Is ρ bs44 (r10) := Zremp h43 (Zc 60) (by omega) r10e.out
  have h45 : Is ρ bs45 (r10 + x3) := Ya h42 h44 (by omega)
  have h46 : Is ρ bs46 (x5) := Zconv e5 (by omega)
  have h47 : Is ρ bs47 (x6) := Zconv e6 (by omega)
  have h48 : Is ρ bs48 (r12) := Zremp h47 (Zc 60) (by omega) r12e.out
  have h49 : Is ρ bs49 (r12 + x5) := Ya h46 h48 (by omega)
  have h50 : Is ρ bs50 (x7) := Zconv e7 (by omega)
  have h51 : Is ρ bs51 (x7 + 1) := Ya (Zc 1) h50 (by omega)
  have h52 : Is ρ bs52 (x8) := Zconv e8 (by omega)
  have h53 : Is ρ bs53 (r14) := Zremp h52 (Zc 20) (by omega) r14e.out
  have h54 : Is ρ bs54 (r14 + x7 + 1) := Ya h51 h53 (by omega)
  have h55 : Is ρ bs55 (w17) := by
    have w17s := w17s.out
    exact Zmul h39 h45 (by omega) (((by simp only [Int.add_mul, Int.mul_add, Int.mul_assoc, Int.mul_comm, Int.mul_left_comm, Int.reduceMul, Int.reduceNeg, Int.mul_one, Int.one_mul] <;> omega : (20 * x1) * (r10 + x3) = 20 * (r10 * x1) + 20 * (x1 * x3)).trans (by (try simp only [m15e.out, m16e.out]) <;> omega)).trans w17s)
  have h56 : Is ρ bs56 (w20) := by
    have w20s := w20s.out
    exact Zmul h41 h49 (by omega) (((by simp only [Int.add_mul, Int.mul_add, Int.mul_assoc, Int.mul_comm, Int.mul_left_comm, Int.reduceMul, Int.reduceNeg, Int.mul_one, Int.one_mul] <;> omega : (30 * x2) * (r12 + x5) = 30 * (r12 * x2) + 30 * (x2 * x5)).trans (by (try simp only [m18e.out, m19e.out]) <;> omega)).trans w20s)
  have h57 : Is ρ bs57 (w17 + w20) := Ya h55 h56 (by omega)
  have h58 : Is ρ bs58 (w17 + w20 + 200000) := Ya h57 (Zc 200000) (by omega)
  have h59 : Is ρ bs59 (w21) := by
    have w21s := w21s.out
    exact Zmul h39 h42 (by omega) (((by simp only [Int.add_mul, Int.mul_add, Int.mul_assoc, Int.mul_comm, Int.mul_left_comm, Int.reduceMul, Int.reduceNeg, Int.mul_one, Int.one_mul] <;> omega : (20 * x1) * (x3) = 20 * (x1 * x3)).trans (by (try simp only [m16e.out]) <;> omega)).trans w21s)
  have h60 : Is ρ bs60 (w22) := by
    have w22s := w22s.out
    exact Zmul h41 h46 (by omega) (((by simp only [Int.add_mul, Int.mul_add, Int.mul_assoc, Int.mul_comm, Int.mul_left_comm, Int.reduceMul, Int.reduceNeg, Int.mul_one, Int.one_mul] <;> omega : (30 * x2) * (x5) = 30 * (x2 * x5)).trans (by (try simp only [m19e.out]) <;> omega)).trans w22s)
  have h61 : Is ρ bs61 (w21 + w22) := Ya h59 h60 (by omega)
  have h62 : Is ρ bs62 (w21 + w22 + 200000) := Ya h61 (Zc 200000) (by omega)
  have h63 : Is ρ bs63 (q25) := by
    have w23s := w23s.out
    have w24s := w24s.out
    exact Ztq (w23s ▸ (Zc 0)) (w24s ▸ h58) q25e.out (by omega)
  have h64 : Is ρ bs64 (q25) := Ya (Zc 0) h63 (by omega)
  have h65 : Is ρ bs65 (q28) := by
    have w23s := w23s.out
    have w27s := w27s.out
    exact Ztq (w23s ▸ (Zc 0)) (w27s ▸ h62) q28e.out (by omega)
  have h66 : Is ρ bs66 (q28 + 100000) := Ya (Zc 100000) h65 (by omega)
  have h67 : Is ρ bs67 (q28) := Ya (Zc 0) h65 (by omega)
  have h68 : Is ρ bs68 (q32) := by
    have w30s := w30s.out
    have w31s := w31s.out
    exact Ztq (w30s ▸ h22) (w31s ▸ h25) q32e.out (by omega)
  have h69 : Is ρ bs69 (q32 + 1) := Ya (Zc 1) h68 (by omega)
  have h70 : Is ρ bs70 ((-1) * u34 + 100) := by
    have u34s := u34s.out
    exact Zmn h69 (Zc 100) (by omega)
  have h71 : Is ρ bs71 (q36) := by
    have w35s := w35s.out
    have w31s := w31s.out
    exact Ztq (w35s ▸ h30) (w31s ▸ h25) q36e.out (by omega)
  have h72 : Is ρ bs72 (q36 + 1) := Ya (Zc 1) h71 (by omega)
  have h73 : Is ρ bs73 ((-1) * u38 + 100) := by
    have u38s := u38s.out
    exact Zmn h72 (Zc 100) (by omega)
  have h74 : Is ρ bs74 (q32) := by
    have w30s := w30s.out
    have w31s := w31s.out
    exact Ztq (w30s ▸ h37) (w31s ▸ h25) q32e.out (by omega)
  have h75 : Is ρ bs75 (q32 + 1) := Ya (Zc 1) h74 (by omega)
  have h76 : Is ρ bs76 ((-1) * u34 + 100) := by
    have u34s := u34s.out
    exact Zmn h75 (Zc 100) (by omega)
  have h77 : Is ρ bs77 ((-1000) * u34 + 100000) := Ym (Zc 1000) h70 (by omega)
  have h78 : Is ρ bs78 ((-1000) * u38 + 100000) := Ym (Zc 1000) h73 (by omega)
  have h79 : Is ρ bs79 ((-1000000) * u34 + 100000000) := Ym (Zc 1000) h77 (by omega)
  have h80 : Is ρ bs80 ((-1000) * u34 + 100000) := Zqx h79 (Zc 1000) (by omega) (by omega) (by omega)
  have h81 : Is ρ bs81 (q28 + (-1000) * u34 + 100000) := Ya h80 h65 (by omega)
  have h82 : Is ρ bs82 ((-1000000) * u38 + 100000000) := Ym (Zc 1000) h78 (by omega)
  have h83 : Is ρ bs83 ((-1000) * u38 + 100000) := Zqx h82 (Zc 1000) (by omega) (by omega) (by omega)
  have h84 : Is ρ bs84 (q28 + (-1000) * u38 + 100000) := Ya h83 h65 (by omega)
  exact ⟨h2, h3, h5, h7, h10, h11, h22, h25, h26, h30, h31, h32, h37, h39, h41, h42, h45, h46, h49, h51, h54, h58, h62, h64, h66, h67, h70, h73, h76, h77, h78, h81, h84⟩
theorem bs_t0 {r2 : Int} (b_r2 : 0 ≤ r2 ∧ r2 ≤ 59) : (100 : Int) ≤ r2 + 10000 := by omega
theorem bs_t1 {r2 : Int} (b_r2 : 0 ≤ r2 ∧ r2 ≤ 59) : (r2 + 10000 : Int) ≤ 200000 := by omega
theorem bs_t2 {r2 : Int} (b_r2 : 0 ≤ r2 ∧ r2 ≤ 59) : (3462000 : Int) ≤ 500 * r2 + 5000000 := by omega
theorem bs_t3 {x10 : Int} (b_x10 : 0 ≤ x10 ∧ x10 ≤ 255) : ((-10000) : Int) ≤ (-1) * x10 := by omega
theorem bs_t4 {x10 : Int} (b_x10 : 0 ≤ x10 ∧ x10 ≤ 255) : ((-1) * x10 : Int) ≤ 10000 := by omega
theorem bs_t5 {r4 : Int} (b_r4 : 0 ≤ r4 ∧ r4 ≤ 19) : ((-10000) : Int) ≤ r4 := by omega
theorem bs_t6 {r4 : Int} (b_r4 : 0 ≤ r4 ∧ r4 ≤ 19) : (r4 : Int) ≤ 10000 := by omega
theorem bs_t7 {r6 : Int} (b_r6 : -99 ≤ r6 ∧ r6 ≤ 0) : ((-200000) : Int) ≤ r6 := by omega
theorem bs_t8 {r6 q7 : Int} (b_r6 : -99 ≤ r6 ∧ r6 ≤ 0) (b_q7 : 0 ≤ q7 ∧ q7 ≤ 127) : (r6 : Int) ≤ q7 := by omega
theorem bs_t9 {q7 : Int} (b_q7 : 0 ≤ q7 ∧ q7 ≤ 127) : (q7 : Int) ≤ 200000 := by omega
theorem bs_t10 {r2 r4 x10 : Int} (b_r2 : 0 ≤ r2 ∧ r2 ≤ 59) (b_r4 : 0 ≤ r4 ∧ r4 ≤ 19) (b_x10 : 0 ≤ x10 ∧ x10 ≤ 255) : (0 : Int) ≤ 500 * r2 + 1154 * r4 + 1154 * x10 := by omega
theorem bs_t11 {x10 : Int} (b_x10 : 0 ≤ x10 ∧ x10 ≤ 255) : ((-10000) : Int) ≤ (-1) * x10 + 1 := by omega
theorem bs_t12 {x10 : Int} (b_x10 : 0 ≤ x10 ∧ x10 ≤ 255) : ((-1) * x10 + 1 : Int) ≤ 10000 := by omega
theorem bs_t13 {r6 : Int} (b_r6 : -99 ≤ r6 ∧ r6 ≤ 0) : ((-200000) : Int) ≤ r6 + (-7) := by omega
theorem bs_t14 {r6 q7 : Int} (b_r6 : -99 ≤ r6 ∧ r6 ≤ 0) (b_q7 : 0 ≤ q7 ∧ q7 ≤ 127) : (r6 + (-7) : Int) ≤ q7 + 7 := by omega
theorem bs_t15 {q7 : Int} (b_q7 : 0 ≤ q7 ∧ q7 ≤ 127) : (q7 + 7 : Int) ≤ 200000 := by omega
theorem bs_c0 {ρ : Env} {r6 q7 : Int} {t : DT} (h31 : Is ρ bs31 (r6 + (-7))) (h32 : Is ρ bs32 (q7 + 7)) (b_r6 : -99 ≤ r6 ∧ r6 ≤ 0) (b_q7 : 0 ≤ q7 ∧ q7 ≤ 127) (ht : t.goal ρ) : (bsC0 t).goal ρ := by
  unfold bsC0
  refine aT (Pleq (Zc (-200000)) h31 (bs_t13 b_r6)) ?_
  refine aT (Pleq h31 h32 (bs_t14 b_r6 b_q7)) ?_
  refine aT (Pleq h32 (Zc 200000) (bs_t15 b_q7)) ?_
  exact ht
theorem bs_t16 {x1 : Int} (b_x1 : 0 ≤ x1 ∧ x1 ≤ 255) : (0 : Int) ≤ 20 * x1 := by omega
theorem bs_t17 {x1 : Int} (b_x1 : 0 ≤ x1 ∧ x1 ≤ 255) : (20 * x1 : Int) ≤ 100000 := by omega
theorem bs_t18 {x2 : Int} (b_x2 : 0 ≤ x2 ∧ x2 ≤ 255) : (0 : Int) ≤ 30 * x2 := by omega
theorem bs_t19 {x2 : Int} (b_x2 : 0 ≤ x2 ∧ x2 ≤ 255) : (30 * x2 : Int) ≤ 100000 := by omega
theorem bs_t20 {x3 : Int} (b_x3 : 0 ≤ x3 ∧ x3 ≤ 255) : (0 : Int) ≤ x3 := by omega
theorem bs_t21 {x3 r10 : Int} (b_x3 : 0 ≤ x3 ∧ x3 ≤ 255) (b_r10 : 0 ≤ r10 ∧ r10 ≤ 59) : (x3 : Int) ≤ r10 + x3 := by omega
theorem bs_t22 {r10 x3 : Int} (b_r10 : 0 ≤ r10 ∧ r10 ≤ 59) (b_x3 : 0 ≤ x3 ∧ x3 ≤ 255) : (r10 + x3 : Int) ≤ 1000 := by omega
theorem bs_t23 {x5 : Int} (b_x5 : 0 ≤ x5 ∧ x5 ≤ 255) : (0 : Int) ≤ x5 := by omega
theorem bs_t24 {x5 r12 : Int} (b_x5 : 0 ≤ x5 ∧ x5 ≤ 255) (b_r12 : 0 ≤ r12 ∧ r12 ≤ 59) : (x5 : Int) ≤ r12 + x5 := by omega
theorem bs_c1 {ρ : Env} {x1 x2 x3 r10 x5 r12 : Int} {t : DT} (h39 : Is ρ bs39 (20 * x1)) (h41 : Is ρ bs41 (30 * x2)) (h42 : Is ρ bs42 (x3)) (h45 : Is ρ bs45 (r10 + x3)) (h46 : Is ρ bs46 (x5)) (h49 : Is ρ bs49 (r12 + x5)) (b_x1 : 0 ≤ x1 ∧ x1 ≤ 255) (b_x2 : 0 ≤ x2 ∧ x2 ≤ 255) (b_x3 : 0 ≤ x3 ∧ x3 ≤ 255) (b_r10 : 0 ≤ r10 ∧ r10 ≤ 59) (b_x5 : 0 ≤ x5 ∧ x5 ≤ 255) (b_r12 : 0 ≤ r12 ∧ r12 ≤ 59) (ht : t.goal ρ) : (bsC1 t).goal ρ := by
  unfold bsC1
  refine aT (Pleq (Zc 0) h39 (bs_t16 b_x1)) ?_
  refine aT (Pleq h39 (Zc 100000) (bs_t17 b_x1)) ?_
  refine aT (Pleq (Zc 0) h41 (bs_t18 b_x2)) ?_
  refine aT (Pleq h41 (Zc 100000) (bs_t19 b_x2)) ?_
  refine aT (Pleq (Zc 0) h42 (bs_t20 b_x3)) ?_
  refine aT (Pleq h42 h45 (bs_t21 b_x3 b_r10)) ?_
  refine aT (Pleq h45 (Zc 1000) (bs_t22 b_r10 b_x3)) ?_
  refine aT (Pleq (Zc 0) h46 (bs_t23 b_x5)) ?_
  refine aT (Pleq h46 h49 (bs_t24 b_x5 b_r12)) ?_
  exact ht
theorem bs_t25 {r12 x5 : Int} (b_r12 : 0 ≤ r12 ∧ r12 ≤ 59) (b_x5 : 0 ≤ x5 ∧ x5 ≤ 255) : (r12 + x5 : Int) ≤ 1000 := by omega
theorem bs_t26 {x7 : Int} (b_x7 : 0 ≤ x7 ∧ x7 ≤ 255) : (1 : Int) ≤ x7 + 1 := by omega
theorem bs_t27 {x7 r14 : Int} (b_x7 : 0 ≤ x7 ∧ x7 ≤ 255) (b_r14 : 0 ≤ r14 ∧ r14 ≤ 19) : (x7 + 1 : Int) ≤ r14 + x7 + 1 := by omega
theorem bs_t28 {r14 x7 : Int} (b_r14 : 0 ≤ r14 ∧ r14 ≤ 19) (b_x7 : 0 ≤ x7 ∧ x7 ≤ 255) : (r14 + x7 + 1 : Int) ≤ 100000 := by omega
theorem bs_t29 {w17 w20 : Int} (b_w17 : 0 ≤ w17 ∧ w17 ≤ 1601400) (b_w20 : 0 ≤ w20 ∧ w20 ≤ 2402100) : ¬ ((w17 + w20 + 200000 : Int) = 0) := by omega
theorem bs_t30 {w21 w22 : Int} (b_w21 : 0 ≤ w21 ∧ w21 ≤ 1300500) (b_w22 : 0 ≤ w22 ∧ w22 ≤ 1950750) : ¬ ((w21 + w22 + 200000 : Int) = 0) := by omega
theorem bs_t31 {q25 : Int} (b_q25 : 0 ≤ q25 ∧ q25 ≤ 0) : (q25 : Int) = 0 := by omega
theorem bs_t32 {q28 : Int} (b_q28 : 0 ≤ q28 ∧ q28 ≤ 0) : (q28 + 100000 : Int) = 100000 := by omega
theorem bs_t33 {q28 : Int} (b_q28 : 0 ≤ q28 ∧ q28 ≤ 0) : ¬ ((q28 + 100000 : Int) ≤ 20000) := by omega
theorem bs_t34 {q28 : Int} (b_q28 : 0 ≤ q28 ∧ q28 ≤ 0) : (q28 : Int) ≤ q28 + 100000 := by omega
theorem bs_t35 {u34 : Int} (b_u34 : 0 ≤ u34 ∧ u34 ≤ 99) : (0 : Int) ≤ (-1) * u34 + 100 := by omega
theorem bs_t36 {u34 : Int} (b_u34 : 0 ≤ u34 ∧ u34 ≤ 99) : ((-1) * u34 + 100 : Int) ≤ 100 := by omega
theorem bs_c2 {ρ : Env} {u34 : Int} {t : DT} (h70 : Is ρ bs70 ((-1) * u34 + 100)) (b_u34 : 0 ≤ u34 ∧ u34 ≤ 99) (ht : t.goal ρ) : (bsC2 t).goal ρ := by
  unfold bsC2
  refine aT (Pleq (Zc 0) h70 (bs_t35 b_u34)) ?_
  refine aT (Pleq h70 (Zc 100) (bs_t36 b_u34)) ?_
  exact ht
theorem bs_t37 {u34 : Int} (b_u34 : 0 ≤ u34 ∧ u34 ≤ 99) : ((-1) * u34 + 100 : Int) ≤ (-1) * u34 + 100 := by omega
theorem bs_c3 {ρ : Env} {u34 x1 x2 x3 r10 x5 r12 : Int} {t : DT} (h76 : Is ρ bs76 ((-1) * u34 + 100)) (h70 : Is ρ bs70 ((-1) * u34 + 100)) (h39 : Is ρ bs39 (20 * x1)) (h41 : Is ρ bs41 (30 * x2)) (h42 : Is ρ bs42 (x3)) (h45 : Is ρ bs45 (r10 + x3)) (h46 : Is ρ bs46 (x5)) (h49 : Is ρ bs49 (r12 + x5)) (b_u34 : 0 ≤ u34 ∧ u34 ≤ 99) (b_x1 : 0 ≤ x1 ∧ x1 ≤ 255) (b_x2 : 0 ≤ x2 ∧ x2 ≤ 255) (b_x3 : 0 ≤ x3 ∧ x3 ≤ 255) (b_r10 : 0 ≤ r10 ∧ r10 ≤ 59) (b_x5 : 0 ≤ x5 ∧ x5 ≤ 255) (b_r12 : 0 ≤ r12 ∧ r12 ≤ 59) (ht : t.goal ρ) : (bsC3 t).goal ρ := by
  unfold bsC3
  refine aT (Pleq h76 h70 (bs_t37 b_u34)) ?_
  refine aT (Pleq (Zc 0) h39 (bs_t16 b_x1)) ?_
  refine aT (Pleq h39 (Zc 100000) (bs_t17 b_x1)) ?_
  refine aT (Pleq (Zc 0) h41 (bs_t18 b_x2)) ?_
  refine aT (Pleq h41 (Zc 100000) (bs_t19 b_x2)) ?_
  refine aT (Pleq (Zc 0) h42 (bs_t20 b_x3)) ?_
  refine aT (Pleq h42 h45 (bs_t21 b_x3 b_r10)) ?_
  refine aT (Pleq h45 (Zc 1000) (bs_t22 b_r10 b_x3)) ?_
  refine aT (Pleq (Zc 0) h46 (bs_t23 b_x5)) ?_
  refine aT (Pleq h46 h49 (bs_t24 b_x5 b_r12)) ?_
  exact ht
theorem bs_t38 {u34 : Int} (b_u34 : 0 ≤ u34 ∧ u34 ≤ 99) : (0 : Int) ≤ (-1000) * u34 + 100000 := by omega
theorem bs_c4 {ρ : Env} {x7 r14 u34 : Int} {t : DT} (h51 : Is ρ bs51 (x7 + 1)) (h54 : Is ρ bs54 (r14 + x7 + 1)) (h77 : Is ρ bs77 ((-1000) * u34 + 100000)) (b_x7 : 0 ≤ x7 ∧ x7 ≤ 255) (b_r14 : 0 ≤ r14 ∧ r14 ≤ 19) (b_u34 : 0 ≤ u34 ∧ u34 ≤ 99) (ht : t.goal ρ) : (bsC4 t).goal ρ := by
  unfold bsC4
  refine aT (Pleq (Zc 1) h51 (bs_t26 b_x7)) ?_
  refine aT (Pleq h51 h54 (bs_t27 b_x7 b_r14)) ?_
  refine aT (Pleq h54 (Zc 100000) (bs_t28 b_r14 b_x7)) ?_
  refine aT (Pleq (Zc 0) h77 (bs_t38 b_u34)) ?_
  exact ht
theorem bs_t39 {u34 : Int} (b_u34 : 0 ≤ u34 ∧ u34 ≤ 99) : ((-1000) * u34 + 100000 : Int) ≤ 100000 := by omega
theorem bs_t40 {q28 u34 : Int} (b_q28 : 0 ≤ q28 ∧ q28 ≤ 0) (b_u34 : 0 ≤ u34 ∧ u34 ≤ 99) : (q28 + (-1000) * u34 + 100000 : Int) = (-1000) * u34 + 100000 := by omega
theorem bs_t41 {q28 u34 : Int} (b_q28 : 0 ≤ q28 ∧ q28 ≤ 0) (b_u34 : 0 ≤ u34 ∧ u34 ≤ 99) : (q28 : Int) ≤ q28 + (-1000) * u34 + 100000 := by omega
theorem bs_d0 {q28 u34 r2 q32 w31 w30 m33 r4 x10 : Int} (b_q28 : 0 ≤ q28 ∧ q28 ≤ 0) (b_r2 : 0 ≤ r2 ∧ r2 ≤ 59) (u34s : max ((-1) * q32 + 99) 0 = u34) (q32d : 1 ≤ w31 → ((0 ≤ w30 → 0 ≤ q32 ∧ m33 ≤ w30 ∧ w30 ≤ m33 + (w31 - 1)) ∧ (w30 ≤ 0 → q32 ≤ 0 ∧ w30 ≤ m33 ∧ m33 ≤ w30 + (w31 - 1)))) (rf2 : 0 ≤ w31 + (-1000) → 0 ≤ m33 + (-1000) * q32) (w30s : 500 * r2 + 1154 * r4 + 1154 * x10 = w30) (w31s : 1000 * r2 = w31) (k11 : ¬ ((1000 * r2 : Int) = 0)) (k14 : ¬ ((0 : Int) ≤ 500 * r2 + 1154 * r4 + 1154 * x10 + (-1154))) : (q28 + (-1000) * u34 + 100000 : Int) ≤ 20000 := by omega
theorem bs_d1 {u34 r2 q32 w31 w30 m33 r4 x10 : Int} (b_r2 : 0 ≤ r2 ∧ r2 ≤ 59) (u34s : max ((-1) * q32 + 99) 0 = u34) (q32d : 1 ≤ w31 → ((0 ≤ w30 → 0 ≤ q32 ∧ m33 ≤ w30 ∧ w30 ≤ m33 + (w31 - 1)) ∧ (w30 ≤ 0 → q32 ≤ 0 ∧ w30 ≤ m33 ∧ m33 ≤ w30 + (w31 - 1)))) (rf2 : 0 ≤ w31 + (-1000) → 0 ≤ m33 + (-1000) * q32) (w30s : 500 * r2 + 1154 * r4 + 1154 * x10 = w30) (w31s : 1000 * r2 = w31) (k11 : ¬ ((1000 * r2 : Int) = 0)) (k14 : ¬ ((0 : Int) ≤ 500 * r2 + 1154 * r4 + 1154 * x10 + (-1154))) : ((-1000) * u34 + 100000 : Int) ≤ 20000 := by omega
theorem bs_d2 {u38 u34 r2 w30 q36 q32 w31 w35 r4 x10 : Int} (b_r2 : 0 ≤ r2 ∧ r2 ≤ 59) (b_w30 : 0 ≤ w30 ∧ w30 ≤ 345696) (u38s : max ((-1) * q36 + 99) 0 = u38) (u34s : max ((-1) * q32 + 99) 0 = u34) (rf1 : 1 ≤ w31 → 1 ≤ w31 → w35 ≤ w30 → w31 ≤ w31 → 0 ≤ w30 → q36 ≤ q32) (w35s : 500 * r2 + 1154 * r4 + 1154 * x10 + (-1154) = w35) (w31s : 1000 * r2 = w31) (w30s : 500 * r2 + 1154 * r4 + 1154 * x10 = w30) (k11 : ¬ ((1000 * r2 : Int) = 0)) : ((-1) * u38 + 100 : Int) ≤ (-1) * u34 + 100 := by omega
theorem bs_d3 {u38 r2 q36 w31 w35 m37 r4 x10 : Int} (b_r2 : 0 ≤ r2 ∧ r2 ≤ 59) (u38s : max ((-1) * q36 + 99) 0 = u38) (q36d : 1 ≤ w31 → ((0 ≤ w35 → 0 ≤ q36 ∧ m37 ≤ w35 ∧ w35 ≤ m37 + (w31 - 1)) ∧ (w35 ≤ 0 → q36 ≤ 0 ∧ w35 ≤ m37 ∧ m37 ≤ w35 + (w31 - 1)))) (w35s : 500 * r2 + 1154 * r4 + 1154 * x10 + (-1154) = w35) (w31s : 1000 * r2 = w31) (k11 : ¬ ((1000 * r2 : Int) = 0)) (k14 : (0 : Int) ≤ 500 * r2 + 1154 * r4 + 1154 * x10 + (-1154)) : (0 : Int) ≤ (-1000) * u38 + 100000 := by omega
theorem bs_t46 {u38 : Int} (b_u38 : 0 ≤ u38 ∧ u38 ≤ 1253) : ((-1000) * u38 + 100000 : Int) ≤ 100000 := by omega
theorem bs_d4 {q28 u38 u34 r2 w30 q36 q32 w31 w35 r4 x10 : Int} (b_r2 : 0 ≤ r2 ∧ r2 ≤ 59) (b_w30 : 0 ≤ w30 ∧ w30 ≤ 345696) (u38s : max ((-1) * q36 + 99) 0 = u38) (u34s : max ((-1) * q32 + 99) 0 = u34) (rf1 : 1 ≤ w31 → 1 ≤ w31 → w35 ≤ w30 → w31 ≤ w31 → 0 ≤ w30 → q36 ≤ q32) (w35s : 500 * r2 + 1154 * r4 + 1154 * x10 + (-1154) = w35) (w31s : 1000 * r2 = w31) (w30s : 500 * r2 + 1154 * r4 + 1154 * x10 = w30) (k11 : ¬ ((1000 * r2 : Int) = 0)) : (q28 + (-1000) * u38 + 100000 : Int) ≤ q28 + (-1000) * u34 + 100000 := by omega
theorem bs_d5 {u34 q28 : Int} (b_q28 : 0 ≤ q28 ∧ q28 ≤ 0) (k26 : (q28 + (-1000) * u34 + 100000 : Int) ≤ 20000) : ((-1000) * u34 + 100000 : Int) ≤ 20000 := by omega
theorem bs_d6 {u34 q28 : Int} (b_q28 : 0 ≤ q28 ∧ q28 ≤ 0) (k26 : ¬ ((q28 + (-1000) * u34 + 100000 : Int) ≤ 20000)) : ¬ (((-1000) * u34 + 100000 : Int) ≤ 20000) := by omega
end Go.Proofs.Ytknphpihipkdpaa.Cx
