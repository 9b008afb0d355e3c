/- TopZoneTurns: the tests of the law and their arithmetic. Made by tools/cxroot.py. -/
import Derived.Test.YtmekghjgkkjgoaaZTurnsT
import Derived.Test.YtmekghjgkkjgoaaCxRoot
set_option linter.unusedSimpArgs false
set_option linter.unusedVariables false
set_option maxRecDepth 100000
set_option maxHeartbeats 4000000
namespace Go.Proofs.Ytmekghjgkkjgoaa.Cx
open Go Go.RowKit

theorem zu_am1 {x1 x4 : Int} (b_x1 : 0 ≤ x1 ∧ x1 ≤ 255) (b_x4 : 0 ≤ x4 ∧ x4 ≤ 255) : ∃ m : Int, Hd (x1 * x4 = m) ∧ ((0) * x4 + (0) * x1 - (0) ≤ m) ∧ ((255) * x4 + (255) * x1 - (65025) ≤ m) ∧ (m ≤ (255) * x4 + (0) * x1 - (0)) ∧ (m ≤ (0) * x4 + (255) * x1 - (0)) ∧ (0 ≤ m ∧ m ≤ 65025) := by
  obtain ⟨h1, h2, h3, h4⟩ := mcc (x := x1) (y := x4) b_x1.1 b_x1.2 b_x4.1 b_x4.2
  refine ⟨_, ⟨rfl⟩, ?_, ?_, ?_, ?_, ?_, ?_⟩ <;> omega
theorem zu_am2 {x1 x5 : Int} (b_x1 : 0 ≤ x1 ∧ x1 ≤ 255) (b_x5 : 0 ≤ x5 ∧ x5 ≤ 255) : ∃ m : Int, Hd (x1 * x5 = m) ∧ ((0) * x5 + (0) * x1 - (0) ≤ m) ∧ ((255) * x5 + (255) * x1 - (65025) ≤ m) ∧ (m ≤ (255) * x5 + (0) * x1 - (0)) ∧ (m ≤ (0) * x5 + (255) * x1 - (0)) ∧ (0 ≤ m ∧ m ≤ 65025) := by
  obtain ⟨h1, h2, h3, h4⟩ := mcc (x := x1) (y := x5) b_x1.1 b_x1.2 b_x5.1 b_x5.2
  refine ⟨_, ⟨rfl⟩, ?_, ?_, ?_, ?_, ?_, ?_⟩ <;> omega
theorem zu_aw3 {m1 m2 x1 x4 x5 : Int} (b_m1 : 0 ≤ m1 ∧ m1 ≤ 65025) (b_m2 : 0 ≤ m2 ∧ m2 ≤ 65025) (b_x1 : 0 ≤ x1 ∧ x1 ≤ 255) (b_x4 : 0 ≤ x4 ∧ x4 ≤ 255) (b_x5 : 0 ≤ x5 ∧ x5 ≤ 255) : ∃ w : Int, (m1 + m2 + 800 * x1 + (-128) * x4 + (-128) * x5 + (-102400) = w) ∧ (-167680 ≤ w ∧ w ≤ 231650) := ⟨_, rfl, by omega, by omega⟩
theorem zu_am4 {x0 x4 : Int} (b_x0 : 0 ≤ x0 ∧ x0 ≤ 255) (b_x4 : 0 ≤ x4 ∧ x4 ≤ 255) : ∃ m : Int, Hd (x0 * x4 = m) ∧ ((0) * x4 + (0) * x0 - (0) ≤ m) ∧ ((255) * x4 + (255) * x0 - (65025) ≤ m) ∧ (m ≤ (255) * x4 + (0) * x0 - (0)) ∧ (m ≤ (0) * x4 + (255) * x0 - (0)) ∧ (0 ≤ m ∧ m ≤ 65025) := by
  obtain ⟨h1, h2, h3, h4⟩ := mcc (x := x0) (y := x4) b_x0.1 b_x0.2 b_x4.1 b_x4.2
  refine ⟨_, ⟨rfl⟩, ?_, ?_, ?_, ?_, ?_, ?_⟩ <;> omega
theorem zu_am5 {x0 x5 : Int} (b_x0 : 0 ≤ x0 ∧ x0 ≤ 255) (b_x5 : 0 ≤ x5 ∧ x5 ≤ 255) : ∃ m : Int, Hd (x0 * x5 = m) ∧ ((0) * x5 + (0) * x0 - (0) ≤ m) ∧ ((255) * x5 + (255) * x0 - (65025) ≤ m) ∧ (m ≤ (255) * x5 + (0) * x0 - (0)) ∧ (m ≤ (0) * x5 + (255) * x0 - (0)) ∧ (0 ≤ m ∧ m ≤ 65025) := by
  obtain ⟨h1, h2, h3, h4⟩ := mcc (x := x0) (y := x5) b_x0.1 b_x0.2 b_x5.1 b_x5.2
  refine ⟨_, ⟨rfl⟩, ?_, ?_, ?_, ?_, ?_, ?_⟩ <;> omega
theorem zu_aw6 {m4 m5 x0 x4 x5 : Int} (b_m4 : 0 ≤ m4 ∧ m4 ≤ 65025) (b_m5 : 0 ≤ m5 ∧ m5 ≤ 65025) (b_x0 : 0 ≤ x0 ∧ x0 ≤ 255) (b_x4 : 0 ≤ x4 ∧ x4 ≤ 255) (b_x5 : 0 ≤ x5 ∧ x5 ≤ 255) : ∃ w : Int, ((-1) * m4 + (-1) * m5 + (-800) * x0 + 128 * x4 + 128 * x5 + 102400 = w) ∧ (-231650 ≤ w ∧ w ≤ 167680) := ⟨_, rfl, by omega, by omega⟩
theorem zu_am7 {x3 x4 : Int} (b_x3 : 0 ≤ x3 ∧ x3 ≤ 255) (b_x4 : 0 ≤ x4 ∧ x4 ≤ 255) : ∃ m : Int, Hd (x3 * x4 = m) ∧ ((0) * x4 + (0) * x3 - (0) ≤ m) ∧ ((255) * x4 + (255) * x3 - (65025) ≤ m) ∧ (m ≤ (255) * x4 + (0) * x3 - (0)) ∧ (m ≤ (0) * x4 + (255) * x3 - (0)) ∧ (0 ≤ m ∧ m ≤ 65025) := by
  obtain ⟨h1, h2, h3, h4⟩ := mcc (x := x3) (y := x4) b_x3.1 b_x3.2 b_x4.1 b_x4.2
  refine ⟨_, ⟨rfl⟩, ?_, ?_, ?_, ?_, ?_, ?_⟩ <;> omega
theorem zu_am8 {x3 x5 : Int} (b_x3 : 0 ≤ x3 ∧ x3 ≤ 255) (b_x5 : 0 ≤ x5 ∧ x5 ≤ 255) : ∃ m : Int, Hd (x3 * x5 = m) ∧ ((0) * x5 + (0) * x3 - (0) ≤ m) ∧ ((255) * x5 + (255) * x3 - (65025) ≤ m) ∧ (m ≤ (255) * x5 + (0) * x3 - (0)) ∧ (m ≤ (0) * x5 + (255) * x3 - (0)) ∧ (0 ≤ m ∧ m ≤ 65025) := by
  obtain ⟨h1, h2, h3, h4⟩ := mcc (x := x3) (y := x5) b_x3.1 b_x3.2 b_x5.1 b_x5.2
  refine ⟨_, ⟨rfl⟩, ?_, ?_, ?_, ?_, ?_, ?_⟩ <;> omega
theorem zu_aw9 {m1 m2 m7 m8 x1 x3 x4 x5 : Int} (b_m1 : 0 ≤ m1 ∧ m1 ≤ 65025) (b_m2 : 0 ≤ m2 ∧ m2 ≤ 65025) (b_m7 : 0 ≤ m7 ∧ m7 ≤ 65025) (b_m8 : 0 ≤ m8 ∧ m8 ≤ 65025) (b_x1 : 0 ≤ x1 ∧ x1 ≤ 255) (b_x3 : 0 ≤ x3 ∧ x3 ≤ 255) (b_x4 : 0 ≤ x4 ∧ x4 ≤ 255) (b_x5 : 0 ≤ x5 ∧ x5 ≤ 255) : ∃ w : Int, (m1 + m2 + m7 + m8 + 800 * x1 + 800 * x3 + (-128) * x4 + (-128) * x5 + (-102400) = w) ∧ (-167680 ≤ w ∧ w ≤ 565700) := ⟨_, rfl, by omega, by omega⟩
theorem zu_am10 {x2 x4 : Int} (b_x2 : 0 ≤ x2 ∧ x2 ≤ 255) (b_x4 : 0 ≤ x4 ∧ x4 ≤ 255) : ∃ m : Int, Hd (x2 * x4 = m) ∧ ((0) * x4 + (0) * x2 - (0) ≤ m) ∧ ((255) * x4 + (255) * x2 - (65025) ≤ m) ∧ (m ≤ (255) * x4 + (0) * x2 - (0)) ∧ (m ≤ (0) * x4 + (255) * x2 - (0)) ∧ (0 ≤ m ∧ m ≤ 65025) := by
  obtain ⟨h1, h2, h3, h4⟩ := mcc (x := x2) (y := x4) b_x2.1 b_x2.2 b_x4.1 b_x4.2
  refine ⟨_, ⟨rfl⟩, ?_, ?_, ?_, ?_, ?_, ?_⟩ <;> omega
theorem zu_am11 {x2 x5 : Int} (b_x2 : 0 ≤ x2 ∧ x2 ≤ 255) (b_x5 : 0 ≤ x5 ∧ x5 ≤ 255) : ∃ m : Int, Hd (x2 * x5 = m) ∧ ((0) * x5 + (0) * x2 - (0) ≤ m) ∧ ((255) * x5 + (255) * x2 - (65025) ≤ m) ∧ (m ≤ (255) * x5 + (0) * x2 - (0)) ∧ (m ≤ (0) * x5 + (255) * x2 - (0)) ∧ (0 ≤ m ∧ m ≤ 65025) := by
  obtain ⟨h1, h2, h3, h4⟩ := mcc (x := x2) (y := x5) b_x2.1 b_x2.2 b_x5.1 b_x5.2
  refine ⟨_, ⟨rfl⟩, ?_, ?_, ?_, ?_, ?_, ?_⟩ <;> omega
theorem zu_aw12 {m10 m11 m4 m5 x0 x2 x4 x5 : Int} (b_m10 : 0 ≤ m10 ∧ m10 ≤ 65025) (b_m11 : 0 ≤ m11 ∧ m11 ≤ 65025) (b_m4 : 0 ≤ m4 ∧ m4 ≤ 65025) (b_m5 : 0 ≤ m5 ∧ m5 ≤ 65025) (b_x0 : 0 ≤ x0 ∧ x0 ≤ 255) (b_x2 : 0 ≤ x2 ∧ x2 ≤ 255) (b_x4 : 0 ≤ x4 ∧ x4 ≤ 255) (b_x5 : 0 ≤ x5 ∧ x5 ≤ 255) : ∃ w : Int, ((-1) * m10 + (-1) * m11 + (-1) * m4 + (-1) * m5 + (-800) * x0 + (-800) * x2 + 128 * x4 + 128 * x5 + 102400 = w) ∧ (-565700 ≤ w ∧ w ≤ 167680) := ⟨_, rfl, by omega, by omega⟩
theorem zu_aq13 {x4 : Int} (b_x4 : 0 ≤ x4 ∧ x4 ≤ 255) : ∃ q r : Int, Hd ((x4) / 100 = q) ∧ Hd ((x4) % 100 = r) ∧ (x4 = 100 * q + r) ∧ (0 ≤ q ∧ q ≤ 2) ∧ (0 ≤ r ∧ r ≤ 99) := ⟨_, _, ⟨rfl⟩, ⟨rfl⟩, by omega, by omega, by omega⟩
set_option maxHeartbeats 40000000 in
theorem zu_g0 {ρ : Env} {x2 x3 x0 x1 x4 x5 x6 x7 w3 m1 m2 w6 m4 m5 w9 m7 m8 w12 m10 m11 r14 : Int} (e2 : Is ρ (.v 2) x2) (e3 : Is ρ (.v 3) x3) (e0 : Is ρ (.v 0) x0) (e1 : Is ρ (.v 1) x1) (e4 : Is ρ (.v 4) x4) (e5 : Is ρ (.v 5) x5) (e6 : Is ρ (.v 6) x6) (e7 : Is ρ (.v 7) x7) (m1e : Hd (x1 * x4 = m1)) (m2e : Hd (x1 * x5 = m2)) (w3s : m1 + m2 + 800 * x1 + (-128) * x4 + (-128) * x5 + (-102400) = w3) (m4e : Hd (x0 * x4 = m4)) (m5e : Hd (x0 * x5 = m5)) (w6s : (-1) * m4 + (-1) * m5 + (-800) * x0 + 128 * x4 + 128 * x5 + 102400 = w6) (m7e : Hd (x3 * x4 = m7)) (m8e : Hd (x3 * x5 = m8)) (w9s : m1 + m2 + m7 + m8 + 800 * x1 + 800 * x3 + (-128) * x4 + (-128) * x5 + (-102400) = w9) (m10e : Hd (x2 * x4 = m10)) (m11e : Hd (x2 * x5 = m11)) (w12s : (-1) * m10 + (-1) * m11 + (-1) * m4 + (-1) * m5 + (-800) * x0 + (-800) * x2 + 128 * x4 + 128 * x5 + 102400 = w12) (r14e : Hd ((x4) % 100 = r14)) (b_x2 : 0 ≤ x2 ∧ x2 ≤ 255) (b_x3 : 0 ≤ x3 ∧ x3 ≤ 255) (b_x0 : 0 ≤ x0 ∧ x0 ≤ 255) (b_x1 : 0 ≤ x1 ∧ x1 ≤ 255) (b_x4 : 0 ≤ x4 ∧ x4 ≤ 255) (b_x5 : 0 ≤ x5 ∧ x5 ≤ 255) (b_x6 : 0 ≤ x6 ∧ x6 ≤ 255) (b_x7 : 0 ≤ x7 ∧ x7 ≤ 255) (b_w3 : -167680 ≤ w3 ∧ w3 ≤ 231650) (b_m1 : 0 ≤ m1 ∧ m1 ≤ 65025) (b_m2 : 0 ≤ m2 ∧ m2 ≤ 65025) (b_w6 : -231650 ≤ w6 ∧ w6 ≤ 167680) (b_m4 : 0 ≤ m4 ∧ m4 ≤ 65025) (b_m5 : 0 ≤ m5 ∧ m5 ≤ 65025) (b_w9 : -167680 ≤ w9 ∧ w9 ≤ 565700) (b_m7 : 0 ≤ m7 ∧ m7 ≤ 65025) (b_m8 : 0 ≤ m8 ∧ m8 ≤ 65025) (b_w12 : -565700 ≤ w12 ∧ w12 ≤ 167680) (b_m10 : 0 ≤ m10 ∧ m10 ≤ 65025) (b_m11 : 0 ≤ m11 ∧ m11 ≤ 65025) (b_r14 : 0 ≤ r14 ∧ r14 ≤ 99) : Is ρ zu1 (2 * x2) ∧ Is ρ zu3 (2 * x3) ∧ Is ρ zu6 (2 * x0 + (-256)) ∧ Is ρ zu9 (2 * x1 + (-256)) ∧ Is ρ zu12 (4 * x4 + 9000) ∧ Is ρ zu14 (x5 + 400) ∧ Is ρ zu15 (x4 + 400) ∧ Is ρ zu17 (46 * x4 + 46 * x5 + 36800) ∧ Is ρ zu18 (2000 * x4 + 4500000) ∧ Is ρ zu22 ((-1) * x0 + (-1) * x2 + 128) ∧ Is ρ zu24 ((-1) * x0 + 128) ∧ Is ρ zu27 (x1 + (-128)) ∧ Is ρ zu30 (x1 + x3 + (-128)) ∧ Is ρ zu33 (8 * x6 + (-1200)) ∧ Is ρ zu36 (8 * x6 + 8 * x7 + (-1200)) ∧ Is ρ zu52 (w3 + (-1) * w6) ∧ Is ρ zu54 (0) ∧ Is ρ zu60 ((-1) * w12 + w9) ∧ Is ρ zu62 (r14 + 1) ∧ Is ρ zu63 (2 * x0 + 2 * x1 + (-512)) ∧ Is ρ zu64 (2 * x0 + 2 * x1 + 2 * x2 + 2 * x3 + (-512)) := by
  have h0 : Is ρ zu0 (x2) := Zconv e2 (by omega)
  have h1 : Is ρ zu1 (2 * x2) := Ym (Zc 2) h0 (by omega)
  have h2 : Is ρ zu2 (x3) := Zconv e3 (by omega)
  have h3 : Is ρ zu3 (2 * x3) := Ym (Zc 2) h2 (by omega)
  have h4 : Is ρ zu4 (x0) := Zconv e0 (by omega)
  have h5 : Is ρ zu5 (2 * x0) := Ym (Zc 2) h4 (by omega)
  have h6 : Is ρ zu6 (2 * x0 + (-256)) := Ys h5 (Zc 256) (by omega)
  have h7 : Is ρ zu7 (x1) := Zconv e1 (by omega)
  have h8 : Is ρ zu8 (2 * x1) := Ym (Zc 2) h7 (by omega)
  have h9 : Is ρ zu9 (2 * x1 + (-256)) := Ys h8 (Zc 256) (by omega)
  have h10 : Is ρ zu10 (x4) := Zconv e4 (by omega)
  have h11 : Is ρ zu11 (4 * x4) := Ym (Zc 4) h10 (by omega)
  have h12 : Is ρ zu12 (4 * x4 + 9000) := Ya (Zc 9000) h11 (by omega)
  have h13 : Is ρ zu13 (x5) := Zconv e5 (by omega)
  have h14 : Is ρ zu14 (x5 + 400) := Ya (Zc 400) h13 (by omega)
  have h15 : Is ρ zu15 (x4 + 400) := Ya (Zc 400) h10 (by omega)
  have h16 : Is ρ zu16 (x4 + x5 + 800) := Ya h14 h15 (by omega)
  have h17 : Is ρ zu17 (46 * x4 + 46 * x5 + 36800) := Ym (Zc 46) h16 (by omega)
  have h18 : Is ρ zu18 (2000 * x4 + 4500000) := Ym (Zc 500) h12 (by omega)
  have h19 : Is ρ zu19 ((-2) * x0 + 50256) := Ys (Zc 50000) h6 (by omega)
  have h20 : Is ρ zu20 ((-2) * x0 + (-2) * x2 + 50256) := Ys h19 h1 (by omega)
  have h21 : Is ρ zu21 ((-2) * x0 + (-2) * x2 + 256) := Ys h20 (Zc 50000) (by omega)
  have h22 : Is ρ zu22 ((-1) * x0 + (-1) * x2 + 128) := Zqx h21 (Zc 2) (by omega) (by omega) (by omega)
  have h23 : Is ρ zu23 ((-2) * x0 + 256) := Ys h19 (Zc 50000) (by omega)
  have h24 : Is ρ zu24 ((-1) * x0 + 128) := Zqx h23 (Zc 2) (by omega) (by omega) (by omega)
  have h25 : Is ρ zu25 (2 * x1 + 49744) := Ya (Zc 50000) h9 (by omega)
  have h26 : Is ρ zu26 (2 * x1 + (-256)) := Ys h25 (Zc 50000) (by omega)
  have h27 : Is ρ zu27 (x1 + (-128)) := Zqx h26 (Zc 2) (by omega) (by omega) (by omega)
  have h28 : Is ρ zu28 (2 * x1 + 2 * x3 + 49744) := Ya h25 h3 (by omega)
  have h29 : Is ρ zu29 (2 * x1 + 2 * x3 + (-256)) := Ys h28 (Zc 50000) (by omega)
  have h30 : Is ρ zu30 (x1 + x3 + (-128)) := Zqx h29 (Zc 2) (by omega) (by omega) (by omega)
  have h31 : Is ρ zu31 (x6) := Zconv e6 (by omega)
  have h32 : Is ρ zu32 (8 * x6) := Ym (Zc 8) h31 (by omega)
  have h33 : Is ρ zu33 (8 * x6 + (-1200)) := Ys h32 (Zc 1200) (by omega)
  have h34 : Is ρ zu34 (x7) := Zconv e7 (by omega)
  have h35 : Is ρ zu35 (8 * x7) := Ym (Zc 8) h34 (by omega)
  have h36 : Is ρ zu36 (8 * x6 + 8 * x7 + (-1200)) := Ya h33 h35 (by omega)
  have h37 : Is ρ zu37 (0) := Ys h12 h12 (by omega)
  have h38 : Is ρ zu38 (0) := Ym (Zc 500) h37 (by omega)
  have h39 : Is ρ zu39 (w3) := Zmul h27 h16 (by omega) (((by simp only [Int.add_mul, Int.mul_add, Int.mul_assoc, Int.mul_comm, Int.mul_left_comm, Int.reduceMul, Int.reduceNeg, Int.mul_one, Int.one_mul] <;> omega : (x1 + (-128)) * (x4 + x5 + 800) = x1 * x4 + x1 * x5 + 800 * x1 + (-128) * x4 + (-128) * x5 + (-102400)).trans (by (try simp only [m1e.out, m2e.out]) <;> omega)).trans w3s)
  have h40 : Is ρ zu40 (w3) := Ya h38 h39 (by omega)
  have h41 : Is ρ zu41 (w6) := Zmul h24 h16 (by omega) (((by simp only [Int.add_mul, Int.mul_add, Int.mul_assoc, Int.mul_comm, Int.mul_left_comm, Int.reduceMul, Int.reduceNeg, Int.mul_one, Int.one_mul] <;> omega : ((-1) * x0 + 128) * (x4 + x5 + 800) = (-1) * (x0 * x4) + (-1) * (x0 * x5) + (-800) * x0 + 128 * x4 + 128 * x5 + 102400).trans (by (try simp only [m4e.out, m5e.out]) <;> omega)).trans w6s)
  have h42 : Is ρ zu42 (w3 + (-1) * w6) := Ys h40 h41 (by omega)
  have h43 : Is ρ zu43 (0) := Ys h14 h14 (by omega)
  have h44 : Is ρ zu44 (0) := Ym h33 h43 (by omega)
  have h45 : Is ρ zu45 (0) := Ym h36 h43 (by omega)
  have h46 : Is ρ zu46 (0) := Zmx h44 h45 (by omega)
  have h47 : Is ρ zu47 (w3 + (-1) * w6) := Ys h42 h46 (by omega)
  have h48 : Is ρ zu48 (0) := Ys h15 h15 (by omega)
  have h49 : Is ρ zu49 (0) := Ym h33 h48 (by omega)
  have h50 : Is ρ zu50 (0) := Ym h36 h48 (by omega)
  have h51 : Is ρ zu51 (0) := Zmx h49 h50 (by omega)
  have h52 : Is ρ zu52 (w3 + (-1) * w6) := Ys h47 h51 (by omega)
  have h53 : Is ρ zu53 (0) := Zmx h37 h37 (by omega)
  have h54 : Is ρ zu54 (0) := Ym (Zc 1000) h53 (by omega)
  have h55 : Is ρ zu55 (w9) := Zmul h30 h16 (by omega) (((by simp only [Int.add_mul, Int.mul_add, Int.mul_assoc, Int.mul_comm, Int.mul_left_comm, Int.reduceMul, Int.reduceNeg, Int.mul_one, Int.one_mul] <;> omega : (x1 + x3 + (-128)) * (x4 + x5 + 800) = x1 * x4 + x1 * x5 + x3 * x4 + x3 * x5 + 800 * x1 + 800 * x3 + (-128) * x4 + (-128) * x5 + (-102400)).trans (by (try simp only [m1e.out, m2e.out, m7e.out, m8e.out]) <;> omega)).trans w9s)
  have h56 : Is ρ zu56 (w9) := Ya h38 h55 (by omega)
  have h57 : Is ρ zu57 (w12) := Zmul h22 h16 (by omega) (((by simp only [Int.add_mul, Int.mul_add, Int.mul_assoc, Int.mul_comm, Int.mul_left_comm, Int.reduceMul, Int.reduceNeg, Int.mul_one, Int.one_mul] <;> omega : ((-1) * x0 + (-1) * x2 + 128) * (x4 + x5 + 800) = (-1) * (x0 * x4) + (-1) * (x0 * x5) + (-1) * (x2 * x4) + (-1) * (x2 * x5) + (-800) * x0 + (-800) * x2 + 128 * x4 + 128 * x5 + 102400).trans (by (try simp only [m4e.out, m5e.out, m10e.out, m11e.out]) <;> omega)).trans w12s)
  have h58 : Is ρ zu58 ((-1) * w12 + w9) := Ys h56 h57 (by omega)
  have h59 : Is ρ zu59 ((-1) * w12 + w9) := Ys h58 h46 (by omega)
  have h60 : Is ρ zu60 ((-1) * w12 + w9) := Ys h59 h51 (by omega)
  have h61 : Is ρ zu61 (r14) := Zremp h10 (Zc 100) (by omega) r14e.out
  have h62 : Is ρ zu62 (r14 + 1) := Ya (Zc 1) h61 (by omega)
  have h63 : Is ρ zu63 (2 * x0 + 2 * x1 + (-512)) := Ys h25 h19 (by omega)
  have h64 : Is ρ zu64 (2 * x0 + 2 * x1 + 2 * x2 + 2 * x3 + (-512)) := Ys h28 h20 (by omega)
  exact ⟨h1, h3, h6, h9, h12, h14, h15, h17, h18, h22, h24, h27, h30, h33, h36, h52, h54, h60, h62, h63, h64⟩
theorem zu_t0 {x2 : Int} (b_x2 : 0 ≤ x2 ∧ x2 ≤ 255) : (0 : Int) ≤ 2 * x2 := by omega
theorem zu_t1 {x2 : Int} (b_x2 : 0 ≤ x2 ∧ x2 ≤ 255) : (2 * x2 : Int) ≤ 100000 := by omega
theorem zu_t2 {x3 : Int} (b_x3 : 0 ≤ x3 ∧ x3 ≤ 255) : (0 : Int) ≤ 2 * x3 := by omega
theorem zu_t3 {x3 : Int} (b_x3 : 0 ≤ x3 ∧ x3 ≤ 255) : (2 * x3 : Int) ≤ 100000 := by omega
theorem zu_t4 {x0 : Int} (b_x0 : 0 ≤ x0 ∧ x0 ≤ 255) : ((-100000) : Int) ≤ 2 * x0 + (-256) := by omega
theorem zu_t5 {x0 : Int} (b_x0 : 0 ≤ x0 ∧ x0 ≤ 255) : (2 * x0 + (-256) : Int) ≤ 100000 := by omega
theorem zu_t6 {x1 : Int} (b_x1 : 0 ≤ x1 ∧ x1 ≤ 255) : ((-100000) : Int) ≤ 2 * x1 + (-256) := by omega
theorem zu_t7 {x1 : Int} (b_x1 : 0 ≤ x1 ∧ x1 ≤ 255) : (2 * x1 + (-256) : Int) ≤ 100000 := by omega
theorem zu_t8 {x4 : Int} (b_x4 : 0 ≤ x4 ∧ x4 ≤ 255) : (100 : Int) ≤ 4 * x4 + 9000 := by omega
theorem zu_t9 {x4 : Int} (b_x4 : 0 ≤ x4 ∧ x4 ≤ 255) : (4 * x4 + 9000 : Int) ≤ 200000 := by omega
theorem zu_t10 {x5 : Int} (b_x5 : 0 ≤ x5 ∧ x5 ≤ 255) : (0 : Int) ≤ x5 + 400 := by omega
theorem zu_t11 {x5 : Int} (b_x5 : 0 ≤ x5 ∧ x5 ≤ 255) : (x5 + 400 : Int) ≤ 3000 := by omega
theorem zu_t12 {x4 : Int} (b_x4 : 0 ≤ x4 ∧ x4 ≤ 255) : (0 : Int) ≤ x4 + 400 := by omega
theorem zu_t13 {x4 : Int} (b_x4 : 0 ≤ x4 ∧ x4 ≤ 255) : (x4 + 400 : Int) ≤ 3000 := by omega
theorem zu_t14 {x4 x5 : Int} (b_x4 : 0 ≤ x4 ∧ x4 ≤ 255) (b_x5 : 0 ≤ x5 ∧ x5 ≤ 255) : (46 * x4 + 46 * x5 + 36800 : Int) ≤ 2000 * x4 + 4500000 := by omega
theorem zu_t15 {x0 x2 : Int} (b_x0 : 0 ≤ x0 ∧ x0 ≤ 255) (b_x2 : 0 ≤ x2 ∧ x2 ≤ 255) : ((-10000) : Int) ≤ (-1) * x0 + (-1) * x2 + 128 := by omega
theorem zu_t16 {x0 x2 : Int} (b_x0 : 0 ≤ x0 ∧ x0 ≤ 255) (b_x2 : 0 ≤ x2 ∧ x2 ≤ 255) : ((-1) * x0 + (-1) * x2 + 128 : Int) ≤ (-1) * x0 + 128 := by omega
theorem zu_t17 {x0 : Int} (b_x0 : 0 ≤ x0 ∧ x0 ≤ 255) : ((-1) * x0 + 128 : Int) ≤ 10000 := by omega
theorem zu_t18 {x1 : Int} (b_x1 : 0 ≤ x1 ∧ x1 ≤ 255) : ((-10000) : Int) ≤ x1 + (-128) := by omega
theorem zu_t19 {x1 x3 : Int} (b_x1 : 0 ≤ x1 ∧ x1 ≤ 255) (b_x3 : 0 ≤ x3 ∧ x3 ≤ 255) : (x1 + (-128) : Int) ≤ x1 + x3 + (-128) := by omega
theorem zu_t20 {x1 x3 : Int} (b_x1 : 0 ≤ x1 ∧ x1 ≤ 255) (b_x3 : 0 ≤ x3 ∧ x3 ≤ 255) : (x1 + x3 + (-128) : Int) ≤ 10000 := by omega
theorem zu_t21 {x6 : Int} (b_x6 : 0 ≤ x6 ∧ x6 ≤ 255) : ((-200000) : Int) ≤ 8 * x6 + (-1200) := by omega
theorem zu_t22 {x6 x7 : Int} (b_x6 : 0 ≤ x6 ∧ x6 ≤ 255) (b_x7 : 0 ≤ x7 ∧ x7 ≤ 255) : (8 * x6 + (-1200) : Int) ≤ 8 * x6 + 8 * x7 + (-1200) := by omega
theorem zu_t23 {x6 x7 : Int} (b_x6 : 0 ≤ x6 ∧ x6 ≤ 255) (b_x7 : 0 ≤ x7 ∧ x7 ≤ 255) : (8 * x6 + 8 * x7 + (-1200) : Int) ≤ 200000 := by omega
theorem zu_t24  : (0 : Int) = 0 := by omega
theorem zu_d0 {w12 w9 x2 x3 w3 w6 m10 m11 m4 m5 x0 x4 x5 m1 m2 m7 m8 x1 : Int} (b_x2 : 0 ≤ x2 ∧ x2 ≤ 255) (b_x3 : 0 ≤ x3 ∧ x3 ≤ 255) (k24 : (0 : Int) ≤ w3 + (-1) * w6) (w12s : (-1) * m10 + (-1) * m11 + (-1) * m4 + (-1) * m5 + (-800) * x0 + (-800) * x2 + 128 * x4 + 128 * x5 + 102400 = w12) (w9s : m1 + m2 + m7 + m8 + 800 * x1 + 800 * x3 + (-128) * x4 + (-128) * x5 + (-102400) = w9) (w3s : m1 + m2 + 800 * x1 + (-128) * x4 + (-128) * x5 + (-102400) = w3) (w6s : (-1) * m4 + (-1) * m5 + (-800) * x0 + 128 * x4 + 128 * x5 + 102400 = w6) (m10f1 : (0) * x4 + (0) * x2 - (0) ≤ m10) (m11f1 : (0) * x5 + (0) * x2 - (0) ≤ m11) (m7f1 : (0) * x4 + (0) * x3 - (0) ≤ m7) (m8f1 : (0) * x5 + (0) * x3 - (0) ≤ m8) : (0 : Int) ≤ (-1) * w12 + w9 := by omega
theorem zu_t26 {r14 : Int} (b_r14 : 0 ≤ r14 ∧ r14 ≤ 99) : (1 : Int) ≤ r14 + 1 := by omega
theorem zu_t27 {r14 : Int} (b_r14 : 0 ≤ r14 ∧ r14 ≤ 99) : (r14 + 1 : Int) ≤ 100 := by omega
theorem zu_d1 {x0 x1 x4 x5 w3 w6 m1 m2 m4 m5 : Int} (b_x4 : 0 ≤ x4 ∧ x4 ≤ 255) (b_x5 : 0 ≤ x5 ∧ x5 ≤ 255) (k24 : (0 : Int) ≤ w3 + (-1) * w6) (w3s : m1 + m2 + 800 * x1 + (-128) * x4 + (-128) * x5 + (-102400) = w3) (w6s : (-1) * m4 + (-1) * m5 + (-800) * x0 + 128 * x4 + 128 * x5 + 102400 = w6) (m1f3 : m1 ≤ (255) * x4 + (0) * x1 - (0)) (m2f3 : m2 ≤ (255) * x5 + (0) * x1 - (0)) (m4f3 : m4 ≤ (255) * x4 + (0) * x0 - (0)) (m5f3 : m5 ≤ (255) * x5 + (0) * x0 - (0)) (m4e : Hd (x0 * x4 = m4)) (m1e : Hd (x1 * x4 = m1)) (m5e : Hd (x0 * x5 = m5)) (m2e : Hd (x1 * x5 = m2)) : (0 : Int) ≤ 2 * x0 + 2 * x1 + (-512) := Int.not_lt.1 fun h0 => by
  have hn : ¬ ((0 : Int) ≤ 2 * x0 + 2 * x1 + (-512)) := by omega
  have p0 : 0 ≤ (-2) * m1 + (-2) * m4 + 511 * x4 := by
    have e1 : ((-2) * x0 + (-2) * x1 + 511) * (x4) = (-2) * m1 + (-2) * m4 + 511 * x4 := ((by simp only [Int.add_mul, Int.mul_add, Int.mul_assoc, Int.mul_comm, Int.mul_left_comm, Int.reduceMul, Int.reduceNeg, Int.mul_one, Int.one_mul] <;> omega : ((-2) * x0 + (-2) * x1 + 511) * (x4) = (-2) * (x0 * x4) + (-2) * (x1 * x4) + 511 * x4).trans (by (try simp only [m4e.out, m1e.out]) <;> omega))
    exact e1 ▸ Int.mul_nonneg (by omega) (by omega)
  have p1 : 0 ≤ (-2) * m2 + (-2) * m5 + 511 * x5 := by
    have e1 : ((-2) * x0 + (-2) * x1 + 511) * (x5) = (-2) * m2 + (-2) * m5 + 511 * x5 := ((by simp only [Int.add_mul, Int.mul_add, Int.mul_assoc, Int.mul_comm, Int.mul_left_comm, Int.reduceMul, Int.reduceNeg, Int.mul_one, Int.one_mul] <;> omega : ((-2) * x0 + (-2) * x1 + 511) * (x5) = (-2) * (x0 * x5) + (-2) * (x1 * x5) + 511 * x5).trans (by (try simp only [m5e.out, m2e.out]) <;> omega))
    exact e1 ▸ Int.mul_nonneg (by omega) (by omega)
  omega
theorem zu_d2 {x0 x1 x2 x3 x4 x5 w3 w6 m1 m2 m4 m5 m10 m7 m11 m8 : Int} (b_x2 : 0 ≤ x2 ∧ x2 ≤ 255) (b_x3 : 0 ≤ x3 ∧ x3 ≤ 255) (b_x4 : 0 ≤ x4 ∧ x4 ≤ 255) (b_x5 : 0 ≤ x5 ∧ x5 ≤ 255) (k24 : (0 : Int) ≤ w3 + (-1) * w6) (w3s : m1 + m2 + 800 * x1 + (-128) * x4 + (-128) * x5 + (-102400) = w3) (w6s : (-1) * m4 + (-1) * m5 + (-800) * x0 + 128 * x4 + 128 * x5 + 102400 = w6) (m1f3 : m1 ≤ (255) * x4 + (0) * x1 - (0)) (m2f3 : m2 ≤ (255) * x5 + (0) * x1 - (0)) (m4f3 : m4 ≤ (255) * x4 + (0) * x0 - (0)) (m5f3 : m5 ≤ (255) * x5 + (0) * x0 - (0)) (m10f1 : (0) * x4 + (0) * x2 - (0) ≤ m10) (m7f1 : (0) * x4 + (0) * x3 - (0) ≤ m7) (m11f1 : (0) * x5 + (0) * x2 - (0) ≤ m11) (m8f1 : (0) * x5 + (0) * x3 - (0) ≤ m8) (m4e : Hd (x0 * x4 = m4)) (m1e : Hd (x1 * x4 = m1)) (m10e : Hd (x2 * x4 = m10)) (m7e : Hd (x3 * x4 = m7)) (m5e : Hd (x0 * x5 = m5)) (m2e : Hd (x1 * x5 = m2)) (m11e : Hd (x2 * x5 = m11)) (m8e : Hd (x3 * x5 = m8)) : (0 : Int) ≤ 2 * x0 + 2 * x1 + 2 * x2 + 2 * x3 + (-512) := Int.not_lt.1 fun h0 => by
  have hn : ¬ ((0 : Int) ≤ 2 * x0 + 2 * x1 + 2 * x2 + 2 * x3 + (-512)) := by omega
  have p0 : 0 ≤ (-2) * m1 + (-2) * m10 + (-2) * m4 + (-2) * m7 + 511 * x4 := by
    have e1 : ((-2) * x0 + (-2) * x1 + (-2) * x2 + (-2) * x3 + 511) * (x4) = (-2) * m1 + (-2) * m10 + (-2) * m4 + (-2) * m7 + 511 * x4 := ((by simp only [Int.add_mul, Int.mul_add, Int.mul_assoc, Int.mul_comm, Int.mul_left_comm, Int.reduceMul, Int.reduceNeg, Int.mul_one, Int.one_mul] <;> omega : ((-2) * x0 + (-2) * x1 + (-2) * x2 + (-2) * x3 + 511) * (x4) = (-2) * (x0 * x4) + (-2) * (x1 * x4) + (-2) * (x2 * x4) + (-2) * (x3 * x4) + 511 * x4).trans (by (try simp only [m4e.out, m1e.out, m10e.out, m7e.out]) <;> omega))
    exact e1 ▸ Int.mul_nonneg (by omega) (by omega)
  have p1 : 0 ≤ (-2) * m11 + (-2) * m2 + (-2) * m5 + (-2) * m8 + 511 * x5 := by
    have e1 : ((-2) * x0 + (-2) * x1 + (-2) * x2 + (-2) * x3 + 511) * (x5) = (-2) * m11 + (-2) * m2 + (-2) * m5 + (-2) * m8 + 511 * x5 := ((by simp only [Int.add_mul, Int.mul_add, Int.mul_assoc, Int.mul_comm, Int.mul_left_comm, Int.reduceMul, Int.reduceNeg, Int.mul_one, Int.one_mul] <;> omega : ((-2) * x0 + (-2) * x1 + (-2) * x2 + (-2) * x3 + 511) * (x5) = (-2) * (x0 * x5) + (-2) * (x1 * x5) + (-2) * (x2 * x5) + (-2) * (x3 * x5) + 511 * x5).trans (by (try simp only [m5e.out, m2e.out, m11e.out, m8e.out]) <;> omega))
    exact e1 ▸ Int.mul_nonneg (by omega) (by omega)
  omega
theorem zu_t30 {r14 : Int} (b_r14 : 0 ≤ r14 ∧ r14 ≤ 99) : ¬ ((r14 + 1 : Int) ≤ 0) := by omega
theorem zu_c0 {ρ : Env} {r14 : Int} {t : DT} (h62 : Is ρ zu62 (r14 + 1)) (b_r14 : 0 ≤ r14 ∧ r14 ≤ 99) (ht : t.goal ρ) : (zuC0 t).goal ρ := by
  unfold zuC0
  refine aT (Pleq (Zc 1) h62 (zu_t26 b_r14)) ?_
  refine aT (Pleq h62 (Zc 100) (zu_t27 b_r14)) ?_
  refine aF (Nleq h62 (Zc 0) (zu_t30 b_r14)) ?_
  exact ht
theorem zu_d3 {x0 x1 x4 x5 w3 w6 m1 m2 m4 m5 : Int} (b_x4 : 0 ≤ x4 ∧ x4 ≤ 255) (b_x5 : 0 ≤ x5 ∧ x5 ≤ 255) (k24 : ¬ ((0 : Int) ≤ w3 + (-1) * w6)) (w3s : m1 + m2 + 800 * x1 + (-128) * x4 + (-128) * x5 + (-102400) = w3) (w6s : (-1) * m4 + (-1) * m5 + (-800) * x0 + 128 * x4 + 128 * x5 + 102400 = w6) (m4e : Hd (x0 * x4 = m4)) (m1e : Hd (x1 * x4 = m1)) (m5e : Hd (x0 * x5 = m5)) (m2e : Hd (x1 * x5 = m2)) : ¬ ((0 : Int) ≤ 2 * x0 + 2 * x1 + (-512)) := fun hn => by
  have p0 : 0 ≤ 2 * m1 + 2 * m4 + (-512) * x4 := by
    have e1 : (2 * x0 + 2 * x1 + (-512)) * (x4) = 2 * m1 + 2 * m4 + (-512) * x4 := ((by simp only [Int.add_mul, Int.mul_add, Int.mul_assoc, Int.mul_comm, Int.mul_left_comm, Int.reduceMul, Int.reduceNeg, Int.mul_one, Int.one_mul] <;> omega : (2 * x0 + 2 * x1 + (-512)) * (x4) = 2 * (x0 * x4) + 2 * (x1 * x4) + (-512) * x4).trans (by (try simp only [m4e.out, m1e.out]) <;> omega))
    exact e1 ▸ Int.mul_nonneg (by omega) (by omega)
  have p1 : 0 ≤ 2 * m2 + 2 * m5 + (-512) * x5 := by
    have e1 : (2 * x0 + 2 * x1 + (-512)) * (x5) = 2 * m2 + 2 * m5 + (-512) * x5 := ((by simp only [Int.add_mul, Int.mul_add, Int.mul_assoc, Int.mul_comm, Int.mul_left_comm, Int.reduceMul, Int.reduceNeg, Int.mul_one, Int.one_mul] <;> omega : (2 * x0 + 2 * x1 + (-512)) * (x5) = 2 * (x0 * x5) + 2 * (x1 * x5) + (-512) * x5).trans (by (try simp only [m5e.out, m2e.out]) <;> omega))
    exact e1 ▸ Int.mul_nonneg (by omega) (by omega)
  omega
theorem zu_d4 {x0 x1 x2 x3 x4 x5 w12 w9 m10 m11 m4 m5 m1 m2 m7 m8 : Int} (b_x4 : 0 ≤ x4 ∧ x4 ≤ 255) (b_x5 : 0 ≤ x5 ∧ x5 ≤ 255) (k25 : ¬ ((0 : Int) ≤ (-1) * w12 + w9)) (w12s : (-1) * m10 + (-1) * m11 + (-1) * m4 + (-1) * m5 + (-800) * x0 + (-800) * x2 + 128 * x4 + 128 * x5 + 102400 = w12) (w9s : m1 + m2 + m7 + m8 + 800 * x1 + 800 * x3 + (-128) * x4 + (-128) * x5 + (-102400) = w9) (m4e : Hd (x0 * x4 = m4)) (m1e : Hd (x1 * x4 = m1)) (m10e : Hd (x2 * x4 = m10)) (m7e : Hd (x3 * x4 = m7)) (m5e : Hd (x0 * x5 = m5)) (m2e : Hd (x1 * x5 = m2)) (m11e : Hd (x2 * x5 = m11)) (m8e : Hd (x3 * x5 = m8)) : ¬ ((0 : Int) ≤ 2 * x0 + 2 * x1 + 2 * x2 + 2 * x3 + (-512)) := fun hn => by
  have p0 : 0 ≤ 2 * m1 + 2 * m10 + 2 * m4 + 2 * m7 + (-512) * x4 := by
    have e1 : (2 * x0 + 2 * x1 + 2 * x2 + 2 * x3 + (-512)) * (x4) = 2 * m1 + 2 * m10 + 2 * m4 + 2 * m7 + (-512) * x4 := ((by simp only [Int.add_mul, Int.mul_add, Int.mul_assoc, Int.mul_comm, Int.mul_left_comm, Int.reduceMul, Int.reduceNeg, Int.mul_one, Int.one_mul] <;> omega : (2 * x0 + 2 * x1 + 2 * x2 + 2 * x3 + (-512)) * (x4) = 2 * (x0 * x4) + 2 * (x1 * x4) + 2 * (x2 * x4) + 2 * (x3 * x4) + (-512) * x4).trans (by (try simp only [m4e.out, m1e.out, m10e.out, m7e.out]) <;> omega))
    exact e1 ▸ Int.mul_nonneg (by omega) (by omega)
  have p1 : 0 ≤ 2 * m11 + 2 * m2 + 2 * m5 + 2 * m8 + (-512) * x5 := by
    have e1 : (2 * x0 + 2 * x1 + 2 * x2 + 2 * x3 + (-512)) * (x5) = 2 * m11 + 2 * m2 + 2 * m5 + 2 * m8 + (-512) * x5 := ((by simp only [Int.add_mul, Int.mul_add, Int.mul_assoc, Int.mul_comm, Int.mul_left_comm, Int.reduceMul, Int.reduceNeg, Int.mul_one, Int.one_mul] <;> omega : (2 * x0 + 2 * x1 + 2 * x2 + 2 * x3 + (-512)) * (x5) = 2 * (x0 * x5) + 2 * (x1 * x5) + 2 * (x2 * x5) + 2 * (x3 * x5) + (-512) * x5).trans (by (try simp only [m5e.out, m2e.out, m11e.out, m8e.out]) <;> omega))
    exact e1 ▸ Int.mul_nonneg (by omega) (by omega)
  omega
theorem zu_d5 {x0 x1 x2 x3 x4 x5 w12 w9 m10 m11 m4 m5 m1 m2 m7 m8 : Int} (b_x4 : 0 ≤ x4 ∧ x4 ≤ 255) (b_x5 : 0 ≤ x5 ∧ x5 ≤ 255) (k25 : (0 : Int) ≤ (-1) * w12 + w9) (w12s : (-1) * m10 + (-1) * m11 + (-1) * m4 + (-1) * m5 + (-800) * x0 + (-800) * x2 + 128 * x4 + 128 * x5 + 102400 = w12) (w9s : m1 + m2 + m7 + m8 + 800 * x1 + 800 * x3 + (-128) * x4 + (-128) * x5 + (-102400) = w9) (m2f3 : m2 ≤ (255) * x5 + (0) * x1 - (0)) (m5f3 : m5 ≤ (255) * x5 + (0) * x0 - (0)) (m11f3 : m11 ≤ (255) * x5 + (0) * x2 - (0)) (m8f3 : m8 ≤ (255) * x5 + (0) * x3 - (0)) (m4e : Hd (x0 * x4 = m4)) (m1e : Hd (x1 * x4 = m1)) (m10e : Hd (x2 * x4 = m10)) (m7e : Hd (x3 * x4 = m7)) (m5e : Hd (x0 * x5 = m5)) (m2e : Hd (x1 * x5 = m2)) (m11e : Hd (x2 * x5 = m11)) (m8e : Hd (x3 * x5 = m8)) : (0 : Int) ≤ 2 * x0 + 2 * x1 + 2 * x2 + 2 * x3 + (-512) := Int.not_lt.1 fun h0 => by
  have hn : ¬ ((0 : Int) ≤ 2 * x0 + 2 * x1 + 2 * x2 + 2 * x3 + (-512)) := by omega
  have p0 : 0 ≤ (-2) * m1 + (-2) * m10 + (-2) * m4 + (-2) * m7 + 511 * x4 := by
    have e1 : ((-2) * x0 + (-2) * x1 + (-2) * x2 + (-2) * x3 + 511) * (x4) = (-2) * m1 + (-2) * m10 + (-2) * m4 + (-2) * m7 + 511 * x4 := ((by simp only [Int.add_mul, Int.mul_add, Int.mul_assoc, Int.mul_comm, Int.mul_left_comm, Int.reduceMul, Int.reduceNeg, Int.mul_one, Int.one_mul] <;> omega : ((-2) * x0 + (-2) * x1 + (-2) * x2 + (-2) * x3 + 511) * (x4) = (-2) * (x0 * x4) + (-2) * (x1 * x4) + (-2) * (x2 * x4) + (-2) * (x3 * x4) + 511 * x4).trans (by (try simp only [m4e.out, m1e.out, m10e.out, m7e.out]) <;> omega))
    exact e1 ▸ Int.mul_nonneg (by omega) (by omega)
  have p1 : 0 ≤ (-2) * m11 + (-2) * m2 + (-2) * m5 + (-2) * m8 + 511 * x5 := by
    have e1 : ((-2) * x0 + (-2) * x1 + (-2) * x2 + (-2) * x3 + 511) * (x5) = (-2) * m11 + (-2) * m2 + (-2) * m5 + (-2) * m8 + 511 * x5 := ((by simp only [Int.add_mul, Int.mul_add, Int.mul_assoc, Int.mul_comm, Int.mul_left_comm, Int.reduceMul, Int.reduceNeg, Int.mul_one, Int.one_mul] <;> omega : ((-2) * x0 + (-2) * x1 + (-2) * x2 + (-2) * x3 + 511) * (x5) = (-2) * (x0 * x5) + (-2) * (x1 * x5) + (-2) * (x2 * x5) + (-2) * (x3 * x5) + 511 * x5).trans (by (try simp only [m5e.out, m2e.out, m11e.out, m8e.out]) <;> omega))
    exact e1 ▸ Int.mul_nonneg (by omega) (by omega)
  omega
end Go.Proofs.Ytmekghjgkkjgoaa.Cx
