/- TopWidthFit: the tests of the law and their arithmetic. Made by tools/gen_twtg.py. -/
import Derived.Test.YtkajflgejninhaaTWidthT
set_option linter.unusedSimpArgs false
set_option linter.unusedVariables false
set_option maxRecDepth 100000
set_option maxHeartbeats 4000000
namespace Go.Proofs.Ytkajflgejninhaa.Cx
open Go Go.RowKit

theorem gcd_th {x k : Int} (h : x = 1000 * k) : (Int.gcd x 1000 : Int) = 1000 := by
  subst h
  have : (1000 * k).natAbs.gcd 1000 = 1000 := Nat.gcd_eq_right (by rw [Int.natAbs_mul]; exact Nat.dvd_mul_right ..)
  exact congrArg Nat.cast this

theorem tw_goal {ρ : Env} {x0 x1 x2 x3 x4 x5 x6 : Int} (e0 : Is ρ (.v 0) x0) (r0 : 0 ≤ x0 ∧ x0 ≤ 65535) (e1 : Is ρ (.v 1) x1) (r1 : 0 ≤ x1 ∧ x1 ≤ 65535) (e2 : Is ρ (.v 2) x2) (r2 : 0 ≤ x2 ∧ x2 ≤ 65535) (e3 : Is ρ (.v 3) x3) (r3 : -128 ≤ x3 ∧ x3 ≤ 127) (e4 : Is ρ (.v 4) x4) (r4 : -128 ≤ x4 ∧ x4 ≤ 127) (e5 : Is ρ (.v 5) x5) (r5 : 0 ≤ x5 ∧ x5 ≤ 255) (e6 : Is ρ (.v 6) x6) (r6 : 0 ≤ x6 ∧ x6 ≤ 255) : twTree.goal ρ := by
  have h0 : Is ρ tw0 (x0) := Zconv e0 (by omega)
  obtain ⟨q1, q1e⟩ : ∃ q : Int, Hd ((x0) / 5000 = q) := ⟨_, ⟨rfl⟩⟩
  obtain ⟨r2, r2e⟩ : ∃ q : Int, Hd ((x0) % 5000 = q) := ⟨_, ⟨rfl⟩⟩
  have q11 : x0 = 5000 * q1 + r2 := by have i1 := q1e.out; have i2 := r2e.out; omega
  have q12 : 0 ≤ r2 ∧ r2 ≤ 4999 ∧ 0 ≤ q1 ∧ q1 ≤ 13 := by have i1 := q1e.out; have i2 := r2e.out; omega
  have h1 : Is ρ tw1 (r2) := Zremp h0 (Zc 5000) (by omega) r2e.out
  have h2 : Is ρ tw2 (r2 + 1000) := Zadd (Zc 1000) h1 (by omega) (by omega)
  have h3 : Is ρ tw3 (4 * r2 + 4000) := Zmul (Zc 4) h2 (by omega) (by omega)
  have h4 : Is ρ tw4 (x1) := Zconv e1 (by omega)
  obtain ⟨q3, q3e⟩ : ∃ q : Int, Hd ((x1) / 900 = q) := ⟨_, ⟨rfl⟩⟩
  obtain ⟨r4, r4e⟩ : ∃ q : Int, Hd ((x1) % 900 = q) := ⟨_, ⟨rfl⟩⟩
  have q31 : x1 = 900 * q3 + r4 := by have i1 := q3e.out; have i2 := r4e.out; omega
  have q32 : 0 ≤ r4 ∧ r4 ≤ 899 ∧ 0 ≤ q3 ∧ q3 ≤ 72 := by have i1 := q3e.out; have i2 := r4e.out; omega
  have h5 : Is ρ tw5 (r4) := Zremp h4 (Zc 900) (by omega) r4e.out
  have h6 : Is ρ tw6 (r4 + 1) := Zadd (Zc 1) h5 (by omega) (by omega)
  have h7 : Is ρ tw7 (x2) := Zconv e2 (by omega)
  obtain ⟨q5, q5e⟩ : ∃ q : Int, Hd ((x2) / 900 = q) := ⟨_, ⟨rfl⟩⟩
  obtain ⟨r6, r6e⟩ : ∃ q : Int, Hd ((x2) % 900 = q) := ⟨_, ⟨rfl⟩⟩
  have q51 : x2 = 900 * q5 + r6 := by have i1 := q5e.out; have i2 := r6e.out; omega
  have q52 : 0 ≤ r6 ∧ r6 ≤ 899 ∧ 0 ≤ q5 ∧ q5 ≤ 72 := by have i1 := q5e.out; have i2 := r6e.out; omega
  have h8 : Is ρ tw8 (r6) := Zremp h7 (Zc 900) (by omega) r6e.out
  have h9 : Is ρ tw9 (r6 + 1) := Zadd (Zc 1) h8 (by omega) (by omega)
  obtain ⟨q7, q7e⟩ : ∃ q : Int, Hd ((x0) / 3 = q) := ⟨_, ⟨rfl⟩⟩
  obtain ⟨r8, r8e⟩ : ∃ q : Int, Hd ((x0) % 3 = q) := ⟨_, ⟨rfl⟩⟩
  have q71 : x0 = 3 * q7 + r8 := by have i1 := q7e.out; have i2 := r8e.out; omega
  have q72 : 0 ≤ r8 ∧ r8 ≤ 2 ∧ 0 ≤ q7 ∧ q7 ≤ 21845 := by have i1 := q7e.out; have i2 := r8e.out; omega
  have h10 : Is ρ tw10 (r8) := Zremp h0 (Zc 3) (by omega) r8e.out
  have h11 : Is ρ tw11 (r8 + 1) := Zadd (Zc 1) h10 (by omega) (by omega)
  have h12 : Is ρ tw12 (r4 + r6 + 2) := Zadd h6 h9 (by omega) (by omega)
  have h13 : Is ρ tw13 (900 * r4 + 900 * r6 + 1800) := Zmul (Zc 900) h12 (by omega) (by omega)
  have h14 : Is ρ tw14 (2000 * r2 + 2000000) := Zmul (Zc 500) h3 (by omega) (by omega)
  have h15 : Is ρ tw15 (0) := Zmul (Zc 0) h12 (by omega) (by omega)
  have h16 : Is ρ tw16 (2000 * r2 + 2000000) := Zsub h14 h15 (by omega) (by omega)
  have h17 : Is ρ tw17 (x6) := Zconv e6 (by omega)
  obtain ⟨q9, q9e⟩ : ∃ q : Int, Hd ((x6) / 4 = q) := ⟨_, ⟨rfl⟩⟩
  obtain ⟨r10, r10e⟩ : ∃ q : Int, Hd ((x6) % 4 = q) := ⟨_, ⟨rfl⟩⟩
  have q91 : x6 = 4 * q9 + r10 := by have i1 := q9e.out; have i2 := r10e.out; omega
  have q92 : 0 ≤ r10 ∧ r10 ≤ 3 ∧ 0 ≤ q9 ∧ q9 ≤ 63 := by have i1 := q9e.out; have i2 := r10e.out; omega
  have h18 : Is ρ tw18 (r10) := Zremp h17 (Zc 4) (by omega) r10e.out
  have h19 : Is ρ tw19 (r10 + 1) := Zadd (Zc 1) h18 (by omega) (by omega)
  have h20 : Is ρ tw20 (0) := Zmul (Zc 0) h3 (by omega) (by omega)
  obtain ⟨q11, q11e⟩ : ∃ q : Int, Hd ((4 * r2 + 4000) / 4 = q) := ⟨_, ⟨rfl⟩⟩
  obtain ⟨r12, r12e⟩ : ∃ q : Int, Hd ((4 * r2 + 4000) % 4 = q) := ⟨_, ⟨rfl⟩⟩
  have q111 : 4 * r2 + 4000 = 4 * q11 + r12 := by have i1 := q11e.out; have i2 := r12e.out; omega
  have q112 : 0 ≤ r12 ∧ r12 ≤ 3 ∧ 1000 ≤ q11 ∧ q11 ≤ 5999 := by have i1 := q11e.out; have i2 := r12e.out; omega
  have h21 : Is ρ tw21 (q11) := Zquop h3 (Zc 4) (by omega) (by omega) q11e.out
  have h22 : Is ρ tw22 ((-1) * q11) := Zsub h20 h21 (by omega) (by omega)
  have h23 : Is ρ tw23 (x5) := Zconv e5 (by omega)
  have h24 : Is ρ tw24 ((-1) * x5) := Zsub (Zc 0) h23 (by omega) (by omega)
  have h25 : Is ρ tw25 ((-1) * q11 + x5) := Zsub h22 h24 (by omega) (by omega)
  have h26 : Is ρ tw26 (q11) := Zadd h20 h21 (by omega) (by omega)
  have h27 : Is ρ tw27 (q11 + (-1) * x5) := Zadd h26 h24 (by omega) (by omega)
  have h28 : Is ρ tw28 ((-1) * q11) := Zsub h22 (Zc 0) (by omega) (by omega)
  have h29 : Is ρ tw29 (q11) := Zadd h26 (Zc 0) (by omega) (by omega)
  have h30 : Is ρ tw30 (x3) := Zconv e3 (by omega)
  have h31 : Is ρ tw31 (7 * x3) := Zmul (Zc 7) h30 (by omega) (by omega)
  have h32 : Is ρ tw32 (x4) := Zconv e4 (by omega)
  have h33 : Is ρ tw33 (7 * x4) := Zmul (Zc 7) h32 (by omega) (by omega)
  obtain ⟨u13, u13e⟩ : ∃ m : Int, min (7 * x3) (7 * x4) = m := ⟨_, rfl⟩
  have h34 : Is ρ tw34 (u13) := Zmn h31 h33 (by omega)
  obtain ⟨u14, u14e⟩ : ∃ m : Int, max (7 * x3) (7 * x4) = m := ⟨_, rfl⟩
  have h35 : Is ρ tw35 (u14) := Zmx h31 h33 (by omega)
  have h36 : Is ρ tw36 ((-1) * r10) := Zsub (Zc 1) h19 (by omega) (by omega)
  have h37 : Is ρ tw37 ((-1000) * q11) := Zmul (Zc 1000) h28 (by omega) (by omega)
  have h38 : Is ρ tw38 ((-1000) * q11 + 1000 * x5) := Zmul (Zc 1000) h25 (by omega) (by omega)
  have h39 : Is ρ tw39 ((-1000) * x5) := Zsub h37 h38 (by omega) (by omega)
  have h40 : Is ρ tw40 ((-1000) * x5) := Zmx (Zc (-9223372036854775808)) h39 (by omega)
  have h41 : Is ρ tw41 (0) := Zsub h6 h6 (by omega) (by omega)
  have h42 : Is ρ tw42 (0) := Zmul h34 h41 (by omega) (by omega)
  have h43 : Is ρ tw43 (0) := Zmul h35 h41 (by omega) (by omega)
  have h44 : Is ρ tw44 (0) := Zmx h42 h43 (by omega)
  have h45 : Is ρ tw45 ((-1000) * x5) := Zadd h40 h44 (by omega) (by omega)
  have h46 : Is ρ tw46 (1000 * q11) := Zmul (Zc 1000) h29 (by omega) (by omega)
  have h47 : Is ρ tw47 (1000 * q11 + (-1000) * x5) := Zmul (Zc 1000) h27 (by omega) (by omega)
  have h48 : Is ρ tw48 (1000 * x5) := Zsub h46 h47 (by omega) (by omega)
  have h49 : Is ρ tw49 (1000 * x5) := Zmn (Zc 9223372036854775807) h48 (by omega)
  have h50 : Is ρ tw50 (0) := Zsub h9 h9 (by omega) (by omega)
  have h51 : Is ρ tw51 (0) := Zmul h34 h50 (by omega) (by omega)
  have h52 : Is ρ tw52 (0) := Zmul h35 h50 (by omega) (by omega)
  have h53 : Is ρ tw53 (0) := Zmx h51 h52 (by omega)
  have h54 : Is ρ tw54 (1000 * x5) := Zsub h49 h53 (by omega) (by omega)
  have h55 : Is ρ tw55 1000 := Zgcd h16 (Zc 1000) (gcd_th (k := 2000 + 2 * r2) (by omega))
  obtain ⟨q15, q15e⟩ : ∃ q : Int, Hd ((1000) / 1000 = q) := ⟨_, ⟨rfl⟩⟩
  obtain ⟨r16, r16e⟩ : ∃ q : Int, Hd ((1000) % 1000 = q) := ⟨_, ⟨rfl⟩⟩
  have q151 : 1000 = 1000 * q15 + r16 := by have i1 := q15e.out; have i2 := r16e.out; omega
  have q152 : 0 ≤ r16 ∧ r16 ≤ 999 ∧ 1 ≤ q15 ∧ q15 ≤ 1 := by have i1 := q15e.out; have i2 := r16e.out; omega
  have h56 : Is ρ tw56 (q15) := Zquop (Zc 1000) h55 (by omega) (by omega) q15e.out
  have h57 : Is ρ tw57 (2 * r2 + 2000) := Zquop h16 h55 (by omega) (by omega) (by omega)
  have h58 : Is ρ tw58 (4 * r2 + 4000) := Zmul (Zc 2) h57 (by omega) (by omega)
  have h59 : Is ρ tw59 (2 * q11 + (-2) * x5) := Zsub h27 h25 (by omega) (by omega)
  have h60 : Is ρ tw60 (2 * x5) := Zmul (Zc 2) h23 (by omega) (by omega)
  have h61 : Is ρ tw61 (2 * q11) := Zadd h59 h60 (by omega) (by omega)
  have h62 : Is ρ tw62 ((-1000) * x5) := Zmul (Zc (-1000)) h23 (by omega) (by omega)
  have h63 : Is ρ tw63 (1000 * x5) := Zmul (Zc 1000) h23 (by omega) (by omega)
  obtain ⟨m17, m17e⟩ : ∃ m : Int, Hd (r2 * r8 = m) := ⟨_, ⟨rfl⟩⟩
  have m171 : 0 ≤ m17 := m17e.out ▸ Int.mul_nonneg (by omega) (by omega)
  have m172 : m17 ≤ 9998 := m17e.out ▸ (Int.mul_le_mul (by omega : r2 ≤ 4999) (by omega : r8 ≤ 2) (by omega) (by omega) : r2 * r8 ≤ 4999 * 2)
  have h64 : Is ρ tw64 (4 * m17 + 4 * r2 + 4000 * r8 + 4000) := Zmul h3 h11 (by omega) ((by simp only [Int.add_mul, Int.mul_add, Int.mul_assoc, Int.mul_comm, Int.mul_left_comm] <;> omega : (4 * r2 + 4000) * (r8 + 1) = 4 * (r2 * r8) + 4 * r2 + 4000 * r8 + 4000).trans (by (try simp only [m17e.out]) <;> omega))
  obtain ⟨m18, m18e⟩ : ∃ m : Int, Hd (m17 * x5 = m) := ⟨_, ⟨rfl⟩⟩
  have m181 : 0 ≤ m18 := m18e.out ▸ Int.mul_nonneg (by omega) (by omega)
  have m182 : m18 ≤ 2549490 := m18e.out ▸ (Int.mul_le_mul (by omega : m17 ≤ 9998) (by omega : x5 ≤ 255) (by omega) (by omega) : m17 * x5 ≤ 9998 * 255)
  obtain ⟨m19, m19e⟩ : ∃ m : Int, Hd (r2 * x5 = m) := ⟨_, ⟨rfl⟩⟩
  have m191 : 0 ≤ m19 := m19e.out ▸ Int.mul_nonneg (by omega) (by omega)
  have m192 : m19 ≤ 1274745 := m19e.out ▸ (Int.mul_le_mul (by omega : r2 ≤ 4999) (by omega : x5 ≤ 255) (by omega) (by omega) : r2 * x5 ≤ 4999 * 255)
  obtain ⟨m20, m20e⟩ : ∃ m : Int, Hd (r8 * x5 = m) := ⟨_, ⟨rfl⟩⟩
  have m201 : 0 ≤ m20 := m20e.out ▸ Int.mul_nonneg (by omega) (by omega)
  have m202 : m20 ≤ 510 := m20e.out ▸ (Int.mul_le_mul (by omega : r8 ≤ 2) (by omega : x5 ≤ 255) (by omega) (by omega) : r8 * x5 ≤ 2 * 255)
  have h65 : Is ρ tw65 (4 * m18 + 4 * m19 + 4000 * m20 + 4000 * x5) := Zmul h64 h23 (by omega) ((by simp only [Int.add_mul, Int.mul_add, Int.mul_assoc, Int.mul_comm, Int.mul_left_comm] <;> omega : (4 * m17 + 4 * r2 + 4000 * r8 + 4000) * (x5) = 4 * (m17 * x5) + 4 * (r2 * x5) + 4000 * (r8 * x5) + 4000 * x5).trans (by (try simp only [m18e.out, m19e.out, m20e.out]) <;> omega))
  obtain ⟨q21, q21e⟩ : ∃ q : Int, Hd ((4 * m18 + 4 * m19 + 4000 * m20 + 4000 * x5) / 16 = q) := ⟨_, ⟨rfl⟩⟩
  obtain ⟨r22, r22e⟩ : ∃ q : Int, Hd ((4 * m18 + 4 * m19 + 4000 * m20 + 4000 * x5) % 16 = q) := ⟨_, ⟨rfl⟩⟩
  have q211 : 4 * m18 + 4 * m19 + 4000 * m20 + 4000 * x5 = 16 * q21 + r22 := by have i1 := q21e.out; have i2 := r22e.out; omega
  have q212 : 0 ≤ r22 ∧ r22 ≤ 15 ∧ 0 ≤ q21 ∧ q21 ≤ 1147308 := by have i1 := q21e.out; have i2 := r22e.out; omega
  have h66 : Is ρ tw66 (q21) := Zquop h65 (Zc 16) (by omega) (by omega) q21e.out
  obtain ⟨m23, m23e⟩ : ∃ m : Int, Hd (m17 * q21 = m) := ⟨_, ⟨rfl⟩⟩
  have m231 : 0 ≤ m23 := m23e.out ▸ Int.mul_nonneg (by omega) (by omega)
  have m232 : m23 ≤ 11470785384 := m23e.out ▸ (Int.mul_le_mul (by omega : m17 ≤ 9998) (by omega : q21 ≤ 1147308) (by omega) (by omega) : m17 * q21 ≤ 9998 * 1147308)
  obtain ⟨m24, m24e⟩ : ∃ m : Int, Hd (q21 * r2 = m) := ⟨_, ⟨rfl⟩⟩
  have m241 : 0 ≤ m24 := m24e.out ▸ Int.mul_nonneg (by omega) (by omega)
  have m242 : m24 ≤ 5735392692 := m24e.out ▸ (Int.mul_le_mul (by omega : q21 ≤ 1147308) (by omega : r2 ≤ 4999) (by omega) (by omega) : q21 * r2 ≤ 1147308 * 4999)
  obtain ⟨m25, m25e⟩ : ∃ m : Int, Hd (q21 * r8 = m) := ⟨_, ⟨rfl⟩⟩
  have m251 : 0 ≤ m25 := m25e.out ▸ Int.mul_nonneg (by omega) (by omega)
  have m252 : m25 ≤ 2294616 := m25e.out ▸ (Int.mul_le_mul (by omega : q21 ≤ 1147308) (by omega : r8 ≤ 2) (by omega) (by omega) : q21 * r8 ≤ 1147308 * 2)
  have h67 : Is ρ tw67 (4 * m23 + 4 * m24 + 4000 * m25 + 4000 * q21) := Zmul h64 h66 (by omega) ((by simp only [Int.add_mul, Int.mul_add, Int.mul_assoc, Int.mul_comm, Int.mul_left_comm] <;> omega : (4 * m17 + 4 * r2 + 4000 * r8 + 4000) * (q21) = 4 * (m17 * q21) + 4 * (q21 * r2) + 4000 * (q21 * r8) + 4000 * q21).trans (by (try simp only [m23e.out, m24e.out, m25e.out]) <;> omega))
  obtain ⟨X26, X26e⟩ : ∃ q : Int, 4 * m23 + 4 * m24 + 4000 * m25 + 4000 * q21 = q := ⟨_, rfl⟩
  rw [X26e] at h67
  have X26b : 0 ≤ X26 ∧ X26 ≤ 82592408304 := by omega
  obtain ⟨g27, g27e, g271⟩ := gcd_ex (X26) (1000000) (by omega)
  have h68 : Is ρ tw68 (g27) := Zgcd h67 (Zc 1000000) g27e.out
  obtain ⟨q28, q28e, q281, q282, q283⟩ := gq_ex (X := 1000000) (h := 1000000) g27e (by omega) (by omega) (by omega) g271
  replace q283 := q283 (by omega)
  have h69 : Is ρ tw69 (q28) := Zgq (Zc 1000000) h68 q28e.out g271 (by omega)
  obtain ⟨q29, q29e, q291, q292, q293⟩ := gq_ex (X := X26) (h := 82592408304) g27e (by omega) (by omega) (by omega) g271
  have h70 : Is ρ tw70 (q29) := Zgq h67 h68 q29e.out g271 (by omega)
  have h71 : Is ρ tw71 (1000000 * q29) := Zmul h70 (Zc 1000000) (by omega) (by omega)
  obtain ⟨m30, m30e⟩ : ∃ m : Int, Hd (X26 * q28 = m) := ⟨_, ⟨rfl⟩⟩
  have m301 : 0 ≤ m30 := m30e.out ▸ Int.mul_nonneg (by omega) (by omega)
  have m302 : m30 ≤ 82592408304000000 := m30e.out ▸ (Int.mul_le_mul (by omega : X26 ≤ 82592408304) (by omega : q28 ≤ 1000000) (by omega) (by omega) : X26 * q28 ≤ 82592408304 * 1000000)
  have h72 : Is ρ tw72 (m30) := Zmul h67 h69 (by omega) ((by simp only [Int.add_mul, Int.mul_add, Int.mul_assoc, Int.mul_comm, Int.mul_left_comm] <;> omega : (X26) * (q28) = X26 * q28).trans (by (try simp only [m30e.out]) <;> omega))
  have h73 : Is ρ tw73 (4 * r2 + 4000) := Zmul (Zc 1) h3 (by omega) (by omega)
  have h74 : Is ρ tw74 ((-1) * q11 + 4 * r2 + 4000) := Zsub h73 h21 (by omega) (by omega)
  have h75 : Is ρ tw75 ((-1) * q11 + 4 * r2 + x5 + 4000) := Zsub h74 h24 (by omega) (by omega)
  have h76 : Is ρ tw76 (q11 + 4 * r2 + 4000) := Zadd h73 h21 (by omega) (by omega)
  have h77 : Is ρ tw77 (q11 + 4 * r2 + (-1) * x5 + 4000) := Zadd h76 h24 (by omega) (by omega)
  have h78 : Is ρ tw78 ((-1) * q11 + 4 * r2 + 4000) := Zsub h74 (Zc 0) (by omega) (by omega)
  have h79 : Is ρ tw79 (q11 + 4 * r2 + 4000) := Zadd h76 (Zc 0) (by omega) (by omega)
  have h80 : Is ρ tw80 ((-1) * r10 + 1) := Zsub (Zc 2) h19 (by omega) (by omega)
  have h81 : Is ρ tw81 ((-1000) * q11 + 4000 * r2 + 4000000) := Zmul (Zc 1000) h78 (by omega) (by omega)
  have h82 : Is ρ tw82 ((-1000) * q11 + 4000 * r2 + 1000 * x5 + 4000000) := Zmul (Zc 1000) h75 (by omega) (by omega)
  have h83 : Is ρ tw83 ((-1000) * x5) := Zsub h81 h82 (by omega) (by omega)
  have h84 : Is ρ tw84 ((-1000) * x5) := Zmx h40 h83 (by omega)
  have h85 : Is ρ tw85 ((-1000) * x5) := Zadd h84 h44 (by omega) (by omega)
  have h86 : Is ρ tw86 (1000 * q11 + 4000 * r2 + 4000000) := Zmul (Zc 1000) h79 (by omega) (by omega)
  have h87 : Is ρ tw87 (1000 * q11 + 4000 * r2 + (-1000) * x5 + 4000000) := Zmul (Zc 1000) h77 (by omega) (by omega)
  have h88 : Is ρ tw88 (1000 * x5) := Zsub h86 h87 (by omega) (by omega)
  have h89 : Is ρ tw89 (1000 * x5) := Zmn h49 h88 (by omega)
  have h90 : Is ρ tw90 (1000 * x5) := Zsub h89 h53 (by omega) (by omega)
  have h91 : Is ρ tw91 (8 * r2 + 8000) := Zmul (Zc 2) h3 (by omega) (by omega)
  have h92 : Is ρ tw92 ((-1) * q11 + 8 * r2 + 8000) := Zsub h91 h21 (by omega) (by omega)
  have h93 : Is ρ tw93 ((-1) * q11 + 8 * r2 + x5 + 8000) := Zsub h92 h24 (by omega) (by omega)
  have h94 : Is ρ tw94 (q11 + 8 * r2 + 8000) := Zadd h91 h21 (by omega) (by omega)
  have h95 : Is ρ tw95 (q11 + 8 * r2 + (-1) * x5 + 8000) := Zadd h94 h24 (by omega) (by omega)
  have h96 : Is ρ tw96 ((-1) * q11 + 8 * r2 + 8000) := Zsub h92 (Zc 0) (by omega) (by omega)
  have h97 : Is ρ tw97 (q11 + 8 * r2 + 8000) := Zadd h94 (Zc 0) (by omega) (by omega)
  have h98 : Is ρ tw98 ((-1) * r10 + 2) := Zsub (Zc 3) h19 (by omega) (by omega)
  have h99 : Is ρ tw99 ((-1000) * q11 + 8000 * r2 + 8000000) := Zmul (Zc 1000) h96 (by omega) (by omega)
  have h100 : Is ρ tw100 ((-1000) * q11 + 8000 * r2 + 1000 * x5 + 8000000) := Zmul (Zc 1000) h93 (by omega) (by omega)
  have h101 : Is ρ tw101 ((-1000) * x5) := Zsub h99 h100 (by omega) (by omega)
  have h102 : Is ρ tw102 ((-1000) * x5) := Zmx h84 h101 (by omega)
  have h103 : Is ρ tw103 ((-1000) * x5) := Zadd h102 h44 (by omega) (by omega)
  have h104 : Is ρ tw104 (1000 * q11 + 8000 * r2 + 8000000) := Zmul (Zc 1000) h97 (by omega) (by omega)
  have h105 : Is ρ tw105 (1000 * q11 + 8000 * r2 + (-1000) * x5 + 8000000) := Zmul (Zc 1000) h95 (by omega) (by omega)
  have h106 : Is ρ tw106 (1000 * x5) := Zsub h104 h105 (by omega) (by omega)
  have h107 : Is ρ tw107 (1000 * x5) := Zmn h89 h106 (by omega)
  have h108 : Is ρ tw108 (1000 * x5) := Zsub h107 h53 (by omega) (by omega)
  have h109 : Is ρ tw109 (12 * r2 + 12000) := Zmul (Zc 3) h3 (by omega) (by omega)
  have h110 : Is ρ tw110 ((-1) * q11 + 12 * r2 + 12000) := Zsub h109 h21 (by omega) (by omega)
  have h111 : Is ρ tw111 ((-1) * q11 + 12 * r2 + x5 + 12000) := Zsub h110 h24 (by omega) (by omega)
  have h112 : Is ρ tw112 (q11 + 12 * r2 + 12000) := Zadd h109 h21 (by omega) (by omega)
  have h113 : Is ρ tw113 (q11 + 12 * r2 + (-1) * x5 + 12000) := Zadd h112 h24 (by omega) (by omega)
  have h114 : Is ρ tw114 ((-1) * q11 + 12 * r2 + 12000) := Zsub h110 (Zc 0) (by omega) (by omega)
  have h115 : Is ρ tw115 (q11 + 12 * r2 + 12000) := Zadd h112 (Zc 0) (by omega) (by omega)
  have h116 : Is ρ tw116 ((-1) * r10 + 3) := Zsub (Zc 4) h19 (by omega) (by omega)
  have h117 : Is ρ tw117 ((-1000) * q11 + 12000 * r2 + 12000000) := Zmul (Zc 1000) h114 (by omega) (by omega)
  have h118 : Is ρ tw118 ((-1000) * q11 + 12000 * r2 + 1000 * x5 + 12000000) := Zmul (Zc 1000) h111 (by omega) (by omega)
  have h119 : Is ρ tw119 ((-1000) * x5) := Zsub h117 h118 (by omega) (by omega)
  have h120 : Is ρ tw120 ((-1000) * x5) := Zmx h102 h119 (by omega)
  have h121 : Is ρ tw121 ((-1000) * x5) := Zadd h120 h44 (by omega) (by omega)
  have h122 : Is ρ tw122 (1000 * q11 + 12000 * r2 + 12000000) := Zmul (Zc 1000) h115 (by omega) (by omega)
  have h123 : Is ρ tw123 (1000 * q11 + 12000 * r2 + (-1000) * x5 + 12000000) := Zmul (Zc 1000) h113 (by omega) (by omega)
  have h124 : Is ρ tw124 (1000 * x5) := Zsub h122 h123 (by omega) (by omega)
  have h125 : Is ρ tw125 (1000 * x5) := Zmn h107 h124 (by omega)
  have h126 : Is ρ tw126 (1000 * x5) := Zsub h125 h53 (by omega) (by omega)
  have eq : 1000000 * q29 = m30 := by
    rw [← m30e.out, ← q29e.out, Int.mul_assoc, Int.mul_comm g27, q28e.out, Int.mul_comm]
  clear m17e
  clear m171 m172
  clear m18e
  clear m181 m182
  clear m19e
  clear m191 m192
  clear m20e
  clear m201 m202
  clear m23e
  clear m231 m232
  clear m24e
  clear m241 m242
  clear m25e
  clear m251 m252
  clear m30e
  clear X26e m301 m302
  refine ⟨fun g0 => ?_, fun g0 => ?_⟩
  · clear g0
    refine ⟨fun g1 => ?_, fun g1 => ?_⟩
    · clear g1
      refine ⟨fun g2 => ?_, fun g2 => ?_⟩
      · clear g2
        refine ⟨fun g3 => ?_, fun g3 => ?_⟩
        · clear g3
          refine ⟨fun g4 => ?_, fun g4 => ?_⟩
          · clear g4
            refine ⟨fun g5 => ?_, fun g5 => ?_⟩
            · clear g5
              refine ⟨fun g6 => ?_, fun g6 => ?_⟩
              · clear g6
                refine ⟨fun g7 => ?_, fun g7 => ?_⟩
                · clear g7
                  refine ⟨fun g8 => ?_, fun g8 => ?_⟩
                  · clear g8
                    refine ⟨fun g9 => ?_, fun g9 => ?_⟩
                    · clear g9
                      refine ⟨fun g10 => ?_, fun g10 => ?_⟩
                      · clear g10
                        refine ⟨fun g11 => ?_, fun g11 => ?_⟩
                        · have k11 : ((r10 + 1 : Int) ≤ 0) := Zleqt h19 (Zc 0) g11
                          clear g11
                          omega
                        · clear g11
                          refine ⟨fun g12 => ?_, fun g12 => ?_⟩
                          · have k12 : ((r10 + 1 : Int) ≤ 1) := Zleqt h19 (Zc 1) g12
                            clear g12
                            refine ⟨fun g13 => ?_, fun g13 => ?_⟩
                            · clear g13
                              refine ⟨fun g14 => ?_, fun g14 => ?_⟩
                              · clear g14
                                refine ⟨fun g15 => ?_, fun g15 => ?_⟩
                                · clear g15
                                  refine ⟨fun g16 => ?_, fun g16 => ?_⟩
                                  · clear g16
                                    refine ⟨fun g17 => ?_, fun g17 => ?_⟩
                                    · clear g17
                                      refine ⟨fun g18 => ?_, fun g18 => ?_⟩
                                      · clear g18
                                        refine ⟨fun g19 => ?_, fun g19 => ?_⟩
                                        · clear g19
                                          refine ⟨fun g20 => ?_, fun g20 => ?_⟩
                                          · clear g20
                                            refine ⟨fun g21 => ?_, fun g21 => ?_⟩
                                            · clear g21
                                              refine ⟨fun g22 => ?_, fun g22 => ?_⟩
                                              · clear g22
                                                refine ⟨fun g23 => ?_, fun g23 => ?_⟩
                                                · clear g23
                                                  refine ⟨fun g24 => ?_, fun g24 => ?_⟩
                                                  · clear g24
                                                    refine ⟨fun g25 => ?_, fun g25 => ?_⟩
                                                    · clear g25
                                                      refine ⟨fun g26 => ?_, fun g26 => ?_⟩
                                                      · clear g26
                                                        refine ⟨fun g27 => ?_, fun g27 => ?_⟩
                                                        · clear g27
                                                          refine ⟨fun g28 => ?_, fun g28 => ?_⟩
                                                          · clear g28
                                                            refine ⟨fun g29 => ?_, fun g29 => ?_⟩
                                                            · clear g29
                                                              refine ⟨fun g30 => ?_, fun g30 => ?_⟩
                                                              · clear g30
                                                                refine ⟨fun g31 => ?_, fun g31 => ?_⟩
                                                                · clear g31
                                                                  refine ⟨fun g32 => ?_, fun g32 => ?_⟩
                                                                  · clear g32
                                                                    refine ⟨fun g33 => ?_, fun g33 => ?_⟩
                                                                    · clear g33
                                                                      refine ⟨fun g34 => ?_, fun g34 => ?_⟩
                                                                      · have k34 : ((q28 : Int) ≤ 0) := Zleqt h69 (Zc 0) g34
                                                                        clear g34
                                                                        omega
                                                                      · clear g34
                                                                        refine ⟨fun g35 => ?_, fun g35 => ?_⟩
                                                                        · exact rfl
                                                                        · have k35 : ¬ ((1000000 * q29 : Int) = m30) := Zeqlf h71 h72 g35
                                                                          clear g35
                                                                          omega
                                                                    · have k33 : ¬ ((X26 : Int) ≤ 9223372036854775807) := Zleqf h67 (Zc 9223372036854775807) g33
                                                                      clear g33
                                                                      omega
                                                                  · have k32 : ¬ (((-9223372036854775807) : Int) ≤ X26) := Zleqf (Zc (-9223372036854775807)) h67 g32
                                                                    clear g32
                                                                    omega
                                                                · have k31 : ¬ ((q21 : Int) ≤ 1000000000) := Zleqf h66 (Zc 1000000000) g31
                                                                  clear g31
                                                                  omega
                                                              · have k30 : ¬ (((-1000000000) : Int) ≤ q21) := Zleqf (Zc (-1000000000)) h66 g30
                                                                clear g30
                                                                omega
                                                            · have k29 : ¬ ((1000 * x5 : Int) = 1000 * x5) := Zeqlf h54 h63 g29
                                                              clear g29
                                                              omega
                                                          · have k28 : ¬ (((-1000) * x5 : Int) = (-1000) * x5) := Zeqlf h45 h62 g28
                                                            clear g28
                                                            omega
                                                        · have k27 : ¬ ((2 * q11 : Int) = 2 * r2 + 2000) := Zeqlf h61 h57 g27
                                                          clear g27
                                                          omega
                                                      · have k26 : ¬ ((4 * r2 + 4000 : Int) = 4 * r2 + 4000) := Zeqlf h58 h3 g26
                                                        clear g26
                                                        omega
                                                    · have k25 : ¬ ((q15 : Int) = 1) := Zeqlf h56 (Zc 1) g25
                                                      clear g25
                                                      omega
                                                  · have k24 : ¬ (((-1000) * x5 : Int) ≤ 1000 * x5) := Zleqf h45 h54 g24
                                                    clear g24
                                                    omega
                                                · have k23 : ¬ ((0 : Int) ≤ (-1) * r10) := Zleqf (Zc 0) h36 g23
                                                  clear g23
                                                  omega
                                              · have k22 : ¬ ((1 : Int) ≤ r10 + 1) := Zleqf (Zc 1) h19 g22
                                                clear g22
                                                omega
                                            · have k21 : ¬ ((u14 : Int) ≤ 200000) := Zleqf h35 (Zc 200000) g21
                                              clear g21
                                              omega
                                          · have k20 : ¬ ((u13 : Int) ≤ u14) := Zleqf h34 h35 g20
                                            clear g20
                                            omega
                                        · have k19 : ¬ (((-200000) : Int) ≤ u13) := Zleqf (Zc (-200000)) h34 g19
                                          clear g19
                                          omega
                                      · have k18 : ¬ ((q11 : Int) ≤ 10000000) := Zleqf h29 (Zc 10000000) g18
                                        clear g18
                                        omega
                                    · have k17 : ¬ (((-1) * q11 : Int) ≤ q11) := Zleqf h28 h29 g17
                                      clear g17
                                      omega
                                  · have k16 : ¬ (((-10000000) : Int) ≤ (-1) * q11) := Zleqf (Zc (-10000000)) h28 g16
                                    clear g16
                                    omega
                                · have k15 : ¬ ((q11 + (-1) * x5 : Int) ≤ 10000000) := Zleqf h27 (Zc 10000000) g15
                                  clear g15
                                  omega
                              · have k14 : ¬ (((-1) * q11 + x5 : Int) ≤ q11 + (-1) * x5) := Zleqf h25 h27 g14
                                clear g14
                                omega
                            · have k13 : ¬ (((-10000000) : Int) ≤ (-1) * q11 + x5) := Zleqf (Zc (-10000000)) h25 g13
                              clear g13
                              omega
                          · have k12 : ¬ ((r10 + 1 : Int) ≤ 1) := Zleqf h19 (Zc 1) g12
                            clear g12
                            refine ⟨fun g13 => ?_, fun g13 => ?_⟩
                            · have k13 : ((r10 + 1 : Int) ≤ 2) := Zleqt h19 (Zc 2) g13
                              clear g13
                              refine ⟨fun g14 => ?_, fun g14 => ?_⟩
                              · clear g14
                                refine ⟨fun g15 => ?_, fun g15 => ?_⟩
                                · clear g15
                                  refine ⟨fun g16 => ?_, fun g16 => ?_⟩
                                  · clear g16
                                    refine ⟨fun g17 => ?_, fun g17 => ?_⟩
                                    · clear g17
                                      refine ⟨fun g18 => ?_, fun g18 => ?_⟩
                                      · clear g18
                                        refine ⟨fun g19 => ?_, fun g19 => ?_⟩
                                        · clear g19
                                          refine ⟨fun g20 => ?_, fun g20 => ?_⟩
                                          · clear g20
                                            refine ⟨fun g21 => ?_, fun g21 => ?_⟩
                                            · clear g21
                                              refine ⟨fun g22 => ?_, fun g22 => ?_⟩
                                              · clear g22
                                                refine ⟨fun g23 => ?_, fun g23 => ?_⟩
                                                · clear g23
                                                  refine ⟨fun g24 => ?_, fun g24 => ?_⟩
                                                  · clear g24
                                                    refine ⟨fun g25 => ?_, fun g25 => ?_⟩
                                                    · clear g25
                                                      refine ⟨fun g26 => ?_, fun g26 => ?_⟩
                                                      · clear g26
                                                        refine ⟨fun g27 => ?_, fun g27 => ?_⟩
                                                        · clear g27
                                                          refine ⟨fun g28 => ?_, fun g28 => ?_⟩
                                                          · clear g28
                                                            refine ⟨fun g29 => ?_, fun g29 => ?_⟩
                                                            · clear g29
                                                              refine ⟨fun g30 => ?_, fun g30 => ?_⟩
                                                              · clear g30
                                                                refine ⟨fun g31 => ?_, fun g31 => ?_⟩
                                                                · clear g31
                                                                  refine ⟨fun g32 => ?_, fun g32 => ?_⟩
                                                                  · clear g32
                                                                    refine ⟨fun g33 => ?_, fun g33 => ?_⟩
                                                                    · clear g33
                                                                      refine ⟨fun g34 => ?_, fun g34 => ?_⟩
                                                                      · clear g34
                                                                        refine ⟨fun g35 => ?_, fun g35 => ?_⟩
                                                                        · clear g35
                                                                          refine ⟨fun g36 => ?_, fun g36 => ?_⟩
                                                                          · clear g36
                                                                            refine ⟨fun g37 => ?_, fun g37 => ?_⟩
                                                                            · clear g37
                                                                              refine ⟨fun g38 => ?_, fun g38 => ?_⟩
                                                                              · clear g38
                                                                                refine ⟨fun g39 => ?_, fun g39 => ?_⟩
                                                                                · have k39 : ((q28 : Int) ≤ 0) := Zleqt h69 (Zc 0) g39
                                                                                  clear g39
                                                                                  omega
                                                                                · clear g39
                                                                                  refine ⟨fun g40 => ?_, fun g40 => ?_⟩
                                                                                  · exact rfl
                                                                                  · have k40 : ¬ ((1000000 * q29 : Int) = m30) := Zeqlf h71 h72 g40
                                                                                    clear g40
                                                                                    omega
                                                                              · have k38 : ¬ ((X26 : Int) ≤ 9223372036854775807) := Zleqf h67 (Zc 9223372036854775807) g38
                                                                                clear g38
                                                                                omega
                                                                            · have k37 : ¬ (((-9223372036854775807) : Int) ≤ X26) := Zleqf (Zc (-9223372036854775807)) h67 g37
                                                                              clear g37
                                                                              omega
                                                                          · have k36 : ¬ ((q21 : Int) ≤ 1000000000) := Zleqf h66 (Zc 1000000000) g36
                                                                            clear g36
                                                                            omega
                                                                        · have k35 : ¬ (((-1000000000) : Int) ≤ q21) := Zleqf (Zc (-1000000000)) h66 g35
                                                                          clear g35
                                                                          omega
                                                                      · have k34 : ¬ ((1000 * x5 : Int) = 1000 * x5) := Zeqlf h90 h63 g34
                                                                        clear g34
                                                                        omega
                                                                    · have k33 : ¬ (((-1000) * x5 : Int) = (-1000) * x5) := Zeqlf h85 h62 g33
                                                                      clear g33
                                                                      omega
                                                                  · have k32 : ¬ ((2 * q11 : Int) = 2 * r2 + 2000) := Zeqlf h61 h57 g32
                                                                    clear g32
                                                                    omega
                                                                · have k31 : ¬ ((4 * r2 + 4000 : Int) = 4 * r2 + 4000) := Zeqlf h58 h3 g31
                                                                  clear g31
                                                                  omega
                                                              · have k30 : ¬ ((q15 : Int) = 1) := Zeqlf h56 (Zc 1) g30
                                                                clear g30
                                                                omega
                                                            · have k29 : ¬ (((-1000) * x5 : Int) ≤ 1000 * x5) := Zleqf h85 h90 g29
                                                              clear g29
                                                              omega
                                                          · have k28 : ¬ ((0 : Int) ≤ (-1) * r10 + 1) := Zleqf (Zc 0) h80 g28
                                                            clear g28
                                                            omega
                                                        · have k27 : ¬ ((1 : Int) ≤ r10 + 1) := Zleqf (Zc 1) h19 g27
                                                          clear g27
                                                          omega
                                                      · have k26 : ¬ ((u14 : Int) ≤ 200000) := Zleqf h35 (Zc 200000) g26
                                                        clear g26
                                                        omega
                                                    · have k25 : ¬ ((u13 : Int) ≤ u14) := Zleqf h34 h35 g25
                                                      clear g25
                                                      omega
                                                  · have k24 : ¬ (((-200000) : Int) ≤ u13) := Zleqf (Zc (-200000)) h34 g24
                                                    clear g24
                                                    omega
                                                · have k23 : ¬ ((q11 + 4 * r2 + 4000 : Int) ≤ 10000000) := Zleqf h79 (Zc 10000000) g23
                                                  clear g23
                                                  omega
                                              · have k22 : ¬ (((-1) * q11 + 4 * r2 + 4000 : Int) ≤ q11 + 4 * r2 + 4000) := Zleqf h78 h79 g22
                                                clear g22
                                                omega
                                            · have k21 : ¬ ((q11 : Int) ≤ (-1) * q11 + 4 * r2 + 4000) := Zleqf h29 h78 g21
                                              clear g21
                                              omega
                                          · have k20 : ¬ (((-1) * q11 : Int) ≤ q11) := Zleqf h28 h29 g20
                                            clear g20
                                            omega
                                        · have k19 : ¬ (((-10000000) : Int) ≤ (-1) * q11) := Zleqf (Zc (-10000000)) h28 g19
                                          clear g19
                                          omega
                                      · have k18 : ¬ ((q11 + 4 * r2 + (-1) * x5 + 4000 : Int) ≤ 10000000) := Zleqf h77 (Zc 10000000) g18
                                        clear g18
                                        omega
                                    · have k17 : ¬ (((-1) * q11 + 4 * r2 + x5 + 4000 : Int) ≤ q11 + 4 * r2 + (-1) * x5 + 4000) := Zleqf h75 h77 g17
                                      clear g17
                                      omega
                                  · have k16 : ¬ ((q11 + (-1) * x5 : Int) ≤ (-1) * q11 + 4 * r2 + x5 + 4000) := Zleqf h27 h75 g16
                                    clear g16
                                    omega
                                · have k15 : ¬ (((-1) * q11 + x5 : Int) ≤ q11 + (-1) * x5) := Zleqf h25 h27 g15
                                  clear g15
                                  omega
                              · have k14 : ¬ (((-10000000) : Int) ≤ (-1) * q11 + x5) := Zleqf (Zc (-10000000)) h25 g14
                                clear g14
                                omega
                            · have k13 : ¬ ((r10 + 1 : Int) ≤ 2) := Zleqf h19 (Zc 2) g13
                              clear g13
                              refine ⟨fun g14 => ?_, fun g14 => ?_⟩
                              · have k14 : ((r10 + 1 : Int) ≤ 3) := Zleqt h19 (Zc 3) g14
                                clear g14
                                refine ⟨fun g15 => ?_, fun g15 => ?_⟩
                                · clear g15
                                  refine ⟨fun g16 => ?_, fun g16 => ?_⟩
                                  · clear g16
                                    refine ⟨fun g17 => ?_, fun g17 => ?_⟩
                                    · clear g17
                                      refine ⟨fun g18 => ?_, fun g18 => ?_⟩
                                      · clear g18
                                        refine ⟨fun g19 => ?_, fun g19 => ?_⟩
                                        · clear g19
                                          refine ⟨fun g20 => ?_, fun g20 => ?_⟩
                                          · clear g20
                                            refine ⟨fun g21 => ?_, fun g21 => ?_⟩
                                            · clear g21
                                              refine ⟨fun g22 => ?_, fun g22 => ?_⟩
                                              · clear g22
                                                refine ⟨fun g23 => ?_, fun g23 => ?_⟩
                                                · clear g23
                                                  refine ⟨fun g24 => ?_, fun g24 => ?_⟩
                                                  · clear g24
                                                    refine ⟨fun g25 => ?_, fun g25 => ?_⟩
                                                    · clear g25
                                                      refine ⟨fun g26 => ?_, fun g26 => ?_⟩
                                                      · clear g26
                                                        refine ⟨fun g27 => ?_, fun g27 => ?_⟩
                                                        · clear g27
                                                          refine ⟨fun g28 => ?_, fun g28 => ?_⟩
                                                          · clear g28
                                                            refine ⟨fun g29 => ?_, fun g29 => ?_⟩
                                                            · clear g29
                                                              refine ⟨fun g30 => ?_, fun g30 => ?_⟩
                                                              · clear g30
                                                                refine ⟨fun g31 => ?_, fun g31 => ?_⟩
                                                                · clear g31
                                                                  refine ⟨fun g32 => ?_, fun g32 => ?_⟩
                                                                  · clear g32
                                                                    refine ⟨fun g33 => ?_, fun g33 => ?_⟩
                                                                    · clear g33
                                                                      refine ⟨fun g34 => ?_, fun g34 => ?_⟩
                                                                      · clear g34
                                                                        refine ⟨fun g35 => ?_, fun g35 => ?_⟩
                                                                        · clear g35
                                                                          refine ⟨fun g36 => ?_, fun g36 => ?_⟩
                                                                          · clear g36
                                                                            refine ⟨fun g37 => ?_, fun g37 => ?_⟩
                                                                            · clear g37
                                                                              refine ⟨fun g38 => ?_, fun g38 => ?_⟩
                                                                              · clear g38
                                                                                refine ⟨fun g39 => ?_, fun g39 => ?_⟩
                                                                                · clear g39
                                                                                  refine ⟨fun g40 => ?_, fun g40 => ?_⟩
                                                                                  · clear g40
                                                                                    refine ⟨fun g41 => ?_, fun g41 => ?_⟩
                                                                                    · clear g41
                                                                                      refine ⟨fun g42 => ?_, fun g42 => ?_⟩
                                                                                      · clear g42
                                                                                        refine ⟨fun g43 => ?_, fun g43 => ?_⟩
                                                                                        · clear g43
                                                                                          refine ⟨fun g44 => ?_, fun g44 => ?_⟩
                                                                                          · have k44 : ((q28 : Int) ≤ 0) := Zleqt h69 (Zc 0) g44
                                                                                            clear g44
                                                                                            omega
                                                                                          · clear g44
                                                                                            refine ⟨fun g45 => ?_, fun g45 => ?_⟩
                                                                                            · exact rfl
                                                                                            · have k45 : ¬ ((1000000 * q29 : Int) = m30) := Zeqlf h71 h72 g45
                                                                                              clear g45
                                                                                              omega
                                                                                        · have k43 : ¬ ((X26 : Int) ≤ 9223372036854775807) := Zleqf h67 (Zc 9223372036854775807) g43
                                                                                          clear g43
                                                                                          omega
                                                                                      · have k42 : ¬ (((-9223372036854775807) : Int) ≤ X26) := Zleqf (Zc (-9223372036854775807)) h67 g42
                                                                                        clear g42
                                                                                        omega
                                                                                    · have k41 : ¬ ((q21 : Int) ≤ 1000000000) := Zleqf h66 (Zc 1000000000) g41
                                                                                      clear g41
                                                                                      omega
                                                                                  · have k40 : ¬ (((-1000000000) : Int) ≤ q21) := Zleqf (Zc (-1000000000)) h66 g40
                                                                                    clear g40
                                                                                    omega
                                                                                · have k39 : ¬ ((1000 * x5 : Int) = 1000 * x5) := Zeqlf h108 h63 g39
                                                                                  clear g39
                                                                                  omega
                                                                              · have k38 : ¬ (((-1000) * x5 : Int) = (-1000) * x5) := Zeqlf h103 h62 g38
                                                                                clear g38
                                                                                omega
                                                                            · have k37 : ¬ ((2 * q11 : Int) = 2 * r2 + 2000) := Zeqlf h61 h57 g37
                                                                              clear g37
                                                                              omega
                                                                          · have k36 : ¬ ((4 * r2 + 4000 : Int) = 4 * r2 + 4000) := Zeqlf h58 h3 g36
                                                                            clear g36
                                                                            omega
                                                                        · have k35 : ¬ ((q15 : Int) = 1) := Zeqlf h56 (Zc 1) g35
                                                                          clear g35
                                                                          omega
                                                                      · have k34 : ¬ (((-1000) * x5 : Int) ≤ 1000 * x5) := Zleqf h103 h108 g34
                                                                        clear g34
                                                                        omega
                                                                    · have k33 : ¬ ((0 : Int) ≤ (-1) * r10 + 2) := Zleqf (Zc 0) h98 g33
                                                                      clear g33
                                                                      omega
                                                                  · have k32 : ¬ ((1 : Int) ≤ r10 + 1) := Zleqf (Zc 1) h19 g32
                                                                    clear g32
                                                                    omega
                                                                · have k31 : ¬ ((u14 : Int) ≤ 200000) := Zleqf h35 (Zc 200000) g31
                                                                  clear g31
                                                                  omega
                                                              · have k30 : ¬ ((u13 : Int) ≤ u14) := Zleqf h34 h35 g30
                                                                clear g30
                                                                omega
                                                            · have k29 : ¬ (((-200000) : Int) ≤ u13) := Zleqf (Zc (-200000)) h34 g29
                                                              clear g29
                                                              omega
                                                          · have k28 : ¬ ((q11 + 8 * r2 + 8000 : Int) ≤ 10000000) := Zleqf h97 (Zc 10000000) g28
                                                            clear g28
                                                            omega
                                                        · have k27 : ¬ (((-1) * q11 + 8 * r2 + 8000 : Int) ≤ q11 + 8 * r2 + 8000) := Zleqf h96 h97 g27
                                                          clear g27
                                                          omega
                                                      · have k26 : ¬ ((q11 + 4 * r2 + 4000 : Int) ≤ (-1) * q11 + 8 * r2 + 8000) := Zleqf h79 h96 g26
                                                        clear g26
                                                        omega
                                                    · have k25 : ¬ (((-1) * q11 + 4 * r2 + 4000 : Int) ≤ q11 + 4 * r2 + 4000) := Zleqf h78 h79 g25
                                                      clear g25
                                                      omega
                                                  · have k24 : ¬ ((q11 : Int) ≤ (-1) * q11 + 4 * r2 + 4000) := Zleqf h29 h78 g24
                                                    clear g24
                                                    omega
                                                · have k23 : ¬ (((-1) * q11 : Int) ≤ q11) := Zleqf h28 h29 g23
                                                  clear g23
                                                  omega
                                              · have k22 : ¬ (((-10000000) : Int) ≤ (-1) * q11) := Zleqf (Zc (-10000000)) h28 g22
                                                clear g22
                                                omega
                                            · have k21 : ¬ ((q11 + 8 * r2 + (-1) * x5 + 8000 : Int) ≤ 10000000) := Zleqf h95 (Zc 10000000) g21
                                              clear g21
                                              omega
                                          · have k20 : ¬ (((-1) * q11 + 8 * r2 + x5 + 8000 : Int) ≤ q11 + 8 * r2 + (-1) * x5 + 8000) := Zleqf h93 h95 g20
                                            clear g20
                                            omega
                                        · have k19 : ¬ ((q11 + 4 * r2 + (-1) * x5 + 4000 : Int) ≤ (-1) * q11 + 8 * r2 + x5 + 8000) := Zleqf h77 h93 g19
                                          clear g19
                                          omega
                                      · have k18 : ¬ (((-1) * q11 + 4 * r2 + x5 + 4000 : Int) ≤ q11 + 4 * r2 + (-1) * x5 + 4000) := Zleqf h75 h77 g18
                                        clear g18
                                        omega
                                    · have k17 : ¬ ((q11 + (-1) * x5 : Int) ≤ (-1) * q11 + 4 * r2 + x5 + 4000) := Zleqf h27 h75 g17
                                      clear g17
                                      omega
                                  · have k16 : ¬ (((-1) * q11 + x5 : Int) ≤ q11 + (-1) * x5) := Zleqf h25 h27 g16
                                    clear g16
                                    omega
                                · have k15 : ¬ (((-10000000) : Int) ≤ (-1) * q11 + x5) := Zleqf (Zc (-10000000)) h25 g15
                                  clear g15
                                  omega
                              · have k14 : ¬ ((r10 + 1 : Int) ≤ 3) := Zleqf h19 (Zc 3) g14
                                clear g14
                                refine ⟨fun g15 => ?_, fun g15 => ?_⟩
                                · clear g15
                                  refine ⟨fun g16 => ?_, fun g16 => ?_⟩
                                  · clear g16
                                    refine ⟨fun g17 => ?_, fun g17 => ?_⟩
                                    · clear g17
                                      refine ⟨fun g18 => ?_, fun g18 => ?_⟩
                                      · clear g18
                                        refine ⟨fun g19 => ?_, fun g19 => ?_⟩
                                        · clear g19
                                          refine ⟨fun g20 => ?_, fun g20 => ?_⟩
                                          · clear g20
                                            refine ⟨fun g21 => ?_, fun g21 => ?_⟩
                                            · clear g21
                                              refine ⟨fun g22 => ?_, fun g22 => ?_⟩
                                              · clear g22
                                                refine ⟨fun g23 => ?_, fun g23 => ?_⟩
                                                · clear g23
                                                  refine ⟨fun g24 => ?_, fun g24 => ?_⟩
                                                  · clear g24
                                                    refine ⟨fun g25 => ?_, fun g25 => ?_⟩
                                                    · clear g25
                                                      refine ⟨fun g26 => ?_, fun g26 => ?_⟩
                                                      · clear g26
                                                        refine ⟨fun g27 => ?_, fun g27 => ?_⟩
                                                        · clear g27
                                                          refine ⟨fun g28 => ?_, fun g28 => ?_⟩
                                                          · clear g28
                                                            refine ⟨fun g29 => ?_, fun g29 => ?_⟩
                                                            · clear g29
                                                              refine ⟨fun g30 => ?_, fun g30 => ?_⟩
                                                              · clear g30
                                                                refine ⟨fun g31 => ?_, fun g31 => ?_⟩
                                                                · clear g31
                                                                  refine ⟨fun g32 => ?_, fun g32 => ?_⟩
                                                                  · clear g32
                                                                    refine ⟨fun g33 => ?_, fun g33 => ?_⟩
                                                                    · clear g33
                                                                      refine ⟨fun g34 => ?_, fun g34 => ?_⟩
                                                                      · clear g34
                                                                        refine ⟨fun g35 => ?_, fun g35 => ?_⟩
                                                                        · clear g35
                                                                          refine ⟨fun g36 => ?_, fun g36 => ?_⟩
                                                                          · clear g36
                                                                            refine ⟨fun g37 => ?_, fun g37 => ?_⟩
                                                                            · clear g37
                                                                              refine ⟨fun g38 => ?_, fun g38 => ?_⟩
                                                                              · clear g38
                                                                                refine ⟨fun g39 => ?_, fun g39 => ?_⟩
                                                                                · clear g39
                                                                                  refine ⟨fun g40 => ?_, fun g40 => ?_⟩
                                                                                  · clear g40
                                                                                    refine ⟨fun g41 => ?_, fun g41 => ?_⟩
                                                                                    · clear g41
                                                                                      refine ⟨fun g42 => ?_, fun g42 => ?_⟩
                                                                                      · clear g42
                                                                                        refine ⟨fun g43 => ?_, fun g43 => ?_⟩
                                                                                        · clear g43
                                                                                          refine ⟨fun g44 => ?_, fun g44 => ?_⟩
                                                                                          · clear g44
                                                                                            refine ⟨fun g45 => ?_, fun g45 => ?_⟩
                                                                                            · clear g45
                                                                                              refine ⟨fun g46 => ?_, fun g46 => ?_⟩
                                                                                              · clear g46
                                                                                                refine ⟨fun g47 => ?_, fun g47 => ?_⟩
                                                                                                · clear g47
                                                                                                  refine ⟨fun g48 => ?_, fun g48 => ?_⟩
                                                                                                  · clear g48
                                                                                                    refine ⟨fun g49 => ?_, fun g49 => ?_⟩
                                                                                                    · have k49 : ((q28 : Int) ≤ 0) := Zleqt h69 (Zc 0) g49
                                                                                                      clear g49
                                                                                                      omega
                                                                                                    · clear g49
                                                                                                      refine ⟨fun g50 => ?_, fun g50 => ?_⟩
                                                                                                      · exact rfl
                                                                                                      · have k50 : ¬ ((1000000 * q29 : Int) = m30) := Zeqlf h71 h72 g50
                                                                                                        clear g50
                                                                                                        omega
                                                                                                  · have k48 : ¬ ((X26 : Int) ≤ 9223372036854775807) := Zleqf h67 (Zc 9223372036854775807) g48
                                                                                                    clear g48
                                                                                                    omega
                                                                                                · have k47 : ¬ (((-9223372036854775807) : Int) ≤ X26) := Zleqf (Zc (-9223372036854775807)) h67 g47
                                                                                                  clear g47
                                                                                                  omega
                                                                                              · have k46 : ¬ ((q21 : Int) ≤ 1000000000) := Zleqf h66 (Zc 1000000000) g46
                                                                                                clear g46
                                                                                                omega
                                                                                            · have k45 : ¬ (((-1000000000) : Int) ≤ q21) := Zleqf (Zc (-1000000000)) h66 g45
                                                                                              clear g45
                                                                                              omega
                                                                                          · have k44 : ¬ ((1000 * x5 : Int) = 1000 * x5) := Zeqlf h126 h63 g44
                                                                                            clear g44
                                                                                            omega
                                                                                        · have k43 : ¬ (((-1000) * x5 : Int) = (-1000) * x5) := Zeqlf h121 h62 g43
                                                                                          clear g43
                                                                                          omega
                                                                                      · have k42 : ¬ ((2 * q11 : Int) = 2 * r2 + 2000) := Zeqlf h61 h57 g42
                                                                                        clear g42
                                                                                        omega
                                                                                    · have k41 : ¬ ((4 * r2 + 4000 : Int) = 4 * r2 + 4000) := Zeqlf h58 h3 g41
                                                                                      clear g41
                                                                                      omega
                                                                                  · have k40 : ¬ ((q15 : Int) = 1) := Zeqlf h56 (Zc 1) g40
                                                                                    clear g40
                                                                                    omega
                                                                                · have k39 : ¬ (((-1000) * x5 : Int) ≤ 1000 * x5) := Zleqf h121 h126 g39
                                                                                  clear g39
                                                                                  omega
                                                                              · have k38 : ¬ ((0 : Int) ≤ (-1) * r10 + 3) := Zleqf (Zc 0) h116 g38
                                                                                clear g38
                                                                                omega
                                                                            · have k37 : ¬ ((1 : Int) ≤ r10 + 1) := Zleqf (Zc 1) h19 g37
                                                                              clear g37
                                                                              omega
                                                                          · have k36 : ¬ ((u14 : Int) ≤ 200000) := Zleqf h35 (Zc 200000) g36
                                                                            clear g36
                                                                            omega
                                                                        · have k35 : ¬ ((u13 : Int) ≤ u14) := Zleqf h34 h35 g35
                                                                          clear g35
                                                                          omega
                                                                      · have k34 : ¬ (((-200000) : Int) ≤ u13) := Zleqf (Zc (-200000)) h34 g34
                                                                        clear g34
                                                                        omega
                                                                    · have k33 : ¬ ((q11 + 12 * r2 + 12000 : Int) ≤ 10000000) := Zleqf h115 (Zc 10000000) g33
                                                                      clear g33
                                                                      omega
                                                                  · have k32 : ¬ (((-1) * q11 + 12 * r2 + 12000 : Int) ≤ q11 + 12 * r2 + 12000) := Zleqf h114 h115 g32
                                                                    clear g32
                                                                    omega
                                                                · have k31 : ¬ ((q11 + 8 * r2 + 8000 : Int) ≤ (-1) * q11 + 12 * r2 + 12000) := Zleqf h97 h114 g31
                                                                  clear g31
                                                                  omega
                                                              · have k30 : ¬ (((-1) * q11 + 8 * r2 + 8000 : Int) ≤ q11 + 8 * r2 + 8000) := Zleqf h96 h97 g30
                                                                clear g30
                                                                omega
                                                            · have k29 : ¬ ((q11 + 4 * r2 + 4000 : Int) ≤ (-1) * q11 + 8 * r2 + 8000) := Zleqf h79 h96 g29
                                                              clear g29
                                                              omega
                                                          · have k28 : ¬ (((-1) * q11 + 4 * r2 + 4000 : Int) ≤ q11 + 4 * r2 + 4000) := Zleqf h78 h79 g28
                                                            clear g28
                                                            omega
                                                        · have k27 : ¬ ((q11 : Int) ≤ (-1) * q11 + 4 * r2 + 4000) := Zleqf h29 h78 g27
                                                          clear g27
                                                          omega
                                                      · have k26 : ¬ (((-1) * q11 : Int) ≤ q11) := Zleqf h28 h29 g26
                                                        clear g26
                                                        omega
                                                    · have k25 : ¬ (((-10000000) : Int) ≤ (-1) * q11) := Zleqf (Zc (-10000000)) h28 g25
                                                      clear g25
                                                      omega
                                                  · have k24 : ¬ ((q11 + 12 * r2 + (-1) * x5 + 12000 : Int) ≤ 10000000) := Zleqf h113 (Zc 10000000) g24
                                                    clear g24
                                                    omega
                                                · have k23 : ¬ (((-1) * q11 + 12 * r2 + x5 + 12000 : Int) ≤ q11 + 12 * r2 + (-1) * x5 + 12000) := Zleqf h111 h113 g23
                                                  clear g23
                                                  omega
                                              · have k22 : ¬ ((q11 + 8 * r2 + (-1) * x5 + 8000 : Int) ≤ (-1) * q11 + 12 * r2 + x5 + 12000) := Zleqf h95 h111 g22
                                                clear g22
                                                omega
                                            · have k21 : ¬ (((-1) * q11 + 8 * r2 + x5 + 8000 : Int) ≤ q11 + 8 * r2 + (-1) * x5 + 8000) := Zleqf h93 h95 g21
                                              clear g21
                                              omega
                                          · have k20 : ¬ ((q11 + 4 * r2 + (-1) * x5 + 4000 : Int) ≤ (-1) * q11 + 8 * r2 + x5 + 8000) := Zleqf h77 h93 g20
                                            clear g20
                                            omega
                                        · have k19 : ¬ (((-1) * q11 + 4 * r2 + x5 + 4000 : Int) ≤ q11 + 4 * r2 + (-1) * x5 + 4000) := Zleqf h75 h77 g19
                                          clear g19
                                          omega
                                      · have k18 : ¬ ((q11 + (-1) * x5 : Int) ≤ (-1) * q11 + 4 * r2 + x5 + 4000) := Zleqf h27 h75 g18
                                        clear g18
                                        omega
                                    · have k17 : ¬ (((-1) * q11 + x5 : Int) ≤ q11 + (-1) * x5) := Zleqf h25 h27 g17
                                      clear g17
                                      omega
                                  · have k16 : ¬ (((-10000000) : Int) ≤ (-1) * q11 + x5) := Zleqf (Zc (-10000000)) h25 g16
                                    clear g16
                                    omega
                                · have k15 : ¬ ((r10 + 1 : Int) ≤ 4) := Zleqf h19 (Zc 4) g15
                                  clear g15
                                  omega
                      · have k10 : ¬ ((2000 * r2 + 2000000 : Int) ≤ 9223372036854775807) := Zleqf h16 (Zc 9223372036854775807) g10
                        clear g10
                        omega
                    · have k9 : ¬ (((-9223372036854775807) : Int) ≤ 2000 * r2 + 2000000) := Zleqf (Zc (-9223372036854775807)) h16 g9
                      clear g9
                      omega
                  · have k8 : ¬ ((900 * r4 + 900 * r6 + 1800 : Int) ≤ 2000 * r2 + 2000000) := Zleqf h13 h14 g8
                    clear g8
                    omega
                · have k7 : ¬ ((r8 + 1 : Int) ≤ 8) := Zleqf h11 (Zc 8) g7
                  clear g7
                  omega
              · have k6 : ¬ ((1 : Int) ≤ r8 + 1) := Zleqf (Zc 1) h11 g6
                clear g6
                omega
            · have k5 : ¬ ((r6 + 1 : Int) ≤ 3000) := Zleqf h9 (Zc 3000) g5
              clear g5
              omega
          · have k4 : ¬ ((0 : Int) ≤ r6 + 1) := Zleqf (Zc 0) h9 g4
            clear g4
            omega
        · have k3 : ¬ ((r4 + 1 : Int) ≤ 3000) := Zleqf h6 (Zc 3000) g3
          clear g3
          omega
      · have k2 : ¬ ((0 : Int) ≤ r4 + 1) := Zleqf (Zc 0) h6 g2
        clear g2
        omega
    · have k1 : ¬ ((4 * r2 + 4000 : Int) ≤ 200000) := Zleqf h3 (Zc 200000) g1
      clear g1
      omega
  · have k0 : ¬ ((100 : Int) ≤ 4 * r2 + 4000) := Zleqf (Zc 100) h3 g0
    clear g0
    omega
end Go.Proofs.Ytkajflgejninhaa.Cx
