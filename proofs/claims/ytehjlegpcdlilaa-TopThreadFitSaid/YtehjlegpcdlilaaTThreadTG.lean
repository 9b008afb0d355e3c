/- TopThreadFit: the tests of the law and their arithmetic. Made by tools/gen_tttg.py. -/
import Derived.Test.YtehjlegpcdlilaaTThreadT
set_option linter.unusedSimpArgs false
set_option linter.unusedVariables false
set_option maxRecDepth 100000
set_option maxHeartbeats 4000000
namespace Go.Proofs.Ytehjlegpcdlilaa.Cx
open Go Go.RowKit

section
variable {ρ : Env}
theorem Ztq {X Y : IE} {x y q : Int} (ha : Is ρ X x) (hb : Is ρ Y y) (hq : x.tdiv y = q) (h1 : In64 q) : Is ρ (IE.bin .quo .i64 X Y) q := by
  refine ⟨?_⟩
  show IntKind.i64.wrap ((X.Z ρ).tdiv (Y.Z ρ)) = q
  rw [ha.out, hb.out, hq]; exact wrap_id h1.1 h1.2
theorem Ztr {k : IntKind} {X Y : IE} {x y q : Int} (ha : Is ρ X x) (hb : Is ρ Y y) (hq : x.tmod y = q) : Is ρ (IE.bin .rem k X Y) q := by
  refine ⟨?_⟩
  show (X.Z ρ).tmod (Y.Z ρ) = q
  rw [ha.out, hb.out, hq]
end
theorem mul_bd2 {x y a b : Int} (h1 : -a ≤ x) (h2 : x ≤ a) (h3 : -b ≤ y) (h4 : y ≤ b) (ha : 0 ≤ a) : -(a * b) ≤ x * y ∧ x * y ≤ a * b := by
  rcases Int.le_total 0 y with q | q
  · exact mul_bd h1 h2 q h4 ha
  · have := mul_bd (x := x) (y := -y) (a := a) (b := b) h1 h2 (by omega) (by omega) ha
    rw [Int.mul_neg] at this
    omega
/-- A quotient rounded toward 0 and its remainder. -/
theorem tqr_ex (x y M : Int) (hy : 1 ≤ y) (h1 : -M ≤ x) (h2 : x ≤ M) : ∃ q r : Int, Hd (x.tdiv y = q) ∧ Hd (x.tmod y = r) ∧ Hd (q * y + r = x) ∧ -M ≤ q ∧ q ≤ M ∧ (0 ≤ x → 0 ≤ q ∧ 0 ≤ r) ∧ (x ≤ 0 → q ≤ 0 ∧ r ≤ 0) ∧ (1 ≤ x → r ≤ 0 → 1 ≤ q) ∧ -M ≤ r ∧ r ≤ M ∧ (0 ≤ x → r ≤ y - 1) := by
  refine ⟨_, _, ⟨rfl⟩, ⟨rfl⟩, ⟨by rw [Int.mul_comm]; exact Int.mul_tdiv_add_tmod x y⟩, ?_⟩
  have e := Int.mul_tdiv_add_tmod x y
  rcases Int.le_total 0 x with h | h
  · have a := rem_bd h h2 hy
    have b := quo_bd h h2 (by omega : 0 ≤ y)
    rw [tdiv_pos h, tmod_pos h] at *
    refine ⟨by omega, by omega, fun _ => ⟨by omega, by omega⟩, fun h' => ?_, fun h' hr => ?_, by omega, by omega, fun _ => by omega⟩
    · obtain rfl : x = 0 := by omega
      simp
    · rcases Int.lt_or_le 0 (x / y) with k | k
      · omega
      · have : x / y = 0 := by omega
        rw [this, Int.mul_zero] at e
        omega
  · have a := rem_bd (x := -x) (h := M) (by omega) (by omega) hy
    have b := quo_bd (x := -x) (h := M) (by omega) (by omega) (by omega : 0 ≤ y)
    rw [tdiv_neg h, tmod_neg h] at *
    refine ⟨by omega, by omega, fun h' => ?_, fun _ => ⟨by omega, by omega⟩, fun h' => by omega, by omega, by omega, fun h' => ?_⟩
    · obtain rfl : x = 0 := by omega
      simp
    · omega
theorem td_ex (x M : Int) (h1 : -M ≤ x) (h2 : x ≤ M) : ∃ z : Int, Hd (x.tdiv 1000 = z) ∧ -M ≤ z ∧ z ≤ M ∧ (0 ≤ x → 1000 * z ≤ x ∧ x ≤ 1000 * z + 999) := by
  refine ⟨_, ⟨rfl⟩, ?_⟩
  rcases Int.le_total 0 x with h | h
  · rw [tdiv_pos h]; omega
  · rw [tdiv_neg h]; omega

theorem tt_goal {ρ : Env} {x0 x1 x2 x3 x4 x5 x6 x7 : Int} (e0 : Is ρ (.v 0) x0) (r0 : 0 ≤ x0 ∧ x0 ≤ 65535) (e1 : Is ρ (.v 1) x1) (r1 : 0 ≤ x1 ∧ x1 ≤ 65535) (e2 : Is ρ (.v 2) x2) (r2 : 0 ≤ x2 ∧ x2 ≤ 65535) (e3 : Is ρ (.v 3) x3) (r3 : -128 ≤ x3 ∧ x3 ≤ 127) (e4 : Is ρ (.v 4) x4) (r4 : -128 ≤ x4 ∧ x4 ≤ 127) (e5 : Is ρ (.v 5) x5) (r5 : 0 ≤ x5 ∧ x5 ≤ 65535) (e6 : Is ρ (.v 6) x6) (r6 : 0 ≤ x6 ∧ x6 ≤ 65535) (e7 : Is ρ (.v 7) x7) (r7 : 0 ≤ x7 ∧ x7 ≤ 255) : ttTree.goal ρ := by
  have h0 : Is ρ tt0 (x0) := Zconv e0 (by omega)
  obtain ⟨q1, q1e⟩ : ∃ q : Int, Hd ((x0) / 5000 = q) := ⟨_, ⟨rfl⟩⟩
  obtain ⟨r2, r2e⟩ : ∃ q : Int, Hd ((x0) % 5000 = q) := ⟨_, ⟨rfl⟩⟩
  have q11 : x0 = 5000 * q1 + r2 := by have i1 := q1e.out; have i2 := r2e.out; omega
  have q12 : 0 ≤ r2 ∧ r2 ≤ 4999 ∧ 0 ≤ q1 ∧ q1 ≤ 13 := by have i1 := q1e.out; have i2 := r2e.out; omega
  have h1 : Is ρ tt1 (r2) := Zremp h0 (Zc 5000) (by omega) r2e.out
  have h2 : Is ρ tt2 (r2 + 1000) := Zadd (Zc 1000) h1 (by omega) (by omega)
  have h3 : Is ρ tt3 (4 * r2 + 4000) := Zmul (Zc 4) h2 (by omega) (by omega)
  have h4 : Is ρ tt4 (x1) := Zconv e1 (by omega)
  obtain ⟨q3, q3e⟩ : ∃ q : Int, Hd ((x1) / 900 = q) := ⟨_, ⟨rfl⟩⟩
  obtain ⟨r4, r4e⟩ : ∃ q : Int, Hd ((x1) % 900 = q) := ⟨_, ⟨rfl⟩⟩
  have q31 : x1 = 900 * q3 + r4 := by have i1 := q3e.out; have i2 := r4e.out; omega
  have q32 : 0 ≤ r4 ∧ r4 ≤ 899 ∧ 0 ≤ q3 ∧ q3 ≤ 72 := by have i1 := q3e.out; have i2 := r4e.out; omega
  have h5 : Is ρ tt5 (r4) := Zremp h4 (Zc 900) (by omega) r4e.out
  have h6 : Is ρ tt6 (r4 + 1) := Zadd (Zc 1) h5 (by omega) (by omega)
  have h7 : Is ρ tt7 (x2) := Zconv e2 (by omega)
  obtain ⟨q5, q5e⟩ : ∃ q : Int, Hd ((x2) / 900 = q) := ⟨_, ⟨rfl⟩⟩
  obtain ⟨r6, r6e⟩ : ∃ q : Int, Hd ((x2) % 900 = q) := ⟨_, ⟨rfl⟩⟩
  have q51 : x2 = 900 * q5 + r6 := by have i1 := q5e.out; have i2 := r6e.out; omega
  have q52 : 0 ≤ r6 ∧ r6 ≤ 899 ∧ 0 ≤ q5 ∧ q5 ≤ 72 := by have i1 := q5e.out; have i2 := r6e.out; omega
  have h8 : Is ρ tt8 (r6) := Zremp h7 (Zc 900) (by omega) r6e.out
  have h9 : Is ρ tt9 (r6 + 1) := Zadd (Zc 1) h8 (by omega) (by omega)
  obtain ⟨q7, q7e⟩ : ∃ q : Int, Hd ((x0) / 3 = q) := ⟨_, ⟨rfl⟩⟩
  obtain ⟨r8, r8e⟩ : ∃ q : Int, Hd ((x0) % 3 = q) := ⟨_, ⟨rfl⟩⟩
  have q71 : x0 = 3 * q7 + r8 := by have i1 := q7e.out; have i2 := r8e.out; omega
  have q72 : 0 ≤ r8 ∧ r8 ≤ 2 ∧ 0 ≤ q7 ∧ q7 ≤ 21845 := by have i1 := q7e.out; have i2 := r8e.out; omega
  have h10 : Is ρ tt10 (r8) := Zremp h0 (Zc 3) (by omega) r8e.out
  have h11 : Is ρ tt11 (r8 + 1) := Zadd (Zc 1) h10 (by omega) (by omega)
  have h12 : Is ρ tt12 (r4 + r6 + 2) := Zadd h6 h9 (by omega) (by omega)
  have h13 : Is ρ tt13 (900 * r4 + 900 * r6 + 1800) := Zmul (Zc 900) h12 (by omega) (by omega)
  have h14 : Is ρ tt14 (2000 * r2 + 2000000) := Zmul (Zc 500) h3 (by omega) (by omega)
  have h15 : Is ρ tt15 (x5) := Zconv e5 (by omega)
  obtain ⟨q9, q9e⟩ : ∃ q : Int, Hd ((x5) / 900 = q) := ⟨_, ⟨rfl⟩⟩
  obtain ⟨r10, r10e⟩ : ∃ q : Int, Hd ((x5) % 900 = q) := ⟨_, ⟨rfl⟩⟩
  have q91 : x5 = 900 * q9 + r10 := by have i1 := q9e.out; have i2 := r10e.out; omega
  have q92 : 0 ≤ r10 ∧ r10 ≤ 899 ∧ 0 ≤ q9 ∧ q9 ≤ 72 := by have i1 := q9e.out; have i2 := r10e.out; omega
  have h16 : Is ρ tt16 (r10) := Zremp h15 (Zc 900) (by omega) r10e.out
  have h17 : Is ρ tt17 (r10 + 1) := Zadd (Zc 1) h16 (by omega) (by omega)
  have h18 : Is ρ tt18 (x6) := Zconv e6 (by omega)
  obtain ⟨q11, q11e⟩ : ∃ q : Int, Hd ((x6) / 900 = q) := ⟨_, ⟨rfl⟩⟩
  obtain ⟨r12, r12e⟩ : ∃ q : Int, Hd ((x6) % 900 = q) := ⟨_, ⟨rfl⟩⟩
  have q111 : x6 = 900 * q11 + r12 := by have i1 := q11e.out; have i2 := r12e.out; omega
  have q112 : 0 ≤ r12 ∧ r12 ≤ 899 ∧ 0 ≤ q11 ∧ q11 ≤ 72 := by have i1 := q11e.out; have i2 := r12e.out; omega
  have h19 : Is ρ tt19 (r12) := Zremp h18 (Zc 900) (by omega) r12e.out
  have h20 : Is ρ tt20 (r12 + 1) := Zadd (Zc 1) h19 (by omega) (by omega)
  have h21 : Is ρ tt21 (r10 + r12 + 2) := Zadd h17 h20 (by omega) (by omega)
  have h22 : Is ρ tt22 (900 * r10 + 900 * r12 + 1800) := Zmul (Zc 900) h21 (by omega) (by omega)
  have h23 : Is ρ tt23 (x3) := Zconv e3 (by omega)
  have h24 : Is ρ tt24 (7 * x3) := Zmul (Zc 7) h23 (by omega) (by omega)
  have h25 : Is ρ tt25 (x4) := Zconv e4 (by omega)
  have h26 : Is ρ tt26 (7 * x4) := Zmul (Zc 7) h25 (by omega) (by omega)
  obtain ⟨u13, u13e⟩ : ∃ m : Int, min (7 * x3) (7 * x4) = m := ⟨_, rfl⟩
  have h27 : Is ρ tt27 (u13) := Zmn h24 h26 (by omega)
  obtain ⟨u14, u14e⟩ : ∃ m : Int, max (7 * x3) (7 * x4) = m := ⟨_, rfl⟩
  have h28 : Is ρ tt28 (u14) := Zmx h24 h26 (by omega)
  have h29 : Is ρ tt29 (r10 + (-1) * r4) := Zsub h17 h6 (by omega) (by omega)
  obtain ⟨m15, m15e⟩ : ∃ vv : Int, Hd ((u13) * (r10 + (-1) * r4) = vv) := ⟨_, ⟨rfl⟩⟩
  have m15b := m15e.out ▸ mul_bd2 (x := u13) (y := r10 + (-1) * r4) (a := 896) (b := 899) (by omega) (by omega) (by omega) (by omega) (by omega)
  have h30 : Is ρ tt30 (m15) := Zmul h27 h29 (by omega) m15e.out
  obtain ⟨m16, m16e⟩ : ∃ vv : Int, Hd ((u14) * (r10 + (-1) * r4) = vv) := ⟨_, ⟨rfl⟩⟩
  have m16b := m16e.out ▸ mul_bd2 (x := u14) (y := r10 + (-1) * r4) (a := 896) (b := 899) (by omega) (by omega) (by omega) (by omega) (by omega)
  have h31 : Is ρ tt31 (m16) := Zmul h28 h29 (by omega) m16e.out
  obtain ⟨u17, u17e⟩ : ∃ m : Int, max (m15) (m16) = m := ⟨_, rfl⟩
  have h32 : Is ρ tt32 (u17) := Zmx h30 h31 (by omega)
  have h33 : Is ρ tt33 (r12 + (-1) * r6) := Zsub h20 h9 (by omega) (by omega)
  obtain ⟨m18, m18e⟩ : ∃ vv : Int, Hd ((u13) * (r12 + (-1) * r6) = vv) := ⟨_, ⟨rfl⟩⟩
  have m18b := m18e.out ▸ mul_bd2 (x := u13) (y := r12 + (-1) * r6) (a := 896) (b := 899) (by omega) (by omega) (by omega) (by omega) (by omega)
  have h34 : Is ρ tt34 (m18) := Zmul h27 h33 (by omega) m18e.out
  obtain ⟨m19, m19e⟩ : ∃ vv : Int, Hd ((u14) * (r12 + (-1) * r6) = vv) := ⟨_, ⟨rfl⟩⟩
  have m19b := m19e.out ▸ mul_bd2 (x := u14) (y := r12 + (-1) * r6) (a := 896) (b := 899) (by omega) (by omega) (by omega) (by omega) (by omega)
  have h35 : Is ρ tt35 (m19) := Zmul h28 h33 (by omega) m19e.out
  obtain ⟨u20, u20e⟩ : ∃ m : Int, max (m18) (m19) = m := ⟨_, rfl⟩
  have h36 : Is ρ tt36 (u20) := Zmx h34 h35 (by omega)
  have h37 : Is ρ tt37 (u17 + u20) := Zadd h32 h36 (by omega) (by omega)
  have h38 : Is ρ tt38 (x7) := Zconv e7 (by omega)
  obtain ⟨q21, q21e⟩ : ∃ q : Int, Hd ((x7) / 4 = q) := ⟨_, ⟨rfl⟩⟩
  obtain ⟨r22, r22e⟩ : ∃ q : Int, Hd ((x7) % 4 = q) := ⟨_, ⟨rfl⟩⟩
  have q211 : x7 = 4 * q21 + r22 := by have i1 := q21e.out; have i2 := r22e.out; omega
  have q212 : 0 ≤ r22 ∧ r22 ≤ 3 ∧ 0 ≤ q21 ∧ q21 ≤ 63 := by have i1 := q21e.out; have i2 := r22e.out; omega
  have h39 : Is ρ tt39 (r22) := Zremp h38 (Zc 4) (by omega) r22e.out
  have h40 : Is ρ tt40 (r22 + 1) := Zadd (Zc 1) h39 (by omega) (by omega)
  have h41 : Is ρ tt41 (0) := Zmul (Zc 0) h3 (by omega) (by omega)
  have h42 : Is ρ tt42 (r2 + 1000) := Zquop h3 (Zc 4) (by omega) (by omega) (by omega)
  have h43 : Is ρ tt43 ((-1) * r2 + (-1000)) := Zsub h41 h42 (by omega) (by omega)
  have h44 : Is ρ tt44 ((-1) * r2 + (-1000)) := Zsub h43 (Zc 0) (by omega) (by omega)
  have h45 : Is ρ tt45 (r2 + 1000) := Zadd h41 h42 (by omega) (by omega)
  have h46 : Is ρ tt46 (r2 + 1000) := Zadd h45 (Zc 0) (by omega) (by omega)
  have h47 : Is ρ tt47 (4000 * r2 + 4000000) := Zmul (Zc 1000) h3 (by omega) (by omega)
  have h48 : Is ρ tt48 (0) := Zmul h47 (Zc 0) (by omega) (by omega)
  have h49 : Is ρ tt49 (1000 * r2 + 1000000) := Zmul (Zc 250) h3 (by omega) (by omega)
  have h50 : Is ρ tt50 (1000 * r2 + 1000000) := Zadd h48 h49 (by omega) (by omega)
  have h51 : Is ρ tt51 (0) := Zmul (Zc 0) h20 (by omega) (by omega)
  have h52 : Is ρ tt52 (1000 * r2 + 1000000) := Zadd h50 h51 (by omega) (by omega)
  have h53 : Is ρ tt53 (1000 * r2 + 1000000) := Zmul (Zc 1000) h46 (by omega) (by omega)
  have h54 : Is ρ tt54 (0) := Zsub h52 h53 (by omega) (by omega)
  have h55 : Is ρ tt55 (0) := Zmn (Zc 9223372036854775807) h54 (by omega)
  have h56 : Is ρ tt56 ((-1) * u20) := Zsub h55 h36 (by omega) (by omega)
  have h57 : Is ρ tt57 ((-1000) * r2 + (-1000000)) := Zsub h48 h49 (by omega) (by omega)
  have h58 : Is ρ tt58 (0) := Zmul (Zc 0) h17 (by omega) (by omega)
  have h59 : Is ρ tt59 ((-1000) * r2 + (-1000000)) := Zsub h57 h58 (by omega) (by omega)
  have h60 : Is ρ tt60 ((-1000) * r2 + (-1000000)) := Zmul (Zc 1000) h44 (by omega) (by omega)
  have h61 : Is ρ tt61 (0) := Zsub h59 h60 (by omega) (by omega)
  have h62 : Is ρ tt62 (0) := Zmx (Zc (-9223372036854775808)) h61 (by omega)
  have h63 : Is ρ tt63 (u17) := Zadd h62 h32 (by omega) (by omega)
  have h64 : Is ρ tt64 ((-1) * u17 + (-1) * u20) := Zsub h56 h63 (by omega) (by omega)
  have h65 : Is ρ tt65 (u17 + u20) := Zsub (Zc 0) h64 (by omega) (by omega)
  obtain ⟨q23, r24, q23e, r24e, q23x, q23l, q23h, q23p, q23n, q23t, r24l, r24h, q23s⟩ := tqr_ex (u17 + u20) (r10 + r12 + 2) 1611008 (by omega) (by omega) (by omega)
  replace q23p := Hd.mk q23p
  replace q23n := Hd.mk q23n
  replace q23t := Hd.mk q23t
  replace q23s := Hd.mk q23s
  have h66 : Is ρ tt66 (r24) := Ztr h65 h21 r24e.out
  have h67 : Is ρ tt67 (q23) := Ztq h65 h21 q23e.out (by omega)
  have h68 : Is ρ tt68 (0) := Zmul (Zc 0) h6 (by omega) (by omega)
  have h69 : Is ρ tt69 (999) := Zadd h68 (Zc 999) (by omega) (by omega)
  have h70 : Is ρ tt70 (0) := Zquop h69 (Zc 1000) (by omega) (by omega) (by omega)
  have h71 : Is ρ tt71 ((-1) * r2 + (-1000)) := Zadd h44 h70 (by omega) (by omega)
  have h72 : Is ρ tt72 (0) := Zmul (Zc 0) h9 (by omega) (by omega)
  have h73 : Is ρ tt73 (999) := Zadd h72 (Zc 999) (by omega) (by omega)
  have h74 : Is ρ tt74 (0) := Zquop h73 (Zc 1000) (by omega) (by omega) (by omega)
  have h75 : Is ρ tt75 (r2 + 1000) := Zsub h46 h74 (by omega) (by omega)
  have h76 : Is ρ tt76 ((-1) * r22) := Zsub (Zc 1) h40 (by omega) (by omega)
  have h77 : Is ρ tt77 ((-1000) * r2 + (-1000000)) := Zmul (Zc 1000) h71 (by omega) (by omega)
  have h78 : Is ρ tt78 (0) := Zsub h60 h77 (by omega) (by omega)
  have h79 : Is ρ tt79 (0) := Zmx (Zc (-9223372036854775808)) h78 (by omega)
  have h80 : Is ρ tt80 (u17) := Zadd h79 h32 (by omega) (by omega)
  have h81 : Is ρ tt81 (1000 * r2 + 1000000) := Zmul (Zc 1000) h75 (by omega) (by omega)
  have h82 : Is ρ tt82 (0) := Zsub h53 h81 (by omega) (by omega)
  have h83 : Is ρ tt83 (0) := Zmn (Zc 9223372036854775807) h82 (by omega)
  have h84 : Is ρ tt84 ((-1) * u20) := Zsub h83 h36 (by omega) (by omega)
  have h85 : Is ρ tt85 (4 * r2 + 4000) := Zmul (Zc 1) h3 (by omega) (by omega)
  have h86 : Is ρ tt86 (3 * r2 + 3000) := Zsub h85 h42 (by omega) (by omega)
  have h87 : Is ρ tt87 (3 * r2 + 3000) := Zsub h86 (Zc 0) (by omega) (by omega)
  have h88 : Is ρ tt88 (5 * r2 + 5000) := Zadd h85 h42 (by omega) (by omega)
  have h89 : Is ρ tt89 (5 * r2 + 5000) := Zadd h88 (Zc 0) (by omega) (by omega)
  have h90 : Is ρ tt90 (4000 * r2 + 4000000) := Zmul h47 (Zc 1) (by omega) (by omega)
  have h91 : Is ρ tt91 (5000 * r2 + 5000000) := Zadd h90 h49 (by omega) (by omega)
  have h92 : Is ρ tt92 (5000 * r2 + 5000000) := Zadd h91 h51 (by omega) (by omega)
  have h93 : Is ρ tt93 (5000 * r2 + 5000000) := Zmul (Zc 1000) h89 (by omega) (by omega)
  have h94 : Is ρ tt94 (0) := Zsub h92 h93 (by omega) (by omega)
  have h95 : Is ρ tt95 (0) := Zmn h55 h94 (by omega)
  have h96 : Is ρ tt96 ((-1) * u20) := Zsub h95 h36 (by omega) (by omega)
  have h97 : Is ρ tt97 (3000 * r2 + 3000000) := Zsub h90 h49 (by omega) (by omega)
  have h98 : Is ρ tt98 (3000 * r2 + 3000000) := Zsub h97 h58 (by omega) (by omega)
  have h99 : Is ρ tt99 (3000 * r2 + 3000000) := Zmul (Zc 1000) h87 (by omega) (by omega)
  have h100 : Is ρ tt100 (0) := Zsub h98 h99 (by omega) (by omega)
  have h101 : Is ρ tt101 (0) := Zmx h62 h100 (by omega)
  have h102 : Is ρ tt102 (u17) := Zadd h101 h32 (by omega) (by omega)
  have h103 : Is ρ tt103 ((-1) * u17 + (-1) * u20) := Zsub h96 h102 (by omega) (by omega)
  have h104 : Is ρ tt104 (u17 + u20) := Zsub (Zc 0) h103 (by omega) (by omega)
  have h105 : Is ρ tt105 (r24) := Ztr h104 h21 r24e.out
  have h106 : Is ρ tt106 (q23) := Ztq h104 h21 q23e.out (by omega)
  have h107 : Is ρ tt107 (3 * r2 + 3000) := Zadd h87 h70 (by omega) (by omega)
  have h108 : Is ρ tt108 (5 * r2 + 5000) := Zsub h89 h74 (by omega) (by omega)
  have h109 : Is ρ tt109 ((-1) * r22 + 1) := Zsub (Zc 2) h40 (by omega) (by omega)
  have h110 : Is ρ tt110 (3000 * r2 + 3000000) := Zmul (Zc 1000) h107 (by omega) (by omega)
  have h111 : Is ρ tt111 (0) := Zsub h99 h110 (by omega) (by omega)
  have h112 : Is ρ tt112 (0) := Zmx h79 h111 (by omega)
  have h113 : Is ρ tt113 (u17) := Zadd h112 h32 (by omega) (by omega)
  have h114 : Is ρ tt114 (5000 * r2 + 5000000) := Zmul (Zc 1000) h108 (by omega) (by omega)
  have h115 : Is ρ tt115 (0) := Zsub h93 h114 (by omega) (by omega)
  have h116 : Is ρ tt116 (0) := Zmn h83 h115 (by omega)
  have h117 : Is ρ tt117 ((-1) * u20) := Zsub h116 h36 (by omega) (by omega)
  have h118 : Is ρ tt118 (8 * r2 + 8000) := Zmul (Zc 2) h3 (by omega) (by omega)
  have h119 : Is ρ tt119 (7 * r2 + 7000) := Zsub h118 h42 (by omega) (by omega)
  have h120 : Is ρ tt120 (7 * r2 + 7000) := Zsub h119 (Zc 0) (by omega) (by omega)
  have h121 : Is ρ tt121 (9 * r2 + 9000) := Zadd h118 h42 (by omega) (by omega)
  have h122 : Is ρ tt122 (9 * r2 + 9000) := Zadd h121 (Zc 0) (by omega) (by omega)
  have h123 : Is ρ tt123 (8000 * r2 + 8000000) := Zmul h47 (Zc 2) (by omega) (by omega)
  have h124 : Is ρ tt124 (9000 * r2 + 9000000) := Zadd h123 h49 (by omega) (by omega)
  have h125 : Is ρ tt125 (9000 * r2 + 9000000) := Zadd h124 h51 (by omega) (by omega)
  have h126 : Is ρ tt126 (9000 * r2 + 9000000) := Zmul (Zc 1000) h122 (by omega) (by omega)
  have h127 : Is ρ tt127 (0) := Zsub h125 h126 (by omega) (by omega)
  have h128 : Is ρ tt128 (0) := Zmn h95 h127 (by omega)
  have h129 : Is ρ tt129 ((-1) * u20) := Zsub h128 h36 (by omega) (by omega)
  have h130 : Is ρ tt130 (7000 * r2 + 7000000) := Zsub h123 h49 (by omega) (by omega)
  have h131 : Is ρ tt131 (7000 * r2 + 7000000) := Zsub h130 h58 (by omega) (by omega)
  have h132 : Is ρ tt132 (7000 * r2 + 7000000) := Zmul (Zc 1000) h120 (by omega) (by omega)
  have h133 : Is ρ tt133 (0) := Zsub h131 h132 (by omega) (by omega)
  have h134 : Is ρ tt134 (0) := Zmx h101 h133 (by omega)
  have h135 : Is ρ tt135 (u17) := Zadd h134 h32 (by omega) (by omega)
  have h136 : Is ρ tt136 ((-1) * u17 + (-1) * u20) := Zsub h129 h135 (by omega) (by omega)
  have h137 : Is ρ tt137 (u17 + u20) := Zsub (Zc 0) h136 (by omega) (by omega)
  have h138 : Is ρ tt138 (r24) := Ztr h137 h21 r24e.out
  have h139 : Is ρ tt139 (q23) := Ztq h137 h21 q23e.out (by omega)
  have h140 : Is ρ tt140 (7 * r2 + 7000) := Zadd h120 h70 (by omega) (by omega)
  have h141 : Is ρ tt141 (9 * r2 + 9000) := Zsub h122 h74 (by omega) (by omega)
  have h142 : Is ρ tt142 ((-1) * r22 + 2) := Zsub (Zc 3) h40 (by omega) (by omega)
  have h143 : Is ρ tt143 (7000 * r2 + 7000000) := Zmul (Zc 1000) h140 (by omega) (by omega)
  have h144 : Is ρ tt144 (0) := Zsub h132 h143 (by omega) (by omega)
  have h145 : Is ρ tt145 (0) := Zmx h112 h144 (by omega)
  have h146 : Is ρ tt146 (u17) := Zadd h145 h32 (by omega) (by omega)
  have h147 : Is ρ tt147 (9000 * r2 + 9000000) := Zmul (Zc 1000) h141 (by omega) (by omega)
  have h148 : Is ρ tt148 (0) := Zsub h126 h147 (by omega) (by omega)
  have h149 : Is ρ tt149 (0) := Zmn h116 h148 (by omega)
  have h150 : Is ρ tt150 ((-1) * u20) := Zsub h149 h36 (by omega) (by omega)
  have h151 : Is ρ tt151 (12 * r2 + 12000) := Zmul (Zc 3) h3 (by omega) (by omega)
  have h152 : Is ρ tt152 (11 * r2 + 11000) := Zsub h151 h42 (by omega) (by omega)
  have h153 : Is ρ tt153 (11 * r2 + 11000) := Zsub h152 (Zc 0) (by omega) (by omega)
  have h154 : Is ρ tt154 (13 * r2 + 13000) := Zadd h151 h42 (by omega) (by omega)
  have h155 : Is ρ tt155 (13 * r2 + 13000) := Zadd h154 (Zc 0) (by omega) (by omega)
  have h156 : Is ρ tt156 (12000 * r2 + 12000000) := Zmul h47 (Zc 3) (by omega) (by omega)
  have h157 : Is ρ tt157 (13000 * r2 + 13000000) := Zadd h156 h49 (by omega) (by omega)
  have h158 : Is ρ tt158 (13000 * r2 + 13000000) := Zadd h157 h51 (by omega) (by omega)
  have h159 : Is ρ tt159 (13000 * r2 + 13000000) := Zmul (Zc 1000) h155 (by omega) (by omega)
  have h160 : Is ρ tt160 (0) := Zsub h158 h159 (by omega) (by omega)
  have h161 : Is ρ tt161 (0) := Zmn h128 h160 (by omega)
  have h162 : Is ρ tt162 ((-1) * u20) := Zsub h161 h36 (by omega) (by omega)
  have h163 : Is ρ tt163 (11000 * r2 + 11000000) := Zsub h156 h49 (by omega) (by omega)
  have h164 : Is ρ tt164 (11000 * r2 + 11000000) := Zsub h163 h58 (by omega) (by omega)
  have h165 : Is ρ tt165 (11000 * r2 + 11000000) := Zmul (Zc 1000) h153 (by omega) (by omega)
  have h166 : Is ρ tt166 (0) := Zsub h164 h165 (by omega) (by omega)
  have h167 : Is ρ tt167 (0) := Zmx h134 h166 (by omega)
  have h168 : Is ρ tt168 (u17) := Zadd h167 h32 (by omega) (by omega)
  have h169 : Is ρ tt169 ((-1) * u17 + (-1) * u20) := Zsub h162 h168 (by omega) (by omega)
  have h170 : Is ρ tt170 (u17 + u20) := Zsub (Zc 0) h169 (by omega) (by omega)
  have h171 : Is ρ tt171 (r24) := Ztr h170 h21 r24e.out
  have h172 : Is ρ tt172 (q23) := Ztq h170 h21 q23e.out (by omega)
  have h173 : Is ρ tt173 (11 * r2 + 11000) := Zadd h153 h70 (by omega) (by omega)
  have h174 : Is ρ tt174 (13 * r2 + 13000) := Zsub h155 h74 (by omega) (by omega)
  have h175 : Is ρ tt175 ((-1) * r22 + 3) := Zsub (Zc 4) h40 (by omega) (by omega)
  have h176 : Is ρ tt176 (11000 * r2 + 11000000) := Zmul (Zc 1000) h173 (by omega) (by omega)
  have h177 : Is ρ tt177 (0) := Zsub h165 h176 (by omega) (by omega)
  have h178 : Is ρ tt178 (0) := Zmx h145 h177 (by omega)
  have h179 : Is ρ tt179 (u17) := Zadd h178 h32 (by omega) (by omega)
  have h180 : Is ρ tt180 (13000 * r2 + 13000000) := Zmul (Zc 1000) h174 (by omega) (by omega)
  have h181 : Is ρ tt181 (0) := Zsub h159 h180 (by omega) (by omega)
  have h182 : Is ρ tt182 (0) := Zmn h149 h181 (by omega)
  have h183 : Is ρ tt183 ((-1) * u20) := Zsub h182 h36 (by omega) (by omega)
  obtain ⟨q25, r26, q25e, r26e, q25x, q25l, q25h, q25p, q25n, q25t, r26l, r26h, q25s⟩ := tqr_ex (u17 + u20) (r4 + r6 + 2) 1611008 (by omega) (by omega) (by omega)
  replace q25p := Hd.mk q25p
  replace q25n := Hd.mk q25n
  replace q25t := Hd.mk q25t
  replace q25s := Hd.mk q25s
  have h184 : Is ρ tt184 (r26) := Ztr h37 h12 r26e.out
  have h185 : Is ρ tt185 (q25) := Ztq h37 h12 q25e.out (by omega)
  obtain ⟨m27, m27e⟩ : ∃ vv : Int, Hd ((q25) * (r4 + 1) = vv) := ⟨_, ⟨rfl⟩⟩
  have m27b := m27e.out ▸ mul_bd2 (x := q25) (y := r4 + 1) (a := 1611008) (b := 900) (by omega) (by omega) (by omega) (by omega) (by omega)
  have m27p : Hd (0 ≤ q25 → 0 ≤ m27) := ⟨fun h => m27e.out ▸ Int.mul_nonneg h (by omega)⟩
  have h186 : Is ρ tt186 (m27) := Zmul h185 h6 (by omega) m27e.out
  have h187 : Is ρ tt187 (m27 + 999) := Zadd h186 (Zc 999) (by omega) (by omega)
  obtain ⟨z28, z28e, z28l, z28h, z28f⟩ := td_ex (m27 + 999) 1449908199 (by omega) (by omega)
  replace z28f := Hd.mk z28f
  have h188 : Is ρ tt188 (z28) := Ztq h187 (Zc 1000) z28e.out (by omega)
  have h189 : Is ρ tt189 ((-1) * r2 + z28 + (-1000)) := Zadd h44 h188 (by omega) (by omega)
  obtain ⟨m29, m29e⟩ : ∃ vv : Int, Hd ((q25) * (r6 + 1) = vv) := ⟨_, ⟨rfl⟩⟩
  have m29b := m29e.out ▸ mul_bd2 (x := q25) (y := r6 + 1) (a := 1611008) (b := 900) (by omega) (by omega) (by omega) (by omega) (by omega)
  have m29p : Hd (0 ≤ q25 → 0 ≤ m29) := ⟨fun h => m29e.out ▸ Int.mul_nonneg h (by omega)⟩
  have h190 : Is ρ tt190 (m29) := Zmul h185 h9 (by omega) m29e.out
  have h191 : Is ρ tt191 (m29 + 999) := Zadd h190 (Zc 999) (by omega) (by omega)
  obtain ⟨z30, z30e, z30l, z30h, z30f⟩ := td_ex (m29 + 999) 1449908199 (by omega) (by omega)
  replace z30f := Hd.mk z30f
  have h192 : Is ρ tt192 (z30) := Ztq h191 (Zc 1000) z30e.out (by omega)
  have h193 : Is ρ tt193 (r2 + (-1) * z30 + 1000) := Zsub h46 h192 (by omega) (by omega)
  have h194 : Is ρ tt194 ((-1000) * r2 + 1000 * z28 + (-1000000)) := Zmul (Zc 1000) h189 (by omega) (by omega)
  have h195 : Is ρ tt195 ((-1000) * z28) := Zsub h60 h194 (by omega) (by omega)
  have h196 : Is ρ tt196 ((-1000) * z28) := Zmx (Zc (-9223372036854775808)) h195 (by omega)
  have h197 : Is ρ tt197 (u17 + (-1000) * z28) := Zadd h196 h32 (by omega) (by omega)
  have h198 : Is ρ tt198 (1000 * r2 + (-1000) * z30 + 1000000) := Zmul (Zc 1000) h193 (by omega) (by omega)
  have h199 : Is ρ tt199 (1000 * z30) := Zsub h53 h198 (by omega) (by omega)
  have h200 : Is ρ tt200 (1000 * z30) := Zmn (Zc 9223372036854775807) h199 (by omega)
  have h201 : Is ρ tt201 ((-1) * u20 + 1000 * z30) := Zsub h200 h36 (by omega) (by omega)
  have h202 : Is ρ tt202 (q23 + 1) := Zadd h67 (Zc 1) (by omega) (by omega)
  have h203 : Is ρ tt203 (3 * r2 + z28 + 3000) := Zadd h87 h188 (by omega) (by omega)
  have h204 : Is ρ tt204 (5 * r2 + (-1) * z30 + 5000) := Zsub h89 h192 (by omega) (by omega)
  have h205 : Is ρ tt205 (3000 * r2 + 1000 * z28 + 3000000) := Zmul (Zc 1000) h203 (by omega) (by omega)
  have h206 : Is ρ tt206 ((-1000) * z28) := Zsub h99 h205 (by omega) (by omega)
  have h207 : Is ρ tt207 ((-1000) * z28) := Zmx h196 h206 (by omega)
  have h208 : Is ρ tt208 (u17 + (-1000) * z28) := Zadd h207 h32 (by omega) (by omega)
  have h209 : Is ρ tt209 (5000 * r2 + (-1000) * z30 + 5000000) := Zmul (Zc 1000) h204 (by omega) (by omega)
  have h210 : Is ρ tt210 (1000 * z30) := Zsub h93 h209 (by omega) (by omega)
  have h211 : Is ρ tt211 (1000 * z30) := Zmn h200 h210 (by omega)
  have h212 : Is ρ tt212 ((-1) * u20 + 1000 * z30) := Zsub h211 h36 (by omega) (by omega)
  have h213 : Is ρ tt213 (q23 + 1) := Zadd h106 (Zc 1) (by omega) (by omega)
  have h214 : Is ρ tt214 (7 * r2 + z28 + 7000) := Zadd h120 h188 (by omega) (by omega)
  have h215 : Is ρ tt215 (9 * r2 + (-1) * z30 + 9000) := Zsub h122 h192 (by omega) (by omega)
  have h216 : Is ρ tt216 (7000 * r2 + 1000 * z28 + 7000000) := Zmul (Zc 1000) h214 (by omega) (by omega)
  have h217 : Is ρ tt217 ((-1000) * z28) := Zsub h132 h216 (by omega) (by omega)
  have h218 : Is ρ tt218 ((-1000) * z28) := Zmx h207 h217 (by omega)
  have h219 : Is ρ tt219 (u17 + (-1000) * z28) := Zadd h218 h32 (by omega) (by omega)
  have h220 : Is ρ tt220 (9000 * r2 + (-1000) * z30 + 9000000) := Zmul (Zc 1000) h215 (by omega) (by omega)
  have h221 : Is ρ tt221 (1000 * z30) := Zsub h126 h220 (by omega) (by omega)
  have h222 : Is ρ tt222 (1000 * z30) := Zmn h211 h221 (by omega)
  have h223 : Is ρ tt223 ((-1) * u20 + 1000 * z30) := Zsub h222 h36 (by omega) (by omega)
  have h224 : Is ρ tt224 (q23 + 1) := Zadd h139 (Zc 1) (by omega) (by omega)
  have h225 : Is ρ tt225 (11 * r2 + z28 + 11000) := Zadd h153 h188 (by omega) (by omega)
  have h226 : Is ρ tt226 (13 * r2 + (-1) * z30 + 13000) := Zsub h155 h192 (by omega) (by omega)
  have h227 : Is ρ tt227 (11000 * r2 + 1000 * z28 + 11000000) := Zmul (Zc 1000) h225 (by omega) (by omega)
  have h228 : Is ρ tt228 ((-1000) * z28) := Zsub h165 h227 (by omega) (by omega)
  have h229 : Is ρ tt229 ((-1000) * z28) := Zmx h218 h228 (by omega)
  have h230 : Is ρ tt230 (u17 + (-1000) * z28) := Zadd h229 h32 (by omega) (by omega)
  have h231 : Is ρ tt231 (13000 * r2 + (-1000) * z30 + 13000000) := Zmul (Zc 1000) h226 (by omega) (by omega)
  have h232 : Is ρ tt232 (1000 * z30) := Zsub h159 h231 (by omega) (by omega)
  have h233 : Is ρ tt233 (1000 * z30) := Zmn h222 h232 (by omega)
  have h234 : Is ρ tt234 ((-1) * u20 + 1000 * z30) := Zsub h233 h36 (by omega) (by omega)
  have h235 : Is ρ tt235 (q23 + 1) := Zadd h172 (Zc 1) (by omega) (by omega)
  have h236 : Is ρ tt236 (q25 + 1) := Zadd h185 (Zc 1) (by omega) (by omega)
  have h237 : Is ρ tt237 (m27 + r4 + 1) := Zmul h236 h6 (by omega) (by rw [Int.add_mul, Int.one_mul, m27e.out]; omega)
  have h238 : Is ρ tt238 (m27 + r4 + 1000) := Zadd h237 (Zc 999) (by omega) (by omega)
  obtain ⟨z31, z31e, z31l, z31h, z31f⟩ := td_ex (m27 + r4 + 1000) 1449909099 (by omega) (by omega)
  replace z31f := Hd.mk z31f
  have h239 : Is ρ tt239 (z31) := Ztq h238 (Zc 1000) z31e.out (by omega)
  have h240 : Is ρ tt240 ((-1) * r2 + z31 + (-1000)) := Zadd h44 h239 (by omega) (by omega)
  have h241 : Is ρ tt241 (m29 + r6 + 1) := Zmul h236 h9 (by omega) (by rw [Int.add_mul, Int.one_mul, m29e.out]; omega)
  have h242 : Is ρ tt242 (m29 + r6 + 1000) := Zadd h241 (Zc 999) (by omega) (by omega)
  obtain ⟨z32, z32e, z32l, z32h, z32f⟩ := td_ex (m29 + r6 + 1000) 1449909099 (by omega) (by omega)
  replace z32f := Hd.mk z32f
  have h243 : Is ρ tt243 (z32) := Ztq h242 (Zc 1000) z32e.out (by omega)
  have h244 : Is ρ tt244 (r2 + (-1) * z32 + 1000) := Zsub h46 h243 (by omega) (by omega)
  have h245 : Is ρ tt245 ((-1000) * r2 + 1000 * z31 + (-1000000)) := Zmul (Zc 1000) h240 (by omega) (by omega)
  have h246 : Is ρ tt246 ((-1000) * z31) := Zsub h60 h245 (by omega) (by omega)
  have h247 : Is ρ tt247 ((-1000) * z31) := Zmx (Zc (-9223372036854775808)) h246 (by omega)
  have h248 : Is ρ tt248 (u17 + (-1000) * z31) := Zadd h247 h32 (by omega) (by omega)
  have h249 : Is ρ tt249 (1000 * r2 + (-1000) * z32 + 1000000) := Zmul (Zc 1000) h244 (by omega) (by omega)
  have h250 : Is ρ tt250 (1000 * z32) := Zsub h53 h249 (by omega) (by omega)
  have h251 : Is ρ tt251 (1000 * z32) := Zmn (Zc 9223372036854775807) h250 (by omega)
  have h252 : Is ρ tt252 ((-1) * u20 + 1000 * z32) := Zsub h251 h36 (by omega) (by omega)
  have h253 : Is ρ tt253 (3 * r2 + z31 + 3000) := Zadd h87 h239 (by omega) (by omega)
  have h254 : Is ρ tt254 (5 * r2 + (-1) * z32 + 5000) := Zsub h89 h243 (by omega) (by omega)
  have h255 : Is ρ tt255 (3000 * r2 + 1000 * z31 + 3000000) := Zmul (Zc 1000) h253 (by omega) (by omega)
  have h256 : Is ρ tt256 ((-1000) * z31) := Zsub h99 h255 (by omega) (by omega)
  have h257 : Is ρ tt257 ((-1000) * z31) := Zmx h247 h256 (by omega)
  have h258 : Is ρ tt258 (u17 + (-1000) * z31) := Zadd h257 h32 (by omega) (by omega)
  have h259 : Is ρ tt259 (5000 * r2 + (-1000) * z32 + 5000000) := Zmul (Zc 1000) h254 (by omega) (by omega)
  have h260 : Is ρ tt260 (1000 * z32) := Zsub h93 h259 (by omega) (by omega)
  have h261 : Is ρ tt261 (1000 * z32) := Zmn h251 h260 (by omega)
  have h262 : Is ρ tt262 ((-1) * u20 + 1000 * z32) := Zsub h261 h36 (by omega) (by omega)
  have h263 : Is ρ tt263 (7 * r2 + z31 + 7000) := Zadd h120 h239 (by omega) (by omega)
  have h264 : Is ρ tt264 (9 * r2 + (-1) * z32 + 9000) := Zsub h122 h243 (by omega) (by omega)
  have h265 : Is ρ tt265 (7000 * r2 + 1000 * z31 + 7000000) := Zmul (Zc 1000) h263 (by omega) (by omega)
  have h266 : Is ρ tt266 ((-1000) * z31) := Zsub h132 h265 (by omega) (by omega)
  have h267 : Is ρ tt267 ((-1000) * z31) := Zmx h257 h266 (by omega)
  have h268 : Is ρ tt268 (u17 + (-1000) * z31) := Zadd h267 h32 (by omega) (by omega)
  have h269 : Is ρ tt269 (9000 * r2 + (-1000) * z32 + 9000000) := Zmul (Zc 1000) h264 (by omega) (by omega)
  have h270 : Is ρ tt270 (1000 * z32) := Zsub h126 h269 (by omega) (by omega)
  have h271 : Is ρ tt271 (1000 * z32) := Zmn h261 h270 (by omega)
  have h272 : Is ρ tt272 ((-1) * u20 + 1000 * z32) := Zsub h271 h36 (by omega) (by omega)
  have h273 : Is ρ tt273 (11 * r2 + z31 + 11000) := Zadd h153 h239 (by omega) (by omega)
  have h274 : Is ρ tt274 (13 * r2 + (-1) * z32 + 13000) := Zsub h155 h243 (by omega) (by omega)
  have h275 : Is ρ tt275 (11000 * r2 + 1000 * z31 + 11000000) := Zmul (Zc 1000) h273 (by omega) (by omega)
  have h276 : Is ρ tt276 ((-1000) * z31) := Zsub h165 h275 (by omega) (by omega)
  have h277 : Is ρ tt277 ((-1000) * z31) := Zmx h267 h276 (by omega)
  have h278 : Is ρ tt278 (u17 + (-1000) * z31) := Zadd h277 h32 (by omega) (by omega)
  have h279 : Is ρ tt279 (13000 * r2 + (-1000) * z32 + 13000000) := Zmul (Zc 1000) h274 (by omega) (by omega)
  have h280 : Is ρ tt280 (1000 * z32) := Zsub h159 h279 (by omega) (by omega)
  have h281 : Is ρ tt281 (1000 * z32) := Zmn h271 h280 (by omega)
  have h282 : Is ρ tt282 ((-1) * u20 + 1000 * z32) := Zsub h281 h36 (by omega) (by omega)
  replace q25x : m27 + m29 + r26 = u17 + u20 := by
    have e := q25x.out
    rw [show (r4 + r6 + 2 : Int) = r4 + 1 + (r6 + 1) by omega, Int.mul_add, m27e.out, m29e.out] at e
    exact e
  clear q23x
  clear m15e
  clear m16e
  clear m18e
  clear m19e
  clear m27e
  clear m29e
  clear q23e r24e q25e r26e z28e z30e z31e z32e
  refine ⟨fun g0 => ?_, fun g0 => ?_⟩
  · clear g0
    refine ⟨fun g1 => ?_, fun g1 => ?_⟩
    · clear g1
      refine ⟨fun g2 => ?_, fun g2 => ?_⟩
      · clear g2
        refine ⟨fun g3 => ?_, fun g3 => ?_⟩
        · clear g3
          refine ⟨fun g4 => ?_, fun g4 => ?_⟩
          · clear g4
            refine ⟨fun g5 => ?_, fun g5 => ?_⟩
            · clear g5
              refine ⟨fun g6 => ?_, fun g6 => ?_⟩
              · clear g6
                refine ⟨fun g7 => ?_, fun g7 => ?_⟩
                · clear g7
                  refine ⟨fun g8 => ?_, fun g8 => ?_⟩
                  · clear g8
                    refine ⟨fun g9 => ?_, fun g9 => ?_⟩
                    · clear g9
                      refine ⟨fun g10 => ?_, fun g10 => ?_⟩
                      · clear g10
                        refine ⟨fun g11 => ?_, fun g11 => ?_⟩
                        · clear g11
                          refine ⟨fun g12 => ?_, fun g12 => ?_⟩
                          · clear g12
                            refine ⟨fun g13 => ?_, fun g13 => ?_⟩
                            · clear g13
                              refine ⟨fun g14 => ?_, fun g14 => ?_⟩
                              · clear g14
                                refine ⟨fun g15 => ?_, fun g15 => ?_⟩
                                · clear g15
                                  refine ⟨fun g16 => ?_, fun g16 => ?_⟩
                                  · clear g16
                                    refine ⟨fun g17 => ?_, fun g17 => ?_⟩
                                    · have k17 : ((u17 + u20 : Int) ≤ 0) := Zleqt h37 (Zc 0) g17
                                      clear g17
                                      have fb := q23n.out (by omega)
                                      clear q25x
                                      refine ⟨fun g18 => ?_, fun g18 => ?_⟩
                                      · have k18 : ((r22 + 1 : Int) ≤ 0) := Zleqt h40 (Zc 0) g18
                                        clear g18
                                        omega
                                      · clear g18
                                        refine ⟨fun g19 => ?_, fun g19 => ?_⟩
                                        · have k19 : ((r22 + 1 : Int) ≤ 1) := Zleqt h40 (Zc 1) g19
                                          clear g19
                                          refine ⟨fun g20 => ?_, fun g20 => ?_⟩
                                          · clear g20
                                            refine ⟨fun g21 => ?_, fun g21 => ?_⟩
                                            · clear g21
                                              refine ⟨fun g22 => ?_, fun g22 => ?_⟩
                                              · clear g22
                                                refine ⟨fun g23 => ?_, fun g23 => ?_⟩
                                                · have k23 : ((r10 + r12 + 2 : Int) = 0) := Zeqlt h21 (Zc 0) g23
                                                  clear g23
                                                  omega
                                                · clear g23
                                                  refine ⟨fun g24 => ?_, fun g24 => ?_⟩
                                                  · clear g24
                                                    refine ⟨fun g25 => ?_, fun g25 => ?_⟩
                                                    · clear g25
                                                      refine ⟨fun g26 => ?_, fun g26 => ?_⟩
                                                      · clear g26
                                                        refine ⟨fun g27 => ?_, fun g27 => ?_⟩
                                                        · clear g27
                                                          refine ⟨fun g28 => ?_, fun g28 => ?_⟩
                                                          · clear g28
                                                            refine ⟨fun g29 => ?_, fun g29 => ?_⟩
                                                            · clear g29
                                                              refine ⟨fun g30 => ?_, fun g30 => ?_⟩
                                                              · clear g30
                                                                refine ⟨fun g31 => ?_, fun g31 => ?_⟩
                                                                · exact rfl
                                                                · have k31 : ¬ ((u17 : Int) ≤ (-1) * u20) := Zleqf h80 h84 g31
                                                                  clear g31
                                                                  omega
                                                              · have k30 : ¬ ((0 : Int) ≤ (-1) * r22) := Zleqf (Zc 0) h76 g30
                                                                clear g30
                                                                omega
                                                            · have k29 : ¬ ((1 : Int) ≤ r22 + 1) := Zleqf (Zc 1) h40 g29
                                                              clear g29
                                                              omega
                                                          · have k28 : ¬ ((r2 + 1000 : Int) ≤ 10000000) := Zleqf h75 (Zc 10000000) g28
                                                            clear g28
                                                            omega
                                                        · have k27 : ¬ (((-10000000) : Int) ≤ (-1) * r2 + (-1000)) := Zleqf (Zc (-10000000)) h71 g27
                                                          clear g27
                                                          omega
                                                      · have k26 : ¬ (((-1) * r2 + (-1000) : Int) ≤ r2 + 1000) := Zleqf h71 h75 g26
                                                        clear g26
                                                        omega
                                                    · have k25 : ¬ ((q23 : Int) ≤ 0) := Zleqf h67 (Zc 0) g25
                                                      clear g25
                                                      omega
                                                  · have k24 : ¬ ((r24 : Int) ≤ 0) := Zleqf h66 (Zc 0) g24
                                                    clear g24
                                                    omega
                                              · have k22 : ¬ ((r2 + 1000 : Int) ≤ 10000000) := Zleqf h46 (Zc 10000000) g22
                                                clear g22
                                                omega
                                            · have k21 : ¬ (((-1) * r2 + (-1000) : Int) ≤ r2 + 1000) := Zleqf h44 h46 g21
                                              clear g21
                                              omega
                                          · have k20 : ¬ (((-10000000) : Int) ≤ (-1) * r2 + (-1000)) := Zleqf (Zc (-10000000)) h44 g20
                                            clear g20
                                            omega
                                        · have k19 : ¬ ((r22 + 1 : Int) ≤ 1) := Zleqf h40 (Zc 1) g19
                                          clear g19
                                          refine ⟨fun g20 => ?_, fun g20 => ?_⟩
                                          · have k20 : ((r22 + 1 : Int) ≤ 2) := Zleqt h40 (Zc 2) g20
                                            clear g20
                                            refine ⟨fun g21 => ?_, fun g21 => ?_⟩
                                            · clear g21
                                              refine ⟨fun g22 => ?_, fun g22 => ?_⟩
                                              · clear g22
                                                refine ⟨fun g23 => ?_, fun g23 => ?_⟩
                                                · clear g23
                                                  refine ⟨fun g24 => ?_, fun g24 => ?_⟩
                                                  · clear g24
                                                    refine ⟨fun g25 => ?_, fun g25 => ?_⟩
                                                    · clear g25
                                                      refine ⟨fun g26 => ?_, fun g26 => ?_⟩
                                                      · have k26 : ((r10 + r12 + 2 : Int) = 0) := Zeqlt h21 (Zc 0) g26
                                                        clear g26
                                                        omega
                                                      · clear g26
                                                        refine ⟨fun g27 => ?_, fun g27 => ?_⟩
                                                        · clear g27
                                                          refine ⟨fun g28 => ?_, fun g28 => ?_⟩
                                                          · clear g28
                                                            refine ⟨fun g29 => ?_, fun g29 => ?_⟩
                                                            · clear g29
                                                              refine ⟨fun g30 => ?_, fun g30 => ?_⟩
                                                              · clear g30
                                                                refine ⟨fun g31 => ?_, fun g31 => ?_⟩
                                                                · clear g31
                                                                  refine ⟨fun g32 => ?_, fun g32 => ?_⟩
                                                                  · clear g32
                                                                    refine ⟨fun g33 => ?_, fun g33 => ?_⟩
                                                                    · clear g33
                                                                      refine ⟨fun g34 => ?_, fun g34 => ?_⟩
                                                                      · clear g34
                                                                        refine ⟨fun g35 => ?_, fun g35 => ?_⟩
                                                                        · clear g35
                                                                          refine ⟨fun g36 => ?_, fun g36 => ?_⟩
                                                                          · exact rfl
                                                                          · have k36 : ¬ ((u17 : Int) ≤ (-1) * u20) := Zleqf h113 h117 g36
                                                                            clear g36
                                                                            omega
                                                                        · have k35 : ¬ ((0 : Int) ≤ (-1) * r22 + 1) := Zleqf (Zc 0) h109 g35
                                                                          clear g35
                                                                          omega
                                                                      · have k34 : ¬ ((1 : Int) ≤ r22 + 1) := Zleqf (Zc 1) h40 g34
                                                                        clear g34
                                                                        omega
                                                                    · have k33 : ¬ ((5 * r2 + 5000 : Int) ≤ 10000000) := Zleqf h108 (Zc 10000000) g33
                                                                      clear g33
                                                                      omega
                                                                  · have k32 : ¬ ((r2 + 1000 : Int) ≤ 3 * r2 + 3000) := Zleqf h75 h107 g32
                                                                    clear g32
                                                                    omega
                                                                · have k31 : ¬ (((-10000000) : Int) ≤ (-1) * r2 + (-1000)) := Zleqf (Zc (-10000000)) h71 g31
                                                                  clear g31
                                                                  omega
                                                              · have k30 : ¬ ((3 * r2 + 3000 : Int) ≤ 5 * r2 + 5000) := Zleqf h107 h108 g30
                                                                clear g30
                                                                omega
                                                            · have k29 : ¬ (((-1) * r2 + (-1000) : Int) ≤ r2 + 1000) := Zleqf h71 h75 g29
                                                              clear g29
                                                              omega
                                                          · have k28 : ¬ ((q23 : Int) ≤ 0) := Zleqf h106 (Zc 0) g28
                                                            clear g28
                                                            omega
                                                        · have k27 : ¬ ((r24 : Int) ≤ 0) := Zleqf h105 (Zc 0) g27
                                                          clear g27
                                                          omega
                                                    · have k25 : ¬ ((5 * r2 + 5000 : Int) ≤ 10000000) := Zleqf h89 (Zc 10000000) g25
                                                      clear g25
                                                      omega
                                                  · have k24 : ¬ ((3 * r2 + 3000 : Int) ≤ 5 * r2 + 5000) := Zleqf h87 h89 g24
                                                    clear g24
                                                    omega
                                                · have k23 : ¬ ((r2 + 1000 : Int) ≤ 3 * r2 + 3000) := Zleqf h46 h87 g23
                                                  clear g23
                                                  omega
                                              · have k22 : ¬ (((-1) * r2 + (-1000) : Int) ≤ r2 + 1000) := Zleqf h44 h46 g22
                                                clear g22
                                                omega
                                            · have k21 : ¬ (((-10000000) : Int) ≤ (-1) * r2 + (-1000)) := Zleqf (Zc (-10000000)) h44 g21
                                              clear g21
                                              omega
                                          · have k20 : ¬ ((r22 + 1 : Int) ≤ 2) := Zleqf h40 (Zc 2) g20
                                            clear g20
                                            refine ⟨fun g21 => ?_, fun g21 => ?_⟩
                                            · have k21 : ((r22 + 1 : Int) ≤ 3) := Zleqt h40 (Zc 3) g21
                                              clear g21
                                              refine ⟨fun g22 => ?_, fun g22 => ?_⟩
                                              · clear g22
                                                refine ⟨fun g23 => ?_, fun g23 => ?_⟩
                                                · clear g23
                                                  refine ⟨fun g24 => ?_, fun g24 => ?_⟩
                                                  · clear g24
                                                    refine ⟨fun g25 => ?_, fun g25 => ?_⟩
                                                    · clear g25
                                                      refine ⟨fun g26 => ?_, fun g26 => ?_⟩
                                                      · clear g26
                                                        refine ⟨fun g27 => ?_, fun g27 => ?_⟩
                                                        · clear g27
                                                          refine ⟨fun g28 => ?_, fun g28 => ?_⟩
                                                          · clear g28
                                                            refine ⟨fun g29 => ?_, fun g29 => ?_⟩
                                                            · have k29 : ((r10 + r12 + 2 : Int) = 0) := Zeqlt h21 (Zc 0) g29
                                                              clear g29
                                                              omega
                                                            · clear g29
                                                              refine ⟨fun g30 => ?_, fun g30 => ?_⟩
                                                              · clear g30
                                                                refine ⟨fun g31 => ?_, fun g31 => ?_⟩
                                                                · clear g31
                                                                  refine ⟨fun g32 => ?_, fun g32 => ?_⟩
                                                                  · clear g32
                                                                    refine ⟨fun g33 => ?_, fun g33 => ?_⟩
                                                                    · clear g33
                                                                      refine ⟨fun g34 => ?_, fun g34 => ?_⟩
                                                                      · clear g34
                                                                        refine ⟨fun g35 => ?_, fun g35 => ?_⟩
                                                                        · clear g35
                                                                          refine ⟨fun g36 => ?_, fun g36 => ?_⟩
                                                                          · clear g36
                                                                            refine ⟨fun g37 => ?_, fun g37 => ?_⟩
                                                                            · clear g37
                                                                              refine ⟨fun g38 => ?_, fun g38 => ?_⟩
                                                                              · clear g38
                                                                                refine ⟨fun g39 => ?_, fun g39 => ?_⟩
                                                                                · clear g39
                                                                                  refine ⟨fun g40 => ?_, fun g40 => ?_⟩
                                                                                  · clear g40
                                                                                    refine ⟨fun g41 => ?_, fun g41 => ?_⟩
                                                                                    · exact rfl
                                                                                    · have k41 : ¬ ((u17 : Int) ≤ (-1) * u20) := Zleqf h146 h150 g41
                                                                                      clear g41
                                                                                      omega
                                                                                  · have k40 : ¬ ((0 : Int) ≤ (-1) * r22 + 2) := Zleqf (Zc 0) h142 g40
                                                                                    clear g40
                                                                                    omega
                                                                                · have k39 : ¬ ((1 : Int) ≤ r22 + 1) := Zleqf (Zc 1) h40 g39
                                                                                  clear g39
                                                                                  omega
                                                                              · have k38 : ¬ ((9 * r2 + 9000 : Int) ≤ 10000000) := Zleqf h141 (Zc 10000000) g38
                                                                                clear g38
                                                                                omega
                                                                            · have k37 : ¬ ((5 * r2 + 5000 : Int) ≤ 7 * r2 + 7000) := Zleqf h108 h140 g37
                                                                              clear g37
                                                                              omega
                                                                          · have k36 : ¬ ((r2 + 1000 : Int) ≤ 3 * r2 + 3000) := Zleqf h75 h107 g36
                                                                            clear g36
                                                                            omega
                                                                        · have k35 : ¬ (((-10000000) : Int) ≤ (-1) * r2 + (-1000)) := Zleqf (Zc (-10000000)) h71 g35
                                                                          clear g35
                                                                          omega
                                                                      · have k34 : ¬ ((7 * r2 + 7000 : Int) ≤ 9 * r2 + 9000) := Zleqf h140 h141 g34
                                                                        clear g34
                                                                        omega
                                                                    · have k33 : ¬ ((3 * r2 + 3000 : Int) ≤ 5 * r2 + 5000) := Zleqf h107 h108 g33
                                                                      clear g33
                                                                      omega
                                                                  · have k32 : ¬ (((-1) * r2 + (-1000) : Int) ≤ r2 + 1000) := Zleqf h71 h75 g32
                                                                    clear g32
                                                                    omega
                                                                · have k31 : ¬ ((q23 : Int) ≤ 0) := Zleqf h139 (Zc 0) g31
                                                                  clear g31
                                                                  omega
                                                              · have k30 : ¬ ((r24 : Int) ≤ 0) := Zleqf h138 (Zc 0) g30
                                                                clear g30
                                                                omega
                                                          · have k28 : ¬ ((9 * r2 + 9000 : Int) ≤ 10000000) := Zleqf h122 (Zc 10000000) g28
                                                            clear g28
                                                            omega
                                                        · have k27 : ¬ ((7 * r2 + 7000 : Int) ≤ 9 * r2 + 9000) := Zleqf h120 h122 g27
                                                          clear g27
                                                          omega
                                                      · have k26 : ¬ ((5 * r2 + 5000 : Int) ≤ 7 * r2 + 7000) := Zleqf h89 h120 g26
                                                        clear g26
                                                        omega
                                                    · have k25 : ¬ ((3 * r2 + 3000 : Int) ≤ 5 * r2 + 5000) := Zleqf h87 h89 g25
                                                      clear g25
                                                      omega
                                                  · have k24 : ¬ ((r2 + 1000 : Int) ≤ 3 * r2 + 3000) := Zleqf h46 h87 g24
                                                    clear g24
                                                    omega
                                                · have k23 : ¬ (((-1) * r2 + (-1000) : Int) ≤ r2 + 1000) := Zleqf h44 h46 g23
                                                  clear g23
                                                  omega
                                              · have k22 : ¬ (((-10000000) : Int) ≤ (-1) * r2 + (-1000)) := Zleqf (Zc (-10000000)) h44 g22
                                                clear g22
                                                omega
                                            · have k21 : ¬ ((r22 + 1 : Int) ≤ 3) := Zleqf h40 (Zc 3) g21
                                              clear g21
                                              refine ⟨fun g22 => ?_, fun g22 => ?_⟩
                                              · clear g22
                                                refine ⟨fun g23 => ?_, fun g23 => ?_⟩
                                                · clear g23
                                                  refine ⟨fun g24 => ?_, fun g24 => ?_⟩
                                                  · clear g24
                                                    refine ⟨fun g25 => ?_, fun g25 => ?_⟩
                                                    · clear g25
                                                      refine ⟨fun g26 => ?_, fun g26 => ?_⟩
                                                      · clear g26
                                                        refine ⟨fun g27 => ?_, fun g27 => ?_⟩
                                                        · clear g27
                                                          refine ⟨fun g28 => ?_, fun g28 => ?_⟩
                                                          · clear g28
                                                            refine ⟨fun g29 => ?_, fun g29 => ?_⟩
                                                            · clear g29
                                                              refine ⟨fun g30 => ?_, fun g30 => ?_⟩
                                                              · clear g30
                                                                refine ⟨fun g31 => ?_, fun g31 => ?_⟩
                                                                · clear g31
                                                                  refine ⟨fun g32 => ?_, fun g32 => ?_⟩
                                                                  · have k32 : ((r10 + r12 + 2 : Int) = 0) := Zeqlt h21 (Zc 0) g32
                                                                    clear g32
                                                                    omega
                                                                  · clear g32
                                                                    refine ⟨fun g33 => ?_, fun g33 => ?_⟩
                                                                    · clear g33
                                                                      refine ⟨fun g34 => ?_, fun g34 => ?_⟩
                                                                      · clear g34
                                                                        refine ⟨fun g35 => ?_, fun g35 => ?_⟩
                                                                        · clear g35
                                                                          refine ⟨fun g36 => ?_, fun g36 => ?_⟩
                                                                          · clear g36
                                                                            refine ⟨fun g37 => ?_, fun g37 => ?_⟩
                                                                            · clear g37
                                                                              refine ⟨fun g38 => ?_, fun g38 => ?_⟩
                                                                              · clear g38
                                                                                refine ⟨fun g39 => ?_, fun g39 => ?_⟩
                                                                                · clear g39
                                                                                  refine ⟨fun g40 => ?_, fun g40 => ?_⟩
                                                                                  · clear g40
                                                                                    refine ⟨fun g41 => ?_, fun g41 => ?_⟩
                                                                                    · clear g41
                                                                                      refine ⟨fun g42 => ?_, fun g42 => ?_⟩
                                                                                      · clear g42
                                                                                        refine ⟨fun g43 => ?_, fun g43 => ?_⟩
                                                                                        · clear g43
                                                                                          refine ⟨fun g44 => ?_, fun g44 => ?_⟩
                                                                                          · clear g44
                                                                                            refine ⟨fun g45 => ?_, fun g45 => ?_⟩
                                                                                            · clear g45
                                                                                              refine ⟨fun g46 => ?_, fun g46 => ?_⟩
                                                                                              · exact rfl
                                                                                              · have k46 : ¬ ((u17 : Int) ≤ (-1) * u20) := Zleqf h179 h183 g46
                                                                                                clear g46
                                                                                                omega
                                                                                            · have k45 : ¬ ((0 : Int) ≤ (-1) * r22 + 3) := Zleqf (Zc 0) h175 g45
                                                                                              clear g45
                                                                                              omega
                                                                                          · have k44 : ¬ ((1 : Int) ≤ r22 + 1) := Zleqf (Zc 1) h40 g44
                                                                                            clear g44
                                                                                            omega
                                                                                        · have k43 : ¬ ((13 * r2 + 13000 : Int) ≤ 10000000) := Zleqf h174 (Zc 10000000) g43
                                                                                          clear g43
                                                                                          omega
                                                                                      · have k42 : ¬ ((9 * r2 + 9000 : Int) ≤ 11 * r2 + 11000) := Zleqf h141 h173 g42
                                                                                        clear g42
                                                                                        omega
                                                                                    · have k41 : ¬ ((5 * r2 + 5000 : Int) ≤ 7 * r2 + 7000) := Zleqf h108 h140 g41
                                                                                      clear g41
                                                                                      omega
                                                                                  · have k40 : ¬ ((r2 + 1000 : Int) ≤ 3 * r2 + 3000) := Zleqf h75 h107 g40
                                                                                    clear g40
                                                                                    omega
                                                                                · have k39 : ¬ (((-10000000) : Int) ≤ (-1) * r2 + (-1000)) := Zleqf (Zc (-10000000)) h71 g39
                                                                                  clear g39
                                                                                  omega
                                                                              · have k38 : ¬ ((11 * r2 + 11000 : Int) ≤ 13 * r2 + 13000) := Zleqf h173 h174 g38
                                                                                clear g38
                                                                                omega
                                                                            · have k37 : ¬ ((7 * r2 + 7000 : Int) ≤ 9 * r2 + 9000) := Zleqf h140 h141 g37
                                                                              clear g37
                                                                              omega
                                                                          · have k36 : ¬ ((3 * r2 + 3000 : Int) ≤ 5 * r2 + 5000) := Zleqf h107 h108 g36
                                                                            clear g36
                                                                            omega
                                                                        · have k35 : ¬ (((-1) * r2 + (-1000) : Int) ≤ r2 + 1000) := Zleqf h71 h75 g35
                                                                          clear g35
                                                                          omega
                                                                      · have k34 : ¬ ((q23 : Int) ≤ 0) := Zleqf h172 (Zc 0) g34
                                                                        clear g34
                                                                        omega
                                                                    · have k33 : ¬ ((r24 : Int) ≤ 0) := Zleqf h171 (Zc 0) g33
                                                                      clear g33
                                                                      omega
                                                                · have k31 : ¬ ((13 * r2 + 13000 : Int) ≤ 10000000) := Zleqf h155 (Zc 10000000) g31
                                                                  clear g31
                                                                  omega
                                                              · have k30 : ¬ ((11 * r2 + 11000 : Int) ≤ 13 * r2 + 13000) := Zleqf h153 h155 g30
                                                                clear g30
                                                                omega
                                                            · have k29 : ¬ ((9 * r2 + 9000 : Int) ≤ 11 * r2 + 11000) := Zleqf h122 h153 g29
                                                              clear g29
                                                              omega
                                                          · have k28 : ¬ ((7 * r2 + 7000 : Int) ≤ 9 * r2 + 9000) := Zleqf h120 h122 g28
                                                            clear g28
                                                            omega
                                                        · have k27 : ¬ ((5 * r2 + 5000 : Int) ≤ 7 * r2 + 7000) := Zleqf h89 h120 g27
                                                          clear g27
                                                          omega
                                                      · have k26 : ¬ ((3 * r2 + 3000 : Int) ≤ 5 * r2 + 5000) := Zleqf h87 h89 g26
                                                        clear g26
                                                        omega
                                                    · have k25 : ¬ ((r2 + 1000 : Int) ≤ 3 * r2 + 3000) := Zleqf h46 h87 g25
                                                      clear g25
                                                      omega
                                                  · have k24 : ¬ (((-1) * r2 + (-1000) : Int) ≤ r2 + 1000) := Zleqf h44 h46 g24
                                                    clear g24
                                                    omega
                                                · have k23 : ¬ (((-10000000) : Int) ≤ (-1) * r2 + (-1000)) := Zleqf (Zc (-10000000)) h44 g23
                                                  clear g23
                                                  omega
                                              · have k22 : ¬ ((r22 + 1 : Int) ≤ 4) := Zleqf h40 (Zc 4) g22
                                                clear g22
                                                omega
                                    · have k17 : ¬ ((u17 + u20 : Int) ≤ 0) := Zleqf h37 (Zc 0) g17
                                      clear g17
                                      have fb := q23p.out (by omega)
                                      have fb2 := q23t.out (by omega)
                                      have fa := q25p.out (by omega)
                                      have fa2 := q25t.out (by omega)
                                      have fa3 := q25s.out (by omega)
                                      have m27P := m27p.out (by omega)
                                      have m29P := m29p.out (by omega)
                                      have z28F := z28f.out (by omega)
                                      have z30F := z30f.out (by omega)
                                      have z31F := z31f.out (by omega)
                                      have z32F := z32f.out (by omega)
                                      refine ⟨fun g18 => ?_, fun g18 => ?_⟩
                                      · have k18 : ((r4 + r6 + 2 : Int) = 0) := Zeqlt h12 (Zc 0) g18
                                        clear g18
                                        omega
                                      · clear g18
                                        refine ⟨fun g19 => ?_, fun g19 => ?_⟩
                                        · have k19 : ((r26 : Int) ≤ 0) := Zleqt h184 (Zc 0) g19
                                          clear g19
                                          refine ⟨fun g20 => ?_, fun g20 => ?_⟩
                                          · have k20 : ((r22 + 1 : Int) ≤ 0) := Zleqt h40 (Zc 0) g20
                                            clear g20
                                            omega
                                          · clear g20
                                            refine ⟨fun g21 => ?_, fun g21 => ?_⟩
                                            · have k21 : ((r22 + 1 : Int) ≤ 1) := Zleqt h40 (Zc 1) g21
                                              clear g21
                                              refine ⟨fun g22 => ?_, fun g22 => ?_⟩
                                              · clear g22
                                                refine ⟨fun g23 => ?_, fun g23 => ?_⟩
                                                · clear g23
                                                  refine ⟨fun g24 => ?_, fun g24 => ?_⟩
                                                  · clear g24
                                                    refine ⟨fun g25 => ?_, fun g25 => ?_⟩
                                                    · have k25 : ((r10 + r12 + 2 : Int) = 0) := Zeqlt h21 (Zc 0) g25
                                                      clear g25
                                                      omega
                                                    · clear g25
                                                      refine ⟨fun g26 => ?_, fun g26 => ?_⟩
                                                      · have k26 : ((r24 : Int) ≤ 0) := Zleqt h66 (Zc 0) g26
                                                        clear g26
                                                        refine ⟨fun g27 => ?_, fun g27 => ?_⟩
                                                        · clear g27
                                                          refine ⟨fun g28 => ?_, fun g28 => ?_⟩
                                                          · have k28 : ((q25 : Int) = 0) := Zeqlt h185 (Zc 0) g28
                                                            clear g28
                                                            omega
                                                          · clear g28
                                                            refine ⟨fun g29 => ?_, fun g29 => ?_⟩
                                                            · have k29 : ((q23 : Int) ≤ 0) := Zleqt h67 (Zc 0) g29
                                                              clear g29
                                                              omega
                                                            · clear g29
                                                              refine ⟨fun g30 => ?_, fun g30 => ?_⟩
                                                              · clear g30
                                                                refine ⟨fun g31 => ?_, fun g31 => ?_⟩
                                                                · clear g31
                                                                  refine ⟨fun g32 => ?_, fun g32 => ?_⟩
                                                                  · clear g32
                                                                    refine ⟨fun g33 => ?_, fun g33 => ?_⟩
                                                                    · clear g33
                                                                      refine ⟨fun g34 => ?_, fun g34 => ?_⟩
                                                                      · clear g34
                                                                        refine ⟨fun g35 => ?_, fun g35 => ?_⟩
                                                                        · exact rfl
                                                                        · have k35 : ¬ ((u17 + (-1000) * z28 : Int) ≤ (-1) * u20 + 1000 * z30) := Zleqf h197 h201 g35
                                                                          clear g35
                                                                          omega
                                                                      · have k34 : ¬ ((0 : Int) ≤ (-1) * r22) := Zleqf (Zc 0) h76 g34
                                                                        clear g34
                                                                        omega
                                                                    · have k33 : ¬ ((1 : Int) ≤ r22 + 1) := Zleqf (Zc 1) h40 g33
                                                                      clear g33
                                                                      omega
                                                                  · have k32 : ¬ ((r2 + (-1) * z30 + 1000 : Int) ≤ 10000000) := Zleqf h193 (Zc 10000000) g32
                                                                    clear g32
                                                                    omega
                                                                · have k31 : ¬ (((-10000000) : Int) ≤ (-1) * r2 + z28 + (-1000)) := Zleqf (Zc (-10000000)) h189 g31
                                                                  clear g31
                                                                  omega
                                                              · have k30 : ¬ (((-1) * r2 + z28 + (-1000) : Int) ≤ r2 + (-1) * z30 + 1000) := Zleqf h189 h193 g30
                                                                clear g30
                                                                omega
                                                        · have k27 : ¬ ((0 : Int) ≤ q25) := Zleqf (Zc 0) h185 g27
                                                          clear g27
                                                          omega
                                                      · have k26 : ¬ ((r24 : Int) ≤ 0) := Zleqf h66 (Zc 0) g26
                                                        clear g26
                                                        refine ⟨fun g27 => ?_, fun g27 => ?_⟩
                                                        · clear g27
                                                          refine ⟨fun g28 => ?_, fun g28 => ?_⟩
                                                          · have k28 : ((q25 : Int) = 0) := Zeqlt h185 (Zc 0) g28
                                                            clear g28
                                                            omega
                                                          · clear g28
                                                            refine ⟨fun g29 => ?_, fun g29 => ?_⟩
                                                            · have k29 : ((q23 + 1 : Int) ≤ 0) := Zleqt h202 (Zc 0) g29
                                                              clear g29
                                                              omega
                                                            · clear g29
                                                              refine ⟨fun g30 => ?_, fun g30 => ?_⟩
                                                              · clear g30
                                                                refine ⟨fun g31 => ?_, fun g31 => ?_⟩
                                                                · clear g31
                                                                  refine ⟨fun g32 => ?_, fun g32 => ?_⟩
                                                                  · clear g32
                                                                    refine ⟨fun g33 => ?_, fun g33 => ?_⟩
                                                                    · clear g33
                                                                      refine ⟨fun g34 => ?_, fun g34 => ?_⟩
                                                                      · clear g34
                                                                        refine ⟨fun g35 => ?_, fun g35 => ?_⟩
                                                                        · exact rfl
                                                                        · have k35 : ¬ ((u17 + (-1000) * z28 : Int) ≤ (-1) * u20 + 1000 * z30) := Zleqf h197 h201 g35
                                                                          clear g35
                                                                          omega
                                                                      · have k34 : ¬ ((0 : Int) ≤ (-1) * r22) := Zleqf (Zc 0) h76 g34
                                                                        clear g34
                                                                        omega
                                                                    · have k33 : ¬ ((1 : Int) ≤ r22 + 1) := Zleqf (Zc 1) h40 g33
                                                                      clear g33
                                                                      omega
                                                                  · have k32 : ¬ ((r2 + (-1) * z30 + 1000 : Int) ≤ 10000000) := Zleqf h193 (Zc 10000000) g32
                                                                    clear g32
                                                                    omega
                                                                · have k31 : ¬ (((-10000000) : Int) ≤ (-1) * r2 + z28 + (-1000)) := Zleqf (Zc (-10000000)) h189 g31
                                                                  clear g31
                                                                  omega
                                                              · have k30 : ¬ (((-1) * r2 + z28 + (-1000) : Int) ≤ r2 + (-1) * z30 + 1000) := Zleqf h189 h193 g30
                                                                clear g30
                                                                omega
                                                        · have k27 : ¬ ((0 : Int) ≤ q25) := Zleqf (Zc 0) h185 g27
                                                          clear g27
                                                          omega
                                                  · have k24 : ¬ ((r2 + 1000 : Int) ≤ 10000000) := Zleqf h46 (Zc 10000000) g24
                                                    clear g24
                                                    omega
                                                · have k23 : ¬ (((-1) * r2 + (-1000) : Int) ≤ r2 + 1000) := Zleqf h44 h46 g23
                                                  clear g23
                                                  omega
                                              · have k22 : ¬ (((-10000000) : Int) ≤ (-1) * r2 + (-1000)) := Zleqf (Zc (-10000000)) h44 g22
                                                clear g22
                                                omega
                                            · have k21 : ¬ ((r22 + 1 : Int) ≤ 1) := Zleqf h40 (Zc 1) g21
                                              clear g21
                                              refine ⟨fun g22 => ?_, fun g22 => ?_⟩
                                              · have k22 : ((r22 + 1 : Int) ≤ 2) := Zleqt h40 (Zc 2) g22
                                                clear g22
                                                refine ⟨fun g23 => ?_, fun g23 => ?_⟩
                                                · clear g23
                                                  refine ⟨fun g24 => ?_, fun g24 => ?_⟩
                                                  · clear g24
                                                    refine ⟨fun g25 => ?_, fun g25 => ?_⟩
                                                    · clear g25
                                                      refine ⟨fun g26 => ?_, fun g26 => ?_⟩
                                                      · clear g26
                                                        refine ⟨fun g27 => ?_, fun g27 => ?_⟩
                                                        · clear g27
                                                          refine ⟨fun g28 => ?_, fun g28 => ?_⟩
                                                          · have k28 : ((r10 + r12 + 2 : Int) = 0) := Zeqlt h21 (Zc 0) g28
                                                            clear g28
                                                            omega
                                                          · clear g28
                                                            refine ⟨fun g29 => ?_, fun g29 => ?_⟩
                                                            · have k29 : ((r24 : Int) ≤ 0) := Zleqt h105 (Zc 0) g29
                                                              clear g29
                                                              refine ⟨fun g30 => ?_, fun g30 => ?_⟩
                                                              · clear g30
                                                                refine ⟨fun g31 => ?_, fun g31 => ?_⟩
                                                                · have k31 : ((q25 : Int) = 0) := Zeqlt h185 (Zc 0) g31
                                                                  clear g31
                                                                  omega
                                                                · clear g31
                                                                  refine ⟨fun g32 => ?_, fun g32 => ?_⟩
                                                                  · have k32 : ((q23 : Int) ≤ 0) := Zleqt h106 (Zc 0) g32
                                                                    clear g32
                                                                    omega
                                                                  · clear g32
                                                                    refine ⟨fun g33 => ?_, fun g33 => ?_⟩
                                                                    · clear g33
                                                                      refine ⟨fun g34 => ?_, fun g34 => ?_⟩
                                                                      · clear g34
                                                                        refine ⟨fun g35 => ?_, fun g35 => ?_⟩
                                                                        · clear g35
                                                                          refine ⟨fun g36 => ?_, fun g36 => ?_⟩
                                                                          · clear g36
                                                                            refine ⟨fun g37 => ?_, fun g37 => ?_⟩
                                                                            · clear g37
                                                                              refine ⟨fun g38 => ?_, fun g38 => ?_⟩
                                                                              · clear g38
                                                                                refine ⟨fun g39 => ?_, fun g39 => ?_⟩
                                                                                · clear g39
                                                                                  refine ⟨fun g40 => ?_, fun g40 => ?_⟩
                                                                                  · exact rfl
                                                                                  · have k40 : ¬ ((u17 + (-1000) * z28 : Int) ≤ (-1) * u20 + 1000 * z30) := Zleqf h208 h212 g40
                                                                                    clear g40
                                                                                    omega
                                                                                · have k39 : ¬ ((0 : Int) ≤ (-1) * r22 + 1) := Zleqf (Zc 0) h109 g39
                                                                                  clear g39
                                                                                  omega
                                                                              · have k38 : ¬ ((1 : Int) ≤ r22 + 1) := Zleqf (Zc 1) h40 g38
                                                                                clear g38
                                                                                omega
                                                                            · have k37 : ¬ ((5 * r2 + (-1) * z30 + 5000 : Int) ≤ 10000000) := Zleqf h204 (Zc 10000000) g37
                                                                              clear g37
                                                                              omega
                                                                          · have k36 : ¬ ((r2 + (-1) * z30 + 1000 : Int) ≤ 3 * r2 + z28 + 3000) := Zleqf h193 h203 g36
                                                                            clear g36
                                                                            omega
                                                                        · have k35 : ¬ (((-10000000) : Int) ≤ (-1) * r2 + z28 + (-1000)) := Zleqf (Zc (-10000000)) h189 g35
                                                                          clear g35
                                                                          omega
                                                                      · have k34 : ¬ ((3 * r2 + z28 + 3000 : Int) ≤ 5 * r2 + (-1) * z30 + 5000) := Zleqf h203 h204 g34
                                                                        clear g34
                                                                        omega
                                                                    · have k33 : ¬ (((-1) * r2 + z28 + (-1000) : Int) ≤ r2 + (-1) * z30 + 1000) := Zleqf h189 h193 g33
                                                                      clear g33
                                                                      omega
                                                              · have k30 : ¬ ((0 : Int) ≤ q25) := Zleqf (Zc 0) h185 g30
                                                                clear g30
                                                                omega
                                                            · have k29 : ¬ ((r24 : Int) ≤ 0) := Zleqf h105 (Zc 0) g29
                                                              clear g29
                                                              refine ⟨fun g30 => ?_, fun g30 => ?_⟩
                                                              · clear g30
                                                                refine ⟨fun g31 => ?_, fun g31 => ?_⟩
                                                                · have k31 : ((q25 : Int) = 0) := Zeqlt h185 (Zc 0) g31
                                                                  clear g31
                                                                  omega
                                                                · clear g31
                                                                  refine ⟨fun g32 => ?_, fun g32 => ?_⟩
                                                                  · have k32 : ((q23 + 1 : Int) ≤ 0) := Zleqt h213 (Zc 0) g32
                                                                    clear g32
                                                                    omega
                                                                  · clear g32
                                                                    refine ⟨fun g33 => ?_, fun g33 => ?_⟩
                                                                    · clear g33
                                                                      refine ⟨fun g34 => ?_, fun g34 => ?_⟩
                                                                      · clear g34
                                                                        refine ⟨fun g35 => ?_, fun g35 => ?_⟩
                                                                        · clear g35
                                                                          refine ⟨fun g36 => ?_, fun g36 => ?_⟩
                                                                          · clear g36
                                                                            refine ⟨fun g37 => ?_, fun g37 => ?_⟩
                                                                            · clear g37
                                                                              refine ⟨fun g38 => ?_, fun g38 => ?_⟩
                                                                              · clear g38
                                                                                refine ⟨fun g39 => ?_, fun g39 => ?_⟩
                                                                                · clear g39
                                                                                  refine ⟨fun g40 => ?_, fun g40 => ?_⟩
                                                                                  · exact rfl
                                                                                  · have k40 : ¬ ((u17 + (-1000) * z28 : Int) ≤ (-1) * u20 + 1000 * z30) := Zleqf h208 h212 g40
                                                                                    clear g40
                                                                                    omega
                                                                                · have k39 : ¬ ((0 : Int) ≤ (-1) * r22 + 1) := Zleqf (Zc 0) h109 g39
                                                                                  clear g39
                                                                                  omega
                                                                              · have k38 : ¬ ((1 : Int) ≤ r22 + 1) := Zleqf (Zc 1) h40 g38
                                                                                clear g38
                                                                                omega
                                                                            · have k37 : ¬ ((5 * r2 + (-1) * z30 + 5000 : Int) ≤ 10000000) := Zleqf h204 (Zc 10000000) g37
                                                                              clear g37
                                                                              omega
                                                                          · have k36 : ¬ ((r2 + (-1) * z30 + 1000 : Int) ≤ 3 * r2 + z28 + 3000) := Zleqf h193 h203 g36
                                                                            clear g36
                                                                            omega
                                                                        · have k35 : ¬ (((-10000000) : Int) ≤ (-1) * r2 + z28 + (-1000)) := Zleqf (Zc (-10000000)) h189 g35
                                                                          clear g35
                                                                          omega
                                                                      · have k34 : ¬ ((3 * r2 + z28 + 3000 : Int) ≤ 5 * r2 + (-1) * z30 + 5000) := Zleqf h203 h204 g34
                                                                        clear g34
                                                                        omega
                                                                    · have k33 : ¬ (((-1) * r2 + z28 + (-1000) : Int) ≤ r2 + (-1) * z30 + 1000) := Zleqf h189 h193 g33
                                                                      clear g33
                                                                      omega
                                                              · have k30 : ¬ ((0 : Int) ≤ q25) := Zleqf (Zc 0) h185 g30
                                                                clear g30
                                                                omega
                                                        · have k27 : ¬ ((5 * r2 + 5000 : Int) ≤ 10000000) := Zleqf h89 (Zc 10000000) g27
                                                          clear g27
                                                          omega
                                                      · have k26 : ¬ ((3 * r2 + 3000 : Int) ≤ 5 * r2 + 5000) := Zleqf h87 h89 g26
                                                        clear g26
                                                        omega
                                                    · have k25 : ¬ ((r2 + 1000 : Int) ≤ 3 * r2 + 3000) := Zleqf h46 h87 g25
                                                      clear g25
                                                      omega
                                                  · have k24 : ¬ (((-1) * r2 + (-1000) : Int) ≤ r2 + 1000) := Zleqf h44 h46 g24
                                                    clear g24
                                                    omega
                                                · have k23 : ¬ (((-10000000) : Int) ≤ (-1) * r2 + (-1000)) := Zleqf (Zc (-10000000)) h44 g23
                                                  clear g23
                                                  omega
                                              · have k22 : ¬ ((r22 + 1 : Int) ≤ 2) := Zleqf h40 (Zc 2) g22
                                                clear g22
                                                refine ⟨fun g23 => ?_, fun g23 => ?_⟩
                                                · have k23 : ((r22 + 1 : Int) ≤ 3) := Zleqt h40 (Zc 3) g23
                                                  clear g23
                                                  refine ⟨fun g24 => ?_, fun g24 => ?_⟩
                                                  · clear g24
                                                    refine ⟨fun g25 => ?_, fun g25 => ?_⟩
                                                    · clear g25
                                                      refine ⟨fun g26 => ?_, fun g26 => ?_⟩
                                                      · clear g26
                                                        refine ⟨fun g27 => ?_, fun g27 => ?_⟩
                                                        · clear g27
                                                          refine ⟨fun g28 => ?_, fun g28 => ?_⟩
                                                          · clear g28
                                                            refine ⟨fun g29 => ?_, fun g29 => ?_⟩
                                                            · clear g29
                                                              refine ⟨fun g30 => ?_, fun g30 => ?_⟩
                                                              · clear g30
                                                                refine ⟨fun g31 => ?_, fun g31 => ?_⟩
                                                                · have k31 : ((r10 + r12 + 2 : Int) = 0) := Zeqlt h21 (Zc 0) g31
                                                                  clear g31
                                                                  omega
                                                                · clear g31
                                                                  refine ⟨fun g32 => ?_, fun g32 => ?_⟩
                                                                  · have k32 : ((r24 : Int) ≤ 0) := Zleqt h138 (Zc 0) g32
                                                                    clear g32
                                                                    refine ⟨fun g33 => ?_, fun g33 => ?_⟩
                                                                    · clear g33
                                                                      refine ⟨fun g34 => ?_, fun g34 => ?_⟩
                                                                      · have k34 : ((q25 : Int) = 0) := Zeqlt h185 (Zc 0) g34
                                                                        clear g34
                                                                        omega
                                                                      · clear g34
                                                                        refine ⟨fun g35 => ?_, fun g35 => ?_⟩
                                                                        · have k35 : ((q23 : Int) ≤ 0) := Zleqt h139 (Zc 0) g35
                                                                          clear g35
                                                                          omega
                                                                        · clear g35
                                                                          refine ⟨fun g36 => ?_, fun g36 => ?_⟩
                                                                          · clear g36
                                                                            refine ⟨fun g37 => ?_, fun g37 => ?_⟩
                                                                            · clear g37
                                                                              refine ⟨fun g38 => ?_, fun g38 => ?_⟩
                                                                              · clear g38
                                                                                refine ⟨fun g39 => ?_, fun g39 => ?_⟩
                                                                                · clear g39
                                                                                  refine ⟨fun g40 => ?_, fun g40 => ?_⟩
                                                                                  · clear g40
                                                                                    refine ⟨fun g41 => ?_, fun g41 => ?_⟩
                                                                                    · clear g41
                                                                                      refine ⟨fun g42 => ?_, fun g42 => ?_⟩
                                                                                      · clear g42
                                                                                        refine ⟨fun g43 => ?_, fun g43 => ?_⟩
                                                                                        · clear g43
                                                                                          refine ⟨fun g44 => ?_, fun g44 => ?_⟩
                                                                                          · clear g44
                                                                                            refine ⟨fun g45 => ?_, fun g45 => ?_⟩
                                                                                            · exact rfl
                                                                                            · have k45 : ¬ ((u17 + (-1000) * z28 : Int) ≤ (-1) * u20 + 1000 * z30) := Zleqf h219 h223 g45
                                                                                              clear g45
                                                                                              omega
                                                                                          · have k44 : ¬ ((0 : Int) ≤ (-1) * r22 + 2) := Zleqf (Zc 0) h142 g44
                                                                                            clear g44
                                                                                            omega
                                                                                        · have k43 : ¬ ((1 : Int) ≤ r22 + 1) := Zleqf (Zc 1) h40 g43
                                                                                          clear g43
                                                                                          omega
                                                                                      · have k42 : ¬ ((9 * r2 + (-1) * z30 + 9000 : Int) ≤ 10000000) := Zleqf h215 (Zc 10000000) g42
                                                                                        clear g42
                                                                                        omega
                                                                                    · have k41 : ¬ ((5 * r2 + (-1) * z30 + 5000 : Int) ≤ 7 * r2 + z28 + 7000) := Zleqf h204 h214 g41
                                                                                      clear g41
                                                                                      omega
                                                                                  · have k40 : ¬ ((r2 + (-1) * z30 + 1000 : Int) ≤ 3 * r2 + z28 + 3000) := Zleqf h193 h203 g40
                                                                                    clear g40
                                                                                    omega
                                                                                · have k39 : ¬ (((-10000000) : Int) ≤ (-1) * r2 + z28 + (-1000)) := Zleqf (Zc (-10000000)) h189 g39
                                                                                  clear g39
                                                                                  omega
                                                                              · have k38 : ¬ ((7 * r2 + z28 + 7000 : Int) ≤ 9 * r2 + (-1) * z30 + 9000) := Zleqf h214 h215 g38
                                                                                clear g38
                                                                                omega
                                                                            · have k37 : ¬ ((3 * r2 + z28 + 3000 : Int) ≤ 5 * r2 + (-1) * z30 + 5000) := Zleqf h203 h204 g37
                                                                              clear g37
                                                                              omega
                                                                          · have k36 : ¬ (((-1) * r2 + z28 + (-1000) : Int) ≤ r2 + (-1) * z30 + 1000) := Zleqf h189 h193 g36
                                                                            clear g36
                                                                            omega
                                                                    · have k33 : ¬ ((0 : Int) ≤ q25) := Zleqf (Zc 0) h185 g33
                                                                      clear g33
                                                                      omega
                                                                  · have k32 : ¬ ((r24 : Int) ≤ 0) := Zleqf h138 (Zc 0) g32
                                                                    clear g32
                                                                    refine ⟨fun g33 => ?_, fun g33 => ?_⟩
                                                                    · clear g33
                                                                      refine ⟨fun g34 => ?_, fun g34 => ?_⟩
                                                                      · have k34 : ((q25 : Int) = 0) := Zeqlt h185 (Zc 0) g34
                                                                        clear g34
                                                                        omega
                                                                      · clear g34
                                                                        refine ⟨fun g35 => ?_, fun g35 => ?_⟩
                                                                        · have k35 : ((q23 + 1 : Int) ≤ 0) := Zleqt h224 (Zc 0) g35
                                                                          clear g35
                                                                          omega
                                                                        · clear g35
                                                                          refine ⟨fun g36 => ?_, fun g36 => ?_⟩
                                                                          · clear g36
                                                                            refine ⟨fun g37 => ?_, fun g37 => ?_⟩
                                                                            · clear g37
                                                                              refine ⟨fun g38 => ?_, fun g38 => ?_⟩
                                                                              · clear g38
                                                                                refine ⟨fun g39 => ?_, fun g39 => ?_⟩
                                                                                · clear g39
                                                                                  refine ⟨fun g40 => ?_, fun g40 => ?_⟩
                                                                                  · clear g40
                                                                                    refine ⟨fun g41 => ?_, fun g41 => ?_⟩
                                                                                    · clear g41
                                                                                      refine ⟨fun g42 => ?_, fun g42 => ?_⟩
                                                                                      · clear g42
                                                                                        refine ⟨fun g43 => ?_, fun g43 => ?_⟩
                                                                                        · clear g43
                                                                                          refine ⟨fun g44 => ?_, fun g44 => ?_⟩
                                                                                          · clear g44
                                                                                            refine ⟨fun g45 => ?_, fun g45 => ?_⟩
                                                                                            · exact rfl
                                                                                            · have k45 : ¬ ((u17 + (-1000) * z28 : Int) ≤ (-1) * u20 + 1000 * z30) := Zleqf h219 h223 g45
                                                                                              clear g45
                                                                                              omega
                                                                                          · have k44 : ¬ ((0 : Int) ≤ (-1) * r22 + 2) := Zleqf (Zc 0) h142 g44
                                                                                            clear g44
                                                                                            omega
                                                                                        · have k43 : ¬ ((1 : Int) ≤ r22 + 1) := Zleqf (Zc 1) h40 g43
                                                                                          clear g43
                                                                                          omega
                                                                                      · have k42 : ¬ ((9 * r2 + (-1) * z30 + 9000 : Int) ≤ 10000000) := Zleqf h215 (Zc 10000000) g42
                                                                                        clear g42
                                                                                        omega
                                                                                    · have k41 : ¬ ((5 * r2 + (-1) * z30 + 5000 : Int) ≤ 7 * r2 + z28 + 7000) := Zleqf h204 h214 g41
                                                                                      clear g41
                                                                                      omega
                                                                                  · have k40 : ¬ ((r2 + (-1) * z30 + 1000 : Int) ≤ 3 * r2 + z28 + 3000) := Zleqf h193 h203 g40
                                                                                    clear g40
                                                                                    omega
                                                                                · have k39 : ¬ (((-10000000) : Int) ≤ (-1) * r2 + z28 + (-1000)) := Zleqf (Zc (-10000000)) h189 g39
                                                                                  clear g39
                                                                                  omega
                                                                              · have k38 : ¬ ((7 * r2 + z28 + 7000 : Int) ≤ 9 * r2 + (-1) * z30 + 9000) := Zleqf h214 h215 g38
                                                                                clear g38
                                                                                omega
                                                                            · have k37 : ¬ ((3 * r2 + z28 + 3000 : Int) ≤ 5 * r2 + (-1) * z30 + 5000) := Zleqf h203 h204 g37
                                                                              clear g37
                                                                              omega
                                                                          · have k36 : ¬ (((-1) * r2 + z28 + (-1000) : Int) ≤ r2 + (-1) * z30 + 1000) := Zleqf h189 h193 g36
                                                                            clear g36
                                                                            omega
                                                                    · have k33 : ¬ ((0 : Int) ≤ q25) := Zleqf (Zc 0) h185 g33
                                                                      clear g33
                                                                      omega
                                                              · have k30 : ¬ ((9 * r2 + 9000 : Int) ≤ 10000000) := Zleqf h122 (Zc 10000000) g30
                                                                clear g30
                                                                omega
                                                            · have k29 : ¬ ((7 * r2 + 7000 : Int) ≤ 9 * r2 + 9000) := Zleqf h120 h122 g29
                                                              clear g29
                                                              omega
                                                          · have k28 : ¬ ((5 * r2 + 5000 : Int) ≤ 7 * r2 + 7000) := Zleqf h89 h120 g28
                                                            clear g28
                                                            omega
                                                        · have k27 : ¬ ((3 * r2 + 3000 : Int) ≤ 5 * r2 + 5000) := Zleqf h87 h89 g27
                                                          clear g27
                                                          omega
                                                      · have k26 : ¬ ((r2 + 1000 : Int) ≤ 3 * r2 + 3000) := Zleqf h46 h87 g26
                                                        clear g26
                                                        omega
                                                    · have k25 : ¬ (((-1) * r2 + (-1000) : Int) ≤ r2 + 1000) := Zleqf h44 h46 g25
                                                      clear g25
                                                      omega
                                                  · have k24 : ¬ (((-10000000) : Int) ≤ (-1) * r2 + (-1000)) := Zleqf (Zc (-10000000)) h44 g24
                                                    clear g24
                                                    omega
                                                · have k23 : ¬ ((r22 + 1 : Int) ≤ 3) := Zleqf h40 (Zc 3) g23
                                                  clear g23
                                                  refine ⟨fun g24 => ?_, fun g24 => ?_⟩
                                                  · clear g24
                                                    refine ⟨fun g25 => ?_, fun g25 => ?_⟩
                                                    · clear g25
                                                      refine ⟨fun g26 => ?_, fun g26 => ?_⟩
                                                      · clear g26
                                                        refine ⟨fun g27 => ?_, fun g27 => ?_⟩
                                                        · clear g27
                                                          refine ⟨fun g28 => ?_, fun g28 => ?_⟩
                                                          · clear g28
                                                            refine ⟨fun g29 => ?_, fun g29 => ?_⟩
                                                            · clear g29
                                                              refine ⟨fun g30 => ?_, fun g30 => ?_⟩
                                                              · clear g30
                                                                refine ⟨fun g31 => ?_, fun g31 => ?_⟩
                                                                · clear g31
                                                                  refine ⟨fun g32 => ?_, fun g32 => ?_⟩
                                                                  · clear g32
                                                                    refine ⟨fun g33 => ?_, fun g33 => ?_⟩
                                                                    · clear g33
                                                                      refine ⟨fun g34 => ?_, fun g34 => ?_⟩
                                                                      · have k34 : ((r10 + r12 + 2 : Int) = 0) := Zeqlt h21 (Zc 0) g34
                                                                        clear g34
                                                                        omega
                                                                      · clear g34
                                                                        refine ⟨fun g35 => ?_, fun g35 => ?_⟩
                                                                        · have k35 : ((r24 : Int) ≤ 0) := Zleqt h171 (Zc 0) g35
                                                                          clear g35
                                                                          refine ⟨fun g36 => ?_, fun g36 => ?_⟩
                                                                          · clear g36
                                                                            refine ⟨fun g37 => ?_, fun g37 => ?_⟩
                                                                            · have k37 : ((q25 : Int) = 0) := Zeqlt h185 (Zc 0) g37
                                                                              clear g37
                                                                              omega
                                                                            · clear g37
                                                                              refine ⟨fun g38 => ?_, fun g38 => ?_⟩
                                                                              · have k38 : ((q23 : Int) ≤ 0) := Zleqt h172 (Zc 0) g38
                                                                                clear g38
                                                                                omega
                                                                              · clear g38
                                                                                refine ⟨fun g39 => ?_, fun g39 => ?_⟩
                                                                                · clear g39
                                                                                  refine ⟨fun g40 => ?_, fun g40 => ?_⟩
                                                                                  · clear g40
                                                                                    refine ⟨fun g41 => ?_, fun g41 => ?_⟩
                                                                                    · clear g41
                                                                                      refine ⟨fun g42 => ?_, fun g42 => ?_⟩
                                                                                      · clear g42
                                                                                        refine ⟨fun g43 => ?_, fun g43 => ?_⟩
                                                                                        · clear g43
                                                                                          refine ⟨fun g44 => ?_, fun g44 => ?_⟩
                                                                                          · clear g44
                                                                                            refine ⟨fun g45 => ?_, fun g45 => ?_⟩
                                                                                            · clear g45
                                                                                              refine ⟨fun g46 => ?_, fun g46 => ?_⟩
                                                                                              · clear g46
                                                                                                refine ⟨fun g47 => ?_, fun g47 => ?_⟩
                                                                                                · clear g47
                                                                                                  refine ⟨fun g48 => ?_, fun g48 => ?_⟩
                                                                                                  · clear g48
                                                                                                    refine ⟨fun g49 => ?_, fun g49 => ?_⟩
                                                                                                    · clear g49
                                                                                                      refine ⟨fun g50 => ?_, fun g50 => ?_⟩
                                                                                                      · exact rfl
                                                                                                      · have k50 : ¬ ((u17 + (-1000) * z28 : Int) ≤ (-1) * u20 + 1000 * z30) := Zleqf h230 h234 g50
                                                                                                        clear g50
                                                                                                        omega
                                                                                                    · have k49 : ¬ ((0 : Int) ≤ (-1) * r22 + 3) := Zleqf (Zc 0) h175 g49
                                                                                                      clear g49
                                                                                                      omega
                                                                                                  · have k48 : ¬ ((1 : Int) ≤ r22 + 1) := Zleqf (Zc 1) h40 g48
                                                                                                    clear g48
                                                                                                    omega
                                                                                                · have k47 : ¬ ((13 * r2 + (-1) * z30 + 13000 : Int) ≤ 10000000) := Zleqf h226 (Zc 10000000) g47
                                                                                                  clear g47
                                                                                                  omega
                                                                                              · have k46 : ¬ ((9 * r2 + (-1) * z30 + 9000 : Int) ≤ 11 * r2 + z28 + 11000) := Zleqf h215 h225 g46
                                                                                                clear g46
                                                                                                omega
                                                                                            · have k45 : ¬ ((5 * r2 + (-1) * z30 + 5000 : Int) ≤ 7 * r2 + z28 + 7000) := Zleqf h204 h214 g45
                                                                                              clear g45
                                                                                              omega
                                                                                          · have k44 : ¬ ((r2 + (-1) * z30 + 1000 : Int) ≤ 3 * r2 + z28 + 3000) := Zleqf h193 h203 g44
                                                                                            clear g44
                                                                                            omega
                                                                                        · have k43 : ¬ (((-10000000) : Int) ≤ (-1) * r2 + z28 + (-1000)) := Zleqf (Zc (-10000000)) h189 g43
                                                                                          clear g43
                                                                                          omega
                                                                                      · have k42 : ¬ ((11 * r2 + z28 + 11000 : Int) ≤ 13 * r2 + (-1) * z30 + 13000) := Zleqf h225 h226 g42
                                                                                        clear g42
                                                                                        omega
                                                                                    · have k41 : ¬ ((7 * r2 + z28 + 7000 : Int) ≤ 9 * r2 + (-1) * z30 + 9000) := Zleqf h214 h215 g41
                                                                                      clear g41
                                                                                      omega
                                                                                  · have k40 : ¬ ((3 * r2 + z28 + 3000 : Int) ≤ 5 * r2 + (-1) * z30 + 5000) := Zleqf h203 h204 g40
                                                                                    clear g40
                                                                                    omega
                                                                                · have k39 : ¬ (((-1) * r2 + z28 + (-1000) : Int) ≤ r2 + (-1) * z30 + 1000) := Zleqf h189 h193 g39
                                                                                  clear g39
                                                                                  omega
                                                                          · have k36 : ¬ ((0 : Int) ≤ q25) := Zleqf (Zc 0) h185 g36
                                                                            clear g36
                                                                            omega
                                                                        · have k35 : ¬ ((r24 : Int) ≤ 0) := Zleqf h171 (Zc 0) g35
                                                                          clear g35
                                                                          refine ⟨fun g36 => ?_, fun g36 => ?_⟩
                                                                          · clear g36
                                                                            refine ⟨fun g37 => ?_, fun g37 => ?_⟩
                                                                            · have k37 : ((q25 : Int) = 0) := Zeqlt h185 (Zc 0) g37
                                                                              clear g37
                                                                              omega
                                                                            · clear g37
                                                                              refine ⟨fun g38 => ?_, fun g38 => ?_⟩
                                                                              · have k38 : ((q23 + 1 : Int) ≤ 0) := Zleqt h235 (Zc 0) g38
                                                                                clear g38
                                                                                omega
                                                                              · clear g38
                                                                                refine ⟨fun g39 => ?_, fun g39 => ?_⟩
                                                                                · clear g39
                                                                                  refine ⟨fun g40 => ?_, fun g40 => ?_⟩
                                                                                  · clear g40
                                                                                    refine ⟨fun g41 => ?_, fun g41 => ?_⟩
                                                                                    · clear g41
                                                                                      refine ⟨fun g42 => ?_, fun g42 => ?_⟩
                                                                                      · clear g42
                                                                                        refine ⟨fun g43 => ?_, fun g43 => ?_⟩
                                                                                        · clear g43
                                                                                          refine ⟨fun g44 => ?_, fun g44 => ?_⟩
                                                                                          · clear g44
                                                                                            refine ⟨fun g45 => ?_, fun g45 => ?_⟩
                                                                                            · clear g45
                                                                                              refine ⟨fun g46 => ?_, fun g46 => ?_⟩
                                                                                              · clear g46
                                                                                                refine ⟨fun g47 => ?_, fun g47 => ?_⟩
                                                                                                · clear g47
                                                                                                  refine ⟨fun g48 => ?_, fun g48 => ?_⟩
                                                                                                  · clear g48
                                                                                                    refine ⟨fun g49 => ?_, fun g49 => ?_⟩
                                                                                                    · clear g49
                                                                                                      refine ⟨fun g50 => ?_, fun g50 => ?_⟩
                                                                                                      · exact rfl
                                                                                                      · have k50 : ¬ ((u17 + (-1000) * z28 : Int) ≤ (-1) * u20 + 1000 * z30) := Zleqf h230 h234 g50
                                                                                                        clear g50
                                                                                                        omega
                                                                                                    · have k49 : ¬ ((0 : Int) ≤ (-1) * r22 + 3) := Zleqf (Zc 0) h175 g49
                                                                                                      clear g49
                                                                                                      omega
                                                                                                  · have k48 : ¬ ((1 : Int) ≤ r22 + 1) := Zleqf (Zc 1) h40 g48
                                                                                                    clear g48
                                                                                                    omega
                                                                                                · have k47 : ¬ ((13 * r2 + (-1) * z30 + 13000 : Int) ≤ 10000000) := Zleqf h226 (Zc 10000000) g47
                                                                                                  clear g47
                                                                                                  omega
                                                                                              · have k46 : ¬ ((9 * r2 + (-1) * z30 + 9000 : Int) ≤ 11 * r2 + z28 + 11000) := Zleqf h215 h225 g46
                                                                                                clear g46
                                                                                                omega
                                                                                            · have k45 : ¬ ((5 * r2 + (-1) * z30 + 5000 : Int) ≤ 7 * r2 + z28 + 7000) := Zleqf h204 h214 g45
                                                                                              clear g45
                                                                                              omega
                                                                                          · have k44 : ¬ ((r2 + (-1) * z30 + 1000 : Int) ≤ 3 * r2 + z28 + 3000) := Zleqf h193 h203 g44
                                                                                            clear g44
                                                                                            omega
                                                                                        · have k43 : ¬ (((-10000000) : Int) ≤ (-1) * r2 + z28 + (-1000)) := Zleqf (Zc (-10000000)) h189 g43
                                                                                          clear g43
                                                                                          omega
                                                                                      · have k42 : ¬ ((11 * r2 + z28 + 11000 : Int) ≤ 13 * r2 + (-1) * z30 + 13000) := Zleqf h225 h226 g42
                                                                                        clear g42
                                                                                        omega
                                                                                    · have k41 : ¬ ((7 * r2 + z28 + 7000 : Int) ≤ 9 * r2 + (-1) * z30 + 9000) := Zleqf h214 h215 g41
                                                                                      clear g41
                                                                                      omega
                                                                                  · have k40 : ¬ ((3 * r2 + z28 + 3000 : Int) ≤ 5 * r2 + (-1) * z30 + 5000) := Zleqf h203 h204 g40
                                                                                    clear g40
                                                                                    omega
                                                                                · have k39 : ¬ (((-1) * r2 + z28 + (-1000) : Int) ≤ r2 + (-1) * z30 + 1000) := Zleqf h189 h193 g39
                                                                                  clear g39
                                                                                  omega
                                                                          · have k36 : ¬ ((0 : Int) ≤ q25) := Zleqf (Zc 0) h185 g36
                                                                            clear g36
                                                                            omega
                                                                    · have k33 : ¬ ((13 * r2 + 13000 : Int) ≤ 10000000) := Zleqf h155 (Zc 10000000) g33
                                                                      clear g33
                                                                      omega
                                                                  · have k32 : ¬ ((11 * r2 + 11000 : Int) ≤ 13 * r2 + 13000) := Zleqf h153 h155 g32
                                                                    clear g32
                                                                    omega
                                                                · have k31 : ¬ ((9 * r2 + 9000 : Int) ≤ 11 * r2 + 11000) := Zleqf h122 h153 g31
                                                                  clear g31
                                                                  omega
                                                              · have k30 : ¬ ((7 * r2 + 7000 : Int) ≤ 9 * r2 + 9000) := Zleqf h120 h122 g30
                                                                clear g30
                                                                omega
                                                            · have k29 : ¬ ((5 * r2 + 5000 : Int) ≤ 7 * r2 + 7000) := Zleqf h89 h120 g29
                                                              clear g29
                                                              omega
                                                          · have k28 : ¬ ((3 * r2 + 3000 : Int) ≤ 5 * r2 + 5000) := Zleqf h87 h89 g28
                                                            clear g28
                                                            omega
                                                        · have k27 : ¬ ((r2 + 1000 : Int) ≤ 3 * r2 + 3000) := Zleqf h46 h87 g27
                                                          clear g27
                                                          omega
                                                      · have k26 : ¬ (((-1) * r2 + (-1000) : Int) ≤ r2 + 1000) := Zleqf h44 h46 g26
                                                        clear g26
                                                        omega
                                                    · have k25 : ¬ (((-10000000) : Int) ≤ (-1) * r2 + (-1000)) := Zleqf (Zc (-10000000)) h44 g25
                                                      clear g25
                                                      omega
                                                  · have k24 : ¬ ((r22 + 1 : Int) ≤ 4) := Zleqf h40 (Zc 4) g24
                                                    clear g24
                                                    omega
                                        · have k19 : ¬ ((r26 : Int) ≤ 0) := Zleqf h184 (Zc 0) g19
                                          clear g19
                                          refine ⟨fun g20 => ?_, fun g20 => ?_⟩
                                          · have k20 : ((r22 + 1 : Int) ≤ 0) := Zleqt h40 (Zc 0) g20
                                            clear g20
                                            omega
                                          · clear g20
                                            refine ⟨fun g21 => ?_, fun g21 => ?_⟩
                                            · have k21 : ((r22 + 1 : Int) ≤ 1) := Zleqt h40 (Zc 1) g21
                                              clear g21
                                              refine ⟨fun g22 => ?_, fun g22 => ?_⟩
                                              · clear g22
                                                refine ⟨fun g23 => ?_, fun g23 => ?_⟩
                                                · clear g23
                                                  refine ⟨fun g24 => ?_, fun g24 => ?_⟩
                                                  · clear g24
                                                    refine ⟨fun g25 => ?_, fun g25 => ?_⟩
                                                    · have k25 : ((r10 + r12 + 2 : Int) = 0) := Zeqlt h21 (Zc 0) g25
                                                      clear g25
                                                      omega
                                                    · clear g25
                                                      refine ⟨fun g26 => ?_, fun g26 => ?_⟩
                                                      · have k26 : ((r24 : Int) ≤ 0) := Zleqt h66 (Zc 0) g26
                                                        clear g26
                                                        refine ⟨fun g27 => ?_, fun g27 => ?_⟩
                                                        · clear g27
                                                          refine ⟨fun g28 => ?_, fun g28 => ?_⟩
                                                          · have k28 : ((q25 + 1 : Int) = 0) := Zeqlt h236 (Zc 0) g28
                                                            clear g28
                                                            omega
                                                          · clear g28
                                                            refine ⟨fun g29 => ?_, fun g29 => ?_⟩
                                                            · have k29 : ((q23 : Int) ≤ 0) := Zleqt h67 (Zc 0) g29
                                                              clear g29
                                                              omega
                                                            · clear g29
                                                              refine ⟨fun g30 => ?_, fun g30 => ?_⟩
                                                              · clear g30
                                                                refine ⟨fun g31 => ?_, fun g31 => ?_⟩
                                                                · clear g31
                                                                  refine ⟨fun g32 => ?_, fun g32 => ?_⟩
                                                                  · clear g32
                                                                    refine ⟨fun g33 => ?_, fun g33 => ?_⟩
                                                                    · clear g33
                                                                      refine ⟨fun g34 => ?_, fun g34 => ?_⟩
                                                                      · clear g34
                                                                        refine ⟨fun g35 => ?_, fun g35 => ?_⟩
                                                                        · exact rfl
                                                                        · have k35 : ¬ ((u17 + (-1000) * z31 : Int) ≤ (-1) * u20 + 1000 * z32) := Zleqf h248 h252 g35
                                                                          clear g35
                                                                          omega
                                                                      · have k34 : ¬ ((0 : Int) ≤ (-1) * r22) := Zleqf (Zc 0) h76 g34
                                                                        clear g34
                                                                        omega
                                                                    · have k33 : ¬ ((1 : Int) ≤ r22 + 1) := Zleqf (Zc 1) h40 g33
                                                                      clear g33
                                                                      omega
                                                                  · have k32 : ¬ ((r2 + (-1) * z32 + 1000 : Int) ≤ 10000000) := Zleqf h244 (Zc 10000000) g32
                                                                    clear g32
                                                                    omega
                                                                · have k31 : ¬ (((-10000000) : Int) ≤ (-1) * r2 + z31 + (-1000)) := Zleqf (Zc (-10000000)) h240 g31
                                                                  clear g31
                                                                  omega
                                                              · have k30 : ¬ (((-1) * r2 + z31 + (-1000) : Int) ≤ r2 + (-1) * z32 + 1000) := Zleqf h240 h244 g30
                                                                clear g30
                                                                omega
                                                        · have k27 : ¬ ((0 : Int) ≤ q25 + 1) := Zleqf (Zc 0) h236 g27
                                                          clear g27
                                                          omega
                                                      · have k26 : ¬ ((r24 : Int) ≤ 0) := Zleqf h66 (Zc 0) g26
                                                        clear g26
                                                        refine ⟨fun g27 => ?_, fun g27 => ?_⟩
                                                        · clear g27
                                                          refine ⟨fun g28 => ?_, fun g28 => ?_⟩
                                                          · have k28 : ((q25 + 1 : Int) = 0) := Zeqlt h236 (Zc 0) g28
                                                            clear g28
                                                            omega
                                                          · clear g28
                                                            refine ⟨fun g29 => ?_, fun g29 => ?_⟩
                                                            · have k29 : ((q23 + 1 : Int) ≤ 0) := Zleqt h202 (Zc 0) g29
                                                              clear g29
                                                              omega
                                                            · clear g29
                                                              refine ⟨fun g30 => ?_, fun g30 => ?_⟩
                                                              · clear g30
                                                                refine ⟨fun g31 => ?_, fun g31 => ?_⟩
                                                                · clear g31
                                                                  refine ⟨fun g32 => ?_, fun g32 => ?_⟩
                                                                  · clear g32
                                                                    refine ⟨fun g33 => ?_, fun g33 => ?_⟩
                                                                    · clear g33
                                                                      refine ⟨fun g34 => ?_, fun g34 => ?_⟩
                                                                      · clear g34
                                                                        refine ⟨fun g35 => ?_, fun g35 => ?_⟩
                                                                        · exact rfl
                                                                        · have k35 : ¬ ((u17 + (-1000) * z31 : Int) ≤ (-1) * u20 + 1000 * z32) := Zleqf h248 h252 g35
                                                                          clear g35
                                                                          omega
                                                                      · have k34 : ¬ ((0 : Int) ≤ (-1) * r22) := Zleqf (Zc 0) h76 g34
                                                                        clear g34
                                                                        omega
                                                                    · have k33 : ¬ ((1 : Int) ≤ r22 + 1) := Zleqf (Zc 1) h40 g33
                                                                      clear g33
                                                                      omega
                                                                  · have k32 : ¬ ((r2 + (-1) * z32 + 1000 : Int) ≤ 10000000) := Zleqf h244 (Zc 10000000) g32
                                                                    clear g32
                                                                    omega
                                                                · have k31 : ¬ (((-10000000) : Int) ≤ (-1) * r2 + z31 + (-1000)) := Zleqf (Zc (-10000000)) h240 g31
                                                                  clear g31
                                                                  omega
                                                              · have k30 : ¬ (((-1) * r2 + z31 + (-1000) : Int) ≤ r2 + (-1) * z32 + 1000) := Zleqf h240 h244 g30
                                                                clear g30
                                                                omega
                                                        · have k27 : ¬ ((0 : Int) ≤ q25 + 1) := Zleqf (Zc 0) h236 g27
                                                          clear g27
                                                          omega
                                                  · have k24 : ¬ ((r2 + 1000 : Int) ≤ 10000000) := Zleqf h46 (Zc 10000000) g24
                                                    clear g24
                                                    omega
                                                · have k23 : ¬ (((-1) * r2 + (-1000) : Int) ≤ r2 + 1000) := Zleqf h44 h46 g23
                                                  clear g23
                                                  omega
                                              · have k22 : ¬ (((-10000000) : Int) ≤ (-1) * r2 + (-1000)) := Zleqf (Zc (-10000000)) h44 g22
                                                clear g22
                                                omega
                                            · have k21 : ¬ ((r22 + 1 : Int) ≤ 1) := Zleqf h40 (Zc 1) g21
                                              clear g21
                                              refine ⟨fun g22 => ?_, fun g22 => ?_⟩
                                              · have k22 : ((r22 + 1 : Int) ≤ 2) := Zleqt h40 (Zc 2) g22
                                                clear g22
                                                refine ⟨fun g23 => ?_, fun g23 => ?_⟩
                                                · clear g23
                                                  refine ⟨fun g24 => ?_, fun g24 => ?_⟩
                                                  · clear g24
                                                    refine ⟨fun g25 => ?_, fun g25 => ?_⟩
                                                    · clear g25
                                                      refine ⟨fun g26 => ?_, fun g26 => ?_⟩
                                                      · clear g26
                                                        refine ⟨fun g27 => ?_, fun g27 => ?_⟩
                                                        · clear g27
                                                          refine ⟨fun g28 => ?_, fun g28 => ?_⟩
                                                          · have k28 : ((r10 + r12 + 2 : Int) = 0) := Zeqlt h21 (Zc 0) g28
                                                            clear g28
                                                            omega
                                                          · clear g28
                                                            refine ⟨fun g29 => ?_, fun g29 => ?_⟩
                                                            · have k29 : ((r24 : Int) ≤ 0) := Zleqt h105 (Zc 0) g29
                                                              clear g29
                                                              refine ⟨fun g30 => ?_, fun g30 => ?_⟩
                                                              · clear g30
                                                                refine ⟨fun g31 => ?_, fun g31 => ?_⟩
                                                                · have k31 : ((q25 + 1 : Int) = 0) := Zeqlt h236 (Zc 0) g31
                                                                  clear g31
                                                                  omega
                                                                · clear g31
                                                                  refine ⟨fun g32 => ?_, fun g32 => ?_⟩
                                                                  · have k32 : ((q23 : Int) ≤ 0) := Zleqt h106 (Zc 0) g32
                                                                    clear g32
                                                                    omega
                                                                  · clear g32
                                                                    refine ⟨fun g33 => ?_, fun g33 => ?_⟩
                                                                    · clear g33
                                                                      refine ⟨fun g34 => ?_, fun g34 => ?_⟩
                                                                      · clear g34
                                                                        refine ⟨fun g35 => ?_, fun g35 => ?_⟩
                                                                        · clear g35
                                                                          refine ⟨fun g36 => ?_, fun g36 => ?_⟩
                                                                          · clear g36
                                                                            refine ⟨fun g37 => ?_, fun g37 => ?_⟩
                                                                            · clear g37
                                                                              refine ⟨fun g38 => ?_, fun g38 => ?_⟩
                                                                              · clear g38
                                                                                refine ⟨fun g39 => ?_, fun g39 => ?_⟩
                                                                                · clear g39
                                                                                  refine ⟨fun g40 => ?_, fun g40 => ?_⟩
                                                                                  · exact rfl
                                                                                  · have k40 : ¬ ((u17 + (-1000) * z31 : Int) ≤ (-1) * u20 + 1000 * z32) := Zleqf h258 h262 g40
                                                                                    clear g40
                                                                                    omega
                                                                                · have k39 : ¬ ((0 : Int) ≤ (-1) * r22 + 1) := Zleqf (Zc 0) h109 g39
                                                                                  clear g39
                                                                                  omega
                                                                              · have k38 : ¬ ((1 : Int) ≤ r22 + 1) := Zleqf (Zc 1) h40 g38
                                                                                clear g38
                                                                                omega
                                                                            · have k37 : ¬ ((5 * r2 + (-1) * z32 + 5000 : Int) ≤ 10000000) := Zleqf h254 (Zc 10000000) g37
                                                                              clear g37
                                                                              omega
                                                                          · have k36 : ¬ ((r2 + (-1) * z32 + 1000 : Int) ≤ 3 * r2 + z31 + 3000) := Zleqf h244 h253 g36
                                                                            clear g36
                                                                            omega
                                                                        · have k35 : ¬ (((-10000000) : Int) ≤ (-1) * r2 + z31 + (-1000)) := Zleqf (Zc (-10000000)) h240 g35
                                                                          clear g35
                                                                          omega
                                                                      · have k34 : ¬ ((3 * r2 + z31 + 3000 : Int) ≤ 5 * r2 + (-1) * z32 + 5000) := Zleqf h253 h254 g34
                                                                        clear g34
                                                                        omega
                                                                    · have k33 : ¬ (((-1) * r2 + z31 + (-1000) : Int) ≤ r2 + (-1) * z32 + 1000) := Zleqf h240 h244 g33
                                                                      clear g33
                                                                      omega
                                                              · have k30 : ¬ ((0 : Int) ≤ q25 + 1) := Zleqf (Zc 0) h236 g30
                                                                clear g30
                                                                omega
                                                            · have k29 : ¬ ((r24 : Int) ≤ 0) := Zleqf h105 (Zc 0) g29
                                                              clear g29
                                                              refine ⟨fun g30 => ?_, fun g30 => ?_⟩
                                                              · clear g30
                                                                refine ⟨fun g31 => ?_, fun g31 => ?_⟩
                                                                · have k31 : ((q25 + 1 : Int) = 0) := Zeqlt h236 (Zc 0) g31
                                                                  clear g31
                                                                  omega
                                                                · clear g31
                                                                  refine ⟨fun g32 => ?_, fun g32 => ?_⟩
                                                                  · have k32 : ((q23 + 1 : Int) ≤ 0) := Zleqt h213 (Zc 0) g32
                                                                    clear g32
                                                                    omega
                                                                  · clear g32
                                                                    refine ⟨fun g33 => ?_, fun g33 => ?_⟩
                                                                    · clear g33
                                                                      refine ⟨fun g34 => ?_, fun g34 => ?_⟩
                                                                      · clear g34
                                                                        refine ⟨fun g35 => ?_, fun g35 => ?_⟩
                                                                        · clear g35
                                                                          refine ⟨fun g36 => ?_, fun g36 => ?_⟩
                                                                          · clear g36
                                                                            refine ⟨fun g37 => ?_, fun g37 => ?_⟩
                                                                            · clear g37
                                                                              refine ⟨fun g38 => ?_, fun g38 => ?_⟩
                                                                              · clear g38
                                                                                refine ⟨fun g39 => ?_, fun g39 => ?_⟩
                                                                                · clear g39
                                                                                  refine ⟨fun g40 => ?_, fun g40 => ?_⟩
                                                                                  · exact rfl
                                                                                  · have k40 : ¬ ((u17 + (-1000) * z31 : Int) ≤ (-1) * u20 + 1000 * z32) := Zleqf h258 h262 g40
                                                                                    clear g40
                                                                                    omega
                                                                                · have k39 : ¬ ((0 : Int) ≤ (-1) * r22 + 1) := Zleqf (Zc 0) h109 g39
                                                                                  clear g39
                                                                                  omega
                                                                              · have k38 : ¬ ((1 : Int) ≤ r22 + 1) := Zleqf (Zc 1) h40 g38
                                                                                clear g38
                                                                                omega
                                                                            · have k37 : ¬ ((5 * r2 + (-1) * z32 + 5000 : Int) ≤ 10000000) := Zleqf h254 (Zc 10000000) g37
                                                                              clear g37
                                                                              omega
                                                                          · have k36 : ¬ ((r2 + (-1) * z32 + 1000 : Int) ≤ 3 * r2 + z31 + 3000) := Zleqf h244 h253 g36
                                                                            clear g36
                                                                            omega
                                                                        · have k35 : ¬ (((-10000000) : Int) ≤ (-1) * r2 + z31 + (-1000)) := Zleqf (Zc (-10000000)) h240 g35
                                                                          clear g35
                                                                          omega
                                                                      · have k34 : ¬ ((3 * r2 + z31 + 3000 : Int) ≤ 5 * r2 + (-1) * z32 + 5000) := Zleqf h253 h254 g34
                                                                        clear g34
                                                                        omega
                                                                    · have k33 : ¬ (((-1) * r2 + z31 + (-1000) : Int) ≤ r2 + (-1) * z32 + 1000) := Zleqf h240 h244 g33
                                                                      clear g33
                                                                      omega
                                                              · have k30 : ¬ ((0 : Int) ≤ q25 + 1) := Zleqf (Zc 0) h236 g30
                                                                clear g30
                                                                omega
                                                        · have k27 : ¬ ((5 * r2 + 5000 : Int) ≤ 10000000) := Zleqf h89 (Zc 10000000) g27
                                                          clear g27
                                                          omega
                                                      · have k26 : ¬ ((3 * r2 + 3000 : Int) ≤ 5 * r2 + 5000) := Zleqf h87 h89 g26
                                                        clear g26
                                                        omega
                                                    · have k25 : ¬ ((r2 + 1000 : Int) ≤ 3 * r2 + 3000) := Zleqf h46 h87 g25
                                                      clear g25
                                                      omega
                                                  · have k24 : ¬ (((-1) * r2 + (-1000) : Int) ≤ r2 + 1000) := Zleqf h44 h46 g24
                                                    clear g24
                                                    omega
                                                · have k23 : ¬ (((-10000000) : Int) ≤ (-1) * r2 + (-1000)) := Zleqf (Zc (-10000000)) h44 g23
                                                  clear g23
                                                  omega
                                              · have k22 : ¬ ((r22 + 1 : Int) ≤ 2) := Zleqf h40 (Zc 2) g22
                                                clear g22
                                                refine ⟨fun g23 => ?_, fun g23 => ?_⟩
                                                · have k23 : ((r22 + 1 : Int) ≤ 3) := Zleqt h40 (Zc 3) g23
                                                  clear g23
                                                  refine ⟨fun g24 => ?_, fun g24 => ?_⟩
                                                  · clear g24
                                                    refine ⟨fun g25 => ?_, fun g25 => ?_⟩
                                                    · clear g25
                                                      refine ⟨fun g26 => ?_, fun g26 => ?_⟩
                                                      · clear g26
                                                        refine ⟨fun g27 => ?_, fun g27 => ?_⟩
                                                        · clear g27
                                                          refine ⟨fun g28 => ?_, fun g28 => ?_⟩
                                                          · clear g28
                                                            refine ⟨fun g29 => ?_, fun g29 => ?_⟩
                                                            · clear g29
                                                              refine ⟨fun g30 => ?_, fun g30 => ?_⟩
                                                              · clear g30
                                                                refine ⟨fun g31 => ?_, fun g31 => ?_⟩
                                                                · have k31 : ((r10 + r12 + 2 : Int) = 0) := Zeqlt h21 (Zc 0) g31
                                                                  clear g31
                                                                  omega
                                                                · clear g31
                                                                  refine ⟨fun g32 => ?_, fun g32 => ?_⟩
                                                                  · have k32 : ((r24 : Int) ≤ 0) := Zleqt h138 (Zc 0) g32
                                                                    clear g32
                                                                    refine ⟨fun g33 => ?_, fun g33 => ?_⟩
                                                                    · clear g33
                                                                      refine ⟨fun g34 => ?_, fun g34 => ?_⟩
                                                                      · have k34 : ((q25 + 1 : Int) = 0) := Zeqlt h236 (Zc 0) g34
                                                                        clear g34
                                                                        omega
                                                                      · clear g34
                                                                        refine ⟨fun g35 => ?_, fun g35 => ?_⟩
                                                                        · have k35 : ((q23 : Int) ≤ 0) := Zleqt h139 (Zc 0) g35
                                                                          clear g35
                                                                          omega
                                                                        · clear g35
                                                                          refine ⟨fun g36 => ?_, fun g36 => ?_⟩
                                                                          · clear g36
                                                                            refine ⟨fun g37 => ?_, fun g37 => ?_⟩
                                                                            · clear g37
                                                                              refine ⟨fun g38 => ?_, fun g38 => ?_⟩
                                                                              · clear g38
                                                                                refine ⟨fun g39 => ?_, fun g39 => ?_⟩
                                                                                · clear g39
                                                                                  refine ⟨fun g40 => ?_, fun g40 => ?_⟩
                                                                                  · clear g40
                                                                                    refine ⟨fun g41 => ?_, fun g41 => ?_⟩
                                                                                    · clear g41
                                                                                      refine ⟨fun g42 => ?_, fun g42 => ?_⟩
                                                                                      · clear g42
                                                                                        refine ⟨fun g43 => ?_, fun g43 => ?_⟩
                                                                                        · clear g43
                                                                                          refine ⟨fun g44 => ?_, fun g44 => ?_⟩
                                                                                          · clear g44
                                                                                            refine ⟨fun g45 => ?_, fun g45 => ?_⟩
                                                                                            · exact rfl
                                                                                            · have k45 : ¬ ((u17 + (-1000) * z31 : Int) ≤ (-1) * u20 + 1000 * z32) := Zleqf h268 h272 g45
                                                                                              clear g45
                                                                                              omega
                                                                                          · have k44 : ¬ ((0 : Int) ≤ (-1) * r22 + 2) := Zleqf (Zc 0) h142 g44
                                                                                            clear g44
                                                                                            omega
                                                                                        · have k43 : ¬ ((1 : Int) ≤ r22 + 1) := Zleqf (Zc 1) h40 g43
                                                                                          clear g43
                                                                                          omega
                                                                                      · have k42 : ¬ ((9 * r2 + (-1) * z32 + 9000 : Int) ≤ 10000000) := Zleqf h264 (Zc 10000000) g42
                                                                                        clear g42
                                                                                        omega
                                                                                    · have k41 : ¬ ((5 * r2 + (-1) * z32 + 5000 : Int) ≤ 7 * r2 + z31 + 7000) := Zleqf h254 h263 g41
                                                                                      clear g41
                                                                                      omega
                                                                                  · have k40 : ¬ ((r2 + (-1) * z32 + 1000 : Int) ≤ 3 * r2 + z31 + 3000) := Zleqf h244 h253 g40
                                                                                    clear g40
                                                                                    omega
                                                                                · have k39 : ¬ (((-10000000) : Int) ≤ (-1) * r2 + z31 + (-1000)) := Zleqf (Zc (-10000000)) h240 g39
                                                                                  clear g39
                                                                                  omega
                                                                              · have k38 : ¬ ((7 * r2 + z31 + 7000 : Int) ≤ 9 * r2 + (-1) * z32 + 9000) := Zleqf h263 h264 g38
                                                                                clear g38
                                                                                omega
                                                                            · have k37 : ¬ ((3 * r2 + z31 + 3000 : Int) ≤ 5 * r2 + (-1) * z32 + 5000) := Zleqf h253 h254 g37
                                                                              clear g37
                                                                              omega
                                                                          · have k36 : ¬ (((-1) * r2 + z31 + (-1000) : Int) ≤ r2 + (-1) * z32 + 1000) := Zleqf h240 h244 g36
                                                                            clear g36
                                                                            omega
                                                                    · have k33 : ¬ ((0 : Int) ≤ q25 + 1) := Zleqf (Zc 0) h236 g33
                                                                      clear g33
                                                                      omega
                                                                  · have k32 : ¬ ((r24 : Int) ≤ 0) := Zleqf h138 (Zc 0) g32
                                                                    clear g32
                                                                    refine ⟨fun g33 => ?_, fun g33 => ?_⟩
                                                                    · clear g33
                                                                      refine ⟨fun g34 => ?_, fun g34 => ?_⟩
                                                                      · have k34 : ((q25 + 1 : Int) = 0) := Zeqlt h236 (Zc 0) g34
                                                                        clear g34
                                                                        omega
                                                                      · clear g34
                                                                        refine ⟨fun g35 => ?_, fun g35 => ?_⟩
                                                                        · have k35 : ((q23 + 1 : Int) ≤ 0) := Zleqt h224 (Zc 0) g35
                                                                          clear g35
                                                                          omega
                                                                        · clear g35
                                                                          refine ⟨fun g36 => ?_, fun g36 => ?_⟩
                                                                          · clear g36
                                                                            refine ⟨fun g37 => ?_, fun g37 => ?_⟩
                                                                            · clear g37
                                                                              refine ⟨fun g38 => ?_, fun g38 => ?_⟩
                                                                              · clear g38
                                                                                refine ⟨fun g39 => ?_, fun g39 => ?_⟩
                                                                                · clear g39
                                                                                  refine ⟨fun g40 => ?_, fun g40 => ?_⟩
                                                                                  · clear g40
                                                                                    refine ⟨fun g41 => ?_, fun g41 => ?_⟩
                                                                                    · clear g41
                                                                                      refine ⟨fun g42 => ?_, fun g42 => ?_⟩
                                                                                      · clear g42
                                                                                        refine ⟨fun g43 => ?_, fun g43 => ?_⟩
                                                                                        · clear g43
                                                                                          refine ⟨fun g44 => ?_, fun g44 => ?_⟩
                                                                                          · clear g44
                                                                                            refine ⟨fun g45 => ?_, fun g45 => ?_⟩
                                                                                            · exact rfl
                                                                                            · have k45 : ¬ ((u17 + (-1000) * z31 : Int) ≤ (-1) * u20 + 1000 * z32) := Zleqf h268 h272 g45
                                                                                              clear g45
                                                                                              omega
                                                                                          · have k44 : ¬ ((0 : Int) ≤ (-1) * r22 + 2) := Zleqf (Zc 0) h142 g44
                                                                                            clear g44
                                                                                            omega
                                                                                        · have k43 : ¬ ((1 : Int) ≤ r22 + 1) := Zleqf (Zc 1) h40 g43
                                                                                          clear g43
                                                                                          omega
                                                                                      · have k42 : ¬ ((9 * r2 + (-1) * z32 + 9000 : Int) ≤ 10000000) := Zleqf h264 (Zc 10000000) g42
                                                                                        clear g42
                                                                                        omega
                                                                                    · have k41 : ¬ ((5 * r2 + (-1) * z32 + 5000 : Int) ≤ 7 * r2 + z31 + 7000) := Zleqf h254 h263 g41
                                                                                      clear g41
                                                                                      omega
                                                                                  · have k40 : ¬ ((r2 + (-1) * z32 + 1000 : Int) ≤ 3 * r2 + z31 + 3000) := Zleqf h244 h253 g40
                                                                                    clear g40
                                                                                    omega
                                                                                · have k39 : ¬ (((-10000000) : Int) ≤ (-1) * r2 + z31 + (-1000)) := Zleqf (Zc (-10000000)) h240 g39
                                                                                  clear g39
                                                                                  omega
                                                                              · have k38 : ¬ ((7 * r2 + z31 + 7000 : Int) ≤ 9 * r2 + (-1) * z32 + 9000) := Zleqf h263 h264 g38
                                                                                clear g38
                                                                                omega
                                                                            · have k37 : ¬ ((3 * r2 + z31 + 3000 : Int) ≤ 5 * r2 + (-1) * z32 + 5000) := Zleqf h253 h254 g37
                                                                              clear g37
                                                                              omega
                                                                          · have k36 : ¬ (((-1) * r2 + z31 + (-1000) : Int) ≤ r2 + (-1) * z32 + 1000) := Zleqf h240 h244 g36
                                                                            clear g36
                                                                            omega
                                                                    · have k33 : ¬ ((0 : Int) ≤ q25 + 1) := Zleqf (Zc 0) h236 g33
                                                                      clear g33
                                                                      omega
                                                              · have k30 : ¬ ((9 * r2 + 9000 : Int) ≤ 10000000) := Zleqf h122 (Zc 10000000) g30
                                                                clear g30
                                                                omega
                                                            · have k29 : ¬ ((7 * r2 + 7000 : Int) ≤ 9 * r2 + 9000) := Zleqf h120 h122 g29
                                                              clear g29
                                                              omega
                                                          · have k28 : ¬ ((5 * r2 + 5000 : Int) ≤ 7 * r2 + 7000) := Zleqf h89 h120 g28
                                                            clear g28
                                                            omega
                                                        · have k27 : ¬ ((3 * r2 + 3000 : Int) ≤ 5 * r2 + 5000) := Zleqf h87 h89 g27
                                                          clear g27
                                                          omega
                                                      · have k26 : ¬ ((r2 + 1000 : Int) ≤ 3 * r2 + 3000) := Zleqf h46 h87 g26
                                                        clear g26
                                                        omega
                                                    · have k25 : ¬ (((-1) * r2 + (-1000) : Int) ≤ r2 + 1000) := Zleqf h44 h46 g25
                                                      clear g25
                                                      omega
                                                  · have k24 : ¬ (((-10000000) : Int) ≤ (-1) * r2 + (-1000)) := Zleqf (Zc (-10000000)) h44 g24
                                                    clear g24
                                                    omega
                                                · have k23 : ¬ ((r22 + 1 : Int) ≤ 3) := Zleqf h40 (Zc 3) g23
                                                  clear g23
                                                  refine ⟨fun g24 => ?_, fun g24 => ?_⟩
                                                  · clear g24
                                                    refine ⟨fun g25 => ?_, fun g25 => ?_⟩
                                                    · clear g25
                                                      refine ⟨fun g26 => ?_, fun g26 => ?_⟩
                                                      · clear g26
                                                        refine ⟨fun g27 => ?_, fun g27 => ?_⟩
                                                        · clear g27
                                                          refine ⟨fun g28 => ?_, fun g28 => ?_⟩
                                                          · clear g28
                                                            refine ⟨fun g29 => ?_, fun g29 => ?_⟩
                                                            · clear g29
                                                              refine ⟨fun g30 => ?_, fun g30 => ?_⟩
                                                              · clear g30
                                                                refine ⟨fun g31 => ?_, fun g31 => ?_⟩
                                                                · clear g31
                                                                  refine ⟨fun g32 => ?_, fun g32 => ?_⟩
                                                                  · clear g32
                                                                    refine ⟨fun g33 => ?_, fun g33 => ?_⟩
                                                                    · clear g33
                                                                      refine ⟨fun g34 => ?_, fun g34 => ?_⟩
                                                                      · have k34 : ((r10 + r12 + 2 : Int) = 0) := Zeqlt h21 (Zc 0) g34
                                                                        clear g34
                                                                        omega
                                                                      · clear g34
                                                                        refine ⟨fun g35 => ?_, fun g35 => ?_⟩
                                                                        · have k35 : ((r24 : Int) ≤ 0) := Zleqt h171 (Zc 0) g35
                                                                          clear g35
                                                                          refine ⟨fun g36 => ?_, fun g36 => ?_⟩
                                                                          · clear g36
                                                                            refine ⟨fun g37 => ?_, fun g37 => ?_⟩
                                                                            · have k37 : ((q25 + 1 : Int) = 0) := Zeqlt h236 (Zc 0) g37
                                                                              clear g37
                                                                              omega
                                                                            · clear g37
                                                                              refine ⟨fun g38 => ?_, fun g38 => ?_⟩
                                                                              · have k38 : ((q23 : Int) ≤ 0) := Zleqt h172 (Zc 0) g38
                                                                                clear g38
                                                                                omega
                                                                              · clear g38
                                                                                refine ⟨fun g39 => ?_, fun g39 => ?_⟩
                                                                                · clear g39
                                                                                  refine ⟨fun g40 => ?_, fun g40 => ?_⟩
                                                                                  · clear g40
                                                                                    refine ⟨fun g41 => ?_, fun g41 => ?_⟩
                                                                                    · clear g41
                                                                                      refine ⟨fun g42 => ?_, fun g42 => ?_⟩
                                                                                      · clear g42
                                                                                        refine ⟨fun g43 => ?_, fun g43 => ?_⟩
                                                                                        · clear g43
                                                                                          refine ⟨fun g44 => ?_, fun g44 => ?_⟩
                                                                                          · clear g44
                                                                                            refine ⟨fun g45 => ?_, fun g45 => ?_⟩
                                                                                            · clear g45
                                                                                              refine ⟨fun g46 => ?_, fun g46 => ?_⟩
                                                                                              · clear g46
                                                                                                refine ⟨fun g47 => ?_, fun g47 => ?_⟩
                                                                                                · clear g47
                                                                                                  refine ⟨fun g48 => ?_, fun g48 => ?_⟩
                                                                                                  · clear g48
                                                                                                    refine ⟨fun g49 => ?_, fun g49 => ?_⟩
                                                                                                    · clear g49
                                                                                                      refine ⟨fun g50 => ?_, fun g50 => ?_⟩
                                                                                                      · exact rfl
                                                                                                      · have k50 : ¬ ((u17 + (-1000) * z31 : Int) ≤ (-1) * u20 + 1000 * z32) := Zleqf h278 h282 g50
                                                                                                        clear g50
                                                                                                        omega
                                                                                                    · have k49 : ¬ ((0 : Int) ≤ (-1) * r22 + 3) := Zleqf (Zc 0) h175 g49
                                                                                                      clear g49
                                                                                                      omega
                                                                                                  · have k48 : ¬ ((1 : Int) ≤ r22 + 1) := Zleqf (Zc 1) h40 g48
                                                                                                    clear g48
                                                                                                    omega
                                                                                                · have k47 : ¬ ((13 * r2 + (-1) * z32 + 13000 : Int) ≤ 10000000) := Zleqf h274 (Zc 10000000) g47
                                                                                                  clear g47
                                                                                                  omega
                                                                                              · have k46 : ¬ ((9 * r2 + (-1) * z32 + 9000 : Int) ≤ 11 * r2 + z31 + 11000) := Zleqf h264 h273 g46
                                                                                                clear g46
                                                                                                omega
                                                                                            · have k45 : ¬ ((5 * r2 + (-1) * z32 + 5000 : Int) ≤ 7 * r2 + z31 + 7000) := Zleqf h254 h263 g45
                                                                                              clear g45
                                                                                              omega
                                                                                          · have k44 : ¬ ((r2 + (-1) * z32 + 1000 : Int) ≤ 3 * r2 + z31 + 3000) := Zleqf h244 h253 g44
                                                                                            clear g44
                                                                                            omega
                                                                                        · have k43 : ¬ (((-10000000) : Int) ≤ (-1) * r2 + z31 + (-1000)) := Zleqf (Zc (-10000000)) h240 g43
                                                                                          clear g43
                                                                                          omega
                                                                                      · have k42 : ¬ ((11 * r2 + z31 + 11000 : Int) ≤ 13 * r2 + (-1) * z32 + 13000) := Zleqf h273 h274 g42
                                                                                        clear g42
                                                                                        omega
                                                                                    · have k41 : ¬ ((7 * r2 + z31 + 7000 : Int) ≤ 9 * r2 + (-1) * z32 + 9000) := Zleqf h263 h264 g41
                                                                                      clear g41
                                                                                      omega
                                                                                  · have k40 : ¬ ((3 * r2 + z31 + 3000 : Int) ≤ 5 * r2 + (-1) * z32 + 5000) := Zleqf h253 h254 g40
                                                                                    clear g40
                                                                                    omega
                                                                                · have k39 : ¬ (((-1) * r2 + z31 + (-1000) : Int) ≤ r2 + (-1) * z32 + 1000) := Zleqf h240 h244 g39
                                                                                  clear g39
                                                                                  omega
                                                                          · have k36 : ¬ ((0 : Int) ≤ q25 + 1) := Zleqf (Zc 0) h236 g36
                                                                            clear g36
                                                                            omega
                                                                        · have k35 : ¬ ((r24 : Int) ≤ 0) := Zleqf h171 (Zc 0) g35
                                                                          clear g35
                                                                          refine ⟨fun g36 => ?_, fun g36 => ?_⟩
                                                                          · clear g36
                                                                            refine ⟨fun g37 => ?_, fun g37 => ?_⟩
                                                                            · have k37 : ((q25 + 1 : Int) = 0) := Zeqlt h236 (Zc 0) g37
                                                                              clear g37
                                                                              omega
                                                                            · clear g37
                                                                              refine ⟨fun g38 => ?_, fun g38 => ?_⟩
                                                                              · have k38 : ((q23 + 1 : Int) ≤ 0) := Zleqt h235 (Zc 0) g38
                                                                                clear g38
                                                                                omega
                                                                              · clear g38
                                                                                refine ⟨fun g39 => ?_, fun g39 => ?_⟩
                                                                                · clear g39
                                                                                  refine ⟨fun g40 => ?_, fun g40 => ?_⟩
                                                                                  · clear g40
                                                                                    refine ⟨fun g41 => ?_, fun g41 => ?_⟩
                                                                                    · clear g41
                                                                                      refine ⟨fun g42 => ?_, fun g42 => ?_⟩
                                                                                      · clear g42
                                                                                        refine ⟨fun g43 => ?_, fun g43 => ?_⟩
                                                                                        · clear g43
                                                                                          refine ⟨fun g44 => ?_, fun g44 => ?_⟩
                                                                                          · clear g44
                                                                                            refine ⟨fun g45 => ?_, fun g45 => ?_⟩
                                                                                            · clear g45
                                                                                              refine ⟨fun g46 => ?_, fun g46 => ?_⟩
                                                                                              · clear g46
                                                                                                refine ⟨fun g47 => ?_, fun g47 => ?_⟩
                                                                                                · clear g47
                                                                                                  refine ⟨fun g48 => ?_, fun g48 => ?_⟩
                                                                                                  · clear g48
                                                                                                    refine ⟨fun g49 => ?_, fun g49 => ?_⟩
                                                                                                    · clear g49
                                                                                                      refine ⟨fun g50 => ?_, fun g50 => ?_⟩
                                                                                                      · exact rfl
                                                                                                      · have k50 : ¬ ((u17 + (-1000) * z31 : Int) ≤ (-1) * u20 + 1000 * z32) := Zleqf h278 h282 g50
                                                                                                        clear g50
                                                                                                        omega
                                                                                                    · have k49 : ¬ ((0 : Int) ≤ (-1) * r22 + 3) := Zleqf (Zc 0) h175 g49
                                                                                                      clear g49
                                                                                                      omega
                                                                                                  · have k48 : ¬ ((1 : Int) ≤ r22 + 1) := Zleqf (Zc 1) h40 g48
                                                                                                    clear g48
                                                                                                    omega
                                                                                                · have k47 : ¬ ((13 * r2 + (-1) * z32 + 13000 : Int) ≤ 10000000) := Zleqf h274 (Zc 10000000) g47
                                                                                                  clear g47
                                                                                                  omega
                                                                                              · have k46 : ¬ ((9 * r2 + (-1) * z32 + 9000 : Int) ≤ 11 * r2 + z31 + 11000) := Zleqf h264 h273 g46
                                                                                                clear g46
                                                                                                omega
                                                                                            · have k45 : ¬ ((5 * r2 + (-1) * z32 + 5000 : Int) ≤ 7 * r2 + z31 + 7000) := Zleqf h254 h263 g45
                                                                                              clear g45
                                                                                              omega
                                                                                          · have k44 : ¬ ((r2 + (-1) * z32 + 1000 : Int) ≤ 3 * r2 + z31 + 3000) := Zleqf h244 h253 g44
                                                                                            clear g44
                                                                                            omega
                                                                                        · have k43 : ¬ (((-10000000) : Int) ≤ (-1) * r2 + z31 + (-1000)) := Zleqf (Zc (-10000000)) h240 g43
                                                                                          clear g43
                                                                                          omega
                                                                                      · have k42 : ¬ ((11 * r2 + z31 + 11000 : Int) ≤ 13 * r2 + (-1) * z32 + 13000) := Zleqf h273 h274 g42
                                                                                        clear g42
                                                                                        omega
                                                                                    · have k41 : ¬ ((7 * r2 + z31 + 7000 : Int) ≤ 9 * r2 + (-1) * z32 + 9000) := Zleqf h263 h264 g41
                                                                                      clear g41
                                                                                      omega
                                                                                  · have k40 : ¬ ((3 * r2 + z31 + 3000 : Int) ≤ 5 * r2 + (-1) * z32 + 5000) := Zleqf h253 h254 g40
                                                                                    clear g40
                                                                                    omega
                                                                                · have k39 : ¬ (((-1) * r2 + z31 + (-1000) : Int) ≤ r2 + (-1) * z32 + 1000) := Zleqf h240 h244 g39
                                                                                  clear g39
                                                                                  omega
                                                                          · have k36 : ¬ ((0 : Int) ≤ q25 + 1) := Zleqf (Zc 0) h236 g36
                                                                            clear g36
                                                                            omega
                                                                    · have k33 : ¬ ((13 * r2 + 13000 : Int) ≤ 10000000) := Zleqf h155 (Zc 10000000) g33
                                                                      clear g33
                                                                      omega
                                                                  · have k32 : ¬ ((11 * r2 + 11000 : Int) ≤ 13 * r2 + 13000) := Zleqf h153 h155 g32
                                                                    clear g32
                                                                    omega
                                                                · have k31 : ¬ ((9 * r2 + 9000 : Int) ≤ 11 * r2 + 11000) := Zleqf h122 h153 g31
                                                                  clear g31
                                                                  omega
                                                              · have k30 : ¬ ((7 * r2 + 7000 : Int) ≤ 9 * r2 + 9000) := Zleqf h120 h122 g30
                                                                clear g30
                                                                omega
                                                            · have k29 : ¬ ((5 * r2 + 5000 : Int) ≤ 7 * r2 + 7000) := Zleqf h89 h120 g29
                                                              clear g29
                                                              omega
                                                          · have k28 : ¬ ((3 * r2 + 3000 : Int) ≤ 5 * r2 + 5000) := Zleqf h87 h89 g28
                                                            clear g28
                                                            omega
                                                        · have k27 : ¬ ((r2 + 1000 : Int) ≤ 3 * r2 + 3000) := Zleqf h46 h87 g27
                                                          clear g27
                                                          omega
                                                      · have k26 : ¬ (((-1) * r2 + (-1000) : Int) ≤ r2 + 1000) := Zleqf h44 h46 g26
                                                        clear g26
                                                        omega
                                                    · have k25 : ¬ (((-10000000) : Int) ≤ (-1) * r2 + (-1000)) := Zleqf (Zc (-10000000)) h44 g25
                                                      clear g25
                                                      omega
                                                  · have k24 : ¬ ((r22 + 1 : Int) ≤ 4) := Zleqf h40 (Zc 4) g24
                                                    clear g24
                                                    omega
                                  · have k16 : ¬ ((u14 : Int) ≤ 200000) := Zleqf h28 (Zc 200000) g16
                                    clear g16
                                    omega
                                · have k15 : ¬ ((u13 : Int) ≤ u14) := Zleqf h27 h28 g15
                                  clear g15
                                  omega
                              · have k14 : ¬ (((-200000) : Int) ≤ u13) := Zleqf (Zc (-200000)) h27 g14
                                clear g14
                                omega
                            · have k13 : ¬ ((900 * r10 + 900 * r12 + 1800 : Int) ≤ 2000 * r2 + 2000000) := Zleqf h22 h14 g13
                              clear g13
                              omega
                          · have k12 : ¬ ((r12 + 1 : Int) ≤ 3000) := Zleqf h20 (Zc 3000) g12
                            clear g12
                            omega
                        · have k11 : ¬ ((0 : Int) ≤ r12 + 1) := Zleqf (Zc 0) h20 g11
                          clear g11
                          omega
                      · have k10 : ¬ ((r10 + 1 : Int) ≤ 3000) := Zleqf h17 (Zc 3000) g10
                        clear g10
                        omega
                    · have k9 : ¬ ((0 : Int) ≤ r10 + 1) := Zleqf (Zc 0) h17 g9
                      clear g9
                      omega
                  · have k8 : ¬ ((900 * r4 + 900 * r6 + 1800 : Int) ≤ 2000 * r2 + 2000000) := Zleqf h13 h14 g8
                    clear g8
                    omega
                · have k7 : ¬ ((r8 + 1 : Int) ≤ 8) := Zleqf h11 (Zc 8) g7
                  clear g7
                  omega
              · have k6 : ¬ ((1 : Int) ≤ r8 + 1) := Zleqf (Zc 1) h11 g6
                clear g6
                omega
            · have k5 : ¬ ((r6 + 1 : Int) ≤ 3000) := Zleqf h9 (Zc 3000) g5
              clear g5
              omega
          · have k4 : ¬ ((0 : Int) ≤ r6 + 1) := Zleqf (Zc 0) h9 g4
            clear g4
            omega
        · have k3 : ¬ ((r4 + 1 : Int) ≤ 3000) := Zleqf h6 (Zc 3000) g3
          clear g3
          omega
      · have k2 : ¬ ((0 : Int) ≤ r4 + 1) := Zleqf (Zc 0) h6 g2
        clear g2
        omega
    · have k1 : ¬ ((4 * r2 + 4000 : Int) ≤ 200000) := Zleqf h3 (Zc 200000) g1
      clear g1
      omega
  · have k0 : ¬ ((100 : Int) ≤ 4 * r2 + 4000) := Zleqf (Zc 100) h3 g0
    clear g0
    omega
end Go.Proofs.Ytehjlegpcdlilaa.Cx
