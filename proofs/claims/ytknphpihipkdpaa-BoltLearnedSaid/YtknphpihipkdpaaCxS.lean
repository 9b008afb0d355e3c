/- Arithmetic for the trees: what the terms of a tree say, without their wraps. -/
import Derived.Test.YtknphpihipkdpaaCxR
set_option linter.unusedSimpArgs false
set_option linter.unusedVariables false
namespace Go.Proofs.Ytknphpihipkdpaa.Cx
open Go Go.RowKit

theorem wrap_id {x : Int} (h1 : -9223372036854775808 ≤ x) (h2 : x ≤ 9223372036854775807) : IntKind.i64.wrap x = x := by
  have e1 : (2 : Int) ^ 64 = 18446744073709551616 := rfl
  have e2 : (2 : Int) ^ (64 - 1) = 9223372036854775808 := rfl
  simp only [IntKind.wrap, IntKind.bits, IntKind.signed, Bool.true_and, e1, e2]
  split
  · rename_i h; have := of_decide_eq_true h; omega
  · rename_i h
    have : ¬ (x % 18446744073709551616 ≥ 9223372036854775808) := fun h' => h (decide_eq_true h')
    omega

theorem tdiv_pos {x n : Int} (h : 0 ≤ x) : x.tdiv n = x / n := Int.tdiv_eq_ediv_of_nonneg h
theorem tmod_pos {x n : Int} (h : 0 ≤ x) : x.tmod n = x % n := Int.tmod_eq_emod_of_nonneg h
theorem tmod_neg {x n : Int} (h : x ≤ 0) : x.tmod n = -((-x) % n) := by
  rw [← Int.tmod_eq_emod_of_nonneg (by omega : 0 ≤ -x), Int.neg_tmod, Int.neg_neg]
theorem tdiv_neg {x n : Int} (h : x ≤ 0) : x.tdiv n = -((-x) / n) := by
  rw [← Int.tdiv_eq_ediv_of_nonneg (by omega : 0 ≤ -x), Int.neg_tdiv, Int.neg_neg]

/-! The terms as they read. -/

def IE.Z (ρ : Env) : IE → Int
  | .c n => n
  | .v i => ρ.i i
  | .bin .add k a b => k.wrap (a.Z ρ + b.Z ρ)
  | .bin .sub k a b => k.wrap (a.Z ρ - b.Z ρ)
  | .bin .mul k a b => k.wrap (a.Z ρ * b.Z ρ)
  | .bin .quo k a b => k.wrap ((a.Z ρ).tdiv (b.Z ρ))
  | .bin .rem k a b => (a.Z ρ).tmod (b.Z ρ)
  | .bin .mn k a b => min (a.Z ρ) (b.Z ρ)
  | .bin .mx k a b => max (a.Z ρ) (b.Z ρ)
  | .bin o k a b => o.run k (a.Z ρ) (b.Z ρ)
  | .x n => n

theorem IE.Z_den (ρ : Env) : ∀ e : IE, e.den ρ = e.Z ρ
  | .c n => rfl
  | .v i => rfl
  | .bin o k a b => by
    have ha := IE.Z_den ρ a
    have hb := IE.Z_den ρ b
    cases o <;> simp only [IE.den, IE.Z, Ar.run, ha, hb]
    · split <;> omega
    · split <;> omega
  | .x n => rfl

def BE.P (ρ : Env) : BE → Prop
  | .c b => b = true
  | .v i => ρ.b i = true
  | .cmp .eql a b => a.Z ρ = b.Z ρ
  | .cmp .neq a b => a.Z ρ ≠ b.Z ρ
  | .cmp .lss a b => a.Z ρ < b.Z ρ
  | .cmp .leq a b => a.Z ρ ≤ b.Z ρ
  | .cmp .gtr a b => a.Z ρ > b.Z ρ
  | .cmp .geq a b => a.Z ρ ≥ b.Z ρ
  | .not b => ¬ b.P ρ
  | .x b => b = true

theorem BE.P_den (ρ : Env) : ∀ b : BE, b.den ρ = true ↔ b.P ρ
  | .c b => Iff.rfl
  | .v i => Iff.rfl
  | .cmp o a b => by cases o <;> simp [BE.den, BE.P, Cm.run, IE.Z_den]
  | .not b => by simp [BE.den, BE.P, ← BE.P_den ρ b]
  | .x b => Iff.rfl

theorem rem_bd {x y h : Int} (h0 : 0 ≤ x) (h1 : x ≤ h) (hy : 1 ≤ y) : 0 ≤ x % y ∧ x % y ≤ h ∧ x % y ≤ y - 1 := by
  have a := Int.emod_nonneg x (by omega : y ≠ 0)
  have b := Int.emod_lt_of_pos x (by omega : 0 < y)
  have c : x % y ≤ x := by
    have := Int.emod_add_mul_ediv x y
    have d := Int.mul_nonneg (by omega : 0 ≤ y) (Int.ediv_nonneg h0 (by omega : 0 ≤ y))
    omega
  omega
theorem quo_bd {x y h : Int} (h0 : 0 ≤ x) (h1 : x ≤ h) (hy : 0 ≤ y) : 0 ≤ x / y ∧ x / y ≤ h := by
  have a := Int.ediv_nonneg h0 hy
  have b := Int.ediv_le_self y h0
  omega
section
variable {ρ : Env} {A B : IE} {x y z : Int}
abbrev In64 (z : Int) : Prop := -9223372036854775808 ≤ z ∧ z ≤ 9223372036854775807
/-- A fact that omega is not to see. -/
structure Hd (p : Prop) : Prop where
  out : p
structure Is (ρ : Env) (A : IE) (x : Int) : Prop where
  out : A.Z ρ = x
theorem Zc (n : Int) : Is ρ (.c n) n := ⟨rfl⟩
theorem Zadd (ha : Is ρ A x) (hb : Is ρ B y) (h1 : In64 z) (h : x + y = z) : Is ρ (IE.bin .add .i64 A B) z := by
  refine ⟨?_⟩
  show IntKind.i64.wrap (A.Z ρ + B.Z ρ) = z
  rw [ha.out, hb.out, h]; exact wrap_id h1.1 h1.2
theorem Zsub (ha : Is ρ A x) (hb : Is ρ B y) (h1 : In64 z) (h : x - y = z) : Is ρ (IE.bin .sub .i64 A B) z := by
  refine ⟨?_⟩
  show IntKind.i64.wrap (A.Z ρ - B.Z ρ) = z
  rw [ha.out, hb.out, h]; exact wrap_id h1.1 h1.2
theorem Zmul (ha : Is ρ A x) (hb : Is ρ B y) (h1 : In64 z) (h : x * y = z) : Is ρ (IE.bin .mul .i64 A B) z := by
  refine ⟨?_⟩
  show IntKind.i64.wrap (A.Z ρ * B.Z ρ) = z
  rw [ha.out, hb.out, h]; exact wrap_id h1.1 h1.2
theorem Zconv (ha : Is ρ A x) (h1 : In64 x) : Is ρ (IE.bin .conv .i64 A B) x := by
  refine ⟨?_⟩
  show IntKind.i64.wrap (A.Z ρ) = x
  rw [ha.out]; exact wrap_id h1.1 h1.2
theorem Zmn {k : IntKind} (ha : Is ρ A x) (hb : Is ρ B y) (h : min x y = z) : Is ρ (IE.bin .mn k A B) z := by
  refine ⟨?_⟩
  show min (A.Z ρ) (B.Z ρ) = z
  rw [ha.out, hb.out, h]
theorem Zmx {k : IntKind} (ha : Is ρ A x) (hb : Is ρ B y) (h : max x y = z) : Is ρ (IE.bin .mx k A B) z := by
  refine ⟨?_⟩
  show max (A.Z ρ) (B.Z ρ) = z
  rw [ha.out, hb.out, h]
theorem Zquop (ha : Is ρ A x) (hb : Is ρ B y) (h0 : 0 ≤ x) (h1 : In64 z) (h : x / y = z) : Is ρ (IE.bin .quo .i64 A B) z := by
  refine ⟨?_⟩
  show IntKind.i64.wrap ((A.Z ρ).tdiv (B.Z ρ)) = z
  rw [ha.out, hb.out, tdiv_pos h0, h]; exact wrap_id h1.1 h1.2
theorem Zremp {k : IntKind} (ha : Is ρ A x) (hb : Is ρ B y) (h0 : 0 ≤ x) (h : x % y = z) : Is ρ (IE.bin .rem k A B) z := by
  refine ⟨?_⟩
  show (A.Z ρ).tmod (B.Z ρ) = z
  rw [ha.out, hb.out, tmod_pos h0, h]
theorem Zquon (ha : Is ρ A x) (hb : Is ρ B y) (h0 : x ≤ 0) (h1 : In64 z) (h : -((-x) / y) = z) : Is ρ (IE.bin .quo .i64 A B) z := by
  refine ⟨?_⟩
  show IntKind.i64.wrap ((A.Z ρ).tdiv (B.Z ρ)) = z
  rw [ha.out, hb.out, tdiv_neg h0, h]; exact wrap_id h1.1 h1.2
theorem Zremn {k : IntKind} (ha : Is ρ A x) (hb : Is ρ B y) (h0 : x ≤ 0) (h : -((-x) % y) = z) : Is ρ (IE.bin .rem k A B) z := by
  refine ⟨?_⟩
  show (A.Z ρ).tmod (B.Z ρ) = z
  rw [ha.out, hb.out, tmod_neg h0, h]
theorem Zgcd {k : IntKind} {g : Int} (ha : Is ρ A x) (hb : Is ρ B y) (h : (Int.gcd x y : Int) = g) : Is ρ (IE.bin .gcd k A B) g := by
  refine ⟨?_⟩
  show (Int.gcd (A.Z ρ) (B.Z ρ) : Int) = g
  rw [ha.out, hb.out, h]
theorem Zgq {g q : Int} (ha : Is ρ A x) (hb : Is ρ B g) (hq : q * g = x) (hg : 1 ≤ g) (h1 : In64 q) : Is ρ (IE.bin .quo .i64 A B) q := by
  refine ⟨?_⟩
  show IntKind.i64.wrap ((A.Z ρ).tdiv (B.Z ρ)) = q
  rw [ha.out, hb.out, ← hq, Int.mul_tdiv_cancel _ (by omega)]
  exact wrap_id h1.1 h1.2
theorem gcd_ex (x y : Int) (hy : 1 ≤ y) : ∃ g : Int, Hd ((Int.gcd x y : Int) = g) ∧ 1 ≤ g := by
  have := Int.gcd_pos_of_ne_zero_right x (by omega : y ≠ 0)
  exact ⟨_, ⟨rfl⟩, by omega⟩
theorem gq_ex {x y g X h : Int} (hge : Hd ((Int.gcd x y : Int) = g)) (hX : X = x ∨ X = y) (h0 : 0 ≤ X) (hh : X ≤ h) (hg : 1 ≤ g) : ∃ q : Int, Hd (q * g = X) ∧ 0 ≤ q ∧ q ≤ h ∧ (1 ≤ X → 1 ≤ q) := by
  have hd : g ∣ X := by
    rw [← hge.out]
    rcases hX with rfl | rfl
    · exact Int.gcd_dvd_left ..
    · exact Int.gcd_dvd_right ..
  obtain ⟨k, hk⟩ := hd
  rw [Int.mul_comm] at hk
  have k0 : 0 ≤ k := by
    rcases Int.lt_or_le k 0 with q | q
    · have := Int.mul_le_mul_of_nonneg_right (show k ≤ -1 by omega) (show 0 ≤ g by omega)
      omega
    · exact q
  have k1 : k * 1 ≤ k * g := Int.mul_le_mul_of_nonneg_left hg k0
  refine ⟨k, ⟨hk.symm⟩, k0, by omega, fun h1 => ?_⟩
  rcases Int.lt_or_le 0 k with q | q
  · omega
  · obtain rfl : k = 0 := by omega
    rw [Int.zero_mul] at hk; omega
theorem taper_eq {A1 B1 g1 A2 B2 g2 N1 N2 D : Int} (h1 : A1 * g1 = N1) (h2 : B1 * g1 = D) (h3 : A2 * g2 = N2) (h4 : B2 * g2 = D) : (A1 * B2 - A2 * B1) * D = (N1 - N2) * (B1 * B2) := by
  have e1 : A1 * B2 * D = N1 * (B1 * B2) := by rw [← h2, ← h1]; ac_rfl
  have e2 : A2 * B1 * D = N2 * (B1 * B2) := by rw [← h4, ← h3]; ac_rfl
  rw [Int.sub_mul, Int.sub_mul, e1, e2]
theorem taper_le {A2 B2 g2 A3 B3 g3 N2 N3 D : Int} (h1 : A2 * g2 = N2) (h2 : B2 * g2 = D) (h3 : A3 * g3 = N3) (h4 : B3 * g3 = D) (p2 : 1 ≤ g2) (p3 : 1 ≤ g3) (hN : N3 ≤ N2) (hD : 0 ≤ D) : A3 * B2 ≤ A2 * B3 := by
  rcases Int.lt_or_le (A2 * B3) (A3 * B2) with q | q
  · exfalso
    have hg : 0 < g2 * g3 := Int.mul_pos (by omega) (by omega)
    have := Int.mul_lt_mul_of_pos_right q hg
    have e1 : A2 * B3 * (g2 * g3) = N2 * D := by rw [← h1, ← h4]; ac_rfl
    have e2 : A3 * B2 * (g2 * g3) = N3 * D := by rw [← h3, ← h2]; ac_rfl
    have := Int.mul_le_mul_of_nonneg_right hN hD
    omega
  · exact q
theorem mul_bd {x y a b : Int} (h1 : -a ≤ x) (h2 : x ≤ a) (h3 : 0 ≤ y) (h4 : y ≤ b) (ha : 0 ≤ a) : -(a * b) ≤ x * y ∧ x * y ≤ a * b := by
  have q1 := Int.mul_le_mul_of_nonneg_right h2 h3
  have q2 := Int.mul_le_mul_of_nonneg_right h1 h3
  have q3 := Int.mul_le_mul_of_nonneg_left h4 ha
  rw [Int.neg_mul] at q2
  omega
theorem Zleqt (ha : Is ρ A x) (hb : Is ρ B y) (h : (BE.cmp .leq A B).P ρ) : x ≤ y := by
  have h : A.Z ρ ≤ B.Z ρ := h
  rwa [ha.out, hb.out] at h
theorem Zleqf (ha : Is ρ A x) (hb : Is ρ B y) (h : ¬ (BE.cmp .leq A B).P ρ) : ¬ x ≤ y := by
  have h : ¬ A.Z ρ ≤ B.Z ρ := h
  rwa [ha.out, hb.out] at h
theorem Zeqlt (ha : Is ρ A x) (hb : Is ρ B y) (h : (BE.cmp .eql A B).P ρ) : x = y := by
  have h : A.Z ρ = B.Z ρ := h
  rwa [ha.out, hb.out] at h
theorem Zeqlf (ha : Is ρ A x) (hb : Is ρ B y) (h : ¬ (BE.cmp .eql A B).P ρ) : ¬ x = y := by
  have h : ¬ A.Z ρ = B.Z ρ := h
  rwa [ha.out, hb.out] at h
end

def DT.goal (ρ : Env) : DT → Prop
  | .leaf e => e.P ρ
  | .ask c t f => (c.P ρ → t.goal ρ) ∧ (¬ c.P ρ → f.goal ρ)
  | .conc e n t f => ((BE.cmp .eql e (.c n)).P ρ → t.goal ρ) ∧ (¬ (BE.cmp .eql e (.c n)).P ρ → f.goal ρ)
  | .dead => False

theorem DT.good_of (ρ : Env) : ∀ t : DT, t.goal ρ → t.good ρ
  | .leaf e, h => (BE.P_den ρ e).2 h
  | .ask c t f, h => ⟨fun hc => DT.good_of ρ t (h.1 ((BE.P_den ρ c).1 hc)), fun hc => DT.good_of ρ f (h.2 fun hc' => by rw [(BE.P_den ρ c).2 hc'] at hc; cases hc)⟩
  | .conc e n t f, h => ⟨fun hc => DT.good_of ρ t (h.1 ((BE.P_den ρ _).1 hc)), fun hc => DT.good_of ρ f (h.2 fun hc' => by rw [(BE.P_den ρ _).2 hc'] at hc; cases hc)⟩
  | .dead, h => h

end Go.Proofs.Ytknphpihipkdpaa.Cx
