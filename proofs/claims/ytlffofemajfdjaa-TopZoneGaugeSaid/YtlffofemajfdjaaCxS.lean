/- Arithmetic for the trees: what the terms of a tree say, without their wraps. -/
import Derived.Test.YtlffofemajfdjaaCxR
set_option linter.unusedSimpArgs false
set_option linter.unusedVariables false
namespace Go.Proofs.Ytlffofemajfdjaa.Cx
open Go Go.RowKit

theorem wrap_id {x : Int} (h1 : -9223372036854775808 ≤ x) (h2 : x ≤ 9223372036854775807) : IntKind.i64.wrap x = x := by
  have e1 : (2 : Int) ^ 64 = 18446744073709551616 := rfl
  have e2 : (2 : Int) ^ (64 - 1) = 9223372036854775808 := rfl
  simp only [IntKind.wrap, IntKind.bits, IntKind.signed, Bool.true_and, e1, e2]
  split
  · rename_i h; have := of_decide_eq_true h; omega
  · rename_i h
    have : ¬ (x % 18446744073709551616 ≥ 9223372036854775808) := fun h' => h (decide_eq_true h')
    omega

theorem tdiv_pos {x n : Int} (h : 0 ≤ x) : x.tdiv n = x / n := Int.tdiv_eq_ediv_of_nonneg h
theorem tmod_pos {x n : Int} (h : 0 ≤ x) : x.tmod n = x % n := Int.tmod_eq_emod_of_nonneg h
theorem tmod_neg {x n : Int} (h : x ≤ 0) : x.tmod n = -((-x) % n) := by
  rw [← Int.tmod_eq_emod_of_nonneg (by omega : 0 ≤ -x), Int.neg_tmod, Int.neg_neg]
theorem tdiv_neg {x n : Int} (h : x ≤ 0) : x.tdiv n = -((-x) / n) := by
  rw [← Int.tdiv_eq_ediv_of_nonneg (by omega : 0 ≤ -x), Int.neg_tdiv, Int.neg_neg]

/-! The terms as they read. -/

def IE.Z (ρ : Env) : IE → Int
  | .c n => n
  | .v i => ρ.i i
  | .bin .add k a b => k.wrap (a.Z ρ + b.Z ρ)
  | .bin .sub k a b => k.wrap (a.Z ρ - b.Z ρ)
  | .bin .mul k a b => k.wrap (a.Z ρ * b.Z ρ)
  | .bin .quo k a b => k.wrap ((a.Z ρ).tdiv (b.Z ρ))
  | .bin .rem k a b => (a.Z ρ).tmod (b.Z ρ)
  | .bin .mn k a b => min (a.Z ρ) (b.Z ρ)
  | .bin .mx k a b => max (a.Z ρ) (b.Z ρ)
  | .bin o k a b => o.run k (a.Z ρ) (b.Z ρ)

theorem IE.Z_den (ρ : Env) : ∀ e : IE, e.den ρ = e.Z ρ
  | .c n => rfl
  | .v i => rfl
  | .bin o k a b => by
    have ha := IE.Z_den ρ a
    have hb := IE.Z_den ρ b
    cases o <;> simp only [IE.den, IE.Z, Ar.run, ha, hb]
    · split <;> omega
    · split <;> omega

def BE.P (ρ : Env) : BE → Prop
  | .c b => b = true
  | .v i => ρ.b i = true
  | .cmp .eql a b => a.Z ρ = b.Z ρ
  | .cmp .neq a b => a.Z ρ ≠ b.Z ρ
  | .cmp .lss a b => a.Z ρ < b.Z ρ
  | .cmp .leq a b => a.Z ρ ≤ b.Z ρ
  | .cmp .gtr a b => a.Z ρ > b.Z ρ
  | .cmp .geq a b => a.Z ρ ≥ b.Z ρ
  | .not b => ¬ b.P ρ

theorem BE.P_den (ρ : Env) : ∀ b : BE, b.den ρ = true ↔ b.P ρ
  | .c b => Iff.rfl
  | .v i => Iff.rfl
  | .cmp o a b => by cases o <;> simp [BE.den, BE.P, Cm.run, IE.Z_den]
  | .not b => by simp [BE.den, BE.P, ← BE.P_den ρ b]

theorem rem_bd {x y h : Int} (h0 : 0 ≤ x) (h1 : x ≤ h) (hy : 1 ≤ y) : 0 ≤ x % y ∧ x % y ≤ h ∧ x % y ≤ y - 1 := by
  have a := Int.emod_nonneg x (by omega : y ≠ 0)
  have b := Int.emod_lt_of_pos x (by omega : 0 < y)
  have c : x % y ≤ x := by
    have := Int.emod_add_mul_ediv x y
    have d := Int.mul_nonneg (by omega : 0 ≤ y) (Int.ediv_nonneg h0 (by omega : 0 ≤ y))
    omega
  omega
theorem quo_bd {x y h : Int} (h0 : 0 ≤ x) (h1 : x ≤ h) (hy : 0 ≤ y) : 0 ≤ x / y ∧ x / y ≤ h := by
  have a := Int.ediv_nonneg h0 hy
  have b := Int.ediv_le_self y h0
  omega
section
variable {ρ : Env} {A B : IE} {x y z : Int}
abbrev In64 (z : Int) : Prop := -9223372036854775808 ≤ z ∧ z ≤ 9223372036854775807
/-- A fact that omega is not to see. -/
structure Hd (p : Prop) : Prop where
  out : p
structure Is (ρ : Env) (A : IE) (x : Int) : Prop where
  out : A.Z ρ = x
theorem Zc (n : Int) : Is ρ (.c n) n := ⟨rfl⟩
theorem Zadd (ha : Is ρ A x) (hb : Is ρ B y) (h1 : In64 z) (h : x + y = z) : Is ρ (IE.bin .add .i64 A B) z := by
  refine ⟨?_⟩
  show IntKind.i64.wrap (A.Z ρ + B.Z ρ) = z
  rw [ha.out, hb.out, h]; exact wrap_id h1.1 h1.2
theorem Zsub (ha : Is ρ A x) (hb : Is ρ B y) (h1 : In64 z) (h : x - y = z) : Is ρ (IE.bin .sub .i64 A B) z := by
  refine ⟨?_⟩
  show IntKind.i64.wrap (A.Z ρ - B.Z ρ) = z
  rw [ha.out, hb.out, h]; exact wrap_id h1.1 h1.2
theorem Zmul (ha : Is ρ A x) (hb : Is ρ B y) (h1 : In64 z) (h : x * y = z) : Is ρ (IE.bin .mul .i64 A B) z := by
  refine ⟨?_⟩
  show IntKind.i64.wrap (A.Z ρ * B.Z ρ) = z
  rw [ha.out, hb.out, h]; exact wrap_id h1.1 h1.2
theorem Zconv (ha : Is ρ A x) (h1 : In64 x) : Is ρ (IE.bin .conv .i64 A B) x := by
  refine ⟨?_⟩
  show IntKind.i64.wrap (A.Z ρ) = x
  rw [ha.out]; exact wrap_id h1.1 h1.2
theorem Zmn {k : IntKind} (ha : Is ρ A x) (hb : Is ρ B y) (h : min x y = z) : Is ρ (IE.bin .mn k A B) z := by
  refine ⟨?_⟩
  show min (A.Z ρ) (B.Z ρ) = z
  rw [ha.out, hb.out, h]
theorem Zmx {k : IntKind} (ha : Is ρ A x) (hb : Is ρ B y) (h : max x y = z) : Is ρ (IE.bin .mx k A B) z := by
  refine ⟨?_⟩
  show max (A.Z ρ) (B.Z ρ) = z
  rw [ha.out, hb.out, h]
theorem Zquop (ha : Is ρ A x) (hb : Is ρ B y) (h0 : 0 ≤ x) (h1 : In64 z) (h : x / y = z) : Is ρ (IE.bin .quo .i64 A B) z := by
  refine ⟨?_⟩
  show IntKind.i64.wrap ((A.Z ρ).tdiv (B.Z ρ)) = z
  rw [ha.out, hb.out, tdiv_pos h0, h]; exact wrap_id h1.1 h1.2
theorem Zremp {k : IntKind} (ha : Is ρ A x) (hb : Is ρ B y) (h0 : 0 ≤ x) (h : x % y = z) : Is ρ (IE.bin .rem k A B) z := by
  refine ⟨?_⟩
  show (A.Z ρ).tmod (B.Z ρ) = z
  rw [ha.out, hb.out, tmod_pos h0, h]
theorem Zquon (ha : Is ρ A x) (hb : Is ρ B y) (h0 : x ≤ 0) (h1 : In64 z) (h : -((-x) / y) = z) : Is ρ (IE.bin .quo .i64 A B) z := by
  refine ⟨?_⟩
  show IntKind.i64.wrap ((A.Z ρ).tdiv (B.Z ρ)) = z
  rw [ha.out, hb.out, tdiv_neg h0, h]; exact wrap_id h1.1 h1.2
theorem Zremn {k : IntKind} (ha : Is ρ A x) (hb : Is ρ B y) (h0 : x ≤ 0) (h : -((-x) % y) = z) : Is ρ (IE.bin .rem k A B) z := by
  refine ⟨?_⟩
  show (A.Z ρ).tmod (B.Z ρ) = z
  rw [ha.out, hb.out, tmod_neg h0, h]
theorem Zleqt (ha : Is ρ A x) (hb : Is ρ B y) (h : (BE.cmp .leq A B).P ρ) : x ≤ y := by
  have h : A.Z ρ ≤ B.Z ρ := h
  rwa [ha.out, hb.out] at h
theorem Zleqf (ha : Is ρ A x) (hb : Is ρ B y) (h : ¬ (BE.cmp .leq A B).P ρ) : ¬ x ≤ y := by
  have h : ¬ A.Z ρ ≤ B.Z ρ := h
  rwa [ha.out, hb.out] at h
theorem Zeqlt (ha : Is ρ A x) (hb : Is ρ B y) (h : (BE.cmp .eql A B).P ρ) : x = y := by
  have h : A.Z ρ = B.Z ρ := h
  rwa [ha.out, hb.out] at h
theorem Zeqlf (ha : Is ρ A x) (hb : Is ρ B y) (h : ¬ (BE.cmp .eql A B).P ρ) : ¬ x = y := by
  have h : ¬ A.Z ρ = B.Z ρ := h
  rwa [ha.out, hb.out] at h
end

def DT.goal (ρ : Env) : DT → Prop
  | .leaf e => e.P ρ
  | .ask c t f => (c.P ρ → t.goal ρ) ∧ (¬ c.P ρ → f.goal ρ)
  | .dead => False

theorem DT.good_of (ρ : Env) : ∀ t : DT, t.goal ρ → t.good ρ
  | .leaf e, h => (BE.P_den ρ e).2 h
  | .ask c t f, h => ⟨fun hc => DT.good_of ρ t (h.1 ((BE.P_den ρ c).1 hc)), fun hc => DT.good_of ρ f (h.2 fun hc' => by rw [(BE.P_den ρ c).2 hc'] at hc; cases hc)⟩
  | .dead, h => h

end Go.Proofs.Ytlffofemajfdjaa.Cx
