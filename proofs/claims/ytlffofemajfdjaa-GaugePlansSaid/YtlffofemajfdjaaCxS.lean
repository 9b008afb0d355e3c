/- Arithmetic for the trees: what the terms of a tree say, without their wraps. -/
import Derived.Test.YtlffofemajfdjaaCxR
set_option linter.unusedSimpArgs false
set_option linter.unusedVariables false
namespace Go.Proofs.Ytlffofemajfdjaa.Cx
open Go Go.RowKit

theorem wrap_id {x : Int} (h1 : -9223372036854775808 ≤ x) (h2 : x ≤ 9223372036854775807) : IntKind.i64.wrap x = x := by
  have e1 : (2 : Int) ^ 64 = 18446744073709551616 := rfl
  have e2 : (2 : Int) ^ (64 - 1) = 9223372036854775808 := rfl
  simp only [IntKind.wrap, IntKind.bits, IntKind.signed, Bool.true_and, e1, e2]
  split
  · rename_i h; have := of_decide_eq_true h; omega
  · rename_i h
    have : ¬ (x % 18446744073709551616 ≥ 9223372036854775808) := fun h' => h (decide_eq_true h')
    omega

theorem tdiv_pos {x n : Int} (h : 0 ≤ x) : x.tdiv n = x / n := Int.tdiv_eq_ediv_of_nonneg h
theorem tmod_pos {x n : Int} (h : 0 ≤ x) : x.tmod n = x % n := Int.tmod_eq_emod_of_nonneg h
theorem tmod_neg {x n : Int} (h : x ≤ 0) : x.tmod n = -((-x) % n) := by
  rw [← Int.tmod_eq_emod_of_nonneg (by omega : 0 ≤ -x), Int.neg_tmod, Int.neg_neg]
theorem tdiv_neg {x n : Int} (h : x ≤ 0) : x.tdiv n = -((-x) / n) := by
  rw [← Int.tdiv_eq_ediv_of_nonneg (by omega : 0 ≤ -x), Int.neg_tdiv, Int.neg_neg]

/-! The terms as they read. -/

def IE.Z (ρ : Env) : IE → Int
  | .c n => n
  | .v i => ρ.i i
  | .bin .add k a b => k.wrap (a.Z ρ + b.Z ρ)
  | .bin .sub k a b => k.wrap (a.Z ρ - b.Z ρ)
  | .bin .mul k a b => k.wrap (a.Z ρ * b.Z ρ)
  | .bin .quo k a b => k.wrap ((a.Z ρ).tdiv (b.Z ρ))
  | .bin .rem k a b => (a.Z ρ).tmod (b.Z ρ)
  | .bin .mn k a b => min (a.Z ρ) (b.Z ρ)
  | .bin .mx k a b => max (a.Z ρ) (b.Z ρ)
  | .bin o k a b => o.run k (a.Z ρ) (b.Z ρ)

theorem IE.Z_den (ρ : Env) : ∀ e : IE, e.den ρ = e.Z ρ
  | .c n => rfl
  | .v i => rfl
  | .bin o k a b => by
    have ha := IE.Z_den ρ a
    have hb := IE.Z_den ρ b
    cases o <;> simp only [IE.den, IE.Z, Ar.run, ha, hb]
    · split <;> omega
    · split <;> omega

def BE.P (ρ : Env) : BE → Prop
  | .c b => b = true
  | .v i => ρ.b i = true
  | .cmp .eql a b => a.Z ρ = b.Z ρ
  | .cmp .neq a b => a.Z ρ ≠ b.Z ρ
  | .cmp .lss a b => a.Z ρ < b.Z ρ
  | .cmp .leq a b => a.Z ρ ≤ b.Z ρ
  | .cmp .gtr a b => a.Z ρ > b.Z ρ
  | .cmp .geq a b => a.Z ρ ≥ b.Z ρ
  | .not b => ¬ b.P ρ

theorem BE.P_den (ρ : Env) : ∀ b : BE, b.den ρ = true ↔ b.P ρ
  | .c b => Iff.rfl
  | .v i => Iff.rfl
  | .cmp o a b => by cases o <;> simp [BE.den, BE.P, Cm.run, IE.Z_den]
  | .not b => by simp [BE.den, BE.P, ← BE.P_den ρ b]

def DT.goal (ρ : Env) : DT → Prop
  | .leaf e => e.P ρ
  | .ask c t f => (c.P ρ → t.goal ρ) ∧ (¬ c.P ρ → f.goal ρ)
  | .dead => False

theorem DT.good_of (ρ : Env) : ∀ t : DT, t.goal ρ → t.good ρ
  | .leaf e, h => (BE.P_den ρ e).2 h
  | .ask c t f, h => ⟨fun hc => DT.good_of ρ t (h.1 ((BE.P_den ρ c).1 hc)), fun hc => DT.good_of ρ f (h.2 fun hc' => by rw [(BE.P_den ρ c).2 hc'] at hc; cases hc)⟩
  | .dead, h => h

end Go.Proofs.Ytlffofemajfdjaa.Cx
