/- AUTOMATA AND INVARIANTS: a tree of tests on Lean's numbers as one of terms; a loop by its invariant and a measure. -/
import Derived.Test.YtknphpihipkdpaaCxZS
import Derived.Test.YtknphpihipkdpaaCxDiv0
set_option linter.unusedVariables false
set_option linter.unusedSimpArgs false
namespace Go.Proofs.Ytknphpihipkdpaa.Cx
open Go Go.RowKit

inductive VT (L : Type) where
  | leaf (l : L)
  | ask (o : Cm) (a b : IE) (t f : VT L)
  | askb (c : Bool) (t f : VT L)
  | must (o : Cm) (a b : IE) (t : VT L)
  | mustb (c : Bool) (t : VT L)

section
variable {L : Type}

def VT.dd (ρ : Env) : VT L → DD L
  | .leaf l => .leaf l
  | .ask o a b t f => .ask (o.run (a.den ρ) (b.den ρ)) (t.dd ρ) (f.dd ρ)
  | .askb c t f => .ask c (t.dd ρ) (f.dd ρ)
  | .must o a b t => .must (o.run (a.den ρ) (b.den ρ)) (t.dd ρ)
  | .mustb c t => .must c (t.dd ρ)

def askN (o : Cm) (a b : IE) (t f : DT) : DT := match o with
  | .leq => .ask (.cmp .leq a b) t f
  | .gtr => .ask (.cmp .leq a b) f t
  | .geq => .ask (.cmp .leq b a) t f
  | .lss => .ask (.cmp .leq b a) f t
  | .eql => .ask (.cmp .eql a b) t f
  | .neq => .ask (.cmp .eql a b) f t

def VT.dt (Q : L → Bool) : VT L → DT
  | .leaf l => .leaf (.x (Q l))
  | .ask o a b t f => askN o a b (t.dt Q) (f.dt Q)
  | .askb c t f => .ask (.x c) (t.dt Q) (f.dt Q)
  | .must o a b t => askN o a b (t.dt Q) .dead
  | .mustb c t => .ask (.x c) (t.dt Q) .dead

theorem askN_goal {ρ : Env} {o : Cm} {a b : IE} {t f : DT} (h : (askN o a b t f).goal ρ) : (o.run (a.den ρ) (b.den ρ) = true → t.goal ρ) ∧ (o.run (a.den ρ) (b.den ρ) = false → f.goal ρ) := by
  rw [IE.Z_den, IE.Z_den]
  cases o <;> simp only [askN, DT.goal, BE.P, Cm.run, beq_iff_eq, bne_iff_ne, decide_eq_true_eq, decide_eq_false_iff_not, beq_eq_false_iff_ne, bne_eq_false_iff_eq, ne_eq] at h ⊢
  · exact h
  · exact ⟨h.2, h.1⟩
  · exact ⟨fun g => h.2 (by omega), fun g => h.1 (by omega)⟩
  · exact h
  · exact ⟨fun g => h.2 (by omega), fun g => h.1 (by omega)⟩
  · exact ⟨fun g => h.1 (by omega), fun g => h.2 (by omega)⟩

theorem VT.eval_of {ρ : Env} {Q : L → Bool} : ∀ t : VT L, (t.dt Q).goal ρ → ∃ l, (t.dd ρ).eval = some l ∧ Q l = true
  | .leaf l, h => ⟨l, rfl, h⟩
  | .ask o a b t f, h => by
    have k := askN_goal h
    simp only [VT.dd, DD.eval]
    cases e : o.run (a.den ρ) (b.den ρ) with
    | true => exact VT.eval_of t (k.1 e)
    | false => exact VT.eval_of f (k.2 e)
  | .askb c t f, h => by
    simp only [VT.dd, DD.eval]
    cases c with
    | true => exact VT.eval_of t (h.1 rfl)
    | false => exact VT.eval_of f (h.2 (by simp [BE.P]))
  | .must o a b t, h => by
    have k := askN_goal h
    simp only [VT.dd, DD.eval]
    cases e : o.run (a.den ρ) (b.den ρ) with
    | true => exact VT.eval_of t (k.1 e)
    | false => exact (k.2 e).elim
  | .mustb c t, h => by
    simp only [VT.dd, DD.eval]
    cases c with
    | true => exact VT.eval_of t (h.1 rfl)
    | false => exact (h.2 (by simp [BE.P])).elim
end

section
variable {N R : Type} {A : AF N R}

/-- What is said of a leaf: of the next head, or of the end. -/
noncomputable def endQ (I : N → Prop) (E : R → Prop) (l : Lf N R) : Bool := @decide (match l with | .next b _ => I b | .done v _ => E v) (Classical.propDecidable _)
theorem endQ_iff {I : N → Prop} {E : R → Prop} {l : Lf N R} : endQ I E l = true ↔ (match l with | .next b _ => I b | .done v _ => E v) := @decide_eq_true_iff _ (Classical.propDecidable _)
theorem endQ_next {I : N → Prop} {E : R → Prop} {b : N} {r : List Nat} (h : I b) : endQ I E (.next b r) = true := endQ_iff.2 h
theorem endQ_done {I : N → Prop} {E : R → Prop} {v : R} {r : List Nat} (h : E v) : endQ I E (.done v r) = true := endQ_iff.2 h

theorem AF.go_of {Inv : N → Prop} {μ : N → Nat} {E : R → Prop} (hr : ∀ a, A.rgo a = none) (h : ∀ a, Inv a → ∃ l, (A.D a).eval = some l ∧ endQ (fun b => Inv b ∧ μ b < μ a) E l = true) : ∀ n a, μ a < n → Inv a → ∃ v, A.go n a = some v ∧ E v
  | 0, a, hn, _ => by omega
  | n + 1, a, hn, hi => by
    obtain ⟨l, e, q⟩ := h a hi
    have q := endQ_iff.1 q
    simp only [AF.go, hr a, e]
    cases l with
    | next b r => exact AF.go_of hr h n b (by have := q.2; omega) q.1
    | done v r => exact ⟨v, rfl, q⟩

theorem AF.run_of {Inv : N → Prop} {μ : N → Nat} {E : R → Prop} (hr : ∀ a, A.rgo a = none) (h : ∀ a, Inv a → ∃ l, (A.D a).eval = some l ∧ endQ (fun b => Inv b ∧ μ b < μ a) E l = true) (h0 : ∃ l, A.D0.eval = some l ∧ endQ Inv E l = true) : ∃ n v, A.run n = some v ∧ E v := by
  obtain ⟨l, e, q⟩ := h0
  have q := endQ_iff.1 q
  cases l with
  | next b r =>
    obtain ⟨v, hv, k⟩ := AF.go_of hr h (μ b + 1) b (by omega) q
    exact ⟨_, v, by simp only [AF.run, e]; exact hv, k⟩
  | done v r => exact ⟨0, v, by simp only [AF.run, e], q⟩

theorem AF.val_holds [Inhabited R] {E : R → Prop} (hr : ∀ a, A.rgo a = none) (h : ∃ n v, A.run n = some v ∧ E v) : A.fin = true ∧ E A.val := by
  obtain ⟨n, v, e, k⟩ := h
  obtain ⟨h1, h2⟩ := AF.val_of (AF.mono_none hr) e
  exact ⟨h1, h2 ▸ k⟩
end
end Go.Proofs.Ytknphpihipkdpaa.Cx
