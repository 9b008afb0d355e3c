/- Quotients by a symbol that may be 0 (0 then, as the model has it; no test is behind it). -/
import Derived.Test.YtknphpihipkdpaaCxGcd
set_option linter.unusedVariables false
namespace Go.Proofs.Ytknphpihipkdpaa.Cx
open Go Go.RowKit
theorem qZ_ex (x d lo hi : Int) (hd : 0 ≤ d) (h1 : lo ≤ x) (h2 : x ≤ hi) (h3 : lo ≤ 0) (h4 : 0 ≤ hi) : ∃ q : Int, Hd (x.tdiv d = q) ∧ (1 ≤ d → QD x d q) ∧ (lo ≤ q ∧ q ≤ hi) := by
  rcases Int.lt_or_le 0 d with h | h
  · obtain ⟨q, e, k⟩ := qD_ex x d h
    have r := qD_rng (lo := lo) (hi := hi) (dl := 1) k (by omega) (by omega) h1 h2 h3 h4
    exact ⟨q, e, fun _ => k, by omega⟩
  · obtain rfl : d = 0 := by omega
    exact ⟨_, ⟨rfl⟩, fun k => by omega, by rw [Int.tdiv_zero]; omega⟩
theorem qZ_is {x d q m : Int} (h : 1 ≤ d → QD x d q) (hm : q * d = m) : 1 ≤ d → ((0 ≤ x → 0 ≤ q ∧ m ≤ x ∧ x ≤ m + (d - 1)) ∧ (x ≤ 0 → q ≤ 0 ∧ x ≤ m ∧ m ≤ x + (d - 1))) := fun k => qD_is (h k) hm
theorem qZ_is' {x d q m : Int} (h : 1 ≤ d → QD x d q) (hm : d * q = m) : 1 ≤ d → ((0 ≤ x → 0 ≤ q ∧ m ≤ x ∧ x ≤ m + (d - 1)) ∧ (x ≤ 0 → q ≤ 0 ∧ x ≤ m ∧ m ≤ x + (d - 1))) := fun k => qD_is' (h k) hm
theorem qZ_mono {x d q y e r : Int} (h : 1 ≤ d → QD x d q) (k : 1 ≤ e → QD y e r) : 1 ≤ d → 1 ≤ e → x ≤ y → e ≤ d → 0 ≤ y → q ≤ r := fun a b => qD_mono (h a) (k b) a b
theorem qZ_gal {x d q t T : Int} (h : 1 ≤ d → QD x d q) (hT : t * d = T) : 1 ≤ d → 1 ≤ t ∨ 0 ≤ x → t ≤ q ∧ T ≤ x ∨ q + 1 ≤ t ∧ x + 1 ≤ T := fun k => qD_gal (h k) k hT
theorem ZtrD {ρ : Env} {k : IntKind} {X Y : IE} {x y q m z : Int} (ha : Is ρ X x) (hb : Is ρ Y y) (hq : x.tdiv y = q) (hm : q * y = m) (hz : x - m = z) : Is ρ (IE.bin .rem k X Y) z := by
  refine Ztr ha hb ?_
  have e := Int.mul_tdiv_add_tmod x y
  rw [hq, Int.mul_comm, hm] at e
  omega
end Go.Proofs.Ytknphpihipkdpaa.Cx
