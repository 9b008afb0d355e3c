/- GaugePlans: the tests of the law, and why its leaves are all. -/
import Derived.Test.YtlffofemajfdjaaCxS
set_option linter.unusedSimpArgs false
set_option linter.unusedVariables false
namespace Go.Proofs.Ytlffofemajfdjaa.Cx
open Go Go.RowKit

def gpTree : DT :=
(.ask (.cmp .leq (.c 0) (.v 0))
 (.ask (.cmp .leq (.v 0) (.v 1))
  (.ask (.cmp .leq (.v 1) (.c 10000))
   (.ask (.cmp .leq (.c 0) (.v 2))
    (.ask (.cmp .leq (.v 2) (.c 100000))
     (.ask (.cmp .leq (.c 0) (.v 3))
      (.ask (.cmp .leq (.v 3) (.c 100000))
       (.ask (.cmp .leq (.c 0) (.v 4))
        (.ask (.cmp .leq (.v 4) (.c 10000000))
         (.ask (.v 0)
          (.ask (.cmp .leq (.bin .rem .i64 (.bin .sub .i64 (.c 0) (.bin .mul .i64 (.v 0) (.v 2))) (.c 1000)) (.c 0))
           (.ask (.cmp .leq (.bin .rem .i64 (.bin .mul .i64 (.v 1) (.v 2)) (.c 1000)) (.c 0))
            (.ask (.cmp .leq (.c 0) (.bin .add .i64 (.bin .sub .i64 (.c 10000000) (.v 4)) (.bin .quo .i64 (.bin .mul .i64 (.v 1) (.v 2)) (.c 1000))))
             (.ask (.cmp .leq (.bin .add .i64 (.bin .sub .i64 (.c 10000000) (.v 4)) (.bin .quo .i64 (.bin .mul .i64 (.v 1) (.v 2)) (.c 1000))) (.bin .add .i64 (.bin .add .i64 (.bin .sub .i64 (.c 10000000) (.v 4)) (.bin .quo .i64 (.bin .mul .i64 (.v 1) (.v 2)) (.c 1000))) (.v 3)))
              (.ask (.cmp .leq (.bin .add .i64 (.bin .add .i64 (.bin .sub .i64 (.c 10000000) (.v 4)) (.bin .quo .i64 (.bin .mul .i64 (.v 1) (.v 2)) (.c 1000))) (.v 3)) (.c 10000000))
               (.ask (.cmp .leq (.c 0) (.bin .sub .i64 (.bin .sub .i64 (.v 4) (.bin .quo .i64 (.bin .mul .i64 (.v 1) (.v 2)) (.c 1000))) (.v 3)))
                (.ask (.cmp .leq (.bin .sub .i64 (.bin .sub .i64 (.v 4) (.bin .quo .i64 (.bin .mul .i64 (.v 1) (.v 2)) (.c 1000))) (.v 3)) (.bin .add .i64 (.bin .sub .i64 (.bin .sub .i64 (.v 4) (.bin .quo .i64 (.bin .mul .i64 (.v 1) (.v 2)) (.c 1000))) (.v 3)) (.v 3)))
                 (.ask (.cmp .leq (.bin .add .i64 (.bin .sub .i64 (.bin .sub .i64 (.v 4) (.bin .quo .i64 (.bin .mul .i64 (.v 1) (.v 2)) (.c 1000))) (.v 3)) (.v 3)) (.c 10000000))
                  (.ask (.cmp .eql (.bin .mn .i64 (.bin .sub .i64 (.c 10000000) (.bin .add .i64 (.bin .sub .i64 (.c 10000000) (.v 4)) (.bin .quo .i64 (.bin .mul .i64 (.v 1) (.v 2)) (.c 1000)))) (.bin .sub .i64 (.c 10000000) (.bin .add .i64 (.bin .add .i64 (.bin .sub .i64 (.c 10000000) (.v 4)) (.bin .quo .i64 (.bin .mul .i64 (.v 1) (.v 2)) (.c 1000))) (.v 3)))) (.bin .sub .i64 (.bin .sub .i64 (.v 4) (.bin .quo .i64 (.bin .mul .i64 (.v 1) (.v 2)) (.c 1000))) (.v 3)))
                   (.ask (.cmp .eql (.bin .mx .i64 (.bin .sub .i64 (.c 10000000) (.bin .add .i64 (.bin .sub .i64 (.c 10000000) (.v 4)) (.bin .quo .i64 (.bin .mul .i64 (.v 1) (.v 2)) (.c 1000)))) (.bin .sub .i64 (.c 10000000) (.bin .add .i64 (.bin .add .i64 (.bin .sub .i64 (.c 10000000) (.v 4)) (.bin .quo .i64 (.bin .mul .i64 (.v 1) (.v 2)) (.c 1000))) (.v 3)))) (.bin .add .i64 (.bin .sub .i64 (.bin .sub .i64 (.v 4) (.bin .quo .i64 (.bin .mul .i64 (.v 1) (.v 2)) (.c 1000))) (.v 3)) (.v 3)))
                    (.leaf (.c true))
                    .dead)
                   .dead)
                  .dead)
                 .dead)
                .dead)
               (.ask (.cmp .leq (.c 0) (.bin .sub .i64 (.bin .sub .i64 (.v 4) (.bin .quo .i64 (.bin .mul .i64 (.v 1) (.v 2)) (.c 1000))) (.v 3)))
                .dead
                (.leaf (.c true))))
              .dead)
             .dead)
            (.ask (.cmp .leq (.c 0) (.bin .add .i64 (.bin .sub .i64 (.c 10000000) (.v 4)) (.bin .add .i64 (.bin .quo .i64 (.bin .mul .i64 (.v 1) (.v 2)) (.c 1000)) (.c 1))))
             (.ask (.cmp .leq (.bin .add .i64 (.bin .sub .i64 (.c 10000000) (.v 4)) (.bin .add .i64 (.bin .quo .i64 (.bin .mul .i64 (.v 1) (.v 2)) (.c 1000)) (.c 1))) (.bin .add .i64 (.bin .add .i64 (.bin .sub .i64 (.c 10000000) (.v 4)) (.bin .add .i64 (.bin .quo .i64 (.bin .mul .i64 (.v 1) (.v 2)) (.c 1000)) (.c 1))) (.v 3)))
              (.ask (.cmp .leq (.bin .add .i64 (.bin .add .i64 (.bin .sub .i64 (.c 10000000) (.v 4)) (.bin .add .i64 (.bin .quo .i64 (.bin .mul .i64 (.v 1) (.v 2)) (.c 1000)) (.c 1))) (.v 3)) (.c 10000000))
               (.ask (.cmp .leq (.c 0) (.bin .sub .i64 (.bin .sub .i64 (.v 4) (.bin .add .i64 (.bin .quo .i64 (.bin .mul .i64 (.v 1) (.v 2)) (.c 1000)) (.c 1))) (.v 3)))
                (.ask (.cmp .leq (.bin .sub .i64 (.bin .sub .i64 (.v 4) (.bin .add .i64 (.bin .quo .i64 (.bin .mul .i64 (.v 1) (.v 2)) (.c 1000)) (.c 1))) (.v 3)) (.bin .add .i64 (.bin .sub .i64 (.bin .sub .i64 (.v 4) (.bin .add .i64 (.bin .quo .i64 (.bin .mul .i64 (.v 1) (.v 2)) (.c 1000)) (.c 1))) (.v 3)) (.v 3)))
                 (.ask (.cmp .leq (.bin .add .i64 (.bin .sub .i64 (.bin .sub .i64 (.v 4) (.bin .add .i64 (.bin .quo .i64 (.bin .mul .i64 (.v 1) (.v 2)) (.c 1000)) (.c 1))) (.v 3)) (.v 3)) (.c 10000000))
                  (.ask (.cmp .eql (.bin .mn .i64 (.bin .sub .i64 (.c 10000000) (.bin .add .i64 (.bin .sub .i64 (.c 10000000) (.v 4)) (.bin .add .i64 (.bin .quo .i64 (.bin .mul .i64 (.v 1) (.v 2)) (.c 1000)) (.c 1)))) (.bin .sub .i64 (.c 10000000) (.bin .add .i64 (.bin .add .i64 (.bin .sub .i64 (.c 10000000) (.v 4)) (.bin .add .i64 (.bin .quo .i64 (.bin .mul .i64 (.v 1) (.v 2)) (.c 1000)) (.c 1))) (.v 3)))) (.bin .sub .i64 (.bin .sub .i64 (.v 4) (.bin .add .i64 (.bin .quo .i64 (.bin .mul .i64 (.v 1) (.v 2)) (.c 1000)) (.c 1))) (.v 3)))
                   (.ask (.cmp .eql (.bin .mx .i64 (.bin .sub .i64 (.c 10000000) (.bin .add .i64 (.bin .sub .i64 (.c 10000000) (.v 4)) (.bin .add .i64 (.bin .quo .i64 (.bin .mul .i64 (.v 1) (.v 2)) (.c 1000)) (.c 1)))) (.bin .sub .i64 (.c 10000000) (.bin .add .i64 (.bin .add .i64 (.bin .sub .i64 (.c 10000000) (.v 4)) (.bin .add .i64 (.bin .quo .i64 (.bin .mul .i64 (.v 1) (.v 2)) (.c 1000)) (.c 1))) (.v 3)))) (.bin .add .i64 (.bin .sub .i64 (.bin .sub .i64 (.v 4) (.bin .add .i64 (.bin .quo .i64 (.bin .mul .i64 (.v 1) (.v 2)) (.c 1000)) (.c 1))) (.v 3)) (.v 3)))
                    (.leaf (.c true))
                    .dead)
                   .dead)
                  .dead)
                 .dead)
                .dead)
               (.ask (.cmp .leq (.c 0) (.bin .sub .i64 (.bin .sub .i64 (.v 4) (.bin .add .i64 (.bin .quo .i64 (.bin .mul .i64 (.v 1) (.v 2)) (.c 1000)) (.c 1))) (.v 3)))
                .dead
                (.leaf (.c true))))
              .dead)
             .dead))
           .dead)
          (.ask (.cmp .leq (.bin .rem .i64 (.bin .sub .i64 (.c 0) (.bin .mul .i64 (.v 0) (.v 2))) (.c 1000)) (.c 0))
           (.ask (.cmp .leq (.bin .rem .i64 (.bin .mul .i64 (.v 1) (.v 2)) (.c 1000)) (.c 0))
            (.ask (.cmp .leq (.c 0) (.bin .add .i64 (.v 4) (.bin .quo .i64 (.bin .mul .i64 (.v 1) (.v 2)) (.c 1000))))
             (.ask (.cmp .leq (.bin .add .i64 (.v 4) (.bin .quo .i64 (.bin .mul .i64 (.v 1) (.v 2)) (.c 1000))) (.bin .add .i64 (.bin .add .i64 (.v 4) (.bin .quo .i64 (.bin .mul .i64 (.v 1) (.v 2)) (.c 1000))) (.v 3)))
              (.ask (.cmp .leq (.bin .add .i64 (.bin .add .i64 (.v 4) (.bin .quo .i64 (.bin .mul .i64 (.v 1) (.v 2)) (.c 1000))) (.v 3)) (.c 10000000))
               (.ask (.cmp .eql (.bin .mn .i64 (.bin .add .i64 (.v 4) (.bin .quo .i64 (.bin .mul .i64 (.v 1) (.v 2)) (.c 1000))) (.bin .add .i64 (.bin .add .i64 (.v 4) (.bin .quo .i64 (.bin .mul .i64 (.v 1) (.v 2)) (.c 1000))) (.v 3))) (.bin .add .i64 (.v 4) (.bin .quo .i64 (.bin .mul .i64 (.v 1) (.v 2)) (.c 1000))))
                (.ask (.cmp .eql (.bin .mx .i64 (.bin .add .i64 (.v 4) (.bin .quo .i64 (.bin .mul .i64 (.v 1) (.v 2)) (.c 1000))) (.bin .add .i64 (.bin .add .i64 (.v 4) (.bin .quo .i64 (.bin .mul .i64 (.v 1) (.v 2)) (.c 1000))) (.v 3))) (.bin .add .i64 (.bin .add .i64 (.v 4) (.bin .quo .i64 (.bin .mul .i64 (.v 1) (.v 2)) (.c 1000))) (.v 3)))
                 (.leaf (.c true))
                 .dead)
                .dead)
               (.leaf (.c true)))
              .dead)
             .dead)
            (.ask (.cmp .leq (.c 0) (.bin .add .i64 (.v 4) (.bin .add .i64 (.bin .quo .i64 (.bin .mul .i64 (.v 1) (.v 2)) (.c 1000)) (.c 1))))
             (.ask (.cmp .leq (.bin .add .i64 (.v 4) (.bin .add .i64 (.bin .quo .i64 (.bin .mul .i64 (.v 1) (.v 2)) (.c 1000)) (.c 1))) (.bin .add .i64 (.bin .add .i64 (.v 4) (.bin .add .i64 (.bin .quo .i64 (.bin .mul .i64 (.v 1) (.v 2)) (.c 1000)) (.c 1))) (.v 3)))
              (.ask (.cmp .leq (.bin .add .i64 (.bin .add .i64 (.v 4) (.bin .add .i64 (.bin .quo .i64 (.bin .mul .i64 (.v 1) (.v 2)) (.c 1000)) (.c 1))) (.v 3)) (.c 10000000))
               (.ask (.cmp .eql (.bin .mn .i64 (.bin .add .i64 (.v 4) (.bin .add .i64 (.bin .quo .i64 (.bin .mul .i64 (.v 1) (.v 2)) (.c 1000)) (.c 1))) (.bin .add .i64 (.bin .add .i64 (.v 4) (.bin .add .i64 (.bin .quo .i64 (.bin .mul .i64 (.v 1) (.v 2)) (.c 1000)) (.c 1))) (.v 3))) (.bin .add .i64 (.v 4) (.bin .add .i64 (.bin .quo .i64 (.bin .mul .i64 (.v 1) (.v 2)) (.c 1000)) (.c 1))))
                (.ask (.cmp .eql (.bin .mx .i64 (.bin .add .i64 (.v 4) (.bin .add .i64 (.bin .quo .i64 (.bin .mul .i64 (.v 1) (.v 2)) (.c 1000)) (.c 1))) (.bin .add .i64 (.bin .add .i64 (.v 4) (.bin .add .i64 (.bin .quo .i64 (.bin .mul .i64 (.v 1) (.v 2)) (.c 1000)) (.c 1))) (.v 3))) (.bin .add .i64 (.bin .add .i64 (.v 4) (.bin .add .i64 (.bin .quo .i64 (.bin .mul .i64 (.v 1) (.v 2)) (.c 1000)) (.c 1))) (.v 3)))
                 (.leaf (.c true))
                 .dead)
                .dead)
               (.leaf (.c true)))
              .dead)
             .dead))
           .dead))
         (.leaf (.c true)))
        (.leaf (.c true)))
       (.leaf (.c true)))
      (.leaf (.c true)))
     (.leaf (.c true)))
    (.leaf (.c true)))
   (.leaf (.c true)))
  (.leaf (.c true)))
 (.leaf (.c true)))

section
variable {ρ : Env}
theorem gp_good : gpTree.goal ρ := by
  unfold gpTree
  refine ⟨fun h1 => ⟨fun h2 => ⟨fun h3 => ⟨fun h4 => ⟨fun h5 => ⟨fun h6 => ⟨fun h7 => ⟨fun h8 => ⟨fun h9 => ?_, fun _ => rfl⟩, fun _ => rfl⟩, fun _ => rfl⟩, fun _ => rfl⟩, fun _ => rfl⟩, fun _ => rfl⟩, fun _ => rfl⟩, fun _ => rfl⟩, fun _ => rfl⟩
  simp only [DT.goal, BE.P, IE.Z] at h1 h2 h3 h4 h5 h6 h7 h8 h9 ⊢
  generalize ρ.i 0 = a at *
  generalize ρ.i 1 = b at *
  generalize ρ.i 2 = p at *
  generalize ρ.i 3 = d at *
  generalize ρ.i 4 = l at *
  generalize ρ.b 0 = r at *
  have m1 : 0 ≤ a * p := Int.mul_nonneg h1 h4
  have m2 : a * p ≤ 10000 * 100000 := Int.mul_le_mul (by omega) h5 h4 (by omega)
  have m3 : 0 ≤ b * p := Int.mul_nonneg (by omega) h4
  have m4 : b * p ≤ 10000 * 100000 := Int.mul_le_mul (by omega) h5 h4 (by omega)
  rw [wrap_id (x := b * p) (by omega) (by omega), wrap_id (x := a * p) (by omega) (by omega)]
  generalize a * p = m at *
  generalize b * p = n at *
  rw [tdiv_pos (x := n) m3, tmod_pos (x := n) m3]
  have e1 : 0 ≤ n / 1000 := by omega
  have e2 : n / 1000 ≤ 1000000 := by omega
  have e3 : (IntKind.i64.wrap (0 - m)).tmod 1000 ≤ 0 := by
    rw [wrap_id (by omega) (by omega), tmod_neg (by omega)]; omega
  generalize (IntKind.i64.wrap (0 - m)).tmod 1000 = u at *
  generalize n / 1000 = q at *
  generalize n % 1000 = v at *
  simp (disch := omega) only [wrap_id]
  repeat' (first | exact trivial | (apply And.intro) | intro _)
  all_goals omega
end
end Go.Proofs.Ytlffofemajfdjaa.Cx
