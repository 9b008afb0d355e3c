/- The runs of a law, leaf by leaf. Made by tools/cxparts.py. -/
import Derived.Test.YtknphpihipkdpaaBRightsKB
set_option maxRecDepth 100000
set_option linter.unusedVariables false
namespace Go.Proofs.Ytknphpihipkdpaa.Cx
open Go Go.RowKit
theorem brights_leaf0 : DT.ok brights_run (.leaf (.c true)) (0 :: (1 :: (1 :: brQ2))) (.b (.cmp .leq br142 br35) false :: (.b (.cmp .leq br33 br145) true :: (.b (.cmp .leq br142 br28) true :: brR2))) = true := by kernel_rfl
theorem brights_leaf4 : DT.ok brights_run (.leaf (.c true)) (0 :: (1 :: (brO4 (0 :: (1 :: (brO3 (0 :: brQ3))))))) (.b (.cmp .leq br172 br28) false :: (.b (.cmp .leq br169 (.c 10000000000000)) true :: (brP4 (.b (.cmp .leq br160 br28) false :: (.b (.cmp .leq br157 (.c 10000000000000)) true :: (brP3 (.b (.cmp .leq br72 br28) false :: brR3))))))) = true := by kernel_rfl
theorem brights_leaf8 : DT.ok brights_run (.leaf (.c true)) (0 :: brQ8) (.b (.cmp .leq br142 br28) false :: brR8) = true := by kernel_rfl
theorem brights_leaf12 : DT.ok brights_run (.leaf (.c true)) (0 :: brQ14) (.b (.cmp .leq br33 br175) false :: brR14) = true := by kernel_rfl
theorem brights_leaf16 : DT.ok brights_run (.leaf (.c true)) (0 :: (1 :: brQ18)) (.b (.cmp .leq br172 br35) false :: (.b (.cmp .leq br33 br175) true :: brR18)) = true := by kernel_rfl
end Go.Proofs.Ytknphpihipkdpaa.Cx
