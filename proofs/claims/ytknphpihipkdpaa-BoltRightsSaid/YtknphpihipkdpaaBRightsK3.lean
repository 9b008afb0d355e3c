/- The runs of a law, leaf by leaf. Made by tools/cxparts.py. -/
import Derived.Test.YtknphpihipkdpaaBRightsKB
set_option maxRecDepth 100000
set_option linter.unusedVariables false
namespace Go.Proofs.Ytknphpihipkdpaa.Cx
open Go Go.RowKit
theorem brights_leaf3 : DT.ok brights_run (.leaf (.c true)) (0 :: brQ4) (.b (.cmp .leq br172 br28) false :: brR4) = true := by kernel_rfl
theorem brights_leaf7 : DT.ok brights_run (.leaf (.c true)) (0 :: (1 :: (1 :: brQ8))) (.b (.cmp .leq br142 br35) false :: (.b (.cmp .leq br33 br145) true :: (.b (.cmp .leq br142 br28) true :: brR8))) = true := by kernel_rfl
theorem brights_leaf11 : DT.ok brights_run (.leaf (.c true)) (0 :: (1 :: brQ14)) (.b (.cmp .leq br172 br35) false :: (.b (.cmp .leq br33 br175) true :: brR14)) = true := by kernel_rfl
theorem brights_leaf15 : DT.ok brights_run (.leaf (.c true)) (0 :: brQ15) (.b (.cmp .leq br172 br28) false :: brR15) = true := by kernel_rfl
theorem brights_leaf19 : DT.ok brights_run (.leaf (.c true)) (0 :: (1 :: (brO4 (0 :: (1 :: (brO3 (0 :: brQ9))))))) (.b (.cmp .leq br172 br28) false :: (.b (.cmp .leq br169 (.c 10000000000000)) true :: (brP4 (.b (.cmp .leq br160 br28) false :: (.b (.cmp .leq br157 (.c 10000000000000)) true :: (brP3 (.b (.cmp .leq br72 br28) false :: brR9))))))) = true := by kernel_rfl
end Go.Proofs.Ytknphpihipkdpaa.Cx
