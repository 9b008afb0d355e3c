/- The runs of a law, leaf by leaf. Made by tools/cxparts.py. -/
import Derived.Test.YtknphpihipkdpaaBRightsKB
set_option maxRecDepth 100000
set_option linter.unusedVariables false
namespace Go.Proofs.Ytknphpihipkdpaa.Cx
open Go Go.RowKit
theorem brights_leaf2 : DT.ok brights_run (.leaf (.c true)) (0 :: (1 :: (1 :: brQ4))) (.b (.cmp .leq br172 br35) false :: (.b (.cmp .leq br33 br175) true :: (.b (.cmp .leq br172 br28) true :: brR4))) = true := by kernel_rfl
theorem brights_leaf6 : DT.ok brights_run (.leaf (.c true)) (0 :: brQ7) (.b (.cmp .leq br142 br28) false :: brR7) = true := by kernel_rfl
theorem brights_leaf10 : DT.ok brights_run (.leaf (.c true)) (0 :: (1 :: (1 :: (1 :: (brO4 (0 :: brQ11)))))) (.b (.cmp .leq br172 br35) false :: (.b (.cmp .leq br33 br175) true :: (.b (.cmp .leq br172 br28) true :: (.b (.cmp .leq br169 (.c 10000000000000)) true :: (brP4 (.b (.cmp .leq br160 br28) false :: brR11)))))) = true := by kernel_rfl
theorem brights_leaf14 : DT.ok brights_run (.leaf (.c true)) (0 :: brQ16) (.b (.cmp .leq br33 br175) false :: brR16) = true := by kernel_rfl
theorem brights_leaf18 : DT.ok brights_run (.leaf (.c true)) (0 :: brQ17) (.b (.cmp .leq br172 br28) false :: brR17) = true := by kernel_rfl
end Go.Proofs.Ytknphpihipkdpaa.Cx
