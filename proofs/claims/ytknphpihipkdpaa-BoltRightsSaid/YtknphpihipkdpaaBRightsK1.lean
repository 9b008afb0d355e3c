/- The runs of a law, leaf by leaf. Made by tools/cxparts.py. -/
import Derived.Test.YtknphpihipkdpaaBRightsKB
set_option maxRecDepth 100000
set_option linter.unusedVariables false
namespace Go.Proofs.Ytknphpihipkdpaa.Cx
open Go Go.RowKit
theorem brights_leaf1 : DT.ok brights_run (.leaf (.c true)) (0 :: brQ2) (.b (.cmp .leq br142 br28) false :: brR2) = true := by kernel_rfl
theorem brights_leaf5 : DT.ok brights_run (.leaf (.c true)) (0 :: (1 :: (1 :: brQ7))) (.b (.cmp .leq br142 br35) false :: (.b (.cmp .leq br33 br145) true :: (.b (.cmp .leq br142 br28) true :: brR7))) = true := by kernel_rfl
theorem brights_leaf9 : DT.ok brights_run (.leaf (.c true)) (0 :: (1 :: (1 :: (1 :: (brO4 (0 :: (1 :: (1 :: brQ11)))))))) (.b (.cmp .leq br172 br35) false :: (.b (.cmp .leq br33 br175) true :: (.b (.cmp .leq br172 br28) true :: (.b (.cmp .leq br169 (.c 10000000000000)) true :: (brP4 (.b (.cmp .leq br160 br35) false :: (.b (.cmp .leq br33 br163) true :: (.b (.cmp .leq br160 br28) true :: brR11)))))))) = true := by kernel_rfl
theorem brights_leaf13 : DT.ok brights_run (.leaf (.c true)) (0 :: (1 :: brQ16)) (.b (.cmp .leq br172 br35) false :: (.b (.cmp .leq br33 br175) true :: brR16)) = true := by kernel_rfl
theorem brights_leaf17 : DT.ok brights_run (.leaf (.c true)) (0 :: brQ18) (.b (.cmp .leq br33 br175) false :: brR18) = true := by kernel_rfl
end Go.Proofs.Ytknphpihipkdpaa.Cx
