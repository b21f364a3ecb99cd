/- FlagsHolds (watchword): its run over unknown arguments, part 19. No conditions but the facts that are named. -/
import Derived.Test.YtkmgimkbcnmjmaaDoorFlagsHoldsK
namespace Go.Proofs.YtkmgimkbcnmjmaaDoor.flagsHolds
open Go.RowKit
theorem run214 : rn k214 = true := by kernel_rfl
theorem run218 : rn k218 = true := by kernel_rfl
theorem run219 : rn k219 = true := by kernel_rfl
theorem run221 : rn k221 = true := by kernel_rfl
end Go.Proofs.YtkmgimkbcnmjmaaDoor.flagsHolds
