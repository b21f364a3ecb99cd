/- FlagsHolds (watchword): its run over unknown arguments, part 23. No conditions but the facts that are named. -/
import Derived.Test.YtkmgimkbcnmjmaaDoorFlagsHoldsK
namespace Go.Proofs.YtkmgimkbcnmjmaaDoor.flagsHolds
open Go.RowKit
theorem run267 : rn k267 = true := by kernel_rfl
theorem run269 : rn k269 = true := by kernel_rfl
theorem run270 : rn k270 = true := by kernel_rfl
theorem run274 : rn k274 = true := by kernel_rfl
end Go.Proofs.YtkmgimkbcnmjmaaDoor.flagsHolds
