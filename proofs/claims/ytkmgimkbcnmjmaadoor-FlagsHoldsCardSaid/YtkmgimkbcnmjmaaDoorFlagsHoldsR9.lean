/- FlagsHolds (watchword): its run over unknown arguments, part 9. No conditions but the facts that are named. -/
import Derived.Test.YtkmgimkbcnmjmaaDoorFlagsHoldsK
namespace Go.Proofs.YtkmgimkbcnmjmaaDoor.flagsHolds
open Go.RowKit
theorem run134 : rn k134 = true := by kernel_rfl
theorem run140 : rn k140 = true := by kernel_rfl
theorem run141 : rn k141 = true := by kernel_rfl
theorem run143 : rn k143 = true := by kernel_rfl
end Go.Proofs.YtkmgimkbcnmjmaaDoor.flagsHolds
