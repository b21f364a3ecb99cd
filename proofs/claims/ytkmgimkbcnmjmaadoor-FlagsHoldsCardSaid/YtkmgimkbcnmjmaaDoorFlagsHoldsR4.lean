/- FlagsHolds (watchword): its run over unknown arguments, part 4. No conditions but the facts that are named. -/
import Derived.Test.YtkmgimkbcnmjmaaDoorFlagsHoldsK
namespace Go.Proofs.YtkmgimkbcnmjmaaDoor.flagsHolds
open Go.RowKit
theorem run95 : rn k95 = true := by kernel_rfl
theorem run98 : rn k98 = true := by kernel_rfl
theorem run99 : rn k99 = true := by kernel_rfl
theorem run101 : rn k101 = true := by kernel_rfl
end Go.Proofs.YtkmgimkbcnmjmaaDoor.flagsHolds
