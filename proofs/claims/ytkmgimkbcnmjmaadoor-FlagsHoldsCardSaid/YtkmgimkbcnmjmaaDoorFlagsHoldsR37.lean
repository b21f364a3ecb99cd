/- FlagsHolds (watchword): its run over unknown arguments, part 37. No conditions but the facts that are named. -/
import Derived.Test.YtkmgimkbcnmjmaaDoorFlagsHoldsK
namespace Go.Proofs.YtkmgimkbcnmjmaaDoor.flagsHolds
open Go.RowKit
theorem run378 : rn k378 = true := by kernel_rfl
theorem run380 : rn k380 = true := by kernel_rfl
theorem run381 : rn k381 = true := by kernel_rfl
theorem run386 : rn k386 = true := by kernel_rfl
end Go.Proofs.YtkmgimkbcnmjmaaDoor.flagsHolds
