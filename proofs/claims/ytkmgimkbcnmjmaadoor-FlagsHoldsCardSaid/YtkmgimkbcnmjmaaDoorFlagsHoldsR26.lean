/- FlagsHolds (watchword): its run over unknown arguments, part 26. No conditions but the facts that are named. -/
import Derived.Test.YtkmgimkbcnmjmaaDoorFlagsHoldsK
namespace Go.Proofs.YtkmgimkbcnmjmaaDoor.flagsHolds
open Go.RowKit
theorem run292 : rn k292 = true := by kernel_rfl
theorem run294 : rn k294 = true := by kernel_rfl
theorem run295 : rn k295 = true := by kernel_rfl
theorem run298 : rn k298 = true := by kernel_rfl
end Go.Proofs.YtkmgimkbcnmjmaaDoor.flagsHolds
