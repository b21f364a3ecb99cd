/- FlagsHolds (watchword): its run over unknown arguments, part 31. No conditions but the facts that are named. -/
import Derived.Test.YtkmgimkbcnmjmaaDoorFlagsHoldsK
namespace Go.Proofs.YtkmgimkbcnmjmaaDoor.flagsHolds
open Go.RowKit
theorem run331 : rn k331 = true := by kernel_rfl
theorem run333 : rn k333 = true := by kernel_rfl
theorem run334 : rn k334 = true := by kernel_rfl
theorem run338 : rn k338 = true := by kernel_rfl
end Go.Proofs.YtkmgimkbcnmjmaaDoor.flagsHolds
