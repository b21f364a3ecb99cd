/- FlagsHolds (watchword): its run over unknown arguments, part 22. No conditions but the facts that are named. -/
import Derived.Test.YtkmgimkbcnmjmaaDoorFlagsHoldsK
namespace Go.Proofs.YtkmgimkbcnmjmaaDoor.flagsHolds
open Go.RowKit
theorem run260 : rn k260 = true := by kernel_rfl
theorem run262 : rn k262 = true := by kernel_rfl
theorem run263 : rn k263 = true := by kernel_rfl
theorem run266 : rn k266 = true := by kernel_rfl
end Go.Proofs.YtkmgimkbcnmjmaaDoor.flagsHolds
