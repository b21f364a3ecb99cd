/- FlagsHolds (watchword): its run over unknown arguments, part 29. No conditions but the facts that are named. -/
import Derived.Test.YtkmgimkbcnmjmaaDoorFlagsHoldsK
namespace Go.Proofs.YtkmgimkbcnmjmaaDoor.flagsHolds
open Go.RowKit
theorem run314 : rn k314 = true := by kernel_rfl
theorem run316 : rn k316 = true := by kernel_rfl
theorem run317 : rn k317 = true := by kernel_rfl
theorem run323 : rn k323 = true := by kernel_rfl
end Go.Proofs.YtkmgimkbcnmjmaaDoor.flagsHolds
