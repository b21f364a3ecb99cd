/- FlagsHolds (watchword): its run over unknown arguments, part 35. No conditions but the facts that are named. -/
import Derived.Test.YtkmgimkbcnmjmaaDoorFlagsHoldsK
namespace Go.Proofs.YtkmgimkbcnmjmaaDoor.flagsHolds
open Go.RowKit
theorem run363 : rn k363 = true := by kernel_rfl
theorem run365 : rn k365 = true := by kernel_rfl
theorem run366 : rn k366 = true := by kernel_rfl
theorem run370 : rn k370 = true := by kernel_rfl
end Go.Proofs.YtkmgimkbcnmjmaaDoor.flagsHolds
