/- FlagsHolds (watchword): its run over unknown arguments, part 39. No conditions but the facts that are named. -/
import Derived.Test.YtkmgimkbcnmjmaaDoorFlagsHoldsK
namespace Go.Proofs.YtkmgimkbcnmjmaaDoor.flagsHolds
open Go.RowKit
theorem run394 : rn k394 = true := by kernel_rfl
theorem run396 : rn k396 = true := by kernel_rfl
theorem run397 : rn k397 = true := by kernel_rfl
theorem run401 : rn k401 = true := by kernel_rfl
end Go.Proofs.YtkmgimkbcnmjmaaDoor.flagsHolds
