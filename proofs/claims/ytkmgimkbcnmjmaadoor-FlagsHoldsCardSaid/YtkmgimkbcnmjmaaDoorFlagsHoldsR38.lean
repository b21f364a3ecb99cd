/- FlagsHolds (watchword): its run over unknown arguments, part 38. No conditions but the facts that are named. -/
import Derived.Test.YtkmgimkbcnmjmaaDoorFlagsHoldsK
namespace Go.Proofs.YtkmgimkbcnmjmaaDoor.flagsHolds
open Go.RowKit
theorem run387 : rn k387 = true := by kernel_rfl
theorem run389 : rn k389 = true := by kernel_rfl
theorem run390 : rn k390 = true := by kernel_rfl
theorem run393 : rn k393 = true := by kernel_rfl
end Go.Proofs.YtkmgimkbcnmjmaaDoor.flagsHolds
