/- FlagsHolds (watchword): its run over unknown arguments, part 7. No conditions but the facts that are named. -/
import Derived.Test.YtkmgimkbcnmjmaaDoorFlagsHoldsK
namespace Go.Proofs.YtkmgimkbcnmjmaaDoor.flagsHolds
open Go.RowKit
theorem run119 : rn k119 = true := by kernel_rfl
theorem run123 : rn k123 = true := by kernel_rfl
theorem run124 : rn k124 = true := by kernel_rfl
theorem run126 : rn k126 = true := by kernel_rfl
end Go.Proofs.YtkmgimkbcnmjmaaDoor.flagsHolds
