/- FlagsHolds (watchword): its run over unknown arguments, part 10. No conditions but the facts that are named. -/
import Derived.Test.YtkmgimkbcnmjmaaDoorFlagsHoldsK
namespace Go.Proofs.YtkmgimkbcnmjmaaDoor.flagsHolds
open Go.RowKit
theorem run144 : rn k144 = true := by kernel_rfl
theorem run147 : rn k147 = true := by kernel_rfl
theorem run148 : rn k148 = true := by kernel_rfl
theorem run150 : rn k150 = true := by kernel_rfl
end Go.Proofs.YtkmgimkbcnmjmaaDoor.flagsHolds
