/- FlagsHolds (watchword): its run over unknown arguments, part 8. No conditions but the facts that are named. -/
import Derived.Test.YtkmgimkbcnmjmaaDoorFlagsHoldsK
namespace Go.Proofs.YtkmgimkbcnmjmaaDoor.flagsHolds
open Go.RowKit
theorem run127 : rn k127 = true := by kernel_rfl
theorem run130 : rn k130 = true := by kernel_rfl
theorem run131 : rn k131 = true := by kernel_rfl
theorem run133 : rn k133 = true := by kernel_rfl
end Go.Proofs.YtkmgimkbcnmjmaaDoor.flagsHolds
