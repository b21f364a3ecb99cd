/- FlagsHolds (watchword): its run over unknown arguments, part 18. No conditions but the facts that are named. -/
import Derived.Test.YtkmgimkbcnmjmaaDoorFlagsHoldsK
namespace Go.Proofs.YtkmgimkbcnmjmaaDoor.flagsHolds
open Go.RowKit
theorem run207 : rn k207 = true := by kernel_rfl
theorem run210 : rn k210 = true := by kernel_rfl
theorem run211 : rn k211 = true := by kernel_rfl
theorem run213 : rn k213 = true := by kernel_rfl
end Go.Proofs.YtkmgimkbcnmjmaaDoor.flagsHolds
