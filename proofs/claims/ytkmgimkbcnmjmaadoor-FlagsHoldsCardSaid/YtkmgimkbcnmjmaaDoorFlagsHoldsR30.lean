/- FlagsHolds (watchword): its run over unknown arguments, part 30. No conditions but the facts that are named. -/
import Derived.Test.YtkmgimkbcnmjmaaDoorFlagsHoldsK
namespace Go.Proofs.YtkmgimkbcnmjmaaDoor.flagsHolds
open Go.RowKit
theorem run324 : rn k324 = true := by kernel_rfl
theorem run326 : rn k326 = true := by kernel_rfl
theorem run327 : rn k327 = true := by kernel_rfl
theorem run330 : rn k330 = true := by kernel_rfl
end Go.Proofs.YtkmgimkbcnmjmaaDoor.flagsHolds
