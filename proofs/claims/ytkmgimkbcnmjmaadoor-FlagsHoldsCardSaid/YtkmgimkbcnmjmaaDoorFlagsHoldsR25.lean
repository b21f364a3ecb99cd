/- FlagsHolds (watchword): its run over unknown arguments, part 25. No conditions but the facts that are named. -/
import Derived.Test.YtkmgimkbcnmjmaaDoorFlagsHoldsK
namespace Go.Proofs.YtkmgimkbcnmjmaaDoor.flagsHolds
open Go.RowKit
theorem run282 : rn k282 = true := by kernel_rfl
theorem run284 : rn k284 = true := by kernel_rfl
theorem run285 : rn k285 = true := by kernel_rfl
theorem run291 : rn k291 = true := by kernel_rfl
end Go.Proofs.YtkmgimkbcnmjmaaDoor.flagsHolds
