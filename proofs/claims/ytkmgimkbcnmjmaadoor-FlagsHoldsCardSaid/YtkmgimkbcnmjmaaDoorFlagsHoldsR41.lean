/- FlagsHolds (watchword): its run over unknown arguments, part 41. No conditions but the facts that are named. -/
import Derived.Test.YtkmgimkbcnmjmaaDoorFlagsHoldsK
namespace Go.Proofs.YtkmgimkbcnmjmaaDoor.flagsHolds
open Go.RowKit
theorem run409 : rn k409 = true := by kernel_rfl
theorem run411 : rn k411 = true := by kernel_rfl
theorem run412 : rn k412 = true := by kernel_rfl
end Go.Proofs.YtkmgimkbcnmjmaaDoor.flagsHolds
