/- FlagsHolds (watchword): its run over unknown arguments, part 34. No conditions but the facts that are named. -/
import Derived.Test.YtkmgimkbcnmjmaaDoorFlagsHoldsK
namespace Go.Proofs.YtkmgimkbcnmjmaaDoor.flagsHolds
open Go.RowKit
theorem run356 : rn k356 = true := by kernel_rfl
theorem run358 : rn k358 = true := by kernel_rfl
theorem run359 : rn k359 = true := by kernel_rfl
theorem run362 : rn k362 = true := by kernel_rfl
end Go.Proofs.YtkmgimkbcnmjmaaDoor.flagsHolds
