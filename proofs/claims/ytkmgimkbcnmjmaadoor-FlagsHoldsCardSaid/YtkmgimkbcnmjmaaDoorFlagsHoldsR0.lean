/- FlagsHolds (watchword): its run over unknown arguments, part 0. No conditions but the facts that are named. -/
import Derived.Test.YtkmgimkbcnmjmaaDoorFlagsHoldsK
namespace Go.Proofs.YtkmgimkbcnmjmaaDoor.flagsHolds
open Go.RowKit
theorem run1 : rn k1 = true := by kernel_rfl
theorem run24 : rn k24 = true := by kernel_rfl
theorem run45 : rn k45 = true := by kernel_rfl
theorem run68 : rn k68 = true := by kernel_rfl
end Go.Proofs.YtkmgimkbcnmjmaaDoor.flagsHolds
