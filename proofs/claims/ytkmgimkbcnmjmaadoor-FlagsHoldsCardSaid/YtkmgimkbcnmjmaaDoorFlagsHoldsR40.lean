/- FlagsHolds (watchword): its run over unknown arguments, part 40. No conditions but the facts that are named. -/
import Derived.Test.YtkmgimkbcnmjmaaDoorFlagsHoldsK
namespace Go.Proofs.YtkmgimkbcnmjmaaDoor.flagsHolds
open Go.RowKit
theorem run402 : rn k402 = true := by kernel_rfl
theorem run404 : rn k404 = true := by kernel_rfl
theorem run405 : rn k405 = true := by kernel_rfl
theorem run408 : rn k408 = true := by kernel_rfl
end Go.Proofs.YtkmgimkbcnmjmaaDoor.flagsHolds
