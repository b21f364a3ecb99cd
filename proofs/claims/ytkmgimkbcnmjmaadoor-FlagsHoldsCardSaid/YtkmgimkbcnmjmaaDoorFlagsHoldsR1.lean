/- FlagsHolds (watchword): its run over unknown arguments, part 1. No conditions but the facts that are named. -/
import Derived.Test.YtkmgimkbcnmjmaaDoorFlagsHoldsK
namespace Go.Proofs.YtkmgimkbcnmjmaaDoor.flagsHolds
open Go.RowKit
theorem run70 : rn k70 = true := by kernel_rfl
theorem run76 : rn k76 = true := by kernel_rfl
theorem run77 : rn k77 = true := by kernel_rfl
theorem run79 : rn k79 = true := by kernel_rfl
end Go.Proofs.YtkmgimkbcnmjmaaDoor.flagsHolds
