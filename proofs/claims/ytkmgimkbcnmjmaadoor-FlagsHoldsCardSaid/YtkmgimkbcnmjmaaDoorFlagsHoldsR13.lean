/- FlagsHolds (watchword): its run over unknown arguments, part 13. No conditions but the facts that are named. -/
import Derived.Test.YtkmgimkbcnmjmaaDoorFlagsHoldsK
namespace Go.Proofs.YtkmgimkbcnmjmaaDoor.flagsHolds
open Go.RowKit
theorem run166 : rn k166 = true := by kernel_rfl
theorem run172 : rn k172 = true := by kernel_rfl
theorem run173 : rn k173 = true := by kernel_rfl
theorem run175 : rn k175 = true := by kernel_rfl
end Go.Proofs.YtkmgimkbcnmjmaaDoor.flagsHolds
