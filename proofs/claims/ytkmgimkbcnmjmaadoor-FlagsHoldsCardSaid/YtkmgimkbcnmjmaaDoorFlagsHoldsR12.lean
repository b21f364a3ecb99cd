/- FlagsHolds (watchword): its run over unknown arguments, part 12. No conditions but the facts that are named. -/
import Derived.Test.YtkmgimkbcnmjmaaDoorFlagsHoldsK
namespace Go.Proofs.YtkmgimkbcnmjmaaDoor.flagsHolds
open Go.RowKit
theorem run159 : rn k159 = true := by kernel_rfl
theorem run162 : rn k162 = true := by kernel_rfl
theorem run163 : rn k163 = true := by kernel_rfl
theorem run165 : rn k165 = true := by kernel_rfl
end Go.Proofs.YtkmgimkbcnmjmaaDoor.flagsHolds
