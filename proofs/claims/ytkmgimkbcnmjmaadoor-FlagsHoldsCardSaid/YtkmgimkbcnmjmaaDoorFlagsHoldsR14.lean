/- FlagsHolds (watchword): its run over unknown arguments, part 14. No conditions but the facts that are named. -/
import Derived.Test.YtkmgimkbcnmjmaaDoorFlagsHoldsK
namespace Go.Proofs.YtkmgimkbcnmjmaaDoor.flagsHolds
open Go.RowKit
theorem run176 : rn k176 = true := by kernel_rfl
theorem run179 : rn k179 = true := by kernel_rfl
theorem run180 : rn k180 = true := by kernel_rfl
theorem run182 : rn k182 = true := by kernel_rfl
end Go.Proofs.YtkmgimkbcnmjmaaDoor.flagsHolds
