/- FlagsHolds (watchword): its run over unknown arguments, part 11. No conditions but the facts that are named. -/
import Derived.Test.YtkmgimkbcnmjmaaDoorFlagsHoldsK
namespace Go.Proofs.YtkmgimkbcnmjmaaDoor.flagsHolds
open Go.RowKit
theorem run151 : rn k151 = true := by kernel_rfl
theorem run155 : rn k155 = true := by kernel_rfl
theorem run156 : rn k156 = true := by kernel_rfl
theorem run158 : rn k158 = true := by kernel_rfl
end Go.Proofs.YtkmgimkbcnmjmaaDoor.flagsHolds
