/- FlagsHolds (watchword): its run over unknown arguments, part 17. No conditions but the facts that are named. -/
import Derived.Test.YtkmgimkbcnmjmaaDoorFlagsHoldsK
namespace Go.Proofs.YtkmgimkbcnmjmaaDoor.flagsHolds
open Go.RowKit
theorem run198 : rn k198 = true := by kernel_rfl
theorem run203 : rn k203 = true := by kernel_rfl
theorem run204 : rn k204 = true := by kernel_rfl
theorem run206 : rn k206 = true := by kernel_rfl
end Go.Proofs.YtkmgimkbcnmjmaaDoor.flagsHolds
