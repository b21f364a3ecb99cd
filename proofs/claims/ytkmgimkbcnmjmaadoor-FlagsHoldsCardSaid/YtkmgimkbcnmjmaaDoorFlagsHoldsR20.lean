/- FlagsHolds (watchword): its run over unknown arguments, part 20. No conditions but the facts that are named. -/
import Derived.Test.YtkmgimkbcnmjmaaDoorFlagsHoldsK
namespace Go.Proofs.YtkmgimkbcnmjmaaDoor.flagsHolds
open Go.RowKit
theorem run222 : rn k222 = true := by kernel_rfl
theorem run225 : rn k225 = true := by kernel_rfl
theorem run226 : rn k226 = true := by kernel_rfl
theorem run228 : rn k228 = true := by kernel_rfl
end Go.Proofs.YtkmgimkbcnmjmaaDoor.flagsHolds
