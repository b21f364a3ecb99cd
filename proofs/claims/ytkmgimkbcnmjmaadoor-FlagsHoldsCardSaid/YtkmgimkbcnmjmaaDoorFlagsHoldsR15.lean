/- FlagsHolds (watchword): its run over unknown arguments, part 15. No conditions but the facts that are named. -/
import Derived.Test.YtkmgimkbcnmjmaaDoorFlagsHoldsK
namespace Go.Proofs.YtkmgimkbcnmjmaaDoor.flagsHolds
open Go.RowKit
theorem run183 : rn k183 = true := by kernel_rfl
theorem run187 : rn k187 = true := by kernel_rfl
theorem run188 : rn k188 = true := by kernel_rfl
theorem run190 : rn k190 = true := by kernel_rfl
end Go.Proofs.YtkmgimkbcnmjmaaDoor.flagsHolds
