/- FlagsHolds (watchword): its run over unknown arguments, part 27. No conditions but the facts that are named. -/
import Derived.Test.YtkmgimkbcnmjmaaDoorFlagsHoldsK
namespace Go.Proofs.YtkmgimkbcnmjmaaDoor.flagsHolds
open Go.RowKit
theorem run299 : rn k299 = true := by kernel_rfl
theorem run301 : rn k301 = true := by kernel_rfl
theorem run302 : rn k302 = true := by kernel_rfl
theorem run306 : rn k306 = true := by kernel_rfl
end Go.Proofs.YtkmgimkbcnmjmaaDoor.flagsHolds
