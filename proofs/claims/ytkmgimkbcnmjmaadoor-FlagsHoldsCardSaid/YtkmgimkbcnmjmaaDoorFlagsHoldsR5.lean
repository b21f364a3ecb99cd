/- FlagsHolds (watchword): its run over unknown arguments, part 5. No conditions but the facts that are named. -/
import Derived.Test.YtkmgimkbcnmjmaaDoorFlagsHoldsK
namespace Go.Proofs.YtkmgimkbcnmjmaaDoor.flagsHolds
open Go.RowKit
theorem run102 : rn k102 = true := by kernel_rfl
theorem run108 : rn k108 = true := by kernel_rfl
theorem run109 : rn k109 = true := by kernel_rfl
theorem run111 : rn k111 = true := by kernel_rfl
end Go.Proofs.YtkmgimkbcnmjmaaDoor.flagsHolds
