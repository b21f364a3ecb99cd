/- FlagsHolds (watchword): its run over unknown arguments, part 2. No conditions but the facts that are named. -/
import Derived.Test.YtkmgimkbcnmjmaaDoorFlagsHoldsK
namespace Go.Proofs.YtkmgimkbcnmjmaaDoor.flagsHolds
open Go.RowKit
theorem run80 : rn k80 = true := by kernel_rfl
theorem run83 : rn k83 = true := by kernel_rfl
theorem run84 : rn k84 = true := by kernel_rfl
theorem run86 : rn k86 = true := by kernel_rfl
end Go.Proofs.YtkmgimkbcnmjmaaDoor.flagsHolds
