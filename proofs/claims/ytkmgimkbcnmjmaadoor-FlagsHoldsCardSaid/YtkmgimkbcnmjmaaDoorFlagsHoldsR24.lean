/- FlagsHolds (watchword): its run over unknown arguments, part 24. No conditions but the facts that are named. -/
import Derived.Test.YtkmgimkbcnmjmaaDoorFlagsHoldsK
namespace Go.Proofs.YtkmgimkbcnmjmaaDoor.flagsHolds
open Go.RowKit
theorem run275 : rn k275 = true := by kernel_rfl
theorem run277 : rn k277 = true := by kernel_rfl
theorem run278 : rn k278 = true := by kernel_rfl
theorem run281 : rn k281 = true := by kernel_rfl
end Go.Proofs.YtkmgimkbcnmjmaaDoor.flagsHolds
