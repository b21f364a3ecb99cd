/- FlagsHolds (watchword): its run over unknown arguments, part 36. No conditions but the facts that are named. -/
import Derived.Test.YtkmgimkbcnmjmaaDoorFlagsHoldsK
namespace Go.Proofs.YtkmgimkbcnmjmaaDoor.flagsHolds
open Go.RowKit
theorem run371 : rn k371 = true := by kernel_rfl
theorem run373 : rn k373 = true := by kernel_rfl
theorem run374 : rn k374 = true := by kernel_rfl
theorem run377 : rn k377 = true := by kernel_rfl
end Go.Proofs.YtkmgimkbcnmjmaaDoor.flagsHolds
