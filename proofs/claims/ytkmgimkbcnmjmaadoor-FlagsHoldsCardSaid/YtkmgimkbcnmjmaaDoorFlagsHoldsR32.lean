/- FlagsHolds (watchword): its run over unknown arguments, part 32. No conditions but the facts that are named. -/
import Derived.Test.YtkmgimkbcnmjmaaDoorFlagsHoldsK
namespace Go.Proofs.YtkmgimkbcnmjmaaDoor.flagsHolds
open Go.RowKit
theorem run339 : rn k339 = true := by kernel_rfl
theorem run341 : rn k341 = true := by kernel_rfl
theorem run342 : rn k342 = true := by kernel_rfl
theorem run345 : rn k345 = true := by kernel_rfl
end Go.Proofs.YtkmgimkbcnmjmaaDoor.flagsHolds
