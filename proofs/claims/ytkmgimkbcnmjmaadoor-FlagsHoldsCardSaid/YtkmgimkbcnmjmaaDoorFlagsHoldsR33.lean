/- FlagsHolds (watchword): its run over unknown arguments, part 33. No conditions but the facts that are named. -/
import Derived.Test.YtkmgimkbcnmjmaaDoorFlagsHoldsK
namespace Go.Proofs.YtkmgimkbcnmjmaaDoor.flagsHolds
open Go.RowKit
theorem run346 : rn k346 = true := by kernel_rfl
theorem run348 : rn k348 = true := by kernel_rfl
theorem run349 : rn k349 = true := by kernel_rfl
theorem run355 : rn k355 = true := by kernel_rfl
end Go.Proofs.YtkmgimkbcnmjmaaDoor.flagsHolds
