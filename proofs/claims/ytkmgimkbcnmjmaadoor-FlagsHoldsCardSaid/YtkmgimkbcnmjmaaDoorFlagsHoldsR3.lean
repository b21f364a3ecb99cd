/- FlagsHolds (watchword): its run over unknown arguments, part 3. No conditions but the facts that are named. -/
import Derived.Test.YtkmgimkbcnmjmaaDoorFlagsHoldsK
namespace Go.Proofs.YtkmgimkbcnmjmaaDoor.flagsHolds
open Go.RowKit
theorem run87 : rn k87 = true := by kernel_rfl
theorem run91 : rn k91 = true := by kernel_rfl
theorem run92 : rn k92 = true := by kernel_rfl
theorem run94 : rn k94 = true := by kernel_rfl
end Go.Proofs.YtkmgimkbcnmjmaaDoor.flagsHolds
