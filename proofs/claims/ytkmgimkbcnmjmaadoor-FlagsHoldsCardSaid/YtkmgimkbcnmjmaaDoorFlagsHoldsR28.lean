/- FlagsHolds (watchword): its run over unknown arguments, part 28. No conditions but the facts that are named. -/
import Derived.Test.YtkmgimkbcnmjmaaDoorFlagsHoldsK
namespace Go.Proofs.YtkmgimkbcnmjmaaDoor.flagsHolds
open Go.RowKit
theorem run307 : rn k307 = true := by kernel_rfl
theorem run309 : rn k309 = true := by kernel_rfl
theorem run310 : rn k310 = true := by kernel_rfl
theorem run313 : rn k313 = true := by kernel_rfl
end Go.Proofs.YtkmgimkbcnmjmaaDoor.flagsHolds
