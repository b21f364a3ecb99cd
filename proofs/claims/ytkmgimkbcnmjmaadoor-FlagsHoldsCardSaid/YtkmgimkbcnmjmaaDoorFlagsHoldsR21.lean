/- FlagsHolds (watchword): its run over unknown arguments, part 21. No conditions but the facts that are named. -/
import Derived.Test.YtkmgimkbcnmjmaaDoorFlagsHoldsK
namespace Go.Proofs.YtkmgimkbcnmjmaaDoor.flagsHolds
open Go.RowKit
theorem run229 : rn k229 = true := by kernel_rfl
theorem run251 : rn k251 = true := by kernel_rfl
theorem run253 : rn k253 = true := by kernel_rfl
theorem run259 : rn k259 = true := by kernel_rfl
end Go.Proofs.YtkmgimkbcnmjmaaDoor.flagsHolds
