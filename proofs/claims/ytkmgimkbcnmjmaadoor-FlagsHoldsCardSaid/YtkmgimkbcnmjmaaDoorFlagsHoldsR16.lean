/- FlagsHolds (watchword): its run over unknown arguments, part 16. No conditions but the facts that are named. -/
import Derived.Test.YtkmgimkbcnmjmaaDoorFlagsHoldsK
namespace Go.Proofs.YtkmgimkbcnmjmaaDoor.flagsHolds
open Go.RowKit
theorem run191 : rn k191 = true := by kernel_rfl
theorem run194 : rn k194 = true := by kernel_rfl
theorem run195 : rn k195 = true := by kernel_rfl
theorem run197 : rn k197 = true := by kernel_rfl
end Go.Proofs.YtkmgimkbcnmjmaaDoor.flagsHolds
