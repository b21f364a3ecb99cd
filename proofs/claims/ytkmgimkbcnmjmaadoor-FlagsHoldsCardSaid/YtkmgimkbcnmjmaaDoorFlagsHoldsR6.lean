/- FlagsHolds (watchword): its run over unknown arguments, part 6. No conditions but the facts that are named. -/
import Derived.Test.YtkmgimkbcnmjmaaDoorFlagsHoldsK
namespace Go.Proofs.YtkmgimkbcnmjmaaDoor.flagsHolds
open Go.RowKit
theorem run112 : rn k112 = true := by kernel_rfl
theorem run115 : rn k115 = true := by kernel_rfl
theorem run116 : rn k116 = true := by kernel_rfl
theorem run118 : rn k118 = true := by kernel_rfl
end Go.Proofs.YtkmgimkbcnmjmaaDoor.flagsHolds
