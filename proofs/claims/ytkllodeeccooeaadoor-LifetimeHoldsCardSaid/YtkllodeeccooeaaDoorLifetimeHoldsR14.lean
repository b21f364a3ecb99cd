/- LifetimeHolds (watchword): its run over unknown arguments, part 14. No conditions but the facts that are named. -/
import Derived.Test.YtkllodeeccooeaaDoorLifetimeHoldsK
namespace Go.Proofs.YtkllodeeccooeaaDoor.lifetimeHolds
open Go.RowKit
theorem run116 : rn k116 = true := by kernel_rfl
theorem run117 : rn k117 = true := by kernel_rfl
theorem run123 : rn k123 = true := by kernel_rfl
end Go.Proofs.YtkllodeeccooeaaDoor.lifetimeHolds
