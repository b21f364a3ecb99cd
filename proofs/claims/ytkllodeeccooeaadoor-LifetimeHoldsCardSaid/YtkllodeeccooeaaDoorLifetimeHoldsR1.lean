/- LifetimeHolds (watchword): its run over unknown arguments, part 1. No conditions but the facts that are named. -/
import Derived.Test.YtkllodeeccooeaaDoorLifetimeHoldsK
namespace Go.Proofs.YtkllodeeccooeaaDoor.lifetimeHolds
open Go.RowKit
theorem run43 : rn k43 = true := by kernel_rfl
theorem run44 : rn k44 = true := by kernel_rfl
theorem run48 : rn k48 = true := by kernel_rfl
end Go.Proofs.YtkllodeeccooeaaDoor.lifetimeHolds
