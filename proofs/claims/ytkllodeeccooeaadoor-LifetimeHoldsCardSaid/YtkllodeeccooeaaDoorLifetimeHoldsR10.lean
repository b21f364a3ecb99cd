/- LifetimeHolds (watchword): its run over unknown arguments, part 10. No conditions but the facts that are named. -/
import Derived.Test.YtkllodeeccooeaaDoorLifetimeHoldsK
namespace Go.Proofs.YtkllodeeccooeaaDoor.lifetimeHolds
open Go.RowKit
theorem run95 : rn k95 = true := by kernel_rfl
theorem run99 : rn k99 = true := by kernel_rfl
theorem run100 : rn k100 = true := by kernel_rfl
end Go.Proofs.YtkllodeeccooeaaDoor.lifetimeHolds
