/- LifetimeHolds (watchword): its run over unknown arguments, part 17. No conditions but the facts that are named. -/
import Derived.Test.YtkllodeeccooeaaDoorLifetimeHoldsK
namespace Go.Proofs.YtkllodeeccooeaaDoor.lifetimeHolds
open Go.RowKit
theorem run132 : rn k132 = true := by kernel_rfl
theorem run142 : rn k142 = true := by kernel_rfl
theorem run143 : rn k143 = true := by kernel_rfl
end Go.Proofs.YtkllodeeccooeaaDoor.lifetimeHolds
