/- LifetimeHolds (watchword): its run over unknown arguments, part 16. No conditions but the facts that are named. -/
import Derived.Test.YtkllodeeccooeaaDoorLifetimeHoldsK
namespace Go.Proofs.YtkllodeeccooeaaDoor.lifetimeHolds
open Go.RowKit
theorem run127 : rn k127 = true := by kernel_rfl
theorem run130 : rn k130 = true := by kernel_rfl
theorem run131 : rn k131 = true := by kernel_rfl
end Go.Proofs.YtkllodeeccooeaaDoor.lifetimeHolds
