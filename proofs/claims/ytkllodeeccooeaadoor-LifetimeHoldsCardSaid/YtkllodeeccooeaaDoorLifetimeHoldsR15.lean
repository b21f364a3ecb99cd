/- LifetimeHolds (watchword): its run over unknown arguments, part 15. No conditions but the facts that are named. -/
import Derived.Test.YtkllodeeccooeaaDoorLifetimeHoldsK
namespace Go.Proofs.YtkllodeeccooeaaDoor.lifetimeHolds
open Go.RowKit
theorem run124 : rn k124 = true := by kernel_rfl
theorem run125 : rn k125 = true := by kernel_rfl
theorem run126 : rn k126 = true := by kernel_rfl
end Go.Proofs.YtkllodeeccooeaaDoor.lifetimeHolds
