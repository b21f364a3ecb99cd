/- LifetimeHolds (watchword): its run over unknown arguments, part 29. No conditions but the facts that are named. -/
import Derived.Test.YtkllodeeccooeaaDoorLifetimeHoldsK
namespace Go.Proofs.YtkllodeeccooeaaDoor.lifetimeHolds
open Go.RowKit
theorem run208 : rn k208 = true := by kernel_rfl
theorem run210 : rn k210 = true := by kernel_rfl
theorem run211 : rn k211 = true := by kernel_rfl
end Go.Proofs.YtkllodeeccooeaaDoor.lifetimeHolds
