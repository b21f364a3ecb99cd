/- LifetimeHolds (watchword): its run over unknown arguments, part 7. No conditions but the facts that are named. -/
import Derived.Test.YtkllodeeccooeaaDoorLifetimeHoldsK
namespace Go.Proofs.YtkllodeeccooeaaDoor.lifetimeHolds
open Go.RowKit
theorem run75 : rn k75 = true := by kernel_rfl
theorem run76 : rn k76 = true := by kernel_rfl
theorem run79 : rn k79 = true := by kernel_rfl
end Go.Proofs.YtkllodeeccooeaaDoor.lifetimeHolds
