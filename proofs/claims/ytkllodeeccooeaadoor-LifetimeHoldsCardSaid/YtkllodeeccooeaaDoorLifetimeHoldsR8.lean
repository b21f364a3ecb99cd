/- LifetimeHolds (watchword): its run over unknown arguments, part 8. No conditions but the facts that are named. -/
import Derived.Test.YtkllodeeccooeaaDoorLifetimeHoldsK
namespace Go.Proofs.YtkllodeeccooeaaDoor.lifetimeHolds
open Go.RowKit
theorem run80 : rn k80 = true := by kernel_rfl
theorem run81 : rn k81 = true := by kernel_rfl
theorem run90 : rn k90 = true := by kernel_rfl
end Go.Proofs.YtkllodeeccooeaaDoor.lifetimeHolds
