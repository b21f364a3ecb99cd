/- LifetimeHolds (watchword): its run over unknown arguments, part 28. No conditions but the facts that are named. -/
import Derived.Test.YtkllodeeccooeaaDoorLifetimeHoldsK
namespace Go.Proofs.YtkllodeeccooeaaDoor.lifetimeHolds
open Go.RowKit
theorem run204 : rn k204 = true := by kernel_rfl
theorem run206 : rn k206 = true := by kernel_rfl
theorem run207 : rn k207 = true := by kernel_rfl
end Go.Proofs.YtkllodeeccooeaaDoor.lifetimeHolds
