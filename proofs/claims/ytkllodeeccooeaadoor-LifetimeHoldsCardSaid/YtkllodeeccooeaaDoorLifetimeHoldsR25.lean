/- LifetimeHolds (watchword): its run over unknown arguments, part 25. No conditions but the facts that are named. -/
import Derived.Test.YtkllodeeccooeaaDoorLifetimeHoldsK
namespace Go.Proofs.YtkllodeeccooeaaDoor.lifetimeHolds
open Go.RowKit
theorem run182 : rn k182 = true := by kernel_rfl
theorem run183 : rn k183 = true := by kernel_rfl
theorem run184 : rn k184 = true := by kernel_rfl
end Go.Proofs.YtkllodeeccooeaaDoor.lifetimeHolds
