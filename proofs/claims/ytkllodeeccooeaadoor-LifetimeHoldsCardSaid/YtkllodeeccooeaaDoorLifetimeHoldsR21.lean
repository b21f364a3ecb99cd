/- LifetimeHolds (watchword): its run over unknown arguments, part 21. No conditions but the facts that are named. -/
import Derived.Test.YtkllodeeccooeaaDoorLifetimeHoldsK
namespace Go.Proofs.YtkllodeeccooeaaDoor.lifetimeHolds
open Go.RowKit
theorem run159 : rn k159 = true := by kernel_rfl
theorem run161 : rn k161 = true := by kernel_rfl
theorem run162 : rn k162 = true := by kernel_rfl
end Go.Proofs.YtkllodeeccooeaaDoor.lifetimeHolds
