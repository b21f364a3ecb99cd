/- LifetimeHolds (watchword): its run over unknown arguments, part 0. No conditions but the facts that are named. -/
import Derived.Test.YtkllodeeccooeaaDoorLifetimeHoldsK
namespace Go.Proofs.YtkllodeeccooeaaDoor.lifetimeHolds
open Go.RowKit
theorem run39 : rn k39 = true := by kernel_rfl
theorem run40 : rn k40 = true := by kernel_rfl
theorem run42 : rn k42 = true := by kernel_rfl
end Go.Proofs.YtkllodeeccooeaaDoor.lifetimeHolds
