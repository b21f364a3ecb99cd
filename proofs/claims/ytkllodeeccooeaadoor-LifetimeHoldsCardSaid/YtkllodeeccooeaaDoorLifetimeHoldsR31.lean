/- LifetimeHolds (watchword): its run over unknown arguments, part 31. No conditions but the facts that are named. -/
import Derived.Test.YtkllodeeccooeaaDoorLifetimeHoldsK
namespace Go.Proofs.YtkllodeeccooeaaDoor.lifetimeHolds
open Go.RowKit
theorem run219 : rn k219 = true := by kernel_rfl
theorem run220 : rn k220 = true := by kernel_rfl
theorem run221 : rn k221 = true := by kernel_rfl
end Go.Proofs.YtkllodeeccooeaaDoor.lifetimeHolds
