/- LifetimeHolds (watchword): its run over unknown arguments, part 32. No conditions but the facts that are named. -/
import Derived.Test.YtkllodeeccooeaaDoorLifetimeHoldsK
namespace Go.Proofs.YtkllodeeccooeaaDoor.lifetimeHolds
open Go.RowKit
theorem run227 : rn k227 = true := by kernel_rfl
theorem run228 : rn k228 = true := by kernel_rfl
theorem run229 : rn k229 = true := by kernel_rfl
end Go.Proofs.YtkllodeeccooeaaDoor.lifetimeHolds
