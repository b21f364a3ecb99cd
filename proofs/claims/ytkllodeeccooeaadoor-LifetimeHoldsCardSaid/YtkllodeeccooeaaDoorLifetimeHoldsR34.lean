/- LifetimeHolds (watchword): its run over unknown arguments, part 34. No conditions but the facts that are named. -/
import Derived.Test.YtkllodeeccooeaaDoorLifetimeHoldsK
namespace Go.Proofs.YtkllodeeccooeaaDoor.lifetimeHolds
open Go.RowKit
theorem run235 : rn k235 = true := by kernel_rfl
theorem run236 : rn k236 = true := by kernel_rfl
theorem run237 : rn k237 = true := by kernel_rfl
end Go.Proofs.YtkllodeeccooeaaDoor.lifetimeHolds
