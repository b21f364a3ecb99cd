/- LifetimeHolds (watchword): its run over unknown arguments, part 37. No conditions but the facts that are named. -/
import Derived.Test.YtkllodeeccooeaaDoorLifetimeHoldsK
namespace Go.Proofs.YtkllodeeccooeaaDoor.lifetimeHolds
open Go.RowKit
theorem run244 : rn k244 = true := by kernel_rfl
theorem run245 : rn k245 = true := by kernel_rfl
theorem run246 : rn k246 = true := by kernel_rfl
end Go.Proofs.YtkllodeeccooeaaDoor.lifetimeHolds
