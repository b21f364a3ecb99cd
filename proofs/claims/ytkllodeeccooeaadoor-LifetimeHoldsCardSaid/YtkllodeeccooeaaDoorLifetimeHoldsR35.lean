/- LifetimeHolds (watchword): its run over unknown arguments, part 35. No conditions but the facts that are named. -/
import Derived.Test.YtkllodeeccooeaaDoorLifetimeHoldsK
namespace Go.Proofs.YtkllodeeccooeaaDoor.lifetimeHolds
open Go.RowKit
theorem run238 : rn k238 = true := by kernel_rfl
theorem run239 : rn k239 = true := by kernel_rfl
theorem run240 : rn k240 = true := by kernel_rfl
end Go.Proofs.YtkllodeeccooeaaDoor.lifetimeHolds
