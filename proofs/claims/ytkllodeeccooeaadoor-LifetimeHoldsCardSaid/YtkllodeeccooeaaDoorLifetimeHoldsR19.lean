/- LifetimeHolds (watchword): its run over unknown arguments, part 19. No conditions but the facts that are named. -/
import Derived.Test.YtkllodeeccooeaaDoorLifetimeHoldsK
namespace Go.Proofs.YtkllodeeccooeaaDoor.lifetimeHolds
open Go.RowKit
theorem run151 : rn k151 = true := by kernel_rfl
theorem run152 : rn k152 = true := by kernel_rfl
theorem run154 : rn k154 = true := by kernel_rfl
end Go.Proofs.YtkllodeeccooeaaDoor.lifetimeHolds
