/- LifetimeHolds (watchword): its run over unknown arguments, part 2. No conditions but the facts that are named. -/
import Derived.Test.YtkllodeeccooeaaDoorLifetimeHoldsK
namespace Go.Proofs.YtkllodeeccooeaaDoor.lifetimeHolds
open Go.RowKit
theorem run49 : rn k49 = true := by kernel_rfl
theorem run51 : rn k51 = true := by kernel_rfl
theorem run52 : rn k52 = true := by kernel_rfl
end Go.Proofs.YtkllodeeccooeaaDoor.lifetimeHolds
