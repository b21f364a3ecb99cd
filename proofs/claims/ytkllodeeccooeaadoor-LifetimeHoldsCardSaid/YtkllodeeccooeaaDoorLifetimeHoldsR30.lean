/- LifetimeHolds (watchword): its run over unknown arguments, part 30. No conditions but the facts that are named. -/
import Derived.Test.YtkllodeeccooeaaDoorLifetimeHoldsK
namespace Go.Proofs.YtkllodeeccooeaaDoor.lifetimeHolds
open Go.RowKit
theorem run213 : rn k213 = true := by kernel_rfl
theorem run214 : rn k214 = true := by kernel_rfl
theorem run218 : rn k218 = true := by kernel_rfl
end Go.Proofs.YtkllodeeccooeaaDoor.lifetimeHolds
