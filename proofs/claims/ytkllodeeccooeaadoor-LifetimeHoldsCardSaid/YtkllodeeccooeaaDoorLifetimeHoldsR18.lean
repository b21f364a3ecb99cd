/- LifetimeHolds (watchword): its run over unknown arguments, part 18. No conditions but the facts that are named. -/
import Derived.Test.YtkllodeeccooeaaDoorLifetimeHoldsK
namespace Go.Proofs.YtkllodeeccooeaaDoor.lifetimeHolds
open Go.RowKit
theorem run145 : rn k145 = true := by kernel_rfl
theorem run146 : rn k146 = true := by kernel_rfl
theorem run147 : rn k147 = true := by kernel_rfl
end Go.Proofs.YtkllodeeccooeaaDoor.lifetimeHolds
