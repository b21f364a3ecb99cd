/- LifetimeHolds (watchword): its run over unknown arguments, part 3. No conditions but the facts that are named. -/
import Derived.Test.YtkllodeeccooeaaDoorLifetimeHoldsK
namespace Go.Proofs.YtkllodeeccooeaaDoor.lifetimeHolds
open Go.RowKit
theorem run53 : rn k53 = true := by kernel_rfl
theorem run55 : rn k55 = true := by kernel_rfl
theorem run56 : rn k56 = true := by kernel_rfl
end Go.Proofs.YtkllodeeccooeaaDoor.lifetimeHolds
