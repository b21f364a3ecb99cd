/- LifetimeHolds (watchword): its run over unknown arguments, part 11. No conditions but the facts that are named. -/
import Derived.Test.YtkllodeeccooeaaDoorLifetimeHoldsK
namespace Go.Proofs.YtkllodeeccooeaaDoor.lifetimeHolds
open Go.RowKit
theorem run102 : rn k102 = true := by kernel_rfl
theorem run103 : rn k103 = true := by kernel_rfl
theorem run104 : rn k104 = true := by kernel_rfl
end Go.Proofs.YtkllodeeccooeaaDoor.lifetimeHolds
