/- LifetimeHolds (watchword): its run over unknown arguments, part 22. No conditions but the facts that are named. -/
import Derived.Test.YtkllodeeccooeaaDoorLifetimeHoldsK
namespace Go.Proofs.YtkllodeeccooeaaDoor.lifetimeHolds
open Go.RowKit
theorem run166 : rn k166 = true := by kernel_rfl
theorem run167 : rn k167 = true := by kernel_rfl
theorem run168 : rn k168 = true := by kernel_rfl
end Go.Proofs.YtkllodeeccooeaaDoor.lifetimeHolds
