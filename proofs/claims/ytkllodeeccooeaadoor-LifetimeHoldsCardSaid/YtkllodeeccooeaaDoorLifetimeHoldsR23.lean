/- LifetimeHolds (watchword): its run over unknown arguments, part 23. No conditions but the facts that are named. -/
import Derived.Test.YtkllodeeccooeaaDoorLifetimeHoldsK
namespace Go.Proofs.YtkllodeeccooeaaDoor.lifetimeHolds
open Go.RowKit
theorem run169 : rn k169 = true := by kernel_rfl
theorem run175 : rn k175 = true := by kernel_rfl
theorem run176 : rn k176 = true := by kernel_rfl
end Go.Proofs.YtkllodeeccooeaaDoor.lifetimeHolds
