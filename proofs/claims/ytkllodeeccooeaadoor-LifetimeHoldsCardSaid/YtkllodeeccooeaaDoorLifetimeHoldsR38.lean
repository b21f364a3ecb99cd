/- LifetimeHolds (watchword): its run over unknown arguments, part 38. No conditions but the facts that are named. -/
import Derived.Test.YtkllodeeccooeaaDoorLifetimeHoldsK
namespace Go.Proofs.YtkllodeeccooeaaDoor.lifetimeHolds
open Go.RowKit
theorem run247 : rn k247 = true := by kernel_rfl
theorem run248 : rn k248 = true := by kernel_rfl
theorem run249 : rn k249 = true := by kernel_rfl
end Go.Proofs.YtkllodeeccooeaaDoor.lifetimeHolds
