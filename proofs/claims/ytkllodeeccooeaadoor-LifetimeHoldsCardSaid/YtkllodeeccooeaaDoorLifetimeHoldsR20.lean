/- LifetimeHolds (watchword): its run over unknown arguments, part 20. No conditions but the facts that are named. -/
import Derived.Test.YtkllodeeccooeaaDoorLifetimeHoldsK
namespace Go.Proofs.YtkllodeeccooeaaDoor.lifetimeHolds
open Go.RowKit
theorem run155 : rn k155 = true := by kernel_rfl
theorem run156 : rn k156 = true := by kernel_rfl
theorem run158 : rn k158 = true := by kernel_rfl
end Go.Proofs.YtkllodeeccooeaaDoor.lifetimeHolds
