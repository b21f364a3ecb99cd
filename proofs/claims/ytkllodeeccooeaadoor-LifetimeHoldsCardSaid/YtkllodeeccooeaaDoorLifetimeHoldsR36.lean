/- LifetimeHolds (watchword): its run over unknown arguments, part 36. No conditions but the facts that are named. -/
import Derived.Test.YtkllodeeccooeaaDoorLifetimeHoldsK
namespace Go.Proofs.YtkllodeeccooeaaDoor.lifetimeHolds
open Go.RowKit
theorem run241 : rn k241 = true := by kernel_rfl
theorem run242 : rn k242 = true := by kernel_rfl
theorem run243 : rn k243 = true := by kernel_rfl
end Go.Proofs.YtkllodeeccooeaaDoor.lifetimeHolds
