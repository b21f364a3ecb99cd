/- LifetimeHolds (watchword): its run over unknown arguments, part 13. No conditions but the facts that are named. -/
import Derived.Test.YtkllodeeccooeaaDoorLifetimeHoldsK
namespace Go.Proofs.YtkllodeeccooeaaDoor.lifetimeHolds
open Go.RowKit
theorem run110 : rn k110 = true := by kernel_rfl
theorem run114 : rn k114 = true := by kernel_rfl
theorem run115 : rn k115 = true := by kernel_rfl
end Go.Proofs.YtkllodeeccooeaaDoor.lifetimeHolds
