/- LifetimeHolds (watchword): its run over unknown arguments, part 4. No conditions but the facts that are named. -/
import Derived.Test.YtkllodeeccooeaaDoorLifetimeHoldsK
namespace Go.Proofs.YtkllodeeccooeaaDoor.lifetimeHolds
open Go.RowKit
theorem run58 : rn k58 = true := by kernel_rfl
theorem run59 : rn k59 = true := by kernel_rfl
theorem run63 : rn k63 = true := by kernel_rfl
end Go.Proofs.YtkllodeeccooeaaDoor.lifetimeHolds
