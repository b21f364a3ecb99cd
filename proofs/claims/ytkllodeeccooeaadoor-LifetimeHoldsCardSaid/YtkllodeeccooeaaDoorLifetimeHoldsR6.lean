/- LifetimeHolds (watchword): its run over unknown arguments, part 6. No conditions but the facts that are named. -/
import Derived.Test.YtkllodeeccooeaaDoorLifetimeHoldsK
namespace Go.Proofs.YtkllodeeccooeaaDoor.lifetimeHolds
open Go.RowKit
theorem run72 : rn k72 = true := by kernel_rfl
theorem run73 : rn k73 = true := by kernel_rfl
theorem run74 : rn k74 = true := by kernel_rfl
end Go.Proofs.YtkllodeeccooeaaDoor.lifetimeHolds
