/- LifetimeHolds (watchword): its run over unknown arguments, part 12. No conditions but the facts that are named. -/
import Derived.Test.YtkllodeeccooeaaDoorLifetimeHoldsK
namespace Go.Proofs.YtkllodeeccooeaaDoor.lifetimeHolds
open Go.RowKit
theorem run106 : rn k106 = true := by kernel_rfl
theorem run107 : rn k107 = true := by kernel_rfl
theorem run109 : rn k109 = true := by kernel_rfl
end Go.Proofs.YtkllodeeccooeaaDoor.lifetimeHolds
