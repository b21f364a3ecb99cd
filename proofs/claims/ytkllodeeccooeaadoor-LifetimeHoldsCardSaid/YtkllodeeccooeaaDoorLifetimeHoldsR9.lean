/- LifetimeHolds (watchword): its run over unknown arguments, part 9. No conditions but the facts that are named. -/
import Derived.Test.YtkllodeeccooeaaDoorLifetimeHoldsK
namespace Go.Proofs.YtkllodeeccooeaaDoor.lifetimeHolds
open Go.RowKit
theorem run91 : rn k91 = true := by kernel_rfl
theorem run93 : rn k93 = true := by kernel_rfl
theorem run94 : rn k94 = true := by kernel_rfl
end Go.Proofs.YtkllodeeccooeaaDoor.lifetimeHolds
