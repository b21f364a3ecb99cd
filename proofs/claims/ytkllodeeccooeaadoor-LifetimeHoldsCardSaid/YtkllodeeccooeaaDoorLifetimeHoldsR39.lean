/- LifetimeHolds (watchword): its run over unknown arguments, part 39. No conditions but the facts that are named. -/
import Derived.Test.YtkllodeeccooeaaDoorLifetimeHoldsK
namespace Go.Proofs.YtkllodeeccooeaaDoor.lifetimeHolds
open Go.RowKit
theorem run250 : rn k250 = true := by kernel_rfl
theorem run251 : rn k251 = true := by kernel_rfl
theorem run252 : rn k252 = true := by kernel_rfl
end Go.Proofs.YtkllodeeccooeaaDoor.lifetimeHolds
