/- LifetimeHolds (watchword): its run over unknown arguments, part 5. No conditions but the facts that are named. -/
import Derived.Test.YtkllodeeccooeaaDoorLifetimeHoldsK
namespace Go.Proofs.YtkllodeeccooeaaDoor.lifetimeHolds
open Go.RowKit
theorem run64 : rn k64 = true := by kernel_rfl
theorem run65 : rn k65 = true := by kernel_rfl
theorem run66 : rn k66 = true := by kernel_rfl
end Go.Proofs.YtkllodeeccooeaaDoor.lifetimeHolds
