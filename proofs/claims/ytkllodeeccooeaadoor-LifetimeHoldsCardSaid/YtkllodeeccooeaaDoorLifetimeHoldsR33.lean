/- LifetimeHolds (watchword): its run over unknown arguments, part 33. No conditions but the facts that are named. -/
import Derived.Test.YtkllodeeccooeaaDoorLifetimeHoldsK
namespace Go.Proofs.YtkllodeeccooeaaDoor.lifetimeHolds
open Go.RowKit
theorem run230 : rn k230 = true := by kernel_rfl
theorem run231 : rn k231 = true := by kernel_rfl
theorem run234 : rn k234 = true := by kernel_rfl
end Go.Proofs.YtkllodeeccooeaaDoor.lifetimeHolds
