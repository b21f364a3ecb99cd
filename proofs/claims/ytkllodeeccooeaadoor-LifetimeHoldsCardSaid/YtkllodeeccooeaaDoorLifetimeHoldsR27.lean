/- LifetimeHolds (watchword): its run over unknown arguments, part 27. No conditions but the facts that are named. -/
import Derived.Test.YtkllodeeccooeaaDoorLifetimeHoldsK
namespace Go.Proofs.YtkllodeeccooeaaDoor.lifetimeHolds
open Go.RowKit
theorem run198 : rn k198 = true := by kernel_rfl
theorem run199 : rn k199 = true := by kernel_rfl
theorem run203 : rn k203 = true := by kernel_rfl
end Go.Proofs.YtkllodeeccooeaaDoor.lifetimeHolds
