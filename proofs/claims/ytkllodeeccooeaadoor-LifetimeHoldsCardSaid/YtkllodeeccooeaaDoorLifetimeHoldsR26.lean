/- LifetimeHolds (watchword): its run over unknown arguments, part 26. No conditions but the facts that are named. -/
import Derived.Test.YtkllodeeccooeaaDoorLifetimeHoldsK
namespace Go.Proofs.YtkllodeeccooeaaDoor.lifetimeHolds
open Go.RowKit
theorem run194 : rn k194 = true := by kernel_rfl
theorem run195 : rn k195 = true := by kernel_rfl
theorem run197 : rn k197 = true := by kernel_rfl
end Go.Proofs.YtkllodeeccooeaaDoor.lifetimeHolds
