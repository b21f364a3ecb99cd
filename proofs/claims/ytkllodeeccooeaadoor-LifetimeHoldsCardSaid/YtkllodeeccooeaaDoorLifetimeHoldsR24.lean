/- LifetimeHolds (watchword): its run over unknown arguments, part 24. No conditions but the facts that are named. -/
import Derived.Test.YtkllodeeccooeaaDoorLifetimeHoldsK
namespace Go.Proofs.YtkllodeeccooeaaDoor.lifetimeHolds
open Go.RowKit
theorem run177 : rn k177 = true := by kernel_rfl
theorem run178 : rn k178 = true := by kernel_rfl
theorem run179 : rn k179 = true := by kernel_rfl
end Go.Proofs.YtkllodeeccooeaaDoor.lifetimeHolds
