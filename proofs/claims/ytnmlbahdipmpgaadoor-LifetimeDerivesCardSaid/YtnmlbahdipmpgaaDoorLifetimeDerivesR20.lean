/- LifetimeDerives (watchword): its run over unknown arguments, part 20. No conditions but the facts that are named. -/
import Derived.Test.YtnmlbahdipmpgaaDoorLifetimeDerivesK
namespace Go.Proofs.YtnmlbahdipmpgaaDoor.lifetimeDerives
open Go.RowKit
theorem run133 : Sim.runsG Tryd.prog [] k133 6 Sim.isTrue 2000 inp = true := by kernel_rfl
theorem run134 : Sim.runsG Tryd.prog [] k134 6 Sim.isTrue 2000 inp = true := by kernel_rfl
theorem run135 : Sim.runsG Tryd.prog [] k135 6 Sim.isTrue 2000 inp = true := by kernel_rfl
end Go.Proofs.YtnmlbahdipmpgaaDoor.lifetimeDerives
