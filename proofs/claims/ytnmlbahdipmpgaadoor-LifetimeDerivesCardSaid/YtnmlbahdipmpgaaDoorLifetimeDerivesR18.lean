/- LifetimeDerives (watchword): its run over unknown arguments, part 18. No conditions but the facts that are named. -/
import Derived.Test.YtnmlbahdipmpgaaDoorLifetimeDerivesK
namespace Go.Proofs.YtnmlbahdipmpgaaDoor.lifetimeDerives
open Go.RowKit
theorem run127 : Sim.runsG Tryd.prog [] k127 6 Sim.isTrue 2000 inp = true := by kernel_rfl
theorem run128 : Sim.runsG Tryd.prog [] k128 6 Sim.isTrue 2000 inp = true := by kernel_rfl
theorem run129 : Sim.runsG Tryd.prog [] k129 6 Sim.isTrue 2000 inp = true := by kernel_rfl
end Go.Proofs.YtnmlbahdipmpgaaDoor.lifetimeDerives
