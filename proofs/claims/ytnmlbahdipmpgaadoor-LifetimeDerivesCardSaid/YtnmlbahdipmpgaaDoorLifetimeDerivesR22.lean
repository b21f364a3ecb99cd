/- LifetimeDerives (watchword): its run over unknown arguments, part 22. No conditions but the facts that are named. -/
import Derived.Test.YtnmlbahdipmpgaaDoorLifetimeDerivesK
namespace Go.Proofs.YtnmlbahdipmpgaaDoor.lifetimeDerives
open Go.RowKit
theorem run139 : Sim.runsG Tryd.prog [] k139 6 Sim.isTrue 2000 inp = true := by kernel_rfl
theorem run140 : Sim.runsG Tryd.prog [] k140 6 Sim.isTrue 2000 inp = true := by kernel_rfl
theorem run141 : Sim.runsG Tryd.prog [] k141 6 Sim.isTrue 2000 inp = true := by kernel_rfl
end Go.Proofs.YtnmlbahdipmpgaaDoor.lifetimeDerives
