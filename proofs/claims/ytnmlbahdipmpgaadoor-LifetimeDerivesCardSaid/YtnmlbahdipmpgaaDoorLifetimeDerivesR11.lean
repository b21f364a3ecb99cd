/- LifetimeDerives (watchword): its run over unknown arguments, part 11. No conditions but the facts that are named. -/
import Derived.Test.YtnmlbahdipmpgaaDoorLifetimeDerivesK
namespace Go.Proofs.YtnmlbahdipmpgaaDoor.lifetimeDerives
open Go.RowKit
theorem run95 : Sim.runsG Tryd.prog [] k95 6 Sim.isTrue 2000 inp = true := by kernel_rfl
theorem run96 : Sim.runsG Tryd.prog [] k96 6 Sim.isTrue 2000 inp = true := by kernel_rfl
theorem run97 : Sim.runsG Tryd.prog [] k97 6 Sim.isTrue 2000 inp = true := by kernel_rfl
end Go.Proofs.YtnmlbahdipmpgaaDoor.lifetimeDerives
