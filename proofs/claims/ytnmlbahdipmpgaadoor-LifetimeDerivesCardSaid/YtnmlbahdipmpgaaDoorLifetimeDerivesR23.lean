/- LifetimeDerives (watchword): its run over unknown arguments, part 23. No conditions but the facts that are named. -/
import Derived.Test.YtnmlbahdipmpgaaDoorLifetimeDerivesK
namespace Go.Proofs.YtnmlbahdipmpgaaDoor.lifetimeDerives
open Go.RowKit
theorem run142 : Sim.runsG Tryd.prog [] k142 6 Sim.isTrue 2000 inp = true := by kernel_rfl
theorem run143 : Sim.runsG Tryd.prog [] k143 6 Sim.isTrue 2000 inp = true := by kernel_rfl
theorem run144 : Sim.runsG Tryd.prog [] k144 6 Sim.isTrue 2000 inp = true := by kernel_rfl
end Go.Proofs.YtnmlbahdipmpgaaDoor.lifetimeDerives
