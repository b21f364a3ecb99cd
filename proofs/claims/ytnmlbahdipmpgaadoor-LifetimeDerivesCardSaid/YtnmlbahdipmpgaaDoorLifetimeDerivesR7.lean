/- LifetimeDerives (watchword): its run over unknown arguments, part 7. No conditions but the facts that are named. -/
import Derived.Test.YtnmlbahdipmpgaaDoorLifetimeDerivesK
namespace Go.Proofs.YtnmlbahdipmpgaaDoor.lifetimeDerives
open Go.RowKit
theorem run71 : Sim.runsG Tryd.prog [] k71 6 Sim.isTrue 2000 inp = true := by kernel_rfl
theorem run72 : Sim.runsG Tryd.prog [] k72 6 Sim.isTrue 2000 inp = true := by kernel_rfl
theorem run73 : Sim.runsG Tryd.prog [] k73 6 Sim.isTrue 2000 inp = true := by kernel_rfl
end Go.Proofs.YtnmlbahdipmpgaaDoor.lifetimeDerives
