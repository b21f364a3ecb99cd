/- LifetimeDerives (watchword): its run over unknown arguments, part 9. No conditions but the facts that are named. -/
import Derived.Test.YtnmlbahdipmpgaaDoorLifetimeDerivesK
namespace Go.Proofs.YtnmlbahdipmpgaaDoor.lifetimeDerives
open Go.RowKit
theorem run59 : Sim.runsG Tryd.prog [] k59 6 Sim.isTrue 2000 inp = true := by kernel_rfl
theorem run60 : Sim.runsG Tryd.prog [] k60 6 Sim.isTrue 2000 inp = true := by kernel_rfl
end Go.Proofs.YtnmlbahdipmpgaaDoor.lifetimeDerives
