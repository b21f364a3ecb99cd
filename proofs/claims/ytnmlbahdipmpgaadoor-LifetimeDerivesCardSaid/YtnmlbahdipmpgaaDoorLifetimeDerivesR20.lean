/- LifetimeDerives (watchword): its run over unknown arguments, part 20. No conditions but the facts that are named. -/
import Derived.Test.YtnmlbahdipmpgaaDoorLifetimeDerivesK
namespace Go.Proofs.YtnmlbahdipmpgaaDoor.lifetimeDerives
open Go.RowKit
theorem run81 : Sim.runsG Tryd.prog [] k81 6 Sim.isTrue 2000 inp = true := by kernel_rfl
theorem run82 : Sim.runsG Tryd.prog [] k82 6 Sim.isTrue 2000 inp = true := by kernel_rfl
end Go.Proofs.YtnmlbahdipmpgaaDoor.lifetimeDerives
