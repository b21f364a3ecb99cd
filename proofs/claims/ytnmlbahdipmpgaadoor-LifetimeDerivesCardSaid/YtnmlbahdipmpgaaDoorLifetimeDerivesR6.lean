/- LifetimeDerives (watchword): its run over unknown arguments, part 6. No conditions but the facts that are named. -/
import Derived.Test.YtnmlbahdipmpgaaDoorLifetimeDerivesK
namespace Go.Proofs.YtnmlbahdipmpgaaDoor.lifetimeDerives
open Go.RowKit
theorem run52 : Sim.runsG Tryd.prog [] k52 6 Sim.isTrue 2000 inp = true := by kernel_rfl
theorem run53 : Sim.runsG Tryd.prog [] k53 6 Sim.isTrue 2000 inp = true := by kernel_rfl
end Go.Proofs.YtnmlbahdipmpgaaDoor.lifetimeDerives
