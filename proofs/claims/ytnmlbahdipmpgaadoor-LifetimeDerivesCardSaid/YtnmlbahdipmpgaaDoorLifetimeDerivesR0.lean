/- LifetimeDerives (watchword): its run over unknown arguments, part 0. No conditions but the facts that are named. -/
import Derived.Test.YtnmlbahdipmpgaaDoorLifetimeDerivesK
namespace Go.Proofs.YtnmlbahdipmpgaaDoor.lifetimeDerives
open Go.RowKit
theorem run30 : Sim.runsG Tryd.prog [] k30 6 Sim.isTrue 2000 inp = true := by kernel_rfl
theorem run31 : Sim.runsG Tryd.prog [] k31 6 Sim.isTrue 2000 inp = true := by kernel_rfl
end Go.Proofs.YtnmlbahdipmpgaaDoor.lifetimeDerives
