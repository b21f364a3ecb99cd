/- LifetimeDerives (watchword): its run over unknown arguments, part 8. No conditions but the facts that are named. -/
import Derived.Test.YtnmlbahdipmpgaaDoorLifetimeDerivesK
namespace Go.Proofs.YtnmlbahdipmpgaaDoor.lifetimeDerives
open Go.RowKit
theorem run57 : Sim.runsG Tryd.prog [] k57 6 Sim.isTrue 2000 inp = true := by kernel_rfl
theorem run58 : Sim.runsG Tryd.prog [] k58 6 Sim.isTrue 2000 inp = true := by kernel_rfl
end Go.Proofs.YtnmlbahdipmpgaaDoor.lifetimeDerives
