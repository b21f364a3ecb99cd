/- LifetimeDerives (watchword): its run over unknown arguments, part 17. No conditions but the facts that are named. -/
import Derived.Test.YtnmlbahdipmpgaaDoorLifetimeDerivesK
namespace Go.Proofs.YtnmlbahdipmpgaaDoor.lifetimeDerives
open Go.RowKit
theorem run75 : Sim.runsG Tryd.prog [] k75 6 Sim.isTrue 2000 inp = true := by kernel_rfl
theorem run76 : Sim.runsG Tryd.prog [] k76 6 Sim.isTrue 2000 inp = true := by kernel_rfl
end Go.Proofs.YtnmlbahdipmpgaaDoor.lifetimeDerives
