/- LifetimeDerives (watchword): its run over unknown arguments, part 14. No conditions but the facts that are named. -/
import Derived.Test.YtnmlbahdipmpgaaDoorLifetimeDerivesK
namespace Go.Proofs.YtnmlbahdipmpgaaDoor.lifetimeDerives
open Go.RowKit
theorem run69 : Sim.runsG Tryd.prog [] k69 6 Sim.isTrue 2000 inp = true := by kernel_rfl
theorem run70 : Sim.runsG Tryd.prog [] k70 6 Sim.isTrue 2000 inp = true := by kernel_rfl
end Go.Proofs.YtnmlbahdipmpgaaDoor.lifetimeDerives
