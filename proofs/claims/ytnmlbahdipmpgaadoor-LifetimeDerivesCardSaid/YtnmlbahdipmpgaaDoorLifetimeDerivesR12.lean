/- LifetimeDerives (watchword): its run over unknown arguments, part 12. No conditions but the facts that are named. -/
import Derived.Test.YtnmlbahdipmpgaaDoorLifetimeDerivesK
namespace Go.Proofs.YtnmlbahdipmpgaaDoor.lifetimeDerives
open Go.RowKit
theorem run65 : Sim.runsG Tryd.prog [] k65 6 Sim.isTrue 2000 inp = true := by kernel_rfl
theorem run66 : Sim.runsG Tryd.prog [] k66 6 Sim.isTrue 2000 inp = true := by kernel_rfl
end Go.Proofs.YtnmlbahdipmpgaaDoor.lifetimeDerives
