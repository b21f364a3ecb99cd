/- LifetimeDerives (watchword): its run over unknown arguments, part 11. No conditions but the facts that are named. -/
import Derived.Test.YtnmlbahdipmpgaaDoorLifetimeDerivesK
namespace Go.Proofs.YtnmlbahdipmpgaaDoor.lifetimeDerives
open Go.RowKit
theorem run63 : Sim.runsG Tryd.prog [] k63 6 Sim.isTrue 2000 inp = true := by kernel_rfl
theorem run64 : Sim.runsG Tryd.prog [] k64 6 Sim.isTrue 2000 inp = true := by kernel_rfl
end Go.Proofs.YtnmlbahdipmpgaaDoor.lifetimeDerives
