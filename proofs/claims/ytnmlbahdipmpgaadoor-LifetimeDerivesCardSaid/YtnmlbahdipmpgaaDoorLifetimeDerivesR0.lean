/- LifetimeDerives (watchword): its run over unknown arguments, part 0. No conditions but the facts that are named. -/
import Derived.Test.YtnmlbahdipmpgaaDoorLifetimeDerivesK
namespace Go.Proofs.YtnmlbahdipmpgaaDoor.lifetimeDerives
open Go.RowKit
theorem run32 : Sim.runsG Tryd.prog [] k32 6 Sim.isTrue 2000 inp = true := by kernel_rfl
theorem run33 : Sim.runsG Tryd.prog [] k33 6 Sim.isTrue 2000 inp = true := by kernel_rfl
theorem run34 : Sim.runsG Tryd.prog [] k34 6 Sim.isTrue 2000 inp = true := by kernel_rfl
end Go.Proofs.YtnmlbahdipmpgaaDoor.lifetimeDerives
