/- LifetimeDerives (watchword): its run over unknown arguments, part 6. No conditions but the facts that are named. -/
import Derived.Test.YtnmlbahdipmpgaaDoorLifetimeDerivesK
namespace Go.Proofs.YtnmlbahdipmpgaaDoor.lifetimeDerives
open Go.RowKit
theorem run66 : Sim.runsG Tryd.prog [] k66 6 Sim.isTrue 2000 inp = true := by kernel_rfl
theorem run67 : Sim.runsG Tryd.prog [] k67 6 Sim.isTrue 2000 inp = true := by kernel_rfl
theorem run68 : Sim.runsG Tryd.prog [] k68 6 Sim.isTrue 2000 inp = true := by kernel_rfl
end Go.Proofs.YtnmlbahdipmpgaaDoor.lifetimeDerives
