/- LifetimeDerives (watchword): its run over unknown arguments, part 3. No conditions but the facts that are named. -/
import Derived.Test.YtnmlbahdipmpgaaDoorLifetimeDerivesK
namespace Go.Proofs.YtnmlbahdipmpgaaDoor.lifetimeDerives
open Go.RowKit
theorem run40 : Sim.runsG Tryd.prog [] k40 6 Sim.isTrue 2000 inp = true := by kernel_rfl
theorem run41 : Sim.runsG Tryd.prog [] k41 6 Sim.isTrue 2000 inp = true := by kernel_rfl
end Go.Proofs.YtnmlbahdipmpgaaDoor.lifetimeDerives
