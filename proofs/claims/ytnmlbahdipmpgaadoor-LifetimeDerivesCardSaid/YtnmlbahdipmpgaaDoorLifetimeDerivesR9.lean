/- LifetimeDerives (watchword): its run over unknown arguments, part 9. No conditions but the facts that are named. -/
import Derived.Test.YtnmlbahdipmpgaaDoorLifetimeDerivesK
namespace Go.Proofs.YtnmlbahdipmpgaaDoor.lifetimeDerives
open Go.RowKit
theorem run84 : Sim.runsG Tryd.prog [] k84 6 Sim.isTrue 2000 inp = true := by kernel_rfl
theorem run85 : Sim.runsG Tryd.prog [] k85 6 Sim.isTrue 2000 inp = true := by kernel_rfl
theorem run86 : Sim.runsG Tryd.prog [] k86 6 Sim.isTrue 2000 inp = true := by kernel_rfl
end Go.Proofs.YtnmlbahdipmpgaaDoor.lifetimeDerives
