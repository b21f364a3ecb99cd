/- LifetimeDerives (watchword): its run over unknown arguments, part 8. No conditions but the facts that are named. -/
import Derived.Test.YtnmlbahdipmpgaaDoorLifetimeDerivesK
namespace Go.Proofs.YtnmlbahdipmpgaaDoor.lifetimeDerives
open Go.RowKit
theorem run79 : Sim.runsG Tryd.prog [] k79 6 Sim.isTrue 2000 inp = true := by kernel_rfl
theorem run80 : Sim.runsG Tryd.prog [] k80 6 Sim.isTrue 2000 inp = true := by kernel_rfl
theorem run81 : Sim.runsG Tryd.prog [] k81 6 Sim.isTrue 2000 inp = true := by kernel_rfl
end Go.Proofs.YtnmlbahdipmpgaaDoor.lifetimeDerives
