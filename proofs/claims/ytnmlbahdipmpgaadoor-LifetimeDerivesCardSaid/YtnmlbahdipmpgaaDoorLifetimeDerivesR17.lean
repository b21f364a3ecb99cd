/- LifetimeDerives (watchword): its run over unknown arguments, part 17. No conditions but the facts that are named. -/
import Derived.Test.YtnmlbahdipmpgaaDoorLifetimeDerivesK
namespace Go.Proofs.YtnmlbahdipmpgaaDoor.lifetimeDerives
open Go.RowKit
theorem run124 : Sim.runsG Tryd.prog [] k124 6 Sim.isTrue 2000 inp = true := by kernel_rfl
theorem run125 : Sim.runsG Tryd.prog [] k125 6 Sim.isTrue 2000 inp = true := by kernel_rfl
theorem run126 : Sim.runsG Tryd.prog [] k126 6 Sim.isTrue 2000 inp = true := by kernel_rfl
end Go.Proofs.YtnmlbahdipmpgaaDoor.lifetimeDerives
