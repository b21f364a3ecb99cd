/- LifetimeDerives (watchword): its run over unknown arguments, part 1. No conditions but the facts that are named. -/
import Derived.Test.YtnmlbahdipmpgaaDoorLifetimeDerivesK
namespace Go.Proofs.YtnmlbahdipmpgaaDoor.lifetimeDerives
open Go.RowKit
theorem run37 : Sim.runsG Tryd.prog [] k37 6 Sim.isTrue 2000 inp = true := by kernel_rfl
theorem run38 : Sim.runsG Tryd.prog [] k38 6 Sim.isTrue 2000 inp = true := by kernel_rfl
theorem run39 : Sim.runsG Tryd.prog [] k39 6 Sim.isTrue 2000 inp = true := by kernel_rfl
end Go.Proofs.YtnmlbahdipmpgaaDoor.lifetimeDerives
