/- LifetimeDerives (watchword): its run over unknown arguments, part 12. No conditions but the facts that are named. -/
import Derived.Test.YtnmlbahdipmpgaaDoorLifetimeDerivesK
namespace Go.Proofs.YtnmlbahdipmpgaaDoor.lifetimeDerives
open Go.RowKit
theorem run102 : Sim.runsG Tryd.prog [] k102 6 Sim.isTrue 2000 inp = true := by kernel_rfl
theorem run103 : Sim.runsG Tryd.prog [] k103 6 Sim.isTrue 2000 inp = true := by kernel_rfl
theorem run104 : Sim.runsG Tryd.prog [] k104 6 Sim.isTrue 2000 inp = true := by kernel_rfl
end Go.Proofs.YtnmlbahdipmpgaaDoor.lifetimeDerives
