/- LifetimeDerives (watchword): its run over unknown arguments, part 10. No conditions but the facts that are named. -/
import Derived.Test.YtnmlbahdipmpgaaDoorLifetimeDerivesK
namespace Go.Proofs.YtnmlbahdipmpgaaDoor.lifetimeDerives
open Go.RowKit
theorem run90 : Sim.runsG Tryd.prog [] k90 6 Sim.isTrue 2000 inp = true := by kernel_rfl
theorem run91 : Sim.runsG Tryd.prog [] k91 6 Sim.isTrue 2000 inp = true := by kernel_rfl
theorem run92 : Sim.runsG Tryd.prog [] k92 6 Sim.isTrue 2000 inp = true := by kernel_rfl
end Go.Proofs.YtnmlbahdipmpgaaDoor.lifetimeDerives
