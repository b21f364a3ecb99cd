/- LifetimeDerives (watchword): its run over unknown arguments, part 14. No conditions but the facts that are named. -/
import Derived.Test.YtnmlbahdipmpgaaDoorLifetimeDerivesK
namespace Go.Proofs.YtnmlbahdipmpgaaDoor.lifetimeDerives
open Go.RowKit
theorem run113 : Sim.runsG Tryd.prog [] k113 6 Sim.isTrue 2000 inp = true := by kernel_rfl
theorem run114 : Sim.runsG Tryd.prog [] k114 6 Sim.isTrue 2000 inp = true := by kernel_rfl
theorem run115 : Sim.runsG Tryd.prog [] k115 6 Sim.isTrue 2000 inp = true := by kernel_rfl
end Go.Proofs.YtnmlbahdipmpgaaDoor.lifetimeDerives
