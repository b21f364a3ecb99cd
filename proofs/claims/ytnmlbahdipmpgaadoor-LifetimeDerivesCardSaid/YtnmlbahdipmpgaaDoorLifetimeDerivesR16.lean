/- LifetimeDerives (watchword): its run over unknown arguments, part 16. No conditions but the facts that are named. -/
import Derived.Test.YtnmlbahdipmpgaaDoorLifetimeDerivesK
namespace Go.Proofs.YtnmlbahdipmpgaaDoor.lifetimeDerives
open Go.RowKit
theorem run121 : Sim.runsG Tryd.prog [] k121 6 Sim.isTrue 2000 inp = true := by kernel_rfl
theorem run122 : Sim.runsG Tryd.prog [] k122 6 Sim.isTrue 2000 inp = true := by kernel_rfl
theorem run123 : Sim.runsG Tryd.prog [] k123 6 Sim.isTrue 2000 inp = true := by kernel_rfl
end Go.Proofs.YtnmlbahdipmpgaaDoor.lifetimeDerives
