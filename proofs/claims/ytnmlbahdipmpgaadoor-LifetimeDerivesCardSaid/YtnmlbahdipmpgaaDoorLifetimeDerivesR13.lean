/- LifetimeDerives (watchword): its run over unknown arguments, part 13. No conditions but the facts that are named. -/
import Derived.Test.YtnmlbahdipmpgaaDoorLifetimeDerivesK
namespace Go.Proofs.YtnmlbahdipmpgaaDoor.lifetimeDerives
open Go.RowKit
theorem run107 : Sim.runsG Tryd.prog [] k107 6 Sim.isTrue 2000 inp = true := by kernel_rfl
theorem run108 : Sim.runsG Tryd.prog [] k108 6 Sim.isTrue 2000 inp = true := by kernel_rfl
theorem run109 : Sim.runsG Tryd.prog [] k109 6 Sim.isTrue 2000 inp = true := by kernel_rfl
end Go.Proofs.YtnmlbahdipmpgaaDoor.lifetimeDerives
