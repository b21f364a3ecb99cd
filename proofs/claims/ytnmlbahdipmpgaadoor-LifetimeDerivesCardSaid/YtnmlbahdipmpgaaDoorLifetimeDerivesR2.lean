/- LifetimeDerives (watchword): its run over unknown arguments, part 2. No conditions but the facts that are named. -/
import Derived.Test.YtnmlbahdipmpgaaDoorLifetimeDerivesK
namespace Go.Proofs.YtnmlbahdipmpgaaDoor.lifetimeDerives
open Go.RowKit
theorem run43 : Sim.runsG Tryd.prog [] k43 6 Sim.isTrue 2000 inp = true := by kernel_rfl
theorem run44 : Sim.runsG Tryd.prog [] k44 6 Sim.isTrue 2000 inp = true := by kernel_rfl
theorem run45 : Sim.runsG Tryd.prog [] k45 6 Sim.isTrue 2000 inp = true := by kernel_rfl
end Go.Proofs.YtnmlbahdipmpgaaDoor.lifetimeDerives
