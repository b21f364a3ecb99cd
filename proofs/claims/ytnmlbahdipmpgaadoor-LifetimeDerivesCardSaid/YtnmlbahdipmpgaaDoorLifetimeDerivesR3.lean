/- LifetimeDerives (watchword): its run over unknown arguments, part 3. No conditions but the facts that are named. -/
import Derived.Test.YtnmlbahdipmpgaaDoorLifetimeDerivesK
namespace Go.Proofs.YtnmlbahdipmpgaaDoor.lifetimeDerives
open Go.RowKit
theorem run48 : Sim.runsG Tryd.prog [] k48 6 Sim.isTrue 2000 inp = true := by kernel_rfl
theorem run49 : Sim.runsG Tryd.prog [] k49 6 Sim.isTrue 2000 inp = true := by kernel_rfl
theorem run50 : Sim.runsG Tryd.prog [] k50 6 Sim.isTrue 2000 inp = true := by kernel_rfl
end Go.Proofs.YtnmlbahdipmpgaaDoor.lifetimeDerives
