/- LifetimeDerives (watchword): its run over unknown arguments, part 19. No conditions but the facts that are named. -/
import Derived.Test.YtnmlbahdipmpgaaDoorLifetimeDerivesK
namespace Go.Proofs.YtnmlbahdipmpgaaDoor.lifetimeDerives
open Go.RowKit
theorem run130 : Sim.runsG Tryd.prog [] k130 6 Sim.isTrue 2000 inp = true := by kernel_rfl
theorem run131 : Sim.runsG Tryd.prog [] k131 6 Sim.isTrue 2000 inp = true := by kernel_rfl
theorem run132 : Sim.runsG Tryd.prog [] k132 6 Sim.isTrue 2000 inp = true := by kernel_rfl
end Go.Proofs.YtnmlbahdipmpgaaDoor.lifetimeDerives
