/- LifetimeDerives (watchword): its run over unknown arguments, part 18. No conditions but the facts that are named. -/
import Derived.Test.YtnmlbahdipmpgaaDoorLifetimeDerivesK
namespace Go.Proofs.YtnmlbahdipmpgaaDoor.lifetimeDerives
open Go.RowKit
theorem run77 : Sim.runsG Tryd.prog [] k77 6 Sim.isTrue 2000 inp = true := by kernel_rfl
theorem run78 : Sim.runsG Tryd.prog [] k78 6 Sim.isTrue 2000 inp = true := by kernel_rfl
end Go.Proofs.YtnmlbahdipmpgaaDoor.lifetimeDerives
