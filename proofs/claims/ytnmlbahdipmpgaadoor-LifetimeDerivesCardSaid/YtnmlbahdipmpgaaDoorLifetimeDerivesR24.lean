/- LifetimeDerives (watchword): its run over unknown arguments, part 24. No conditions but the facts that are named. -/
import Derived.Test.YtnmlbahdipmpgaaDoorLifetimeDerivesK
namespace Go.Proofs.YtnmlbahdipmpgaaDoor.lifetimeDerives
open Go.RowKit
theorem run145 : Sim.runsG Tryd.prog [] k145 6 Sim.isTrue 2000 inp = true := by kernel_rfl
theorem run146 : Sim.runsG Tryd.prog [] k146 6 Sim.isTrue 2000 inp = true := by kernel_rfl
end Go.Proofs.YtnmlbahdipmpgaaDoor.lifetimeDerives
