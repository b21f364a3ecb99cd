/- LifetimeDerives (watchword): its run over unknown arguments, part 4. No conditions but the facts that are named. -/
import Derived.Test.YtnmlbahdipmpgaaDoorLifetimeDerivesK
namespace Go.Proofs.YtnmlbahdipmpgaaDoor.lifetimeDerives
open Go.RowKit
theorem run55 : Sim.runsG Tryd.prog [] k55 6 Sim.isTrue 2000 inp = true := by kernel_rfl
theorem run56 : Sim.runsG Tryd.prog [] k56 6 Sim.isTrue 2000 inp = true := by kernel_rfl
theorem run57 : Sim.runsG Tryd.prog [] k57 6 Sim.isTrue 2000 inp = true := by kernel_rfl
end Go.Proofs.YtnmlbahdipmpgaaDoor.lifetimeDerives
