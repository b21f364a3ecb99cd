/- LifetimeDerives (watchword): its run over unknown arguments, part 21. No conditions but the facts that are named. -/
import Derived.Test.YtnmlbahdipmpgaaDoorLifetimeDerivesK
namespace Go.Proofs.YtnmlbahdipmpgaaDoor.lifetimeDerives
open Go.RowKit
theorem run136 : Sim.runsG Tryd.prog [] k136 6 Sim.isTrue 2000 inp = true := by kernel_rfl
theorem run137 : Sim.runsG Tryd.prog [] k137 6 Sim.isTrue 2000 inp = true := by kernel_rfl
theorem run138 : Sim.runsG Tryd.prog [] k138 6 Sim.isTrue 2000 inp = true := by kernel_rfl
end Go.Proofs.YtnmlbahdipmpgaaDoor.lifetimeDerives
