/- LifetimeDerives (watchword): its run over unknown arguments, part 5. No conditions but the facts that are named. -/
import Derived.Test.YtnmlbahdipmpgaaDoorLifetimeDerivesK
namespace Go.Proofs.YtnmlbahdipmpgaaDoor.lifetimeDerives
open Go.RowKit
theorem run60 : Sim.runsG Tryd.prog [] k60 6 Sim.isTrue 2000 inp = true := by kernel_rfl
theorem run61 : Sim.runsG Tryd.prog [] k61 6 Sim.isTrue 2000 inp = true := by kernel_rfl
theorem run62 : Sim.runsG Tryd.prog [] k62 6 Sim.isTrue 2000 inp = true := by kernel_rfl
end Go.Proofs.YtnmlbahdipmpgaaDoor.lifetimeDerives
