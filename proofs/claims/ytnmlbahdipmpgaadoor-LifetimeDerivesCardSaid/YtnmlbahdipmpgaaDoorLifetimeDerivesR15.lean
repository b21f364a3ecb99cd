/- LifetimeDerives (watchword): its run over unknown arguments, part 15. No conditions but the facts that are named. -/
import Derived.Test.YtnmlbahdipmpgaaDoorLifetimeDerivesK
namespace Go.Proofs.YtnmlbahdipmpgaaDoor.lifetimeDerives
open Go.RowKit
theorem run118 : Sim.runsG Tryd.prog [] k118 6 Sim.isTrue 2000 inp = true := by kernel_rfl
theorem run119 : Sim.runsG Tryd.prog [] k119 6 Sim.isTrue 2000 inp = true := by kernel_rfl
theorem run120 : Sim.runsG Tryd.prog [] k120 6 Sim.isTrue 2000 inp = true := by kernel_rfl
end Go.Proofs.YtnmlbahdipmpgaaDoor.lifetimeDerives
