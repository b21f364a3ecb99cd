/- LifetimeInitial (watchword): its run over unknown arguments, part 5. No conditions but the facts that are named. -/
import Derived.Test.YtnmlbahdipmpgaaDoorLifetimeInitialK
namespace Go.Proofs.YtnmlbahdipmpgaaDoor.lifetimeInitial
open Go.RowKit
theorem run32 : Sim.runsG Tryd.prog [] k32 5 Sim.isTrue 2000 inp = true := by kernel_rfl
theorem run33 : Sim.runsG Tryd.prog [] k33 5 Sim.isTrue 2000 inp = true := by kernel_rfl
theorem run34 : Sim.runsG Tryd.prog [] k34 5 Sim.isTrue 2000 inp = true := by kernel_rfl
end Go.Proofs.YtnmlbahdipmpgaaDoor.lifetimeInitial
