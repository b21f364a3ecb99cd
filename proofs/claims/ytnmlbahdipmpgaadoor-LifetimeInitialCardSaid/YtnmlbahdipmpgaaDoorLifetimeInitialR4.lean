/- LifetimeInitial (watchword): its run over unknown arguments, part 4. No conditions but the facts that are named. -/
import Derived.Test.YtnmlbahdipmpgaaDoorLifetimeInitialK
namespace Go.Proofs.YtnmlbahdipmpgaaDoor.lifetimeInitial
open Go.RowKit
theorem run29 : Sim.runsG Tryd.prog [] k29 5 Sim.isTrue 2000 inp = true := by kernel_rfl
theorem run30 : Sim.runsG Tryd.prog [] k30 5 Sim.isTrue 2000 inp = true := by kernel_rfl
theorem run31 : Sim.runsG Tryd.prog [] k31 5 Sim.isTrue 2000 inp = true := by kernel_rfl
end Go.Proofs.YtnmlbahdipmpgaaDoor.lifetimeInitial
