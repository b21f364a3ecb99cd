/- LifetimeInitial (watchword): its run over unknown arguments, part 0. No conditions but the facts that are named. -/
import Derived.Test.YtnmlbahdipmpgaaDoorLifetimeInitialK
namespace Go.Proofs.YtnmlbahdipmpgaaDoor.lifetimeInitial
open Go.RowKit
theorem run16 : Sim.runsG Tryd.prog [] k16 5 Sim.isTrue 2000 inp = true := by kernel_rfl
theorem run17 : Sim.runsG Tryd.prog [] k17 5 Sim.isTrue 2000 inp = true := by kernel_rfl
theorem run19 : Sim.runsG Tryd.prog [] k19 5 Sim.isTrue 2000 inp = true := by kernel_rfl
end Go.Proofs.YtnmlbahdipmpgaaDoor.lifetimeInitial
