/- LifetimeInitial (watchword): its run over unknown arguments, part 2. No conditions but the facts that are named. -/
import Derived.Test.YtnmlbahdipmpgaaDoorLifetimeInitialK
namespace Go.Proofs.YtnmlbahdipmpgaaDoor.lifetimeInitial
open Go.RowKit
theorem run23 : Sim.runsG Tryd.prog [] k23 5 Sim.isTrue 2000 inp = true := by kernel_rfl
theorem run24 : Sim.runsG Tryd.prog [] k24 5 Sim.isTrue 2000 inp = true := by kernel_rfl
theorem run25 : Sim.runsG Tryd.prog [] k25 5 Sim.isTrue 2000 inp = true := by kernel_rfl
end Go.Proofs.YtnmlbahdipmpgaaDoor.lifetimeInitial
