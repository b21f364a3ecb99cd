/- LifetimeInitial (watchword): its run over unknown arguments, part 3. No conditions but the facts that are named. -/
import Derived.Test.YtnmlbahdipmpgaaDoorLifetimeInitialK
namespace Go.Proofs.YtnmlbahdipmpgaaDoor.lifetimeInitial
open Go.RowKit
theorem run26 : Sim.runsG Tryd.prog [] k26 5 Sim.isTrue 2000 inp = true := by kernel_rfl
theorem run27 : Sim.runsG Tryd.prog [] k27 5 Sim.isTrue 2000 inp = true := by kernel_rfl
theorem run28 : Sim.runsG Tryd.prog [] k28 5 Sim.isTrue 2000 inp = true := by kernel_rfl
end Go.Proofs.YtnmlbahdipmpgaaDoor.lifetimeInitial
