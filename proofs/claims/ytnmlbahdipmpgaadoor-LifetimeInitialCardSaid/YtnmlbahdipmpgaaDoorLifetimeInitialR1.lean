/- LifetimeInitial (watchword): its run over unknown arguments, part 1. No conditions but the facts that are named. -/
import Derived.Test.YtnmlbahdipmpgaaDoorLifetimeInitialK
namespace Go.Proofs.YtnmlbahdipmpgaaDoor.lifetimeInitial
open Go.RowKit
theorem run20 : Sim.runsG Tryd.prog [] k20 5 Sim.isTrue 2000 inp = true := by kernel_rfl
theorem run21 : Sim.runsG Tryd.prog [] k21 5 Sim.isTrue 2000 inp = true := by kernel_rfl
theorem run22 : Sim.runsG Tryd.prog [] k22 5 Sim.isTrue 2000 inp = true := by kernel_rfl
end Go.Proofs.YtnmlbahdipmpgaaDoor.lifetimeInitial
