/- LifetimeWithin (watchword): its run over unknown arguments, part 0. No conditions but the facts that are named. -/
import Derived.Test.YtnmlbahdipmpgaaDoorLifetimeWithinK
namespace Go.Proofs.YtnmlbahdipmpgaaDoor.lifetimeWithin
open Go.RowKit
theorem run0 : Sim.runsG Tryd.prog [] k0 4 Sim.isTrue 2000 inp = true := by kernel_rfl
end Go.Proofs.YtnmlbahdipmpgaaDoor.lifetimeWithin
