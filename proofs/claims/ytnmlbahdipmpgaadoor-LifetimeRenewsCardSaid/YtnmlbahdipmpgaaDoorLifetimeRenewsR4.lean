/- LifetimeRenews (watchword): its run over unknown arguments, part 4. No conditions but the facts that are named. -/
import Derived.Test.YtnmlbahdipmpgaaDoorLifetimeRenewsK
namespace Go.Proofs.YtnmlbahdipmpgaaDoor.lifetimeRenews
open Go.RowKit
theorem run8 : Sim.runsG Tryd.prog [] k8 7 Sim.isTrue 2000 inp = true := by kernel_rfl
end Go.Proofs.YtnmlbahdipmpgaaDoor.lifetimeRenews
