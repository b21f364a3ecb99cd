/- FlagsGrants (watchword): its run over unknown arguments, part 14. No conditions but the facts that are named. -/
import Derived.Test.YtkmgimkbcnmjmaaDoorFlagsGrantsK
namespace Go.Proofs.YtkmgimkbcnmjmaaDoor.flagsGrants
open Go.RowKit
theorem run90 : Sim.runsG Tryd.prog [] k90 8 Sim.isTrue 9000 inp = true := by kernel_rfl
end Go.Proofs.YtkmgimkbcnmjmaaDoor.flagsGrants
