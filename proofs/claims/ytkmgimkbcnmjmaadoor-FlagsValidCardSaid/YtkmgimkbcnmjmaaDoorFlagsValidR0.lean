/- FlagsValid (watchword): its run over unknown arguments, part 0. No conditions but the facts that are named. -/
import Derived.Test.YtkmgimkbcnmjmaaDoorFlagsValidK
namespace Go.Proofs.YtkmgimkbcnmjmaaDoor.flagsValid
open Go.RowKit
theorem run0 : Sim.runsG Tryd.prog [] k0 3 Sim.isTrue 3000 inp = true := by kernel_rfl
end Go.Proofs.YtkmgimkbcnmjmaaDoor.flagsValid
