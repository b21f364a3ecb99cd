/- FlagsInitial (watchword): its run over unknown arguments, part 0. No conditions but the facts that are named. -/
import Derived.Test.YtkmgimkbcnmjmaaDoorFlagsInitialK
namespace Go.Proofs.YtkmgimkbcnmjmaaDoor.flagsInitial
open Go.RowKit
theorem run0 : Sim.runsG Tryd.prog [] k0 7 Sim.isTrue 6000 inp = true := by kernel_rfl
end Go.Proofs.YtkmgimkbcnmjmaaDoor.flagsInitial
