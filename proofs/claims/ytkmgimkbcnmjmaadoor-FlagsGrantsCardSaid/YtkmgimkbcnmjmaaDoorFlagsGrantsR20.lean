/- FlagsGrants (watchword): its run over unknown arguments, part 20. No conditions but the facts that are named. -/
import Derived.Test.YtkmgimkbcnmjmaaDoorFlagsGrantsK
namespace Go.Proofs.YtkmgimkbcnmjmaaDoor.flagsGrants
open Go.RowKit
theorem run125 : Sim.runsG Tryd.prog [] k125 8 Sim.isTrue 9000 inp = true := by kernel_rfl
theorem run126 : Sim.runsG Tryd.prog [] k126 8 Sim.isTrue 9000 inp = true := by kernel_rfl
theorem run127 : Sim.runsG Tryd.prog [] k127 8 Sim.isTrue 9000 inp = true := by kernel_rfl
theorem run128 : Sim.runsG Tryd.prog [] k128 8 Sim.isTrue 9000 inp = true := by kernel_rfl
theorem run129 : Sim.runsG Tryd.prog [] k129 8 Sim.isTrue 9000 inp = true := by kernel_rfl
theorem run130 : Sim.runsG Tryd.prog [] k130 8 Sim.isTrue 9000 inp = true := by kernel_rfl
theorem run131 : Sim.runsG Tryd.prog [] k131 8 Sim.isTrue 9000 inp = true := by kernel_rfl
theorem run132 : Sim.runsG Tryd.prog [] k132 8 Sim.isTrue 9000 inp = true := by kernel_rfl
theorem run133 : Sim.runsG Tryd.prog [] k133 8 Sim.isTrue 9000 inp = true := by kernel_rfl
theorem run134 : Sim.runsG Tryd.prog [] k134 8 Sim.isTrue 9000 inp = true := by kernel_rfl
theorem run135 : Sim.runsG Tryd.prog [] k135 8 Sim.isTrue 9000 inp = true := by kernel_rfl
theorem run136 : Sim.runsG Tryd.prog [] k136 8 Sim.isTrue 9000 inp = true := by kernel_rfl
theorem run137 : Sim.runsG Tryd.prog [] k137 8 Sim.isTrue 9000 inp = true := by kernel_rfl
theorem run138 : Sim.runsG Tryd.prog [] k138 8 Sim.isTrue 9000 inp = true := by kernel_rfl
theorem run139 : Sim.runsG Tryd.prog [] k139 8 Sim.isTrue 9000 inp = true := by kernel_rfl
end Go.Proofs.YtkmgimkbcnmjmaaDoor.flagsGrants
