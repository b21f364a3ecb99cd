/- FlagsGrants (watchword): its run over unknown arguments, part 18. No conditions but the facts that are named. -/
import Derived.Test.YtkmgimkbcnmjmaaDoorFlagsGrantsK
namespace Go.Proofs.YtkmgimkbcnmjmaaDoor.flagsGrants
open Go.RowKit
theorem run95 : Sim.runsG Tryd.prog [] k95 8 Sim.isTrue 9000 inp = true := by kernel_rfl
theorem run96 : Sim.runsG Tryd.prog [] k96 8 Sim.isTrue 9000 inp = true := by kernel_rfl
theorem run97 : Sim.runsG Tryd.prog [] k97 8 Sim.isTrue 9000 inp = true := by kernel_rfl
theorem run98 : Sim.runsG Tryd.prog [] k98 8 Sim.isTrue 9000 inp = true := by kernel_rfl
theorem run99 : Sim.runsG Tryd.prog [] k99 8 Sim.isTrue 9000 inp = true := by kernel_rfl
theorem run100 : Sim.runsG Tryd.prog [] k100 8 Sim.isTrue 9000 inp = true := by kernel_rfl
theorem run101 : Sim.runsG Tryd.prog [] k101 8 Sim.isTrue 9000 inp = true := by kernel_rfl
theorem run102 : Sim.runsG Tryd.prog [] k102 8 Sim.isTrue 9000 inp = true := by kernel_rfl
theorem run103 : Sim.runsG Tryd.prog [] k103 8 Sim.isTrue 9000 inp = true := by kernel_rfl
theorem run104 : Sim.runsG Tryd.prog [] k104 8 Sim.isTrue 9000 inp = true := by kernel_rfl
theorem run105 : Sim.runsG Tryd.prog [] k105 8 Sim.isTrue 9000 inp = true := by kernel_rfl
theorem run106 : Sim.runsG Tryd.prog [] k106 8 Sim.isTrue 9000 inp = true := by kernel_rfl
theorem run107 : Sim.runsG Tryd.prog [] k107 8 Sim.isTrue 9000 inp = true := by kernel_rfl
theorem run108 : Sim.runsG Tryd.prog [] k108 8 Sim.isTrue 9000 inp = true := by kernel_rfl
theorem run109 : Sim.runsG Tryd.prog [] k109 8 Sim.isTrue 9000 inp = true := by kernel_rfl
end Go.Proofs.YtkmgimkbcnmjmaaDoor.flagsGrants
