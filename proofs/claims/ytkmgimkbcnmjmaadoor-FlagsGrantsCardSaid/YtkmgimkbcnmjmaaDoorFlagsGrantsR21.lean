/- FlagsGrants (watchword): its run over unknown arguments, part 21. No conditions but the facts that are named. -/
import Derived.Test.YtkmgimkbcnmjmaaDoorFlagsGrantsK
namespace Go.Proofs.YtkmgimkbcnmjmaaDoor.flagsGrants
open Go.RowKit
theorem run140 : Sim.runsG Tryd.prog [] k140 8 Sim.isTrue 9000 inp = true := by kernel_rfl
theorem run141 : Sim.runsG Tryd.prog [] k141 8 Sim.isTrue 9000 inp = true := by kernel_rfl
theorem run142 : Sim.runsG Tryd.prog [] k142 8 Sim.isTrue 9000 inp = true := by kernel_rfl
theorem run143 : Sim.runsG Tryd.prog [] k143 8 Sim.isTrue 9000 inp = true := by kernel_rfl
theorem run144 : Sim.runsG Tryd.prog [] k144 8 Sim.isTrue 9000 inp = true := by kernel_rfl
theorem run145 : Sim.runsG Tryd.prog [] k145 8 Sim.isTrue 9000 inp = true := by kernel_rfl
theorem run146 : Sim.runsG Tryd.prog [] k146 8 Sim.isTrue 9000 inp = true := by kernel_rfl
theorem run147 : Sim.runsG Tryd.prog [] k147 8 Sim.isTrue 9000 inp = true := by kernel_rfl
theorem run148 : Sim.runsG Tryd.prog [] k148 8 Sim.isTrue 9000 inp = true := by kernel_rfl
theorem run149 : Sim.runsG Tryd.prog [] k149 8 Sim.isTrue 9000 inp = true := by kernel_rfl
theorem run150 : Sim.runsG Tryd.prog [] k150 8 Sim.isTrue 9000 inp = true := by kernel_rfl
theorem run151 : Sim.runsG Tryd.prog [] k151 8 Sim.isTrue 9000 inp = true := by kernel_rfl
theorem run152 : Sim.runsG Tryd.prog [] k152 8 Sim.isTrue 9000 inp = true := by kernel_rfl
theorem run153 : Sim.runsG Tryd.prog [] k153 8 Sim.isTrue 9000 inp = true := by kernel_rfl
theorem run154 : Sim.runsG Tryd.prog [] k154 8 Sim.isTrue 9000 inp = true := by kernel_rfl
end Go.Proofs.YtkmgimkbcnmjmaaDoor.flagsGrants
