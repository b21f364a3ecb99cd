/- FlagsGrants (watchword): its run over unknown arguments, part 19. No conditions but the facts that are named. -/
import Derived.Test.YtkmgimkbcnmjmaaDoorFlagsGrantsK
namespace Go.Proofs.YtkmgimkbcnmjmaaDoor.flagsGrants
open Go.RowKit
theorem run110 : Sim.runsG Tryd.prog [] k110 8 Sim.isTrue 9000 inp = true := by kernel_rfl
theorem run111 : Sim.runsG Tryd.prog [] k111 8 Sim.isTrue 9000 inp = true := by kernel_rfl
theorem run112 : Sim.runsG Tryd.prog [] k112 8 Sim.isTrue 9000 inp = true := by kernel_rfl
theorem run113 : Sim.runsG Tryd.prog [] k113 8 Sim.isTrue 9000 inp = true := by kernel_rfl
theorem run114 : Sim.runsG Tryd.prog [] k114 8 Sim.isTrue 9000 inp = true := by kernel_rfl
theorem run115 : Sim.runsG Tryd.prog [] k115 8 Sim.isTrue 9000 inp = true := by kernel_rfl
theorem run116 : Sim.runsG Tryd.prog [] k116 8 Sim.isTrue 9000 inp = true := by kernel_rfl
theorem run117 : Sim.runsG Tryd.prog [] k117 8 Sim.isTrue 9000 inp = true := by kernel_rfl
theorem run118 : Sim.runsG Tryd.prog [] k118 8 Sim.isTrue 9000 inp = true := by kernel_rfl
theorem run119 : Sim.runsG Tryd.prog [] k119 8 Sim.isTrue 9000 inp = true := by kernel_rfl
theorem run120 : Sim.runsG Tryd.prog [] k120 8 Sim.isTrue 9000 inp = true := by kernel_rfl
theorem run121 : Sim.runsG Tryd.prog [] k121 8 Sim.isTrue 9000 inp = true := by kernel_rfl
theorem run122 : Sim.runsG Tryd.prog [] k122 8 Sim.isTrue 9000 inp = true := by kernel_rfl
theorem run123 : Sim.runsG Tryd.prog [] k123 8 Sim.isTrue 9000 inp = true := by kernel_rfl
theorem run124 : Sim.runsG Tryd.prog [] k124 8 Sim.isTrue 9000 inp = true := by kernel_rfl
end Go.Proofs.YtkmgimkbcnmjmaaDoor.flagsGrants
