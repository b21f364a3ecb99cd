/- AuditNone (watchword): the unknown arguments, the calls that are not entered, and the runs. No conditions. -/
import Derived.Test.YtfhldodgejjniaaGreatDoorSymE
import Derived.Test.YtfhldodgejjniaaGreatDoorProg
import Derived.KernelRfl
namespace Go.Proofs.YtfhldodgejjniaaGreatDoor.auditNone
open Go.RowKit
noncomputable def shp : List (Bool × List Value) := [(true, [Sim.topI .i64, Sim.topI .i64, Sim.topL, Sim.topS, Sim.topL, Sim.topS, Sim.topL, Sim.topS, Sim.topL, Sim.topL, Sim.topI .i64, Sim.topI .i64, Sim.topI .i64, Sim.topI .i64, Sim.topL]), (false, [Sim.topI .i64])]
noncomputable def els : List (Nat × TypeId × List Value) := [(2, 9, [Sim.topS]), (4, 9, [Sim.topS]), (6, 9, [Sim.topS]), (8, 5, [Sim.topI .u8]), (9, 5, [Sim.topI .u8]), (14, 9, [Sim.topS])]
noncomputable def ta : List Sim.CP := [.agg [2, 3]]
noncomputable def tb : List Sim.CP := [.agg [4, 5]]
noncomputable def tc : List Sim.CP := [.agg [6, 7]]
noncomputable def td : List Sim.CP := [.agg [0, 1, 2, 3, 4, 5, 6, 7, 8, 9, 10, 11, 12, 13, 14]]
noncomputable def c1 : List (FuncId × List Sim.CP × Value) := [(24, tc, .chan (some 22))]
noncomputable def c2 : List (FuncId × List Sim.CP × Value) := (24, tb, .chan (some 22)) :: c1
noncomputable def c3 : List (FuncId × List Sim.CP × Value) := (24, ta, .chan (some 22)) :: c2
noncomputable def c4 : List (FuncId × List Sim.CP × Value) := (9, [], .bool true) :: c3
noncomputable def con : List (FuncId × List Sim.CP × Value) := (28, td, .chan (some 22)) :: c4
noncomputable def ia : List Value := ta.map (Sim.cpV (Sim.flatA shp))
noncomputable def ib : List Value := tb.map (Sim.cpV (Sim.flatA shp))
noncomputable def ic : List Value := tc.map (Sim.cpV (Sim.flatA shp))
noncomputable def id4 : List Value := td.map (Sim.cpV (Sim.flatA shp))
theorem runC : Sim.runsG Tryz.prog [] (Sim.factsW shp [] els 0) 24 Sim.isB 3000 ic = true := by kernel_rfl
theorem runB : Sim.runsG Tryz.prog [] (Sim.factsW shp c1 els 0) 24 Sim.isB 3000 ib = true := by kernel_rfl
theorem runA : Sim.runsG Tryz.prog [] (Sim.factsW shp c2 els 0) 24 Sim.isB 3000 ia = true := by kernel_rfl
theorem runD : Sim.runsG Tryz.prog [] (Sim.factsW shp c4 els 0) 28 Sim.isB 3000 id4 = true := by kernel_rfl
theorem runL : Sim.runsG Tryz.prog [] (Sim.factsW shp con els 0) 7 Sim.isTrue 3000 (Sim.argsV 0 shp) = true := by kernel_rfl
end Go.Proofs.YtfhldodgejjniaaGreatDoor.auditNone
