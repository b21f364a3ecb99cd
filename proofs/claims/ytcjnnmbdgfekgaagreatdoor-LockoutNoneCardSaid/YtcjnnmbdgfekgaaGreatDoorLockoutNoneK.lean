/- LockoutNone (watchword): the unknown arguments, the call that is not entered, and the run. No conditions. -/
import Derived.Test.YtcjnnmbdgfekgaaGreatDoorSymE
import Derived.Test.YtcjnnmbdgfekgaaGreatDoorProg
import Derived.KernelRfl
namespace Go.Proofs.YtcjnnmbdgfekgaaGreatDoor.lockoutNone
open Go.RowKit
noncomputable def shp : List (Bool × List Value) := [(true, [Sim.topL, Sim.topS]), (false, [Sim.topI .i64])]
noncomputable def els : List (Nat × TypeId × List Value) := [(0, 9, [Sim.topS])]
noncomputable def con : List (FuncId × List Sim.CP × Value) := [(10, [], .bool true)]
theorem runL : Sim.runsG Tryz.prog [] (Sim.factsW shp con els 0) 8 Sim.isTrue 6000 (Sim.argsV 0 shp) = true := by kernel_rfl
end Go.Proofs.YtcjnnmbdgfekgaaGreatDoor.lockoutNone
