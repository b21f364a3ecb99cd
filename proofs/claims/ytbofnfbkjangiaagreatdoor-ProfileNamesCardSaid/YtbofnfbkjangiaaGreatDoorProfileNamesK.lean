/- ProfileNames (watchword): the unknown arguments, the call that is not entered, and the run. No conditions. -/
import Derived.Test.YtbofnfbkjangiaaGreatDoorSymE
import Derived.Test.YtbofnfbkjangiaaGreatDoorProg
import Derived.KernelRfl
namespace Go.Proofs.YtbofnfbkjangiaaGreatDoor.profileNames
open Go.RowKit
noncomputable def shp : List (Bool × List Value) := [(false, [(.chan (some 3))])]
noncomputable def els : List (Nat × TypeId × List Value) := []
noncomputable def con : List (FuncId × List Sim.CP × Value) := [(6, [], .bool true)]
theorem runL : Sim.runsG Tryz.prog [] (Sim.factsW shp con els 0) 3 Sim.isTrue 6000 (Sim.argsV 0 shp) = true := by kernel_rfl
end Go.Proofs.YtbofnfbkjangiaaGreatDoor.profileNames
