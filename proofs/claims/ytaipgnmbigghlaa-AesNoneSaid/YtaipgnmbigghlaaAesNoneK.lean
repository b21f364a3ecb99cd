/- AesNone (watchword): the unknown arguments, the call that is not entered, and the run. No conditions. -/
import Derived.Test.YtaipgnmbigghlaaSymE
import Derived.Test.YtaipgnmbigghlaaProg
import Derived.KernelRfl
namespace Go.Proofs.Ytaipgnmbigghlaa.aesNone
open Go.RowKit
noncomputable def shp : List (Bool × List Value) := [(false, [(.chan (some 21))])]
noncomputable def els : List (Nat × TypeId × List Value) := [(0, (5, [(.chan (some 4))]))]
noncomputable def con : List (FuncId × List Sim.CP × Value) := [(4, [], .bool true)]
theorem runL : Sim.runsG Try.prog [] (Sim.factsW shp con els 0) 3 Sim.isTrue 3000 (Sim.argsV 0 shp) = true := by kernel_rfl
end Go.Proofs.Ytaipgnmbigghlaa.aesNone
