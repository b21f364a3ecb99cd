/- a run of the abstract machine in pieces (watchword, known()): pieces. No conditions. -/
import Derived.Test.YtjoacppfpopopaaDoorKnS1
import Derived.KernelRfl
namespace Go.Proofs.YtjoacppfpopopaaDoor.kn
open Go.RowKit Go.Sim
set_option linter.unusedVariables false
set_option maxRecDepth 100000
theorem seg27 : (fun R : Run => Sim.runN Tryd.prog 4 Sim.isTrue 34150 (keepR [0, 1, 1049, 1050, 1051, 1058, 4220, 7382, 9488, 9489, 9490, 9491, 9492, 9493, 9494, 9495, 9496, 9497, 9498, 9499, 9500, 9501, 9502, 9503, 9504, 9505, 9506, 9513, 9515, 9746, 9747, 9748, 10045, 10046, 10047, 10048, 10148, 10262, 10263] R) fr27 cs27 h27) = fun R => R fr28 cs28 h28 := by kernel_rfl

end Go.Proofs.YtjoacppfpopopaaDoor.kn
