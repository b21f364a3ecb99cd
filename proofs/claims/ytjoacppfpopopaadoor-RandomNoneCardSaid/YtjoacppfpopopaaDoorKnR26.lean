/- a run of the abstract machine in pieces (watchword, known()): pieces. No conditions. -/
import Derived.Test.YtjoacppfpopopaaDoorKnS1
import Derived.KernelRfl
namespace Go.Proofs.YtjoacppfpopopaaDoor.kn
open Go.RowKit Go.Sim
set_option linter.unusedVariables false
set_option maxRecDepth 100000
theorem seg26 : (fun R : Run => Sim.runN Tryd.prog 4 Sim.isTrue 34000 (keepR [0, 1, 1049, 1050, 1051, 1058, 4220, 7382, 9488, 9489, 9490, 9491, 9492, 9493, 9494, 9495, 9496, 9497, 9498, 9499, 9500, 9501, 9502, 9503, 9504, 9505, 9506, 9513, 9515, 9746, 9747, 9748, 9749, 9750, 9751, 9752, 9753, 9754, 9755, 9756, 9806, 9814, 9913, 9934, 9935] R) fr26 cs26 h26) = fun R => R fr27 cs27 h27 := by kernel_rfl

end Go.Proofs.YtjoacppfpopopaaDoor.kn
