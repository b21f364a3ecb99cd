/- a run of the abstract machine in pieces (watchword, known()): pieces. No conditions. -/
import Derived.Test.YtjoacppfpopopaaDoorKnS0
import Derived.KernelRfl
namespace Go.Proofs.YtjoacppfpopopaaDoor.kn
open Go.RowKit Go.Sim
set_option linter.unusedVariables false
set_option maxRecDepth 100000
theorem seg7 : (fun R : Run => Sim.runN Tryd.prog 4 Sim.isTrue 34300 (keepR [0, 1, 1049, 1050, 1051, 1054, 1055, 1056, 1057, 1058, 1059, 1060, 1061, 1062, 2114, 2115, 2116, 2117, 2118, 2119, 2120, 2121, 2122, 2123, 2124, 2131, 2133, 2364, 2365, 2366, 2663, 2664, 2665, 2666, 2895, 2896, 2897, 2898, 2899, 2900, 2901, 2902, 2903, 2904, 2927, 2935, 2936, 2937] R) fr7 cs7 h7) = fun R => R fr8 cs8 h8 := by kernel_rfl

end Go.Proofs.YtjoacppfpopopaaDoor.kn
