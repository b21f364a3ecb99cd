/- a run of the abstract machine in pieces (watchword, known()): pieces. No conditions. -/
import Derived.Test.YtjoacppfpopopaaDoorKnS0
import Derived.KernelRfl
namespace Go.Proofs.YtjoacppfpopopaaDoor.kn
open Go.RowKit Go.Sim
set_option linter.unusedVariables false
set_option maxRecDepth 100000
theorem seg9 : (fun R : Run => Sim.runN Tryd.prog 4 Sim.isTrue 34000 (keepR [0, 1, 1049, 1050, 1051, 1054, 1058, 3167, 3168, 3169, 3170, 3171, 3172, 3179, 3181, 3410, 3411, 3412, 3413, 3414, 3415, 3416, 3417, 3418, 3419, 3420, 3474, 3482, 3581, 3688, 3689] R) fr9 cs9 h9) = fun R => R fr10 cs10 h10 := by kernel_rfl

end Go.Proofs.YtjoacppfpopopaaDoor.kn
