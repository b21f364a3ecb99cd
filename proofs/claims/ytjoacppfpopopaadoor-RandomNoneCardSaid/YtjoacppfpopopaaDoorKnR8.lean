/- a run of the abstract machine in pieces (watchword, known()): pieces. No conditions. -/
import Derived.Test.YtjoacppfpopopaaDoorKnS0
import Derived.KernelRfl
namespace Go.Proofs.YtjoacppfpopopaaDoor.kn
open Go.RowKit Go.Sim
set_option linter.unusedVariables false
set_option maxRecDepth 100000
theorem seg8 : (fun R : Run => Sim.runN Tryd.prog 4 Sim.isTrue 34300 (keepR [0, 1, 1049, 1050, 1051, 1054, 1058, 3167, 3168, 3169, 3170, 3171, 3172, 3179, 3180, 3181, 3281, 3299, 3300] R) fr8 cs8 h8) = fun R => R fr9 cs9 h9 := by kernel_rfl

end Go.Proofs.YtjoacppfpopopaaDoor.kn
