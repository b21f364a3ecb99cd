/- a run of the abstract machine in pieces (watchword, known()): pieces. No conditions. -/
import Derived.Test.YtjoacppfpopopaaDoorKnS0
import Derived.KernelRfl
namespace Go.Proofs.YtjoacppfpopopaaDoor.kn
open Go.RowKit Go.Sim
set_option linter.unusedVariables false
set_option maxRecDepth 100000
theorem seg10 : (fun R : Run => Sim.runN Tryd.prog 4 Sim.isTrue 34000 (keepR [0, 1, 1049, 1050, 1051, 1054, 1058, 3167, 3168, 3169, 3170, 3171, 3172, 3179, 3181, 3410, 3411, 3412, 3713, 3714, 3715, 3716, 3945, 3946, 3947, 3948, 3949, 3950, 3951, 3952, 3953, 3954, 3977, 3985, 3986, 3987, 4059] R) fr10 cs10 h10) = fun R => R fr11 cs11 h11 := by kernel_rfl

end Go.Proofs.YtjoacppfpopopaaDoor.kn
