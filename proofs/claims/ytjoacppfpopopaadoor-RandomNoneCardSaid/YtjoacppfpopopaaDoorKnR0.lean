/- a run of the abstract machine in pieces (watchword, known()): pieces. No conditions. -/
import Derived.Test.YtjoacppfpopopaaDoorKnS0
import Derived.KernelRfl
namespace Go.Proofs.YtjoacppfpopopaaDoor.kn
open Go.RowKit Go.Sim
set_option linter.unusedVariables false
set_option maxRecDepth 100000
theorem seg0 : (fun R : Run => runsR Tryd.prog fx noF 4 [] (Sim.runN Tryd.prog 4 Sim.isTrue 34300 (keepR [0, 1, 2, 3, 4, 11, 13, 242, 243, 244, 245, 246, 247, 248, 249, 250, 251, 252, 306, 314, 315, 316] R))) = fun R => R fr1 cs1 h1 := by kernel_rfl

end Go.Proofs.YtjoacppfpopopaaDoor.kn
