/- a run of the abstract machine in pieces (watchword, known()): pieces. No conditions. -/
import Derived.Test.YtnihkomogiknaaaDoorKnS1
import Derived.KernelRfl
namespace Go.Proofs.YtnihkomogiknaaaDoor.kn
open Go.RowKit Go.Sim
set_option linter.unusedVariables false
set_option maxRecDepth 100000
theorem seg0 : (fun R : Run => runsR Tryd.prog fx noF 4 [] (Sim.runN Tryd.prog 4 Sim.isTrue 36000 (keepR [0, 1, 2, 3, 4, 5, 12, 14, 245, 246, 247, 248, 249, 250, 251, 252, 253, 254, 255, 282, 290, 389, 395, 396] R))) = fun R => R fr1 cs1 h1 := by kernel_rfl

end Go.Proofs.YtnihkomogiknaaaDoor.kn
