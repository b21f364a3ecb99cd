/- a run of the abstract machine in pieces (watchword, known()): pieces. No conditions. -/
import Derived.Test.YtnihkomogiknaaaDoorKnS1
import Derived.KernelRfl
namespace Go.Proofs.YtnihkomogiknaaaDoor.kn
open Go.RowKit Go.Sim
set_option linter.unusedVariables false
set_option maxRecDepth 100000
theorem seg2 : (fun R : Run => Sim.runN Tryd.prog 4 Sim.isTrue 36000 (keepR [0, 1, 2, 3, 4, 1024, 1025, 1032, 1033, 1034, 1036, 1037] R) fr2 cs2 h2) = fun R => R fr3 cs3 h3 := by kernel_rfl

end Go.Proofs.YtnihkomogiknaaaDoor.kn
