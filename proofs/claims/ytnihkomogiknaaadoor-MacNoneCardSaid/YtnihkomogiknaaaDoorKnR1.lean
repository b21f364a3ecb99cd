/- a run of the abstract machine in pieces (watchword, known()): pieces. No conditions. -/
import Derived.Test.YtnihkomogiknaaaDoorKnS1
import Derived.KernelRfl
namespace Go.Proofs.YtnihkomogiknaaaDoor.kn
open Go.RowKit Go.Sim
set_option linter.unusedVariables false
set_option maxRecDepth 100000
theorem seg1 : (fun R : Run => Sim.runN Tryd.prog 4 Sim.isTrue 36000 (keepR [0, 1, 2, 3, 4, 5, 12, 14, 245, 246, 247, 521, 522, 523, 524, 624, 740, 741] R) fr1 cs1 h1) = fun R => R fr2 cs2 h2 := by kernel_rfl

end Go.Proofs.YtnihkomogiknaaaDoor.kn
