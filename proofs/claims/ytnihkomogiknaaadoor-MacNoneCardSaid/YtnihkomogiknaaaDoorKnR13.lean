/- a run of the abstract machine in pieces (watchword, known()): pieces. No conditions. -/
import Derived.Test.YtnihkomogiknaaaDoorKnS1
import Derived.KernelRfl
namespace Go.Proofs.YtnihkomogiknaaaDoor.kn
open Go.RowKit Go.Sim
set_option linter.unusedVariables false
set_option maxRecDepth 100000
theorem seg13 : runG Tryd.prog 4 Sim.isTrue 36000 fr13 cs13 h13 = true := by kernel_rfl

end Go.Proofs.YtnihkomogiknaaaDoor.kn
