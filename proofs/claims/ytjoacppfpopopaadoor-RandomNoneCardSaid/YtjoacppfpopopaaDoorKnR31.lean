/- a run of the abstract machine in pieces (watchword, known()): pieces. No conditions. -/
import Derived.Test.YtjoacppfpopopaaDoorKnS1
import Derived.KernelRfl
namespace Go.Proofs.YtjoacppfpopopaaDoor.kn
open Go.RowKit Go.Sim
set_option linter.unusedVariables false
set_option maxRecDepth 100000
theorem seg31 : runG Tryd.prog 4 Sim.isTrue 34000 fr31 cs31 h31 = true := by kernel_rfl

end Go.Proofs.YtjoacppfpopopaaDoor.kn
