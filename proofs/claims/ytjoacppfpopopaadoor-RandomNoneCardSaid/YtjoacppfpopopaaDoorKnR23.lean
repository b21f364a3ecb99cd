/- a run of the abstract machine in pieces (watchword, known()): pieces. No conditions. -/
import Derived.Test.YtjoacppfpopopaaDoorKnS0
import Derived.KernelRfl
namespace Go.Proofs.YtjoacppfpopopaaDoor.kn
open Go.RowKit Go.Sim
set_option linter.unusedVariables false
set_option maxRecDepth 100000
theorem seg23 : (fun R : Run => Sim.runN Tryd.prog 4 Sim.isTrue 34000 (keepR [0, 1, 1049, 1050, 1051, 1058, 4220, 7378, 7382, 8439, 8440, 8441, 8442, 8443, 8444, 8451, 8453, 8682, 8683, 8684, 8685, 8686, 8687, 8688, 8689, 8690, 8691, 8692, 8746, 8754, 8755, 8756, 8836] R) fr23 cs23 h23) = fun R => R fr24 cs24 h24 := by kernel_rfl

end Go.Proofs.YtjoacppfpopopaaDoor.kn
