/- a run of the abstract machine in pieces (watchword, known()): pieces. No conditions. -/
import Derived.Test.YtjoacppfpopopaaDoorKnS0
import Derived.KernelRfl
namespace Go.Proofs.YtjoacppfpopopaaDoor.kn
open Go.RowKit Go.Sim
set_option linter.unusedVariables false
set_option maxRecDepth 100000
theorem seg18 : (fun R : Run => Sim.runN Tryd.prog 4 Sim.isTrue 34000 (keepR [0, 1, 1049, 1050, 1051, 1058, 4216, 4220, 6329, 6330, 6331, 6332, 6333, 6334, 6341, 6343, 6572, 6573, 6574, 6875, 6876, 6877, 6878, 6978, 6979] R) fr18 cs18 h18) = fun R => R fr19 cs19 h19 := by kernel_rfl

end Go.Proofs.YtjoacppfpopopaaDoor.kn
