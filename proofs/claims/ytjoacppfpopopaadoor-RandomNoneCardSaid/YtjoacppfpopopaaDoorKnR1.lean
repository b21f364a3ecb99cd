/- a run of the abstract machine in pieces (watchword, known()): pieces. No conditions. -/
import Derived.Test.YtjoacppfpopopaaDoorKnS0
import Derived.KernelRfl
namespace Go.Proofs.YtjoacppfpopopaaDoor.kn
open Go.RowKit Go.Sim
set_option linter.unusedVariables false
set_option maxRecDepth 100000
theorem seg1 : (fun R : Run => Sim.runN Tryd.prog 4 Sim.isTrue 34150 (keepR [0, 1, 2, 3, 4, 11, 13, 242, 243, 244, 545, 546, 547, 548, 648, 729, 730] R) fr1 cs1 h1) = fun R => R fr2 cs2 h2 := by kernel_rfl

end Go.Proofs.YtjoacppfpopopaaDoor.kn
