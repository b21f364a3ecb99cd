/- a run of the abstract machine in pieces (watchword, known()): pieces. No conditions. -/
import Derived.Test.YtjoacppfpopopaaDoorKnS1
import Derived.KernelRfl
namespace Go.Proofs.YtjoacppfpopopaaDoor.kn
open Go.RowKit Go.Sim
set_option linter.unusedVariables false
set_option maxRecDepth 100000
theorem seg24 : (fun R : Run => Sim.runN Tryd.prog 4 Sim.isTrue 34000 (keepR [0, 1, 1049, 1050, 1051, 1058, 4220, 7378, 7382, 8439, 8440, 8441, 8442, 8443, 8444, 8451, 8453, 8682, 8683, 8684, 8985, 8986, 8987, 8988, 9088, 9165, 9166] R) fr24 cs24 h24) = fun R => R fr25 cs25 h25 := by kernel_rfl

end Go.Proofs.YtjoacppfpopopaaDoor.kn
