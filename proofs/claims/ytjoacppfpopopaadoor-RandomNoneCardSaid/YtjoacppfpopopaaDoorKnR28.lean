/- a run of the abstract machine in pieces (watchword, known()): pieces. No conditions. -/
import Derived.Test.YtjoacppfpopopaaDoorKnS1
import Derived.KernelRfl
namespace Go.Proofs.YtjoacppfpopopaaDoor.kn
open Go.RowKit Go.Sim
set_option linter.unusedVariables false
set_option maxRecDepth 100000
theorem seg28 : (fun R : Run => Sim.runN Tryd.prog 4 Sim.isTrue 34000 (keepR [0, 1, 1049, 1050, 1051, 1058, 4220, 7382, 9488, 10549, 10550, 10551, 10552, 10553, 10554, 10561, 10562, 10563, 10565, 10566] R) fr28 cs28 h28) = fun R => R fr29 cs29 h29 := by kernel_rfl

end Go.Proofs.YtjoacppfpopopaaDoor.kn
