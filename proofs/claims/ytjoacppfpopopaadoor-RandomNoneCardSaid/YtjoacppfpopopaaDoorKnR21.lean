/- a run of the abstract machine in pieces (watchword, known()): pieces. No conditions. -/
import Derived.Test.YtjoacppfpopopaaDoorKnS0
import Derived.KernelRfl
namespace Go.Proofs.YtjoacppfpopopaaDoor.kn
open Go.RowKit Go.Sim
set_option linter.unusedVariables false
set_option maxRecDepth 100000
theorem seg21 : (fun R : Run => Sim.runN Tryd.prog 4 Sim.isTrue 34300 (keepR [0, 1, 1049, 1050, 1051, 1058, 4220, 7378, 7379, 7380, 7381, 7382, 7383, 7384, 7385, 7386, 7387, 7388, 7389, 7390, 7391, 7392, 7393, 7394, 7395, 7396, 7403, 7405, 7636, 7637, 7638, 7935, 7936, 7937, 7938, 8038, 8080, 8081] R) fr21 cs21 h21) = fun R => R fr22 cs22 h22 := by kernel_rfl

end Go.Proofs.YtjoacppfpopopaaDoor.kn
