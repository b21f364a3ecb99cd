/- a run of the abstract machine in pieces (watchword, known()): pieces. No conditions. -/
import Derived.Test.YtnihkomogiknaaaDoorKnS1
import Derived.KernelRfl
namespace Go.Proofs.YtnihkomogiknaaaDoor.kn
open Go.RowKit Go.Sim
set_option linter.unusedVariables false
set_option maxRecDepth 100000
theorem seg11 : (fun R : Run => Sim.runN Tryd.prog 4 Sim.isTrue 36300 (keepR [0, 1, 2, 3, 4, 1024, 2043, 2044, 2045, 2046, 2047, 3066, 3067, 4086, 4087, 4094, 4096, 4325, 4326, 4327, 4328, 4329, 4330, 4331, 4332, 4333, 4334, 4335, 4362, 4370, 4469, 4525, 4526] R) fr11 cs11 h11) = fun R => R fr12 cs12 h12 := by kernel_rfl

end Go.Proofs.YtnihkomogiknaaaDoor.kn
