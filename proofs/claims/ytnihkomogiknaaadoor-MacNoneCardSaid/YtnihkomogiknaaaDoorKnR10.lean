/- a run of the abstract machine in pieces (watchword, known()): pieces. No conditions. -/
import Derived.Test.YtnihkomogiknaaaDoorKnS1
import Derived.KernelRfl
namespace Go.Proofs.YtnihkomogiknaaaDoor.kn
open Go.RowKit Go.Sim
set_option linter.unusedVariables false
set_option maxRecDepth 100000
theorem seg10 : (fun R : Run => Sim.runN Tryd.prog 4 Sim.isTrue 36150 (keepR [0, 1, 2, 3, 4, 1024, 2043, 2044, 2045, 2046, 2047, 3066, 3067, 4086, 4087, 4094, 4095, 4096, 4098, 4099] R) fr10 cs10 h10) = fun R => R fr11 cs11 h11 := by kernel_rfl

end Go.Proofs.YtnihkomogiknaaaDoor.kn
