/- a run of the abstract machine in pieces (watchword, known()): pieces. No conditions. -/
import Derived.Test.YtnihkomogiknaaaDoorKnS1
import Derived.KernelRfl
namespace Go.Proofs.YtnihkomogiknaaaDoor.kn
open Go.RowKit Go.Sim
set_option linter.unusedVariables false
set_option maxRecDepth 100000
theorem seg7 : (fun R : Run => Sim.runN Tryd.prog 4 Sim.isTrue 36150 (keepR [0, 1, 2, 3, 4, 1024, 2043, 2044, 2045, 2046, 2047, 2048, 2055, 2057, 2286, 2287, 2288, 2562, 2563, 2564, 2565, 2794, 2795, 2796, 2797, 2798, 2799, 2800, 2801, 2802, 2803, 2826, 2834, 2933, 3020, 3021] R) fr7 cs7 h7) = fun R => R fr8 cs8 h8 := by kernel_rfl

end Go.Proofs.YtnihkomogiknaaaDoor.kn
