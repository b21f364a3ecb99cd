/- a run of the abstract machine in pieces (watchword, known()): pieces. No conditions. -/
import Derived.Test.YtnihkomogiknaaaDoorKnS1
import Derived.KernelRfl
namespace Go.Proofs.YtnihkomogiknaaaDoor.kn
open Go.RowKit Go.Sim
set_option linter.unusedVariables false
set_option maxRecDepth 100000
theorem seg5 : (fun R : Run => Sim.runN Tryd.prog 4 Sim.isTrue 36150 (keepR [0, 1, 2, 3, 4, 1024, 2043, 2044, 2045, 2046, 2047, 2048, 2055, 2056, 2057, 2157, 2244, 2245] R) fr5 cs5 h5) = fun R => R fr6 cs6 h6 := by kernel_rfl

end Go.Proofs.YtnihkomogiknaaaDoor.kn
