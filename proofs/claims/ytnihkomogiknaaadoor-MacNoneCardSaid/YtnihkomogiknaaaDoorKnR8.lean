/- a run of the abstract machine in pieces (watchword, known()): pieces. No conditions. -/
import Derived.Test.YtnihkomogiknaaaDoorKnS1
import Derived.KernelRfl
namespace Go.Proofs.YtnihkomogiknaaaDoor.kn
open Go.RowKit Go.Sim
set_option linter.unusedVariables false
set_option maxRecDepth 100000
theorem seg8 : (fun R : Run => Sim.runN Tryd.prog 4 Sim.isTrue 36000 (keepR [0, 1, 2, 3, 4, 1024, 2043, 2044, 2045, 2046, 2047, 3066, 3067, 3068, 3075, 3077, 3306, 3307, 3308, 3309, 3310, 3311, 3312, 3313, 3314, 3315, 3316, 3343, 3351, 3352, 3353, 3401] R) fr8 cs8 h8) = fun R => R fr9 cs9 h9 := by kernel_rfl

end Go.Proofs.YtnihkomogiknaaaDoor.kn
