/- a run of the abstract machine in pieces (watchword, known()): pieces. No conditions. -/
import Derived.Test.YtnihkomogiknaaaDoorKnS1
import Derived.KernelRfl
namespace Go.Proofs.YtnihkomogiknaaaDoor.kn
open Go.RowKit Go.Sim
set_option linter.unusedVariables false
set_option maxRecDepth 100000
theorem seg4 : (fun R : Run => Sim.runN Tryd.prog 4 Sim.isTrue 36150 (keepR [0, 1, 2, 3, 4, 1024, 1025, 1032, 1034, 1263, 1264, 1265, 1539, 1540, 1541, 1542, 1771, 1772, 1773, 1774, 1775, 1776, 1777, 1778, 1779, 1780, 1803, 1811, 1812, 1813] R) fr4 cs4 h4) = fun R => R fr5 cs5 h5 := by kernel_rfl

end Go.Proofs.YtnihkomogiknaaaDoor.kn
