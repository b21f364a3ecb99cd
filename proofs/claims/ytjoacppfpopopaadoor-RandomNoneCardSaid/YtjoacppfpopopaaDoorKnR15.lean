/- a run of the abstract machine in pieces (watchword, known()): pieces. No conditions. -/
import Derived.Test.YtjoacppfpopopaaDoorKnS0
import Derived.KernelRfl
namespace Go.Proofs.YtjoacppfpopopaaDoor.kn
open Go.RowKit Go.Sim
set_option linter.unusedVariables false
set_option maxRecDepth 100000
theorem seg15 : (fun R : Run => Sim.runN Tryd.prog 4 Sim.isTrue 34300 (keepR [0, 1, 1049, 1050, 1051, 1058, 4216, 4217, 4218, 4219, 4220, 4221, 4222, 4223, 4224, 5276, 5277, 5278, 5279, 5280, 5281, 5282, 5283, 5284, 5285, 5286, 5293, 5295, 5526, 5527, 5528, 5825, 5826, 5827, 5828, 5830, 5831] R) fr15 cs15 h15) = fun R => R fr16 cs16 h16 := by kernel_rfl

end Go.Proofs.YtjoacppfpopopaaDoor.kn
