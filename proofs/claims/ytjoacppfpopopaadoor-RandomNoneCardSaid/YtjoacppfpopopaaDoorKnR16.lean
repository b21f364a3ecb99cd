/- a run of the abstract machine in pieces (watchword, known()): pieces. No conditions. -/
import Derived.Test.YtjoacppfpopopaaDoorKnS0
import Derived.KernelRfl
namespace Go.Proofs.YtjoacppfpopopaaDoor.kn
open Go.RowKit Go.Sim
set_option linter.unusedVariables false
set_option maxRecDepth 100000
theorem seg16 : (fun R : Run => Sim.runN Tryd.prog 4 Sim.isTrue 34000 (keepR [0, 1, 1049, 1050, 1051, 1058, 4216, 4217, 4218, 4219, 4220, 4221, 4222, 4223, 4224, 5276, 5277, 5278, 5279, 5280, 5281, 5282, 5283, 5284, 5285, 5286, 5293, 5295, 5526, 5527, 5528, 5825, 5826, 5827, 5828, 6057, 6058, 6059, 6060, 6061, 6062, 6063, 6064, 6065, 6066, 6089, 6097, 6196, 6252, 6253] R) fr16 cs16 h16) = fun R => R fr17 cs17 h17 := by kernel_rfl

end Go.Proofs.YtjoacppfpopopaaDoor.kn
