/- a run of the abstract machine in pieces (watchword, known()): pieces. No conditions. -/
import Derived.Test.YtjoacppfpopopaaDoorKnS0
import Derived.KernelRfl
namespace Go.Proofs.YtjoacppfpopopaaDoor.kn
open Go.RowKit Go.Sim
set_option linter.unusedVariables false
set_option maxRecDepth 100000
theorem seg13 : (fun R : Run => Sim.runN Tryd.prog 4 Sim.isTrue 34150 (keepR [0, 1, 1049, 1050, 1051, 1058, 4216, 4217, 4218, 4219, 4220, 4221, 4222, 4223, 4224, 4225, 4226, 4227, 4228, 4229, 4230, 4231, 4232, 4233, 4234, 4241, 4243, 4474, 4475, 4476, 4773, 4774, 4775, 4776, 5005, 5006, 5007, 5008, 5009, 5010, 5011, 5012, 5013, 5014, 5037, 5045, 5144, 5162, 5163] R) fr13 cs13 h13) = fun R => R fr14 cs14 h14 := by kernel_rfl

end Go.Proofs.YtjoacppfpopopaaDoor.kn
