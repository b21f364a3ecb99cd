/- a run of the abstract machine in pieces (watchword, known()): pieces. No conditions. -/
import Derived.Test.YtjoacppfpopopaaDoorKnS0
import Derived.KernelRfl
namespace Go.Proofs.YtjoacppfpopopaaDoor.kn
open Go.RowKit Go.Sim
set_option linter.unusedVariables false
set_option maxRecDepth 100000
theorem seg11 : (fun R : Run => Sim.runN Tryd.prog 4 Sim.isTrue 34300 (keepR [0, 1, 1049, 1050, 1051, 1058, 4216, 4217, 4218, 4219, 4220, 4221, 4222, 4223, 4224, 4225, 4226, 4227, 4228, 4229, 4230, 4231, 4232, 4233, 4234, 4241, 4242, 4243, 4343, 4399, 4400] R) fr11 cs11 h11) = fun R => R fr12 cs12 h12 := by kernel_rfl

end Go.Proofs.YtjoacppfpopopaaDoor.kn
