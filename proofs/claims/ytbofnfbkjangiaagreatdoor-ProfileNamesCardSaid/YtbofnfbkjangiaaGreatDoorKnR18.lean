/- a run of the abstract machine in pieces (watchword, known()): pieces. No conditions. -/
import Derived.Test.YtbofnfbkjangiaaGreatDoorKnS3
import Derived.KernelRfl
namespace Go.Proofs.YtbofnfbkjangiaaGreatDoor.kn
open Go.RowKit Go.Sim
set_option linter.unusedVariables false
set_option maxRecDepth 100000
theorem seg18 : (fun R : Run => Sim.runN Tryz.prog 6 Sim.isTrue 30900 (keepR [0, 21, 28, 29, 30, 31, 38, 39, 40, 41, 42, 43, 3998, 3999, 4000, 4001, 4002, 4003, 4004, 4008, 4014, 4015, 4275, 5117, 5118, 5119, 5120, 5121, 5122, 5123, 5130, 5132, 5363, 5364, 5365, 5366, 5367, 5368, 5369, 5370, 5371, 5372, 5373, 5408, 5416, 5417, 5418] R) fr18 cs18 h18) = fun R => R fr19 cs19 h19 := by kernel_rfl

end Go.Proofs.YtbofnfbkjangiaaGreatDoor.kn
