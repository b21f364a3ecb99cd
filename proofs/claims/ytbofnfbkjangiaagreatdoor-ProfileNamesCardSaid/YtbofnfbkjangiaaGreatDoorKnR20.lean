/- a run of the abstract machine in pieces (watchword, known()): pieces. No conditions. -/
import Derived.Test.YtbofnfbkjangiaaGreatDoorKnS4
import Derived.KernelRfl
namespace Go.Proofs.YtbofnfbkjangiaaGreatDoor.kn
open Go.RowKit Go.Sim
set_option linter.unusedVariables false
set_option maxRecDepth 100000
theorem seg20 : (fun R : Run => Sim.runN Tryz.prog 6 Sim.isTrue 30150 (keepR [0, 21, 28, 29, 30, 31, 38, 39, 40, 41, 42, 43, 3998, 3999, 4000, 4001, 4002, 4003, 4004, 4008, 4014, 4015, 4275, 5117, 5118, 5119, 5120, 5121, 5122, 5123, 5130, 5132, 5363, 5364, 5365, 5647, 5648, 5649, 5650, 5879, 5880, 5881, 5882, 5883, 5884, 5885, 5886, 5887, 5888, 5911, 5919, 6018, 6074, 6075] R) fr20 cs20 h20) = fun R => R fr21 cs21 h21 := by kernel_rfl

end Go.Proofs.YtbofnfbkjangiaaGreatDoor.kn
