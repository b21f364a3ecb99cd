/- a run of the abstract machine in pieces (watchword, known()): pieces. No conditions. -/
import Derived.Test.YtbofnfbkjangiaaGreatDoorKnS4
import Derived.KernelRfl
namespace Go.Proofs.YtbofnfbkjangiaaGreatDoor.kn
open Go.RowKit Go.Sim
set_option linter.unusedVariables false
set_option maxRecDepth 100000
theorem seg24 : (fun R : Run => Sim.runN Tryz.prog 6 Sim.isTrue 30300 (keepR [0, 21, 28, 29, 30, 31, 38, 39, 40, 41, 42, 43, 3998, 3999, 4000, 4001, 4002, 4003, 4004, 4008, 4014, 4015, 4275, 6153, 6154, 6414, 7256, 7257, 7264, 7265, 7266, 7366, 7389, 7390] R) fr24 cs24 h24) = fun R => R fr25 cs25 h25 := by kernel_rfl

end Go.Proofs.YtbofnfbkjangiaaGreatDoor.kn
