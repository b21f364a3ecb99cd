/- a run of the abstract machine in pieces (watchword, known()): pieces. No conditions. -/
import Derived.Test.YtbofnfbkjangiaaGreatDoorKnS2
import Derived.KernelRfl
namespace Go.Proofs.YtbofnfbkjangiaaGreatDoor.kn
open Go.RowKit Go.Sim
set_option linter.unusedVariables false
set_option maxRecDepth 100000
theorem seg13 : (fun R : Run => Sim.runN Tryz.prog 6 Sim.isTrue 30000 (keepR [0, 21, 28, 29, 30, 31, 38, 39, 40, 41, 42, 43, 44, 45, 49, 55, 56, 316, 1211, 2154, 2980, 2981, 2982, 2989, 2991, 3222, 3223, 3224, 3489, 3490, 3491, 3492, 3721, 3722, 3723, 3724, 3725, 3726] R) fr13 cs13 h13) = fun R => R fr14 cs14 h14 := by kernel_rfl

end Go.Proofs.YtbofnfbkjangiaaGreatDoor.kn
