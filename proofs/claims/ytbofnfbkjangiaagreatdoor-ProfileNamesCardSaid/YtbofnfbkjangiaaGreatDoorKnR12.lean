/- a run of the abstract machine in pieces (watchword, known()): pieces. No conditions. -/
import Derived.Test.YtbofnfbkjangiaaGreatDoorKnS2
import Derived.KernelRfl
namespace Go.Proofs.YtbofnfbkjangiaaGreatDoor.kn
open Go.RowKit Go.Sim
set_option linter.unusedVariables false
set_option maxRecDepth 100000
theorem seg12 : (fun R : Run => Sim.runN Tryz.prog 6 Sim.isTrue 30150 (keepR [0, 21, 28, 29, 30, 31, 38, 39, 40, 41, 42, 43, 44, 45, 49, 55, 56, 316, 1211, 2154, 2980, 2981, 2982, 2989, 2991, 3222, 3223, 3224, 3225, 3226, 3227, 3228, 3229, 3230, 3231, 3232, 3250, 3258, 3357, 3432, 3433] R) fr12 cs12 h12) = fun R => R fr13 cs13 h13 := by kernel_rfl

end Go.Proofs.YtbofnfbkjangiaaGreatDoor.kn
