/- a run of the abstract machine in pieces (watchword, known()): pieces. No conditions. -/
import Derived.Test.YtbofnfbkjangiaaGreatDoorKnS2
import Derived.KernelRfl
namespace Go.Proofs.YtbofnfbkjangiaaGreatDoor.kn
open Go.RowKit Go.Sim
set_option linter.unusedVariables false
set_option maxRecDepth 100000
theorem seg11 : (fun R : Run => Sim.runN Tryz.prog 6 Sim.isTrue 30450 (keepR [0, 21, 28, 29, 30, 31, 38, 39, 40, 41, 42, 43, 44, 45, 49, 55, 56, 316, 1211, 2154, 2980, 2981, 2982, 2989, 2990, 2991, 3091, 3110, 3111] R) fr11 cs11 h11) = fun R => R fr12 cs12 h12 := by kernel_rfl

end Go.Proofs.YtbofnfbkjangiaaGreatDoor.kn
