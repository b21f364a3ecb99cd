/- a run of the abstract machine in pieces (watchword, known()): pieces. No conditions. -/
import Derived.Test.YtbofnfbkjangiaaGreatDoorKnS0
import Derived.KernelRfl
namespace Go.Proofs.YtbofnfbkjangiaaGreatDoor.kn
open Go.RowKit Go.Sim
set_option linter.unusedVariables false
set_option maxRecDepth 100000
theorem seg2 : (fun R : Run => Sim.runN Tryz.prog 6 Sim.isTrue 30150 (keepR [0, 21, 28, 29, 30, 31, 38, 39, 40, 41, 42, 43, 44, 45, 49, 55, 56, 57, 58, 59, 62, 63, 64, 73, 75, 313, 314, 315, 316, 317, 318, 319, 320, 321, 322, 323, 324, 325, 326, 327, 330, 331, 332, 333, 334, 622, 623, 624, 625, 854, 855, 856, 857, 858, 859, 860, 861, 862, 863, 886, 894, 993, 1053, 1054] R) fr2 cs2 h2) = fun R => R fr3 cs3 h3 := by kernel_rfl

end Go.Proofs.YtbofnfbkjangiaaGreatDoor.kn
