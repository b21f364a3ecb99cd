/- a run of the abstract machine in pieces (watchword, known()): pieces. No conditions. -/
import Derived.Test.YtbofnfbkjangiaaGreatDoorKnS4
import Derived.KernelRfl
namespace Go.Proofs.YtbofnfbkjangiaaGreatDoor.kn
open Go.RowKit Go.Sim
set_option linter.unusedVariables false
set_option maxRecDepth 100000
theorem seg22 : (fun R : Run => Sim.runN Tryz.prog 6 Sim.isTrue 30150 (keepR [0, 21, 28, 29, 30, 31, 38, 39, 40, 41, 42, 43, 3998, 3999, 4000, 4001, 4002, 4003, 4004, 4008, 4014, 4015, 4275, 6153, 6154, 6155, 6156, 6157, 6160, 6161, 6162, 6171, 6173, 6411, 6412, 6413, 6414, 6415, 6416, 6417, 6418, 6419, 6420, 6421, 6422, 6423, 6424, 6425, 6428, 6429, 6430, 6431, 6432, 6720, 6721, 6722, 6723, 6725, 6726] R) fr22 cs22 h22) = fun R => R fr23 cs23 h23 := by kernel_rfl

end Go.Proofs.YtbofnfbkjangiaaGreatDoor.kn
