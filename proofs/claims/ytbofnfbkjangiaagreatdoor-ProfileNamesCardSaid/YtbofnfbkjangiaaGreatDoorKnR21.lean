/- a run of the abstract machine in pieces (watchword, known()): pieces. No conditions. -/
import Derived.Test.YtbofnfbkjangiaaGreatDoorKnS4
import Derived.KernelRfl
namespace Go.Proofs.YtbofnfbkjangiaaGreatDoor.kn
open Go.RowKit Go.Sim
set_option linter.unusedVariables false
set_option maxRecDepth 100000
theorem seg21 : (fun R : Run => Sim.runN Tryz.prog 6 Sim.isTrue 30150 (keepR [0, 21, 28, 29, 30, 31, 38, 39, 40, 41, 42, 43, 3998, 3999, 4000, 4001, 4002, 4003, 4004, 4008, 4014, 4015, 4275, 6153, 6154, 6155, 6156, 6157, 6160, 6161, 6162, 6163, 6164, 6171, 6172, 6173, 6273, 6366, 6367] R) fr21 cs21 h21) = fun R => R fr22 cs22 h22 := by kernel_rfl

end Go.Proofs.YtbofnfbkjangiaaGreatDoor.kn
