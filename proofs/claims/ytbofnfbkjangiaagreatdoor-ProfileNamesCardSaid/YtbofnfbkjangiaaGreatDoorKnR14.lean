/- a run of the abstract machine in pieces (watchword, known()): pieces. No conditions. -/
import Derived.Test.YtbofnfbkjangiaaGreatDoorKnS2
import Derived.KernelRfl
namespace Go.Proofs.YtbofnfbkjangiaaGreatDoor.kn
open Go.RowKit Go.Sim
set_option linter.unusedVariables false
set_option maxRecDepth 100000
theorem seg14 : (fun R : Run => Sim.runN Tryz.prog 6 Sim.isTrue 30450 (keepR [0, 21, 28, 29, 30, 31, 38, 39, 40, 41, 42, 43, 3998, 3999, 4000, 4001, 4002, 4003, 4004, 4008, 4014, 4015, 4016, 4017, 4018, 4021, 4022, 4023, 4024, 4025, 4032, 4033, 4034, 4036, 4037] R) fr14 cs14 h14) = fun R => R fr15 cs15 h15 := by kernel_rfl

end Go.Proofs.YtbofnfbkjangiaaGreatDoor.kn
