/- a run of the abstract machine in pieces (watchword, known()): pieces. No conditions. -/
import Derived.Test.YtnihkomogiknaaaDoorKnS1
import Derived.KernelRfl
namespace Go.Proofs.YtnihkomogiknaaaDoor.kn
open Go.RowKit Go.Sim
set_option linter.unusedVariables false
set_option maxRecDepth 100000
theorem seg12 : (fun R : Run => Sim.runN Tryd.prog 4 Sim.isTrue 36000 (keepR [0, 1, 2, 3, 4, 1024, 2043, 2044, 2045, 2046, 2047, 3066, 3067, 4086, 4087, 4094, 4096, 4325, 4326, 4327, 4601, 4602, 4603, 4604, 4833, 4834, 4835, 4836, 4837, 4838, 4839, 4840, 4841, 4842, 4865, 4873, 4874, 4875, 4906] R) fr12 cs12 h12) = fun R => R fr13 cs13 h13 := by kernel_rfl

end Go.Proofs.YtnihkomogiknaaaDoor.kn
