/- a run of the abstract machine in pieces (watchword, known()): pieces. No conditions. -/
import Derived.Test.YtbofnfbkjangiaaGreatDoorKnS3
import Derived.KernelRfl
namespace Go.Proofs.YtbofnfbkjangiaaGreatDoor.kn
open Go.RowKit Go.Sim
set_option linter.unusedVariables false
set_option maxRecDepth 100000
theorem seg17 : (fun R : Run => Sim.runN Tryz.prog 6 Sim.isTrue 30150 (keepR [0, 21, 28, 29, 30, 31, 38, 39, 40, 41, 42, 43, 3998, 3999, 4000, 4001, 4002, 4003, 4004, 4008, 4014, 4015, 4016, 4017, 4018, 4021, 4022, 4023, 4032, 4034, 4272, 4273, 4274, 4275, 4276, 4277, 4278, 4279, 4280, 4281, 4282, 4283, 4284, 4285, 4286, 4289, 4290, 4291, 4292, 4293, 4581, 4582, 4583, 4584, 4813, 4814, 4815, 4816, 4817, 4818, 4819, 4820, 4821, 4822, 4845, 4853, 4952, 5072, 5073] R) fr17 cs17 h17) = fun R => R fr18 cs18 h18 := by kernel_rfl

end Go.Proofs.YtbofnfbkjangiaaGreatDoor.kn
