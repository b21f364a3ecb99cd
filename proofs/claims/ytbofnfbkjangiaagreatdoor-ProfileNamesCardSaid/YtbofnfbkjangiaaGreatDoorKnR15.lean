/- a run of the abstract machine in pieces (watchword, known()): pieces. No conditions. -/
import Derived.Test.YtbofnfbkjangiaaGreatDoorKnS3
import Derived.KernelRfl
namespace Go.Proofs.YtbofnfbkjangiaaGreatDoor.kn
open Go.RowKit Go.Sim
set_option linter.unusedVariables false
set_option maxRecDepth 100000
theorem seg15 : (fun R : Run => Sim.runN Tryz.prog 6 Sim.isTrue 30600 (keepR [0, 21, 28, 29, 30, 31, 38, 39, 40, 41, 42, 43, 3998, 3999, 4000, 4001, 4002, 4003, 4004, 4008, 4014, 4015, 4016, 4017, 4018, 4021, 4022, 4023, 4032, 4034, 4272, 4273, 4274, 4275, 4276, 4277, 4278, 4279, 4280, 4281, 4282, 4283, 4284, 4285, 4286, 4289, 4290, 4291, 4292, 4293, 4294, 4295, 4296, 4297, 4298, 4299, 4300, 4301, 4342, 4350, 4449, 4456, 4457] R) fr15 cs15 h15) = fun R => R fr16 cs16 h16 := by kernel_rfl

end Go.Proofs.YtbofnfbkjangiaaGreatDoor.kn
