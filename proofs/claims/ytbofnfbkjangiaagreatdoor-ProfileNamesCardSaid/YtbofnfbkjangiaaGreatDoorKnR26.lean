/- a run of the abstract machine in pieces (watchword, known()): pieces. No conditions. -/
import Derived.Test.YtbofnfbkjangiaaGreatDoorKnS5
import Derived.KernelRfl
namespace Go.Proofs.YtbofnfbkjangiaaGreatDoor.kn
open Go.RowKit Go.Sim
set_option linter.unusedVariables false
set_option maxRecDepth 100000
theorem seg26 : (fun R : Run => Sim.runN Tryz.prog 6 Sim.isTrue 30000 (keepR [0, 21, 28, 29, 30, 31, 38, 39, 40, 41, 42, 43, 3998, 3999, 4000, 4001, 4002, 4003, 4004, 4008, 4014, 4015, 4275, 6153, 6154, 6414, 7256, 7257, 7264, 7266, 7495, 7496, 7497, 7778, 7779, 7780, 7781, 8010, 8011, 8012, 8013, 8014, 8015, 8016, 8017, 8018, 8019, 8042, 8050, 8051, 8052] R) fr26 cs26 h26) = fun R => R fr27 cs27 h27 := by kernel_rfl

end Go.Proofs.YtbofnfbkjangiaaGreatDoor.kn
