/- a run of the abstract machine in pieces (watchword, known()): pieces. No conditions. -/
import Derived.Test.YtbofnfbkjangiaaGreatDoorKnS1
import Derived.KernelRfl
namespace Go.Proofs.YtbofnfbkjangiaaGreatDoor.kn
open Go.RowKit Go.Sim
set_option linter.unusedVariables false
set_option maxRecDepth 100000
theorem seg8 : (fun R : Run => Sim.runN Tryz.prog 6 Sim.isTrue 30000 (keepR [0, 21, 28, 29, 30, 31, 38, 39, 40, 41, 42, 43, 44, 45, 49, 55, 56, 316, 1211, 1895, 1896, 1897, 1900, 1901, 1902, 1903, 1904, 1911, 1912, 1913, 2013, 2101, 2102] R) fr8 cs8 h8) = fun R => R fr9 cs9 h9 := by kernel_rfl

end Go.Proofs.YtbofnfbkjangiaaGreatDoor.kn
