/- a run of the abstract machine in pieces (watchword, known()): pieces. No conditions. -/
import Derived.Test.YtbofnfbkjangiaaGreatDoorKnS1
import Derived.KernelRfl
namespace Go.Proofs.YtbofnfbkjangiaaGreatDoor.kn
open Go.RowKit Go.Sim
set_option linter.unusedVariables false
set_option maxRecDepth 100000
theorem seg9 : (fun R : Run => Sim.runN Tryz.prog 6 Sim.isTrue 30000 (keepR [0, 21, 28, 29, 30, 31, 38, 39, 40, 41, 42, 43, 44, 45, 49, 55, 56, 316, 1211, 1895, 1896, 1897, 1900, 1901, 1902, 1911, 1913, 2151, 2152, 2153, 2154, 2155, 2156, 2157, 2158, 2159, 2160, 2161, 2162, 2163, 2164, 2165, 2168, 2169, 2170, 2171, 2172, 2460, 2461, 2462, 2463, 2465, 2466] R) fr9 cs9 h9) = fun R => R fr10 cs10 h10 := by kernel_rfl

end Go.Proofs.YtbofnfbkjangiaaGreatDoor.kn
