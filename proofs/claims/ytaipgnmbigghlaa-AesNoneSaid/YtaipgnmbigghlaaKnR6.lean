/- a run of the abstract machine in pieces (watchword, known()): pieces. No conditions. -/
import Derived.Test.YtaipgnmbigghlaaKnS0
import Derived.KernelRfl
namespace Go.Proofs.Ytaipgnmbigghlaa.kn
open Go.RowKit Go.Sim
set_option linter.unusedVariables false
set_option maxRecDepth 100000
theorem seg24 : (fun R : Run => Sim.runN Try.prog 4 Sim.isTrue 10000 (keepR [0, 1, 4, 27, 28] R) fr24 cs24 h24) = fun R => R fr25 cs25 h25 := by kernel_rfl
theorem seg25 : (fun R : Run => Sim.runN Try.prog 4 Sim.isTrue 10000 (keepR [0, 1, 4, 27, 28] R) fr25 cs25 h25) = fun R => R fr26 cs26 h26 := by kernel_rfl
theorem seg26 : (fun R : Run => Sim.runN Try.prog 4 Sim.isTrue 10150 (keepR [0, 1, 4, 27, 28] R) fr26 cs26 h26) = fun R => R fr27 cs27 h27 := by kernel_rfl
theorem seg27 : (fun R : Run => Sim.runN Try.prog 4 Sim.isTrue 10150 (keepR [0, 1, 4, 27, 28] R) fr27 cs27 h27) = fun R => R fr28 cs28 h28 := by kernel_rfl

end Go.Proofs.Ytaipgnmbigghlaa.kn
