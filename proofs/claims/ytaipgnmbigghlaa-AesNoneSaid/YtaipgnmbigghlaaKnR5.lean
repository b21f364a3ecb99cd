/- a run of the abstract machine in pieces (watchword, known()): pieces. No conditions. -/
import Derived.Test.YtaipgnmbigghlaaKnS0
import Derived.KernelRfl
namespace Go.Proofs.Ytaipgnmbigghlaa.kn
open Go.RowKit Go.Sim
set_option linter.unusedVariables false
set_option maxRecDepth 100000
theorem seg20 : (fun R : Run => Sim.runN Try.prog 4 Sim.isTrue 10150 (keepR [0, 1, 4, 25, 26] R) fr20 cs20 h20) = fun R => R fr21 cs21 h21 := by kernel_rfl
theorem seg21 : (fun R : Run => Sim.runN Try.prog 4 Sim.isTrue 10150 (keepR [0, 1, 4, 25, 26] R) fr21 cs21 h21) = fun R => R fr22 cs22 h22 := by kernel_rfl
theorem seg22 : (fun R : Run => Sim.runN Try.prog 4 Sim.isTrue 10150 (keepR [0, 1, 4, 27, 28] R) fr22 cs22 h22) = fun R => R fr23 cs23 h23 := by kernel_rfl
theorem seg23 : (fun R : Run => Sim.runN Try.prog 4 Sim.isTrue 10150 (keepR [0, 1, 4, 27, 28] R) fr23 cs23 h23) = fun R => R fr24 cs24 h24 := by kernel_rfl

end Go.Proofs.Ytaipgnmbigghlaa.kn
