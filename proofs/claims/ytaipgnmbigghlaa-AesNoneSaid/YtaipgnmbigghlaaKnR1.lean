/- a run of the abstract machine in pieces (watchword, known()): pieces. No conditions. -/
import Derived.Test.YtaipgnmbigghlaaKnS0
import Derived.KernelRfl
namespace Go.Proofs.Ytaipgnmbigghlaa.kn
open Go.RowKit Go.Sim
set_option linter.unusedVariables false
set_option maxRecDepth 100000
theorem seg4 : (fun R : Run => Sim.runN Try.prog 4 Sim.isTrue 10150 (keepR [0, 1, 2, 3] R) fr4 cs4 h4) = fun R => R fr5 cs5 h5 := by kernel_rfl
theorem seg5 : (fun R : Run => Sim.runN Try.prog 4 Sim.isTrue 10000 (keepR [0, 1, 2, 3] R) fr5 cs5 h5) = fun R => R fr6 cs6 h6 := by kernel_rfl
theorem seg6 : (fun R : Run => Sim.runN Try.prog 4 Sim.isTrue 10150 (keepR [0, 1, 2, 3] R) fr6 cs6 h6) = fun R => R fr7 cs7 h7 := by kernel_rfl
theorem seg7 : (fun R : Run => Sim.runN Try.prog 4 Sim.isTrue 10000 (keepR [0, 1, 2, 3] R) fr7 cs7 h7) = fun R => R fr8 cs8 h8 := by kernel_rfl

end Go.Proofs.Ytaipgnmbigghlaa.kn
