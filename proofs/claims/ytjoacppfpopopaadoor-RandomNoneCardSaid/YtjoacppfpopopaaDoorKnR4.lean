/- a run of the abstract machine in pieces (watchword, known()): pieces. No conditions. -/
import Derived.Test.YtjoacppfpopopaaDoorKnS0
import Derived.KernelRfl
namespace Go.Proofs.YtjoacppfpopopaaDoor.kn
open Go.RowKit Go.Sim
set_option linter.unusedVariables false
set_option maxRecDepth 100000
theorem seg4 : (fun R : Run => Sim.runN Tryd.prog 4 Sim.isTrue 34300 (keepR [0, 1, 1049, 1050, 1051, 1054, 1055, 1056, 1057, 1058, 1059, 1060, 1061, 1062, 1063, 1064, 1065, 1066, 1067, 1068, 1069, 1070, 1071, 1072, 1079, 1081, 1312, 1313, 1314, 1611, 1612, 1613, 1614, 1714, 1832, 1833] R) fr4 cs4 h4) = fun R => R fr5 cs5 h5 := by kernel_rfl

end Go.Proofs.YtjoacppfpopopaaDoor.kn
