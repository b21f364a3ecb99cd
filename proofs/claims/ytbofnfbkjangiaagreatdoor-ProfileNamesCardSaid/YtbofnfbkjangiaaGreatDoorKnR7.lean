/- a run of the abstract machine in pieces (watchword, known()): pieces. No conditions. -/
import Derived.Test.YtbofnfbkjangiaaGreatDoorKnS1
import Derived.KernelRfl
namespace Go.Proofs.YtbofnfbkjangiaaGreatDoor.kn
open Go.RowKit Go.Sim
set_option linter.unusedVariables false
set_option maxRecDepth 100000
theorem seg7 : (fun R : Run => Sim.runN Tryz.prog 6 Sim.isTrue 30750 (keepR [0, 21, 28, 29, 30, 31, 38, 39, 40, 41, 42, 43, 44, 45, 49, 55, 56, 316, 1142, 1143, 1146, 1147, 1151, 1172, 1173, 1174, 1175, 1176, 1177, 1206, 1207, 1208, 1209, 1210, 1211, 1212, 1213, 1214, 1215, 1216, 1217, 1218, 1219, 1220, 1221, 1556, 1557, 1558, 1559, 1560, 1561, 1562, 1563, 1708, 1709, 1710, 1711, 1712, 1739, 1740, 1741] R) fr7 cs7 h7) = fun R => R fr8 cs8 h8 := by kernel_rfl

end Go.Proofs.YtbofnfbkjangiaaGreatDoor.kn
