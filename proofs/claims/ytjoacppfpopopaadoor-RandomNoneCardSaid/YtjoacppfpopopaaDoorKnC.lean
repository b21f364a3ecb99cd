/- a run of the abstract machine in pieces (watchword, known()): the chain. No conditions. -/
import Derived.Test.YtjoacppfpopopaaDoorKnR0
import Derived.Test.YtjoacppfpopopaaDoorKnR1
import Derived.Test.YtjoacppfpopopaaDoorKnR2
import Derived.Test.YtjoacppfpopopaaDoorKnR3
import Derived.Test.YtjoacppfpopopaaDoorKnR4
import Derived.Test.YtjoacppfpopopaaDoorKnR5
import Derived.Test.YtjoacppfpopopaaDoorKnR6
import Derived.Test.YtjoacppfpopopaaDoorKnR7
import Derived.Test.YtjoacppfpopopaaDoorKnR8
import Derived.Test.YtjoacppfpopopaaDoorKnR9
import Derived.Test.YtjoacppfpopopaaDoorKnR10
import Derived.Test.YtjoacppfpopopaaDoorKnR11
import Derived.Test.YtjoacppfpopopaaDoorKnR12
import Derived.Test.YtjoacppfpopopaaDoorKnR13
import Derived.Test.YtjoacppfpopopaaDoorKnR14
import Derived.Test.YtjoacppfpopopaaDoorKnR15
import Derived.Test.YtjoacppfpopopaaDoorKnR16
import Derived.Test.YtjoacppfpopopaaDoorKnR17
import Derived.Test.YtjoacppfpopopaaDoorKnR18
import Derived.Test.YtjoacppfpopopaaDoorKnR19
import Derived.Test.YtjoacppfpopopaaDoorKnR20
import Derived.Test.YtjoacppfpopopaaDoorKnR21
import Derived.Test.YtjoacppfpopopaaDoorKnR22
import Derived.Test.YtjoacppfpopopaaDoorKnR23
import Derived.Test.YtjoacppfpopopaaDoorKnR24
import Derived.Test.YtjoacppfpopopaaDoorKnR25
import Derived.Test.YtjoacppfpopopaaDoorKnR26
import Derived.Test.YtjoacppfpopopaaDoorKnR27
import Derived.Test.YtjoacppfpopopaaDoorKnR28
import Derived.Test.YtjoacppfpopopaaDoorKnR29
import Derived.Test.YtjoacppfpopopaaDoorKnR30
import Derived.Test.YtjoacppfpopopaaDoorKnR31
import Derived.KernelRfl
namespace Go.Proofs.YtjoacppfpopopaaDoor.kn
open Go.RowKit Go.Sim
set_option linter.unusedVariables false
set_option maxRecDepth 100000
theorem good31 [Sim.Ev] : RG Tryd.prog 4 Sim.isTrue (runG Tryd.prog 4 Sim.isTrue 34000) := run_good _ _ _ _
noncomputable def R31 : Run := runG Tryd.prog 4 Sim.isTrue 34000
noncomputable def R30 : Run := Sim.runN Tryd.prog 4 Sim.isTrue 34000 (keepR [0, 1, 1049, 1050, 1051, 1058, 4220, 7382, 9488, 10549, 10550, 10551, 10552, 10553, 10554, 10561, 10563, 10792, 10793, 10794, 11095, 11096, 11097, 11098, 11327, 11328, 11329, 11330, 11331, 11332, 11333, 11334, 11335, 11336, 11359, 11367, 11368, 11369, 11379] R31)
theorem good30 [Sim.Ev] : RG Tryd.prog 4 Sim.isTrue R30 := runN_good (keepR_good good31 _) _
noncomputable def R29 : Run := Sim.runN Tryd.prog 4 Sim.isTrue 34000 (keepR [0, 1, 1049, 1050, 1051, 1058, 4220, 7382, 9488, 10549, 10550, 10551, 10552, 10553, 10554, 10561, 10563, 10792, 10793, 10794, 10795, 10796, 10797, 10798, 10799, 10800, 10801, 10802, 10856, 10864, 10963, 11020, 11021] R30)
theorem good29 [Sim.Ev] : RG Tryd.prog 4 Sim.isTrue R29 := runN_good (keepR_good good30 _) _
noncomputable def R28 : Run := Sim.runN Tryd.prog 4 Sim.isTrue 34000 (keepR [0, 1, 1049, 1050, 1051, 1058, 4220, 7382, 9488, 10549, 10550, 10551, 10552, 10553, 10554, 10561, 10562, 10563, 10565, 10566] R29)
theorem good28 [Sim.Ev] : RG Tryd.prog 4 Sim.isTrue R28 := runN_good (keepR_good good29 _) _
noncomputable def R27 : Run := Sim.runN Tryd.prog 4 Sim.isTrue 34150 (keepR [0, 1, 1049, 1050, 1051, 1058, 4220, 7382, 9488, 9489, 9490, 9491, 9492, 9493, 9494, 9495, 9496, 9497, 9498, 9499, 9500, 9501, 9502, 9503, 9504, 9505, 9506, 9513, 9515, 9746, 9747, 9748, 10045, 10046, 10047, 10048, 10148, 10262, 10263] R28)
theorem good27 [Sim.Ev] : RG Tryd.prog 4 Sim.isTrue R27 := runN_good (keepR_good good28 _) _
noncomputable def R26 : Run := Sim.runN Tryd.prog 4 Sim.isTrue 34000 (keepR [0, 1, 1049, 1050, 1051, 1058, 4220, 7382, 9488, 9489, 9490, 9491, 9492, 9493, 9494, 9495, 9496, 9497, 9498, 9499, 9500, 9501, 9502, 9503, 9504, 9505, 9506, 9513, 9515, 9746, 9747, 9748, 9749, 9750, 9751, 9752, 9753, 9754, 9755, 9756, 9806, 9814, 9913, 9934, 9935] R27)
theorem good26 [Sim.Ev] : RG Tryd.prog 4 Sim.isTrue R26 := runN_good (keepR_good good27 _) _
noncomputable def R25 : Run := Sim.runN Tryd.prog 4 Sim.isTrue 34150 (keepR [0, 1, 1049, 1050, 1051, 1058, 4220, 7382, 9488, 9489, 9490, 9491, 9492, 9493, 9494, 9495, 9496, 9497, 9498, 9499, 9500, 9501, 9502, 9503, 9504, 9505, 9506, 9513, 9514, 9515, 9517, 9518] R26)
theorem good25 [Sim.Ev] : RG Tryd.prog 4 Sim.isTrue R25 := runN_good (keepR_good good26 _) _
noncomputable def R24 : Run := Sim.runN Tryd.prog 4 Sim.isTrue 34000 (keepR [0, 1, 1049, 1050, 1051, 1058, 4220, 7378, 7382, 8439, 8440, 8441, 8442, 8443, 8444, 8451, 8453, 8682, 8683, 8684, 8985, 8986, 8987, 8988, 9088, 9165, 9166] R25)
theorem good24 [Sim.Ev] : RG Tryd.prog 4 Sim.isTrue R24 := runN_good (keepR_good good25 _) _
noncomputable def R23 : Run := Sim.runN Tryd.prog 4 Sim.isTrue 34000 (keepR [0, 1, 1049, 1050, 1051, 1058, 4220, 7378, 7382, 8439, 8440, 8441, 8442, 8443, 8444, 8451, 8453, 8682, 8683, 8684, 8685, 8686, 8687, 8688, 8689, 8690, 8691, 8692, 8746, 8754, 8755, 8756, 8836] R24)
theorem good23 [Sim.Ev] : RG Tryd.prog 4 Sim.isTrue R23 := runN_good (keepR_good good24 _) _
noncomputable def R22 : Run := Sim.runN Tryd.prog 4 Sim.isTrue 34000 (keepR [0, 1, 1049, 1050, 1051, 1058, 4220, 7378, 7379, 7380, 7381, 7382, 7383, 7384, 7385, 7386, 7387, 7388, 8438] R23)
theorem good22 [Sim.Ev] : RG Tryd.prog 4 Sim.isTrue R22 := runN_good (keepR_good good23 _) _
noncomputable def R21 : Run := Sim.runN Tryd.prog 4 Sim.isTrue 34300 (keepR [0, 1, 1049, 1050, 1051, 1058, 4220, 7378, 7379, 7380, 7381, 7382, 7383, 7384, 7385, 7386, 7387, 7388, 7389, 7390, 7391, 7392, 7393, 7394, 7395, 7396, 7403, 7405, 7636, 7637, 7638, 7935, 7936, 7937, 7938, 8038, 8080, 8081] R22)
theorem good21 [Sim.Ev] : RG Tryd.prog 4 Sim.isTrue R21 := runN_good (keepR_good good22 _) _
noncomputable def R20 : Run := Sim.runN Tryd.prog 4 Sim.isTrue 34300 (keepR [0, 1, 1049, 1050, 1051, 1058, 4220, 7378, 7379, 7380, 7381, 7382, 7383, 7384, 7385, 7386, 7387, 7388, 7389, 7390, 7391, 7392, 7393, 7394, 7395, 7396, 7403, 7405, 7636, 7637, 7638, 7639, 7640, 7641, 7642, 7643, 7644, 7645, 7646, 7696, 7704, 7705, 7706] R21)
theorem good20 [Sim.Ev] : RG Tryd.prog 4 Sim.isTrue R20 := runN_good (keepR_good good21 _) _
noncomputable def R19 : Run := Sim.runN Tryd.prog 4 Sim.isTrue 34150 (keepR [0, 1, 1049, 1050, 1051, 1058, 4216, 4220, 6329, 6330, 6331, 6332, 6333, 6334, 6341, 6343, 6572, 6573, 6574, 6875, 6876, 6877, 6878, 7107, 7108, 7109, 7110, 7111, 7112, 7113, 7114, 7115, 7116, 7139, 7147, 7246, 7339, 7340] R20)
theorem good19 [Sim.Ev] : RG Tryd.prog 4 Sim.isTrue R19 := runN_good (keepR_good good20 _) _
noncomputable def R18 : Run := Sim.runN Tryd.prog 4 Sim.isTrue 34000 (keepR [0, 1, 1049, 1050, 1051, 1058, 4216, 4220, 6329, 6330, 6331, 6332, 6333, 6334, 6341, 6343, 6572, 6573, 6574, 6875, 6876, 6877, 6878, 6978, 6979] R19)
theorem good18 [Sim.Ev] : RG Tryd.prog 4 Sim.isTrue R18 := runN_good (keepR_good good19 _) _
noncomputable def R17 : Run := Sim.runN Tryd.prog 4 Sim.isTrue 34000 (keepR [0, 1, 1049, 1050, 1051, 1058, 4216, 4220, 6329, 6330, 6331, 6332, 6333, 6334, 6341, 6343, 6572, 6573, 6574, 6575, 6576, 6577, 6578, 6579, 6580, 6581, 6582, 6585] R18)
theorem good17 [Sim.Ev] : RG Tryd.prog 4 Sim.isTrue R17 := runN_good (keepR_good good18 _) _
noncomputable def R16 : Run := Sim.runN Tryd.prog 4 Sim.isTrue 34000 (keepR [0, 1, 1049, 1050, 1051, 1058, 4216, 4217, 4218, 4219, 4220, 4221, 4222, 4223, 4224, 5276, 5277, 5278, 5279, 5280, 5281, 5282, 5283, 5284, 5285, 5286, 5293, 5295, 5526, 5527, 5528, 5825, 5826, 5827, 5828, 6057, 6058, 6059, 6060, 6061, 6062, 6063, 6064, 6065, 6066, 6089, 6097, 6196, 6252, 6253] R17)
theorem good16 [Sim.Ev] : RG Tryd.prog 4 Sim.isTrue R16 := runN_good (keepR_good good17 _) _
noncomputable def R15 : Run := Sim.runN Tryd.prog 4 Sim.isTrue 34300 (keepR [0, 1, 1049, 1050, 1051, 1058, 4216, 4217, 4218, 4219, 4220, 4221, 4222, 4223, 4224, 5276, 5277, 5278, 5279, 5280, 5281, 5282, 5283, 5284, 5285, 5286, 5293, 5295, 5526, 5527, 5528, 5825, 5826, 5827, 5828, 5830, 5831] R16)
theorem good15 [Sim.Ev] : RG Tryd.prog 4 Sim.isTrue R15 := runN_good (keepR_good good16 _) _
noncomputable def R14 : Run := Sim.runN Tryd.prog 4 Sim.isTrue 34000 (keepR [0, 1, 1049, 1050, 1051, 1058, 4216, 4217, 4218, 4219, 4220, 4221, 4222, 4223, 4224, 5276, 5277, 5278, 5279, 5280, 5281, 5282, 5283, 5284, 5285, 5286, 5293, 5294, 5295, 5395, 5488, 5489] R15)
theorem good14 [Sim.Ev] : RG Tryd.prog 4 Sim.isTrue R14 := runN_good (keepR_good good15 _) _
noncomputable def R13 : Run := Sim.runN Tryd.prog 4 Sim.isTrue 34150 (keepR [0, 1, 1049, 1050, 1051, 1058, 4216, 4217, 4218, 4219, 4220, 4221, 4222, 4223, 4224, 4225, 4226, 4227, 4228, 4229, 4230, 4231, 4232, 4233, 4234, 4241, 4243, 4474, 4475, 4476, 4773, 4774, 4775, 4776, 5005, 5006, 5007, 5008, 5009, 5010, 5011, 5012, 5013, 5014, 5037, 5045, 5144, 5162, 5163] R14)
theorem good13 [Sim.Ev] : RG Tryd.prog 4 Sim.isTrue R13 := runN_good (keepR_good good14 _) _
noncomputable def R12 : Run := Sim.runN Tryd.prog 4 Sim.isTrue 34000 (keepR [0, 1, 1049, 1050, 1051, 1058, 4216, 4217, 4218, 4219, 4220, 4221, 4222, 4223, 4224, 4225, 4226, 4227, 4228, 4229, 4230, 4231, 4232, 4233, 4234, 4241, 4243, 4474, 4475, 4476, 4773, 4774, 4775, 4776, 4778, 4779] R13)
theorem good12 [Sim.Ev] : RG Tryd.prog 4 Sim.isTrue R12 := runN_good (keepR_good good13 _) _
noncomputable def R11 : Run := Sim.runN Tryd.prog 4 Sim.isTrue 34300 (keepR [0, 1, 1049, 1050, 1051, 1058, 4216, 4217, 4218, 4219, 4220, 4221, 4222, 4223, 4224, 4225, 4226, 4227, 4228, 4229, 4230, 4231, 4232, 4233, 4234, 4241, 4242, 4243, 4343, 4399, 4400] R12)
theorem good11 [Sim.Ev] : RG Tryd.prog 4 Sim.isTrue R11 := runN_good (keepR_good good12 _) _
noncomputable def R10 : Run := Sim.runN Tryd.prog 4 Sim.isTrue 34000 (keepR [0, 1, 1049, 1050, 1051, 1054, 1058, 3167, 3168, 3169, 3170, 3171, 3172, 3179, 3181, 3410, 3411, 3412, 3713, 3714, 3715, 3716, 3945, 3946, 3947, 3948, 3949, 3950, 3951, 3952, 3953, 3954, 3977, 3985, 3986, 3987, 4059] R11)
theorem good10 [Sim.Ev] : RG Tryd.prog 4 Sim.isTrue R10 := runN_good (keepR_good good11 _) _
noncomputable def R9 : Run := Sim.runN Tryd.prog 4 Sim.isTrue 34000 (keepR [0, 1, 1049, 1050, 1051, 1054, 1058, 3167, 3168, 3169, 3170, 3171, 3172, 3179, 3181, 3410, 3411, 3412, 3413, 3414, 3415, 3416, 3417, 3418, 3419, 3420, 3474, 3482, 3581, 3688, 3689] R10)
theorem good9 [Sim.Ev] : RG Tryd.prog 4 Sim.isTrue R9 := runN_good (keepR_good good10 _) _
noncomputable def R8 : Run := Sim.runN Tryd.prog 4 Sim.isTrue 34300 (keepR [0, 1, 1049, 1050, 1051, 1054, 1058, 3167, 3168, 3169, 3170, 3171, 3172, 3179, 3180, 3181, 3281, 3299, 3300] R9)
theorem good8 [Sim.Ev] : RG Tryd.prog 4 Sim.isTrue R8 := runN_good (keepR_good good9 _) _
noncomputable def R7 : Run := Sim.runN Tryd.prog 4 Sim.isTrue 34300 (keepR [0, 1, 1049, 1050, 1051, 1054, 1055, 1056, 1057, 1058, 1059, 1060, 1061, 1062, 2114, 2115, 2116, 2117, 2118, 2119, 2120, 2121, 2122, 2123, 2124, 2131, 2133, 2364, 2365, 2366, 2663, 2664, 2665, 2666, 2895, 2896, 2897, 2898, 2899, 2900, 2901, 2902, 2903, 2904, 2927, 2935, 2936, 2937] R8)
theorem good7 [Sim.Ev] : RG Tryd.prog 4 Sim.isTrue R7 := runN_good (keepR_good good8 _) _
noncomputable def R6 : Run := Sim.runN Tryd.prog 4 Sim.isTrue 34150 (keepR [0, 1, 1049, 1050, 1051, 1054, 1055, 1056, 1057, 1058, 1059, 1060, 1061, 1062, 2114, 2115, 2116, 2117, 2118, 2119, 2120, 2121, 2122, 2123, 2124, 2131, 2133, 2364, 2365, 2366, 2367, 2368, 2369, 2370, 2371, 2372, 2373, 2374, 2424, 2432, 2531, 2598, 2599] R7)
theorem good6 [Sim.Ev] : RG Tryd.prog 4 Sim.isTrue R6 := runN_good (keepR_good good7 _) _
noncomputable def R5 : Run := Sim.runN Tryd.prog 4 Sim.isTrue 34300 (keepR [0, 1, 1049, 1050, 1051, 1054, 1055, 1056, 1057, 1058, 1059, 1060, 1061, 1062, 2114, 2115, 2116, 2117, 2118, 2119, 2120, 2121, 2122, 2123, 2124, 2131, 2132, 2133, 2135, 2136] R6)
theorem good5 [Sim.Ev] : RG Tryd.prog 4 Sim.isTrue R5 := runN_good (keepR_good good6 _) _
noncomputable def R4 : Run := Sim.runN Tryd.prog 4 Sim.isTrue 34300 (keepR [0, 1, 1049, 1050, 1051, 1054, 1055, 1056, 1057, 1058, 1059, 1060, 1061, 1062, 1063, 1064, 1065, 1066, 1067, 1068, 1069, 1070, 1071, 1072, 1079, 1081, 1312, 1313, 1314, 1611, 1612, 1613, 1614, 1714, 1832, 1833] R5)
theorem good4 [Sim.Ev] : RG Tryd.prog 4 Sim.isTrue R4 := runN_good (keepR_good good5 _) _
noncomputable def R3 : Run := Sim.runN Tryd.prog 4 Sim.isTrue 34000 (keepR [0, 1, 1049, 1050, 1051, 1054, 1055, 1056, 1057, 1058, 1059, 1060, 1061, 1062, 1063, 1064, 1065, 1066, 1067, 1068, 1069, 1070, 1071, 1072, 1079, 1081, 1312, 1313, 1314, 1315, 1316, 1317, 1318, 1319, 1320, 1321, 1322, 1372, 1380, 1479, 1503, 1504] R4)
theorem good3 [Sim.Ev] : RG Tryd.prog 4 Sim.isTrue R3 := runN_good (keepR_good good4 _) _
noncomputable def R2 : Run := Sim.runN Tryd.prog 4 Sim.isTrue 34000 (keepR [0, 1, 1049, 1050, 1051, 1054, 1055, 1056, 1057, 1058, 1059, 1060, 1061, 1062, 1063, 1064, 1065, 1066, 1067, 1068, 1069, 1070, 1071, 1072, 1079, 1080, 1081, 1083, 1084, 1102] R3)
theorem good2 [Sim.Ev] : RG Tryd.prog 4 Sim.isTrue R2 := runN_good (keepR_good good3 _) _
noncomputable def R1 : Run := Sim.runN Tryd.prog 4 Sim.isTrue 34150 (keepR [0, 1, 2, 3, 4, 11, 13, 242, 243, 244, 545, 546, 547, 548, 648, 729, 730] R2)
theorem good1 [Sim.Ev] : RG Tryd.prog 4 Sim.isTrue R1 := runN_good (keepR_good good2 _) _

theorem e31 : R31 fr31 cs31 h31 = true := seg31
theorem e30 : R30 fr30 cs30 h30 = true := (congrFun seg30 R31).trans e31
theorem e29 : R29 fr29 cs29 h29 = true := (congrFun seg29 R30).trans e30
theorem e28 : R28 fr28 cs28 h28 = true := (congrFun seg28 R29).trans e29
theorem e27 : R27 fr27 cs27 h27 = true := (congrFun seg27 R28).trans e28
theorem e26 : R26 fr26 cs26 h26 = true := (congrFun seg26 R27).trans e27
theorem e25 : R25 fr25 cs25 h25 = true := (congrFun seg25 R26).trans e26
theorem e24 : R24 fr24 cs24 h24 = true := (congrFun seg24 R25).trans e25
theorem e23 : R23 fr23 cs23 h23 = true := (congrFun seg23 R24).trans e24
theorem e22 : R22 fr22 cs22 h22 = true := (congrFun seg22 R23).trans e23
theorem e21 : R21 fr21 cs21 h21 = true := (congrFun seg21 R22).trans e22
theorem e20 : R20 fr20 cs20 h20 = true := (congrFun seg20 R21).trans e21
theorem e19 : R19 fr19 cs19 h19 = true := (congrFun seg19 R20).trans e20
theorem e18 : R18 fr18 cs18 h18 = true := (congrFun seg18 R19).trans e19
theorem e17 : R17 fr17 cs17 h17 = true := (congrFun seg17 R18).trans e18
theorem e16 : R16 fr16 cs16 h16 = true := (congrFun seg16 R17).trans e17
theorem e15 : R15 fr15 cs15 h15 = true := (congrFun seg15 R16).trans e16
theorem e14 : R14 fr14 cs14 h14 = true := (congrFun seg14 R15).trans e15
theorem e13 : R13 fr13 cs13 h13 = true := (congrFun seg13 R14).trans e14
theorem e12 : R12 fr12 cs12 h12 = true := (congrFun seg12 R13).trans e13
theorem e11 : R11 fr11 cs11 h11 = true := (congrFun seg11 R12).trans e12
theorem e10 : R10 fr10 cs10 h10 = true := (congrFun seg10 R11).trans e11
theorem e9 : R9 fr9 cs9 h9 = true := (congrFun seg9 R10).trans e10
theorem e8 : R8 fr8 cs8 h8 = true := (congrFun seg8 R9).trans e9
theorem e7 : R7 fr7 cs7 h7 = true := (congrFun seg7 R8).trans e8
theorem e6 : R6 fr6 cs6 h6 = true := (congrFun seg6 R7).trans e7
theorem e5 : R5 fr5 cs5 h5 = true := (congrFun seg5 R6).trans e6
theorem e4 : R4 fr4 cs4 h4 = true := (congrFun seg4 R5).trans e5
theorem e3 : R3 fr3 cs3 h3 = true := (congrFun seg3 R4).trans e4
theorem e2 : R2 fr2 cs2 h2 = true := (congrFun seg2 R3).trans e3
theorem e1 : R1 fr1 cs1 h1 = true := (congrFun seg1 R2).trans e2

theorem mixed : Tryd.prog.follows .mixedOrders = true := by kernel_rfl
theorem e0 : runsR Tryd.prog fx noF 4 [] (Sim.runN Tryd.prog 4 Sim.isTrue 34300 (keepR [0, 1, 2, 3, 4, 11, 13, 242, 243, 244, 245, 246, 247, 248, 249, 250, 251, 252, 306, 314, 315, 316] R1)) = true := (congrFun seg0 R1).trans e1
theorem known (w : World) (hw : Sim.Holds fx w) (hG : Tryd.prog.globals.size ≤ w.heap.size) :
    Calls Tryd.prog 4 #[] w fun e w' => e = .returned (.bool true) ∧ Below w.heap.size w w' := by
  letI : Sim.Ev := ⟨fun _ => 0, fun _ => undef, fun _ _ _ => False, fun _ => none, fun _ _ _ _ h => by simp [undef] at h, fun _ _ h => by simp [undef] at h, fun _ _ _ _ => by simp⟩
  haveI : Sim.KOk Tryd.prog w.heap.size w := ⟨fun _ _ _ h => h.elim⟩
  exact Sim.true_of_R mixed (runN_good (keepR_good good1 _) _) e0 .nil w ⟨fun _ _ h => by simp [Sim.noF] at h, fun _ _ h => by simp [Sim.noF] at h, fun _ h => by simp [Sim.noF] at h, fun _ h => by simp [Sim.noF] at h, fun _ _ h => by simp [Sim.noF] at h, fun _ h => by simp [Sim.noF] at h⟩ (fun _ _ h => by cases h) hw hG
#print axioms known

end Go.Proofs.YtjoacppfpopopaaDoor.kn
