/- a run of the abstract machine in pieces (watchword, known()): the chain. No conditions. -/
import Derived.Test.YtbofnfbkjangiaaGreatDoorKnR0
import Derived.Test.YtbofnfbkjangiaaGreatDoorKnR1
import Derived.Test.YtbofnfbkjangiaaGreatDoorKnR2
import Derived.Test.YtbofnfbkjangiaaGreatDoorKnR3
import Derived.Test.YtbofnfbkjangiaaGreatDoorKnR4
import Derived.Test.YtbofnfbkjangiaaGreatDoorKnR5
import Derived.Test.YtbofnfbkjangiaaGreatDoorKnR6
import Derived.Test.YtbofnfbkjangiaaGreatDoorKnR7
import Derived.Test.YtbofnfbkjangiaaGreatDoorKnR8
import Derived.Test.YtbofnfbkjangiaaGreatDoorKnR9
import Derived.Test.YtbofnfbkjangiaaGreatDoorKnR10
import Derived.Test.YtbofnfbkjangiaaGreatDoorKnR11
import Derived.Test.YtbofnfbkjangiaaGreatDoorKnR12
import Derived.Test.YtbofnfbkjangiaaGreatDoorKnR13
import Derived.Test.YtbofnfbkjangiaaGreatDoorKnR14
import Derived.Test.YtbofnfbkjangiaaGreatDoorKnR15
import Derived.Test.YtbofnfbkjangiaaGreatDoorKnR16
import Derived.Test.YtbofnfbkjangiaaGreatDoorKnR17
import Derived.Test.YtbofnfbkjangiaaGreatDoorKnR18
import Derived.Test.YtbofnfbkjangiaaGreatDoorKnR19
import Derived.Test.YtbofnfbkjangiaaGreatDoorKnR20
import Derived.Test.YtbofnfbkjangiaaGreatDoorKnR21
import Derived.Test.YtbofnfbkjangiaaGreatDoorKnR22
import Derived.Test.YtbofnfbkjangiaaGreatDoorKnR23
import Derived.Test.YtbofnfbkjangiaaGreatDoorKnR24
import Derived.Test.YtbofnfbkjangiaaGreatDoorKnR25
import Derived.Test.YtbofnfbkjangiaaGreatDoorKnR26
import Derived.Test.YtbofnfbkjangiaaGreatDoorKnR27
import Derived.KernelRfl
namespace Go.Proofs.YtbofnfbkjangiaaGreatDoor.kn
open Go.RowKit Go.Sim
set_option linter.unusedVariables false
set_option maxRecDepth 100000
theorem good27 [Sim.Ev] : RG Tryz.prog 6 Sim.isTrue (runG Tryz.prog 6 Sim.isTrue 30000) := run_good _ _ _ _
noncomputable def R27 : Run := runG Tryz.prog 6 Sim.isTrue 30000
noncomputable def R26 : Run := Sim.runN Tryz.prog 6 Sim.isTrue 30000 (keepR [0, 21, 28, 29, 30, 31, 38, 39, 40, 41, 42, 43, 3998, 3999, 4000, 4001, 4002, 4003, 4004, 4008, 4014, 4015, 4275, 6153, 6154, 6414, 7256, 7257, 7264, 7266, 7495, 7496, 7497, 7778, 7779, 7780, 7781, 8010, 8011, 8012, 8013, 8014, 8015, 8016, 8017, 8018, 8019, 8042, 8050, 8051, 8052] R27)
theorem good26 [Sim.Ev] : RG Tryz.prog 6 Sim.isTrue R26 := runN_good (keepR_good good27 _) _
noncomputable def R25 : Run := Sim.runN Tryz.prog 6 Sim.isTrue 30300 (keepR [0, 21, 28, 29, 30, 31, 38, 39, 40, 41, 42, 43, 3998, 3999, 4000, 4001, 4002, 4003, 4004, 4008, 4014, 4015, 4275, 6153, 6154, 6414, 7256, 7257, 7264, 7266, 7495, 7496, 7497, 7498, 7499, 7500, 7501, 7502, 7503, 7504, 7505, 7539, 7547, 7646, 7726, 7727] R26)
theorem good25 [Sim.Ev] : RG Tryz.prog 6 Sim.isTrue R25 := runN_good (keepR_good good26 _) _
noncomputable def R24 : Run := Sim.runN Tryz.prog 6 Sim.isTrue 30300 (keepR [0, 21, 28, 29, 30, 31, 38, 39, 40, 41, 42, 43, 3998, 3999, 4000, 4001, 4002, 4003, 4004, 4008, 4014, 4015, 4275, 6153, 6154, 6414, 7256, 7257, 7264, 7265, 7266, 7366, 7389, 7390] R25)
theorem good24 [Sim.Ev] : RG Tryz.prog 6 Sim.isTrue R24 := runN_good (keepR_good good25 _) _
noncomputable def R23 : Run := Sim.runN Tryz.prog 6 Sim.isTrue 30750 (keepR [0, 21, 28, 29, 30, 31, 38, 39, 40, 41, 42, 43, 3998, 3999, 4000, 4001, 4002, 4003, 4004, 4008, 4014, 4015, 4275, 6153, 6154, 6155, 6156, 6157, 6160, 6161, 6162, 6171, 6173, 6411, 6412, 6413, 6414, 6415, 6416, 6417, 6418, 6419, 6420, 6421, 6422, 6423, 6424, 6425, 6428, 6429, 6430, 6431, 6432, 6720, 6721, 6722, 6723, 6952, 6953, 6954, 6955, 6956, 6957, 6958, 6959, 6960, 6961, 6984, 6992, 6993, 6994] R24)
theorem good23 [Sim.Ev] : RG Tryz.prog 6 Sim.isTrue R23 := runN_good (keepR_good good24 _) _
noncomputable def R22 : Run := Sim.runN Tryz.prog 6 Sim.isTrue 30150 (keepR [0, 21, 28, 29, 30, 31, 38, 39, 40, 41, 42, 43, 3998, 3999, 4000, 4001, 4002, 4003, 4004, 4008, 4014, 4015, 4275, 6153, 6154, 6155, 6156, 6157, 6160, 6161, 6162, 6171, 6173, 6411, 6412, 6413, 6414, 6415, 6416, 6417, 6418, 6419, 6420, 6421, 6422, 6423, 6424, 6425, 6428, 6429, 6430, 6431, 6432, 6720, 6721, 6722, 6723, 6725, 6726] R23)
theorem good22 [Sim.Ev] : RG Tryz.prog 6 Sim.isTrue R22 := runN_good (keepR_good good23 _) _
noncomputable def R21 : Run := Sim.runN Tryz.prog 6 Sim.isTrue 30150 (keepR [0, 21, 28, 29, 30, 31, 38, 39, 40, 41, 42, 43, 3998, 3999, 4000, 4001, 4002, 4003, 4004, 4008, 4014, 4015, 4275, 6153, 6154, 6155, 6156, 6157, 6160, 6161, 6162, 6163, 6164, 6171, 6172, 6173, 6273, 6366, 6367] R22)
theorem good21 [Sim.Ev] : RG Tryz.prog 6 Sim.isTrue R21 := runN_good (keepR_good good22 _) _
noncomputable def R20 : Run := Sim.runN Tryz.prog 6 Sim.isTrue 30150 (keepR [0, 21, 28, 29, 30, 31, 38, 39, 40, 41, 42, 43, 3998, 3999, 4000, 4001, 4002, 4003, 4004, 4008, 4014, 4015, 4275, 5117, 5118, 5119, 5120, 5121, 5122, 5123, 5130, 5132, 5363, 5364, 5365, 5647, 5648, 5649, 5650, 5879, 5880, 5881, 5882, 5883, 5884, 5885, 5886, 5887, 5888, 5911, 5919, 6018, 6074, 6075] R21)
theorem good20 [Sim.Ev] : RG Tryz.prog 6 Sim.isTrue R20 := runN_good (keepR_good good21 _) _
noncomputable def R19 : Run := Sim.runN Tryz.prog 6 Sim.isTrue 30600 (keepR [0, 21, 28, 29, 30, 31, 38, 39, 40, 41, 42, 43, 3998, 3999, 4000, 4001, 4002, 4003, 4004, 4008, 4014, 4015, 4275, 5117, 5118, 5119, 5120, 5121, 5122, 5123, 5130, 5132, 5363, 5364, 5365, 5647, 5648, 5649, 5650, 5750] R20)
theorem good19 [Sim.Ev] : RG Tryz.prog 6 Sim.isTrue R19 := runN_good (keepR_good good20 _) _
noncomputable def R18 : Run := Sim.runN Tryz.prog 6 Sim.isTrue 30900 (keepR [0, 21, 28, 29, 30, 31, 38, 39, 40, 41, 42, 43, 3998, 3999, 4000, 4001, 4002, 4003, 4004, 4008, 4014, 4015, 4275, 5117, 5118, 5119, 5120, 5121, 5122, 5123, 5130, 5132, 5363, 5364, 5365, 5366, 5367, 5368, 5369, 5370, 5371, 5372, 5373, 5408, 5416, 5417, 5418] R19)
theorem good18 [Sim.Ev] : RG Tryz.prog 6 Sim.isTrue R18 := runN_good (keepR_good good19 _) _
noncomputable def R17 : Run := Sim.runN Tryz.prog 6 Sim.isTrue 30150 (keepR [0, 21, 28, 29, 30, 31, 38, 39, 40, 41, 42, 43, 3998, 3999, 4000, 4001, 4002, 4003, 4004, 4008, 4014, 4015, 4016, 4017, 4018, 4021, 4022, 4023, 4032, 4034, 4272, 4273, 4274, 4275, 4276, 4277, 4278, 4279, 4280, 4281, 4282, 4283, 4284, 4285, 4286, 4289, 4290, 4291, 4292, 4293, 4581, 4582, 4583, 4584, 4813, 4814, 4815, 4816, 4817, 4818, 4819, 4820, 4821, 4822, 4845, 4853, 4952, 5072, 5073] R18)
theorem good17 [Sim.Ev] : RG Tryz.prog 6 Sim.isTrue R17 := runN_good (keepR_good good18 _) _
noncomputable def R16 : Run := Sim.runN Tryz.prog 6 Sim.isTrue 30150 (keepR [0, 21, 28, 29, 30, 31, 38, 39, 40, 41, 42, 43, 3998, 3999, 4000, 4001, 4002, 4003, 4004, 4008, 4014, 4015, 4016, 4017, 4018, 4021, 4022, 4023, 4032, 4034, 4272, 4273, 4274, 4275, 4276, 4277, 4278, 4279, 4280, 4281, 4282, 4283, 4284, 4285, 4286, 4289, 4290, 4291, 4292, 4293, 4581, 4582, 4583, 4584, 4684, 4748, 4749] R17)
theorem good16 [Sim.Ev] : RG Tryz.prog 6 Sim.isTrue R16 := runN_good (keepR_good good17 _) _
noncomputable def R15 : Run := Sim.runN Tryz.prog 6 Sim.isTrue 30600 (keepR [0, 21, 28, 29, 30, 31, 38, 39, 40, 41, 42, 43, 3998, 3999, 4000, 4001, 4002, 4003, 4004, 4008, 4014, 4015, 4016, 4017, 4018, 4021, 4022, 4023, 4032, 4034, 4272, 4273, 4274, 4275, 4276, 4277, 4278, 4279, 4280, 4281, 4282, 4283, 4284, 4285, 4286, 4289, 4290, 4291, 4292, 4293, 4294, 4295, 4296, 4297, 4298, 4299, 4300, 4301, 4342, 4350, 4449, 4456, 4457] R16)
theorem good15 [Sim.Ev] : RG Tryz.prog 6 Sim.isTrue R15 := runN_good (keepR_good good16 _) _
noncomputable def R14 : Run := Sim.runN Tryz.prog 6 Sim.isTrue 30450 (keepR [0, 21, 28, 29, 30, 31, 38, 39, 40, 41, 42, 43, 3998, 3999, 4000, 4001, 4002, 4003, 4004, 4008, 4014, 4015, 4016, 4017, 4018, 4021, 4022, 4023, 4024, 4025, 4032, 4033, 4034, 4036, 4037] R15)
theorem good14 [Sim.Ev] : RG Tryz.prog 6 Sim.isTrue R14 := runN_good (keepR_good good15 _) _
noncomputable def R13 : Run := Sim.runN Tryz.prog 6 Sim.isTrue 30000 (keepR [0, 21, 28, 29, 30, 31, 38, 39, 40, 41, 42, 43, 44, 45, 49, 55, 56, 316, 1211, 2154, 2980, 2981, 2982, 2989, 2991, 3222, 3223, 3224, 3489, 3490, 3491, 3492, 3721, 3722, 3723, 3724, 3725, 3726] R14)
theorem good13 [Sim.Ev] : RG Tryz.prog 6 Sim.isTrue R13 := runN_good (keepR_good good14 _) _
noncomputable def R12 : Run := Sim.runN Tryz.prog 6 Sim.isTrue 30150 (keepR [0, 21, 28, 29, 30, 31, 38, 39, 40, 41, 42, 43, 44, 45, 49, 55, 56, 316, 1211, 2154, 2980, 2981, 2982, 2989, 2991, 3222, 3223, 3224, 3225, 3226, 3227, 3228, 3229, 3230, 3231, 3232, 3250, 3258, 3357, 3432, 3433] R13)
theorem good12 [Sim.Ev] : RG Tryz.prog 6 Sim.isTrue R12 := runN_good (keepR_good good13 _) _
noncomputable def R11 : Run := Sim.runN Tryz.prog 6 Sim.isTrue 30450 (keepR [0, 21, 28, 29, 30, 31, 38, 39, 40, 41, 42, 43, 44, 45, 49, 55, 56, 316, 1211, 2154, 2980, 2981, 2982, 2989, 2990, 2991, 3091, 3110, 3111] R12)
theorem good11 [Sim.Ev] : RG Tryz.prog 6 Sim.isTrue R11 := runN_good (keepR_good good12 _) _
noncomputable def R10 : Run := Sim.runN Tryz.prog 6 Sim.isTrue 30600 (keepR [0, 21, 28, 29, 30, 31, 38, 39, 40, 41, 42, 43, 44, 45, 49, 55, 56, 316, 1211, 1895, 1896, 1897, 1900, 1901, 1902, 1911, 1913, 2151, 2152, 2153, 2154, 2155, 2156, 2157, 2158, 2159, 2160, 2161, 2162, 2163, 2164, 2165, 2168, 2169, 2170, 2171, 2172, 2460, 2461, 2462, 2463, 2692, 2693, 2694, 2695, 2696, 2697, 2698, 2699, 2700, 2701, 2724, 2732, 2733, 2734] R11)
theorem good10 [Sim.Ev] : RG Tryz.prog 6 Sim.isTrue R10 := runN_good (keepR_good good11 _) _
noncomputable def R9 : Run := Sim.runN Tryz.prog 6 Sim.isTrue 30000 (keepR [0, 21, 28, 29, 30, 31, 38, 39, 40, 41, 42, 43, 44, 45, 49, 55, 56, 316, 1211, 1895, 1896, 1897, 1900, 1901, 1902, 1911, 1913, 2151, 2152, 2153, 2154, 2155, 2156, 2157, 2158, 2159, 2160, 2161, 2162, 2163, 2164, 2165, 2168, 2169, 2170, 2171, 2172, 2460, 2461, 2462, 2463, 2465, 2466] R10)
theorem good9 [Sim.Ev] : RG Tryz.prog 6 Sim.isTrue R9 := runN_good (keepR_good good10 _) _
noncomputable def R8 : Run := Sim.runN Tryz.prog 6 Sim.isTrue 30000 (keepR [0, 21, 28, 29, 30, 31, 38, 39, 40, 41, 42, 43, 44, 45, 49, 55, 56, 316, 1211, 1895, 1896, 1897, 1900, 1901, 1902, 1903, 1904, 1911, 1912, 1913, 2013, 2101, 2102] R9)
theorem good8 [Sim.Ev] : RG Tryz.prog 6 Sim.isTrue R8 := runN_good (keepR_good good9 _) _
noncomputable def R7 : Run := Sim.runN Tryz.prog 6 Sim.isTrue 30750 (keepR [0, 21, 28, 29, 30, 31, 38, 39, 40, 41, 42, 43, 44, 45, 49, 55, 56, 316, 1142, 1143, 1146, 1147, 1151, 1172, 1173, 1174, 1175, 1176, 1177, 1206, 1207, 1208, 1209, 1210, 1211, 1212, 1213, 1214, 1215, 1216, 1217, 1218, 1219, 1220, 1221, 1556, 1557, 1558, 1559, 1560, 1561, 1562, 1563, 1708, 1709, 1710, 1711, 1712, 1739, 1740, 1741] R8)
theorem good7 [Sim.Ev] : RG Tryz.prog 6 Sim.isTrue R7 := runN_good (keepR_good good8 _) _
noncomputable def R6 : Run := Sim.runN Tryz.prog 6 Sim.isTrue 30000 (keepR [0, 21, 28, 29, 30, 31, 38, 39, 40, 41, 42, 43, 44, 45, 49, 55, 56, 316, 1142, 1143, 1146, 1147, 1148, 1151, 1164, 1165] R7)
theorem good6 [Sim.Ev] : RG Tryz.prog 6 Sim.isTrue R6 := runN_good (keepR_good good7 _) _
noncomputable def R5 : Run := Sim.runN Tryz.prog 6 Sim.isTrue 30150 (keepR [0, 21, 28, 29, 30, 31, 38, 39, 40, 41, 42, 43, 44, 45, 49, 55, 56, 316, 1142, 1143, 1146, 1147, 1148, 1149, 1150] R6)
theorem good5 [Sim.Ev] : RG Tryz.prog 6 Sim.isTrue R5 := runN_good (keepR_good good6 _) _
noncomputable def R4 : Run := Sim.runN Tryz.prog 6 Sim.isTrue 30000 (keepR [0, 21, 28, 29, 30, 31, 38, 39, 40, 41, 42, 43, 44, 45, 49, 55, 56, 316, 1142, 1143, 1146, 1147, 1148, 1149, 1150] R5)
theorem good4 [Sim.Ev] : RG Tryz.prog 6 Sim.isTrue R4 := runN_good (keepR_good good5 _) _
noncomputable def R3 : Run := Sim.runN Tryz.prog 6 Sim.isTrue 30150 (keepR [0, 21, 28, 29, 30, 31, 38, 39, 40, 41, 42, 43, 44, 45, 49, 55, 56, 316, 1142, 1143, 1146, 1147, 1148, 1149, 1150] R4)
theorem good3 [Sim.Ev] : RG Tryz.prog 6 Sim.isTrue R3 := runN_good (keepR_good good4 _) _
noncomputable def R2 : Run := Sim.runN Tryz.prog 6 Sim.isTrue 30150 (keepR [0, 21, 28, 29, 30, 31, 38, 39, 40, 41, 42, 43, 44, 45, 49, 55, 56, 57, 58, 59, 62, 63, 64, 73, 75, 313, 314, 315, 316, 317, 318, 319, 320, 321, 322, 323, 324, 325, 326, 327, 330, 331, 332, 333, 334, 622, 623, 624, 625, 854, 855, 856, 857, 858, 859, 860, 861, 862, 863, 886, 894, 993, 1053, 1054] R3)
theorem good2 [Sim.Ev] : RG Tryz.prog 6 Sim.isTrue R2 := runN_good (keepR_good good3 _) _
noncomputable def R1 : Run := Sim.runN Tryz.prog 6 Sim.isTrue 30150 (keepR [0, 21, 28, 29, 30, 31, 38, 39, 40, 41, 42, 43, 44, 45, 49, 55, 56, 57, 58, 59, 62, 63, 64, 73, 75, 313, 314, 315, 316, 317, 318, 319, 320, 321, 322, 323, 324, 325, 326, 327, 330, 331, 332, 333, 334, 622, 623, 624, 625, 725, 728, 729] R2)
theorem good1 [Sim.Ev] : RG Tryz.prog 6 Sim.isTrue R1 := runN_good (keepR_good good2 _) _

theorem e27 : R27 fr27 cs27 h27 = true := seg27
theorem e26 : R26 fr26 cs26 h26 = true := (congrFun seg26 R27).trans e27
theorem e25 : R25 fr25 cs25 h25 = true := (congrFun seg25 R26).trans e26
theorem e24 : R24 fr24 cs24 h24 = true := (congrFun seg24 R25).trans e25
theorem e23 : R23 fr23 cs23 h23 = true := (congrFun seg23 R24).trans e24
theorem e22 : R22 fr22 cs22 h22 = true := (congrFun seg22 R23).trans e23
theorem e21 : R21 fr21 cs21 h21 = true := (congrFun seg21 R22).trans e22
theorem e20 : R20 fr20 cs20 h20 = true := (congrFun seg20 R21).trans e21
theorem e19 : R19 fr19 cs19 h19 = true := (congrFun seg19 R20).trans e20
theorem e18 : R18 fr18 cs18 h18 = true := (congrFun seg18 R19).trans e19
theorem e17 : R17 fr17 cs17 h17 = true := (congrFun seg17 R18).trans e18
theorem e16 : R16 fr16 cs16 h16 = true := (congrFun seg16 R17).trans e17
theorem e15 : R15 fr15 cs15 h15 = true := (congrFun seg15 R16).trans e16
theorem e14 : R14 fr14 cs14 h14 = true := (congrFun seg14 R15).trans e15
theorem e13 : R13 fr13 cs13 h13 = true := (congrFun seg13 R14).trans e14
theorem e12 : R12 fr12 cs12 h12 = true := (congrFun seg12 R13).trans e13
theorem e11 : R11 fr11 cs11 h11 = true := (congrFun seg11 R12).trans e12
theorem e10 : R10 fr10 cs10 h10 = true := (congrFun seg10 R11).trans e11
theorem e9 : R9 fr9 cs9 h9 = true := (congrFun seg9 R10).trans e10
theorem e8 : R8 fr8 cs8 h8 = true := (congrFun seg8 R9).trans e9
theorem e7 : R7 fr7 cs7 h7 = true := (congrFun seg7 R8).trans e8
theorem e6 : R6 fr6 cs6 h6 = true := (congrFun seg6 R7).trans e7
theorem e5 : R5 fr5 cs5 h5 = true := (congrFun seg5 R6).trans e6
theorem e4 : R4 fr4 cs4 h4 = true := (congrFun seg4 R5).trans e5
theorem e3 : R3 fr3 cs3 h3 = true := (congrFun seg3 R4).trans e4
theorem e2 : R2 fr2 cs2 h2 = true := (congrFun seg2 R3).trans e3
theorem e1 : R1 fr1 cs1 h1 = true := (congrFun seg1 R2).trans e2

theorem mixed : Tryz.prog.follows .mixedOrders = true := by kernel_rfl
theorem e0 : runsR Tryz.prog fx noF 6 [] (Sim.runN Tryz.prog 6 Sim.isTrue 30300 (keepR [0, 21, 28, 29, 30, 31, 38, 39, 40, 41, 42, 43, 44, 45, 49, 55, 56, 57, 58, 59, 62, 63, 64, 73, 75, 313, 314, 315, 316, 317, 318, 319, 320, 321, 322, 323, 324, 325, 326, 327, 330, 331, 332, 333, 334, 335, 336, 337, 338, 339, 340, 341, 342, 383, 391, 392, 393] R1)) = true := (congrFun seg0 R1).trans e1
theorem known (w : World) (hw : Sim.Holds fx w) (hG : Tryz.prog.globals.size ≤ w.heap.size) :
    Calls Tryz.prog 6 #[] w fun e w' => e = .returned (.bool true) ∧ Below w.heap.size w w' := by
  letI : Sim.Ev := ⟨fun _ => 0, fun _ => undef, fun _ _ _ => False, fun _ => none, fun _ _ _ _ h => by simp [undef] at h, fun _ _ h => by simp [undef] at h, fun _ _ _ _ => by simp⟩
  haveI : Sim.KOk Tryz.prog w.heap.size w := ⟨fun _ _ _ h => h.elim⟩
  exact Sim.true_of_R mixed (runN_good (keepR_good good1 _) _) e0 .nil w ⟨fun _ _ h => by simp [Sim.noF] at h, fun _ _ h => by simp [Sim.noF] at h, fun _ h => by simp [Sim.noF] at h, fun _ h => by simp [Sim.noF] at h, fun _ _ h => by simp [Sim.noF] at h, fun _ h => by simp [Sim.noF] at h⟩ (fun _ _ h => by cases h) hw hG
#print axioms known

end Go.Proofs.YtbofnfbkjangiaaGreatDoor.kn
