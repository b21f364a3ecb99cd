/- a run of the abstract machine in pieces (watchword, known()): the chain. No conditions. -/
import Derived.Test.YtnihkomogiknaaaDoorKnR0
import Derived.Test.YtnihkomogiknaaaDoorKnR1
import Derived.Test.YtnihkomogiknaaaDoorKnR2
import Derived.Test.YtnihkomogiknaaaDoorKnR3
import Derived.Test.YtnihkomogiknaaaDoorKnR4
import Derived.Test.YtnihkomogiknaaaDoorKnR5
import Derived.Test.YtnihkomogiknaaaDoorKnR6
import Derived.Test.YtnihkomogiknaaaDoorKnR7
import Derived.Test.YtnihkomogiknaaaDoorKnR8
import Derived.Test.YtnihkomogiknaaaDoorKnR9
import Derived.Test.YtnihkomogiknaaaDoorKnR10
import Derived.Test.YtnihkomogiknaaaDoorKnR11
import Derived.Test.YtnihkomogiknaaaDoorKnR12
import Derived.Test.YtnihkomogiknaaaDoorKnR13
import Derived.KernelRfl
namespace Go.Proofs.YtnihkomogiknaaaDoor.kn
open Go.RowKit Go.Sim
set_option linter.unusedVariables false
set_option maxRecDepth 100000
theorem good13 [Sim.Ev] : RG Tryd.prog 4 Sim.isTrue (runG Tryd.prog 4 Sim.isTrue 36000) := run_good _ _ _ _
noncomputable def R13 : Run := runG Tryd.prog 4 Sim.isTrue 36000
noncomputable def R12 : Run := Sim.runN Tryd.prog 4 Sim.isTrue 36000 (keepR [0, 1, 2, 3, 4, 1024, 2043, 2044, 2045, 2046, 2047, 3066, 3067, 4086, 4087, 4094, 4096, 4325, 4326, 4327, 4601, 4602, 4603, 4604, 4833, 4834, 4835, 4836, 4837, 4838, 4839, 4840, 4841, 4842, 4865, 4873, 4874, 4875, 4906] R13)
theorem good12 [Sim.Ev] : RG Tryd.prog 4 Sim.isTrue R12 := runN_good (keepR_good good13 _) _
noncomputable def R11 : Run := Sim.runN Tryd.prog 4 Sim.isTrue 36300 (keepR [0, 1, 2, 3, 4, 1024, 2043, 2044, 2045, 2046, 2047, 3066, 3067, 4086, 4087, 4094, 4096, 4325, 4326, 4327, 4328, 4329, 4330, 4331, 4332, 4333, 4334, 4335, 4362, 4370, 4469, 4525, 4526] R12)
theorem good11 [Sim.Ev] : RG Tryd.prog 4 Sim.isTrue R11 := runN_good (keepR_good good12 _) _
noncomputable def R10 : Run := Sim.runN Tryd.prog 4 Sim.isTrue 36150 (keepR [0, 1, 2, 3, 4, 1024, 2043, 2044, 2045, 2046, 2047, 3066, 3067, 4086, 4087, 4094, 4095, 4096, 4098, 4099] R11)
theorem good10 [Sim.Ev] : RG Tryd.prog 4 Sim.isTrue R10 := runN_good (keepR_good good11 _) _
noncomputable def R9 : Run := Sim.runN Tryd.prog 4 Sim.isTrue 36000 (keepR [0, 1, 2, 3, 4, 1024, 2043, 2044, 2045, 2046, 2047, 3066, 3067, 3068, 3075, 3077, 3306, 3307, 3308, 3582, 3583, 3584, 3585, 3685, 3755, 3756] R10)
theorem good9 [Sim.Ev] : RG Tryd.prog 4 Sim.isTrue R9 := runN_good (keepR_good good10 _) _
noncomputable def R8 : Run := Sim.runN Tryd.prog 4 Sim.isTrue 36000 (keepR [0, 1, 2, 3, 4, 1024, 2043, 2044, 2045, 2046, 2047, 3066, 3067, 3068, 3075, 3077, 3306, 3307, 3308, 3309, 3310, 3311, 3312, 3313, 3314, 3315, 3316, 3343, 3351, 3352, 3353, 3401] R9)
theorem good8 [Sim.Ev] : RG Tryd.prog 4 Sim.isTrue R8 := runN_good (keepR_good good9 _) _
noncomputable def R7 : Run := Sim.runN Tryd.prog 4 Sim.isTrue 36150 (keepR [0, 1, 2, 3, 4, 1024, 2043, 2044, 2045, 2046, 2047, 2048, 2055, 2057, 2286, 2287, 2288, 2562, 2563, 2564, 2565, 2794, 2795, 2796, 2797, 2798, 2799, 2800, 2801, 2802, 2803, 2826, 2834, 2933, 3020, 3021] R8)
theorem good7 [Sim.Ev] : RG Tryd.prog 4 Sim.isTrue R7 := runN_good (keepR_good good8 _) _
noncomputable def R6 : Run := Sim.runN Tryd.prog 4 Sim.isTrue 36000 (keepR [0, 1, 2, 3, 4, 1024, 2043, 2044, 2045, 2046, 2047, 2048, 2055, 2057, 2286, 2287, 2288, 2562, 2563, 2564, 2565, 2567, 2568, 2636] R7)
theorem good6 [Sim.Ev] : RG Tryd.prog 4 Sim.isTrue R6 := runN_good (keepR_good good7 _) _
noncomputable def R5 : Run := Sim.runN Tryd.prog 4 Sim.isTrue 36150 (keepR [0, 1, 2, 3, 4, 1024, 2043, 2044, 2045, 2046, 2047, 2048, 2055, 2056, 2057, 2157, 2244, 2245] R6)
theorem good5 [Sim.Ev] : RG Tryd.prog 4 Sim.isTrue R5 := runN_good (keepR_good good6 _) _
noncomputable def R4 : Run := Sim.runN Tryd.prog 4 Sim.isTrue 36150 (keepR [0, 1, 2, 3, 4, 1024, 1025, 1032, 1034, 1263, 1264, 1265, 1539, 1540, 1541, 1542, 1771, 1772, 1773, 1774, 1775, 1776, 1777, 1778, 1779, 1780, 1803, 1811, 1812, 1813] R5)
theorem good4 [Sim.Ev] : RG Tryd.prog 4 Sim.isTrue R4 := runN_good (keepR_good good5 _) _
noncomputable def R3 : Run := Sim.runN Tryd.prog 4 Sim.isTrue 36150 (keepR [0, 1, 2, 3, 4, 1024, 1025, 1032, 1034, 1263, 1264, 1265, 1266, 1267, 1268, 1269, 1270, 1271, 1272, 1273, 1300, 1308, 1407, 1507, 1508] R4)
theorem good3 [Sim.Ev] : RG Tryd.prog 4 Sim.isTrue R3 := runN_good (keepR_good good4 _) _
noncomputable def R2 : Run := Sim.runN Tryd.prog 4 Sim.isTrue 36000 (keepR [0, 1, 2, 3, 4, 1024, 1025, 1032, 1033, 1034, 1036, 1037] R3)
theorem good2 [Sim.Ev] : RG Tryd.prog 4 Sim.isTrue R2 := runN_good (keepR_good good3 _) _
noncomputable def R1 : Run := Sim.runN Tryd.prog 4 Sim.isTrue 36000 (keepR [0, 1, 2, 3, 4, 5, 12, 14, 245, 246, 247, 521, 522, 523, 524, 624, 740, 741] R2)
theorem good1 [Sim.Ev] : RG Tryd.prog 4 Sim.isTrue R1 := runN_good (keepR_good good2 _) _

theorem e13 : R13 fr13 cs13 h13 = true := seg13
theorem e12 : R12 fr12 cs12 h12 = true := (congrFun seg12 R13).trans e13
theorem e11 : R11 fr11 cs11 h11 = true := (congrFun seg11 R12).trans e12
theorem e10 : R10 fr10 cs10 h10 = true := (congrFun seg10 R11).trans e11
theorem e9 : R9 fr9 cs9 h9 = true := (congrFun seg9 R10).trans e10
theorem e8 : R8 fr8 cs8 h8 = true := (congrFun seg8 R9).trans e9
theorem e7 : R7 fr7 cs7 h7 = true := (congrFun seg7 R8).trans e8
theorem e6 : R6 fr6 cs6 h6 = true := (congrFun seg6 R7).trans e7
theorem e5 : R5 fr5 cs5 h5 = true := (congrFun seg5 R6).trans e6
theorem e4 : R4 fr4 cs4 h4 = true := (congrFun seg4 R5).trans e5
theorem e3 : R3 fr3 cs3 h3 = true := (congrFun seg3 R4).trans e4
theorem e2 : R2 fr2 cs2 h2 = true := (congrFun seg2 R3).trans e3
theorem e1 : R1 fr1 cs1 h1 = true := (congrFun seg1 R2).trans e2

theorem mixed : Tryd.prog.follows .mixedOrders = true := by kernel_rfl
theorem e0 : runsR Tryd.prog fx noF 4 [] (Sim.runN Tryd.prog 4 Sim.isTrue 36000 (keepR [0, 1, 2, 3, 4, 5, 12, 14, 245, 246, 247, 248, 249, 250, 251, 252, 253, 254, 255, 282, 290, 389, 395, 396] R1)) = true := (congrFun seg0 R1).trans e1
theorem known (w : World) (hw : Sim.Holds fx w) (hG : Tryd.prog.globals.size ≤ w.heap.size) :
    Calls Tryd.prog 4 #[] w fun e w' => e = .returned (.bool true) ∧ Below w.heap.size w w' := by
  letI : Sim.Ev := ⟨fun _ => 0, fun _ => undef, fun _ _ _ => False, fun _ => none, fun _ _ _ _ h => by simp [undef] at h, fun _ _ h => by simp [undef] at h, fun _ _ _ _ => by simp⟩
  haveI : Sim.KOk Tryd.prog w.heap.size w := ⟨fun _ _ _ h => h.elim⟩
  exact Sim.true_of_R mixed (runN_good (keepR_good good1 _) _) e0 .nil w ⟨fun _ _ h => by simp [Sim.noF] at h, fun _ _ h => by simp [Sim.noF] at h, fun _ h => by simp [Sim.noF] at h, fun _ h => by simp [Sim.noF] at h, fun _ _ h => by simp [Sim.noF] at h, fun _ h => by simp [Sim.noF] at h⟩ (fun _ _ h => by cases h) hw hG
#print axioms known

end Go.Proofs.YtnihkomogiknaaaDoor.kn
