/- a run of the abstract machine in pieces (watchword, known()): the chain. No conditions. -/
import Derived.Test.YtaipgnmbigghlaaKnR0
import Derived.Test.YtaipgnmbigghlaaKnR1
import Derived.Test.YtaipgnmbigghlaaKnR2
import Derived.Test.YtaipgnmbigghlaaKnR3
import Derived.Test.YtaipgnmbigghlaaKnR4
import Derived.Test.YtaipgnmbigghlaaKnR5
import Derived.Test.YtaipgnmbigghlaaKnR6
import Derived.Test.YtaipgnmbigghlaaKnR7
import Derived.Test.YtaipgnmbigghlaaKnR8
import Derived.Test.YtaipgnmbigghlaaKnR9
import Derived.Test.YtaipgnmbigghlaaKnR10
import Derived.Test.YtaipgnmbigghlaaKnR11
import Derived.KernelRfl
namespace Go.Proofs.Ytaipgnmbigghlaa.kn
open Go.RowKit Go.Sim
set_option linter.unusedVariables false
set_option maxRecDepth 100000
theorem good45 [Sim.Ev] : RG Try.prog 4 Sim.isTrue (runG Try.prog 4 Sim.isTrue 10000) := run_good _ _ _ _
noncomputable def R45 : Run := runG Try.prog 4 Sim.isTrue 10000
noncomputable def R44 : Run := Sim.runN Try.prog 4 Sim.isTrue 10300 (keepR [0, 1, 4, 31, 32, 33, 34, 35, 316, 317, 318, 319, 320, 326, 327, 328, 329, 330] R45)
theorem good44 [Sim.Ev] : RG Try.prog 4 Sim.isTrue R44 := runN_good (keepR_good good45 _) _
noncomputable def R43 : Run := Sim.runN Try.prog 4 Sim.isTrue 10000 (keepR [0, 1, 4, 31, 32, 33, 34, 35, 146, 147, 148, 149, 150, 153, 154, 155] R44)
theorem good43 [Sim.Ev] : RG Try.prog 4 Sim.isTrue R43 := runN_good (keepR_good good44 _) _
noncomputable def R42 : Run := Sim.runN Try.prog 4 Sim.isTrue 10000 (keepR [0, 1, 4, 29, 30] R43)
theorem good42 [Sim.Ev] : RG Try.prog 4 Sim.isTrue R42 := runN_good (keepR_good good43 _) _
noncomputable def R41 : Run := Sim.runN Try.prog 4 Sim.isTrue 10000 (keepR [0, 1, 4, 29, 30] R42)
theorem good41 [Sim.Ev] : RG Try.prog 4 Sim.isTrue R41 := runN_good (keepR_good good42 _) _
noncomputable def R40 : Run := Sim.runN Try.prog 4 Sim.isTrue 10000 (keepR [0, 1, 4, 29, 30] R41)
theorem good40 [Sim.Ev] : RG Try.prog 4 Sim.isTrue R40 := runN_good (keepR_good good41 _) _
noncomputable def R39 : Run := Sim.runN Try.prog 4 Sim.isTrue 10150 (keepR [0, 1, 4, 29, 30] R40)
theorem good39 [Sim.Ev] : RG Try.prog 4 Sim.isTrue R39 := runN_good (keepR_good good40 _) _
noncomputable def R38 : Run := Sim.runN Try.prog 4 Sim.isTrue 10000 (keepR [0, 1, 4, 29, 30] R39)
theorem good38 [Sim.Ev] : RG Try.prog 4 Sim.isTrue R38 := runN_good (keepR_good good39 _) _
noncomputable def R37 : Run := Sim.runN Try.prog 4 Sim.isTrue 10000 (keepR [0, 1, 4, 29, 30] R38)
theorem good37 [Sim.Ev] : RG Try.prog 4 Sim.isTrue R37 := runN_good (keepR_good good38 _) _
noncomputable def R36 : Run := Sim.runN Try.prog 4 Sim.isTrue 10000 (keepR [0, 1, 4, 29, 30] R37)
theorem good36 [Sim.Ev] : RG Try.prog 4 Sim.isTrue R36 := runN_good (keepR_good good37 _) _
noncomputable def R35 : Run := Sim.runN Try.prog 4 Sim.isTrue 10000 (keepR [0, 1, 4, 29, 30] R36)
theorem good35 [Sim.Ev] : RG Try.prog 4 Sim.isTrue R35 := runN_good (keepR_good good36 _) _
noncomputable def R34 : Run := Sim.runN Try.prog 4 Sim.isTrue 10000 (keepR [0, 1, 4, 29, 30] R35)
theorem good34 [Sim.Ev] : RG Try.prog 4 Sim.isTrue R34 := runN_good (keepR_good good35 _) _
noncomputable def R33 : Run := Sim.runN Try.prog 4 Sim.isTrue 10000 (keepR [0, 1, 4, 29, 30] R34)
theorem good33 [Sim.Ev] : RG Try.prog 4 Sim.isTrue R33 := runN_good (keepR_good good34 _) _
noncomputable def R32 : Run := Sim.runN Try.prog 4 Sim.isTrue 10000 (keepR [0, 1, 4, 29, 30] R33)
theorem good32 [Sim.Ev] : RG Try.prog 4 Sim.isTrue R32 := runN_good (keepR_good good33 _) _
noncomputable def R31 : Run := Sim.runN Try.prog 4 Sim.isTrue 10000 (keepR [0, 1, 4, 27, 28] R32)
theorem good31 [Sim.Ev] : RG Try.prog 4 Sim.isTrue R31 := runN_good (keepR_good good32 _) _
noncomputable def R30 : Run := Sim.runN Try.prog 4 Sim.isTrue 10000 (keepR [0, 1, 4, 27, 28] R31)
theorem good30 [Sim.Ev] : RG Try.prog 4 Sim.isTrue R30 := runN_good (keepR_good good31 _) _
noncomputable def R29 : Run := Sim.runN Try.prog 4 Sim.isTrue 10300 (keepR [0, 1, 4, 27, 28] R30)
theorem good29 [Sim.Ev] : RG Try.prog 4 Sim.isTrue R29 := runN_good (keepR_good good30 _) _
noncomputable def R28 : Run := Sim.runN Try.prog 4 Sim.isTrue 10150 (keepR [0, 1, 4, 27, 28] R29)
theorem good28 [Sim.Ev] : RG Try.prog 4 Sim.isTrue R28 := runN_good (keepR_good good29 _) _
noncomputable def R27 : Run := Sim.runN Try.prog 4 Sim.isTrue 10150 (keepR [0, 1, 4, 27, 28] R28)
theorem good27 [Sim.Ev] : RG Try.prog 4 Sim.isTrue R27 := runN_good (keepR_good good28 _) _
noncomputable def R26 : Run := Sim.runN Try.prog 4 Sim.isTrue 10150 (keepR [0, 1, 4, 27, 28] R27)
theorem good26 [Sim.Ev] : RG Try.prog 4 Sim.isTrue R26 := runN_good (keepR_good good27 _) _
noncomputable def R25 : Run := Sim.runN Try.prog 4 Sim.isTrue 10000 (keepR [0, 1, 4, 27, 28] R26)
theorem good25 [Sim.Ev] : RG Try.prog 4 Sim.isTrue R25 := runN_good (keepR_good good26 _) _
noncomputable def R24 : Run := Sim.runN Try.prog 4 Sim.isTrue 10000 (keepR [0, 1, 4, 27, 28] R25)
theorem good24 [Sim.Ev] : RG Try.prog 4 Sim.isTrue R24 := runN_good (keepR_good good25 _) _
noncomputable def R23 : Run := Sim.runN Try.prog 4 Sim.isTrue 10150 (keepR [0, 1, 4, 27, 28] R24)
theorem good23 [Sim.Ev] : RG Try.prog 4 Sim.isTrue R23 := runN_good (keepR_good good24 _) _
noncomputable def R22 : Run := Sim.runN Try.prog 4 Sim.isTrue 10150 (keepR [0, 1, 4, 27, 28] R23)
theorem good22 [Sim.Ev] : RG Try.prog 4 Sim.isTrue R22 := runN_good (keepR_good good23 _) _
noncomputable def R21 : Run := Sim.runN Try.prog 4 Sim.isTrue 10150 (keepR [0, 1, 4, 25, 26] R22)
theorem good21 [Sim.Ev] : RG Try.prog 4 Sim.isTrue R21 := runN_good (keepR_good good22 _) _
noncomputable def R20 : Run := Sim.runN Try.prog 4 Sim.isTrue 10150 (keepR [0, 1, 4, 25, 26] R21)
theorem good20 [Sim.Ev] : RG Try.prog 4 Sim.isTrue R20 := runN_good (keepR_good good21 _) _
noncomputable def R19 : Run := Sim.runN Try.prog 4 Sim.isTrue 10000 (keepR [0, 1, 4, 25, 26] R20)
theorem good19 [Sim.Ev] : RG Try.prog 4 Sim.isTrue R19 := runN_good (keepR_good good20 _) _
noncomputable def R18 : Run := Sim.runN Try.prog 4 Sim.isTrue 10000 (keepR [0, 1, 4, 25, 26] R19)
theorem good18 [Sim.Ev] : RG Try.prog 4 Sim.isTrue R18 := runN_good (keepR_good good19 _) _
noncomputable def R17 : Run := Sim.runN Try.prog 4 Sim.isTrue 10000 (keepR [0, 1, 4, 25, 26] R18)
theorem good17 [Sim.Ev] : RG Try.prog 4 Sim.isTrue R17 := runN_good (keepR_good good18 _) _
noncomputable def R16 : Run := Sim.runN Try.prog 4 Sim.isTrue 10150 (keepR [0, 1, 4, 25, 26] R17)
theorem good16 [Sim.Ev] : RG Try.prog 4 Sim.isTrue R16 := runN_good (keepR_good good17 _) _
noncomputable def R15 : Run := Sim.runN Try.prog 4 Sim.isTrue 10000 (keepR [0, 1, 4, 25, 26] R16)
theorem good15 [Sim.Ev] : RG Try.prog 4 Sim.isTrue R15 := runN_good (keepR_good good16 _) _
noncomputable def R14 : Run := Sim.runN Try.prog 4 Sim.isTrue 10000 (keepR [0, 1, 4, 25, 26] R15)
theorem good14 [Sim.Ev] : RG Try.prog 4 Sim.isTrue R14 := runN_good (keepR_good good15 _) _
noncomputable def R13 : Run := Sim.runN Try.prog 4 Sim.isTrue 10000 (keepR [0, 1, 4, 25, 26] R14)
theorem good13 [Sim.Ev] : RG Try.prog 4 Sim.isTrue R13 := runN_good (keepR_good good14 _) _
noncomputable def R12 : Run := Sim.runN Try.prog 4 Sim.isTrue 10000 (keepR [0, 1, 4, 25, 26] R13)
theorem good12 [Sim.Ev] : RG Try.prog 4 Sim.isTrue R12 := runN_good (keepR_good good13 _) _
noncomputable def R11 : Run := Sim.runN Try.prog 4 Sim.isTrue 10000 (keepR [0, 1, 4, 25, 26] R12)
theorem good11 [Sim.Ev] : RG Try.prog 4 Sim.isTrue R11 := runN_good (keepR_good good12 _) _
noncomputable def R10 : Run := Sim.runN Try.prog 4 Sim.isTrue 10000 (keepR [0, 1, 4, 13, 14] R11)
theorem good10 [Sim.Ev] : RG Try.prog 4 Sim.isTrue R10 := runN_good (keepR_good good11 _) _
noncomputable def R9 : Run := Sim.runN Try.prog 4 Sim.isTrue 10150 (keepR [0, 1, 2, 3] R10)
theorem good9 [Sim.Ev] : RG Try.prog 4 Sim.isTrue R9 := runN_good (keepR_good good10 _) _
noncomputable def R8 : Run := Sim.runN Try.prog 4 Sim.isTrue 10150 (keepR [0, 1, 2, 3] R9)
theorem good8 [Sim.Ev] : RG Try.prog 4 Sim.isTrue R8 := runN_good (keepR_good good9 _) _
noncomputable def R7 : Run := Sim.runN Try.prog 4 Sim.isTrue 10000 (keepR [0, 1, 2, 3] R8)
theorem good7 [Sim.Ev] : RG Try.prog 4 Sim.isTrue R7 := runN_good (keepR_good good8 _) _
noncomputable def R6 : Run := Sim.runN Try.prog 4 Sim.isTrue 10150 (keepR [0, 1, 2, 3] R7)
theorem good6 [Sim.Ev] : RG Try.prog 4 Sim.isTrue R6 := runN_good (keepR_good good7 _) _
noncomputable def R5 : Run := Sim.runN Try.prog 4 Sim.isTrue 10000 (keepR [0, 1, 2, 3] R6)
theorem good5 [Sim.Ev] : RG Try.prog 4 Sim.isTrue R5 := runN_good (keepR_good good6 _) _
noncomputable def R4 : Run := Sim.runN Try.prog 4 Sim.isTrue 10150 (keepR [0, 1, 2, 3] R5)
theorem good4 [Sim.Ev] : RG Try.prog 4 Sim.isTrue R4 := runN_good (keepR_good good5 _) _
noncomputable def R3 : Run := Sim.runN Try.prog 4 Sim.isTrue 10000 (keepR [0, 1, 2, 3] R4)
theorem good3 [Sim.Ev] : RG Try.prog 4 Sim.isTrue R3 := runN_good (keepR_good good4 _) _
noncomputable def R2 : Run := Sim.runN Try.prog 4 Sim.isTrue 10000 (keepR [0, 1, 2, 3] R3)
theorem good2 [Sim.Ev] : RG Try.prog 4 Sim.isTrue R2 := runN_good (keepR_good good3 _) _
noncomputable def R1 : Run := Sim.runN Try.prog 4 Sim.isTrue 10000 (keepR [0, 1, 2, 3] R2)
theorem good1 [Sim.Ev] : RG Try.prog 4 Sim.isTrue R1 := runN_good (keepR_good good2 _) _

theorem e45 : R45 fr45 cs45 h45 = true := seg45
theorem e44 : R44 fr44 cs44 h44 = true := (congrFun seg44 R45).trans e45
theorem e43 : R43 fr43 cs43 h43 = true := (congrFun seg43 R44).trans e44
theorem e42 : R42 fr42 cs42 h42 = true := (congrFun seg42 R43).trans e43
theorem e41 : R41 fr41 cs41 h41 = true := (congrFun seg41 R42).trans e42
theorem e40 : R40 fr40 cs40 h40 = true := (congrFun seg40 R41).trans e41
theorem e39 : R39 fr39 cs39 h39 = true := (congrFun seg39 R40).trans e40
theorem e38 : R38 fr38 cs38 h38 = true := (congrFun seg38 R39).trans e39
theorem e37 : R37 fr37 cs37 h37 = true := (congrFun seg37 R38).trans e38
theorem e36 : R36 fr36 cs36 h36 = true := (congrFun seg36 R37).trans e37
theorem e35 : R35 fr35 cs35 h35 = true := (congrFun seg35 R36).trans e36
theorem e34 : R34 fr34 cs34 h34 = true := (congrFun seg34 R35).trans e35
theorem e33 : R33 fr33 cs33 h33 = true := (congrFun seg33 R34).trans e34
theorem e32 : R32 fr32 cs32 h32 = true := (congrFun seg32 R33).trans e33
theorem e31 : R31 fr31 cs31 h31 = true := (congrFun seg31 R32).trans e32
theorem e30 : R30 fr30 cs30 h30 = true := (congrFun seg30 R31).trans e31
theorem e29 : R29 fr29 cs29 h29 = true := (congrFun seg29 R30).trans e30
theorem e28 : R28 fr28 cs28 h28 = true := (congrFun seg28 R29).trans e29
theorem e27 : R27 fr27 cs27 h27 = true := (congrFun seg27 R28).trans e28
theorem e26 : R26 fr26 cs26 h26 = true := (congrFun seg26 R27).trans e27
theorem e25 : R25 fr25 cs25 h25 = true := (congrFun seg25 R26).trans e26
theorem e24 : R24 fr24 cs24 h24 = true := (congrFun seg24 R25).trans e25
theorem e23 : R23 fr23 cs23 h23 = true := (congrFun seg23 R24).trans e24
theorem e22 : R22 fr22 cs22 h22 = true := (congrFun seg22 R23).trans e23
theorem e21 : R21 fr21 cs21 h21 = true := (congrFun seg21 R22).trans e22
theorem e20 : R20 fr20 cs20 h20 = true := (congrFun seg20 R21).trans e21
theorem e19 : R19 fr19 cs19 h19 = true := (congrFun seg19 R20).trans e20
theorem e18 : R18 fr18 cs18 h18 = true := (congrFun seg18 R19).trans e19
theorem e17 : R17 fr17 cs17 h17 = true := (congrFun seg17 R18).trans e18
theorem e16 : R16 fr16 cs16 h16 = true := (congrFun seg16 R17).trans e17
theorem e15 : R15 fr15 cs15 h15 = true := (congrFun seg15 R16).trans e16
theorem e14 : R14 fr14 cs14 h14 = true := (congrFun seg14 R15).trans e15
theorem e13 : R13 fr13 cs13 h13 = true := (congrFun seg13 R14).trans e14
theorem e12 : R12 fr12 cs12 h12 = true := (congrFun seg12 R13).trans e13
theorem e11 : R11 fr11 cs11 h11 = true := (congrFun seg11 R12).trans e12
theorem e10 : R10 fr10 cs10 h10 = true := (congrFun seg10 R11).trans e11
theorem e9 : R9 fr9 cs9 h9 = true := (congrFun seg9 R10).trans e10
theorem e8 : R8 fr8 cs8 h8 = true := (congrFun seg8 R9).trans e9
theorem e7 : R7 fr7 cs7 h7 = true := (congrFun seg7 R8).trans e8
theorem e6 : R6 fr6 cs6 h6 = true := (congrFun seg6 R7).trans e7
theorem e5 : R5 fr5 cs5 h5 = true := (congrFun seg5 R6).trans e6
theorem e4 : R4 fr4 cs4 h4 = true := (congrFun seg4 R5).trans e5
theorem e3 : R3 fr3 cs3 h3 = true := (congrFun seg3 R4).trans e4
theorem e2 : R2 fr2 cs2 h2 = true := (congrFun seg2 R3).trans e3
theorem e1 : R1 fr1 cs1 h1 = true := (congrFun seg1 R2).trans e2

theorem mixed : Try.prog.follows .mixedOrders = true := by kernel_rfl
theorem e0 : runsR Try.prog fx noF 4 [] (Sim.runN Try.prog 4 Sim.isTrue 10000 (keepR [0, 1, 2, 3] R1)) = true := (congrFun seg0 R1).trans e1
theorem known (w : World) (hw : Sim.Holds fx w) (hG : Try.prog.globals.size ≤ w.heap.size) :
    Calls Try.prog 4 #[] w fun e w' => e = .returned (.bool true) ∧ Below w.heap.size w w' := by
  letI : Sim.Ev := ⟨fun _ => 0, fun _ => undef, fun _ _ _ => False, fun _ => none, fun _ _ _ _ h => by simp [undef] at h, fun _ _ h => by simp [undef] at h, fun _ _ _ _ => by simp⟩
  haveI : Sim.KOk Try.prog w.heap.size w := ⟨fun _ _ _ h => h.elim⟩
  exact Sim.true_of_R mixed (runN_good (keepR_good good1 _) _) e0 .nil w ⟨fun _ _ h => by simp [Sim.noF] at h, fun _ _ h => by simp [Sim.noF] at h, fun _ h => by simp [Sim.noF] at h, fun _ h => by simp [Sim.noF] at h, fun _ _ h => by simp [Sim.noF] at h, fun _ h => by simp [Sim.noF] at h⟩ (fun _ _ h => by cases h) hw hG
#print axioms known

end Go.Proofs.Ytaipgnmbigghlaa.kn
