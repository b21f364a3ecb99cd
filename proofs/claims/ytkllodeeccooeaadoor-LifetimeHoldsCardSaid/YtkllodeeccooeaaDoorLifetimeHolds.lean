/- LifetimeHolds (watchword): for every input the call returns true and the input reads as it did; where the tables that it reads hold what the program's text lays there. -/
import Derived.Test.YtkllodeeccooeaaDoorSymD
import Derived.Test.YtkllodeeccooeaaDoorChecked
import Derived.Test.YtkllodeeccooeaaDoorRows
import Derived.Test.YtkllodeeccooeaaDoorTie
import Derived.Test.YtkllodeeccooeaaDoorCards
import Derived.WalkKit
import Derived.ProofKit
import Derived.OpenShut
import Derived.ShutString
import Derived.HandedShaped
import Derived.LaidMore
import Derived.Lay
import Derived.Stop.Joined
import Derived.SevenTiedAt
import Derived.Test.YtkllodeeccooeaaDoorKnown2
import Derived.Test.YtkllodeeccooeaaDoorLifetimeHoldsR0
import Derived.Test.YtkllodeeccooeaaDoorLifetimeHoldsR1
import Derived.Test.YtkllodeeccooeaaDoorLifetimeHoldsR2
import Derived.Test.YtkllodeeccooeaaDoorLifetimeHoldsR3
import Derived.Test.YtkllodeeccooeaaDoorLifetimeHoldsR4
import Derived.Test.YtkllodeeccooeaaDoorLifetimeHoldsR5
import Derived.Test.YtkllodeeccooeaaDoorLifetimeHoldsR6
import Derived.Test.YtkllodeeccooeaaDoorLifetimeHoldsR7
import Derived.Test.YtkllodeeccooeaaDoorLifetimeHoldsR8
import Derived.Test.YtkllodeeccooeaaDoorLifetimeHoldsR9
import Derived.Test.YtkllodeeccooeaaDoorLifetimeHoldsR10
import Derived.Test.YtkllodeeccooeaaDoorLifetimeHoldsR11
import Derived.Test.YtkllodeeccooeaaDoorLifetimeHoldsR12
import Derived.Test.YtkllodeeccooeaaDoorLifetimeHoldsR13
import Derived.Test.YtkllodeeccooeaaDoorLifetimeHoldsR14
import Derived.Test.YtkllodeeccooeaaDoorLifetimeHoldsR15
import Derived.Test.YtkllodeeccooeaaDoorLifetimeHoldsR16
import Derived.Test.YtkllodeeccooeaaDoorLifetimeHoldsR17
import Derived.Test.YtkllodeeccooeaaDoorLifetimeHoldsR18
import Derived.Test.YtkllodeeccooeaaDoorLifetimeHoldsR19
import Derived.Test.YtkllodeeccooeaaDoorLifetimeHoldsR20
import Derived.Test.YtkllodeeccooeaaDoorLifetimeHoldsR21
import Derived.Test.YtkllodeeccooeaaDoorLifetimeHoldsR22
import Derived.Test.YtkllodeeccooeaaDoorLifetimeHoldsR23
import Derived.Test.YtkllodeeccooeaaDoorLifetimeHoldsR24
import Derived.Test.YtkllodeeccooeaaDoorLifetimeHoldsR25
import Derived.Test.YtkllodeeccooeaaDoorLifetimeHoldsR26
import Derived.Test.YtkllodeeccooeaaDoorLifetimeHoldsR27
import Derived.Test.YtkllodeeccooeaaDoorLifetimeHoldsR28
import Derived.Test.YtkllodeeccooeaaDoorLifetimeHoldsR29
import Derived.Test.YtkllodeeccooeaaDoorLifetimeHoldsR30
import Derived.Test.YtkllodeeccooeaaDoorLifetimeHoldsR31
import Derived.Test.YtkllodeeccooeaaDoorLifetimeHoldsR32
import Derived.Test.YtkllodeeccooeaaDoorLifetimeHoldsR33
import Derived.Test.YtkllodeeccooeaaDoorLifetimeHoldsR34
import Derived.Test.YtkllodeeccooeaaDoorLifetimeHoldsR35
import Derived.Test.YtkllodeeccooeaaDoorLifetimeHoldsR36
import Derived.Test.YtkllodeeccooeaaDoorLifetimeHoldsR37
import Derived.Test.YtkllodeeccooeaaDoorLifetimeHoldsR38
import Derived.Test.YtkllodeeccooeaaDoorLifetimeHoldsR39
import Derived.Test.YtkllodeeccooeaaDoorLifetimeHoldsX0
import Derived.Test.YtkllodeeccooeaaDoorLifetimeHoldsX1
import Derived.Test.YtkllodeeccooeaaDoorLifetimeHoldsX2
import Derived.Test.YtkllodeeccooeaaDoorLifetimeHoldsX3
import Derived.Test.YtkllodeeccooeaaDoorLifetimeHoldsX4
import Derived.Test.YtkllodeeccooeaaDoorLifetimeHoldsX5
namespace Go.Proofs.YtkllodeeccooeaaDoor.lifetimeHolds
open Go.ChangeShapes Go.WideShapes Go.ChangeAt Go.RowKit
set_option linter.unusedVariables false

theorem own : ownKnob Tryd.prog.godebug = none := by kernel_rfl
theorem mixed : Tryd.prog.follows .mixedOrders = true := by kernel_rfl
theorem laidOut : laidOutB Tryd.prog = true := by kernel_rfl
theorem args : Sim.argsA Tryd.prog Tryd.f3.params.toList = some shp := by kernel_rfl
theorem t262_14 : Sim.AllR rn q262_14 sub14 := ⟨⟨r262_e00, r262_e01⟩, ⟨r262_e10, r262_e11⟩⟩
theorem t262_13 : Sim.AllR rn q262_13 sub13 := ⟨t262_14, r262_13⟩
theorem t262_12 : Sim.AllR rn q262_12 sub12 := ⟨t262_13, r262_12⟩
theorem t262_11 : Sim.AllR rn q262_11 sub11 := ⟨t262_12, r262_11⟩
theorem t262_10 : Sim.AllR rn q262_10 sub10 := ⟨t262_11, r262_10⟩
theorem t262_9 : Sim.AllR rn q262_9 sub9 := ⟨t262_10, r262_9⟩
theorem t262_8 : Sim.AllR rn q262_8 sub8 := ⟨t262_9, r262_8⟩
theorem t262_7 : Sim.AllR rn q262_7 sub7 := ⟨t262_8, r262_7⟩
theorem t262_6 : Sim.AllR rn q262_6 sub6 := ⟨t262_7, r262_6⟩
theorem t262_5 : Sim.AllR rn q262_5 sub5 := ⟨t262_6, r262_5⟩
theorem t262_4 : Sim.AllR rn q262_4 sub4 := ⟨t262_5, r262_4⟩
theorem t262_3 : Sim.AllR rn q262_3 sub3 := ⟨t262_4, r262_3⟩
theorem t262_2 : Sim.AllR rn q262_2 sub2 := ⟨t262_3, r262_2⟩
theorem t262_1 : Sim.AllR rn q262_1 sub1 := ⟨t262_2, r262_1⟩
theorem t262_0 : Sim.AllR rn q262_0 sub0 := ⟨t262_1, r262_0⟩
theorem t262 : Sim.AllR rn k262 sub0 := t262_0
theorem t261_14 : Sim.AllR rn q261_14 sub14 := ⟨⟨r261_e00, r261_e01⟩, ⟨r261_e10, r261_e11⟩⟩
theorem t261_13 : Sim.AllR rn q261_13 sub13 := ⟨t261_14, r261_13⟩
theorem t261_12 : Sim.AllR rn q261_12 sub12 := ⟨t261_13, r261_12⟩
theorem t261_11 : Sim.AllR rn q261_11 sub11 := ⟨t261_12, r261_11⟩
theorem t261_10 : Sim.AllR rn q261_10 sub10 := ⟨t261_11, r261_10⟩
theorem t261_9 : Sim.AllR rn q261_9 sub9 := ⟨t261_10, r261_9⟩
theorem t261_8 : Sim.AllR rn q261_8 sub8 := ⟨t261_9, r261_8⟩
theorem t261_7 : Sim.AllR rn q261_7 sub7 := ⟨t261_8, r261_7⟩
theorem t261_6 : Sim.AllR rn q261_6 sub6 := ⟨t261_7, r261_6⟩
theorem t261_5 : Sim.AllR rn q261_5 sub5 := ⟨t261_6, r261_5⟩
theorem t261_4 : Sim.AllR rn q261_4 sub4 := ⟨t261_5, r261_4⟩
theorem t261_3 : Sim.AllR rn q261_3 sub3 := ⟨t261_4, r261_3⟩
theorem t261_2 : Sim.AllR rn q261_2 sub2 := ⟨t261_3, r261_2⟩
theorem t261_1 : Sim.AllR rn q261_1 sub1 := ⟨t261_2, r261_1⟩
theorem t261_0 : Sim.AllR rn q261_0 sub0 := ⟨t261_1, r261_0⟩
theorem t261 : Sim.AllR rn k261 sub0 := t261_0
theorem t260_14 : Sim.AllR rn q260_14 sub14 := ⟨⟨r260_e00, r260_e01⟩, ⟨r260_e10, r260_e11⟩⟩
theorem t260_13 : Sim.AllR rn q260_13 sub13 := ⟨t260_14, r260_13⟩
theorem t260_12 : Sim.AllR rn q260_12 sub12 := ⟨t260_13, r260_12⟩
theorem t260_11 : Sim.AllR rn q260_11 sub11 := ⟨t260_12, r260_11⟩
theorem t260_10 : Sim.AllR rn q260_10 sub10 := ⟨t260_11, r260_10⟩
theorem t260_9 : Sim.AllR rn q260_9 sub9 := ⟨t260_10, r260_9⟩
theorem t260_8 : Sim.AllR rn q260_8 sub8 := ⟨t260_9, r260_8⟩
theorem t260_7 : Sim.AllR rn q260_7 sub7 := ⟨t260_8, r260_7⟩
theorem t260_6 : Sim.AllR rn q260_6 sub6 := ⟨t260_7, r260_6⟩
theorem t260_5 : Sim.AllR rn q260_5 sub5 := ⟨t260_6, r260_5⟩
theorem t260_4 : Sim.AllR rn q260_4 sub4 := ⟨t260_5, r260_4⟩
theorem t260_3 : Sim.AllR rn q260_3 sub3 := ⟨t260_4, r260_3⟩
theorem t260_2 : Sim.AllR rn q260_2 sub2 := ⟨t260_3, r260_2⟩
theorem t260_1 : Sim.AllR rn q260_1 sub1 := ⟨t260_2, r260_1⟩
theorem t260_0 : Sim.AllR rn q260_0 sub0 := ⟨t260_1, r260_0⟩
theorem t260 : Sim.AllR rn k260 sub0 := t260_0
theorem t259_14 : Sim.AllR rn q259_14 sub14 := ⟨⟨r259_e00, r259_e01⟩, ⟨r259_e10, r259_e11⟩⟩
theorem t259_13 : Sim.AllR rn q259_13 sub13 := ⟨t259_14, r259_13⟩
theorem t259_12 : Sim.AllR rn q259_12 sub12 := ⟨t259_13, r259_12⟩
theorem t259_11 : Sim.AllR rn q259_11 sub11 := ⟨t259_12, r259_11⟩
theorem t259_10 : Sim.AllR rn q259_10 sub10 := ⟨t259_11, r259_10⟩
theorem t259_9 : Sim.AllR rn q259_9 sub9 := ⟨t259_10, r259_9⟩
theorem t259_8 : Sim.AllR rn q259_8 sub8 := ⟨t259_9, r259_8⟩
theorem t259_7 : Sim.AllR rn q259_7 sub7 := ⟨t259_8, r259_7⟩
theorem t259_6 : Sim.AllR rn q259_6 sub6 := ⟨t259_7, r259_6⟩
theorem t259_5 : Sim.AllR rn q259_5 sub5 := ⟨t259_6, r259_5⟩
theorem t259_4 : Sim.AllR rn q259_4 sub4 := ⟨t259_5, r259_4⟩
theorem t259_3 : Sim.AllR rn q259_3 sub3 := ⟨t259_4, r259_3⟩
theorem t259_2 : Sim.AllR rn q259_2 sub2 := ⟨t259_3, r259_2⟩
theorem t259_1 : Sim.AllR rn q259_1 sub1 := ⟨t259_2, r259_1⟩
theorem t259_0 : Sim.AllR rn q259_0 sub0 := ⟨t259_1, r259_0⟩
theorem t259 : Sim.AllR rn k259 sub0 := t259_0
theorem t258_14 : Sim.AllR rn q258_14 sub14 := ⟨⟨r258_e00, r258_e01⟩, ⟨r258_e10, r258_e11⟩⟩
theorem t258_13 : Sim.AllR rn q258_13 sub13 := ⟨t258_14, r258_13⟩
theorem t258_12 : Sim.AllR rn q258_12 sub12 := ⟨t258_13, r258_12⟩
theorem t258_11 : Sim.AllR rn q258_11 sub11 := ⟨t258_12, r258_11⟩
theorem t258_10 : Sim.AllR rn q258_10 sub10 := ⟨t258_11, r258_10⟩
theorem t258_9 : Sim.AllR rn q258_9 sub9 := ⟨t258_10, r258_9⟩
theorem t258_8 : Sim.AllR rn q258_8 sub8 := ⟨t258_9, r258_8⟩
theorem t258_7 : Sim.AllR rn q258_7 sub7 := ⟨t258_8, r258_7⟩
theorem t258_6 : Sim.AllR rn q258_6 sub6 := ⟨t258_7, r258_6⟩
theorem t258_5 : Sim.AllR rn q258_5 sub5 := ⟨t258_6, r258_5⟩
theorem t258_4 : Sim.AllR rn q258_4 sub4 := ⟨t258_5, r258_4⟩
theorem t258_3 : Sim.AllR rn q258_3 sub3 := ⟨t258_4, r258_3⟩
theorem t258_2 : Sim.AllR rn q258_2 sub2 := ⟨t258_3, r258_2⟩
theorem t258_1 : Sim.AllR rn q258_1 sub1 := ⟨t258_2, r258_1⟩
theorem t258_0 : Sim.AllR rn q258_0 sub0 := ⟨t258_1, r258_0⟩
theorem t258 : Sim.AllR rn k258 sub0 := t258_0
theorem t257_14 : Sim.AllR rn q257_14 sub14 := ⟨⟨r257_e00, r257_e01⟩, ⟨r257_e10, r257_e11⟩⟩
theorem t257_13 : Sim.AllR rn q257_13 sub13 := ⟨t257_14, r257_13⟩
theorem t257_12 : Sim.AllR rn q257_12 sub12 := ⟨t257_13, r257_12⟩
theorem t257_11 : Sim.AllR rn q257_11 sub11 := ⟨t257_12, r257_11⟩
theorem t257_10 : Sim.AllR rn q257_10 sub10 := ⟨t257_11, r257_10⟩
theorem t257_9 : Sim.AllR rn q257_9 sub9 := ⟨t257_10, r257_9⟩
theorem t257_8 : Sim.AllR rn q257_8 sub8 := ⟨t257_9, r257_8⟩
theorem t257_7 : Sim.AllR rn q257_7 sub7 := ⟨t257_8, r257_7⟩
theorem t257_6 : Sim.AllR rn q257_6 sub6 := ⟨t257_7, r257_6⟩
theorem t257_5 : Sim.AllR rn q257_5 sub5 := ⟨t257_6, r257_5⟩
theorem t257_4 : Sim.AllR rn q257_4 sub4 := ⟨t257_5, r257_4⟩
theorem t257_3 : Sim.AllR rn q257_3 sub3 := ⟨t257_4, r257_3⟩
theorem t257_2 : Sim.AllR rn q257_2 sub2 := ⟨t257_3, r257_2⟩
theorem t257_1 : Sim.AllR rn q257_1 sub1 := ⟨t257_2, r257_1⟩
theorem t257_0 : Sim.AllR rn q257_0 sub0 := ⟨t257_1, r257_0⟩
theorem t257 : Sim.AllR rn k257 sub0 := t257_0
theorem t256_14 : Sim.AllR rn q256_14 sub14 := ⟨⟨r256_e00, r256_e01⟩, ⟨r256_e10, r256_e11⟩⟩
theorem t256_13 : Sim.AllR rn q256_13 sub13 := ⟨t256_14, r256_13⟩
theorem t256_12 : Sim.AllR rn q256_12 sub12 := ⟨t256_13, r256_12⟩
theorem t256_11 : Sim.AllR rn q256_11 sub11 := ⟨t256_12, r256_11⟩
theorem t256_10 : Sim.AllR rn q256_10 sub10 := ⟨t256_11, r256_10⟩
theorem t256_9 : Sim.AllR rn q256_9 sub9 := ⟨t256_10, r256_9⟩
theorem t256_8 : Sim.AllR rn q256_8 sub8 := ⟨t256_9, r256_8⟩
theorem t256_7 : Sim.AllR rn q256_7 sub7 := ⟨t256_8, r256_7⟩
theorem t256_6 : Sim.AllR rn q256_6 sub6 := ⟨t256_7, r256_6⟩
theorem t256_5 : Sim.AllR rn q256_5 sub5 := ⟨t256_6, r256_5⟩
theorem t256_4 : Sim.AllR rn q256_4 sub4 := ⟨t256_5, r256_4⟩
theorem t256_3 : Sim.AllR rn q256_3 sub3 := ⟨t256_4, r256_3⟩
theorem t256_2 : Sim.AllR rn q256_2 sub2 := ⟨t256_3, r256_2⟩
theorem t256_1 : Sim.AllR rn q256_1 sub1 := ⟨t256_2, r256_1⟩
theorem t256_0 : Sim.AllR rn q256_0 sub0 := ⟨t256_1, r256_0⟩
theorem t256 : Sim.AllR rn k256 sub0 := t256_0
theorem t255_14 : Sim.AllR rn q255_14 sub14 := ⟨⟨r255_e00, r255_e01⟩, ⟨r255_e10, r255_e11⟩⟩
theorem t255_13 : Sim.AllR rn q255_13 sub13 := ⟨t255_14, r255_13⟩
theorem t255_12 : Sim.AllR rn q255_12 sub12 := ⟨t255_13, r255_12⟩
theorem t255_11 : Sim.AllR rn q255_11 sub11 := ⟨t255_12, r255_11⟩
theorem t255_10 : Sim.AllR rn q255_10 sub10 := ⟨t255_11, r255_10⟩
theorem t255_9 : Sim.AllR rn q255_9 sub9 := ⟨t255_10, r255_9⟩
theorem t255_8 : Sim.AllR rn q255_8 sub8 := ⟨t255_9, r255_8⟩
theorem t255_7 : Sim.AllR rn q255_7 sub7 := ⟨t255_8, r255_7⟩
theorem t255_6 : Sim.AllR rn q255_6 sub6 := ⟨t255_7, r255_6⟩
theorem t255_5 : Sim.AllR rn q255_5 sub5 := ⟨t255_6, r255_5⟩
theorem t255_4 : Sim.AllR rn q255_4 sub4 := ⟨t255_5, r255_4⟩
theorem t255_3 : Sim.AllR rn q255_3 sub3 := ⟨t255_4, r255_3⟩
theorem t255_2 : Sim.AllR rn q255_2 sub2 := ⟨t255_3, r255_2⟩
theorem t255_1 : Sim.AllR rn q255_1 sub1 := ⟨t255_2, r255_1⟩
theorem t255_0 : Sim.AllR rn q255_0 sub0 := ⟨t255_1, r255_0⟩
theorem t255 : Sim.AllR rn k255 sub0 := t255_0
theorem t254_14 : Sim.AllR rn q254_14 sub14 := ⟨⟨r254_e00, r254_e01⟩, ⟨r254_e10, r254_e11⟩⟩
theorem t254_13 : Sim.AllR rn q254_13 sub13 := ⟨t254_14, r254_13⟩
theorem t254_12 : Sim.AllR rn q254_12 sub12 := ⟨t254_13, r254_12⟩
theorem t254_11 : Sim.AllR rn q254_11 sub11 := ⟨t254_12, r254_11⟩
theorem t254_10 : Sim.AllR rn q254_10 sub10 := ⟨t254_11, r254_10⟩
theorem t254_9 : Sim.AllR rn q254_9 sub9 := ⟨t254_10, r254_9⟩
theorem t254_8 : Sim.AllR rn q254_8 sub8 := ⟨t254_9, r254_8⟩
theorem t254_7 : Sim.AllR rn q254_7 sub7 := ⟨t254_8, r254_7⟩
theorem t254_6 : Sim.AllR rn q254_6 sub6 := ⟨t254_7, r254_6⟩
theorem t254_5 : Sim.AllR rn q254_5 sub5 := ⟨t254_6, r254_5⟩
theorem t254_4 : Sim.AllR rn q254_4 sub4 := ⟨t254_5, r254_4⟩
theorem t254_3 : Sim.AllR rn q254_3 sub3 := ⟨t254_4, r254_3⟩
theorem t254_2 : Sim.AllR rn q254_2 sub2 := ⟨t254_3, r254_2⟩
theorem t254_1 : Sim.AllR rn q254_1 sub1 := ⟨t254_2, r254_1⟩
theorem t254_0 : Sim.AllR rn q254_0 sub0 := ⟨t254_1, r254_0⟩
theorem t254 : Sim.AllR rn k254 sub0 := t254_0
theorem t253_14 : Sim.AllR rn q253_14 sub14 := ⟨⟨r253_e00, r253_e01⟩, ⟨r253_e10, r253_e11⟩⟩
theorem t253_13 : Sim.AllR rn q253_13 sub13 := ⟨t253_14, r253_13⟩
theorem t253_12 : Sim.AllR rn q253_12 sub12 := ⟨t253_13, r253_12⟩
theorem t253_11 : Sim.AllR rn q253_11 sub11 := ⟨t253_12, r253_11⟩
theorem t253_10 : Sim.AllR rn q253_10 sub10 := ⟨t253_11, r253_10⟩
theorem t253_9 : Sim.AllR rn q253_9 sub9 := ⟨t253_10, r253_9⟩
theorem t253_8 : Sim.AllR rn q253_8 sub8 := ⟨t253_9, r253_8⟩
theorem t253_7 : Sim.AllR rn q253_7 sub7 := ⟨t253_8, r253_7⟩
theorem t253_6 : Sim.AllR rn q253_6 sub6 := ⟨t253_7, r253_6⟩
theorem t253_5 : Sim.AllR rn q253_5 sub5 := ⟨t253_6, r253_5⟩
theorem t253_4 : Sim.AllR rn q253_4 sub4 := ⟨t253_5, r253_4⟩
theorem t253_3 : Sim.AllR rn q253_3 sub3 := ⟨t253_4, r253_3⟩
theorem t253_2 : Sim.AllR rn q253_2 sub2 := ⟨t253_3, r253_2⟩
theorem t253_1 : Sim.AllR rn q253_1 sub1 := ⟨t253_2, r253_1⟩
theorem t253_0 : Sim.AllR rn q253_0 sub0 := ⟨t253_1, r253_0⟩
theorem t253 : Sim.AllR rn k253 sub0 := t253_0
theorem all39 : Sim.AllR rn k39 s39 := run39
theorem all40 : Sim.AllR rn k40 s40 := run40
theorem all38 : Sim.AllR rn k38 s38 := by
  have ha := all39
  have hb := all40
  rw [← up38] at ha
  rw [← un38] at hb
  exact ⟨ha, hb⟩
theorem all42 : Sim.AllR rn k42 s42 := run42
theorem all43 : Sim.AllR rn k43 s43 := run43
theorem all41 : Sim.AllR rn k41 s41 := by
  have ha := all42
  have hb := all43
  rw [← up41] at ha
  rw [← un41] at hb
  exact ⟨ha, hb⟩
theorem all37 : Sim.AllR rn k37 s37 := by
  have ha := all38
  have hb := all41
  rw [← up37] at ha
  rw [← un37] at hb
  exact ⟨ha, hb⟩
theorem all44 : Sim.AllR rn k44 s44 := run44
theorem all36 : Sim.AllR rn k36 s36 := by
  have ha := all37
  have hb := all44
  rw [← up36] at ha
  rw [← un36] at hb
  exact ⟨ha, hb⟩
theorem all48 : Sim.AllR rn k48 s48 := run48
theorem all49 : Sim.AllR rn k49 s49 := run49
theorem all47 : Sim.AllR rn k47 s47 := by
  have ha := all48
  have hb := all49
  rw [← up47] at ha
  rw [← un47] at hb
  exact ⟨ha, hb⟩
theorem all51 : Sim.AllR rn k51 s51 := run51
theorem all52 : Sim.AllR rn k52 s52 := run52
theorem all50 : Sim.AllR rn k50 s50 := by
  have ha := all51
  have hb := all52
  rw [← up50] at ha
  rw [← un50] at hb
  exact ⟨ha, hb⟩
theorem all46 : Sim.AllR rn k46 s46 := by
  have ha := all47
  have hb := all50
  rw [← up46] at ha
  rw [← un46] at hb
  exact ⟨ha, hb⟩
theorem all53 : Sim.AllR rn k53 s53 := run53
theorem all45 : Sim.AllR rn k45 s45 := by
  have ha := all46
  have hb := all53
  rw [← up45] at ha
  rw [← un45] at hb
  exact ⟨ha, hb⟩
theorem all35 : Sim.AllR rn k35 s35 := by
  have ha := all36
  have hb := all45
  rw [← up35] at ha
  rw [← un35] at hb
  exact ⟨ha, hb⟩
theorem all55 : Sim.AllR rn k55 s55 := run55
theorem all56 : Sim.AllR rn k56 s56 := run56
theorem all54 : Sim.AllR rn k54 s54 := by
  have ha := all55
  have hb := all56
  rw [← up54] at ha
  rw [← un54] at hb
  exact ⟨ha, hb⟩
theorem all34 : Sim.AllR rn k34 s34 := by
  have ha := all35
  have hb := all54
  rw [← up34] at ha
  rw [← un34] at hb
  exact ⟨ha, hb⟩
theorem all58 : Sim.AllR rn k58 s58 := run58
theorem all59 : Sim.AllR rn k59 s59 := run59
theorem all57 : Sim.AllR rn k57 s57 := by
  have ha := all58
  have hb := all59
  rw [← up57] at ha
  rw [← un57] at hb
  exact ⟨ha, hb⟩
theorem all33 : Sim.AllR rn k33 s33 := by
  have ha := all34
  have hb := all57
  rw [← up33] at ha
  rw [← un33] at hb
  exact ⟨ha, hb⟩
theorem all63 : Sim.AllR rn k63 s63 := run63
theorem all64 : Sim.AllR rn k64 s64 := run64
theorem all62 : Sim.AllR rn k62 s62 := by
  have ha := all63
  have hb := all64
  rw [← up62] at ha
  rw [← un62] at hb
  exact ⟨ha, hb⟩
theorem all65 : Sim.AllR rn k65 s65 := run65
theorem all61 : Sim.AllR rn k61 s61 := by
  have ha := all62
  have hb := all65
  rw [← up61] at ha
  rw [← un61] at hb
  exact ⟨ha, hb⟩
theorem all66 : Sim.AllR rn k66 s66 := run66
theorem all60 : Sim.AllR rn k60 s60 := by
  have ha := all61
  have hb := all66
  rw [← up60] at ha
  rw [← un60] at hb
  exact ⟨ha, hb⟩
theorem all32 : Sim.AllR rn k32 s32 := by
  have ha := all33
  have hb := all60
  rw [← up32] at ha
  rw [← un32] at hb
  exact ⟨ha, hb⟩
theorem all72 : Sim.AllR rn k72 s72 := run72
theorem all73 : Sim.AllR rn k73 s73 := run73
theorem all71 : Sim.AllR rn k71 s71 := by
  have ha := all72
  have hb := all73
  rw [← up71] at ha
  rw [← un71] at hb
  exact ⟨ha, hb⟩
theorem all74 : Sim.AllR rn k74 s74 := run74
theorem all70 : Sim.AllR rn k70 s70 := by
  have ha := all71
  have hb := all74
  rw [← up70] at ha
  rw [← un70] at hb
  exact ⟨ha, hb⟩
theorem all75 : Sim.AllR rn k75 s75 := run75
theorem all69 : Sim.AllR rn k69 s69 := by
  have ha := all70
  have hb := all75
  rw [← up69] at ha
  rw [← un69] at hb
  exact ⟨ha, hb⟩
theorem all76 : Sim.AllR rn k76 s76 := run76
theorem all68 : Sim.AllR rn k68 s68 := by
  have ha := all69
  have hb := all76
  rw [← up68] at ha
  rw [← un68] at hb
  exact ⟨ha, hb⟩
theorem all79 : Sim.AllR rn k79 s79 := run79
theorem all80 : Sim.AllR rn k80 s80 := run80
theorem all78 : Sim.AllR rn k78 s78 := by
  have ha := all79
  have hb := all80
  rw [← up78] at ha
  rw [← un78] at hb
  exact ⟨ha, hb⟩
theorem all81 : Sim.AllR rn k81 s81 := run81
theorem all77 : Sim.AllR rn k77 s77 := by
  have ha := all78
  have hb := all81
  rw [← up77] at ha
  rw [← un77] at hb
  exact ⟨ha, hb⟩
theorem all67 : Sim.AllR rn k67 s67 := by
  have ha := all68
  have hb := all77
  rw [← up67] at ha
  rw [← un67] at hb
  exact ⟨ha, hb⟩
theorem all31 : Sim.AllR rn k31 s31 := by
  have ha := all32
  have hb := all67
  rw [← up31] at ha
  rw [← un31] at hb
  exact ⟨ha, hb⟩
theorem all90 : Sim.AllR rn k90 s90 := run90
theorem all91 : Sim.AllR rn k91 s91 := run91
theorem all89 : Sim.AllR rn k89 s89 := by
  have ha := all90
  have hb := all91
  rw [← up89] at ha
  rw [← un89] at hb
  exact ⟨ha, hb⟩
theorem all93 : Sim.AllR rn k93 s93 := run93
theorem all94 : Sim.AllR rn k94 s94 := run94
theorem all92 : Sim.AllR rn k92 s92 := by
  have ha := all93
  have hb := all94
  rw [← up92] at ha
  rw [← un92] at hb
  exact ⟨ha, hb⟩
theorem all88 : Sim.AllR rn k88 s88 := by
  have ha := all89
  have hb := all92
  rw [← up88] at ha
  rw [← un88] at hb
  exact ⟨ha, hb⟩
theorem all95 : Sim.AllR rn k95 s95 := run95
theorem all87 : Sim.AllR rn k87 s87 := by
  have ha := all88
  have hb := all95
  rw [← up87] at ha
  rw [← un87] at hb
  exact ⟨ha, hb⟩
theorem all99 : Sim.AllR rn k99 s99 := run99
theorem all100 : Sim.AllR rn k100 s100 := run100
theorem all98 : Sim.AllR rn k98 s98 := by
  have ha := all99
  have hb := all100
  rw [← up98] at ha
  rw [← un98] at hb
  exact ⟨ha, hb⟩
theorem all102 : Sim.AllR rn k102 s102 := run102
theorem all103 : Sim.AllR rn k103 s103 := run103
theorem all101 : Sim.AllR rn k101 s101 := by
  have ha := all102
  have hb := all103
  rw [← up101] at ha
  rw [← un101] at hb
  exact ⟨ha, hb⟩
theorem all97 : Sim.AllR rn k97 s97 := by
  have ha := all98
  have hb := all101
  rw [← up97] at ha
  rw [← un97] at hb
  exact ⟨ha, hb⟩
theorem all104 : Sim.AllR rn k104 s104 := run104
theorem all96 : Sim.AllR rn k96 s96 := by
  have ha := all97
  have hb := all104
  rw [← up96] at ha
  rw [← un96] at hb
  exact ⟨ha, hb⟩
theorem all86 : Sim.AllR rn k86 s86 := by
  have ha := all87
  have hb := all96
  rw [← up86] at ha
  rw [← un86] at hb
  exact ⟨ha, hb⟩
theorem all106 : Sim.AllR rn k106 s106 := run106
theorem all107 : Sim.AllR rn k107 s107 := run107
theorem all105 : Sim.AllR rn k105 s105 := by
  have ha := all106
  have hb := all107
  rw [← up105] at ha
  rw [← un105] at hb
  exact ⟨ha, hb⟩
theorem all85 : Sim.AllR rn k85 s85 := by
  have ha := all86
  have hb := all105
  rw [← up85] at ha
  rw [← un85] at hb
  exact ⟨ha, hb⟩
theorem all109 : Sim.AllR rn k109 s109 := run109
theorem all110 : Sim.AllR rn k110 s110 := run110
theorem all108 : Sim.AllR rn k108 s108 := by
  have ha := all109
  have hb := all110
  rw [← up108] at ha
  rw [← un108] at hb
  exact ⟨ha, hb⟩
theorem all84 : Sim.AllR rn k84 s84 := by
  have ha := all85
  have hb := all108
  rw [← up84] at ha
  rw [← un84] at hb
  exact ⟨ha, hb⟩
theorem all114 : Sim.AllR rn k114 s114 := run114
theorem all115 : Sim.AllR rn k115 s115 := run115
theorem all113 : Sim.AllR rn k113 s113 := by
  have ha := all114
  have hb := all115
  rw [← up113] at ha
  rw [← un113] at hb
  exact ⟨ha, hb⟩
theorem all116 : Sim.AllR rn k116 s116 := run116
theorem all112 : Sim.AllR rn k112 s112 := by
  have ha := all113
  have hb := all116
  rw [← up112] at ha
  rw [← un112] at hb
  exact ⟨ha, hb⟩
theorem all117 : Sim.AllR rn k117 s117 := run117
theorem all111 : Sim.AllR rn k111 s111 := by
  have ha := all112
  have hb := all117
  rw [← up111] at ha
  rw [← un111] at hb
  exact ⟨ha, hb⟩
theorem all83 : Sim.AllR rn k83 s83 := by
  have ha := all84
  have hb := all111
  rw [← up83] at ha
  rw [← un83] at hb
  exact ⟨ha, hb⟩
theorem all123 : Sim.AllR rn k123 s123 := run123
theorem all124 : Sim.AllR rn k124 s124 := run124
theorem all122 : Sim.AllR rn k122 s122 := by
  have ha := all123
  have hb := all124
  rw [← up122] at ha
  rw [← un122] at hb
  exact ⟨ha, hb⟩
theorem all125 : Sim.AllR rn k125 s125 := run125
theorem all121 : Sim.AllR rn k121 s121 := by
  have ha := all122
  have hb := all125
  rw [← up121] at ha
  rw [← un121] at hb
  exact ⟨ha, hb⟩
theorem all126 : Sim.AllR rn k126 s126 := run126
theorem all120 : Sim.AllR rn k120 s120 := by
  have ha := all121
  have hb := all126
  rw [← up120] at ha
  rw [← un120] at hb
  exact ⟨ha, hb⟩
theorem all127 : Sim.AllR rn k127 s127 := run127
theorem all119 : Sim.AllR rn k119 s119 := by
  have ha := all120
  have hb := all127
  rw [← up119] at ha
  rw [← un119] at hb
  exact ⟨ha, hb⟩
theorem all130 : Sim.AllR rn k130 s130 := run130
theorem all131 : Sim.AllR rn k131 s131 := run131
theorem all129 : Sim.AllR rn k129 s129 := by
  have ha := all130
  have hb := all131
  rw [← up129] at ha
  rw [← un129] at hb
  exact ⟨ha, hb⟩
theorem all132 : Sim.AllR rn k132 s132 := run132
theorem all128 : Sim.AllR rn k128 s128 := by
  have ha := all129
  have hb := all132
  rw [← up128] at ha
  rw [← un128] at hb
  exact ⟨ha, hb⟩
theorem all118 : Sim.AllR rn k118 s118 := by
  have ha := all119
  have hb := all128
  rw [← up118] at ha
  rw [← un118] at hb
  exact ⟨ha, hb⟩
theorem all82 : Sim.AllR rn k82 s82 := by
  have ha := all83
  have hb := all118
  rw [← up82] at ha
  rw [← un82] at hb
  exact ⟨ha, hb⟩
theorem all30 : Sim.AllR rn k30 s30 := by
  have ha := all31
  have hb := all82
  rw [← up30] at ha
  rw [← un30] at hb
  exact ⟨ha, hb⟩
theorem all29 : Sim.AllR rn k29 s29 := by
  have ha := all30
  rw [← up29] at ha
  exact ⟨nn29, ha⟩
theorem all142 : Sim.AllR rn k142 s142 := run142
theorem all143 : Sim.AllR rn k143 s143 := run143
theorem all141 : Sim.AllR rn k141 s141 := by
  have ha := all142
  have hb := all143
  rw [← up141] at ha
  rw [← un141] at hb
  exact ⟨ha, hb⟩
theorem all145 : Sim.AllR rn k145 s145 := run145
theorem all146 : Sim.AllR rn k146 s146 := run146
theorem all144 : Sim.AllR rn k144 s144 := by
  have ha := all145
  have hb := all146
  rw [← up144] at ha
  rw [← un144] at hb
  exact ⟨ha, hb⟩
theorem all140 : Sim.AllR rn k140 s140 := by
  have ha := all141
  have hb := all144
  rw [← up140] at ha
  rw [← un140] at hb
  exact ⟨ha, hb⟩
theorem all147 : Sim.AllR rn k147 s147 := run147
theorem all139 : Sim.AllR rn k139 s139 := by
  have ha := all140
  have hb := all147
  rw [← up139] at ha
  rw [← un139] at hb
  exact ⟨ha, hb⟩
theorem all151 : Sim.AllR rn k151 s151 := run151
theorem all152 : Sim.AllR rn k152 s152 := run152
theorem all150 : Sim.AllR rn k150 s150 := by
  have ha := all151
  have hb := all152
  rw [← up150] at ha
  rw [← un150] at hb
  exact ⟨ha, hb⟩
theorem all154 : Sim.AllR rn k154 s154 := run154
theorem all155 : Sim.AllR rn k155 s155 := run155
theorem all153 : Sim.AllR rn k153 s153 := by
  have ha := all154
  have hb := all155
  rw [← up153] at ha
  rw [← un153] at hb
  exact ⟨ha, hb⟩
theorem all149 : Sim.AllR rn k149 s149 := by
  have ha := all150
  have hb := all153
  rw [← up149] at ha
  rw [← un149] at hb
  exact ⟨ha, hb⟩
theorem all156 : Sim.AllR rn k156 s156 := run156
theorem all148 : Sim.AllR rn k148 s148 := by
  have ha := all149
  have hb := all156
  rw [← up148] at ha
  rw [← un148] at hb
  exact ⟨ha, hb⟩
theorem all138 : Sim.AllR rn k138 s138 := by
  have ha := all139
  have hb := all148
  rw [← up138] at ha
  rw [← un138] at hb
  exact ⟨ha, hb⟩
theorem all158 : Sim.AllR rn k158 s158 := run158
theorem all159 : Sim.AllR rn k159 s159 := run159
theorem all157 : Sim.AllR rn k157 s157 := by
  have ha := all158
  have hb := all159
  rw [← up157] at ha
  rw [← un157] at hb
  exact ⟨ha, hb⟩
theorem all137 : Sim.AllR rn k137 s137 := by
  have ha := all138
  have hb := all157
  rw [← up137] at ha
  rw [← un137] at hb
  exact ⟨ha, hb⟩
theorem all161 : Sim.AllR rn k161 s161 := run161
theorem all162 : Sim.AllR rn k162 s162 := run162
theorem all160 : Sim.AllR rn k160 s160 := by
  have ha := all161
  have hb := all162
  rw [← up160] at ha
  rw [← un160] at hb
  exact ⟨ha, hb⟩
theorem all136 : Sim.AllR rn k136 s136 := by
  have ha := all137
  have hb := all160
  rw [← up136] at ha
  rw [← un136] at hb
  exact ⟨ha, hb⟩
theorem all166 : Sim.AllR rn k166 s166 := run166
theorem all167 : Sim.AllR rn k167 s167 := run167
theorem all165 : Sim.AllR rn k165 s165 := by
  have ha := all166
  have hb := all167
  rw [← up165] at ha
  rw [← un165] at hb
  exact ⟨ha, hb⟩
theorem all168 : Sim.AllR rn k168 s168 := run168
theorem all164 : Sim.AllR rn k164 s164 := by
  have ha := all165
  have hb := all168
  rw [← up164] at ha
  rw [← un164] at hb
  exact ⟨ha, hb⟩
theorem all169 : Sim.AllR rn k169 s169 := run169
theorem all163 : Sim.AllR rn k163 s163 := by
  have ha := all164
  have hb := all169
  rw [← up163] at ha
  rw [← un163] at hb
  exact ⟨ha, hb⟩
theorem all135 : Sim.AllR rn k135 s135 := by
  have ha := all136
  have hb := all163
  rw [← up135] at ha
  rw [← un135] at hb
  exact ⟨ha, hb⟩
theorem all175 : Sim.AllR rn k175 s175 := run175
theorem all176 : Sim.AllR rn k176 s176 := run176
theorem all174 : Sim.AllR rn k174 s174 := by
  have ha := all175
  have hb := all176
  rw [← up174] at ha
  rw [← un174] at hb
  exact ⟨ha, hb⟩
theorem all177 : Sim.AllR rn k177 s177 := run177
theorem all173 : Sim.AllR rn k173 s173 := by
  have ha := all174
  have hb := all177
  rw [← up173] at ha
  rw [← un173] at hb
  exact ⟨ha, hb⟩
theorem all178 : Sim.AllR rn k178 s178 := run178
theorem all172 : Sim.AllR rn k172 s172 := by
  have ha := all173
  have hb := all178
  rw [← up172] at ha
  rw [← un172] at hb
  exact ⟨ha, hb⟩
theorem all179 : Sim.AllR rn k179 s179 := run179
theorem all171 : Sim.AllR rn k171 s171 := by
  have ha := all172
  have hb := all179
  rw [← up171] at ha
  rw [← un171] at hb
  exact ⟨ha, hb⟩
theorem all182 : Sim.AllR rn k182 s182 := run182
theorem all183 : Sim.AllR rn k183 s183 := run183
theorem all181 : Sim.AllR rn k181 s181 := by
  have ha := all182
  have hb := all183
  rw [← up181] at ha
  rw [← un181] at hb
  exact ⟨ha, hb⟩
theorem all184 : Sim.AllR rn k184 s184 := run184
theorem all180 : Sim.AllR rn k180 s180 := by
  have ha := all181
  have hb := all184
  rw [← up180] at ha
  rw [← un180] at hb
  exact ⟨ha, hb⟩
theorem all170 : Sim.AllR rn k170 s170 := by
  have ha := all171
  have hb := all180
  rw [← up170] at ha
  rw [← un170] at hb
  exact ⟨ha, hb⟩
theorem all134 : Sim.AllR rn k134 s134 := by
  have ha := all135
  have hb := all170
  rw [← up134] at ha
  rw [← un134] at hb
  exact ⟨ha, hb⟩
theorem all194 : Sim.AllR rn k194 s194 := run194
theorem all195 : Sim.AllR rn k195 s195 := run195
theorem all193 : Sim.AllR rn k193 s193 := by
  have ha := all194
  have hb := all195
  rw [← up193] at ha
  rw [← un193] at hb
  exact ⟨ha, hb⟩
theorem all197 : Sim.AllR rn k197 s197 := run197
theorem all198 : Sim.AllR rn k198 s198 := run198
theorem all196 : Sim.AllR rn k196 s196 := by
  have ha := all197
  have hb := all198
  rw [← up196] at ha
  rw [← un196] at hb
  exact ⟨ha, hb⟩
theorem all192 : Sim.AllR rn k192 s192 := by
  have ha := all193
  have hb := all196
  rw [← up192] at ha
  rw [← un192] at hb
  exact ⟨ha, hb⟩
theorem all199 : Sim.AllR rn k199 s199 := run199
theorem all191 : Sim.AllR rn k191 s191 := by
  have ha := all192
  have hb := all199
  rw [← up191] at ha
  rw [← un191] at hb
  exact ⟨ha, hb⟩
theorem all203 : Sim.AllR rn k203 s203 := run203
theorem all204 : Sim.AllR rn k204 s204 := run204
theorem all202 : Sim.AllR rn k202 s202 := by
  have ha := all203
  have hb := all204
  rw [← up202] at ha
  rw [← un202] at hb
  exact ⟨ha, hb⟩
theorem all206 : Sim.AllR rn k206 s206 := run206
theorem all207 : Sim.AllR rn k207 s207 := run207
theorem all205 : Sim.AllR rn k205 s205 := by
  have ha := all206
  have hb := all207
  rw [← up205] at ha
  rw [← un205] at hb
  exact ⟨ha, hb⟩
theorem all201 : Sim.AllR rn k201 s201 := by
  have ha := all202
  have hb := all205
  rw [← up201] at ha
  rw [← un201] at hb
  exact ⟨ha, hb⟩
theorem all208 : Sim.AllR rn k208 s208 := run208
theorem all200 : Sim.AllR rn k200 s200 := by
  have ha := all201
  have hb := all208
  rw [← up200] at ha
  rw [← un200] at hb
  exact ⟨ha, hb⟩
theorem all190 : Sim.AllR rn k190 s190 := by
  have ha := all191
  have hb := all200
  rw [← up190] at ha
  rw [← un190] at hb
  exact ⟨ha, hb⟩
theorem all210 : Sim.AllR rn k210 s210 := run210
theorem all211 : Sim.AllR rn k211 s211 := run211
theorem all209 : Sim.AllR rn k209 s209 := by
  have ha := all210
  have hb := all211
  rw [← up209] at ha
  rw [← un209] at hb
  exact ⟨ha, hb⟩
theorem all189 : Sim.AllR rn k189 s189 := by
  have ha := all190
  have hb := all209
  rw [← up189] at ha
  rw [← un189] at hb
  exact ⟨ha, hb⟩
theorem all213 : Sim.AllR rn k213 s213 := run213
theorem all214 : Sim.AllR rn k214 s214 := run214
theorem all212 : Sim.AllR rn k212 s212 := by
  have ha := all213
  have hb := all214
  rw [← up212] at ha
  rw [← un212] at hb
  exact ⟨ha, hb⟩
theorem all188 : Sim.AllR rn k188 s188 := by
  have ha := all189
  have hb := all212
  rw [← up188] at ha
  rw [← un188] at hb
  exact ⟨ha, hb⟩
theorem all218 : Sim.AllR rn k218 s218 := run218
theorem all219 : Sim.AllR rn k219 s219 := run219
theorem all217 : Sim.AllR rn k217 s217 := by
  have ha := all218
  have hb := all219
  rw [← up217] at ha
  rw [← un217] at hb
  exact ⟨ha, hb⟩
theorem all220 : Sim.AllR rn k220 s220 := run220
theorem all216 : Sim.AllR rn k216 s216 := by
  have ha := all217
  have hb := all220
  rw [← up216] at ha
  rw [← un216] at hb
  exact ⟨ha, hb⟩
theorem all221 : Sim.AllR rn k221 s221 := run221
theorem all215 : Sim.AllR rn k215 s215 := by
  have ha := all216
  have hb := all221
  rw [← up215] at ha
  rw [← un215] at hb
  exact ⟨ha, hb⟩
theorem all187 : Sim.AllR rn k187 s187 := by
  have ha := all188
  have hb := all215
  rw [← up187] at ha
  rw [← un187] at hb
  exact ⟨ha, hb⟩
theorem all227 : Sim.AllR rn k227 s227 := run227
theorem all228 : Sim.AllR rn k228 s228 := run228
theorem all226 : Sim.AllR rn k226 s226 := by
  have ha := all227
  have hb := all228
  rw [← up226] at ha
  rw [← un226] at hb
  exact ⟨ha, hb⟩
theorem all229 : Sim.AllR rn k229 s229 := run229
theorem all225 : Sim.AllR rn k225 s225 := by
  have ha := all226
  have hb := all229
  rw [← up225] at ha
  rw [← un225] at hb
  exact ⟨ha, hb⟩
theorem all230 : Sim.AllR rn k230 s230 := run230
theorem all224 : Sim.AllR rn k224 s224 := by
  have ha := all225
  have hb := all230
  rw [← up224] at ha
  rw [← un224] at hb
  exact ⟨ha, hb⟩
theorem all231 : Sim.AllR rn k231 s231 := run231
theorem all223 : Sim.AllR rn k223 s223 := by
  have ha := all224
  have hb := all231
  rw [← up223] at ha
  rw [← un223] at hb
  exact ⟨ha, hb⟩
theorem all234 : Sim.AllR rn k234 s234 := run234
theorem all235 : Sim.AllR rn k235 s235 := run235
theorem all233 : Sim.AllR rn k233 s233 := by
  have ha := all234
  have hb := all235
  rw [← up233] at ha
  rw [← un233] at hb
  exact ⟨ha, hb⟩
theorem all236 : Sim.AllR rn k236 s236 := run236
theorem all232 : Sim.AllR rn k232 s232 := by
  have ha := all233
  have hb := all236
  rw [← up232] at ha
  rw [← un232] at hb
  exact ⟨ha, hb⟩
theorem all222 : Sim.AllR rn k222 s222 := by
  have ha := all223
  have hb := all232
  rw [← up222] at ha
  rw [← un222] at hb
  exact ⟨ha, hb⟩
theorem all186 : Sim.AllR rn k186 s186 := by
  have ha := all187
  have hb := all222
  rw [← up186] at ha
  rw [← un186] at hb
  exact ⟨ha, hb⟩
theorem all185 : Sim.AllR rn k185 s185 := by
  have ha := all186
  rw [← up185] at ha
  exact ⟨nn185, ha⟩
theorem all133 : Sim.AllR rn k133 s133 := by
  have ha := all134
  have hb := all185
  rw [← up133] at ha
  rw [← un133] at hb
  exact ⟨ha, hb⟩
theorem all28 : Sim.AllR rn k28 s28 := by
  have ha := all29
  have hb := all133
  rw [← up28] at ha
  rw [← un28] at hb
  exact ⟨ha, hb⟩
theorem all27 : Sim.AllR rn k27 s27 := by
  have ha := all28
  rw [← up27] at ha
  exact ⟨nn27, ha⟩
theorem all26 : Sim.AllR rn k26 s26 := by
  have ha := all27
  rw [← up26] at ha
  exact ⟨nn26, ha⟩
theorem all237 : Sim.AllR rn k237 s237 := run237
theorem all25 : Sim.AllR rn k25 s25 := by
  have ha := all26
  have hb := all237
  rw [← up25] at ha
  rw [← un25] at hb
  exact ⟨ha, hb⟩
theorem all238 : Sim.AllR rn k238 s238 := run238
theorem all24 : Sim.AllR rn k24 s24 := by
  have ha := all25
  have hb := all238
  rw [← up24] at ha
  rw [← un24] at hb
  exact ⟨ha, hb⟩
theorem all239 : Sim.AllR rn k239 s239 := run239
theorem all23 : Sim.AllR rn k23 s23 := by
  have ha := all24
  have hb := all239
  rw [← up23] at ha
  rw [← un23] at hb
  exact ⟨ha, hb⟩
theorem all240 : Sim.AllR rn k240 s240 := run240
theorem all22 : Sim.AllR rn k22 s22 := by
  have ha := all23
  have hb := all240
  rw [← up22] at ha
  rw [← un22] at hb
  exact ⟨ha, hb⟩
theorem all241 : Sim.AllR rn k241 s241 := run241
theorem all21 : Sim.AllR rn k21 s21 := by
  have ha := all22
  have hb := all241
  rw [← up21] at ha
  rw [← un21] at hb
  exact ⟨ha, hb⟩
theorem all242 : Sim.AllR rn k242 s242 := run242
theorem all20 : Sim.AllR rn k20 s20 := by
  have ha := all21
  have hb := all242
  rw [← up20] at ha
  rw [← un20] at hb
  exact ⟨ha, hb⟩
theorem all243 : Sim.AllR rn k243 s243 := run243
theorem all19 : Sim.AllR rn k19 s19 := by
  have ha := all20
  have hb := all243
  rw [← up19] at ha
  rw [← un19] at hb
  exact ⟨ha, hb⟩
theorem all244 : Sim.AllR rn k244 s244 := run244
theorem all18 : Sim.AllR rn k18 s18 := by
  have ha := all19
  have hb := all244
  rw [← up18] at ha
  rw [← un18] at hb
  exact ⟨ha, hb⟩
theorem all245 : Sim.AllR rn k245 s245 := run245
theorem all17 : Sim.AllR rn k17 s17 := by
  have ha := all18
  have hb := all245
  rw [← up17] at ha
  rw [← un17] at hb
  exact ⟨ha, hb⟩
theorem all246 : Sim.AllR rn k246 s246 := run246
theorem all16 : Sim.AllR rn k16 s16 := by
  have ha := all17
  have hb := all246
  rw [← up16] at ha
  rw [← un16] at hb
  exact ⟨ha, hb⟩
theorem all247 : Sim.AllR rn k247 s247 := run247
theorem all15 : Sim.AllR rn k15 s15 := by
  have ha := all16
  have hb := all247
  rw [← up15] at ha
  rw [← un15] at hb
  exact ⟨ha, hb⟩
theorem all248 : Sim.AllR rn k248 s248 := run248
theorem all14 : Sim.AllR rn k14 s14 := by
  have ha := all15
  have hb := all248
  rw [← up14] at ha
  rw [← un14] at hb
  exact ⟨ha, hb⟩
theorem all249 : Sim.AllR rn k249 s249 := run249
theorem all13 : Sim.AllR rn k13 s13 := by
  have ha := all14
  have hb := all249
  rw [← up13] at ha
  rw [← un13] at hb
  exact ⟨ha, hb⟩
theorem all250 : Sim.AllR rn k250 s250 := run250
theorem all12 : Sim.AllR rn k12 s12 := by
  have ha := all13
  have hb := all250
  rw [← up12] at ha
  rw [← un12] at hb
  exact ⟨ha, hb⟩
theorem all251 : Sim.AllR rn k251 s251 := run251
theorem all11 : Sim.AllR rn k11 s11 := by
  have ha := all12
  have hb := all251
  rw [← up11] at ha
  rw [← un11] at hb
  exact ⟨ha, hb⟩
theorem all252 : Sim.AllR rn k252 s252 := run252
theorem all10 : Sim.AllR rn k10 s10 := by
  have ha := all11
  have hb := all252
  rw [← up10] at ha
  rw [← un10] at hb
  exact ⟨ha, hb⟩
theorem all9 : Sim.AllR rn k9 z9 := by
  have ha := all10
  have hb := t253
  rw [← up9] at ha
  rw [← un9] at hb
  exact ⟨ha, hb⟩
theorem all8 : Sim.AllR rn k8 z8 := by
  have ha := all9
  have hb := t254
  rw [← up8] at ha
  rw [← un8] at hb
  exact ⟨ha, hb⟩
theorem all7 : Sim.AllR rn k7 z7 := by
  have ha := all8
  have hb := t255
  rw [← up7] at ha
  rw [← un7] at hb
  exact ⟨ha, hb⟩
theorem all6 : Sim.AllR rn k6 z6 := by
  have ha := all7
  have hb := t256
  rw [← up6] at ha
  rw [← un6] at hb
  exact ⟨ha, hb⟩
theorem all5 : Sim.AllR rn k5 z5 := by
  have ha := all6
  have hb := t257
  rw [← up5] at ha
  rw [← un5] at hb
  exact ⟨ha, hb⟩
theorem all4 : Sim.AllR rn k4 z4 := by
  have ha := all5
  have hb := t258
  rw [← up4] at ha
  rw [← un4] at hb
  exact ⟨ha, hb⟩
theorem all3 : Sim.AllR rn k3 z3 := by
  have ha := all4
  have hb := t259
  rw [← up3] at ha
  rw [← un3] at hb
  exact ⟨ha, hb⟩
theorem all2 : Sim.AllR rn k2 z2 := by
  have ha := all3
  have hb := t260
  rw [← up2] at ha
  rw [← un2] at hb
  exact ⟨ha, hb⟩
theorem all1 : Sim.AllR rn k1 z1 := by
  have ha := all2
  have hb := t261
  rw [← up1] at ha
  rw [← un1] at hb
  exact ⟨ha, hb⟩
theorem all0 : Sim.AllR rn k0 z0 := by
  have ha := all1
  have hb := t262
  rw [← up0] at ha
  rw [← un0] at hb
  exact ⟨ha, hb⟩
theorem runs : Sim.AllR rn (Sim.factsW shp con [] 0) z0 := by
  rw [root]; exact all0
theorem calls [Sim.Ev] (K : Sim.Facts) (bs : List Value) (w : World) [Sim.KOk Tryd.prog w.heap.size w] (e : rn K = true) (hv : Sim.VRs [] (Sim.argsV 0 shp) bs) (hK : Sim.FactsOk K)
    (hO : ∀ (r : Nat) (o : Obj), Sim.Ev.heap r = some o → r < w.heap.size ∧ w.heap[r]? = some o) (hh : Sim.Holds [] w) (hG : Tryd.prog.globals.size ≤ w.heap.size) :
    Calls Tryd.prog 3 ⟨bs⟩ w fun e w' => e = .returned (.bool true) ∧ Below w.heap.size w w' := by
  rw [inpIs] at hv
  exact Sim.true_of_C mixed e hv w hK hO hG
theorem g_math_bits_deBruijn32tab : Tryd.prog.globalNamed "math/bits.deBruijn32tab" = some 2 := by kernel_rfl
theorem t_math_bits_deBruijn32tab : (Tryd.prog.globals[2]?).map (·.type) = some 91 := by kernel_rfl
theorem c_math_bits_deBruijn32tab : Tryd.prog.cellsOf 5 = 1 := by kernel_rfl
theorem g_math_bits_deBruijn64tab : Tryd.prog.globalNamed "math/bits.deBruijn64tab" = some 3 := by kernel_rfl
theorem t_math_bits_deBruijn64tab : (Tryd.prog.globals[3]?).map (·.type) = some 92 := by kernel_rfl
theorem c_math_bits_deBruijn64tab : Tryd.prog.cellsOf 5 = 1 := by kernel_rfl
theorem g_internal_strconv_uint64pow10 : Tryd.prog.globalNamed "internal/strconv.uint64pow10" = some 0 := by kernel_rfl
theorem t_internal_strconv_uint64pow10 : (Tryd.prog.globals[0]?).map (·.type) = some 85 := by kernel_rfl
theorem c_internal_strconv_uint64pow10 : Tryd.prog.cellsOf 75 = 1 := by kernel_rfl
theorem door_met (os : Os) (args : Array Value) : laidMetH Tryd.prog Rows.lifetimeHoldsRow.laid ((World.doorLaid Tryd.prog 400 os).forCall (fun _ _ => 0) ⟨#[], args, []⟩).memory :=
  laidMetH_of_parts3 (fuel := 8) (laidMet_of_run' 8 (by kernel_rfl) (by kernel_rfl)) (by kernel_rfl) (by kernel_rfl)
noncomputable def fx : Sim.Vars := [(0, Sim.cellsOfD (H := Unit) Rows.laid_internal_strconv_uint64pow10), (2, Sim.cellsOfD (H := Unit) Rows.laid_math_bits_deBruijn32tab), (3, Sim.cellsOfD (H := Unit) Rows.laid_math_bits_deBruijn64tab)]
theorem of_laid {W : World} (h : laidMetH Tryd.prog Rows.lifetimeHoldsRow.laid W) : Sim.Holds fx W ∧ Tryd.prog.globals.size ≤ W.heap.size := by
  rw [show laidMetH Tryd.prog Rows.lifetimeHoldsRow.laid W = _ from MakeChecks.laidMetH_plain _ _ _ (by kernel_rfl)] at h
  obtain ⟨ps, ⟨g0, t0, cs0, f0, p0, q0, hg0, ht0, hv0, hd0, ⟨g1, t1, cs1, f1, p1, q1, hg1, ht1, hv1, hd1, ⟨g2, t2, cs2, f2, p2, q2, hg2, ht2, hv2, hd2, _, _⟩, _⟩, _⟩, _⟩ := h
  obtain rfl := Option.some.inj (g_math_bits_deBruijn32tab.symm.trans hg0)
  obtain rfl := Option.some.inj (t_math_bits_deBruijn32tab.symm.trans ht0)
  obtain rfl := Option.some.inj (g_math_bits_deBruijn64tab.symm.trans hg1)
  obtain rfl := Option.some.inj (t_math_bits_deBruijn64tab.symm.trans ht1)
  obtain rfl := Option.some.inj (g_internal_strconv_uint64pow10.symm.trans hg2)
  obtain rfl := Option.some.inj (t_internal_strconv_uint64pow10.symm.trans ht2)
  have H0 := Sim.holds_var hg0 hv0 (Sim.cells_of_ints Tryd.underlying91 Tryd.underlying5 c_math_bits_deBruijn32tab hd0)
  have H1 := Sim.holds_var hg1 hv1 (Sim.cells_of_ints Tryd.underlying92 Tryd.underlying5 c_math_bits_deBruijn64tab hd1)
  have H2 := Sim.holds_var hg2 hv2 (Sim.cells_of_ints Tryd.underlying85 Tryd.underlying75 c_internal_strconv_uint64pow10 hd2)
  refine ⟨fun p hp => ?_, ?_⟩
  · simp only [fx, List.mem_cons, List.not_mem_nil, or_false] at hp
    rcases hp with rfl | rfl | rfl
    · exact H2
    · exact H0
    · exact H1
  · obtain ⟨c, e, f, h, _⟩ := H1
    exact Sim.size_of_heap h (by have : Tryd.prog.globals.size = 4 := by kernel_rfl
                                 omega)

/-! THE ROW -/
set_option maxRecDepth 100000 in
theorem lifted (os : Os) (started : os.Started) (H : Type) (enc : TypeId × Value → H) :
    ReturnsInHanded {} Tryd.checked os 3 .any (fun w args => (Rows.lifetimeHoldsSpec.pre enc Tryd.prog Tryd.f3 [] false w args ∧ laidMetH Tryd.prog Rows.lifetimeHoldsRow.laid w) ∧ sizedMet enc Tryd.prog Tryd.f3 (OpenSpec.ofChange Rows.lifetimeHoldsSpec) false w args)
      (Rows.lifetimeHoldsSpec.post enc Tryd.prog Tryd.f3 false true false false) := by
  refine returnsInHanded_of_change_and (C := Tryd.checked) (X := fun w _ => laidMetH Tryd.prog Rows.lifetimeHoldsRow.laid w) (fun _ _ _ hh h => h.of_heap hh) own started (by kernel_rfl) Tryd.func3
    (ChangeSpec.witness_shaped (enc := enc) (C := Tryd.checked) (os := os) (X := fun w _ => laidMetH Tryd.prog Rows.lifetimeHoldsRow.laid w) false (World.doorLaid Tryd.prog 400 os) #[.agg #[.int .i64 0, .int .i64 0, .int .i64 0, .int .i64 0], .agg #[.int .i64 0, .int .i64 0, .int .i64 0], .agg #[.int .i64 0, .int .i64 0], .int .i64 0, .int .i64 0] 8 rfl (World.shaped_of_RefB (by kernel_rfl) (by kernel_rfl)) (by kernel_rfl) (by kernel_rfl) (by kernel_rfl) (door_met os _)) ?_
  intro W base vs ds gs before hval hW _ _ hL _
  obtain ⟨hw, hG⟩ := of_laid hL
  refine Sim.post_of_R (P := Tryd.prog) (fn := Tryd.f3) (s := Rows.lifetimeHoldsSpec) (fx := []) (con := con) (rn := rn) mixed laidOut rfl (by kernel_rfl : Tryd.f3.resultTypes = #[4]) Tryd.underlying4 (by kernel_rfl) rfl ?_ args (by kernel_rfl) runs calls (fun e he w' hb => ?_) (fun p hp => by cases hp) hG hval hW
  · intro ds hds
    match ds, hds with
    | [d0, d1, d2, d3, d4], _ => rfl
  · simp only [con, List.mem_cons, List.not_mem_nil, or_false] at he
    subst he
    have hwf : Sim.Holds fx w' := fun p hp => by
      obtain ⟨c, e, f, h1, h2⟩ := hw p hp
      exact ⟨c, e, f, by rw [hb.block _ (Array.getElem?_eq_some_iff.1 h1).1]; exact h1, h2⟩
    have hs := hb.size
    refine (known w' hwf (by omega)).mono fun e' w'' ⟨h1, h2⟩ => ⟨_, h1, .bool true, h2⟩

theorem over : Rows.LifetimeHoldsSaid :=
  OpenClaim.holds_of_wide 3 Tryd.f3 rfl rfl rfl rfl rfl rfl rfl ⟨rfl, rfl, rfl, rfl, rfl⟩ rfl rfl rfl rfl rfl (by kernel_rfl) Tryd.func3 (by kernel_rfl)
    (of_decide_eq_true (by kernel_rfl)) (by unfold Func.isWrapper; first | (rw [if_pos (by decide +kernel)]; kernel_rfl) | (rw [if_neg (by decide +kernel)]; exact ⟨rfl, rfl⟩))
    (fun os started H enc _ => lifted os started H enc)

/-- THE STATEMENT -/
theorem proved : Rows.LifetimeHoldsCardSaid :=
  Claim7.holds_tied_plain_at .later [] [.data, .data, .data] true (true, "17c2f88445b71a0dbc5bede261f5cca892a43e204e20a0b0fe0935bea1aaaede") false
    over (fun _ h => by cases h) (by kernel_rfl) (fun _ h => by cases h) lifetimeHolds_row_tie rfl ⟨rfl, rfl⟩ (by kernel_rfl) rfl
    (fun f fn hf hfn => by
      obtain rfl : f = 3 := Option.some.inj ((show Tryd.prog.funcNamed Rows.lifetimeHoldsRow.func = some 3 by kernel_rfl).symm.trans hf) |>.symm
      obtain rfl : fn = Tryd.f3 := (Option.some.inj (Tryd.func3.symm.trans hfn)).symm
      exact ⟨by kernel_rfl, fun j t ht => by
        rw [Tryd.params3] at ht
        have hm : t ∈ [23, 25, 27, 3, 3] := by simpa using Array.mem_of_getElem? ht
        have hall : ([23, 25, 27, 3, 3].all fun u => !Tryd.prog.wantsStandIn u) = true := by kernel_rfl
        exact (show Tryd.prog.wantsStandIn t = false by simpa using List.all_eq_true.1 hall t hm)⟩)
    (by kernel_rfl)
#print axioms proved
end Go.Proofs.YtkllodeeccooeaaDoor.lifetimeHolds
