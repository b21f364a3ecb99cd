/- LifetimeDerives (watchword): for every input the call returns true and the input reads as it did; where the tables that it reads hold what the program's text lays there. -/
import Derived.Test.YtnmlbahdipmpgaaDoorSimD
import Derived.Test.YtnmlbahdipmpgaaDoorChecked
import Derived.Test.YtnmlbahdipmpgaaDoorRows
import Derived.Test.YtnmlbahdipmpgaaDoorTie
import Derived.Test.YtnmlbahdipmpgaaDoorCards
import Derived.WalkKit
import Derived.ProofKit
import Derived.OpenShut
import Derived.ShutString
import Derived.HandedShaped
import Derived.LaidMore
import Derived.Stop.Joined
import Derived.SevenTiedAt
import Derived.Test.YtnmlbahdipmpgaaDoorKnown
import Derived.Test.YtnmlbahdipmpgaaDoorLifetimeDerivesR0
import Derived.Test.YtnmlbahdipmpgaaDoorLifetimeDerivesR1
import Derived.Test.YtnmlbahdipmpgaaDoorLifetimeDerivesR2
import Derived.Test.YtnmlbahdipmpgaaDoorLifetimeDerivesR3
import Derived.Test.YtnmlbahdipmpgaaDoorLifetimeDerivesR4
import Derived.Test.YtnmlbahdipmpgaaDoorLifetimeDerivesR5
import Derived.Test.YtnmlbahdipmpgaaDoorLifetimeDerivesR6
import Derived.Test.YtnmlbahdipmpgaaDoorLifetimeDerivesR7
import Derived.Test.YtnmlbahdipmpgaaDoorLifetimeDerivesR8
import Derived.Test.YtnmlbahdipmpgaaDoorLifetimeDerivesR9
import Derived.Test.YtnmlbahdipmpgaaDoorLifetimeDerivesR10
import Derived.Test.YtnmlbahdipmpgaaDoorLifetimeDerivesR11
import Derived.Test.YtnmlbahdipmpgaaDoorLifetimeDerivesR12
import Derived.Test.YtnmlbahdipmpgaaDoorLifetimeDerivesR13
import Derived.Test.YtnmlbahdipmpgaaDoorLifetimeDerivesR14
import Derived.Test.YtnmlbahdipmpgaaDoorLifetimeDerivesR15
import Derived.Test.YtnmlbahdipmpgaaDoorLifetimeDerivesR16
import Derived.Test.YtnmlbahdipmpgaaDoorLifetimeDerivesR17
import Derived.Test.YtnmlbahdipmpgaaDoorLifetimeDerivesR18
import Derived.Test.YtnmlbahdipmpgaaDoorLifetimeDerivesR19
import Derived.Test.YtnmlbahdipmpgaaDoorLifetimeDerivesR20
namespace Go.Proofs.YtnmlbahdipmpgaaDoor.lifetimeDerives
open Go.ChangeShapes Go.WideShapes Go.ChangeAt Go.RowKit
set_option linter.unusedVariables false

theorem own : ownKnob Tryd.prog.godebug = none := by kernel_rfl
theorem mixed : Tryd.prog.follows .mixedOrders = true := by kernel_rfl
theorem laidOut : laidOutB Tryd.prog = true := by kernel_rfl
theorem args : Sim.argsA Tryd.prog Tryd.f6.params.toList = some shp := by kernel_rfl
theorem all30 : Sim.AllRun Tryd.prog [] 6 2000 inp k30 s30 := run30
theorem all31 : Sim.AllRun Tryd.prog [] 6 2000 inp k31 s31 := run31
theorem all29 : Sim.AllRun Tryd.prog [] 6 2000 inp k29 s29 := by
  have ha := all30
  have hb := all31
  rw [← up29] at ha
  rw [← un29] at hb
  exact ⟨ha, hb⟩
theorem all33 : Sim.AllRun Tryd.prog [] 6 2000 inp k33 s33 := run33
theorem all34 : Sim.AllRun Tryd.prog [] 6 2000 inp k34 s34 := run34
theorem all32 : Sim.AllRun Tryd.prog [] 6 2000 inp k32 s32 := by
  have ha := all33
  have hb := all34
  rw [← up32] at ha
  rw [← un32] at hb
  exact ⟨ha, hb⟩
theorem all28 : Sim.AllRun Tryd.prog [] 6 2000 inp k28 s28 := by
  have ha := all29
  have hb := all32
  rw [← up28] at ha
  rw [← un28] at hb
  exact ⟨ha, hb⟩
theorem all37 : Sim.AllRun Tryd.prog [] 6 2000 inp k37 s37 := run37
theorem all38 : Sim.AllRun Tryd.prog [] 6 2000 inp k38 s38 := run38
theorem all36 : Sim.AllRun Tryd.prog [] 6 2000 inp k36 s36 := by
  have ha := all37
  have hb := all38
  rw [← up36] at ha
  rw [← un36] at hb
  exact ⟨ha, hb⟩
theorem all40 : Sim.AllRun Tryd.prog [] 6 2000 inp k40 s40 := run40
theorem all41 : Sim.AllRun Tryd.prog [] 6 2000 inp k41 s41 := run41
theorem all39 : Sim.AllRun Tryd.prog [] 6 2000 inp k39 s39 := by
  have ha := all40
  have hb := all41
  rw [← up39] at ha
  rw [← un39] at hb
  exact ⟨ha, hb⟩
theorem all35 : Sim.AllRun Tryd.prog [] 6 2000 inp k35 s35 := by
  have ha := all36
  have hb := all39
  rw [← up35] at ha
  rw [← un35] at hb
  exact ⟨ha, hb⟩
theorem all27 : Sim.AllRun Tryd.prog [] 6 2000 inp k27 s27 := by
  have ha := all28
  have hb := all35
  rw [← up27] at ha
  rw [← un27] at hb
  exact ⟨ha, hb⟩
theorem all45 : Sim.AllRun Tryd.prog [] 6 2000 inp k45 s45 := run45
theorem all46 : Sim.AllRun Tryd.prog [] 6 2000 inp k46 s46 := run46
theorem all44 : Sim.AllRun Tryd.prog [] 6 2000 inp k44 s44 := by
  have ha := all45
  have hb := all46
  rw [← up44] at ha
  rw [← un44] at hb
  exact ⟨ha, hb⟩
theorem all48 : Sim.AllRun Tryd.prog [] 6 2000 inp k48 s48 := run48
theorem all49 : Sim.AllRun Tryd.prog [] 6 2000 inp k49 s49 := run49
theorem all47 : Sim.AllRun Tryd.prog [] 6 2000 inp k47 s47 := by
  have ha := all48
  have hb := all49
  rw [← up47] at ha
  rw [← un47] at hb
  exact ⟨ha, hb⟩
theorem all43 : Sim.AllRun Tryd.prog [] 6 2000 inp k43 s43 := by
  have ha := all44
  have hb := all47
  rw [← up43] at ha
  rw [← un43] at hb
  exact ⟨ha, hb⟩
theorem all52 : Sim.AllRun Tryd.prog [] 6 2000 inp k52 s52 := run52
theorem all53 : Sim.AllRun Tryd.prog [] 6 2000 inp k53 s53 := run53
theorem all51 : Sim.AllRun Tryd.prog [] 6 2000 inp k51 s51 := by
  have ha := all52
  have hb := all53
  rw [← up51] at ha
  rw [← un51] at hb
  exact ⟨ha, hb⟩
theorem all55 : Sim.AllRun Tryd.prog [] 6 2000 inp k55 s55 := run55
theorem all56 : Sim.AllRun Tryd.prog [] 6 2000 inp k56 s56 := run56
theorem all54 : Sim.AllRun Tryd.prog [] 6 2000 inp k54 s54 := by
  have ha := all55
  have hb := all56
  rw [← up54] at ha
  rw [← un54] at hb
  exact ⟨ha, hb⟩
theorem all50 : Sim.AllRun Tryd.prog [] 6 2000 inp k50 s50 := by
  have ha := all51
  have hb := all54
  rw [← up50] at ha
  rw [← un50] at hb
  exact ⟨ha, hb⟩
theorem all42 : Sim.AllRun Tryd.prog [] 6 2000 inp k42 s42 := by
  have ha := all43
  have hb := all50
  rw [← up42] at ha
  rw [← un42] at hb
  exact ⟨ha, hb⟩
theorem all26 : Sim.AllRun Tryd.prog [] 6 2000 inp k26 s26 := by
  have ha := all27
  have hb := all42
  rw [← up26] at ha
  rw [← un26] at hb
  exact ⟨ha, hb⟩
theorem all57 : Sim.AllRun Tryd.prog [] 6 2000 inp k57 s57 := run57
theorem all25 : Sim.AllRun Tryd.prog [] 6 2000 inp k25 s25 := by
  have ha := all26
  have hb := all57
  rw [← up25] at ha
  rw [← un25] at hb
  exact ⟨ha, hb⟩
theorem all58 : Sim.AllRun Tryd.prog [] 6 2000 inp k58 s58 := run58
theorem all24 : Sim.AllRun Tryd.prog [] 6 2000 inp k24 s24 := by
  have ha := all25
  have hb := all58
  rw [← up24] at ha
  rw [← un24] at hb
  exact ⟨ha, hb⟩
theorem all59 : Sim.AllRun Tryd.prog [] 6 2000 inp k59 s59 := run59
theorem all23 : Sim.AllRun Tryd.prog [] 6 2000 inp k23 s23 := by
  have ha := all24
  have hb := all59
  rw [← up23] at ha
  rw [← un23] at hb
  exact ⟨ha, hb⟩
theorem all60 : Sim.AllRun Tryd.prog [] 6 2000 inp k60 s60 := run60
theorem all22 : Sim.AllRun Tryd.prog [] 6 2000 inp k22 s22 := by
  have ha := all23
  have hb := all60
  rw [← up22] at ha
  rw [← un22] at hb
  exact ⟨ha, hb⟩
theorem all61 : Sim.AllRun Tryd.prog [] 6 2000 inp k61 s61 := run61
theorem all21 : Sim.AllRun Tryd.prog [] 6 2000 inp k21 s21 := by
  have ha := all22
  have hb := all61
  rw [← up21] at ha
  rw [← un21] at hb
  exact ⟨ha, hb⟩
theorem all62 : Sim.AllRun Tryd.prog [] 6 2000 inp k62 s62 := run62
theorem all20 : Sim.AllRun Tryd.prog [] 6 2000 inp k20 s20 := by
  have ha := all21
  have hb := all62
  rw [← up20] at ha
  rw [← un20] at hb
  exact ⟨ha, hb⟩
theorem all63 : Sim.AllRun Tryd.prog [] 6 2000 inp k63 s63 := run63
theorem all19 : Sim.AllRun Tryd.prog [] 6 2000 inp k19 s19 := by
  have ha := all20
  have hb := all63
  rw [← up19] at ha
  rw [← un19] at hb
  exact ⟨ha, hb⟩
theorem all64 : Sim.AllRun Tryd.prog [] 6 2000 inp k64 s64 := run64
theorem all18 : Sim.AllRun Tryd.prog [] 6 2000 inp k18 s18 := by
  have ha := all19
  have hb := all64
  rw [← up18] at ha
  rw [← un18] at hb
  exact ⟨ha, hb⟩
theorem all65 : Sim.AllRun Tryd.prog [] 6 2000 inp k65 s65 := run65
theorem all17 : Sim.AllRun Tryd.prog [] 6 2000 inp k17 s17 := by
  have ha := all18
  have hb := all65
  rw [← up17] at ha
  rw [← un17] at hb
  exact ⟨ha, hb⟩
theorem all66 : Sim.AllRun Tryd.prog [] 6 2000 inp k66 s66 := run66
theorem all16 : Sim.AllRun Tryd.prog [] 6 2000 inp k16 s16 := by
  have ha := all17
  have hb := all66
  rw [← up16] at ha
  rw [← un16] at hb
  exact ⟨ha, hb⟩
theorem all67 : Sim.AllRun Tryd.prog [] 6 2000 inp k67 s67 := run67
theorem all15 : Sim.AllRun Tryd.prog [] 6 2000 inp k15 s15 := by
  have ha := all16
  have hb := all67
  rw [← up15] at ha
  rw [← un15] at hb
  exact ⟨ha, hb⟩
theorem all68 : Sim.AllRun Tryd.prog [] 6 2000 inp k68 s68 := run68
theorem all14 : Sim.AllRun Tryd.prog [] 6 2000 inp k14 s14 := by
  have ha := all15
  have hb := all68
  rw [← up14] at ha
  rw [← un14] at hb
  exact ⟨ha, hb⟩
theorem all69 : Sim.AllRun Tryd.prog [] 6 2000 inp k69 s69 := run69
theorem all13 : Sim.AllRun Tryd.prog [] 6 2000 inp k13 s13 := by
  have ha := all14
  have hb := all69
  rw [← up13] at ha
  rw [← un13] at hb
  exact ⟨ha, hb⟩
theorem all70 : Sim.AllRun Tryd.prog [] 6 2000 inp k70 s70 := run70
theorem all12 : Sim.AllRun Tryd.prog [] 6 2000 inp k12 s12 := by
  have ha := all13
  have hb := all70
  rw [← up12] at ha
  rw [← un12] at hb
  exact ⟨ha, hb⟩
theorem all71 : Sim.AllRun Tryd.prog [] 6 2000 inp k71 s71 := run71
theorem all11 : Sim.AllRun Tryd.prog [] 6 2000 inp k11 s11 := by
  have ha := all12
  have hb := all71
  rw [← up11] at ha
  rw [← un11] at hb
  exact ⟨ha, hb⟩
theorem all72 : Sim.AllRun Tryd.prog [] 6 2000 inp k72 s72 := run72
theorem all10 : Sim.AllRun Tryd.prog [] 6 2000 inp k10 s10 := by
  have ha := all11
  have hb := all72
  rw [← up10] at ha
  rw [← un10] at hb
  exact ⟨ha, hb⟩
theorem all73 : Sim.AllRun Tryd.prog [] 6 2000 inp k73 s73 := run73
theorem all9 : Sim.AllRun Tryd.prog [] 6 2000 inp k9 s9 := by
  have ha := all10
  have hb := all73
  rw [← up9] at ha
  rw [← un9] at hb
  exact ⟨ha, hb⟩
theorem all74 : Sim.AllRun Tryd.prog [] 6 2000 inp k74 s74 := run74
theorem all8 : Sim.AllRun Tryd.prog [] 6 2000 inp k8 s8 := by
  have ha := all9
  have hb := all74
  rw [← up8] at ha
  rw [← un8] at hb
  exact ⟨ha, hb⟩
theorem all75 : Sim.AllRun Tryd.prog [] 6 2000 inp k75 s75 := run75
theorem all7 : Sim.AllRun Tryd.prog [] 6 2000 inp k7 s7 := by
  have ha := all8
  have hb := all75
  rw [← up7] at ha
  rw [← un7] at hb
  exact ⟨ha, hb⟩
theorem all76 : Sim.AllRun Tryd.prog [] 6 2000 inp k76 s76 := run76
theorem all6 : Sim.AllRun Tryd.prog [] 6 2000 inp k6 s6 := by
  have ha := all7
  have hb := all76
  rw [← up6] at ha
  rw [← un6] at hb
  exact ⟨ha, hb⟩
theorem all77 : Sim.AllRun Tryd.prog [] 6 2000 inp k77 s77 := run77
theorem all5 : Sim.AllRun Tryd.prog [] 6 2000 inp k5 s5 := by
  have ha := all6
  have hb := all77
  rw [← up5] at ha
  rw [← un5] at hb
  exact ⟨ha, hb⟩
theorem all78 : Sim.AllRun Tryd.prog [] 6 2000 inp k78 s78 := run78
theorem all4 : Sim.AllRun Tryd.prog [] 6 2000 inp k4 s4 := by
  have ha := all5
  have hb := all78
  rw [← up4] at ha
  rw [← un4] at hb
  exact ⟨ha, hb⟩
theorem all79 : Sim.AllRun Tryd.prog [] 6 2000 inp k79 s79 := run79
theorem all3 : Sim.AllRun Tryd.prog [] 6 2000 inp k3 s3 := by
  have ha := all4
  have hb := all79
  rw [← up3] at ha
  rw [← un3] at hb
  exact ⟨ha, hb⟩
theorem all80 : Sim.AllRun Tryd.prog [] 6 2000 inp k80 s80 := run80
theorem all2 : Sim.AllRun Tryd.prog [] 6 2000 inp k2 s2 := by
  have ha := all3
  have hb := all80
  rw [← up2] at ha
  rw [← un2] at hb
  exact ⟨ha, hb⟩
theorem all81 : Sim.AllRun Tryd.prog [] 6 2000 inp k81 s81 := run81
theorem all1 : Sim.AllRun Tryd.prog [] 6 2000 inp k1 s1 := by
  have ha := all2
  have hb := all81
  rw [← up1] at ha
  rw [← un1] at hb
  exact ⟨ha, hb⟩
theorem all82 : Sim.AllRun Tryd.prog [] 6 2000 inp k82 s82 := run82
theorem all0 : Sim.AllRun Tryd.prog [] 6 2000 inp k0 s0 := by
  have ha := all1
  have hb := all82
  rw [← up0] at ha
  rw [← un0] at hb
  exact ⟨ha, hb⟩
theorem runs : Sim.AllRun Tryd.prog [] 6 2000 (Sim.argsV 0 shp) (Sim.factsA shp con) s0 := by
  rw [inpIs, root]; exact all0
theorem g_math_bits_deBruijn32tab : Tryd.prog.globalNamed "math/bits.deBruijn32tab" = some 6 := by kernel_rfl
theorem t_math_bits_deBruijn32tab : (Tryd.prog.globals[6]?).map (·.type) = some 199 := by kernel_rfl
theorem c_math_bits_deBruijn32tab : Tryd.prog.cellsOf 5 = 1 := by kernel_rfl
theorem g_math_bits_deBruijn64tab : Tryd.prog.globalNamed "math/bits.deBruijn64tab" = some 7 := by kernel_rfl
theorem t_math_bits_deBruijn64tab : (Tryd.prog.globals[7]?).map (·.type) = some 200 := by kernel_rfl
theorem c_math_bits_deBruijn64tab : Tryd.prog.cellsOf 5 = 1 := by kernel_rfl
theorem g_internal_strconv_uint64pow10 : Tryd.prog.globalNamed "internal/strconv.uint64pow10" = some 2 := by kernel_rfl
theorem t_internal_strconv_uint64pow10 : (Tryd.prog.globals[2]?).map (·.type) = some 183 := by kernel_rfl
theorem c_internal_strconv_uint64pow10 : Tryd.prog.cellsOf 162 = 1 := by kernel_rfl
theorem door_met (os : Os) (args : Array Value) : laidMetH Tryd.prog Rows.lifetimeDerivesRow.laid ((World.doorLaid Tryd.prog 400 os).forCall (fun _ _ => 0) ⟨#[], args, []⟩).memory :=
  laidMetH_of_parts3 (fuel := 8) (laidMet_of_run' 8 (by kernel_rfl) (by kernel_rfl)) (by kernel_rfl) (by kernel_rfl)
noncomputable def fx : Sim.Vars := [(2, Sim.cellsOfD (H := Unit) Rows.laid_internal_strconv_uint64pow10), (6, Sim.cellsOfD (H := Unit) Rows.laid_math_bits_deBruijn32tab), (7, Sim.cellsOfD (H := Unit) Rows.laid_math_bits_deBruijn64tab)]
theorem of_laid {W : World} (h : laidMetH Tryd.prog Rows.lifetimeDerivesRow.laid W) : Sim.Holds fx W ∧ Tryd.prog.globals.size ≤ W.heap.size := by
  rw [show laidMetH Tryd.prog Rows.lifetimeDerivesRow.laid W = _ from MakeChecks.laidMetH_plain _ _ _ (by kernel_rfl)] at h
  obtain ⟨ps, ⟨g0, t0, cs0, f0, p0, q0, hg0, ht0, hv0, hd0, ⟨g1, t1, cs1, f1, p1, q1, hg1, ht1, hv1, hd1, ⟨g2, t2, cs2, f2, p2, q2, hg2, ht2, hv2, hd2, _, _⟩, _⟩, _⟩, _⟩ := h
  obtain rfl := Option.some.inj (g_math_bits_deBruijn32tab.symm.trans hg0)
  obtain rfl := Option.some.inj (t_math_bits_deBruijn32tab.symm.trans ht0)
  obtain rfl := Option.some.inj (g_math_bits_deBruijn64tab.symm.trans hg1)
  obtain rfl := Option.some.inj (t_math_bits_deBruijn64tab.symm.trans ht1)
  obtain rfl := Option.some.inj (g_internal_strconv_uint64pow10.symm.trans hg2)
  obtain rfl := Option.some.inj (t_internal_strconv_uint64pow10.symm.trans ht2)
  have H0 := Sim.holds_var hg0 hv0 (Sim.cells_of_ints Tryd.underlying199 Tryd.underlying5 c_math_bits_deBruijn32tab hd0)
  have H1 := Sim.holds_var hg1 hv1 (Sim.cells_of_ints Tryd.underlying200 Tryd.underlying5 c_math_bits_deBruijn64tab hd1)
  have H2 := Sim.holds_var hg2 hv2 (Sim.cells_of_ints Tryd.underlying183 Tryd.underlying162 c_internal_strconv_uint64pow10 hd2)
  refine ⟨fun p hp => ?_, ?_⟩
  · simp only [fx, List.mem_cons, List.not_mem_nil, or_false] at hp
    rcases hp with rfl | rfl | rfl
    · exact H2
    · exact H0
    · exact H1
  · obtain ⟨c, e, f, h, _⟩ := H1
    exact Sim.size_of_heap h (by have : Tryd.prog.globals.size = 8 := by kernel_rfl
                                 omega)

/-! THE ROW -/
set_option maxRecDepth 100000 in
theorem lifted (os : Os) (started : os.Started) (H : Type) (enc : TypeId × Value → H) :
    ReturnsInHanded {} Tryd.checked os 6 .any (fun w args => (Rows.lifetimeDerivesSpec.pre enc Tryd.prog Tryd.f6 [] false w args ∧ laidMetH Tryd.prog Rows.lifetimeDerivesRow.laid w) ∧ sizedMet enc Tryd.prog Tryd.f6 (OpenSpec.ofChange Rows.lifetimeDerivesSpec) false w args)
      (Rows.lifetimeDerivesSpec.post enc Tryd.prog Tryd.f6 false true false false) := by
  refine returnsInHanded_of_change_and (C := Tryd.checked) (X := fun w _ => laidMetH Tryd.prog Rows.lifetimeDerivesRow.laid w) (fun _ _ _ hh h => h.of_heap hh) own started (by kernel_rfl) Tryd.func6
    (ChangeSpec.witness_shaped (enc := enc) (C := Tryd.checked) (os := os) (X := fun w _ => laidMetH Tryd.prog Rows.lifetimeDerivesRow.laid w) false (World.doorLaid Tryd.prog 400 os) #[.agg #[.int .i64 0, .int .i64 0, .int .i64 0, .int .i64 0], .agg #[.int .i64 0, .int .i64 0, .int .i64 0], .agg #[.int .i64 0, .int .i64 0], .int .i64 0, .int .i64 0] 8 rfl (World.shaped_of_RefB (by kernel_rfl) (by kernel_rfl)) (by kernel_rfl) (by kernel_rfl) (by kernel_rfl) (door_met os _)) ?_
  intro W base vs ds gs before hval hW _ _ hL _
  obtain ⟨hw, hG⟩ := of_laid hL
  refine Sim.post_of_S (P := Tryd.prog) (fn := Tryd.f6) (s := Rows.lifetimeDerivesSpec) (fx := []) (con := con) mixed laidOut rfl (by kernel_rfl : Tryd.f6.resultTypes = #[4]) Tryd.underlying4 (by kernel_rfl) rfl ?_ args runs (fun e he w' hb => ?_) (fun p hp => by cases hp) hG hval hW
  · intro ds hds
    match ds, hds with
    | [d0, d1, d2, d3, d4], _ => rfl
  · simp only [con, List.mem_cons, List.not_mem_nil, or_false] at he
    subst he
    have hwf : Sim.Holds fx w' := fun p hp => by
      obtain ⟨c, e, f, h1, h2⟩ := hw p hp
      exact ⟨c, e, f, by rw [hb.block _ (Array.getElem?_eq_some_iff.1 h1).1]; exact h1, h2⟩
    have hs := hb.size
    refine (known w' hwf (by omega)).mono fun e' w'' ⟨h1, h2⟩ => ⟨_, h1, .bool true, h2⟩

theorem over : Rows.LifetimeDerivesSaid :=
  OpenClaim.holds_of_wide 6 Tryd.f6 rfl rfl rfl rfl rfl rfl rfl ⟨rfl, rfl, rfl, rfl, rfl⟩ rfl rfl rfl rfl rfl (by kernel_rfl) Tryd.func6 (by kernel_rfl)
    (of_decide_eq_true (by kernel_rfl)) (by unfold Func.isWrapper; first | (rw [if_pos (by decide +kernel)]; kernel_rfl) | (rw [if_neg (by decide +kernel)]; exact ⟨rfl, rfl⟩))
    (fun os started H enc _ => lifted os started H enc)

/-- THE STATEMENT -/
theorem proved : Rows.LifetimeDerivesCardSaid :=
  Claim7.holds_tied_plain_at .later [] [.data, .data, .data] true (true, "39424501aa65b55a31c2f44590ffde264d41f2189d27f69186088dfbe5d80f87") true
    over (fun _ h => by cases h) (by kernel_rfl) (fun _ h => by cases h) lifetimeDerives_row_tie rfl ⟨rfl, rfl⟩ (by kernel_rfl) rfl
    (fun f fn hf hfn => by
      obtain rfl : f = 6 := Option.some.inj ((show Tryd.prog.funcNamed Rows.lifetimeDerivesRow.func = some 6 by kernel_rfl).symm.trans hf) |>.symm
      obtain rfl : fn = Tryd.f6 := (Option.some.inj (Tryd.func6.symm.trans hfn)).symm
      exact ⟨by kernel_rfl, fun j t ht => by
        rw [Tryd.params6] at ht
        have hm : t ∈ [23, 34, 36, 3, 3] := by simpa using Array.mem_of_getElem? ht
        have hall : ([23, 34, 36, 3, 3].all fun u => !Tryd.prog.wantsStandIn u) = true := by kernel_rfl
        exact (show Tryd.prog.wantsStandIn t = false by simpa using List.all_eq_true.1 hall t hm)⟩)
    (by kernel_rfl)
#print axioms proved
end Go.Proofs.YtnmlbahdipmpgaaDoor.lifetimeDerives
