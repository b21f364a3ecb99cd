/- LifetimeInitial (watchword): for every input the call returns true and the input reads as it did; where the tables that it reads hold what the program's text lays there. -/
import Derived.Test.YtnmlbahdipmpgaaDoorSimD
import Derived.Test.YtnmlbahdipmpgaaDoorChecked
import Derived.Test.YtnmlbahdipmpgaaDoorRows
import Derived.Test.YtnmlbahdipmpgaaDoorTie
import Derived.Test.YtnmlbahdipmpgaaDoorCards
import Derived.WalkKit
import Derived.ProofKit
import Derived.OpenShut
import Derived.ShutString
import Derived.HandedShaped
import Derived.LaidMore
import Derived.Stop.Joined
import Derived.SevenTiedAt
import Derived.Test.YtnmlbahdipmpgaaDoorKnown
import Derived.Test.YtnmlbahdipmpgaaDoorLifetimeInitialR0
import Derived.Test.YtnmlbahdipmpgaaDoorLifetimeInitialR1
import Derived.Test.YtnmlbahdipmpgaaDoorLifetimeInitialR2
import Derived.Test.YtnmlbahdipmpgaaDoorLifetimeInitialR3
import Derived.Test.YtnmlbahdipmpgaaDoorLifetimeInitialR4
import Derived.Test.YtnmlbahdipmpgaaDoorLifetimeInitialR5
namespace Go.Proofs.YtnmlbahdipmpgaaDoor.lifetimeInitial
open Go.ChangeShapes Go.WideShapes Go.ChangeAt Go.RowKit
set_option linter.unusedVariables false

theorem own : ownKnob Tryd.prog.godebug = none := by kernel_rfl
theorem mixed : Tryd.prog.follows .mixedOrders = true := by kernel_rfl
theorem laidOut : laidOutB Tryd.prog = true := by kernel_rfl
theorem args : Sim.argsA Tryd.prog Tryd.f5.params.toList = some shp := by kernel_rfl
theorem all16 : Sim.AllRun Tryd.prog [] 5 2000 inp k16 s16 := run16
theorem all17 : Sim.AllRun Tryd.prog [] 5 2000 inp k17 s17 := run17
theorem all15 : Sim.AllRun Tryd.prog [] 5 2000 inp k15 s15 := by
  have ha := all16
  have hb := all17
  rw [← up15] at ha
  rw [← un15] at hb
  exact ⟨ha, hb⟩
theorem all19 : Sim.AllRun Tryd.prog [] 5 2000 inp k19 s19 := run19
theorem all20 : Sim.AllRun Tryd.prog [] 5 2000 inp k20 s20 := run20
theorem all18 : Sim.AllRun Tryd.prog [] 5 2000 inp k18 s18 := by
  have ha := all19
  have hb := all20
  rw [← up18] at ha
  rw [← un18] at hb
  exact ⟨ha, hb⟩
theorem all14 : Sim.AllRun Tryd.prog [] 5 2000 inp k14 s14 := by
  have ha := all15
  have hb := all18
  rw [← up14] at ha
  rw [← un14] at hb
  exact ⟨ha, hb⟩
theorem all21 : Sim.AllRun Tryd.prog [] 5 2000 inp k21 s21 := run21
theorem all13 : Sim.AllRun Tryd.prog [] 5 2000 inp k13 s13 := by
  have ha := all14
  have hb := all21
  rw [← up13] at ha
  rw [← un13] at hb
  exact ⟨ha, hb⟩
theorem all22 : Sim.AllRun Tryd.prog [] 5 2000 inp k22 s22 := run22
theorem all12 : Sim.AllRun Tryd.prog [] 5 2000 inp k12 s12 := by
  have ha := all13
  have hb := all22
  rw [← up12] at ha
  rw [← un12] at hb
  exact ⟨ha, hb⟩
theorem all23 : Sim.AllRun Tryd.prog [] 5 2000 inp k23 s23 := run23
theorem all11 : Sim.AllRun Tryd.prog [] 5 2000 inp k11 s11 := by
  have ha := all12
  have hb := all23
  rw [← up11] at ha
  rw [← un11] at hb
  exact ⟨ha, hb⟩
theorem all24 : Sim.AllRun Tryd.prog [] 5 2000 inp k24 s24 := run24
theorem all10 : Sim.AllRun Tryd.prog [] 5 2000 inp k10 s10 := by
  have ha := all11
  have hb := all24
  rw [← up10] at ha
  rw [← un10] at hb
  exact ⟨ha, hb⟩
theorem all25 : Sim.AllRun Tryd.prog [] 5 2000 inp k25 s25 := run25
theorem all9 : Sim.AllRun Tryd.prog [] 5 2000 inp k9 s9 := by
  have ha := all10
  have hb := all25
  rw [← up9] at ha
  rw [← un9] at hb
  exact ⟨ha, hb⟩
theorem all26 : Sim.AllRun Tryd.prog [] 5 2000 inp k26 s26 := run26
theorem all8 : Sim.AllRun Tryd.prog [] 5 2000 inp k8 s8 := by
  have ha := all9
  have hb := all26
  rw [← up8] at ha
  rw [← un8] at hb
  exact ⟨ha, hb⟩
theorem all27 : Sim.AllRun Tryd.prog [] 5 2000 inp k27 s27 := run27
theorem all7 : Sim.AllRun Tryd.prog [] 5 2000 inp k7 s7 := by
  have ha := all8
  have hb := all27
  rw [← up7] at ha
  rw [← un7] at hb
  exact ⟨ha, hb⟩
theorem all28 : Sim.AllRun Tryd.prog [] 5 2000 inp k28 s28 := run28
theorem all6 : Sim.AllRun Tryd.prog [] 5 2000 inp k6 s6 := by
  have ha := all7
  have hb := all28
  rw [← up6] at ha
  rw [← un6] at hb
  exact ⟨ha, hb⟩
theorem all29 : Sim.AllRun Tryd.prog [] 5 2000 inp k29 s29 := run29
theorem all5 : Sim.AllRun Tryd.prog [] 5 2000 inp k5 s5 := by
  have ha := all6
  have hb := all29
  rw [← up5] at ha
  rw [← un5] at hb
  exact ⟨ha, hb⟩
theorem all30 : Sim.AllRun Tryd.prog [] 5 2000 inp k30 s30 := run30
theorem all4 : Sim.AllRun Tryd.prog [] 5 2000 inp k4 s4 := by
  have ha := all5
  have hb := all30
  rw [← up4] at ha
  rw [← un4] at hb
  exact ⟨ha, hb⟩
theorem all31 : Sim.AllRun Tryd.prog [] 5 2000 inp k31 s31 := run31
theorem all3 : Sim.AllRun Tryd.prog [] 5 2000 inp k3 s3 := by
  have ha := all4
  have hb := all31
  rw [← up3] at ha
  rw [← un3] at hb
  exact ⟨ha, hb⟩
theorem all32 : Sim.AllRun Tryd.prog [] 5 2000 inp k32 s32 := run32
theorem all2 : Sim.AllRun Tryd.prog [] 5 2000 inp k2 s2 := by
  have ha := all3
  have hb := all32
  rw [← up2] at ha
  rw [← un2] at hb
  exact ⟨ha, hb⟩
theorem all33 : Sim.AllRun Tryd.prog [] 5 2000 inp k33 s33 := run33
theorem all1 : Sim.AllRun Tryd.prog [] 5 2000 inp k1 s1 := by
  have ha := all2
  have hb := all33
  rw [← up1] at ha
  rw [← un1] at hb
  exact ⟨ha, hb⟩
theorem all34 : Sim.AllRun Tryd.prog [] 5 2000 inp k34 s34 := run34
theorem all0 : Sim.AllRun Tryd.prog [] 5 2000 inp k0 s0 := by
  have ha := all1
  have hb := all34
  rw [← up0] at ha
  rw [← un0] at hb
  exact ⟨ha, hb⟩
theorem runs : Sim.AllRun Tryd.prog [] 5 2000 (Sim.argsV 0 shp) (Sim.factsA shp con) s0 := by
  rw [inpIs, root]; exact all0
theorem g_math_bits_deBruijn32tab : Tryd.prog.globalNamed "math/bits.deBruijn32tab" = some 6 := by kernel_rfl
theorem t_math_bits_deBruijn32tab : (Tryd.prog.globals[6]?).map (·.type) = some 199 := by kernel_rfl
theorem c_math_bits_deBruijn32tab : Tryd.prog.cellsOf 5 = 1 := by kernel_rfl
theorem g_math_bits_deBruijn64tab : Tryd.prog.globalNamed "math/bits.deBruijn64tab" = some 7 := by kernel_rfl
theorem t_math_bits_deBruijn64tab : (Tryd.prog.globals[7]?).map (·.type) = some 200 := by kernel_rfl
theorem c_math_bits_deBruijn64tab : Tryd.prog.cellsOf 5 = 1 := by kernel_rfl
theorem g_internal_strconv_uint64pow10 : Tryd.prog.globalNamed "internal/strconv.uint64pow10" = some 2 := by kernel_rfl
theorem t_internal_strconv_uint64pow10 : (Tryd.prog.globals[2]?).map (·.type) = some 183 := by kernel_rfl
theorem c_internal_strconv_uint64pow10 : Tryd.prog.cellsOf 162 = 1 := by kernel_rfl
theorem door_met (os : Os) (args : Array Value) : laidMetH Tryd.prog Rows.lifetimeInitialRow.laid ((World.doorLaid Tryd.prog 400 os).forCall (fun _ _ => 0) ⟨#[], args, []⟩).memory :=
  laidMetH_of_parts3 (fuel := 8) (laidMet_of_run' 8 (by kernel_rfl) (by kernel_rfl)) (by kernel_rfl) (by kernel_rfl)
noncomputable def fx : Sim.Vars := [(2, Sim.cellsOfD (H := Unit) Rows.laid_internal_strconv_uint64pow10), (6, Sim.cellsOfD (H := Unit) Rows.laid_math_bits_deBruijn32tab), (7, Sim.cellsOfD (H := Unit) Rows.laid_math_bits_deBruijn64tab)]
theorem of_laid {W : World} (h : laidMetH Tryd.prog Rows.lifetimeInitialRow.laid W) : Sim.Holds fx W ∧ Tryd.prog.globals.size ≤ W.heap.size := by
  rw [show laidMetH Tryd.prog Rows.lifetimeInitialRow.laid W = _ from MakeChecks.laidMetH_plain _ _ _ (by kernel_rfl)] at h
  obtain ⟨ps, ⟨g0, t0, cs0, f0, p0, q0, hg0, ht0, hv0, hd0, ⟨g1, t1, cs1, f1, p1, q1, hg1, ht1, hv1, hd1, ⟨g2, t2, cs2, f2, p2, q2, hg2, ht2, hv2, hd2, _, _⟩, _⟩, _⟩, _⟩ := h
  obtain rfl := Option.some.inj (g_math_bits_deBruijn32tab.symm.trans hg0)
  obtain rfl := Option.some.inj (t_math_bits_deBruijn32tab.symm.trans ht0)
  obtain rfl := Option.some.inj (g_math_bits_deBruijn64tab.symm.trans hg1)
  obtain rfl := Option.some.inj (t_math_bits_deBruijn64tab.symm.trans ht1)
  obtain rfl := Option.some.inj (g_internal_strconv_uint64pow10.symm.trans hg2)
  obtain rfl := Option.some.inj (t_internal_strconv_uint64pow10.symm.trans ht2)
  have H0 := Sim.holds_var hg0 hv0 (Sim.cells_of_ints Tryd.underlying199 Tryd.underlying5 c_math_bits_deBruijn32tab hd0)
  have H1 := Sim.holds_var hg1 hv1 (Sim.cells_of_ints Tryd.underlying200 Tryd.underlying5 c_math_bits_deBruijn64tab hd1)
  have H2 := Sim.holds_var hg2 hv2 (Sim.cells_of_ints Tryd.underlying183 Tryd.underlying162 c_internal_strconv_uint64pow10 hd2)
  refine ⟨fun p hp => ?_, ?_⟩
  · simp only [fx, List.mem_cons, List.not_mem_nil, or_false] at hp
    rcases hp with rfl | rfl | rfl
    · exact H2
    · exact H0
    · exact H1
  · obtain ⟨c, e, f, h, _⟩ := H1
    exact Sim.size_of_heap h (by have : Tryd.prog.globals.size = 8 := by kernel_rfl
                                 omega)

/-! THE ROW -/
set_option maxRecDepth 100000 in
theorem lifted (os : Os) (started : os.Started) (H : Type) (enc : TypeId × Value → H) :
    ReturnsInHanded {} Tryd.checked os 5 .any (fun w args => (Rows.lifetimeInitialSpec.pre enc Tryd.prog Tryd.f5 [] false w args ∧ laidMetH Tryd.prog Rows.lifetimeInitialRow.laid w) ∧ sizedMet enc Tryd.prog Tryd.f5 (OpenSpec.ofChange Rows.lifetimeInitialSpec) false w args)
      (Rows.lifetimeInitialSpec.post enc Tryd.prog Tryd.f5 false true false false) := by
  refine returnsInHanded_of_change_and (C := Tryd.checked) (X := fun w _ => laidMetH Tryd.prog Rows.lifetimeInitialRow.laid w) (fun _ _ _ hh h => h.of_heap hh) own started (by kernel_rfl) Tryd.func5
    (ChangeSpec.witness_shaped (enc := enc) (C := Tryd.checked) (os := os) (X := fun w _ => laidMetH Tryd.prog Rows.lifetimeInitialRow.laid w) false (World.doorLaid Tryd.prog 400 os) #[.agg #[.int .i64 0, .int .i64 0, .int .i64 0], .agg #[.int .i64 0, .int .i64 0], .int .i64 0, .int .i64 0] 8 rfl (World.shaped_of_RefB (by kernel_rfl) (by kernel_rfl)) (by kernel_rfl) (by kernel_rfl) (by kernel_rfl) (door_met os _)) ?_
  intro W base vs ds gs before hval hW _ _ hL _
  obtain ⟨hw, hG⟩ := of_laid hL
  refine Sim.post_of_S (P := Tryd.prog) (fn := Tryd.f5) (s := Rows.lifetimeInitialSpec) (fx := []) (con := con) mixed laidOut rfl (by kernel_rfl : Tryd.f5.resultTypes = #[4]) Tryd.underlying4 (by kernel_rfl) rfl ?_ args runs (fun e he w' hb => ?_) (fun p hp => by cases hp) hG hval hW
  · intro ds hds
    match ds, hds with
    | [d0, d1, d2, d3], _ => rfl
  · simp only [con, List.mem_cons, List.not_mem_nil, or_false] at he
    subst he
    have hwf : Sim.Holds fx w' := fun p hp => by
      obtain ⟨c, e, f, h1, h2⟩ := hw p hp
      exact ⟨c, e, f, by rw [hb.block _ (Array.getElem?_eq_some_iff.1 h1).1]; exact h1, h2⟩
    have hs := hb.size
    refine (known w' hwf (by omega)).mono fun e' w'' ⟨h1, h2⟩ => ⟨_, h1, .bool true, h2⟩

theorem over : Rows.LifetimeInitialSaid :=
  OpenClaim.holds_of_wide 5 Tryd.f5 rfl rfl rfl rfl rfl rfl rfl ⟨rfl, rfl, rfl, rfl, rfl⟩ rfl rfl rfl rfl rfl (by kernel_rfl) Tryd.func5 (by kernel_rfl)
    (of_decide_eq_true (by kernel_rfl)) (by unfold Func.isWrapper; first | (rw [if_pos (by decide +kernel)]; kernel_rfl) | (rw [if_neg (by decide +kernel)]; exact ⟨rfl, rfl⟩))
    (fun os started H enc _ => lifted os started H enc)

/-- THE STATEMENT -/
theorem proved : Rows.LifetimeInitialCardSaid :=
  Claim7.holds_tied_plain_at .later [] [.data, .data, .data] true (true, "39424501aa65b55a31c2f44590ffde264d41f2189d27f69186088dfbe5d80f87") true
    over (fun _ h => by cases h) (by kernel_rfl) (fun _ h => by cases h) lifetimeInitial_row_tie rfl ⟨rfl, rfl⟩ (by kernel_rfl) rfl
    (fun f fn hf hfn => by
      obtain rfl : f = 5 := Option.some.inj ((show Tryd.prog.funcNamed Rows.lifetimeInitialRow.func = some 5 by kernel_rfl).symm.trans hf) |>.symm
      obtain rfl : fn = Tryd.f5 := (Option.some.inj (Tryd.func5.symm.trans hfn)).symm
      exact ⟨by kernel_rfl, fun j t ht => by
        rw [Tryd.params5] at ht
        have hm : t ∈ [34, 36, 3, 3] := by simpa using Array.mem_of_getElem? ht
        have hall : ([34, 36, 3, 3].all fun u => !Tryd.prog.wantsStandIn u) = true := by kernel_rfl
        exact (show Tryd.prog.wantsStandIn t = false by simpa using List.all_eq_true.1 hall t hm)⟩)
    (by kernel_rfl)
#print axioms proved
end Go.Proofs.YtnmlbahdipmpgaaDoor.lifetimeInitial
