/- ProfileNames (watchword): for every input the call returns true and the input reads as it did; where the tables that it reads hold what the program's text lays there. -/
import Derived.Test.YtbofnfbkjangiaaGreatDoorSymE
import Derived.Test.YtbofnfbkjangiaaGreatDoorChecked
import Derived.Test.YtbofnfbkjangiaaGreatDoorRows
import Derived.Test.YtbofnfbkjangiaaGreatDoorTie
import Derived.Test.YtbofnfbkjangiaaGreatDoorCards
import Derived.WalkKit
import Derived.ProofKit
import Derived.OpenShut
import Derived.ShutString
import Derived.HandedShaped
import Derived.LaidMore
import Derived.Lay
import Derived.Stop.Joined
import Derived.SevenTiedAt
import Derived.Test.YtbofnfbkjangiaaGreatDoorKnC
import Derived.Test.YtbofnfbkjangiaaGreatDoorProfileNamesK
import Derived.Test.YtbofnfbkjangiaaGreatDoorProfileNamesJ
namespace Go.Proofs.YtbofnfbkjangiaaGreatDoor.profileNames
open Go.ChangeShapes Go.WideShapes Go.ChangeAt Go.RowKit
set_option linter.unusedVariables false
set_option maxHeartbeats 40000000

theorem own : ownKnob Tryz.prog.godebug = none := by kernel_rfl
theorem mixed : Tryz.prog.follows .mixedOrders = true := by kernel_rfl
theorem laidOut : laidOutB Tryz.prog = true := by kernel_rfl
theorem args : Sim.argsA Tryz.prog Tryz.f3.params.toList = some shp := by kernel_rfl
theorem els_eq : Sim.elsAs Tryz.prog Tryz.f3.params.toList shp 0 = els := by kernel_rfl
theorem g_watchword_sha_constants : Tryz.prog.globalNamed "watchword/sha.constants" = some 0 := by kernel_rfl
theorem t_watchword_sha_constants : (Tryz.prog.globals[0]?).map (·.type) = some 147 := by kernel_rfl
theorem c_watchword_sha_constants : Tryz.prog.cellsOf 134 = 1 := by kernel_rfl
noncomputable def fx : Sim.Vars := kn.fx
theorem of_laid {W : World} (h : laidMetH Tryz.prog Rows.profileNamesRow.laid W) : Sim.Holds fx W ∧ Tryz.prog.globals.size ≤ W.heap.size := by
  rw [show laidMetH Tryz.prog Rows.profileNamesRow.laid W = _ from MakeChecks.laidMetH_plain _ _ _ (by kernel_rfl)] at h
  obtain ⟨ps, ⟨g0, t0, cs0, f0, p0, q0, hg0, ht0, hv0, hd0, _, _⟩, _⟩ := h
  obtain rfl := Option.some.inj (g_watchword_sha_constants.symm.trans hg0)
  obtain rfl := Option.some.inj (t_watchword_sha_constants.symm.trans ht0)
  have H0 := Sim.holds_var hg0 hv0 (Sim.cells_of_ints Tryz.underlying147 Tryz.underlying134 c_watchword_sha_constants hd0)
  constructor
  · intro p hp
    simp only [fx, kn.fx, List.mem_cons, List.not_mem_nil, or_false] at hp
    subst hp
    exact H0
  · obtain ⟨c, e, f, h, _⟩ := H0
    exact Sim.size_of_heap h (by have : Tryz.prog.globals.size = 1 := by kernel_rfl
                                 omega)

/-! THE ROW -/
set_option maxRecDepth 100000 in
theorem lifted (os : Os) (started : os.Started) (H : Type) (enc : TypeId × Value → H) :
    ReturnsInHanded {} Tryz.checked os 3 .any (fun w args => (Rows.profileNamesSpec.pre enc Tryz.prog Tryz.f3 [] false w args ∧ laidMetH Tryz.prog Rows.profileNamesRow.laid w) ∧ sizedMet enc Tryz.prog Tryz.f3 (OpenSpec.ofChange Rows.profileNamesSpec) false w args)
      (Rows.profileNamesSpec.post enc Tryz.prog Tryz.f3 false true false false) := by
  refine returnsInHanded_of_change_and (C := Tryz.checked) (X := fun w _ => laidMetH Tryz.prog Rows.profileNamesRow.laid w) (fun _ _ _ hh h => h.of_heap hh) own started (by kernel_rfl) Tryz.func3
    (ChangeSpec.witness_shaped (enc := enc) (C := Tryz.checked) (os := os) (X := fun w _ => laidMetH Tryz.prog Rows.profileNamesRow.laid w) false (World.laidAll Tryz.prog os Rows.profileNamesRow.laid) #[.int .i64 0] 8 (World.laidAll_os _ _ _) (World.shaped_of_ZipB (by kernel_rfl) (by kernel_rfl)) (by kernel_rfl) (by kernel_rfl) (by kernel_rfl) (by rw [MakeChecks.laidMetH_plain _ _ _ (by kernel_rfl)]; exact laidMet_laidAll _ (by kernel_rfl) (by kernel_rfl))) ?_
  intro W base vs ds gs before hval hW _ _ hL _
  obtain ⟨hw, hG⟩ := of_laid hL
  refine Sim.post_of_T (P := Tryz.prog) (fn := Tryz.f3) (s := Rows.profileNamesSpec) (fx := []) (con := con) (els := els) (sp := .leaf) (nb := 0) (fuel := 6000) mixed laidOut rfl (by kernel_rfl : Tryz.f3.resultTypes = #[4]) Tryz.underlying4 (by kernel_rfl) rfl ?_ args els_eq (by kernel_rfl) runL (fun p hp => by cases hp) hG (fun ha h64 hel => ?_) hval hW
  · intro ds hds
    match ds, hds with
    | [d0], _ => rfl
  · intro e he w' hb
    simp only [con, List.mem_cons, List.not_mem_nil, or_false] at he
    subst he
    exact (kn.known w' (Sim.holds_below hw hb) (Nat.le_trans hG hb.size)).mono fun e' w'' ⟨h1, h2⟩ => ⟨_, h1, .bool true, h2⟩

theorem over : Rows.ProfileNamesSaid :=
  OpenClaim.holds_of_wide 3 Tryz.f3 rfl rfl rfl rfl rfl rfl rfl ⟨rfl, rfl, rfl, rfl, rfl⟩ rfl rfl rfl rfl rfl named Tryz.func3 joined inst wrap
    (fun os started H enc _ => lifted os started H enc)

/-- THE STATEMENT -/
theorem proved : Rows.ProfileNamesCardSaid :=
  Claim7.holds_tied_plain_at .later [] [.data] true (true, "4b9eabeb1112621c61a2be5b4142d6e828329e02ff370eff1c1fe2f77dc1068e") false
    over (fun _ h => by cases h) (by as_aux_lemma => kernel_rfl) (fun _ h => by cases h) profileNames_row_tie rfl ⟨rfl, rfl⟩ (by as_aux_lemma => kernel_rfl) rfl
    (fun f fn hf hfn => by
      obtain rfl : f = 3 := Option.some.inj ((show Tryz.prog.funcNamed Rows.profileNamesRow.func = some 3 by kernel_rfl).symm.trans hf) |>.symm
      obtain rfl : fn = Tryz.f3 := (Option.some.inj (Tryz.func3.symm.trans hfn)).symm
      exact ⟨by kernel_rfl, fun j t ht => by
        rw [Tryz.params3] at ht
        have hm : t ∈ [3] := by simpa using Array.mem_of_getElem? ht
        have hall : ([3].all fun u => !Tryz.prog.wantsStandIn u) = true := by kernel_rfl
        exact (show Tryz.prog.wantsStandIn t = false by simpa using List.all_eq_true.1 hall t hm)⟩)
    (by as_aux_lemma => kernel_rfl)
#print axioms proved
end Go.Proofs.YtbofnfbkjangiaaGreatDoor.profileNames
