/- LockoutNone (watchword): for every input the call returns true and the input reads as it did; where the tables that it reads hold what the program's text lays there. -/
import Derived.Test.YtcjnnmbdgfekgaaGreatDoorSymE
import Derived.Test.YtcjnnmbdgfekgaaGreatDoorChecked
import Derived.Test.YtcjnnmbdgfekgaaGreatDoorRows
import Derived.Test.YtcjnnmbdgfekgaaGreatDoorTie
import Derived.Test.YtcjnnmbdgfekgaaGreatDoorCards
import Derived.WalkKit
import Derived.ProofKit
import Derived.OpenShut
import Derived.ShutString
import Derived.HandedShaped
import Derived.LaidMore
import Derived.Lay
import Derived.Stop.Joined
import Derived.SevenTiedAt
import Derived.Test.YtcjnnmbdgfekgaaGreatDoorKnown2
import Derived.Test.YtcjnnmbdgfekgaaGreatDoorLockoutNoneK
import Derived.Test.YtcjnnmbdgfekgaaGreatDoorLockoutNoneJ
namespace Go.Proofs.YtcjnnmbdgfekgaaGreatDoor.lockoutNone
open Go.ChangeShapes Go.WideShapes Go.ChangeAt Go.RowKit
set_option linter.unusedVariables false

theorem own : ownKnob Tryz.prog.godebug = none := by kernel_rfl
theorem mixed : Tryz.prog.follows .mixedOrders = true := by kernel_rfl
theorem laidOut : laidOutB Tryz.prog = true := by kernel_rfl
theorem args : Sim.argsA Tryz.prog Tryz.f8.params.toList = some shp := by kernel_rfl
theorem els_eq : Sim.elsAs Tryz.prog Tryz.f8.params.toList shp 0 = els := by kernel_rfl
theorem g_unicode_utf8_acceptRanges : Tryz.prog.globalNamed "unicode/utf8.acceptRanges" = some 1 := by kernel_rfl
theorem t_unicode_utf8_acceptRanges : (Tryz.prog.globals[1]?).map (·.type) = some 314 := by kernel_rfl
theorem c_unicode_utf8_acceptRanges : Sim.cellsOfD (H := Unit) Rows.laid_unicode_utf8_acceptRanges = [] := by kernel_rfl
theorem g_watchword_sha_constants : Tryz.prog.globalNamed "watchword/sha.constants" = some 6 := by kernel_rfl
theorem t_watchword_sha_constants : (Tryz.prog.globals[6]?).map (·.type) = some 384 := by kernel_rfl
theorem c_watchword_sha_constants : Tryz.prog.cellsOf 26 = 1 := by kernel_rfl
theorem g_unicode_utf8_first : Tryz.prog.globalNamed "unicode/utf8.first" = some 0 := by kernel_rfl
theorem t_unicode_utf8_first : (Tryz.prog.globals[0]?).map (·.type) = some 311 := by kernel_rfl
theorem c_unicode_utf8_first : Tryz.prog.cellsOf 5 = 1 := by kernel_rfl
noncomputable def fx : Sim.Vars := [(0, Sim.cellsOfD (H := Unit) Rows.laid_unicode_utf8_first), (1, Sim.cellsOfD (H := Unit) Rows.laid_unicode_utf8_acceptRanges), (6, Sim.cellsOfD (H := Unit) Rows.laid_watchword_sha_constants)]
theorem of_laid {W : World} (h : laidMetH Tryz.prog Rows.lockoutNoneRow.laid W) : Sim.Holds fx W ∧ Tryz.prog.globals.size ≤ W.heap.size := by
  rw [show laidMetH Tryz.prog Rows.lockoutNoneRow.laid W = _ from MakeChecks.laidMetH_plain _ _ _ (by kernel_rfl)] at h
  obtain ⟨ps, ⟨g0, t0, cs0, f0, p0, q0, hg0, ht0, hv0, hd0, ⟨g1, t1, cs1, f1, p1, q1, hg1, ht1, hv1, hd1, ⟨g2, t2, cs2, f2, p2, q2, hg2, ht2, hv2, hd2, _, _⟩, _⟩, _⟩, _⟩ := h
  obtain rfl := Option.some.inj (g_unicode_utf8_acceptRanges.symm.trans hg0)
  obtain rfl := Option.some.inj (t_unicode_utf8_acceptRanges.symm.trans ht0)
  obtain rfl := Option.some.inj (g_watchword_sha_constants.symm.trans hg1)
  obtain rfl := Option.some.inj (t_watchword_sha_constants.symm.trans ht1)
  obtain rfl := Option.some.inj (g_unicode_utf8_first.symm.trans hg2)
  obtain rfl := Option.some.inj (t_unicode_utf8_first.symm.trans ht2)
  have H0 := Sim.holds_var (L := Sim.cellsOfD (H := Unit) Rows.laid_unicode_utf8_acceptRanges) hg0 hv0 (fun o v h => by rw [c_unicode_utf8_acceptRanges] at h; simp at h)
  have H1 := Sim.holds_var hg1 hv1 (Sim.cells_of_ints Tryz.underlying384 Tryz.underlying26 c_watchword_sha_constants hd1)
  have H2 := Sim.holds_var hg2 hv2 (Sim.cells_of_ints Tryz.underlying311 Tryz.underlying5 c_unicode_utf8_first hd2)
  refine ⟨fun p hp => ?_, ?_⟩
  · simp only [fx, List.mem_cons, List.not_mem_nil, or_false] at hp
    rcases hp with rfl | rfl | rfl
    · exact H2
    · exact H0
    · exact H1
  · obtain ⟨c, e, f, h, _⟩ := H1
    exact Sim.size_of_heap h (by have : Tryz.prog.globals.size = 7 := by kernel_rfl
                                 omega)

/-! THE ROW -/
set_option maxRecDepth 100000 in
theorem lifted (os : Os) (started : os.Started) (H : Type) (enc : TypeId × Value → H) :
    ReturnsInHanded {} Tryz.checked os 8 .any (fun w args => (Rows.lockoutNoneSpec.pre enc Tryz.prog Tryz.f8 [] false w args ∧ laidMetH Tryz.prog Rows.lockoutNoneRow.laid w) ∧ sizedMet enc Tryz.prog Tryz.f8 (OpenSpec.ofChange Rows.lockoutNoneSpec) false w args)
      (Rows.lockoutNoneSpec.post enc Tryz.prog Tryz.f8 false true false false) := by
  refine returnsInHanded_of_change_and (C := Tryz.checked) (X := fun w _ => laidMetH Tryz.prog Rows.lockoutNoneRow.laid w) (fun _ _ _ hh h => h.of_heap hh) own started (by kernel_rfl) Tryz.func8
    (ChangeSpec.witness_shaped (enc := enc) (C := Tryz.checked) (os := os) (X := fun w _ => laidMetH Tryz.prog Rows.lockoutNoneRow.laid w) false (World.laidAll Tryz.prog os Rows.lockoutNoneRow.laid) #[.agg #[.slice none 0 0, .string ⟨#[]⟩], .int .i64 0] 8 (World.laidAll_os _ _ _) (World.shaped_of_ZipB (by kernel_rfl) (by kernel_rfl)) (by kernel_rfl) (by kernel_rfl) (by kernel_rfl) (by rw [MakeChecks.laidMetH_plain _ _ _ (by kernel_rfl)]; exact laidMet_laidAll _ (by kernel_rfl) (by kernel_rfl))) ?_
  intro W base vs ds gs before hval hW _ _ hL _
  obtain ⟨hw, hG⟩ := of_laid hL
  refine Sim.post_of_T (P := Tryz.prog) (fn := Tryz.f8) (s := Rows.lockoutNoneSpec) (fx := []) (con := con) (els := els) (sp := .leaf) (nb := 0) (fuel := 6000) mixed laidOut rfl (by kernel_rfl : Tryz.f8.resultTypes = #[4]) Tryz.underlying4 (by kernel_rfl) rfl ?_ args els_eq (by kernel_rfl) runL (fun p hp => by cases hp) hG (fun ha h64 hel => ?_) hval hW
  · intro ds hds
    match ds, hds with
    | [d0, d1], _ => rfl
  · intro e he w' hb
    simp only [con, List.mem_cons, List.not_mem_nil, or_false] at he
    subst he
    exact (known w' (Sim.holds_below hw hb) (Nat.le_trans hG hb.size)).mono fun e' w'' ⟨h1, h2⟩ => ⟨_, h1, .bool true, h2⟩

theorem over : Rows.LockoutNoneSaid :=
  OpenClaim.holds_of_wide 8 Tryz.f8 rfl rfl rfl rfl rfl rfl rfl ⟨rfl, rfl, rfl, rfl, rfl⟩ rfl rfl rfl rfl rfl named Tryz.func8 joined inst wrap
    (fun os started H enc _ => lifted os started H enc)

set_option maxHeartbeats 40000000 in
/-- THE STATEMENT -/
theorem proved : Rows.LockoutNoneCardSaid :=
  Claim7.holds_tied_plain_at .later [] [.data, .data, .pinned] true (true, "8635963aa446c466d467c1bcf53a0b70a4ce9da9f014669275644cab42f611d1") true
    over (fun _ h => by cases h) (by as_aux_lemma => kernel_rfl) (fun _ h => by cases h) lockoutNone_row_tie rfl ⟨rfl, rfl⟩ (by as_aux_lemma => kernel_rfl) rfl
    (fun f fn hf hfn => by
      obtain rfl : f = 8 := Option.some.inj ((show Tryz.prog.funcNamed Rows.lockoutNoneRow.func = some 8 by kernel_rfl).symm.trans hf) |>.symm
      obtain rfl : fn = Tryz.f8 := (Option.some.inj (Tryz.func8.symm.trans hfn)).symm
      exact ⟨by kernel_rfl, fun j t ht => by
        rw [Tryz.params8] at ht
        have hm : t ∈ [24, 3] := by simpa using Array.mem_of_getElem? ht
        have hall : ([24, 3].all fun u => !Tryz.prog.wantsStandIn u) = true := by kernel_rfl
        exact (show Tryz.prog.wantsStandIn t = false by simpa using List.all_eq_true.1 hall t hm)⟩)
    (by as_aux_lemma => kernel_rfl)
#print axioms proved
end Go.Proofs.YtcjnnmbdgfekgaaGreatDoor.lockoutNone
