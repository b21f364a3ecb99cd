/- FlagsValid (watchword): for every input the call returns true and the input reads as it did; where the tables that it reads hold what the program's text lays there. -/
import Derived.Test.YtkmgimkbcnmjmaaDoorSymD
import Derived.Test.YtkmgimkbcnmjmaaDoorChecked
import Derived.Test.YtkmgimkbcnmjmaaDoorRows
import Derived.Test.YtkmgimkbcnmjmaaDoorTie
import Derived.Test.YtkmgimkbcnmjmaaDoorCards
import Derived.WalkKit
import Derived.ProofKit
import Derived.OpenShut
import Derived.ShutString
import Derived.HandedShaped
import Derived.LaidMore
import Derived.Lay
import Derived.Stop.Joined
import Derived.SevenTiedAt
import Derived.Test.YtkmgimkbcnmjmaaDoorKnown2
import Derived.Test.YtkmgimkbcnmjmaaDoorFlagsValidR0
namespace Go.Proofs.YtkmgimkbcnmjmaaDoor.flagsValid
open Go.ChangeShapes Go.WideShapes Go.ChangeAt Go.RowKit
set_option linter.unusedVariables false

theorem own : ownKnob Tryd.prog.godebug = none := by kernel_rfl
theorem mixed : Tryd.prog.follows .mixedOrders = true := by kernel_rfl
theorem laidOut : laidOutB Tryd.prog = true := by kernel_rfl
theorem args : Sim.argsA Tryd.prog Tryd.f3.params.toList = some shp := by kernel_rfl
theorem all0 : Sim.AllRun Tryd.prog [] 3 3000 inp k0 s0 := run0
theorem runs : Sim.AllRun Tryd.prog [] 3 3000 (Sim.argsV 0 shp) (Sim.factsW shp con [] 2) s0 := by
  rw [inpIs, root]; exact all0
theorem g_unicode_utf8_acceptRanges : Tryd.prog.globalNamed "unicode/utf8.acceptRanges" = some 2 := by kernel_rfl
theorem t_unicode_utf8_acceptRanges : (Tryd.prog.globals[2]?).map (·.type) = some 138 := by kernel_rfl
theorem c_unicode_utf8_acceptRanges : Sim.cellsOfD (H := Unit) Rows.laid_unicode_utf8_acceptRanges = [] := by kernel_rfl
theorem g_unicode_utf8_first : Tryd.prog.globalNamed "unicode/utf8.first" = some 1 := by kernel_rfl
theorem t_unicode_utf8_first : (Tryd.prog.globals[1]?).map (·.type) = some 135 := by kernel_rfl
theorem c_unicode_utf8_first : Tryd.prog.cellsOf 5 = 1 := by kernel_rfl
noncomputable def fx : Sim.Vars := [(1, Sim.cellsOfD (H := Unit) Rows.laid_unicode_utf8_first), (2, Sim.cellsOfD (H := Unit) Rows.laid_unicode_utf8_acceptRanges)]
theorem of_laid {W : World} (h : laidMetH Tryd.prog Rows.flagsValidRow.laid W) : Sim.Holds fx W ∧ Tryd.prog.globals.size ≤ W.heap.size := by
  rw [show laidMetH Tryd.prog Rows.flagsValidRow.laid W = _ from MakeChecks.laidMetH_plain _ _ _ (by kernel_rfl)] at h
  obtain ⟨ps, ⟨g0, t0, cs0, f0, p0, q0, hg0, ht0, hv0, hd0, ⟨g1, t1, cs1, f1, p1, q1, hg1, ht1, hv1, hd1, _, _⟩, _⟩, _⟩ := h
  obtain rfl := Option.some.inj (g_unicode_utf8_acceptRanges.symm.trans hg0)
  obtain rfl := Option.some.inj (t_unicode_utf8_acceptRanges.symm.trans ht0)
  obtain rfl := Option.some.inj (g_unicode_utf8_first.symm.trans hg1)
  obtain rfl := Option.some.inj (t_unicode_utf8_first.symm.trans ht1)
  have H0 := Sim.holds_var (L := Sim.cellsOfD (H := Unit) Rows.laid_unicode_utf8_acceptRanges) hg0 hv0 (fun o v h => by rw [c_unicode_utf8_acceptRanges] at h; simp at h)
  have H1 := Sim.holds_var hg1 hv1 (Sim.cells_of_ints Tryd.underlying135 Tryd.underlying5 c_unicode_utf8_first hd1)
  refine ⟨fun p hp => ?_, ?_⟩
  · simp only [fx, List.mem_cons, List.not_mem_nil, or_false] at hp
    rcases hp with rfl | rfl
    · exact H1
    · exact H0
  · obtain ⟨c, e, f, h, _⟩ := H0
    exact Sim.size_of_heap h (by have : Tryd.prog.globals.size = 3 := by kernel_rfl
                                 omega)

/-! THE ROW -/
set_option maxRecDepth 100000 in
theorem lifted (os : Os) (started : os.Started) (H : Type) (enc : TypeId × Value → H) :
    ReturnsInHanded {} Tryd.checked os 3 .any (fun w args => (Rows.flagsValidSpec.pre enc Tryd.prog Tryd.f3 [] false w args ∧ laidMetH Tryd.prog Rows.flagsValidRow.laid w) ∧ sizedMet enc Tryd.prog Tryd.f3 (OpenSpec.ofChange Rows.flagsValidSpec) false w args)
      (Rows.flagsValidSpec.post enc Tryd.prog Tryd.f3 false true false false) := by
  refine returnsInHanded_of_change_and (C := Tryd.checked) (X := fun w _ => laidMetH Tryd.prog Rows.flagsValidRow.laid w) (fun _ _ _ hh h => h.of_heap hh) own started (by kernel_rfl) Tryd.func3
    (ChangeSpec.witness_shaped (enc := enc) (C := Tryd.checked) (os := os) (X := fun w _ => laidMetH Tryd.prog Rows.flagsValidRow.laid w) false (World.laidAll Tryd.prog os Rows.flagsValidRow.laid) #[.int .u32 0, .int .u32 0] 8 (World.laidAll_os _ _ _) (World.shaped_of_ZipB (by kernel_rfl) (by kernel_rfl)) (by kernel_rfl) (by kernel_rfl) (by kernel_rfl) (by rw [MakeChecks.laidMetH_plain _ _ _ (by kernel_rfl)]; exact laidMet_laidAll _ (by kernel_rfl) (by kernel_rfl))) ?_
  intro W base vs ds gs before hval hW _ _ hL _
  obtain ⟨hw, hG⟩ := of_laid hL
  refine Sim.post_of_S (P := Tryd.prog) (fn := Tryd.f3) (s := Rows.flagsValidSpec) (fx := []) (con := con) mixed laidOut rfl (by kernel_rfl : Tryd.f3.resultTypes = #[4]) Tryd.underlying4 (by kernel_rfl) rfl ?_ args (by kernel_rfl) runs (fun e he w' hb => ?_) (fun p hp => by cases hp) hG hval hW
  · intro ds hds
    match ds, hds with
    | [d0, d1], _ => rfl
  · simp only [con, List.mem_cons, List.not_mem_nil, or_false] at he
    subst he
    have hwf : Sim.Holds fx w' := fun p hp => by
      obtain ⟨c, e, f, h1, h2⟩ := hw p hp
      exact ⟨c, e, f, by rw [hb.block _ (Array.getElem?_eq_some_iff.1 h1).1]; exact h1, h2⟩
    have hs := hb.size
    refine (known w' hwf (by omega)).mono fun e' w'' ⟨h1, h2⟩ => ⟨_, h1, .bool true, h2⟩

theorem over : Rows.FlagsValidSaid :=
  OpenClaim.holds_of_wide 3 Tryd.f3 rfl rfl rfl rfl rfl rfl rfl ⟨rfl, rfl, rfl, rfl, rfl⟩ rfl rfl rfl rfl rfl (by kernel_rfl) Tryd.func3 (by kernel_rfl)
    (of_decide_eq_true (by kernel_rfl)) (by unfold Func.isWrapper; first | (rw [if_pos (by decide +kernel)]; kernel_rfl) | (rw [if_neg (by decide +kernel)]; exact ⟨rfl, rfl⟩))
    (fun os started H enc _ => lifted os started H enc)

/-- THE STATEMENT -/
theorem proved : Rows.FlagsValidCardSaid :=
  Claim7.holds_tied_plain_at .later [] [.data, .pinned] true (true, "16a22bbbbf6d938e126787e9323210ff6c2c1b7d9341b1484b251fea3584e2c3") true
    over (fun _ h => by cases h) (by kernel_rfl) (fun _ h => by cases h) flagsValid_row_tie rfl ⟨rfl, rfl⟩ (by kernel_rfl) rfl
    (fun f fn hf hfn => by
      obtain rfl : f = 3 := Option.some.inj ((show Tryd.prog.funcNamed Rows.flagsValidRow.func = some 3 by kernel_rfl).symm.trans hf) |>.symm
      obtain rfl : fn = Tryd.f3 := (Option.some.inj (Tryd.func3.symm.trans hfn)).symm
      exact ⟨by kernel_rfl, fun j t ht => by
        rw [Tryd.params3] at ht
        have hm : t ∈ [22, 22] := by simpa using Array.mem_of_getElem? ht
        have hall : ([22, 22].all fun u => !Tryd.prog.wantsStandIn u) = true := by kernel_rfl
        exact (show Tryd.prog.wantsStandIn t = false by simpa using List.all_eq_true.1 hall t hm)⟩)
    (by kernel_rfl)
#print axioms proved
end Go.Proofs.YtkmgimkbcnmjmaaDoor.flagsValid
