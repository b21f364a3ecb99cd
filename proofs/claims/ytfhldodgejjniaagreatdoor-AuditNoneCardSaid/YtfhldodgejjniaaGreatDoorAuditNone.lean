/- AuditNone (watchword): for every input the call returns true and the input reads as it did; where the tables that it reads hold what the program's text lays there. -/
import Derived.Test.YtfhldodgejjniaaGreatDoorSymE
import Derived.Test.YtfhldodgejjniaaGreatDoorChecked
import Derived.Test.YtfhldodgejjniaaGreatDoorRows
import Derived.Test.YtfhldodgejjniaaGreatDoorTie
import Derived.Test.YtfhldodgejjniaaGreatDoorCards
import Derived.WalkKit
import Derived.ProofKit
import Derived.OpenShut
import Derived.ShutString
import Derived.HandedShaped
import Derived.LaidMore
import Derived.Lay
import Derived.Stop.Joined
import Derived.SevenTiedAt
import Derived.Test.YtfhldodgejjniaaGreatDoorKnown2
import Derived.Test.YtfhldodgejjniaaGreatDoorAuditNoneK
namespace Go.Proofs.YtfhldodgejjniaaGreatDoor.auditNone
open Go.ChangeShapes Go.WideShapes Go.ChangeAt Go.RowKit
set_option linter.unusedVariables false

theorem own : ownKnob Tryz.prog.godebug = none := by kernel_rfl
theorem mixed : Tryz.prog.follows .mixedOrders = true := by kernel_rfl
theorem laidOut : laidOutB Tryz.prog = true := by kernel_rfl
theorem args : Sim.argsA Tryz.prog Tryz.f7.params.toList = some shp := by kernel_rfl
theorem els_eq : Sim.elsAs Tryz.prog Tryz.f7.params.toList shp 0 = els := by kernel_rfl
theorem g_unicode_utf8_acceptRanges : Tryz.prog.globalNamed "unicode/utf8.acceptRanges" = some 1 := by kernel_rfl
theorem t_unicode_utf8_acceptRanges : (Tryz.prog.globals[1]?).map (·.type) = some 168 := by kernel_rfl
theorem c_unicode_utf8_acceptRanges : Sim.cellsOfD (H := Unit) Rows.laid_unicode_utf8_acceptRanges = [] := by kernel_rfl
theorem g_unicode_utf8_first : Tryz.prog.globalNamed "unicode/utf8.first" = some 0 := by kernel_rfl
theorem t_unicode_utf8_first : (Tryz.prog.globals[0]?).map (·.type) = some 164 := by kernel_rfl
theorem c_unicode_utf8_first : Tryz.prog.cellsOf 5 = 1 := by kernel_rfl
noncomputable def fx : Sim.Vars := [(0, Sim.cellsOfD (H := Unit) Rows.laid_unicode_utf8_first), (1, Sim.cellsOfD (H := Unit) Rows.laid_unicode_utf8_acceptRanges)]
theorem of_laid {W : World} (h : laidMetH Tryz.prog Rows.auditNoneRow.laid W) : Sim.Holds fx W := by
  rw [show laidMetH Tryz.prog Rows.auditNoneRow.laid W = _ from MakeChecks.laidMetH_plain _ _ _ (by kernel_rfl)] at h
  obtain ⟨ps, ⟨g0, t0, cs0, f0, p0, q0, hg0, ht0, hv0, hd0, ⟨g1, t1, cs1, f1, p1, q1, hg1, ht1, hv1, hd1, _, _⟩, _⟩, _⟩ := h
  obtain rfl := Option.some.inj (g_unicode_utf8_acceptRanges.symm.trans hg0)
  obtain rfl := Option.some.inj (t_unicode_utf8_acceptRanges.symm.trans ht0)
  obtain rfl := Option.some.inj (g_unicode_utf8_first.symm.trans hg1)
  obtain rfl := Option.some.inj (t_unicode_utf8_first.symm.trans ht1)
  have H0 := Sim.holds_var (L := Sim.cellsOfD (H := Unit) Rows.laid_unicode_utf8_acceptRanges) hg0 hv0 (fun o v h => by rw [c_unicode_utf8_acceptRanges] at h; simp at h)
  have H1 := Sim.holds_var hg1 hv1 (Sim.cells_of_ints Tryz.underlying164 Tryz.underlying5 c_unicode_utf8_first hd1)
  intro p hp
  simp only [fx, List.mem_cons, List.not_mem_nil, or_false] at hp
  rcases hp with rfl | rfl
  · exact H1
  · exact H0
/-- the variables lie in the heap -/
theorem size_of_shape {W : World} (h : W.ShapedOpen Tryz.prog) : Tryz.prog.globals.size ≤ W.heap.size := by
  have h3 : Tryz.prog.globals.size = 3 := by kernel_rfl
  obtain ⟨cs, hh, _⟩ := h.1 2 #[.int .i64 0] 3 (by omega) (by kernel_rfl)
  have h2 := (Array.getElem?_eq_some_iff.1 hh).1
  omega

/-! THE ROW -/
set_option maxRecDepth 100000 in
theorem lifted (os : Os) (started : os.Started) (H : Type) (enc : TypeId × Value → H) :
    ReturnsInHanded {} Tryz.checked os 7 .any (fun w args => (Rows.auditNoneSpec.pre enc Tryz.prog Tryz.f7 [] false w args ∧ laidMetH Tryz.prog Rows.auditNoneRow.laid w) ∧ sizedMet enc Tryz.prog Tryz.f7 (OpenSpec.ofChange Rows.auditNoneSpec) false w args)
      (Rows.auditNoneSpec.post enc Tryz.prog Tryz.f7 false true false false) := by
  refine returnsInHanded_of_calls (C := Tryz.checked) own started (by kernel_rfl)
    (ChangeSpec.witness_shaped (enc := enc) (C := Tryz.checked) (os := os) (X := fun w _ => laidMetH Tryz.prog Rows.auditNoneRow.laid w) false (World.laidAll Tryz.prog os Rows.auditNoneRow.laid) #[.agg #[.int .i64 0, .int .i64 0, .slice none 0 0, .string ⟨#[]⟩, .slice none 0 0, .string ⟨#[]⟩, .slice none 0 0, .string ⟨#[]⟩, .slice none 0 0, .slice none 0 0, .int .i64 0, .int .i64 0, .int .i64 0, .int .i64 0, .slice none 0 0], .int .i64 0] 8 (World.laidAll_os _ _ _) (World.shaped_of_ZipB (by kernel_rfl) (by kernel_rfl)) (by kernel_rfl) (by kernel_rfl) (by kernel_rfl) (by rw [MakeChecks.laidMetH_plain _ _ _ (by kernel_rfl)]; exact laidMet_laidAll _ (by kernel_rfl) (by kernel_rfl))) ?_
  intro w0 tape i _ hsh _ hok hpre hholds
  obtain ⟨_, _, _, fn', hfn', _, _, _, _, hval⟩ := hok
  have e : fn' = Tryz.f7 := Option.some.inj (hfn'.symm.trans Tryz.func7)
  subst e
  obtain ⟨⟨⟨ds, gs, before, hw0, hc⟩, hx⟩, hz⟩ := hpre
  have hW := DataW.Whole.of_heap (w' := w0.forCall tape i) (by rfl) hw0
  have hL : laidMetH Tryz.prog Rows.auditNoneRow.laid (w0.forCall tape i) := hx.of_heap (by rfl)
  have hG := size_of_shape hsh
  have hw := of_laid hL
  refine (Sim.post_of_T (P := Tryz.prog) (fn := Tryz.f7) (s := Rows.auditNoneSpec) (fx := []) (con := con) (els := els) (sp := .leaf) (nb := 0) (fuel := 3000) mixed laidOut rfl (by kernel_rfl : Tryz.f7.resultTypes = #[4]) Tryz.underlying4 (by kernel_rfl) rfl ?_ args els_eq (by kernel_rfl) runL (fun p hp => by cases hp) hG (fun ha h64 hel => ?_) hval hW).mono fun e W' ⟨v, he, hp⟩ => ?_
  · intro ds hds
    match ds, hds with
    | [d0, d1], _ => rfl
  · have nx : Sim.Holds [] (w0.forCall tape i) := fun p hp => by cases hp
    have s1 : Sim.ConOk Tryz.prog (w0.forCall tape i) (Sim.cellsR shp i.args.toList) c1 := Sim.con_step (fx := []) mixed ha hel nx hG (by kernel_rfl) rfl h64 runC (fun e he => by cases he)
    have s2 : Sim.ConOk Tryz.prog (w0.forCall tape i) (Sim.cellsR shp i.args.toList) c2 := Sim.con_step (fx := []) mixed ha hel nx hG (by kernel_rfl) rfl h64 runB s1
    have s3 : Sim.ConOk Tryz.prog (w0.forCall tape i) (Sim.cellsR shp i.args.toList) c3 := Sim.con_step (fx := []) mixed ha hel nx hG (by kernel_rfl) rfl h64 runA s2
    have s4 : Sim.ConOk Tryz.prog (w0.forCall tape i) (Sim.cellsR shp i.args.toList) c4 := by
      intro e he w' hb
      rcases List.mem_cons.1 he with rfl | he
      · exact (known w' (Sim.holds_below hw hb) (Nat.le_trans hG hb.size)).mono fun e' w'' ⟨h1, h2⟩ => ⟨_, h1, .bool true, h2⟩
      · exact s3 e he w' hb
    exact Sim.con_step (fx := []) mixed ha hel nx hG (by kernel_rfl) rfl h64 runD s4
  · subst he
    exact ChangeSpec.post_blind hp

theorem over : Rows.AuditNoneSaid :=
  OpenClaim.holds_of_wide 7 Tryz.f7 rfl rfl rfl rfl rfl rfl rfl ⟨rfl, rfl, rfl, rfl, rfl⟩ rfl rfl rfl rfl rfl (by kernel_rfl) Tryz.func7 (by kernel_rfl)
    (of_decide_eq_true (by kernel_rfl)) (by unfold Func.isWrapper; first | (rw [if_pos (by decide +kernel)]; kernel_rfl) | (rw [if_neg (by decide +kernel)]; exact ⟨rfl, rfl⟩))
    (fun os started H enc _ => lifted os started H enc)

/-- THE STATEMENT -/
theorem proved : Rows.AuditNoneCardSaid :=
  Claim7.holds_tied_plain_at .later [] [.data, .pinned] true (true, "5a8f9a1410c7c661e37df53db649b61c8bd20a9a1e3f4e6cb047023fe78342cf") false
    over (fun _ h => by cases h) (by kernel_rfl) (fun _ h => by cases h) auditNone_row_tie rfl ⟨rfl, rfl⟩ (by kernel_rfl) rfl
    (fun f fn hf hfn => by
      obtain rfl : f = 7 := Option.some.inj ((show Tryz.prog.funcNamed Rows.auditNoneRow.func = some 7 by kernel_rfl).symm.trans hf) |>.symm
      obtain rfl : fn = Tryz.f7 := (Option.some.inj (Tryz.func7.symm.trans hfn)).symm
      exact ⟨by kernel_rfl, fun j t ht => by
        rw [Tryz.params7] at ht
        have hm : t ∈ [48, 3] := by simpa using Array.mem_of_getElem? ht
        have hall : ([48, 3].all fun u => !Tryz.prog.wantsStandIn u) = true := by kernel_rfl
        exact (show Tryz.prog.wantsStandIn t = false by simpa using List.all_eq_true.1 hall t hm)⟩)
    (by kernel_rfl)
#print axioms proved
end Go.Proofs.YtfhldodgejjniaaGreatDoor.auditNone
