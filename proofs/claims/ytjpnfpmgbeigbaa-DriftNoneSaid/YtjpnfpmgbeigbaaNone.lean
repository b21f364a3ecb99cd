/- DriftNone (watchword): for every input the call returns true and the input reads as it did. No conditions. -/
import Derived.Test.YtjpnfpmgbeigbaaKnown2
import Derived.WalkKit
import Derived.ProofKit
import Derived.OpenShut
import Derived.ShutString
namespace Go.Proofs.Ytjpnfpmgbeigbaa.driftNone
open Go.ChangeShapes Go.WideShapes Go.ChangeAt Go.RowKit
open Go.ChangeMaps (open_string shut_string)
set_option linter.unusedVariables false      -- a walk need not use every 'w<i>' (that an integer argument fits its kind)

theorem own : ownKnob Try.prog.godebug = none := by kernel_rfl

/-! THE WALK -/
theorem walk (a0 : Int) (a1 : Int) (w0 : (Lit.int .i64 a0).wf = true) (w1 : (Lit.int .i64 a1).wf = true) (w : World) :
    Calls Try.prog 7 #[.int .i64 a0, .int .i64 a1] w fun e w' => e = .returned (.bool true) ∧ Below w.heap.size w w' := by
  go_enter Try.func7, Try.ntmps7
  go_wp2_with fail
  refine (new_yes 0 0 0 _ (by decide) (by decide) (by decide) (by decide) (by decide) (by decide)).mono ?_
  rintro e x1 ⟨b, rfl, hn, hC1, B1⟩
  have hl1 := hC1.lt
  go_wp2_with fail
  refine wp_loop_rounds 3 ?_
  rw [rounds_succ]
  go_wp2_with (first | (go_at_call 17; refine (show_dead _ _ _ ?_).mono ?_; exact Or.inl rfl; rintro e w' ⟨rfl, rfl⟩) | (go_at_call 20; refine (deviation_dead _ _ _ ?_).mono ?_; exact Or.inl rfl; rintro e w' ⟨rfl, rfl⟩) | (go_at_call 21; refine (step_dead _ _ _ _ ?_).mono ?_; exact Or.inl rfl; rintro e w' ⟨rfl, rfl⟩) | (go_at_call 19; refine (setRate_dead _ _ _ _ ?_).mono ?_; exact Or.inl rfl; rintro e w' ⟨rfl, rfl⟩) | (go_at_call 18; refine (copy_dead _ _ ?_).mono ?_; exact Or.inl rfl; rintro e w' ⟨rfl, rfl⟩) | (go_at_call 13; refine (ex_dead _ _ _ _ ?_).mono ?_; exact Or.inl rfl; rintro e w' ⟨rfl, rfl⟩) | (go_at_call 15; (with_reducible refine (within_dead1 _ (.pointer none) _ _ _ ?_).mono ?_); exact Or.inl rfl; rintro e w' ⟨rfl, rfl⟩) | (go_at_call 15; refine (within_dead2 _ b 0 0 0 (.pointer none) _ _ ?_ ?_).mono ?_; exact hC1.below (B := x1.heap.size) (by go_grown) hl1; exact Or.inl rfl; rintro e w' ⟨rfl, rfl⟩))
  rw [rounds_succ]
  go_wp2_with (first | (go_at_call 17; refine (show_dead _ _ _ ?_).mono ?_; exact Or.inr ⟨_, rfl, by go_cell⟩; rintro e w' ⟨rfl, rfl⟩) | (go_at_call 20; refine (deviation_dead _ _ _ ?_).mono ?_; exact Or.inr ⟨_, rfl, by go_cell⟩; rintro e w' ⟨rfl, rfl⟩) | (go_at_call 21; refine (step_dead _ _ _ _ ?_).mono ?_; exact Or.inr ⟨_, rfl, by go_cell⟩; rintro e w' ⟨rfl, rfl⟩) | (go_at_call 19; refine (setRate_dead _ _ _ _ ?_).mono ?_; exact Or.inr ⟨_, rfl, by go_cell⟩; rintro e w' ⟨rfl, rfl⟩) | (go_at_call 18; refine (copy_dead _ _ ?_).mono ?_; exact Or.inr ⟨_, rfl, by go_cell⟩; rintro e w' ⟨rfl, rfl⟩) | (go_at_call 13; refine (ex_dead _ _ _ _ ?_).mono ?_; exact Or.inr ⟨_, rfl, by go_cell⟩; rintro e w' ⟨rfl, rfl⟩) | (go_at_call 15; (with_reducible refine (within_dead1 _ (.pointer (some ⟨x1.heap.size, 0, none⟩)) _ _ _ ?_).mono ?_); exact Or.inr ⟨_, rfl, by go_cell⟩; rintro e w' ⟨rfl, rfl⟩) | (go_at_call 15; refine (within_dead2 _ b 0 0 0 (.pointer (some ⟨x1.heap.size, 0, none⟩)) _ _ ?_ ?_).mono ?_; exact hC1.below (B := x1.heap.size) (by go_grown) hl1; exact Or.inr ⟨_, rfl, by go_cell⟩; rintro e w' ⟨rfl, rfl⟩))
  rw [rounds_succ]
  go_wp2_with fail
  refine (known_any _).mono ?_
  rintro e w' ⟨rfl, BK⟩
  go_wp2
  go_ret
  refine ⟨rfl, B1.trans (Below.mono (B := x1.heap.size) (Below.trans ?_ (BK.mono ?_)) B1.size)⟩
  · go_grown
  · simp; omega

/-! THE ROW -/
set_option maxRecDepth 100000 in
theorem lifted (os : Os) (started : os.Started) (H : Type) (enc : TypeId × Value → H) :
    ReturnsInHanded {} Try.checked os 7 .any (Rows.driftNoneSpec.pre6 enc Try.prog Try.f7 Rows.driftNoneRow.domain false) (Rows.driftNoneSpec.post enc Try.prog Try.f7 false true false false) := by
  refine returnsInHanded_of_change (C := Try.checked) own started (by kernel_rfl) Try.func7
    (ChangeSpec.witness6 (enc := enc) (C := Try.checked) false ⟨#[], #[.int .i64 0, .int .i64 0], []⟩ 8 (by kernel_rfl) (by kernel_rfl) (by kernel_rfl) (by kernel_rfl)) ?_
  intro W base args ds gs before hval0 hW hcnd _
  have hval : ∀ (j : Nat) t v, Try.f7.params[j]? = some t → args[j]? = some v → Value.okWide Try.prog W .any base t v := hval0
  have hW' := hW
  obtain ⟨p, q, hA0, hV, rfl, hfz, hnd⟩ := hW
  have hA : DataW.TrodAll enc Try.prog W 0 (fun _ => true) true Try.f7.params.toList args.toList ds p := hA0
  rw [Try.params7] at hA hval
  obtain ⟨v0, vs0, d0, ds0, p0, q0, hargs, rfl, rfl, h0, r0⟩ := trodAll_cons hA
  obtain ⟨v1, vs1, d1, ds1, p1, q1, rfl, rfl, rfl, h1, r1⟩ := trodAll_cons r0
  obtain ⟨rfl, rfl, rfl⟩ := trodAll_nil r1
  obtain rfl : args = #[v0, v1] := by cases args; simp_all
  obtain ⟨rfl, rfl⟩ := trodVars_none hV
  obtain ⟨a0, rfl, rfl, rfl, w0⟩ := open_int Try.underlying3 (hval 0 3 v0 rfl rfl) h0
  obtain ⟨a1, rfl, rfl, rfl, w1⟩ := open_int Try.underlying3 (hval 1 3 v1 rfl rfl) h1
  clear hA0 hval0
  simp only [List.append_nil] at hW'
  refine (walk a0 a1 w0 w1 W).mono fun e W' ⟨he, hg⟩ => ?_
  subst he
  exact ⟨_, rfl, _, _, _, [], [], [], hW', (trodAll_cons_mk (shut_bool Try.underlying4 _) trodAll_mk0), (trodAll_cons_mk (shut_int Try.underlying3 w0) (trodAll_cons_mk (shut_int Try.underlying3 w1) trodAll_mk0)), rfl, hg.frame _, fun h => by cases h⟩

theorem over : Rows.driftNoneRow.holds Try.pinned (OpenSpec.ofChange Rows.driftNoneSpec) :=
  OpenClaim.holds_of_wide 7 Try.f7 rfl rfl rfl rfl rfl rfl rfl ⟨rfl, rfl, rfl, rfl, rfl⟩ rfl rfl rfl rfl rfl (by kernel_rfl) Try.func7 (by kernel_rfl)
    (of_decide_eq_true (by kernel_rfl)) (by unfold Func.isWrapper; first | (rw [if_pos (by decide +kernel)]; kernel_rfl) | (rw [if_neg (by decide +kernel)]; exact ⟨rfl, rfl⟩))
    (fun os started H enc _ => lifted os started H enc)

/-- THE STATEMENT -/
theorem proved : Rows.DriftNoneSaid :=
  over
#print axioms proved
end Go.Proofs.Ytjpnfpmgbeigbaa.driftNone
