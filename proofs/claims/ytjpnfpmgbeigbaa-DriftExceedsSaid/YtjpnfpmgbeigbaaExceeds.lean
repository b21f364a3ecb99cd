/- DriftExceeds (watchword): for every input the call returns true and the input reads as it did. No conditions. -/
import Derived.Test.YtjpnfpmgbeigbaaRef2
import Derived.WalkKit
import Derived.ProofKit
import Derived.OpenShut
import Derived.ShutString
namespace Go.Proofs.Ytjpnfpmgbeigbaa.driftExceeds
open Go.ChangeShapes Go.WideShapes Go.ChangeAt Go.RowKit
open Go.ChangeMaps (open_string shut_string)
set_option linter.unusedVariables false      -- a walk need not use every 'w<i>' (that an integer argument fits its kind)

open Drift
/-- Exceeds and its reference give the same -/
theorem ex_both (a s r k t : Int) (h0 : 0 ≤ a) (ha1 : a ≤ 1099511627776) (hs0 : 0 ≤ s) (hs1 : s ≤ 1099511627776) (h3 : -100000 ≤ r) (h4 : r ≤ 100000) :
    ∃ v c : Int, (∀ w b, Clk w b a s r → Calls Try.prog 13 #[.pointer (some ⟨b, 0, none⟩), .int .i64 t, .int .i64 k] w fun e w' => e = .returned (.tuple #[.int .i64 v, .int .i64 c]) ∧ Below w.heap.size w w') ∧
      (∀ w, Calls Try.prog 14 #[.agg #[.int .i64 a, .int .i64 s, .int .i64 r], .int .i64 t, .int .i64 k] w fun e w' => e = .returned (.tuple #[.int .i64 v, .int .i64 c]) ∧ Below w.heap.size w w') := by
  by_cases hk : k < 0
  · exact ⟨0, 2, fun w b h => ex_arg a s r k t w b h hk, fun w => rex_arg a s r k t w hk⟩
  have hk : 0 ≤ k := by omega
  by_cases ht : 0 ≤ t ∧ t ≤ 1099511627776
  · obtain ⟨t0, t1⟩ := ht
    by_cases hta : t < a
    · exact ⟨0, 8, fun w b h => ex_early a s r k t w b h hk t0 hta t1, fun w => rex_early a s r k t w hk t0 t1 hta⟩
    have hta : a ≤ t := by omega
    by_cases ho : Ovr a s r k t
    · exact ⟨t, 0, fun w b h => ex_now a s r k t w b h hk hta t1 ho, fun w => rex_now a s r k t w h0 ha1 hs0 hs1 h3 h4 hk hta t1 ho⟩
    by_cases hm : Ovr a s r k 1099511627776
    · obtain ⟨e0, w0, fr0, ⟨v, he0, hb0, v1, v2, v3, v4⟩, _⟩ := rex_first a s r k t (World.settled Try.prog default) h0 ha1 hs0 hs1 h3 h4 hk hta t1 ho hm []
      refine ⟨v, 0, fun w b h => ?_, fun w => ?_⟩
      · refine (ex_first a s r k t w b h hk hta t1 ho hm).mono ?_
        rintro e w' ⟨u, rfl, hb, u1, u2, u3, u4⟩
        rw [Ovr.first hk ho u1 v1 u3 u4 v3 v4]
        exact ⟨rfl, hb⟩
      · refine (rex_first a s r k t w h0 ha1 hs0 hs1 h3 h4 hk hta t1 ho hm).mono ?_
        rintro e w' ⟨u, rfl, hb, u1, u2, u3, u4⟩
        rw [Ovr.first hk ho u1 v1 u3 u4 v3 v4]
        exact ⟨rfl, hb⟩
    · exact ⟨0, 9, fun w b h => ex_none a s r k t w b h hk hta t1 ho hm, fun w => rex_none a s r k t w h0 ha1 hs0 hs1 h3 h4 hk hta t1 ho hm⟩
  · exact ⟨0, 3, fun w b h => ex_range a s r k t w b h hk ht, fun w => rex_range a s r k t w hk ht⟩

theorem own : ownKnob Try.prog.godebug = none := by kernel_rfl

/-! THE WALK -/
theorem walk (a0 : Int) (a1 : Int) (a2 : Int) (a3 : Int) (a4 : Int) (w0 : (Lit.int .i64 a0).wf = true) (w1 : (Lit.int .i64 a1).wf = true) (w2 : (Lit.int .i64 a2).wf = true) (w3 : (Lit.int .i64 a3).wf = true) (w4 : (Lit.int .i64 a4).wf = true) (w : World) :
    Calls Try.prog 4 #[.int .i64 a0, .int .i64 a1, .int .i64 a2, .int .i64 a3, .int .i64 a4] w fun e w' => e = .returned (.bool true) ∧ Below w.heap.size w w' := by
  by_cases hv : 0 ≤ a0 ∧ a0 ≤ 1099511627776 ∧ 0 ≤ a1 ∧ a1 ≤ 1099511627776 ∧ -100000 ≤ a2 ∧ a2 ≤ 100000
  · obtain ⟨g0, g1, g2, g3, g4, g5⟩ := hv
    obtain ⟨v, c, HE, HR⟩ := ex_both a0 a1 a2 a4 a3 g0 g1 g2 g3 g4 g5
    have HE := Lib.hid HE
    have HR := Lib.hid HR
    go_enter Try.func4, Try.ntmps4
    go_wp2_with fail
    refine (new_yes a0 a1 a2 _ g0 g1 g2 g3 g4 g5).mono ?_
    rintro e x1 ⟨b, rfl, hn, hC1, B1⟩
    have hl1 := hC1.lt
    go_wp2_with fail
    refine (rnew_yes a0 a1 a2 _ g0 g1 g2 g3 g4 g5).mono ?_
    rintro e x2 ⟨rfl, B2⟩
    have hC2 := hC1.below B2 hl1
    have hl2 := hC2.lt
    go_wp2_with fail
    refine (HE.out _ b (hC2.below (B := x2.heap.size) (by go_grown) hl2)).mono ?_
    rintro e x3 ⟨rfl, B3'⟩
    obtain ⟨q0, q1, q2, q3, B3⟩ := box3 B3'
    clear B3'
    go_wp2_with fail
    refine (HR.out _).mono ?_
    rintro e x4 ⟨rfl, B4⟩
    go_wp2_with fail
    refine (known_any _).mono ?_
    rintro e x5 ⟨rfl, B5⟩
    go_wp2
    go_ret
    have z1 := B1.size
    have z2 := B2.size
    have z3 := B3.size
    have z4 := B4.size
    exact ⟨rfl, (((B1.trans (B2.mono z1)).trans (B3.mono (by omega))).trans (B4.mono (by omega))).trans (B5.mono (by omega))⟩
  · have H := Lib.hid hv; clear hv
    go_enter Try.func4, Try.ntmps4
    go_wp2_with fail
    refine (new_no a0 a1 a2 _ H.out).mono ?_
    rintro e x1 ⟨rfl, B1⟩
    go_wp2_with fail
    refine (rnew_no a0 a1 a2 _ H.out).mono ?_
    rintro e x2 ⟨rfl, B2⟩
    go_wp2_with fail
    refine (known_any _).mono ?_
    rintro e x5 ⟨rfl, B5'⟩
    have B5 := (box3 B5').2.2.2.2
    clear B5'
    go_wp2
    go_ret
    have z1 := B1.size
    have z2 := B2.size
    exact ⟨rfl, (B1.trans (B2.mono z1)).trans (B5.mono (by omega))⟩

/-! THE ROW -/
set_option maxRecDepth 100000 in
theorem lifted (os : Os) (started : os.Started) (H : Type) (enc : TypeId × Value → H) :
    ReturnsInHanded {} Try.checked os 4 .any (Rows.driftExceedsSpec.pre6 enc Try.prog Try.f4 Rows.driftExceedsRow.domain false) (Rows.driftExceedsSpec.post enc Try.prog Try.f4 false true false false) := by
  refine returnsInHanded_of_change (C := Try.checked) own started (by kernel_rfl) Try.func4
    (ChangeSpec.witness6 (enc := enc) (C := Try.checked) false ⟨#[], #[.int .i64 0, .int .i64 0, .int .i64 0, .int .i64 0, .int .i64 0], []⟩ 8 (by kernel_rfl) (by kernel_rfl) (by kernel_rfl) (by kernel_rfl)) ?_
  intro W base args ds gs before hval0 hW hcnd _
  have hval : ∀ (j : Nat) t v, Try.f4.params[j]? = some t → args[j]? = some v → Value.okWide Try.prog W .any base t v := hval0
  have hW' := hW
  obtain ⟨p, q, hA0, hV, rfl, hfz, hnd⟩ := hW
  have hA : DataW.TrodAll enc Try.prog W 0 (fun _ => true) true Try.f4.params.toList args.toList ds p := hA0
  rw [Try.params4] at hA hval
  obtain ⟨v0, vs0, d0, ds0, p0, q0, hargs, rfl, rfl, h0, r0⟩ := trodAll_cons hA
  obtain ⟨v1, vs1, d1, ds1, p1, q1, rfl, rfl, rfl, h1, r1⟩ := trodAll_cons r0
  obtain ⟨v2, vs2, d2, ds2, p2, q2, rfl, rfl, rfl, h2, r2⟩ := trodAll_cons r1
  obtain ⟨v3, vs3, d3, ds3, p3, q3, rfl, rfl, rfl, h3, r3⟩ := trodAll_cons r2
  obtain ⟨v4, vs4, d4, ds4, p4, q4, rfl, rfl, rfl, h4, r4⟩ := trodAll_cons r3
  obtain ⟨rfl, rfl, rfl⟩ := trodAll_nil r4
  obtain rfl : args = #[v0, v1, v2, v3, v4] := by cases args; simp_all
  obtain ⟨rfl, rfl⟩ := trodVars_none hV
  obtain ⟨a0, rfl, rfl, rfl, w0⟩ := open_int Try.underlying3 (hval 0 3 v0 rfl rfl) h0
  obtain ⟨a1, rfl, rfl, rfl, w1⟩ := open_int Try.underlying3 (hval 1 3 v1 rfl rfl) h1
  obtain ⟨a2, rfl, rfl, rfl, w2⟩ := open_int Try.underlying3 (hval 2 3 v2 rfl rfl) h2
  obtain ⟨a3, rfl, rfl, rfl, w3⟩ := open_int Try.underlying3 (hval 3 3 v3 rfl rfl) h3
  obtain ⟨a4, rfl, rfl, rfl, w4⟩ := open_int Try.underlying3 (hval 4 3 v4 rfl rfl) h4
  clear hA0 hval0
  simp only [List.append_nil] at hW'
  refine (walk a0 a1 a2 a3 a4 w0 w1 w2 w3 w4 W).mono fun e W' ⟨he, hg⟩ => ?_
  subst he
  exact ⟨_, rfl, _, _, _, [], [], [], hW', (trodAll_cons_mk (shut_bool Try.underlying4 _) trodAll_mk0), (trodAll_cons_mk (shut_int Try.underlying3 w0) (trodAll_cons_mk (shut_int Try.underlying3 w1) (trodAll_cons_mk (shut_int Try.underlying3 w2) (trodAll_cons_mk (shut_int Try.underlying3 w3) (trodAll_cons_mk (shut_int Try.underlying3 w4) trodAll_mk0))))), rfl, hg.frame _, fun h => by cases h⟩

theorem over : Rows.driftExceedsRow.holds Try.pinned (OpenSpec.ofChange Rows.driftExceedsSpec) :=
  OpenClaim.holds_of_wide 4 Try.f4 rfl rfl rfl rfl rfl rfl rfl ⟨rfl, rfl, rfl, rfl, rfl⟩ rfl rfl rfl rfl rfl (by kernel_rfl) Try.func4 (by kernel_rfl)
    (of_decide_eq_true (by kernel_rfl)) (by unfold Func.isWrapper; first | (rw [if_pos (by decide +kernel)]; kernel_rfl) | (rw [if_neg (by decide +kernel)]; exact ⟨rfl, rfl⟩))
    (fun os started H enc _ => lifted os started H enc)

/-- THE STATEMENT -/
theorem proved : Rows.DriftExceedsSaid :=
  over
#print axioms proved
end Go.Proofs.Ytjpnfpmgbeigbaa.driftExceeds
