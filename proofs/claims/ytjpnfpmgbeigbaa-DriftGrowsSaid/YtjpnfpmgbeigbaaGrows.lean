/- DriftGrows (watchword): for every input the call returns true and the input reads as it did. No conditions. -/
import Derived.Test.YtjpnfpmgbeigbaaKnown2
import Derived.Test.YtjpnfpmgbeigbaaMath2
import Derived.WalkKit
import Derived.ProofKit
import Derived.OpenShut
import Derived.ShutString
namespace Go.Proofs.Ytjpnfpmgbeigbaa.driftGrows
open Go.ChangeShapes Go.WideShapes Go.ChangeAt Go.RowKit
open Go.ChangeMaps (open_string shut_string)
set_option linter.unusedVariables false      -- a walk need not use every 'w<i>' (that an integer argument fits its kind)

open Drift
theorem grow_facts {a s r p q : Int} (h4 : -100000 ≤ r) (h5 : r ≤ 100000) (h0 : 0 ≤ a) (h1 : a ≤ 549755813888) (h2 : 0 ≤ s) (h3 : s ≤ 549755813888) (hp : 0 ≤ p) (hpq : p ≤ q) (hq1 : q ≤ 274877906944) :
    ∃ v u x : Int, (∀ w b, Clk w b a s r → Calls Try.prog 17 #[.pointer (some ⟨b, 0, none⟩), .int .i64 (a + p)] w fun e w' => e = .returned (.tuple #[.int .i64 v, .int .i64 0]) ∧ Below w.heap.size w w') ∧
      (∀ w b, Clk w b a s r → Calls Try.prog 17 #[.pointer (some ⟨b, 0, none⟩), .int .i64 (a + q)] w fun e w' => e = .returned (.tuple #[.int .i64 u, .int .i64 0]) ∧ Below w.heap.size w w') ∧
      (∀ w b, Clk w b a s r → Calls Try.prog 19 #[.pointer (some ⟨b, 0, none⟩), .int .i64 (a + p), .int .i64 r] w fun e w' => e = .returned (.int .i64 0) ∧ Clk w' b (a + p) v r ∧ Chg b w w') ∧
      (∀ w b, Clk w b (a + p) v r → Calls Try.prog 17 #[.pointer (some ⟨b, 0, none⟩), .int .i64 (a + q)] w fun e w' => e = .returned (.tuple #[.int .i64 x, .int .i64 0]) ∧ Below w.heap.size w w') ∧
      v ≤ u ∧ x ≤ u ∧ u - 1 ≤ x ∧ (r = 0 → u - v = q - p) ∧ 0 ≤ v ∧ u ≤ 1099511627776 ∧ 0 ≤ x := by
  obtain ⟨v, u, x, n1, n2, n3, n4, n5, n6, n7, n8, n9, n10, n11, n12, n13, n14⟩ := grow_num h4 h5 h0 h1 h2 h3 hp hpq hq1
  refine ⟨v, u, x, fun w b h => ?_, fun w b h => ?_, fun w b h => ?_, fun w b h => ?_, n8, n9, n10, n11, n12, n13, n14⟩
  · have := show_any a s r (a + p) w b h
    rw [n1, n2] at this
    exact this
  · have := show_any a s r (a + q) w b h
    rw [n4, n5] at this
    exact this
  · have := setRate_ok a s r (a + p) r w b h n1 h4 h5 (by omega) (by omega) (by omega) (by omega) (by omega)
    rw [← n3] at this
    exact this
  · have := show_any (a + p) v r (a + q) w b h
    rw [n6, n7] at this
    exact this

/-- a deviation above a skew, as the law looks at it -/
theorem dev_over (a s r t k : Int) (h0 : 0 ≤ a) (h1 : a ≤ t) (h2 : t ≤ 1099511627776) (hs0 : 0 ≤ s) (hs1 : s ≤ 1099511627776) (h3 : -100000 ≤ r) (h4 : r ≤ 100000) (ho : Ovr a s r k t) :
    ∃ y c : Int, (∀ w b, Clk w b a s r → Calls Try.prog 20 #[.pointer (some ⟨b, 0, none⟩), .int .i64 t] w fun e w' => e = .returned (.tuple #[.int .i64 y, .int .i64 c]) ∧ Below w.heap.size w w') ∧ -10000000000000 ≤ y ∧ y ≤ 20000000000000 ∧
      ((c == 0) = false ∨ ((c == 0) = true ∧ k < y) ∨ ((c == 0) = true ∧ y ≤ k ∧ k < -y)) := by
  obtain ⟨b0, b1⟩ := shw_bd h3 h4 h0 h1 h2 hs0 hs1
  by_cases h : shE a s r t = 0
  · refine ⟨shw a s r t - t, 0, fun w b hC => deviation_ok a s r t w b hC h, by omega, by omega, Or.inr ?_⟩
    unfold Ovr at ho
    by_cases hk : k < shw a s r t - t
    · exact Or.inl ⟨rfl, hk⟩
    · exact Or.inr ⟨rfl, by omega, by omega⟩
  · exact ⟨0, shE a s r t, fun w b hC => deviation_err a s r t w b hC h, by omega, by omega, Or.inl (beq_eq_false_iff_ne.2 h)⟩

theorem dev_under (a s r t k : Int) (h0 : 0 ≤ a) (h1 : a ≤ t) (h2 : t ≤ 1099511627776) (hs0 : 0 ≤ s) (hs1 : s ≤ 1099511627776) (h3 : -100000 ≤ r) (h4 : r ≤ 100000) (ho : ¬ Ovr a s r k t) :
    ∃ y c : Int, (∀ w b, Clk w b a s r → Calls Try.prog 20 #[.pointer (some ⟨b, 0, none⟩), .int .i64 t] w fun e w' => e = .returned (.tuple #[.int .i64 y, .int .i64 c]) ∧ Below w.heap.size w w') ∧ -10000000000000 ≤ y ∧ y ≤ 20000000000000 ∧
      ((c == 0) = false ∨ ((c == 0) = true ∧ y ≤ k ∧ -y ≤ k)) := by
  obtain ⟨b0, b1⟩ := shw_bd h3 h4 h0 h1 h2 hs0 hs1
  by_cases h : shE a s r t = 0
  · refine ⟨shw a s r t - t, 0, fun w b hC => deviation_ok a s r t w b hC h, by omega, by omega, Or.inr ?_⟩
    unfold Ovr at ho
    exact ⟨rfl, by omega, by omega⟩
  · exact ⟨0, shE a s r t, fun w b hC => deviation_err a s r t w b hC h, by omega, by omega, Or.inl (beq_eq_false_iff_ne.2 h)⟩

theorem own : ownKnob Try.prog.godebug = none := by kernel_rfl

/-! THE WALK -/
set_option maxRecDepth 100000 in
set_option maxHeartbeats 6000000 in
theorem walk (a0 : Int) (a1 : Int) (a2 : Int) (a3 : Int) (a4 : Int) (a5 : Int) (w0 : (Lit.int .i64 a0).wf = true) (w1 : (Lit.int .i64 a1).wf = true) (w2 : (Lit.int .i64 a2).wf = true) (w3 : (Lit.int .i64 a3).wf = true) (w4 : (Lit.int .i64 a4).wf = true) (w5 : (Lit.int .i64 a5).wf = true) (w : World) :
    Calls Try.prog 6 #[.int .i64 a0, .int .i64 a1, .int .i64 a2, .int .i64 a3, .int .i64 a4, .int .i64 a5] w fun e w' => e = .returned (.bool true) ∧ Below w.heap.size w w' := by
  by_cases hv : 0 ≤ a0 ∧ a0 ≤ 1099511627776 ∧ 0 ≤ a1 ∧ a1 ≤ 1099511627776 ∧ -100000 ≤ a2 ∧ a2 ≤ 100000
  · obtain ⟨g0, g1, g2, g3, g4, g5⟩ := hv
    go_enter Try.func6, Try.ntmps6
    go_wp2_with fail
    refine (new_yes a0 a1 a2 _ g0 g1 g2 g3 g4 g5).mono ?_
    rintro e x1 ⟨b, rfl, hn, hC1, B1⟩
    have hl1 := hC1.lt
    by_cases hq : a0 ≤ 549755813888 ∧ a1 ≤ 549755813888 ∧ 0 ≤ a3 ∧ a3 ≤ a4 ∧ a4 ≤ 274877906944
    · obtain ⟨q0, q1, q2, q3, q4⟩ := hq
      obtain ⟨v, u, x, S1, S2, S3, S4, f1, f2, f3, f4, f5, f6, f7⟩ := grow_facts (a := a0) (s := a1) (r := a2) g4 g5 g0 q0 g2 q1 q2 q3 q4
      have S1 := Lib.hid S1; have S2 := Lib.hid S2; have S3 := Lib.hid S3; have S4 := Lib.hid S4; have F4 := Lib.hid f4
      clear f4
      go_wp2_with fail
      refine (S1.out _ b hC1).mono ?_
      rintro e x2 ⟨rfl, B2⟩
      have hC2 := hC1.below B2 hl1
      have hl2 := hC2.lt
      have T2 : Below w.heap.size w x2 := B1.trans (B2.mono B1.size)
      clear B1 B2 hC1
      go_wp2_with fail
      refine (S2.out _ b hC2).mono ?_
      rintro e x3 ⟨rfl, B3⟩
      have hC3 := hC2.below B3 hl2
      have hl3 := hC3.lt
      have T3 : Below w.heap.size w x3 := T2.trans (B3.mono T2.size)
      have hz3 := T3.size
      clear T2 B3 hC2
      have hr : ((a2 == 0) = true ∧ (u - v != a4 - a3) = false) ∨ (a2 == 0) = false := by
        by_cases h : a2 = 0
        · exact Or.inl ⟨by simp [h], by have := F4.out h; rw [this]; simp⟩
        · exact Or.inr (beq_eq_false_iff_ne.2 h)
      rcases hr with ⟨hr0, hr1⟩ | hr
      all_goals
        go_wp2_with fail
        refine (copy_yes a0 a1 a2 _ b hC3).mono ?_
        rintro e x4 ⟨d, rfl, hd, hD4, B4⟩
        have hC4 := hC3.below B4 hl3
        have T4 : Below w.heap.size w x4 := T3.trans (B4.mono hz3)
        clear B4 hC3
        go_wp2_with fail
        refine (S3.out _ d hD4).mono ?_
        rintro e x5 ⟨rfl, hD5, G5⟩
        have hC5 := Chg.clk hC4 G5 (by omega)
        have T5 : Below w.heap.size w x5 := Chg.below T4 G5 (by omega)
        have hbl := hC5.lt
        clear hC4 hD4 T4 G5
        go_wp2_with fail
        refine (S4.out _ d hD5).mono ?_
        rintro e x6 ⟨rfl, B6⟩
        have hC6 := hC5.below B6 hbl
        have hl6 := hC6.lt
        have T6 := T5.trans (B6.mono T5.size)
        clear hC5 T5 B6 hD5
        clear hd hbl hl1 hl2 hl3 T3 hz3 S1 S2 S3 S4 F4
        go_wp2_with fail
        clear f1 f2 f3 f5 f6 f7
        by_cases hk : a5 < 0
        · refine (ex_arg a0 a1 a2 a5 a0 _ b hC6 hk).mono ?_
          rintro e x7 ⟨rfl, B7⟩
          have T7 := T6.trans (B7.mono T6.size)
          go_wp2_with fail
          refine (known_any _).mono ?_
          rintro e x20 ⟨rfl, BK⟩
          go_wp2
          go_ret
          exact ⟨rfl, T7.trans (BK.mono T7.size)⟩
        · have hk0 : 0 ≤ a5 := by omega
          clear hk
          by_cases ho : Ovr a0 a1 a2 a5 a0
          · obtain ⟨y, c, DV, y0, y1, hy⟩ := dev_over a0 a1 a2 a0 a5 g0 (by omega) g1 g2 g3 g4 g5 ho
            have DV := Lib.hid DV
            refine (ex_now a0 a1 a2 a5 a0 _ b hC6 hk0 (by omega) g1 ho).mono ?_
            clear ho
            rintro e x7 ⟨rfl, B7⟩
            have T7 := T6.trans (B7.mono T6.size)
            have hC7 := hC6.below B7 hl6
            have hl7 := hC7.lt
            clear hC6 T6 B7
            go_wp2_with fail
            refine (DV.out _ b hC7).mono ?_
            rintro e x8 ⟨rfl, B8⟩
            have T8 := T7.trans (B8.mono T7.size)
            rcases hy with hy | ⟨hy1, hy2⟩ | ⟨hy1, hy2, hy3⟩
            all_goals
              go_wp2_with fail
              refine (known_any _).mono ?_
              rintro e x20 ⟨rfl, BK⟩
              go_wp2
              go_ret
              exact ⟨rfl, T8.trans (BK.mono T8.size)⟩
          · by_cases hm : Ovr a0 a1 a2 a5 1099511627776
            · refine (ex_first a0 a1 a2 a5 a0 _ b hC6 hk0 (by omega) g1 ho hm).mono ?_
              clear ho hm
              rintro e x7 ⟨n, rfl, B7, n1, n2, n3, n4⟩
              have T7 := T6.trans (B7.mono T6.size)
              have hC7 := hC6.below B7 hl6
              have hl7 := hC7.lt
              clear hC6 T6 B7
              obtain ⟨y, c, DV, y0, y1, hy⟩ := dev_over a0 a1 a2 n a5 g0 (by omega) n2 g2 g3 g4 g5 n3
              obtain ⟨z, c', DZ, z0, z1, hz⟩ := dev_under a0 a1 a2 (n - 1) a5 g0 (by omega) (by omega) g2 g3 g4 g5 n4
              have DV := Lib.hid DV
              have DZ := Lib.hid DZ
              clear n3 n4
              go_wp2_with fail
              refine (DV.out _ b hC7).mono ?_
              rintro e x8 ⟨rfl, B8⟩
              have T8 := T7.trans (B8.mono T7.size)
              have hC8 := hC7.below B8 hl7
              have hl8 := hC8.lt
              clear hC7 T7 B8
              rcases hy with hy | ⟨hy1, hy2⟩ | ⟨hy1, hy2, hy3⟩
              all_goals
                go_wp2_with fail
                refine (DZ.out _ b hC8).mono ?_
                rintro e x9 ⟨rfl, B9⟩
                have T9 := T8.trans (B9.mono T8.size)
                rcases hz with hz | ⟨hz1, hz2, hz3⟩
                all_goals
                  go_wp2_with fail
                  refine (known_any _).mono ?_
                  rintro e x20 ⟨rfl, BK⟩
                  go_wp2
                  go_ret
                  exact ⟨rfl, T9.trans (BK.mono T9.size)⟩
            · refine (ex_none a0 a1 a2 a5 a0 _ b hC6 hk0 (by omega) g1 ho hm).mono ?_
              clear ho hm
              rintro e x7 ⟨rfl, B7⟩
              have T7 := T6.trans (B7.mono T6.size)
              go_wp2_with fail
              refine (known_any _).mono ?_
              rintro e x20 ⟨rfl, BK⟩
              go_wp2
              go_ret
              exact ⟨rfl, T7.trans (BK.mono T7.size)⟩
    · have hq' : 549755813888 < a0 ∨ (a0 ≤ 549755813888 ∧ (549755813888 < a1 ∨ (a1 ≤ 549755813888 ∧ (a3 < 0 ∨ (0 ≤ a3 ∧ (a4 < a3 ∨ (a3 ≤ a4 ∧ 274877906944 < a4))))))) := by omega
      clear hq
      rcases hq' with h | ⟨h1, h | ⟨h2, h | ⟨h3, h | ⟨h4, h⟩⟩⟩⟩
      all_goals
        go_wp2_with fail
        refine (known_any _).mono ?_
        rintro e x2 ⟨rfl, B2⟩
        go_wp2
        go_ret
        exact ⟨rfl, B1.trans (B2.mono B1.size)⟩
  · have H := Lib.hid hv; clear hv
    go_enter Try.func6, Try.ntmps6
    go_wp2_with fail
    refine (new_no a0 a1 a2 _ H.out).mono ?_
    rintro e x1 ⟨rfl, B1⟩
    go_wp2_with fail
    refine (known_any _).mono ?_
    rintro e x2 ⟨rfl, B2⟩
    go_wp2
    go_ret
    exact ⟨rfl, B1.trans (B2.mono B1.size)⟩

/-! THE ROW -/
set_option maxRecDepth 100000 in
theorem lifted (os : Os) (started : os.Started) (H : Type) (enc : TypeId × Value → H) :
    ReturnsInHanded {} Try.checked os 6 .any (Rows.driftGrowsSpec.pre6 enc Try.prog Try.f6 Rows.driftGrowsRow.domain false) (Rows.driftGrowsSpec.post enc Try.prog Try.f6 false true false false) := by
  refine returnsInHanded_of_change (C := Try.checked) own started (by kernel_rfl) Try.func6
    (ChangeSpec.witness6 (enc := enc) (C := Try.checked) false ⟨#[], #[.int .i64 0, .int .i64 0, .int .i64 0, .int .i64 0, .int .i64 0, .int .i64 0], []⟩ 8 (by kernel_rfl) (by kernel_rfl) (by kernel_rfl) (by kernel_rfl)) ?_
  intro W base args ds gs before hval0 hW hcnd _
  have hval : ∀ (j : Nat) t v, Try.f6.params[j]? = some t → args[j]? = some v → Value.okWide Try.prog W .any base t v := hval0
  have hW' := hW
  obtain ⟨p, q, hA0, hV, rfl, hfz, hnd⟩ := hW
  have hA : DataW.TrodAll enc Try.prog W 0 (fun _ => true) true Try.f6.params.toList args.toList ds p := hA0
  rw [Try.params6] at hA hval
  obtain ⟨v0, vs0, d0, ds0, p0, q0, hargs, rfl, rfl, h0, r0⟩ := trodAll_cons hA
  obtain ⟨v1, vs1, d1, ds1, p1, q1, rfl, rfl, rfl, h1, r1⟩ := trodAll_cons r0
  obtain ⟨v2, vs2, d2, ds2, p2, q2, rfl, rfl, rfl, h2, r2⟩ := trodAll_cons r1
  obtain ⟨v3, vs3, d3, ds3, p3, q3, rfl, rfl, rfl, h3, r3⟩ := trodAll_cons r2
  obtain ⟨v4, vs4, d4, ds4, p4, q4, rfl, rfl, rfl, h4, r4⟩ := trodAll_cons r3
  obtain ⟨v5, vs5, d5, ds5, p5, q5, rfl, rfl, rfl, h5, r5⟩ := trodAll_cons r4
  obtain ⟨rfl, rfl, rfl⟩ := trodAll_nil r5
  obtain rfl : args = #[v0, v1, v2, v3, v4, v5] := by cases args; simp_all
  obtain ⟨rfl, rfl⟩ := trodVars_none hV
  obtain ⟨a0, rfl, rfl, rfl, w0⟩ := open_int Try.underlying3 (hval 0 3 v0 rfl rfl) h0
  obtain ⟨a1, rfl, rfl, rfl, w1⟩ := open_int Try.underlying3 (hval 1 3 v1 rfl rfl) h1
  obtain ⟨a2, rfl, rfl, rfl, w2⟩ := open_int Try.underlying3 (hval 2 3 v2 rfl rfl) h2
  obtain ⟨a3, rfl, rfl, rfl, w3⟩ := open_int Try.underlying3 (hval 3 3 v3 rfl rfl) h3
  obtain ⟨a4, rfl, rfl, rfl, w4⟩ := open_int Try.underlying3 (hval 4 3 v4 rfl rfl) h4
  obtain ⟨a5, rfl, rfl, rfl, w5⟩ := open_int Try.underlying3 (hval 5 3 v5 rfl rfl) h5
  clear hA0 hval0
  simp only [List.append_nil] at hW'
  refine (walk a0 a1 a2 a3 a4 a5 w0 w1 w2 w3 w4 w5 W).mono fun e W' ⟨he, hg⟩ => ?_
  subst he
  exact ⟨_, rfl, _, _, _, [], [], [], hW', (trodAll_cons_mk (shut_bool Try.underlying4 _) trodAll_mk0), (trodAll_cons_mk (shut_int Try.underlying3 w0) (trodAll_cons_mk (shut_int Try.underlying3 w1) (trodAll_cons_mk (shut_int Try.underlying3 w2) (trodAll_cons_mk (shut_int Try.underlying3 w3) (trodAll_cons_mk (shut_int Try.underlying3 w4) (trodAll_cons_mk (shut_int Try.underlying3 w5) trodAll_mk0)))))), rfl, hg.frame _, fun h => by cases h⟩

theorem over : Rows.driftGrowsRow.holds Try.pinned (OpenSpec.ofChange Rows.driftGrowsSpec) :=
  OpenClaim.holds_of_wide 6 Try.f6 rfl rfl rfl rfl rfl rfl rfl ⟨rfl, rfl, rfl, rfl, rfl⟩ rfl rfl rfl rfl rfl (by kernel_rfl) Try.func6 (by kernel_rfl)
    (of_decide_eq_true (by kernel_rfl)) (by unfold Func.isWrapper; first | (rw [if_pos (by decide +kernel)]; kernel_rfl) | (rw [if_neg (by decide +kernel)]; exact ⟨rfl, rfl⟩))
    (fun os started H enc _ => lifted os started H enc)

/-- THE STATEMENT -/
theorem proved : Rows.DriftGrowsSaid :=
  over
#print axioms proved
end Go.Proofs.Ytjpnfpmgbeigbaa.driftGrows
