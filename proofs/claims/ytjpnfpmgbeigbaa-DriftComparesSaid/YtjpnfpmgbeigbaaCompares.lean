/- DriftCompares (watchword): for every input the call returns true and the input reads as it did. No conditions. -/
import Derived.Test.YtjpnfpmgbeigbaaWithin
import Derived.WalkKit
import Derived.ProofKit
import Derived.OpenShut
import Derived.ShutString
import Derived.ChangeOld
import Derived.Below
import Derived.Lib.SmallJoins
namespace Go.Proofs.Ytjpnfpmgbeigbaa.driftCompares
open Go.ChangeShapes Go.WideShapes Go.ChangeAt Go.RowKit Go.Joins Drift
open Go.ChangeMaps (open_string shut_string)
set_option linter.unusedVariables false

theorem own : ownKnob Try.prog.godebug = none := by kernel_rfl
theorem laidOut : laidOutB Try.prog = true := by kernel_rfl
theorem cells29 : Try.prog.cellsOf 29 = 3 := by kernel_rfl

def Fine (a s r : Int) : Prop := 0 ≤ a ∧ a ≤ 1099511627776 ∧ 0 ≤ s ∧ s ≤ 1099511627776 ∧ -100000 ≤ r ∧ r ≤ 100000

/-- nothing that there was has changed -/
def Abv (w x : World) : Prop := Below w.heap.size w x
theorem Abv.step {w x y : World} (h : Abv w x) (k : Below x.heap.size x y) : Abv w y := Below.trans h (k.mono (Below.size h))
theorem box3s {w w' : World} {x y z : Value} {T : TypeId} (hb : Below (w.alloc (.cells #[x, y, z] T)).heap.size (w.alloc (.cells #[x, y, z] T)) w') : Below w.heap.size w w' := (box3 hb).2.2.2.2

/-- the two clocks that came in by value, in their boxes -/
structure Two (w : World) (p q : Nat) (a s r a' s' r' : Int) : Prop where
  c0 : w.cell? ⟨p, 0, none⟩ = some (.int .i64 a)
  c1 : w.cell? ⟨p, 1, none⟩ = some (.int .i64 s)
  c2 : w.cell? ⟨p, 2, none⟩ = some (.int .i64 r)
  d0 : w.cell? ⟨q, 0, none⟩ = some (.int .i64 a')
  d1 : w.cell? ⟨q, 1, none⟩ = some (.int .i64 s')
  d2 : w.cell? ⟨q, 2, none⟩ = some (.int .i64 r')
  lp : p < w.heap.size
  lq : q < w.heap.size

theorem Two.below {w w' : World} {p q B : Nat} {a s r a' s' r' : Int} (h : Two w p q a s r a' s' r') (hb : Below B w w') (lp : p < B) (lq : q < B) : Two w' p q a s r a' s' r' :=
  ⟨(hb.cell (p := ⟨p, 0, none⟩) lp).trans h.c0, (hb.cell (p := ⟨p, 1, none⟩) lp).trans h.c1, (hb.cell (p := ⟨p, 2, none⟩) lp).trans h.c2,
   (hb.cell (p := ⟨q, 0, none⟩) lq).trans h.d0, (hb.cell (p := ⟨q, 1, none⟩) lq).trans h.d1, (hb.cell (p := ⟨q, 2, none⟩) lq).trans h.d2, Nat.lt_of_lt_of_le h.lp hb.size, Nat.lt_of_lt_of_le h.lq hb.size⟩

theorem two_made (w : World) (a s r a' s' r' : Int) (T : TypeId) : Two ((w.alloc (.cells #[.int .i64 a, .int .i64 s, .int .i64 r] T)).alloc (.cells #[.int .i64 a', .int .i64 s', .int .i64 r'] T)) w.heap.size (w.heap.size + 1) a s r a' s' r' :=
  ⟨by go_simp, by go_simp, by go_simp, by go_simp, by go_simp, by go_simp, by simp; omega, by simp⟩

set_option maxHeartbeats 4000000 in
set_option maxRecDepth 100000 in
theorem walk (a s r a' s' r' t k : Int) (w : World) :
    Calls Try.prog 5 #[.agg #[.int .i64 a, .int .i64 s, .int .i64 r], .agg #[.int .i64 a', .int .i64 s', .int .i64 r'], .int .i64 t, .int .i64 k] w fun e w' => e = .returned (.bool true) ∧ Below w.heap.size w w' := by
  go_enter Try.func5, Try.ntmps5
  go_wp2_with fail
  have H0 := two_made w a s r a' s' r' 29
  have T0 : Abv w ((w.alloc (.cells #[.int .i64 a, .int .i64 s, .int .i64 r] 29)).alloc (.cells #[.int .i64 a', .int .i64 s', .int .i64 r'] 29)) := by unfold Abv; go_grown
  generalize hP : w.heap.size = P at *
  generalize hQ : P + 1 = Q at *
  generalize hX : (w.alloc (.cells #[.int .i64 a, .int .i64 s, .int .i64 r] 29)).alloc (.cells #[.int .i64 a', .int .i64 s', .int .i64 r'] 29) = x0 at *
  clear hX
  have HP := Lib.hid hP
  have HQ := Lib.hid hQ
  clear hP hQ
  by_cases F1 : Fine a s r
  · obtain ⟨g0, g1, g2, g3, g4, g5⟩ := F1
    refine (new_yes a s r _ g0 g1 g2 g3 g4 g5).mono ?_
    rintro e x1 ⟨b, rfl, hn, hC1, B1⟩
    have H1 := H0.below B1 H0.lp H0.lq
    have T1 := T0.step B1
    have hl1 := hC1.lt
    clear H0 B1 T0 hn
    obtain ⟨c0, c1, c2, d0, d1, d2, lp, lq⟩ := id H1
    go_wp2_with fail
    by_cases F2 : Fine a' s' r'
    · obtain ⟨f0, f1, f2, f3, f4, f5⟩ := F2
      refine (new_yes a' s' r' _ f0 f1 f2 f3 f4 f5).mono ?_
      clear c0 c1 c2 d0 d1 d2 lp lq
      rintro e x2 ⟨b', rfl, hn', hD2, B2⟩
      have H2 := H1.below B2 H1.lp H1.lq
      have T2 := T1.step B2
      have hC2 := hC1.below B2 hl1
      have hl2 := hC2.lt; have hm2 := hD2.lt
      clear H1 T1 B2 hC1 hn'
      obtain ⟨c0, c1, c2, d0, d1, d2, lp, lq⟩ := id H2
      go_wp2_with fail
      refine (rnew_yes a s r _ g0 g1 g2 g3 g4 g5).mono ?_
      clear c0 c1 c2 d0 d1 d2 lp lq
      rintro e x3 ⟨rfl, B3⟩
      have H3 := H2.below B3 H2.lp H2.lq
      have T3 := T2.step B3
      have hC3 := hC2.below B3 hl2; have hD3 := hD2.below B3 hm2
      have hl3 := hC3.lt; have hm3 := hD3.lt
      clear H2 T2 B3 hC2 hD2
      obtain ⟨c0, c1, c2, d0, d1, d2, lp, lq⟩ := id H3
      go_wp2_with fail
      refine (rnew_yes a' s' r' _ f0 f1 f2 f3 f4 f5).mono ?_
      clear c0 c1 c2 d0 d1 d2 lp lq
      rintro e x4 ⟨rfl, B4'⟩
      obtain ⟨q0, q1, q2, ql, B4⟩ := box3 B4'
      have T4 := T3.step B4
      have hC4 := hC3.below B4 hl3; have hD4 := hD3.below B4 hm3
      have hl4 := hC4.lt; have hm4 := hD4.lt
      clear H3 T3 B4 hC3 hD3 B4' hl2 hm2 hl3 hm3 hl1
      generalize x3.heap.size = U at *
      go_wp2_with fail
      have hCa := hC4.below (B := x4.heap.size) (w' := x4.alloc (.cells #[.int .i64 a', .int .i64 s', .int .i64 r'] 29)) (by go_grown) hl4
      have hDa := hD4.below (B := x4.heap.size) (w' := x4.alloc (.cells #[.int .i64 a', .int .i64 s', .int .i64 r'] 29)) (by go_grown) hm4
      by_cases hk : k < 0
      · refine (within_neg a s r a' s' r' t k _ b b' hCa hDa hk).mono ?_
        clear hCa hDa
        rintro e x5 ⟨rfl, B5'⟩
        have T5 := T4.step (box3s B5')
        go_wp2_with fail
        refine (known_any _).mono ?_
        rintro e x6 ⟨rfl, B6⟩
        have T6 := T5.step B6
        go_wp2
        go_ret
        exact ⟨rfl, T6⟩
      have hk0 : 0 ≤ k := by omega
      clear hk
      have HS1 := Lib.hid (fun w => rshow_any a s r t w g0 g1 g2 g3 g4 g5)
      have HS2 := Lib.hid (fun w => rshow_any a' s' r' t w f0 f1 f2 f3 f4 f5)
      by_cases he : shE a s r t = 0
      · rw [he] at HS1
        by_cases he' : shE a' s' r' t = 0
        · rw [he'] at HS2
          obtain ⟨b0, b1⟩ := shV_bd a s r t
          obtain ⟨b2, b3⟩ := shV_bd a' s' r' t
          by_cases hy : shV a s r t - shV a' s' r' t ≤ k ∧ shV a' s' r' t - shV a s r t ≤ k
          · obtain ⟨hy, hy'⟩ := hy
            have HW := Lib.hid (within_yes a s r a' s' r' t k _ b b' hCa hDa hk0 he he' hy hy')
            generalize shV a s r t = V1 at *
            generalize shV a' s' r' t = V2 at *
            clear he he'
            refine (HW.out).mono ?_
            clear HW
            rintro e x5 ⟨rfl, B5'⟩
            obtain ⟨v0, v1, v2, vl, B5⟩ := box3 B5'
            obtain ⟨u0, u1, u2, ul⟩ := keep3 B5 ql q0 q1 q2
            have T5 := T4.step B5
            clear B5 B5' q0 q1 q2 ql T4 hC4 hD4 hl4 hm4 hCa hDa
            generalize x4.heap.size = V at *
            go_wp2_with fail
            refine (HS1.out _).mono ?_
            rintro e x6 ⟨rfl, B6⟩
            have T6 := T5.step B6
            obtain ⟨t0, t1, t2, tl⟩ := keep3 B6 vl v0 v1 v2
            clear B6 T5 v0 v1 v2 vl u0 u1 u2 ul
            go_wp2_with fail
            refine (HS2.out _).mono ?_
            rintro e x7 ⟨rfl, B7⟩
            have T7 := T6.step B7
            clear B7 T6 t0 t1 t2 tl
            go_wp2_with fail
            refine (known_any _).mono ?_
            rintro e x8 ⟨rfl, B8⟩
            have T8 := T7.step B8
            go_wp2
            go_ret
            exact ⟨rfl, T8⟩
          · have hy2 : k < shV a s r t - shV a' s' r' t ∨ k < shV a' s' r' t - shV a s r t := by omega
            have HW := Lib.hid (within_no a s r a' s' r' t k _ b b' hCa hDa hk0 he he' hy2)
            have hy3 : k < shV a s r t - shV a' s' r' t ∨ (shV a s r t - shV a' s' r' t ≤ k ∧ k < shV a' s' r' t - shV a s r t) := by omega
            generalize shV a s r t = V1 at *
            generalize shV a' s' r' t = V2 at *
            clear he he' hy hy2
            refine (HW.out).mono ?_
            clear HW
            rcases hy3 with hy3 | ⟨hy3, hy4⟩
            all_goals
              rintro e x5 ⟨rfl, B5'⟩
              obtain ⟨v0, v1, v2, vl, B5⟩ := box3 B5'
              obtain ⟨u0, u1, u2, ul⟩ := keep3 B5 ql q0 q1 q2
              have T5 := T4.step B5
              clear B5 B5' q0 q1 q2 ql T4 hC4 hD4 hl4 hm4 hCa hDa
              generalize x4.heap.size = V at *
              go_wp2_with fail
              refine (HS1.out _).mono ?_
              rintro e x6 ⟨rfl, B6⟩
              have T6 := T5.step B6
              obtain ⟨t0, t1, t2, tl⟩ := keep3 B6 vl v0 v1 v2
              clear B6 T5 v0 v1 v2 vl u0 u1 u2 ul
              go_wp2_with fail
              refine (HS2.out _).mono ?_
              rintro e x7 ⟨rfl, B7⟩
              have T7 := T6.step B7
              clear B7 T6 t0 t1 t2 tl
              go_wp2_with fail
              refine (known_any _).mono ?_
              rintro e x8 ⟨rfl, B8⟩
              have T8 := T7.step B8
              go_wp2
              go_ret
              exact ⟨by first | rfl | (show Ending.returned (.bool (!decide (V2 - V1 ≤ k))) = _; rw [decide_eq_false (by omega)]; rfl), T8⟩
        · have hn : (shE a' s' r' t == 0) = false := beq_eq_false_iff_ne.2 he'
          have hn2 : (shE a' s' r' t != 0) = true := by rw [bne_iff_ne]; exact he'
          have HW := Lib.hid (within_e2 a s r a' s' r' t k _ b b' hCa hDa hk0 he he')
          clear he he'
          generalize shE a' s' r' t = E2 at *
          refine (HW.out).mono ?_
          clear HW
          rintro e x5 ⟨rfl, B5'⟩
          obtain ⟨v0, v1, v2, vl, B5⟩ := box3 B5'
          obtain ⟨u0, u1, u2, ul⟩ := keep3 B5 ql q0 q1 q2
          have T5 := T4.step B5
          clear B5 B5' q0 q1 q2 ql T4 hC4 hD4 hl4 hm4 hCa hDa
          generalize x4.heap.size = V at *
          go_wp2_with fail
          refine (HS1.out _).mono ?_
          rintro e x6 ⟨rfl, B6⟩
          have T6 := T5.step B6
          obtain ⟨t0, t1, t2, tl⟩ := keep3 B6 vl v0 v1 v2
          clear B6 T5 v0 v1 v2 vl u0 u1 u2 ul
          go_wp2_with fail
          refine (HS2.out _).mono ?_
          rintro e x7 ⟨rfl, B7⟩
          have T7 := T6.step B7
          clear B7 T6 t0 t1 t2 tl
          go_wp2_with fail
          refine (known_any _).mono ?_
          rintro e x8 ⟨rfl, B8⟩
          have T8 := T7.step B8
          go_wp2
          go_ret
          exact ⟨rfl, T8⟩
      · have hn : (shE a s r t == 0) = false := beq_eq_false_iff_ne.2 he
        have hn2 : (shE a s r t != 0) = true := by rw [bne_iff_ne]; exact he
        have HW := Lib.hid (within_e1 a s r a' s' r' t k _ b b' hCa hDa hk0 he)
        clear he
        generalize shE a s r t = E1 at *
        refine (HW.out).mono ?_
        clear HW
        rintro e x5 ⟨rfl, B5'⟩
        obtain ⟨v0, v1, v2, vl, B5⟩ := box3 B5'
        obtain ⟨u0, u1, u2, ul⟩ := keep3 B5 ql q0 q1 q2
        have T5 := T4.step B5
        clear B5 B5' q0 q1 q2 ql T4 hC4 hD4 hl4 hm4 hCa hDa
        generalize x4.heap.size = V at *
        go_wp2_with fail
        refine (HS1.out _).mono ?_
        rintro e x6 ⟨rfl, B6⟩
        have T6 := T5.step B6
        obtain ⟨t0, t1, t2, tl⟩ := keep3 B6 vl v0 v1 v2
        clear B6 T5 v0 v1 v2 vl u0 u1 u2 ul
        go_wp2_with fail
        refine (HS2.out _).mono ?_
        rintro e x7 ⟨rfl, B7⟩
        have T7 := T6.step B7
        clear B7 T6 t0 t1 t2 tl
        go_wp2_with fail
        refine (known_any _).mono ?_
        rintro e x8 ⟨rfl, B8⟩
        have T8 := T7.step B8
        go_wp2
        go_ret
        exact ⟨rfl, T8⟩
    · have HF2 := Lib.hid F2
      refine (new_no a' s' r' _ F2).mono ?_
      clear c0 c1 c2 d0 d1 d2 lp lq F2
      rintro e x2 ⟨rfl, B2⟩
      have H2 := H1.below B2 H1.lp H1.lq
      have T2 := T1.step B2
      have hC2 := hC1.below B2 hl1
      have hl2 := hC2.lt
      clear H1 T1 B2 hC1
      obtain ⟨c0, c1, c2, d0, d1, d2, lp, lq⟩ := id H2
      go_wp2_with fail
      refine (rnew_yes a s r _ g0 g1 g2 g3 g4 g5).mono ?_
      clear c0 c1 c2 d0 d1 d2 lp lq
      rintro e x3 ⟨rfl, B3⟩
      have H3 := H2.below B3 H2.lp H2.lq
      have T3 := T2.step B3
      have hC3 := hC2.below B3 hl2
      have hl3 := hC3.lt
      clear H2 T2 B3 hC2
      obtain ⟨c0, c1, c2, d0, d1, d2, lp, lq⟩ := id H3
      go_wp2_with fail
      refine (rnew_no a' s' r' _ HF2.out).mono ?_
      clear c0 c1 c2 d0 d1 d2 lp lq
      rintro e x4 ⟨rfl, B4'⟩
      have B4 := box3s B4'
      have T4 := T3.step B4
      have hC4 := hC3.below B4 hl3
      clear H3 T3 B4 hC3 B4'
      go_wp2_with fail
      refine (within_dead2 _ b a s r _ _ _ (hC4.below (B := x4.heap.size) (by go_grown) hC4.lt) (Or.inl rfl)).mono ?_
      rintro e x5 ⟨rfl, rfl⟩
      go_wp2_with fail
      refine (known_any _).mono ?_
      rintro e x6 ⟨rfl, B6'⟩
      have T6 := T4.step (box3s B6')
      go_wp2
      go_ret
      exact ⟨rfl, T6⟩
  · refine (new_no a s r _ F1).mono ?_
    rintro e x1 ⟨rfl, B1⟩
    have H1 := H0.below B1 H0.lp H0.lq
    have T1 := T0.step B1
    have HF1 := Lib.hid F1
    clear F1 H0 B1 T0
    obtain ⟨c0, c1, c2, d0, d1, d2, lp, lq⟩ := id H1
    go_wp2_with fail
    by_cases F2 : Fine a' s' r'
    · obtain ⟨f0, f1, f2, f3, f4, f5⟩ := F2
      refine (new_yes a' s' r' _ f0 f1 f2 f3 f4 f5).mono ?_
      clear c0 c1 c2 d0 d1 d2 lp lq
      rintro e x2 ⟨b', rfl, hn', hD2, B2⟩
      have H2 := H1.below B2 H1.lp H1.lq
      have T2 := T1.step B2
      clear H1 T1 B2
      obtain ⟨c0, c1, c2, d0, d1, d2, lp, lq⟩ := id H2
      go_wp2_with fail
      refine (rnew_no a s r _ HF1.out).mono ?_
      clear c0 c1 c2 d0 d1 d2 lp lq
      rintro e x3 ⟨rfl, B3⟩
      have H3 := H2.below B3 H2.lp H2.lq
      have T3 := T2.step B3
      clear H2 T2 B3
      obtain ⟨c0, c1, c2, d0, d1, d2, lp, lq⟩ := id H3
      go_wp2_with fail
      refine (rnew_yes a' s' r' _ f0 f1 f2 f3 f4 f5).mono ?_
      clear c0 c1 c2 d0 d1 d2 lp lq
      rintro e x4 ⟨rfl, B4'⟩
      have T4 := T3.step (box3s B4')
      clear H3 T3 B4'
      go_wp2_with fail
      refine (known_any _).mono ?_
      rintro e x6 ⟨rfl, B6'⟩
      have T6 := T4.step (box3s B6')
      go_wp2
      go_ret
      exact ⟨rfl, T6⟩
    · have HF2 := Lib.hid F2
      refine (new_no a' s' r' _ F2).mono ?_
      clear c0 c1 c2 d0 d1 d2 lp lq F2
      rintro e x2 ⟨rfl, B2⟩
      have H2 := H1.below B2 H1.lp H1.lq
      have T2 := T1.step B2
      clear H1 T1 B2
      obtain ⟨c0, c1, c2, d0, d1, d2, lp, lq⟩ := id H2
      go_wp2_with fail
      refine (rnew_no a s r _ HF1.out).mono ?_
      clear c0 c1 c2 d0 d1 d2 lp lq
      rintro e x3 ⟨rfl, B3⟩
      have H3 := H2.below B3 H2.lp H2.lq
      have T3 := T2.step B3
      clear H2 T2 B3
      obtain ⟨c0, c1, c2, d0, d1, d2, lp, lq⟩ := id H3
      go_wp2_with fail
      refine (rnew_no a' s' r' _ HF2.out).mono ?_
      clear c0 c1 c2 d0 d1 d2 lp lq
      rintro e x4 ⟨rfl, B4'⟩
      have T4 := T3.step (box3s B4')
      clear H3 T3 B4'
      go_wp2_with fail
      refine (known_any _).mono ?_
      rintro e x6 ⟨rfl, B6'⟩
      have T6 := T4.step (box3s B6')
      go_wp2
      go_ret
      exact ⟨rfl, T6⟩

set_option maxRecDepth 100000 in
theorem lifted (os : Os) (started : os.Started) (H : Type) (enc : TypeId × Value → H) :
    ReturnsInHanded {} Try.checked os 5 .any (Rows.driftComparesSpec.pre6 enc Try.prog Try.f5 Rows.driftComparesRow.domain false) (Rows.driftComparesSpec.post enc Try.prog Try.f5 false true false false) := by
  refine returnsInHanded_of_change (C := Try.checked) own started (by kernel_rfl) Try.func5
    (ChangeSpec.witness6 (enc := enc) (C := Try.checked) false ⟨#[], #[.agg #[.int .i64 0, .int .i64 0, .int .i64 0], .agg #[.int .i64 0, .int .i64 0, .int .i64 0], .int .i64 0, .int .i64 0], []⟩ 8 (by kernel_rfl) (by kernel_rfl) (by kernel_rfl) (by kernel_rfl)) ?_
  intro W base args ds gs before hval0 hW hcnd _
  have hval : ∀ (j : Nat) t v, Try.f5.params[j]? = some t → args[j]? = some v → Value.okWide Try.prog W .any base t v := hval0
  have hW' := hW
  obtain ⟨p, q, hA0, hV, rfl, hfz, hnd⟩ := hW
  have hA : DataW.TrodAll enc Try.prog W 0 (fun _ => true) true Try.f5.params.toList args.toList ds p := hA0
  rw [Try.params5] at hA hval
  obtain ⟨v0, vs0, d0, ds0, p0, q0, hargs, rfl, rfl, h0, r0⟩ := trodAll_cons hA
  obtain ⟨v1, vs1, d1, ds1, p1, q1, rfl, rfl, rfl, h1, r1⟩ := trodAll_cons r0
  obtain ⟨v2, vs2, d2, ds2, p2, q2, rfl, rfl, rfl, h2, r2⟩ := trodAll_cons r1
  obtain ⟨v3, vs3, d3, ds3, p3, q3, rfl, rfl, rfl, h3, r3⟩ := trodAll_cons r2
  obtain ⟨rfl, rfl, rfl⟩ := trodAll_nil r3
  obtain rfl : args = #[v0, v1, v2, v3] := by cases args; simp_all
  obtain ⟨rfl, rfl⟩ := trodVars_none hV
  have k0 := h0
  have lt0 : ∀ x ∈ p0, x.block < W.heap.size := by obtain ⟨m, hm⟩ := k0; exact DataW.trod_lt m _ _ _ hm
  have k1 := h1
  have lt1 : ∀ x ∈ p1, x.block < W.heap.size := by obtain ⟨m, hm⟩ := k1; exact DataW.trod_lt m _ _ _ hm
  have o0 : ∃ a s r : Int, v0 = .agg #[.int .i64 a, .int .i64 s, .int .i64 r] := by
    obtain ⟨c0, c1, c2, y0, y1, y2, m, rfl, _, _, hy0, hy1, hy2⟩ := open_agg3 Try.underlying29 (by kernel_rfl) cells29 (hval 0 29 v0 rfl rfl) h0
    obtain ⟨a, e0, _, wa⟩ := DataW.trod_int Try.underlying3 hy0
    obtain ⟨b, e1, _, wb⟩ := DataW.trod_int Try.underlying3 hy1
    obtain ⟨c, e2, _, wc⟩ := DataW.trod_int Try.underlying3 hy2
    simp at e0 e1 e2
    subst e0 e1 e2
    exact ⟨a, b, c, rfl⟩
  have o1 : ∃ a s r : Int, v1 = .agg #[.int .i64 a, .int .i64 s, .int .i64 r] := by
    obtain ⟨c0, c1, c2, y0, y1, y2, m, rfl, _, _, hy0, hy1, hy2⟩ := open_agg3 Try.underlying29 (by kernel_rfl) cells29 (hval 1 29 v1 rfl rfl) h1
    obtain ⟨a, e0, _, wa⟩ := DataW.trod_int Try.underlying3 hy0
    obtain ⟨b, e1, _, wb⟩ := DataW.trod_int Try.underlying3 hy1
    obtain ⟨c, e2, _, wc⟩ := DataW.trod_int Try.underlying3 hy2
    simp at e0 e1 e2
    subst e0 e1 e2
    exact ⟨a, b, c, rfl⟩
  obtain ⟨a, s, r, rfl⟩ := o0
  obtain ⟨a', s', r', rfl⟩ := o1
  obtain ⟨t, rfl, rfl, rfl, w2⟩ := open_int Try.underlying3 (hval 2 3 v2 rfl rfl) h2
  obtain ⟨k, rfl, rfl, rfl, w3⟩ := open_int Try.underlying3 (hval 3 3 v3 rfl rfl) h3
  clear hA0 hval0
  refine (walk a s r a' s' r' t k W).mono fun e W' ⟨he, bel⟩ => ?_
  subst he
  exact ⟨_, rfl, _, _, _, [], _, [], hW', trodAll_mk1 (shut_bool Try.underlying4 _), (trodAll_cons_mk (Below.trod laidOut (by kernel_rfl) (of_decide_eq_true (by kernel_rfl)) k0 bel lt0) (trodAll_cons_mk (Below.trod laidOut (by kernel_rfl) (of_decide_eq_true (by kernel_rfl)) k1 bel lt1) (trodAll_cons_mk (shut_int Try.underlying3 w2) (trodAll_cons_mk (shut_int Try.underlying3 w3) trodAll_mk0)))), rfl, bel.frame _, fun h => by cases h⟩

theorem over : Rows.driftComparesRow.holds Try.pinned (OpenSpec.ofChange Rows.driftComparesSpec) :=
  OpenClaim.holds_of_wide 5 Try.f5 rfl rfl rfl rfl rfl rfl rfl ⟨rfl, rfl, rfl, rfl, rfl⟩ rfl rfl rfl rfl rfl (by kernel_rfl) Try.func5 (by kernel_rfl)
    (of_decide_eq_true (by kernel_rfl)) (by unfold Func.isWrapper; first | (rw [if_pos (by decide +kernel)]; kernel_rfl) | (rw [if_neg (by decide +kernel)]; exact ⟨rfl, rfl⟩))
    (fun os started H enc _ => lifted os started H enc)

/-- THE STATEMENT -/
theorem proved : Rows.DriftComparesSaid :=
  over
#print axioms proved
end Go.Proofs.Ytjpnfpmgbeigbaa.driftCompares
