/- Walks of layer 47 (drift), the seventh part: what DriftPlays calls. -/
import Derived.Test.YtjpnfpmgbeigbaaRef
namespace Go.Proofs.Ytjpnfpmgbeigbaa
open Go.ChangeShapes Go.WideShapes Go.ChangeAt Go.RowKit Drift
set_option linter.unusedVariables false

theorem shV_err {a s r t : Int} (h : shE a s r t ≠ 0) : shV a s r t = 0 := by
  unfold shE at h; unfold shV
  split
  · rfl
  · split
    · rfl
    · split
      · rfl
      · rename_i h1 h2 h3
        simp [h1, h2, h3] at h

theorem shV_ok {a s r t : Int} (h : shE a s r t = 0) : shV a s r t = shw a s r t ∧ 0 ≤ t ∧ t ≤ 1099511627776 ∧ a ≤ t ∧ 0 ≤ shw a s r t ∧ shw a s r t ≤ 1099511627776 := by
  unfold shE at h; unfold shV
  by_cases c1 : 0 ≤ t ∧ t ≤ 1099511627776
  · by_cases c2 : t < a
    · simp [c1, c2] at h
    · by_cases c3 : 0 ≤ shw a s r t ∧ shw a s r t ≤ 1099511627776
      · simp [c1, c2, c3]; omega
      · simp [c1, c2, c3] at h
  · simp [c1] at h

theorem shV_bd (a s r t : Int) : 0 ≤ shV a s r t ∧ shV a s r t ≤ 1099511627776 := by
  unfold shV
  split
  · omega
  · split
    · omega
    · split
      · omega
      · omega

/-- what Deviation gives -/
def devV (a s r t : Int) : Int := if shE a s r t = 0 then shV a s r t - t else 0

theorem deviation_any (a s r t : Int) (w : World) (b : Nat) (h : Clk w b a s r) :
    Calls Try.prog 20 #[.pointer (some ⟨b, 0, none⟩), .int .i64 t] w fun e w' => e = .returned (.tuple #[.int .i64 (devV a s r t), .int .i64 (shE a s r t)]) ∧ Below w.heap.size w w' := by
  unfold devV
  by_cases he : shE a s r t = 0
  · rw [if_pos he, (shV_ok he).1]
    have := deviation_ok a s r t w b h he
    rw [he]
    exact this
  · rw [if_neg he]
    exact deviation_err a s r t w b h he

/-- the clock and its reference show the same, as the law looks at it: at four times -/
theorem agrees_any (a s r t : Int) (w : World) (b : Nat) (h : Clk w b a s r) :
    Calls Try.prog 11 #[.pointer (some ⟨b, 0, none⟩), .agg #[.int .i64 a, .int .i64 s, .int .i64 r], .int .i64 t] w fun e w' => e = .returned (.bool true) ∧ Below w.heap.size w w' := by
  have hl := h.lt
  have ha0 := h.a0; have ha1 := h.a1; have hs0 := h.s0; have hs1 := h.s1; have hr0 := h.r0; have hr1 := h.r1
  go_enter Try.func11, Try.ntmps11
  go_wp2
  have P0 : ∀ X Y : Obj, Below w.heap.size w ((w.alloc X).alloc Y) := fun X Y => ((Below.refl _ _).alloc (Nat.le_refl _) _).alloc (by simp) _
  have HP0 := Lib.hid P0; clear P0
  go_loopw [23] (fun i wr => ∃ k : Nat, k ≤ 4 ∧ i = .int .i64 k ∧ Below w.heap.size w wr ∧ w.heap.size + 1 < wr.heap.size ∧ wr.cell? ⟨w.heap.size, 0, none⟩ = some (.int .i64 a) ∧ wr.cell? ⟨w.heap.size, 1, none⟩ = some (.int .i64 s) ∧ wr.cell? ⟨w.heap.size, 2, none⟩ = some (.int .i64 r) ∧ Hid (∀ j : Nat, j < 4 → ∃ x : Int, wr.cell? ⟨w.heap.size + 1, j, none⟩ = some (.int .i64 x))) (fun i _ => 4 - (intOf i).toNat)
  case atStart =>
    refine ⟨0, by omega, rfl, HP0.out _ _, by simp, by go_simp, by go_simp, by go_simp, ?_⟩
    intro j hj
    match j, hj with
    | 0, _ => exact ⟨t, by go_simp⟩
    | 1, _ => exact ⟨a, by go_simp⟩
    | 2, _ => exact ⟨a + 999999, by go_simp⟩
    | 3, _ => exact ⟨1099511627776, by go_simp⟩
  case round =>
    obtain ⟨k, hk, rfl, hbk, hz, q0, q1, q2, hx⟩ := hrel
    by_cases hlt : k < 4
    · obtain ⟨x, hxk⟩ := hx.out k hlt
      have hC := h.below hbk hl
      have hl1 := hC.lt
      have H1 := fun w' (hc : Clk w' b a s r) => show_any a s r x w' b hc
      have H2 := fun w' => rshow_any a s r x w' ha0 ha1 hs0 hs1 hr0 hr1
      have H3 := fun w' (hc : Clk w' b a s r) => deviation_any a s r x w' b hc
      have hcase : (∃ V : Int, 0 ≤ V ∧ V ≤ 1099511627776 ∧ 0 ≤ x ∧ x ≤ 1099511627776 ∧ shV a s r x = V ∧ shE a s r x = 0 ∧ devV a s r x = V - x) ∨ (∃ E : Int, (E == 0) = false ∧ (E != 0) = true ∧ shV a s r x = 0 ∧ shE a s r x = E ∧ devV a s r x = 0) := by
        by_cases hE : shE a s r x = 0
        · obtain ⟨e1, e2, e3, e4, e5, e6⟩ := shV_ok hE
          exact Or.inl ⟨shV a s r x, by omega, by omega, e2, e3, rfl, hE, by unfold devV; rw [if_pos hE]⟩
        · exact Or.inr ⟨shE a s r x, beq_eq_false_iff_ne.2 hE, by rw [bne_iff_ne]; exact hE, shV_err hE, rfl, by unfold devV; rw [if_neg hE]⟩
      rcases hcase with ⟨V, v0, v1, x0, x1, e1, e2, e3⟩ | ⟨E, n1, n2, e1, e2, e3⟩
      all_goals
        rw [e1, e2] at H1 H2
        rw [e3, e2] at H3
        clear e1 e2 e3
        have G1 := Lib.hid H1; have G2 := Lib.hid H2; have G3 := Lib.hid H3
        clear H1 H2 H3
        go_wp2_with fail
        refine (G1.out _ hC).mono ?_
        rintro e y1 ⟨rfl, B1⟩
        have hC1 := hC.below B1 hl1
        have hl2 := hC1.lt
        obtain ⟨p0, p1, p2, pz⟩ := keep3 B1 (by omega) q0 q1 q2
        go_wp2_with fail
        refine (G2.out _).mono ?_
        rintro e y2 ⟨rfl, B2⟩
        have hC2 := hC1.below B2 hl2
        obtain ⟨r0, r1, r2, rz⟩ := keep3 B2 pz p0 p1 p2
        go_wp2_with fail
        refine (G3.out _ hC2).mono ?_
        rintro e y3 ⟨rfl, B3⟩
        obtain ⟨s0, s1, s2, sz⟩ := keep3 B3 rz r0 r1 r2
        have T := (B1.trans (B2.mono B1.size)).trans (B3.mono (Nat.le_trans B1.size B2.size))
        clear B1 B2 B3 p0 p1 p2 r0 r1 r2 q0 q1 q2 hC hC1 hC2
        go_wp2
        go_roundw
        case rel =>
          refine ⟨k + 1, by omega, by go_num, hbk.trans (T.mono hbk.size), Nat.lt_of_lt_of_le hz T.size, s0, s1, s2, ?_⟩
          intro j hj
          obtain ⟨u, hu⟩ := hx.out j hj
          exact ⟨u, (T.cell (p := ⟨w.heap.size + 1, j, none⟩) hz).trans hu⟩
        case measure => simp [intOf]; omega
    · go_wp2
      go_ret
      exact ⟨rfl, hbk⟩

end Go.Proofs.Ytjpnfpmgbeigbaa
