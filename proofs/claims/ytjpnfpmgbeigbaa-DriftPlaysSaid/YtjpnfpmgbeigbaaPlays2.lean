/- Walks of layer 47 (drift), the eighth part: Step and SetRate beside their references. -/
import Derived.Test.YtjpnfpmgbeigbaaPlays1
namespace Go.Proofs.Ytjpnfpmgbeigbaa
open Go.ChangeShapes Go.WideShapes Go.ChangeAt Go.RowKit Drift
set_option linter.unusedVariables false

section
variable (a s r t y : Int)

theorem step_err (w : World) (b : Nat) (h : Clk w b a s r) (he : shE a s r t ≠ 0) :
    Calls Try.prog 21 #[.pointer (some ⟨b, 0, none⟩), .int .i64 t, .int .i64 y] w fun e w' => e = .returned (.int .i64 (shE a s r t)) ∧ Clk w' b a s r ∧ Chg b w w' := by
  have H1 := show_any a s r t w b h
  have hn : (shE a s r t == 0) = false := beq_eq_false_iff_ne.2 he
  have hn2 : (shE a s r t != 0) = true := by rw [bne_iff_ne]; exact he
  generalize shE a s r t = E at *
  have G1 := Lib.hid H1
  have hl := h.lt
  clear H1 he
  go_enter Try.func21, Try.ntmps21
  go_wp2_with fail
  refine (G1.out).mono ?_
  rintro e w1 ⟨rfl, B1⟩
  go_wp2
  go_ret
  exact ⟨rfl, h.below B1 hl, Chg.of_below B1⟩

theorem step_range (w : World) (b : Nat) (h : Clk w b a s r) (he : shE a s r t = 0) (hy : y < -shw a s r t ∨ 1099511627776 - shw a s r t < y) :
    Calls Try.prog 21 #[.pointer (some ⟨b, 0, none⟩), .int .i64 t, .int .i64 y] w fun e w' => e = .returned (.int .i64 3) ∧ Clk w' b a s r ∧ Chg b w w' := by
  obtain ⟨ev, _, _, _, v0, v1⟩ := shV_ok he
  have H1 := show_any a s r t w b h
  rw [he, ev] at H1
  generalize shw a s r t = V at *
  have G1 := Lib.hid H1
  have hl := h.lt
  clear H1 he ev
  have hy2 : y < -V ∨ (-V ≤ y ∧ 1099511627776 - V < y) := by omega
  clear hy
  rcases hy2 with hy | ⟨hy1, hy⟩
  all_goals
    go_enter Try.func21, Try.ntmps21
    go_wp2_with fail
    refine (G1.out).mono ?_
    rintro e w1 ⟨rfl, B1⟩
    go_wp2
    go_ret
    exact ⟨rfl, h.below B1 hl, Chg.of_below B1⟩

theorem box33 {w w' : World} {x y z u v q : Value} {T U : TypeId} (hb : Below ((w.alloc (.cells #[x, y, z] T)).alloc (.cells #[u, v, q] U)).heap.size ((w.alloc (.cells #[x, y, z] T)).alloc (.cells #[u, v, q] U)) w') :
    (w'.cell? ⟨w.heap.size, 0, none⟩ = some x ∧ w'.cell? ⟨w.heap.size, 1, none⟩ = some y ∧ w'.cell? ⟨w.heap.size, 2, none⟩ = some z) ∧
    (w'.cell? ⟨w.heap.size + 1, 0, none⟩ = some u ∧ w'.cell? ⟨w.heap.size + 1, 1, none⟩ = some v ∧ w'.cell? ⟨w.heap.size + 1, 2, none⟩ = some q) ∧
    (∀ o, w'.frozen? ⟨w.heap.size + 1, o, none⟩ = false) ∧ w.heap.size + 1 < w'.heap.size ∧ Below w.heap.size w w' :=
  ⟨⟨(hb.cell (p := ⟨w.heap.size, 0, none⟩) (by simp; omega)).trans (by go_simp), (hb.cell (p := ⟨w.heap.size, 1, none⟩) (by simp; omega)).trans (by go_simp), (hb.cell (p := ⟨w.heap.size, 2, none⟩) (by simp; omega)).trans (by go_simp)⟩,
   ⟨(hb.cell (p := ⟨w.heap.size + 1, 0, none⟩) (by simp)).trans (by go_simp), (hb.cell (p := ⟨w.heap.size + 1, 1, none⟩) (by simp)).trans (by go_simp), (hb.cell (p := ⟨w.heap.size + 1, 2, none⟩) (by simp)).trans (by go_simp)⟩,
   fun o => (hb.frozen (p := ⟨w.heap.size + 1, o, none⟩) (by simp)).trans (by go_simp), by have := hb.size; simp at this; omega, two_below hb⟩

theorem store3 {w : World} {b : Nat} {x y z : Value} (u v q : Value) (h0 : w.cell? ⟨b, 0, none⟩ = some x) (h1 : w.cell? ⟨b, 1, none⟩ = some y) (h2 : w.cell? ⟨b, 2, none⟩ = some z) :
    (w.setCell ⟨b, 0, none⟩ u).cell? ⟨b, 0, none⟩ = some u ∧ ((w.setCell ⟨b, 0, none⟩ u).setCell ⟨b, 1, none⟩ v).cell? ⟨b, 1, none⟩ = some v ∧ (((w.setCell ⟨b, 0, none⟩ u).setCell ⟨b, 1, none⟩ v).setCell ⟨b, 2, none⟩ q).cell? ⟨b, 2, none⟩ = some q :=
  ⟨by go_cell, by go_cell, by go_cell⟩

theorem rstep_err (w : World) (h0 : 0 ≤ a) (ha1 : a ≤ 1099511627776) (hs0 : 0 ≤ s) (hs1 : s ≤ 1099511627776) (h3 : -100000 ≤ r) (h4 : r ≤ 100000) (he : shE a s r t ≠ 0) :
    Calls Try.prog 26 #[.agg #[.int .i64 a, .int .i64 s, .int .i64 r], .int .i64 t, .int .i64 y] w fun e w' => e = .returned (.tuple #[.agg #[.int .i64 a, .int .i64 s, .int .i64 r], .int .i64 (shE a s r t)]) ∧ Below w.heap.size w w' := by
  have H1 := fun w => rshow_any a s r t w h0 ha1 hs0 hs1 h3 h4
  have hn : (shE a s r t == 0) = false := beq_eq_false_iff_ne.2 he
  have hn2 : (shE a s r t != 0) = true := by rw [bne_iff_ne]; exact he
  generalize shE a s r t = E at *
  have G1 := Lib.hid H1
  clear H1 he
  go_enter Try.func26, Try.ntmps26
  go_wp2_with fail
  refine (G1.out _).mono ?_
  rintro e w1 ⟨rfl, B1⟩
  obtain ⟨⟨p0, p1, p2⟩, ⟨q0, q1, q2⟩, hf, hz, T⟩ := box33 B1
  clear B1
  go_wp2
  obtain ⟨e0, e1, e2⟩ := store3 (.int .i64 a) (.int .i64 s) (.int .i64 r) q0 q1 q2
  exact bodyPost_ret (v := .tuple #[.agg #[.int .i64 a, .int .i64 s, .int .i64 r], .int .i64 E]) (by simp [results, Try.results26, go_sem, e0, e1, e2]) rfl ⟨rfl, by go_grown⟩

theorem rstep_range (w : World) (h0 : 0 ≤ a) (ha1 : a ≤ 1099511627776) (hs0 : 0 ≤ s) (hs1 : s ≤ 1099511627776) (h3 : -100000 ≤ r) (h4 : r ≤ 100000) (he : shE a s r t = 0) (hy : y < -shw a s r t ∨ 1099511627776 - shw a s r t < y) :
    Calls Try.prog 26 #[.agg #[.int .i64 a, .int .i64 s, .int .i64 r], .int .i64 t, .int .i64 y] w fun e w' => e = .returned (.tuple #[.agg #[.int .i64 a, .int .i64 s, .int .i64 r], .int .i64 3]) ∧ Below w.heap.size w w' := by
  obtain ⟨ev, _, _, _, v0, v1⟩ := shV_ok he
  have H1 := fun w => rshow_any a s r t w h0 ha1 hs0 hs1 h3 h4
  rw [he, ev] at H1
  generalize shw a s r t = V at *
  have G1 := Lib.hid H1
  clear H1 he ev
  by_cases hc : y < -1099511627776
  · clear hy
    go_enter Try.func26, Try.ntmps26
    go_wp2_with fail
    refine (G1.out _).mono ?_
    rintro e w1 ⟨rfl, B1⟩
    obtain ⟨⟨p0, p1, p2⟩, ⟨q0, q1, q2⟩, hf, hz, T⟩ := box33 B1
    clear B1
    go_wp2
    obtain ⟨e0, e1, e2⟩ := store3 (.int .i64 a) (.int .i64 s) (.int .i64 r) q0 q1 q2
    exact bodyPost_ret (v := .tuple #[.agg #[.int .i64 a, .int .i64 s, .int .i64 r], .int .i64 3]) (by simp [results, Try.results26, go_sem, e0, e1, e2]) rfl ⟨rfl, by go_grown⟩
  by_cases hd : 1099511627776 < y
  · have hc' : -1099511627776 ≤ y := by omega
    clear hy hc
    go_enter Try.func26, Try.ntmps26
    go_wp2_with fail
    refine (G1.out _).mono ?_
    rintro e w1 ⟨rfl, B1⟩
    obtain ⟨⟨p0, p1, p2⟩, ⟨q0, q1, q2⟩, hf, hz, T⟩ := box33 B1
    clear B1
    go_wp2
    obtain ⟨e0, e1, e2⟩ := store3 (.int .i64 a) (.int .i64 s) (.int .i64 r) q0 q1 q2
    exact bodyPost_ret (v := .tuple #[.agg #[.int .i64 a, .int .i64 s, .int .i64 r], .int .i64 3]) (by simp [results, Try.results26, go_sem, e0, e1, e2]) rfl ⟨rfl, by go_grown⟩
  · have hc' : -1099511627776 ≤ y := by omega
    have hd' : y ≤ 1099511627776 := by omega
    have hy2 : ¬ (0 ≤ V + y ∧ V + y ≤ 1099511627776) := by omega
    have HY := Lib.hid hy2
    clear hy hc hd hy2
    go_enter Try.func26, Try.ntmps26
    go_wp2_with fail
    refine (G1.out _).mono ?_
    rintro e w1 ⟨rfl, B1⟩
    obtain ⟨⟨p0, p1, p2⟩, ⟨q0, q1, q2⟩, hf, hz, T⟩ := box33 B1
    clear B1
    go_wp2_with (go_at_call 25; refine (rtime_no _ _ HY.out).mono ?_; rintro e w' ⟨rfl, rfl⟩)
    obtain ⟨e0, e1, e2⟩ := store3 (.int .i64 a) (.int .i64 s) (.int .i64 r) q0 q1 q2
    exact bodyPost_ret (v := .tuple #[.agg #[.int .i64 a, .int .i64 s, .int .i64 r], .int .i64 3]) (by simp [results, Try.results26, go_sem, e0, e1, e2]) rfl ⟨rfl, by go_grown⟩

theorem rstep_ok (w : World) (h0 : 0 ≤ a) (ha1 : a ≤ 1099511627776) (hs0 : 0 ≤ s) (hs1 : s ≤ 1099511627776) (h3 : -100000 ≤ r) (h4 : r ≤ 100000) (he : shE a s r t = 0) (hy1 : 0 ≤ shw a s r t + y) (hy2 : shw a s r t + y ≤ 1099511627776) :
    Calls Try.prog 26 #[.agg #[.int .i64 a, .int .i64 s, .int .i64 r], .int .i64 t, .int .i64 y] w fun e w' => e = .returned (.tuple #[.agg #[.int .i64 t, .int .i64 (shw a s r t + y), .int .i64 r], .int .i64 0]) ∧ Below w.heap.size w w' := by
  obtain ⟨ev, _, _, _, v0, v1⟩ := shV_ok he
  have H1 := fun w => rshow_any a s r t w h0 ha1 hs0 hs1 h3 h4
  rw [he, ev] at H1
  generalize shw a s r t = V at *
  have G1 := Lib.hid H1
  clear H1 he ev
  go_enter Try.func26, Try.ntmps26
  go_wp2_with fail
  refine (G1.out _).mono ?_
  rintro e w1 ⟨rfl, B1⟩
  obtain ⟨⟨p0, p1, p2⟩, ⟨q0, q1, q2⟩, hf, hz, T⟩ := box33 B1
  clear B1
  go_wp2_with (go_at_call 25; refine (rtime_yes _ _ hy1 hy2).mono ?_; rintro e w' ⟨rfl, rfl⟩)
  obtain ⟨e0, e1, e2⟩ := store3 (.int .i64 t) (.int .i64 (V + y)) (.int .i64 r) q0 q1 q2
  exact bodyPost_ret (v := .tuple #[.agg #[.int .i64 t, .int .i64 (V + y), .int .i64 r], .int .i64 0]) (by simp [results, Try.results26, go_sem, e0, e1, e2]) rfl ⟨rfl, by go_grown⟩

/-- Step and its reference give the same -/
theorem step_pair (h0 : 0 ≤ a) (ha1 : a ≤ 1099511627776) (hs0 : 0 ≤ s) (hs1 : s ≤ 1099511627776) (h3 : -100000 ≤ r) (h4 : r ≤ 100000) :
    ∃ c a' s' r' : Int, (∀ w b, Clk w b a s r → Calls Try.prog 21 #[.pointer (some ⟨b, 0, none⟩), .int .i64 t, .int .i64 y] w fun e w' => e = .returned (.int .i64 c) ∧ Clk w' b a' s' r' ∧ Chg b w w') ∧
      (∀ w, Calls Try.prog 26 #[.agg #[.int .i64 a, .int .i64 s, .int .i64 r], .int .i64 t, .int .i64 y] w fun e w' => e = .returned (.tuple #[.agg #[.int .i64 a', .int .i64 s', .int .i64 r'], .int .i64 c]) ∧ Below w.heap.size w w') := by
  by_cases he : shE a s r t = 0
  · obtain ⟨ev, t0, t1, ta, v0, v1⟩ := shV_ok he
    by_cases hy : y < -shw a s r t ∨ 1099511627776 - shw a s r t < y
    · exact ⟨3, a, s, r, fun w b h => step_range a s r t y w b h he hy, fun w => rstep_range a s r t y w h0 ha1 hs0 hs1 h3 h4 he hy⟩
    · exact ⟨0, t, shw a s r t + y, r, fun w b h => step_ok a s r t y w b h he (by omega) (by omega) v0 v1 ev t0 t1, fun w => rstep_ok a s r t y w h0 ha1 hs0 hs1 h3 h4 he (by omega) (by omega)⟩
  · exact ⟨shE a s r t, a, s, r, fun w b h => step_err a s r t y w b h he, fun w => rstep_err a s r t y w h0 ha1 hs0 hs1 h3 h4 he⟩

theorem rate_arg (w : World) (b : Nat) (h : Clk w b a s r) (hy : y < -100000 ∨ 100000 < y) :
    Calls Try.prog 19 #[.pointer (some ⟨b, 0, none⟩), .int .i64 t, .int .i64 y] w fun e w' => e = .returned (.int .i64 2) ∧ Clk w' b a s r ∧ Chg b w w' := by
  have HY := Lib.hid hy
  clear hy
  go_enter Try.func19, Try.ntmps19
  go_wp2_with (first | (go_at_call 28; refine (usable_yes a s r _ b h).mono ?_; rintro e w' ⟨rfl, rfl⟩) | (go_at_call 24; refine (allowed_no y _ HY.out).mono ?_; rintro e w' ⟨rfl, rfl⟩))
  go_ret
  exact ⟨rfl, h, Chg.of_below (Below.refl _ _)⟩

theorem rate_err (w : World) (b : Nat) (h : Clk w b a s r) (hy0 : -100000 ≤ y) (hy1 : y ≤ 100000) (he : shE a s r t ≠ 0) :
    Calls Try.prog 19 #[.pointer (some ⟨b, 0, none⟩), .int .i64 t, .int .i64 y] w fun e w' => e = .returned (.int .i64 (shE a s r t)) ∧ Clk w' b a s r ∧ Chg b w w' := by
  have H1 := show_any a s r t w b h
  have hn : (shE a s r t == 0) = false := beq_eq_false_iff_ne.2 he
  have hn2 : (shE a s r t != 0) = true := by rw [bne_iff_ne]; exact he
  generalize shE a s r t = E at *
  have G1 := Lib.hid H1
  have hl := h.lt
  clear H1 he
  go_enter Try.func19, Try.ntmps19
  go_wp2_with (first | (go_at_call 28; refine (usable_yes a s r _ b h).mono ?_; rintro e w' ⟨rfl, rfl⟩) | (go_at_call 24; refine (allowed_yes y _ hy0 hy1).mono ?_; rintro e w' ⟨rfl, rfl⟩) | (go_at_call 17; refine (G1.out).mono ?_; rintro e w1 ⟨rfl, B1⟩))
  go_ret
  exact ⟨rfl, h.below B1 hl, Chg.of_below B1⟩

theorem rrate_arg (w : World) (hy : y < -100000 ∨ 100000 < y) :
    Calls Try.prog 27 #[.agg #[.int .i64 a, .int .i64 s, .int .i64 r], .int .i64 t, .int .i64 y] w fun e w' => e = .returned (.tuple #[.agg #[.int .i64 a, .int .i64 s, .int .i64 r], .int .i64 2]) ∧ Below w.heap.size w w' := by
  have hy2 : y < -100000 ∨ (-100000 ≤ y ∧ 100000 < y) := by omega
  clear hy
  rcases hy2 with hy | ⟨hy1, hy⟩
  all_goals
    go_enter Try.func27, Try.ntmps27
    go_wp2
    go_returns
    exact ⟨rfl, by go_grown⟩

theorem rrate_err (w : World) (h0 : 0 ≤ a) (ha1 : a ≤ 1099511627776) (hs0 : 0 ≤ s) (hs1 : s ≤ 1099511627776) (h3 : -100000 ≤ r) (h4 : r ≤ 100000) (hy0 : -100000 ≤ y) (hy1 : y ≤ 100000) (he : shE a s r t ≠ 0) :
    Calls Try.prog 27 #[.agg #[.int .i64 a, .int .i64 s, .int .i64 r], .int .i64 t, .int .i64 y] w fun e w' => e = .returned (.tuple #[.agg #[.int .i64 a, .int .i64 s, .int .i64 r], .int .i64 (shE a s r t)]) ∧ Below w.heap.size w w' := by
  have H1 := fun w => rshow_any a s r t w h0 ha1 hs0 hs1 h3 h4
  have hn : (shE a s r t == 0) = false := beq_eq_false_iff_ne.2 he
  have hn2 : (shE a s r t != 0) = true := by rw [bne_iff_ne]; exact he
  generalize shE a s r t = E at *
  have G1 := Lib.hid H1
  clear H1 he
  go_enter Try.func27, Try.ntmps27
  go_wp2_with fail
  refine (G1.out _).mono ?_
  rintro e w1 ⟨rfl, B1⟩
  obtain ⟨⟨p0, p1, p2⟩, ⟨q0, q1, q2⟩, hf, hz, T⟩ := box33 B1
  clear B1
  go_wp2
  obtain ⟨e0, e1, e2⟩ := store3 (.int .i64 a) (.int .i64 s) (.int .i64 r) q0 q1 q2
  exact bodyPost_ret (v := .tuple #[.agg #[.int .i64 a, .int .i64 s, .int .i64 r], .int .i64 E]) (by simp [results, Try.results27, go_sem, e0, e1, e2]) rfl ⟨rfl, by go_grown⟩

theorem rrate_ok (w : World) (h0 : 0 ≤ a) (ha1 : a ≤ 1099511627776) (hs0 : 0 ≤ s) (hs1 : s ≤ 1099511627776) (h3 : -100000 ≤ r) (h4 : r ≤ 100000) (hy0 : -100000 ≤ y) (hy1 : y ≤ 100000) (he : shE a s r t = 0) :
    Calls Try.prog 27 #[.agg #[.int .i64 a, .int .i64 s, .int .i64 r], .int .i64 t, .int .i64 y] w fun e w' => e = .returned (.tuple #[.agg #[.int .i64 t, .int .i64 (shw a s r t), .int .i64 y], .int .i64 0]) ∧ Below w.heap.size w w' := by
  obtain ⟨ev, _, _, _, v0, v1⟩ := shV_ok he
  have H1 := fun w => rshow_any a s r t w h0 ha1 hs0 hs1 h3 h4
  rw [he, ev] at H1
  generalize shw a s r t = V at *
  have G1 := Lib.hid H1
  clear H1 he ev
  go_enter Try.func27, Try.ntmps27
  go_wp2_with fail
  refine (G1.out _).mono ?_
  rintro e w1 ⟨rfl, B1⟩
  obtain ⟨⟨p0, p1, p2⟩, ⟨q0, q1, q2⟩, hf, hz, T⟩ := box33 B1
  clear B1
  go_wp2
  obtain ⟨e0, e1, e2⟩ := store3 (.int .i64 t) (.int .i64 V) (.int .i64 y) q0 q1 q2
  exact bodyPost_ret (v := .tuple #[.agg #[.int .i64 t, .int .i64 V, .int .i64 y], .int .i64 0]) (by simp [results, Try.results27, go_sem, e0, e1, e2]) rfl ⟨rfl, by go_grown⟩

/-- SetRate and its reference give the same -/
theorem rate_pair (h0 : 0 ≤ a) (ha1 : a ≤ 1099511627776) (hs0 : 0 ≤ s) (hs1 : s ≤ 1099511627776) (h3 : -100000 ≤ r) (h4 : r ≤ 100000) :
    ∃ c a' s' r' : Int, (∀ w b, Clk w b a s r → Calls Try.prog 19 #[.pointer (some ⟨b, 0, none⟩), .int .i64 t, .int .i64 y] w fun e w' => e = .returned (.int .i64 c) ∧ Clk w' b a' s' r' ∧ Chg b w w') ∧
      (∀ w, Calls Try.prog 27 #[.agg #[.int .i64 a, .int .i64 s, .int .i64 r], .int .i64 t, .int .i64 y] w fun e w' => e = .returned (.tuple #[.agg #[.int .i64 a', .int .i64 s', .int .i64 r'], .int .i64 c]) ∧ Below w.heap.size w w') := by
  by_cases hy : -100000 ≤ y ∧ y ≤ 100000
  · obtain ⟨y0, y1⟩ := hy
    by_cases he : shE a s r t = 0
    · obtain ⟨ev, t0, t1, ta, v0, v1⟩ := shV_ok he
      exact ⟨0, t, shw a s r t, y, fun w b h => setRate_ok a s r t y w b h he y0 y1 v0 v1 ev t0 t1, fun w => rrate_ok a s r t y w h0 ha1 hs0 hs1 h3 h4 y0 y1 he⟩
    · exact ⟨shE a s r t, a, s, r, fun w b h => rate_err a s r t y w b h y0 y1 he, fun w => rrate_err a s r t y w h0 ha1 hs0 hs1 h3 h4 y0 y1 he⟩
  · exact ⟨2, a, s, r, fun w b h => rate_arg a s r t y w b h (by omega), fun w => rrate_arg a s r t y w (by omega)⟩
end

end Go.Proofs.Ytjpnfpmgbeigbaa
