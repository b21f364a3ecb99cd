/- Walks of layer 47 (drift): the contracts of its functions. -/
import Derived.Test.YtjpnfpmgbeigbaaRows
import Derived.Test.YtjpnfpmgbeigbaaMath
import Derived.WalkKit
import Derived.ProofKit
import Derived.OpenShut
import Derived.Handy
import Derived.WalkLawsBesides
import Derived.WalkSpells
import Derived.Lib.Hide
namespace Go.Proofs.Ytjpnfpmgbeigbaa
open Go.ChangeShapes Go.WideShapes Go.ChangeAt Go.RowKit Drift
set_option linter.unusedVariables false

theorem ret_int {k : IntKind} {a b : Int} (h : a = b) : Ending.returned (.int k a) = Ending.returned (.int k b) := by rw [h]

theorem bcell {W w1 : World} {B : Nat} (hb : Below B W w1) : (∀ b o, b < B → w1.cell? ⟨b, o, none⟩ = W.cell? ⟨b, o, none⟩) ∧ (∀ b o, b < B → w1.frozen? ⟨b, o, none⟩ = W.frozen? ⟨b, o, none⟩) :=
  ⟨fun b o h => hb.cell (p := ⟨b, o, none⟩) h, fun b o h => hb.frozen (p := ⟨b, o, none⟩) h⟩

/-- a clock in memory -/
structure Clk (w : World) (b : Nat) (a s r : Int) : Prop where
  c0 : w.cell? ⟨b, 0, none⟩ = some (.int .i64 a)
  c1 : w.cell? ⟨b, 1, none⟩ = some (.int .i64 s)
  c2 : w.cell? ⟨b, 2, none⟩ = some (.int .i64 r)
  c3 : w.cell? ⟨b, 3, none⟩ = some (.bool true)
  fz : ∀ o, w.frozen? ⟨b, o, none⟩ = false
  lt : b < w.heap.size
  a0 : 0 ≤ a
  a1 : a ≤ 1099511627776
  s0 : 0 ≤ s
  s1 : s ≤ 1099511627776
  r0 : -100000 ≤ r
  r1 : r ≤ 100000

theorem Clk.same {w w' : World} {b : Nat} {a s r : Int} (h : Clk w b a s r) (hk : w'.heap[b]? = w.heap[b]?) : Clk w' b a s r := by
  have hc : ∀ o, w'.cell? ⟨b, o, none⟩ = w.cell? ⟨b, o, none⟩ := fun o => World.cell?_of_block (w := w) (a := ⟨b, o, none⟩) hk
  have hf : ∀ o, w'.frozen? ⟨b, o, none⟩ = w.frozen? ⟨b, o, none⟩ := fun o => World.frozen?_of_block (w := w) (a := ⟨b, o, none⟩) hk
  have hl : b < w'.heap.size := by
    rcases Nat.lt_or_ge b w'.heap.size with h1 | h1
    · exact h1
    · have := h.lt
      rw [Array.getElem?_eq_none h1, Array.getElem?_eq_getElem this] at hk
      cases hk
  exact ⟨by rw [hc]; exact h.c0, by rw [hc]; exact h.c1, by rw [hc]; exact h.c2, by rw [hc]; exact h.c3, fun o => by rw [hf]; exact h.fz o, hl, h.a0, h.a1, h.s0, h.s1, h.r0, h.r1⟩

theorem Clk.below {w w' : World} {B b : Nat} {a s r : Int} (h : Clk w b a s r) (hb : Below B w w') (hB : b < B) : Clk w' b a s r := h.same (hb.block b hB)

theorem allowed_yes (r : Int) (w : World) (h0 : -100000 ≤ r) (h1 : r ≤ 100000) : Calls Try.prog 24 #[.int .i64 r] w fun e w' => e = .returned (.bool true) ∧ w = w' := by
  go_enter Try.func24, Try.ntmps24
  go_wp2
  go_ret
  exact ⟨rfl, rfl⟩

theorem allowed_no (r : Int) (w : World) (h : r < -100000 ∨ 100000 < r) : Calls Try.prog 24 #[.int .i64 r] w fun e w' => e = .returned (.bool false) ∧ w = w' := by
  rcases h with h | h
  · have : ¬ -100000 ≤ r := by omega
    go_enter Try.func24, Try.ntmps24
    go_wp2
    go_ret
    exact ⟨rfl, rfl⟩
  · have : ¬ r ≤ 100000 := by omega
    have : -100000 ≤ r := by omega
    go_enter Try.func24, Try.ntmps24
    go_wp2
    go_ret
    exact ⟨rfl, rfl⟩

theorem limited1_yes (x : Int) (w : World) (b : Nat) (c : w.cell? ⟨b, 0, none⟩ = some (.int .i64 x)) (h0 : 0 ≤ x) (h1 : x ≤ 1099511627776) :
    Calls Try.prog 23 #[.slice (some ⟨b, 0, none⟩) 1 1] w fun e w' => e = .returned (.bool true) ∧ w = w' := by
  go_enter Try.func23, Try.ntmps23
  go_wp2
  go_rounds 3
  go_ret
  exact ⟨rfl, rfl⟩

theorem limited1_no (x : Int) (w : World) (b : Nat) (c : w.cell? ⟨b, 0, none⟩ = some (.int .i64 x)) (h : ¬ (0 ≤ x ∧ x ≤ 1099511627776)) :
    Calls Try.prog 23 #[.slice (some ⟨b, 0, none⟩) 1 1] w fun e w' => e = .returned (.bool false) ∧ w = w' := by
  by_cases h0 : x < 0
  · clear h
    go_enter Try.func23, Try.ntmps23
    go_wp2
    go_rounds 4
    go_ret
    exact ⟨rfl, rfl⟩
  have h1 : 1099511627776 < x := by omega
  clear h
  go_enter Try.func23, Try.ntmps23
  go_wp2
  go_rounds 4
  go_ret
  exact ⟨rfl, rfl⟩

theorem limited2_yes (x y : Int) (w : World) (b : Nat) (c : w.cell? ⟨b, 0, none⟩ = some (.int .i64 x)) (d : w.cell? ⟨b, 1, none⟩ = some (.int .i64 y)) (h0 : 0 ≤ x) (h1 : x ≤ 1099511627776) (h2 : 0 ≤ y) (h3 : y ≤ 1099511627776) :
    Calls Try.prog 23 #[.slice (some ⟨b, 0, none⟩) 2 2] w fun e w' => e = .returned (.bool true) ∧ w = w' := by
  go_enter Try.func23, Try.ntmps23
  go_wp2
  go_rounds 4
  go_ret
  exact ⟨rfl, rfl⟩

theorem limited2_no (x y : Int) (w : World) (b : Nat) (c : w.cell? ⟨b, 0, none⟩ = some (.int .i64 x)) (d : w.cell? ⟨b, 1, none⟩ = some (.int .i64 y)) (h : ¬ (0 ≤ x ∧ x ≤ 1099511627776 ∧ 0 ≤ y ∧ y ≤ 1099511627776)) :
    Calls Try.prog 23 #[.slice (some ⟨b, 0, none⟩) 2 2] w fun e w' => e = .returned (.bool false) ∧ w = w' := by
  by_cases h0 : x < 0
  · clear h
    go_enter Try.func23, Try.ntmps23
    go_wp2
    go_rounds 4
    go_ret
    exact ⟨rfl, rfl⟩
  by_cases h1 : 1099511627776 < x
  · clear h
    go_enter Try.func23, Try.ntmps23
    go_wp2
    go_rounds 4
    go_ret
    exact ⟨rfl, rfl⟩
  by_cases h2 : y < 0
  · clear h
    go_enter Try.func23, Try.ntmps23
    go_wp2
    go_rounds 4
    go_ret
    exact ⟨rfl, rfl⟩
  have h3 : 1099511627776 < y := by omega
  clear h
  go_enter Try.func23, Try.ntmps23
  go_wp2
  go_rounds 4
  go_ret
  exact ⟨rfl, rfl⟩

/-- what New gives -/
def IsNew (w : World) (x y r : Int) (e : Ending) (w' : World) : Prop := ∃ b, e = .returned (.tuple #[.pointer (some ⟨b, 0, none⟩), .int .i64 0]) ∧ w.heap.size ≤ b ∧ Clk w' b x y r ∧ Below w.heap.size w w'

theorem new_yes (x y r : Int) (w : World) (h0 : 0 ≤ x) (h1 : x ≤ 1099511627776) (h2 : 0 ≤ y) (h3 : y ≤ 1099511627776) (h4 : -100000 ≤ r) (h5 : r ≤ 100000) :
    Calls Try.prog 9 #[.int .i64 x, .int .i64 y, .int .i64 r] w (IsNew w x y r) := by
  go_enter Try.func9, Try.ntmps9
  go_wp2_with (first | (go_at_call 23; go_call (limited2_yes x y) as e w' ⟨rfl, rfl⟩) | (go_at_call 24; go_call (allowed_yes r) as e w' ⟨rfl, rfl⟩))
  go_ret2
  refine ⟨w.heap.size + 1, rfl, by omega, ⟨?_, ?_, ?_, ?_, ?_, ?_, h0, h1, h2, h3, h4, h5⟩, by go_grown⟩
  all_goals first | (intro o; go_simp; done) | (go_simp; done) | (simp [go_sem]; done)

theorem new_no (x y r : Int) (w : World) (h : ¬ (0 ≤ x ∧ x ≤ 1099511627776 ∧ 0 ≤ y ∧ y ≤ 1099511627776 ∧ -100000 ≤ r ∧ r ≤ 100000)) :
    Calls Try.prog 9 #[.int .i64 x, .int .i64 y, .int .i64 r] w fun e w' => e = .returned (.tuple #[.pointer none, .int .i64 2]) ∧ Below w.heap.size w w' := by
  by_cases h' : 0 ≤ x ∧ x ≤ 1099511627776 ∧ 0 ≤ y ∧ y ≤ 1099511627776
  · have h2 : r < -100000 ∨ 100000 < r := by omega
    obtain ⟨g0, g1, g2, g3⟩ := h'
    clear h
    have H := Lib.hid h2; clear h2
    go_enter Try.func9, Try.ntmps9
    go_wp2_with (first | (go_at_call 23; go_call (limited2_yes x y) as e w' ⟨rfl, rfl⟩) | (go_at_call 24; refine (allowed_no r _ H.out).mono ?_; rintro e w' ⟨rfl, rfl⟩))
    go_ret2
    exact ⟨rfl, by go_grown⟩
  · clear h
    have H := Lib.hid h'; clear h'
    go_enter Try.func9, Try.ntmps9
    go_wp2_with (first | (go_at_call 23; refine (limited2_no x y _ _ (by go_cell) (by go_cell) H.out).mono ?_; rintro e w' ⟨rfl, rfl⟩))
    go_ret2
    exact ⟨rfl, by go_grown⟩

theorem time_any (a s r t : Int) (w : World) (b : Nat) (h : Clk w b a s r) (h1 : a ≤ t) (h2 : t ≤ 1099511627776) :
    Calls Try.prog 31 #[.pointer (some ⟨b, 0, none⟩), .int .i64 t] w fun e w' => e = .returned (.int .i64 (shw a s r t)) ∧ w = w' := by
  obtain ⟨c0, c1, c2, c3, hf, hl, h0, ha1, hs0, hs1, h3, h4⟩ := h
  obtain ⟨g0, g1⟩ := prod_bd h3 h4 (p := t - a) (by omega) (by omega)
  by_cases hg : 0 ≤ r * (t - a)
  · go_enter Try.func31, Try.ntmps31
    go_wp2
    go_ret
    exact ⟨rfl, rfl⟩
  · have hg' : r * (t - a) < 0 := by omega
    clear hg
    have e1 := tdiv_neg hg'
    have e2 := tmod_neg hg'
    go_enter Try.func31, Try.ntmps31
    go_wp2
    all_goals go_ret
    all_goals exact ⟨ret_int (by unfold shw; omega), rfl⟩

theorem usable_yes (a s r : Int) (w : World) (b : Nat) (h : Clk w b a s r) :
    Calls Try.prog 28 #[.pointer (some ⟨b, 0, none⟩)] w fun e w' => e = .returned (.bool true) ∧ w = w' := by
  obtain ⟨c0, c1, c2, c3, hf, hl, ha0, ha1, hs0, hs1, hr0, hr1⟩ := h
  go_enter Try.func28, Try.ntmps28
  go_wp2
  go_ret
  exact ⟨rfl, rfl⟩

theorem usable_nil (w : World) : Calls Try.prog 28 #[.pointer none] w fun e w' => e = .returned (.bool false) ∧ w = w' := by
  go_enter Try.func28, Try.ntmps28
  go_wp2
  go_ret
  exact ⟨rfl, rfl⟩

theorem usable_zero (w : World) (b : Nat) (c3 : w.cell? ⟨b, 3, none⟩ = some (.bool false)) : Calls Try.prog 28 #[.pointer (some ⟨b, 0, none⟩)] w fun e w' => e = .returned (.bool false) ∧ w = w' := by
  go_enter Try.func28, Try.ntmps28
  go_wp2
  go_ret
  exact ⟨rfl, rfl⟩

/-- the three ends of check -/
theorem check_ok (a s r t : Int) (w : World) (b : Nat) (h : Clk w b a s r) (h0 : 0 ≤ t) (h1 : a ≤ t) (h2 : t ≤ 1099511627776) :
    Calls Try.prog 29 #[.pointer (some ⟨b, 0, none⟩), .int .i64 t] w fun e w' => e = .returned (.int .i64 0) ∧ Below w.heap.size w w' := by
  obtain ⟨c0, c1, c2, c3, hf, hl, ha0, ha1, hs0, hs1, hr0, hr1⟩ := h
  go_enter Try.func29, Try.ntmps29
  go_wp2_with (go_at_call 23; go_call (limited1_yes t) as e w' ⟨rfl, rfl⟩)
  go_ret
  exact ⟨rfl, by go_grown⟩

theorem check_early (a s r t : Int) (w : World) (b : Nat) (h : Clk w b a s r) (h0 : 0 ≤ t) (h1 : t < a) (h2 : t ≤ 1099511627776) :
    Calls Try.prog 29 #[.pointer (some ⟨b, 0, none⟩), .int .i64 t] w fun e w' => e = .returned (.int .i64 8) ∧ Below w.heap.size w w' := by
  obtain ⟨c0, c1, c2, c3, hf, hl, ha0, ha1, hs0, hs1, hr0, hr1⟩ := h
  go_enter Try.func29, Try.ntmps29
  go_wp2_with (go_at_call 23; go_call (limited1_yes t) as e w' ⟨rfl, rfl⟩)
  go_ret
  exact ⟨rfl, by go_grown⟩

theorem check_range (t : Int) (w : World) (v : Value) (h0 : ¬ (0 ≤ t ∧ t ≤ 1099511627776)) :
    Calls Try.prog 29 #[v, .int .i64 t] w fun e w' => e = .returned (.int .i64 3) ∧ Below w.heap.size w w' := by
  have H := Lib.hid h0; clear h0
  go_enter Try.func29, Try.ntmps29
  go_wp2_with (go_at_call 23; refine (limited1_no t _ _ (by go_cell) H.out).mono ?_; rintro e w' ⟨rfl, rfl⟩)
  go_ret
  exact ⟨rfl, by go_grown⟩

theorem show_any (a s r t : Int) (w : World) (b : Nat) (h : Clk w b a s r) :
    Calls Try.prog 17 #[.pointer (some ⟨b, 0, none⟩), .int .i64 t] w fun e w' => e = .returned (.tuple #[.int .i64 (shV a s r t), .int .i64 (shE a s r t)]) ∧ Below w.heap.size w w' := by
  have hC := h
  obtain ⟨c0, c1, c2, c3, hf, hl, ha0, ha1, hs0, hs1, hr0, hr1⟩ := h
  by_cases h1 : 0 ≤ t ∧ t ≤ 1099511627776
  · obtain ⟨h0, h2⟩ := h1
    by_cases h3 : t < a
    · have ev : shV a s r t = 0 := by unfold shV; rw [if_neg (by omega), if_pos h3]
      have ee : shE a s r t = 8 := by unfold shE; rw [if_neg (by omega), if_pos h3]
      rw [ev, ee]; clear ev ee
      go_enter Try.func17, Try.ntmps17
      go_wp2_with (first | (go_at_call 28; refine (usable_yes a s r _ b hC).mono ?_; rintro e w' ⟨rfl, rfl⟩) | (go_at_call 29; go_call (check_early a s r t _ b hC h0 h3 h2) as e w' ⟨rfl, hb1⟩))
      go_ret2
      exact ⟨rfl, hb1⟩
    · by_cases h4 : 0 ≤ shw a s r t ∧ shw a s r t ≤ 1099511627776
      · have ev : shV a s r t = shw a s r t := by unfold shV; rw [if_neg (by omega), if_neg h3, if_neg (by omega)]
        have ee : shE a s r t = 0 := by unfold shE; rw [if_neg (by omega), if_neg h3, if_neg (by omega)]
        rw [ev, ee]; clear ev ee
        obtain ⟨g0, g1⟩ := h4
        go_enter Try.func17, Try.ntmps17
        go_wp2_with (first | (go_at_call 28; refine (usable_yes a s r _ b hC).mono ?_; rintro e w' ⟨rfl, rfl⟩) | (go_at_call 29; go_call (check_ok a s r t _ b hC h0 (by omega) h2) as e w' ⟨rfl, hb1⟩) | (go_at_call 31; refine (time_any a s r t _ b (hC.below hb1 hl) (by omega) h2).mono ?_; rintro e w' ⟨rfl, rfl⟩) | (go_at_call 23; go_call (limited1_yes (shw a s r t)) as e w' ⟨rfl, rfl⟩))
        go_ret2
        exact ⟨rfl, by have := hb1.size; go_grown⟩
      · have ev : shV a s r t = 0 := by unfold shV; rw [if_neg (by omega), if_neg h3, if_pos h4]
        have ee : shE a s r t = 3 := by unfold shE; rw [if_neg (by omega), if_neg h3, if_pos h4]
        rw [ev, ee]; clear ev ee
        have H := Lib.hid h4; clear h4
        go_enter Try.func17, Try.ntmps17
        go_wp2_with (first | (go_at_call 28; refine (usable_yes a s r _ b hC).mono ?_; rintro e w' ⟨rfl, rfl⟩) | (go_at_call 29; go_call (check_ok a s r t _ b hC h0 (by omega) h2) as e w' ⟨rfl, hb1⟩) | (go_at_call 31; refine (time_any a s r t _ b (hC.below hb1 hl) (by omega) h2).mono ?_; rintro e w' ⟨rfl, rfl⟩) | (go_at_call 23; refine (limited1_no (shw a s r t) _ _ (by go_cell) H.out).mono ?_; rintro e w' ⟨rfl, rfl⟩))
        go_ret2
        exact ⟨rfl, by have := hb1.size; go_grown⟩
  · have ev : shV a s r t = 0 := by unfold shV; rw [if_pos h1]
    have ee : shE a s r t = 3 := by unfold shE; rw [if_pos h1]
    rw [ev, ee]; clear ev ee
    have H := Lib.hid h1; clear h1
    go_enter Try.func17, Try.ntmps17
    go_wp2_with (first | (go_at_call 28; refine (usable_yes a s r _ b hC).mono ?_; rintro e w' ⟨rfl, rfl⟩) | (go_at_call 29; refine (check_range t _ _ H.out).mono ?_; rintro e w' ⟨rfl, hb1⟩))
    go_ret2
    exact ⟨rfl, hb1⟩

end Go.Proofs.Ytjpnfpmgbeigbaa
