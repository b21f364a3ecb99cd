/- Walks of layer 47 (drift), the second part: Deviation, Exceeds, Copy, Step, SetRate. -/
import Derived.Test.YtjpnfpmgbeigbaaWalks
import Derived.Deep.RegionWith
namespace Go.Proofs.Ytjpnfpmgbeigbaa
open Go.ChangeShapes Go.WideShapes Go.ChangeAt Go.RowKit Drift
set_option linter.unusedVariables false

theorem deviation_ok (a s r t : Int) (w : World) (b : Nat) (h : Clk w b a s r) (h0 : shE a s r t = 0) :
    Calls Try.prog 20 #[.pointer (some ⟨b, 0, none⟩), .int .i64 t] w fun e w' => e = .returned (.tuple #[.int .i64 (shw a s r t - t), .int .i64 0]) ∧ Below w.heap.size w w' := by
  have hv : shV a s r t = shw a s r t ∧ 0 ≤ t ∧ t ≤ 1099511627776 ∧ 0 ≤ shw a s r t ∧ shw a s r t ≤ 1099511627776 := by
    unfold shE at h0; unfold shV
    by_cases c1 : 0 ≤ t ∧ t ≤ 1099511627776
    · by_cases c2 : t < a
      · simp [c1, c2] at h0
      · by_cases c3 : 0 ≤ shw a s r t ∧ shw a s r t ≤ 1099511627776
        · simp [c1, c2, c3]
        · simp [c1, c2, c3] at h0
    · simp [c1] at h0
  obtain ⟨hv, g0, g1, g2, g3⟩ := hv
  have hs := show_any a s r t w b h
  rw [hv, h0] at hs
  have HS := Lib.hid hs; clear hs hv h0
  go_enter Try.func20, Try.ntmps20
  go_wp2_with (go_at_call 17; refine (HS.out).mono ?_; rintro e w' ⟨rfl, hb1⟩)
  go_ret2
  exact ⟨rfl, hb1⟩

theorem deviation_err (a s r t : Int) (w : World) (b : Nat) (h : Clk w b a s r) (h0 : shE a s r t ≠ 0) :
    Calls Try.prog 20 #[.pointer (some ⟨b, 0, none⟩), .int .i64 t] w fun e w' => e = .returned (.tuple #[.int .i64 0, .int .i64 (shE a s r t)]) ∧ Below w.heap.size w w' := by
  have HS := Lib.hid (show_any a s r t w b h)
  have hn : (shE a s r t == 0) = false := beq_eq_false_iff_ne.2 h0
  have hn2 : (shE a s r t != 0) = true := by rw [bne_iff_ne]; exact h0
  generalize shE a s r t = x at *
  clear h0
  go_enter Try.func20, Try.ntmps20
  go_wp2_with (go_at_call 17; refine (HS.out).mono ?_; rintro e w' ⟨rfl, hb1⟩)
  go_ret2
  exact ⟨rfl, hb1⟩

/-- the closure of Exceeds: p is where the clock's pointer lies, q where the skew lies -/
theorem exceeds_yes (a s r k t : Int) (w : World) (b p q : Nat) (h : Clk w b a s r) (hp : w.cell? ⟨p, 0, none⟩ = some (.pointer (some ⟨b, 0, none⟩))) (hq : w.cell? ⟨q, 0, none⟩ = some (.int .i64 k)) (h1 : a ≤ t) (h2 : t ≤ 1099511627776) (ho : Ovr a s r k t) :
    Calls Try.prog 30 #[.int .i64 t, .pointer (some ⟨p, 0, none⟩), .pointer (some ⟨q, 0, none⟩)] w fun e w' => e = .returned (.bool true) ∧ w = w' := by
  have ha0 := h.a0
  have hbd := shw_bd h.r0 h.r1 h.a0 h1 h2 h.s0 h.s1
  obtain ⟨g0, g1⟩ := hbd
  unfold Ovr at ho
  by_cases h3 : k < shw a s r t - t
  · clear ho
    go_enter Try.func30, Try.ntmps30
    go_wp2_with (go_at_call 31; refine (time_any a s r t _ b h h1 h2).mono ?_; rintro e w' ⟨rfl, rfl⟩)
    go_ret
    exact ⟨rfl, rfl⟩
  · have h4 : k < -(shw a s r t - t) := by omega
    have h5 : shw a s r t - t ≤ k := by omega
    clear ho h3
    go_enter Try.func30, Try.ntmps30
    go_wp2_with (go_at_call 31; refine (time_any a s r t _ b h h1 h2).mono ?_; rintro e w' ⟨rfl, rfl⟩)
    go_ret
    exact ⟨rfl, rfl⟩

theorem exceeds_no (a s r k t : Int) (w : World) (b p q : Nat) (h : Clk w b a s r) (hp : w.cell? ⟨p, 0, none⟩ = some (.pointer (some ⟨b, 0, none⟩))) (hq : w.cell? ⟨q, 0, none⟩ = some (.int .i64 k)) (h1 : a ≤ t) (h2 : t ≤ 1099511627776) (ho : ¬ Ovr a s r k t) :
    Calls Try.prog 30 #[.int .i64 t, .pointer (some ⟨p, 0, none⟩), .pointer (some ⟨q, 0, none⟩)] w fun e w' => e = .returned (.bool false) ∧ w = w' := by
  have ha0 := h.a0
  have hbd := shw_bd h.r0 h.r1 h.a0 h1 h2 h.s0 h.s1
  obtain ⟨g0, g1⟩ := hbd
  unfold Ovr at ho
  have h3 : shw a s r t - t ≤ k := by omega
  have h4 : -(shw a s r t - t) ≤ k := by omega
  clear ho
  go_enter Try.func30, Try.ntmps30
  go_wp2_with (go_at_call 31; refine (time_any a s r t _ b h h1 h2).mono ?_; rintro e w' ⟨rfl, rfl⟩)
  go_ret
  exact ⟨by show Ending.returned (.bool (decide (k < shw a s r t - t) || decide (k < -(shw a s r t - t)))) = _; rw [decide_eq_false (by omega), decide_eq_false (by omega)]; rfl, rfl⟩

/-- what the halving gives -/
def FirstAt (a s r k lo : Int) (w : World) (e : Ending) (w' : World) : Prop := ∃ v : Int, e = .returned (.int .i64 v) ∧ w = w' ∧ lo < v ∧ v ≤ 1099511627776 ∧ Ovr a s r k v ∧ ¬ Ovr a s r k (v - 1)

theorem first_any (a s r k lo : Int) (w : World) (b p q : Nat) (h : Clk w b a s r) (hp : w.cell? ⟨p, 0, none⟩ = some (.pointer (some ⟨b, 0, none⟩))) (hq : w.cell? ⟨q, 0, none⟩ = some (.int .i64 k)) (h1 : a ≤ lo) (hlo : ¬ Ovr a s r k lo) (hhi : Ovr a s r k 1099511627776) (h2 : lo ≤ 1099511627776) :
    Calls Try.prog 32 #[.int .i64 lo, .int .i64 1099511627776, .func (.func 30) #[] #[.pointer (some ⟨p, 0, none⟩), .pointer (some ⟨q, 0, none⟩)]] w (FirstAt a s r k lo w) := by
  have ha0 := h.a0
  have HL := Lib.hid hlo; clear hlo
  have HH := Lib.hid hhi; clear hhi
  go_enter Try.func32, Try.ntmps32
  go_wp2
  go_loop [0, 1] (fun l u => ∃ x y : Int, l = .int .i64 x ∧ u = .int .i64 y ∧ lo ≤ x ∧ x ≤ y ∧ y ≤ 1099511627776 ∧ Hid (Ovr a s r k y) ∧ Hid (x = lo ∨ ¬ Ovr a s r k (x - 1))) (fun l u => (intOf u - intOf l).toNat)
  case atStart => exact ⟨lo, _, rfl, rfl, by omega, by omega, by omega, HH.out, Or.inl rfl⟩
  case round =>
    obtain ⟨x, y, rfl, rfl, l1, l2, l3, l4, l5⟩ := hrel
    by_cases hlt : x < y
    · by_cases ho : Ovr a s r k (x + (y - x) / 2)
      · have HO := Lib.hid ho; clear ho
        go_wp2_with (go_at_call 30; refine (exceeds_yes a s r k _ _ b p q h hp hq (by omega) (by omega) HO.out).mono ?_; rintro e w' ⟨rfl, rfl⟩)
        go_round
        case rel => exact ⟨x, _, rfl, rfl, by omega, by omega, by omega, HO.out, l5⟩
        case measure => simp [intOf]; omega
      · have HO := Lib.hid ho; clear ho
        go_wp2_with (go_at_call 30; refine (exceeds_no a s r k _ _ b p q h hp hq (by omega) (by omega) HO.out).mono ?_; rintro e w' ⟨rfl, rfl⟩)
        go_round
        case rel => exact ⟨_, y, rfl, rfl, by omega, by omega, by omega, l4, Or.inr (by rw [show x + (y - x) / 2 + 1 - 1 = x + (y - x) / 2 from by omega]; exact HO.out)⟩
        case measure => simp [intOf]; omega
    · have hxy : x = y := by omega
      subst hxy
      go_wp2
      go_ret
      have hne : x ≠ lo := fun e => HL.out (e ▸ l4.out)
      exact ⟨x, rfl, rfl, by omega, by omega, l4.out, l5.out.resolve_left hne⟩

theorem ex_arg (a s r k t : Int) (w : World) (b : Nat) (h : Clk w b a s r) (hk : k < 0) :
    Calls Try.prog 13 #[.pointer (some ⟨b, 0, none⟩), .int .i64 t, .int .i64 k] w fun e w' => e = .returned (.tuple #[.int .i64 0, .int .i64 2]) ∧ Below w.heap.size w w' := by
  have hl := h.lt
  go_enter Try.func13, Try.ntmps13
  go_wp2_with (go_at_call 28; refine (usable_yes a s r _ b (h.below (B := w.heap.size) (by go_grown) hl)).mono ?_; rintro e w' ⟨rfl, rfl⟩)
  go_ret2
  exact ⟨rfl, by go_grown⟩

theorem ex_range (a s r k t : Int) (w : World) (b : Nat) (h : Clk w b a s r) (hk : 0 ≤ k) (ht : ¬ (0 ≤ t ∧ t ≤ 1099511627776)) :
    Calls Try.prog 13 #[.pointer (some ⟨b, 0, none⟩), .int .i64 t, .int .i64 k] w fun e w' => e = .returned (.tuple #[.int .i64 0, .int .i64 3]) ∧ Below w.heap.size w w' := by
  have hl := h.lt
  have H := Lib.hid ht; clear ht
  go_enter Try.func13, Try.ntmps13
  go_wp2_with (first | (go_at_call 28; refine (usable_yes a s r _ b (h.below (B := w.heap.size) (by go_grown) hl)).mono ?_; rintro e w' ⟨rfl, rfl⟩) | (go_at_call 29; refine (check_range t _ _ H.out).mono ?_; rintro e w' ⟨rfl, hb1⟩))
  go_ret2
  exact ⟨rfl, by have := hb1.size; simp at this; refine Below.trans (Below.alloc (Below.alloc (Below.refl _ _) (Nat.le_refl _) _) (by simp) _) (hb1.mono (by simp; omega))⟩

theorem ex_early (a s r k t : Int) (w : World) (b : Nat) (h : Clk w b a s r) (hk : 0 ≤ k) (h0 : 0 ≤ t) (h1 : t < a) (h2 : t ≤ 1099511627776) :
    Calls Try.prog 13 #[.pointer (some ⟨b, 0, none⟩), .int .i64 t, .int .i64 k] w fun e w' => e = .returned (.tuple #[.int .i64 0, .int .i64 8]) ∧ Below w.heap.size w w' := by
  have hl := h.lt
  go_enter Try.func13, Try.ntmps13
  go_wp2_with (first | (go_at_call 28; refine (usable_yes a s r _ b (h.below (B := w.heap.size) (by go_grown) hl)).mono ?_; rintro e w' ⟨rfl, rfl⟩) | (go_at_call 29; refine (check_early a s r t _ b (h.below (B := w.heap.size) (by go_grown) hl) h0 h1 h2).mono ?_; rintro e w' ⟨rfl, hb1⟩))
  go_ret2
  exact ⟨rfl, by have := hb1.size; simp at this; refine Below.trans (Below.alloc (Below.alloc (Below.refl _ _) (Nat.le_refl _) _) (by simp) _) (hb1.mono (by simp; omega))⟩

theorem two_below {w w' : World} {X Y : Obj} (hb1 : Below ((w.alloc X).alloc Y).heap.size ((w.alloc X).alloc Y) w') : Below w.heap.size w w' :=
  Below.trans (Below.alloc (Below.alloc (Below.refl _ _) (Nat.le_refl _) _) (by simp) _) (hb1.mono (by simp; omega))

theorem two_cells {w w' : World} {x y : Value} {T U : TypeId} (hb1 : Below ((w.alloc (.cells #[x] T)).alloc (.cells #[y] U)).heap.size ((w.alloc (.cells #[x] T)).alloc (.cells #[y] U)) w') :
    w'.cell? ⟨w.heap.size, 0, none⟩ = some x ∧ w'.cell? ⟨w.heap.size + 1, 0, none⟩ = some y :=
  ⟨(hb1.cell (p := ⟨w.heap.size, 0, none⟩) (by simp; omega)).trans (by go_simp), (hb1.cell (p := ⟨w.heap.size + 1, 0, none⟩) (by simp)).trans (by go_simp)⟩

theorem ex_now (a s r k t : Int) (w : World) (b : Nat) (h : Clk w b a s r) (hk : 0 ≤ k) (h0 : a ≤ t) (h2 : t ≤ 1099511627776) (ho : Ovr a s r k t) :
    Calls Try.prog 13 #[.pointer (some ⟨b, 0, none⟩), .int .i64 t, .int .i64 k] w fun e w' => e = .returned (.tuple #[.int .i64 t, .int .i64 0]) ∧ Below w.heap.size w w' := by
  have hl := h.lt
  have ha := h.a0
  have H := Lib.hid ho; clear ho
  go_enter Try.func13, Try.ntmps13
  go_wp2_with (first | (go_at_call 28; refine (usable_yes a s r _ b (h.below (B := w.heap.size) (by go_grown) hl)).mono ?_; rintro e w' ⟨rfl, rfl⟩) | (go_at_call 29; refine (check_ok a s r t _ b (h.below (B := w.heap.size) (by go_grown) hl) (by omega) h0 h2).mono ?_; rintro e w' ⟨rfl, hb1⟩; have hbw := Lib.hid (two_below hb1); obtain ⟨hp, hq⟩ := two_cells hb1; clear hb1) | (go_at_call 30; refine (exceeds_yes a s r k _ _ b _ _ (h.below hbw.out hl) hp hq h0 h2 H.out).mono ?_; rintro e w' ⟨rfl, rfl⟩))
  go_ret2
  exact ⟨rfl, hbw.out⟩

theorem ex_none (a s r k t : Int) (w : World) (b : Nat) (h : Clk w b a s r) (hk : 0 ≤ k) (h0 : a ≤ t) (h2 : t ≤ 1099511627776) (ho : ¬ Ovr a s r k t) (hm : ¬ Ovr a s r k 1099511627776) :
    Calls Try.prog 13 #[.pointer (some ⟨b, 0, none⟩), .int .i64 t, .int .i64 k] w fun e w' => e = .returned (.tuple #[.int .i64 0, .int .i64 9]) ∧ Below w.heap.size w w' := by
  have hl := h.lt
  have ha := h.a0
  have ha1 := h.a1
  have H := Lib.hid ho; clear ho
  have M := Lib.hid hm; clear hm
  go_enter Try.func13, Try.ntmps13
  go_wp2_with (first | (go_at_call 28; refine (usable_yes a s r _ b (h.below (B := w.heap.size) (by go_grown) hl)).mono ?_; rintro e w' ⟨rfl, rfl⟩) | (go_at_call 29; refine (check_ok a s r t _ b (h.below (B := w.heap.size) (by go_grown) hl) (by omega) h0 h2).mono ?_; rintro e w' ⟨rfl, hb1⟩; have hbw := Lib.hid (two_below hb1); obtain ⟨hp, hq⟩ := two_cells hb1; clear hb1) | (go_at_call_of 30 (Value.int IntKind.i64 t); refine (exceeds_no a s r k _ _ b _ _ (h.below hbw.out hl) hp hq h0 h2 H.out).mono ?_; rintro e w' ⟨rfl, rfl⟩) | (go_at_call 30; refine (exceeds_no a s r k _ _ b _ _ (h.below hbw.out hl) hp hq ha1 (by omega) M.out).mono ?_; rintro e w' ⟨rfl, rfl⟩))
  go_ret2
  exact ⟨rfl, hbw.out⟩

def FirstEx (a s r k lo : Int) (w : World) (e : Ending) (w' : World) : Prop := ∃ v : Int, e = .returned (.tuple #[.int .i64 v, .int .i64 0]) ∧ Below w.heap.size w w' ∧ lo < v ∧ v ≤ 1099511627776 ∧ Ovr a s r k v ∧ ¬ Ovr a s r k (v - 1)

theorem ex_first (a s r k t : Int) (w : World) (b : Nat) (h : Clk w b a s r) (hk : 0 ≤ k) (h0 : a ≤ t) (h2 : t ≤ 1099511627776) (ho : ¬ Ovr a s r k t) (hm : Ovr a s r k 1099511627776) :
    Calls Try.prog 13 #[.pointer (some ⟨b, 0, none⟩), .int .i64 t, .int .i64 k] w (FirstEx a s r k t w) := by
  have hl := h.lt
  have ha := h.a0
  have ha1 := h.a1
  have H := Lib.hid ho; clear ho
  have M := Lib.hid hm; clear hm
  go_enter Try.func13, Try.ntmps13
  go_wp2_with (first | (go_at_call 28; refine (usable_yes a s r _ b (h.below (B := w.heap.size) (by go_grown) hl)).mono ?_; rintro e w' ⟨rfl, rfl⟩) | (go_at_call 29; refine (check_ok a s r t _ b (h.below (B := w.heap.size) (by go_grown) hl) (by omega) h0 h2).mono ?_; rintro e w' ⟨rfl, hb1⟩; have hbw := Lib.hid (two_below hb1); obtain ⟨hp, hq⟩ := two_cells hb1; clear hb1) | (go_at_call_of 30 (Value.int IntKind.i64 t); refine (exceeds_no a s r k _ _ b _ _ (h.below hbw.out hl) hp hq h0 h2 H.out).mono ?_; rintro e w' ⟨rfl, rfl⟩) | (go_at_call 30; refine (exceeds_yes a s r k _ _ b _ _ (h.below hbw.out hl) hp hq ha1 (by omega) M.out).mono ?_; rintro e w' ⟨rfl, rfl⟩) | (go_at_call 32; refine (first_any a s r k t _ b _ _ (h.below hbw.out hl) hp hq h0 H.out M.out h2).mono ?_; rintro e w' ⟨v, rfl, rfl, v1, v2, v3, v4⟩; have v3 := Lib.hid v3; have v4 := Lib.hid v4))
  go_ret2
  exact ⟨v, rfl, hbw.out, v1, v2, v3.out, v4.out⟩

end Go.Proofs.Ytjpnfpmgbeigbaa
