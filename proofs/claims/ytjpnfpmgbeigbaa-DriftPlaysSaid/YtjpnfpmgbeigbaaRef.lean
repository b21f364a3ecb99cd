/- Walks of the reference of layer 47 (drift). -/
import Derived.Test.YtjpnfpmgbeigbaaKnown2
namespace Go.Proofs.Ytjpnfpmgbeigbaa
open Go.ChangeShapes Go.WideShapes Go.ChangeAt Go.RowKit Drift
set_option linter.unusedVariables false

theorem rtime_yes (t : Int) (w : World) (h0 : 0 ≤ t) (h1 : t ≤ 1099511627776) : Calls Try.prog 25 #[.int .i64 t] w fun e w' => e = .returned (.bool true) ∧ w = w' := by
  go_enter Try.func25, Try.ntmps25
  go_wp2
  go_ret
  exact ⟨rfl, rfl⟩

theorem rtime_no (t : Int) (w : World) (h : ¬ (0 ≤ t ∧ t ≤ 1099511627776)) : Calls Try.prog 25 #[.int .i64 t] w fun e w' => e = .returned (.bool false) ∧ w = w' := by
  by_cases h0 : t < 0
  · clear h
    go_enter Try.func25, Try.ntmps25
    go_wp2
    go_ret
    exact ⟨rfl, rfl⟩
  · have h1 : 1099511627776 < t := by omega
    have h2 : 0 ≤ t := by omega
    clear h h0
    go_enter Try.func25, Try.ntmps25
    go_wp2
    go_ret
    exact ⟨by show Ending.returned (.bool (decide (t ≤ 1099511627776))) = _; rw [decide_eq_false (by omega)], rfl⟩

theorem rnew_yes (x y r : Int) (w : World) (h0 : 0 ≤ x) (h1 : x ≤ 1099511627776) (h2 : 0 ≤ y) (h3 : y ≤ 1099511627776) (h4 : -100000 ≤ r) (h5 : r ≤ 100000) :
    Calls Try.prog 10 #[.int .i64 x, .int .i64 y, .int .i64 r] w fun e w' => e = .returned (.tuple #[.agg #[.int .i64 x, .int .i64 y, .int .i64 r], .int .i64 0]) ∧ Below w.heap.size w w' := by
  go_enter Try.func10, Try.ntmps10
  go_wp2_with (first | (go_at_call_of 25 (Value.int IntKind.i64 x); refine (rtime_yes x _ h0 h1).mono ?_; rintro e w' ⟨rfl, rfl⟩) | (go_at_call 25; refine (rtime_yes y _ h2 h3).mono ?_; rintro e w' ⟨rfl, rfl⟩))
  go_returns
  exact ⟨rfl, by go_grown⟩

theorem rnew_no (x y r : Int) (w : World) (h : ¬ (0 ≤ x ∧ x ≤ 1099511627776 ∧ 0 ≤ y ∧ y ≤ 1099511627776 ∧ -100000 ≤ r ∧ r ≤ 100000)) :
    Calls Try.prog 10 #[.int .i64 x, .int .i64 y, .int .i64 r] w fun e w' => e = .returned (.tuple #[.agg #[.int .i64 0, .int .i64 0, .int .i64 0], .int .i64 2]) ∧ Below w.heap.size w w' := by
  by_cases hx : 0 ≤ x ∧ x ≤ 1099511627776
  · obtain ⟨h0, h1⟩ := hx
    by_cases hy : 0 ≤ y ∧ y ≤ 1099511627776
    · obtain ⟨h2, h3⟩ := hy
      by_cases hr : r < -100000
      · clear h
        go_enter Try.func10, Try.ntmps10
        go_wp2_with (first | (go_at_call_of 25 (Value.int IntKind.i64 x); refine (rtime_yes x _ h0 h1).mono ?_; rintro e w' ⟨rfl, rfl⟩) | (go_at_call 25; refine (rtime_yes y _ h2 h3).mono ?_; rintro e w' ⟨rfl, rfl⟩))
        go_returns
        exact ⟨rfl, by go_grown⟩
      · have hr2 : 100000 < r := by omega
        clear h hr
        go_enter Try.func10, Try.ntmps10
        go_wp2_with (first | (go_at_call_of 25 (Value.int IntKind.i64 x); refine (rtime_yes x _ h0 h1).mono ?_; rintro e w' ⟨rfl, rfl⟩) | (go_at_call 25; refine (rtime_yes y _ h2 h3).mono ?_; rintro e w' ⟨rfl, rfl⟩))
        go_returns
        exact ⟨rfl, by go_grown⟩
    · clear h
      have H := Lib.hid hy; clear hy
      go_enter Try.func10, Try.ntmps10
      go_wp2_with (first | (go_at_call_of 25 (Value.int IntKind.i64 x); refine (rtime_yes x _ h0 h1).mono ?_; rintro e w' ⟨rfl, rfl⟩) | (go_at_call 25; refine (rtime_no y _ H.out).mono ?_; rintro e w' ⟨rfl, rfl⟩))
      go_returns
      exact ⟨rfl, by go_grown⟩
  · clear h
    have H := Lib.hid hx; clear hx
    go_enter Try.func10, Try.ntmps10
    go_wp2_with (go_at_call 25; refine (rtime_no x _ H.out).mono ?_; rintro e w' ⟨rfl, rfl⟩)
    go_returns
    exact ⟨rfl, by go_grown⟩

theorem rvalue_any (a s r t : Int) (w : World) (h1 : a ≤ t) (h2 : t ≤ 1099511627776) (h0 : 0 ≤ a) (hs0 : 0 ≤ s) (hs1 : s ≤ 1099511627776) (h3 : -100000 ≤ r) (h4 : r ≤ 100000) :
    Calls Try.prog 34 #[.agg #[.int .i64 a, .int .i64 s, .int .i64 r], .int .i64 t] w fun e w' => e = .returned (.int .i64 (shw a s r t)) ∧ Below w.heap.size w w' := by
  obtain ⟨g0, g1⟩ := prod_bd h3 h4 (p := t - a) (by omega) (by omega)
  have hcomm : shw a s r t = s + (t - a) + ((t - a) * r) / 1000000 := by unfold shw; rw [Int.mul_comm r]
  rw [Int.mul_comm] at g0 g1
  rw [hcomm]; clear hcomm
  by_cases hg : 0 ≤ (t - a) * r
  · go_enter Try.func34, Try.ntmps34
    go_wp2
    go_rounds 3
    all_goals go_ret
    all_goals exact ⟨ret_int (by omega), by go_grown⟩
  · have hg' : (t - a) * r < 0 := by omega
    clear hg
    have e1 := tdiv_neg hg'
    go_enter Try.func34, Try.ntmps34
    go_wp2
    go_rounds 4
    all_goals go_ret
    all_goals exact ⟨ret_int (by omega), by go_grown⟩

theorem box3 {w w' : World} {x y z : Value} {T : TypeId} (hb : Below (w.alloc (.cells #[x, y, z] T)).heap.size (w.alloc (.cells #[x, y, z] T)) w') :
    w'.cell? ⟨w.heap.size, 0, none⟩ = some x ∧ w'.cell? ⟨w.heap.size, 1, none⟩ = some y ∧ w'.cell? ⟨w.heap.size, 2, none⟩ = some z ∧ w.heap.size < w'.heap.size ∧ Below w.heap.size w w' :=
  ⟨(hb.cell (p := ⟨w.heap.size, 0, none⟩) (by simp)).trans (by go_simp), (hb.cell (p := ⟨w.heap.size, 1, none⟩) (by simp)).trans (by go_simp), (hb.cell (p := ⟨w.heap.size, 2, none⟩) (by simp)).trans (by go_simp), by have := hb.size; simp at this; omega, ((Below.refl _ _).alloc (Nat.le_refl _) _).trans (hb.mono (by simp))⟩

theorem keep3 {w w' : World} {b : Nat} {x y z : Value} (hb : Below w.heap.size w w') (hl : b < w.heap.size) (h0 : w.cell? ⟨b, 0, none⟩ = some x) (h1 : w.cell? ⟨b, 1, none⟩ = some y) (h2 : w.cell? ⟨b, 2, none⟩ = some z) :
    w'.cell? ⟨b, 0, none⟩ = some x ∧ w'.cell? ⟨b, 1, none⟩ = some y ∧ w'.cell? ⟨b, 2, none⟩ = some z ∧ b < w'.heap.size :=
  ⟨(hb.cell (p := ⟨b, 0, none⟩) hl).trans h0, (hb.cell (p := ⟨b, 1, none⟩) hl).trans h1, (hb.cell (p := ⟨b, 2, none⟩) hl).trans h2, Nat.lt_of_lt_of_le hl hb.size⟩

theorem rshow_any (a s r t : Int) (w : World) (h0 : 0 ≤ a) (ha1 : a ≤ 1099511627776) (hs0 : 0 ≤ s) (hs1 : s ≤ 1099511627776) (h3 : -100000 ≤ r) (h4 : r ≤ 100000) :
    Calls Try.prog 16 #[.agg #[.int .i64 a, .int .i64 s, .int .i64 r], .int .i64 t] w fun e w' => e = .returned (.tuple #[.int .i64 (shV a s r t), .int .i64 (shE a s r t)]) ∧ Below w.heap.size w w' := by
  by_cases h1 : 0 ≤ t ∧ t ≤ 1099511627776
  · obtain ⟨h5, h2⟩ := h1
    by_cases hta : t < a
    · have ev : shV a s r t = 0 := by unfold shV; rw [if_neg (by omega), if_pos hta]
      have ee : shE a s r t = 8 := by unfold shE; rw [if_neg (by omega), if_pos hta]
      rw [ev, ee]; clear ev ee
      go_enter Try.func16, Try.ntmps16
      go_wp2_with (go_at_call 25; refine (rtime_yes t _ h5 h2).mono ?_; rintro e w' ⟨rfl, rfl⟩)
      go_ret2
      exact ⟨rfl, by go_grown⟩
    · have hta' : a ≤ t := by omega
      have HV := fun w => rvalue_any a s r t w hta' h2 h0 hs0 hs1 h3 h4
      by_cases hv : 0 ≤ shw a s r t ∧ shw a s r t ≤ 1099511627776
      · have ev : shV a s r t = shw a s r t := by unfold shV; rw [if_neg (by omega), if_neg hta, if_neg (by omega)]
        have ee : shE a s r t = 0 := by unfold shE; rw [if_neg (by omega), if_neg hta, if_neg (by omega)]
        rw [ev, ee]; clear ev ee
        obtain ⟨v0, v1⟩ := hv
        generalize shw a s r t = x at *
        have HV2 := Lib.hid HV; clear HV
        go_enter Try.func16, Try.ntmps16
        go_wp2_with (go_at_call 25; refine (rtime_yes t _ h5 h2).mono ?_; rintro e w' ⟨rfl, rfl⟩)
        refine (HV2.out _).mono ?_
        rintro e w2 ⟨rfl, hb⟩
        obtain ⟨q0, q1, q2, hz, hbb⟩ := box3 hb
        clear hb
        go_wp2_with (go_at_call 25; refine (rtime_yes x _ v0 v1).mono ?_; rintro e w' ⟨rfl, rfl⟩)
        refine (HV2.out _).mono ?_
        rintro e w3 ⟨rfl, hb⟩
        go_wp2
        go_ret2
        exact ⟨rfl, hbb.trans (hb.mono hbb.size)⟩
      · have ev : shV a s r t = 0 := by unfold shV; rw [if_neg (by omega), if_neg hta, if_pos hv]
        have ee : shE a s r t = 3 := by unfold shE; rw [if_neg (by omega), if_neg hta, if_pos hv]
        rw [ev, ee]; clear ev ee
        have H := Lib.hid hv; clear hv
        have HV2 := Lib.hid HV; clear HV
        go_enter Try.func16, Try.ntmps16
        go_wp2_with (go_at_call 25; refine (rtime_yes t _ h5 h2).mono ?_; rintro e w' ⟨rfl, rfl⟩)
        refine (HV2.out _).mono ?_
        rintro e w2 ⟨rfl, hb⟩
        obtain ⟨q0, q1, q2, hz, hbb⟩ := box3 hb
        clear hb
        go_wp2_with (go_at_call 25; refine (rtime_no _ _ H.out).mono ?_; rintro e w' ⟨rfl, rfl⟩)
        go_ret2
        exact ⟨rfl, hbb⟩
  · have ev : shV a s r t = 0 := by unfold shV; rw [if_pos h1]
    have ee : shE a s r t = 3 := by unfold shE; rw [if_pos h1]
    rw [ev, ee]; clear ev ee
    have H := Lib.hid h1; clear h1
    go_enter Try.func16, Try.ntmps16
    go_wp2_with (go_at_call 25; refine (rtime_no _ _ H.out).mono ?_; rintro e w' ⟨rfl, rfl⟩)
    go_ret2
    exact ⟨rfl, by go_grown⟩

/-- over, as two contracts -/
theorem rover_yes (a s r k t : Int) (w : World) (h0 : 0 ≤ a) (hs0 : 0 ≤ s) (hs1 : s ≤ 1099511627776) (h3 : -100000 ≤ r) (h4 : r ≤ 100000) (h1 : a ≤ t) (h2 : t ≤ 1099511627776) (ho : Ovr a s r k t) :
    Calls Try.prog 33 #[.agg #[.int .i64 a, .int .i64 s, .int .i64 r], .int .i64 t, .int .i64 k] w fun e w' => e = .returned (.bool true) ∧ Below w.heap.size w w' := by
  obtain ⟨g0, g1⟩ := shw_bd h3 h4 h0 h1 h2 hs0 hs1
  have HV := fun w => rvalue_any a s r t w h1 h2 h0 hs0 hs1 h3 h4
  unfold Ovr at ho
  generalize shw a s r t = x at *
  have HV2 := Lib.hid HV; clear HV
  by_cases hk : k < x - t
  · clear ho
    go_enter Try.func33, Try.ntmps33
    go_wp2_with (go_at_call 34; refine (HV2.out _).mono ?_; rintro e w' ⟨rfl, hb⟩)
    go_ret
    exact ⟨rfl, by have := hb.size; first | exact hb | (simp at this; exact ((Below.refl _ _).alloc (Nat.le_refl _) _).trans (hb.mono (by simp)))⟩
  · have hk2 : k < -(x - t) := by omega
    have hk3 : x - t ≤ k := by omega
    clear ho hk
    go_enter Try.func33, Try.ntmps33
    go_wp2_with (go_at_call 34; refine (HV2.out _).mono ?_; rintro e w' ⟨rfl, hb⟩)
    go_ret
    exact ⟨rfl, by have := hb.size; first | exact hb | (simp at this; exact ((Below.refl _ _).alloc (Nat.le_refl _) _).trans (hb.mono (by simp)))⟩

theorem rover_no (a s r k t : Int) (w : World) (h0 : 0 ≤ a) (hs0 : 0 ≤ s) (hs1 : s ≤ 1099511627776) (h3 : -100000 ≤ r) (h4 : r ≤ 100000) (h1 : a ≤ t) (h2 : t ≤ 1099511627776) (ho : ¬ Ovr a s r k t) :
    Calls Try.prog 33 #[.agg #[.int .i64 a, .int .i64 s, .int .i64 r], .int .i64 t, .int .i64 k] w fun e w' => e = .returned (.bool false) ∧ Below w.heap.size w w' := by
  obtain ⟨g0, g1⟩ := shw_bd h3 h4 h0 h1 h2 hs0 hs1
  have HV := fun w => rvalue_any a s r t w h1 h2 h0 hs0 hs1 h3 h4
  unfold Ovr at ho
  generalize shw a s r t = x at *
  have HV2 := Lib.hid HV; clear HV
  have hk2 : -(x - t) ≤ k := by omega
  have hk3 : x - t ≤ k := by omega
  clear ho
  go_enter Try.func33, Try.ntmps33
  go_wp2_with (go_at_call 34; refine (HV2.out _).mono ?_; rintro e w' ⟨rfl, hb⟩)
  go_ret
  refine ⟨?_, by have := hb.size; first | exact hb | (simp at this; exact ((Below.refl _ _).alloc (Nat.le_refl _) _).trans (hb.mono (by simp)))⟩
  show Ending.returned (.bool (decide (k < x - t) || decide (k < -(x - t)))) = _
  rw [decide_eq_false (by omega), decide_eq_false (by omega)]; rfl

end Go.Proofs.Ytjpnfpmgbeigbaa
