/- Walks of layer 47 (drift), the eleventh part: the calls of DriftPlays that change nothing, and Copy. -/
import Derived.Test.YtjpnfpmgbeigbaaPlays3
import Derived.BigRegion
import Derived.Deep.RegionHeld3
import Derived.StillTailTactics
namespace Go.Proofs.Ytjpnfpmgbeigbaa
open Go.ChangeShapes Go.WideShapes Go.ChangeAt Go.RowKit Drift
set_option linter.unusedVariables false

set_option maxHeartbeats 8000000 in
theorem do_other (a s r q t y : Int) (q0 : (q == 0) = false) (q1 : (q == 1) = false) (q2 : (q == 2) = false) (w : World) (b : Nat) (h : Clk w b a s r) :
    Calls Try.prog 12 #[.pointer (some ⟨b, 0, none⟩), .agg #[.int .i64 a, .int .i64 s, .int .i64 r], .agg #[.int .i64 q, .int .i64 t, .int .i64 y]] w (DoPost w b) := by
  have hl := h.lt
  go_enter Try.func12, Try.ntmps12
  go_wp2_with fail
  have F0 := four_made w a s r q t y
  have G0 : Chg b w _ := chg_four w (.cells #[.int .i64 a, .int .i64 s, .int .i64 r] 29) (.cells #[.int .i64 q, .int .i64 t, .int .i64 y] 36) (.cells #[.int .i64 0, .int .i64 0, .int .i64 0] 29) (.cells #[.int .i64 a, .int .i64 s, .int .i64 r] 29)
  have N0 : w.heap.size ≠ b ∧ w.heap.size + 1 ≠ b ∧ w.heap.size + 1 + 1 ≠ b ∧ w.heap.size + 1 + 1 + 1 ≠ b := by omega
  have hC0 := h.same (w' := (((w.alloc (.cells #[.int .i64 a, .int .i64 s, .int .i64 r] 29)).alloc (.cells #[.int .i64 q, .int .i64 t, .int .i64 y] 36)).alloc (.cells #[.int .i64 0, .int .i64 0, .int .i64 0] 29)).alloc (.cells #[.int .i64 a, .int .i64 s, .int .i64 r] 29)) ((Below.refl w.heap.size w |>.alloc (Nat.le_refl _) _ |>.alloc (by simp) _ |>.alloc (by simp; omega) _ |>.alloc (by simp; omega) _).block b hl)
  generalize (((w.alloc (.cells #[.int .i64 a, .int .i64 s, .int .i64 r] 29)).alloc (.cells #[.int .i64 q, .int .i64 t, .int .i64 y] 36)).alloc (.cells #[.int .i64 0, .int .i64 0, .int .i64 0] 29)).alloc (.cells #[.int .i64 a, .int .i64 s, .int .i64 r] 29) = w3 at *
  have M0 : w.heap.size ≠ w.heap.size + 1 + 1 + 1 ∧ w.heap.size + 1 ≠ w.heap.size + 1 + 1 + 1 ∧ w.heap.size + 1 + 1 ≠ w.heap.size + 1 + 1 + 1 ∧ w.heap.size + 1 ≠ w.heap.size + 1 + 1 := by omega
  have E0 : w.heap.size ≤ w.heap.size + 1 + 1 ∧ w.heap.size ≤ w.heap.size + 1 + 1 + 1 := by omega
  generalize hS : w.heap.size + 1 + 1 + 1 = S at *
  generalize hR : w.heap.size + 1 + 1 = R at *
  generalize hQ : w.heap.size + 1 = Q at *
  have D1 := Lib.hid hS; have D2 := Lib.hid hR; have D3 := Lib.hid hQ
  clear hS hR hQ
  obtain ⟨p0, p1, p2, x0, x1, x2, z0, z1, z2, u0, u1, u2, fz, fu, lp, lq, lr, ls⟩ := id F0
  have hls := F0.ls; have hlr := F0.lr
  clear p0 p1 p2 F0
  obtain ⟨n0, n1, n2, n3⟩ := N0
  have HC := Lib.hid hC0
  have HK := Lib.hid (keepR (w := w3) (S := S) (R := R) hls hlr u0 u1 u2 z0 z1 z2 fz)
  go_region_with (go_at_call 11; refine (agrees_any a s r t _ b ?_).mono ?_; exact HC.out.same rfl; rintro e w' ⟨rfl, hb⟩; obtain ⟨v0, v1, v2, y0, y1, y2, yf⟩ := HK.out w' (undrew hb))
  all_goals
    obtain ⟨e0, e1, e2⟩ := store3 (.int .i64 a) (.int .i64 s) (.int .i64 r) y0 y1 y2
    go_wp2
    refine bodyPost_ret (v := .tuple #[.pointer (some ⟨b, 0, none⟩), .agg #[.int .i64 a, .int .i64 s, .int .i64 r], .bool true]) (by simp [results, Try.results12, go_sem, e0, e1, e2]) rfl ?_
    exact do_close n2 E0.1 hC0 G0 hb

theorem do_close2 {w w3 w4 : World} {b d R : Nat} {a' s' r' : Int} (n2 : R ≠ d) (hd : w.heap.size ≤ d) (ge : w.heap.size ≤ R) (hC : Clk w3 d a' s' r') (H3 : Chg b w w3) (hb : Below w3.drew.heap.size w3.drew w4) :
    DoPost w b (.returned (.tuple #[.pointer (some ⟨d, 0, none⟩), .agg #[.int .i64 a', .int .i64 s', .int .i64 r'], .bool true])) (((w4.setCell ⟨R, 0, none⟩ (.int .i64 a')).setCell ⟨R, 1, none⟩ (.int .i64 s')).setCell ⟨R, 2, none⟩ (.int .i64 r')) :=
  ⟨d, a', s', r', rfl, Or.inr hd, (((hC.below (undrew hb) hC.lt).setOther n2 _).setOther n2 _).setOther n2 _, (((H3.trans (Chg.of_below (undrew hb))).setNew ge _).setNew ge _).setNew ge _⟩

set_option maxHeartbeats 8000000 in
theorem do_copy (a s r t y : Int) (w : World) (b : Nat) (h : Clk w b a s r) :
    Calls Try.prog 12 #[.pointer (some ⟨b, 0, none⟩), .agg #[.int .i64 a, .int .i64 s, .int .i64 r], .agg #[.int .i64 2, .int .i64 t, .int .i64 y]] w (DoPost w b) := by
  obtain ⟨c, a1, s1, r1, HS, _⟩ := step_pair a s r a 1 h.a0 h.a1 h.s0 h.s1 h.r0 h.r1
  have HS := Lib.hid HS
  have hl := h.lt
  go_enter Try.func12, Try.ntmps12
  go_wp2_with fail
  have F0 := four_made w a s r 2 t y
  have G0 : Chg b w _ := chg_four w (.cells #[.int .i64 a, .int .i64 s, .int .i64 r] 29) (.cells #[.int .i64 2, .int .i64 t, .int .i64 y] 36) (.cells #[.int .i64 0, .int .i64 0, .int .i64 0] 29) (.cells #[.int .i64 a, .int .i64 s, .int .i64 r] 29)
  have N0 : w.heap.size ≠ b ∧ w.heap.size + 1 ≠ b ∧ w.heap.size + 1 + 1 ≠ b ∧ w.heap.size + 1 + 1 + 1 ≠ b := by omega
  have hC0 := h.same (w' := (((w.alloc (.cells #[.int .i64 a, .int .i64 s, .int .i64 r] 29)).alloc (.cells #[.int .i64 2, .int .i64 t, .int .i64 y] 36)).alloc (.cells #[.int .i64 0, .int .i64 0, .int .i64 0] 29)).alloc (.cells #[.int .i64 a, .int .i64 s, .int .i64 r] 29)) ((Below.refl w.heap.size w |>.alloc (Nat.le_refl _) _ |>.alloc (by simp) _ |>.alloc (by simp; omega) _ |>.alloc (by simp; omega) _).block b hl)
  generalize (((w.alloc (.cells #[.int .i64 a, .int .i64 s, .int .i64 r] 29)).alloc (.cells #[.int .i64 2, .int .i64 t, .int .i64 y] 36)).alloc (.cells #[.int .i64 0, .int .i64 0, .int .i64 0] 29)).alloc (.cells #[.int .i64 a, .int .i64 s, .int .i64 r] 29) = w0 at *
  have M0 : w.heap.size ≠ w.heap.size + 1 + 1 + 1 ∧ w.heap.size + 1 ≠ w.heap.size + 1 + 1 + 1 ∧ w.heap.size + 1 + 1 ≠ w.heap.size + 1 + 1 + 1 ∧ w.heap.size + 1 ≠ w.heap.size + 1 + 1 := by omega
  have E0 : w.heap.size ≤ w.heap.size + 1 + 1 ∧ w.heap.size ≤ w.heap.size + 1 + 1 + 1 := by omega
  generalize hS : w.heap.size + 1 + 1 + 1 = S at *
  generalize hR : w.heap.size + 1 + 1 = R at *
  generalize hQ : w.heap.size + 1 = Q at *
  have D1 := Lib.hid hS; have D2 := Lib.hid hR; have D3 := Lib.hid hQ
  clear hS hR hQ
  refine (copy_yes a s r _ b hC0).mono ?_
  rintro e w1 ⟨d, rfl, hd, hD1, B1⟩
  have F1 := F0.chg (Chg.of_below (b := b) B1) N0
  have H1 := G0.trans (Chg.of_below B1)
  have hC1 := hC0.below B1 hC0.lt
  have hdb : d ≠ b := by have := hC0.lt; omega
  have hRd : R ≠ d := by have := F0.lr; omega
  have hwd : w.heap.size ≤ d := by have := G0.size; omega
  clear F0 G0 B1 hC0
  obtain ⟨p0, p1, p2, x0, x1, x2, z0, z1, z2, u0, u1, u2, fz, fu, lp, lq, lr, ls⟩ := id F1
  go_wp2_with fail
  refine (HS.out _ b hC1).mono ?_
  clear p0 p1 p2 x0 x1 x2 z0 z1 z2 u0 u1 u2 fz fu lp lq lr ls
  rintro e w2 ⟨rfl, hC2, G2⟩
  have hD2 := Chg.clk hD1 G2 hdb
  have F2 := F1.chg G2 N0
  have H2 := H1.trans G2
  clear F1 H1 G2 hC1 hD1
  obtain ⟨c', a2, s2, r2, HT, _⟩ := rate_pair a1 s1 r1 a 7 hC2.a0 hC2.a1 hC2.s0 hC2.s1 hC2.r0 hC2.r1
  have HT := Lib.hid HT
  obtain ⟨p0, p1, p2, x0, x1, x2, z0, z1, z2, u0, u1, u2, fz, fu, lp, lq, lr, ls⟩ := id F2
  go_wp2_with fail
  refine (HT.out _ b hC2).mono ?_
  clear p0 p1 p2 x0 x1 x2 z0 z1 z2 u0 u1 u2 fz fu lp lq lr ls
  rintro e w3 ⟨rfl, hC3, G3⟩
  have hD3 := Chg.clk hD2 G3 hdb
  have F3 := F2.chg G3 N0
  have H3 := H2.trans G3
  clear F2 H2 G3 hC2 hC3 hD2
  obtain ⟨u0, u1, u2, x0, x1, x2, z0, z1, z2, _, _, _, fz, fu, lp, lq, lr, ls⟩ := id F3
  have hls := F3.lp; have hlr := F3.lr
  clear F3
  go_wp2_with fail
  have HC := Lib.hid hD3
  have HK := Lib.hid (keepR (w := w3) (S := w.heap.size) (R := R) hls hlr u0 u1 u2 z0 z1 z2 fz)
  go_region_with (go_at_call 11; refine (agrees_any a s r t _ d ?_).mono ?_; exact HC.out.same rfl; rintro e w' ⟨rfl, hb⟩; obtain ⟨v0, v1, v2, y0, y1, y2, yf⟩ := HK.out w' (undrew hb))
  all_goals
    obtain ⟨e0, e1, e2⟩ := store3 (.int .i64 a) (.int .i64 s) (.int .i64 r) y0 y1 y2
    go_wp2
    refine bodyPost_ret (v := .tuple #[.pointer (some ⟨d, 0, none⟩), .agg #[.int .i64 a, .int .i64 s, .int .i64 r], .bool true]) (by simp [results, Try.results12, go_sem, e0, e1, e2]) rfl ?_
    exact do_close2 hRd hwd E0.1 hD3 H3 hb

end Go.Proofs.Ytjpnfpmgbeigbaa
