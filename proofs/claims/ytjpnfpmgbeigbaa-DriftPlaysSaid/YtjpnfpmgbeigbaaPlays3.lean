/- Walks of layer 47 (drift), the ninth part: one call of DriftPlays. -/
import Derived.Test.YtjpnfpmgbeigbaaPlays2
import Derived.BigRegion
import Derived.Deep.RegionHeld3
import Derived.StillTailTactics
namespace Go.Proofs.Ytjpnfpmgbeigbaa
open Go.ChangeShapes Go.WideShapes Go.ChangeAt Go.RowKit Drift
set_option linter.unusedVariables false

/-- what a call of DriftPlays gives -/
def DoPost (w : World) (b : Nat) (e : Ending) (w' : World) : Prop := ∃ (d : Nat) (a s r : Int), e = .returned (.tuple #[.pointer (some ⟨d, 0, none⟩), .agg #[.int .i64 a, .int .i64 s, .int .i64 r], .bool true]) ∧ (d = b ∨ w.heap.size ≤ d) ∧ Clk w' d a s r ∧ Chg b w w'

/-- the boxes of a call of do -/
structure Four (w : World) (P Q R S : Nat) (a s r q t y : Int) : Prop where
  p0 : w.cell? ⟨P, 0, none⟩ = some (.int .i64 a)
  p1 : w.cell? ⟨P, 1, none⟩ = some (.int .i64 s)
  p2 : w.cell? ⟨P, 2, none⟩ = some (.int .i64 r)
  x0 : w.cell? ⟨Q, 0, none⟩ = some (.int .i64 q)
  x1 : w.cell? ⟨Q, 1, none⟩ = some (.int .i64 t)
  x2 : w.cell? ⟨Q, 2, none⟩ = some (.int .i64 y)
  z0 : w.cell? ⟨R, 0, none⟩ = some (.int .i64 0)
  z1 : w.cell? ⟨R, 1, none⟩ = some (.int .i64 0)
  z2 : w.cell? ⟨R, 2, none⟩ = some (.int .i64 0)
  u0 : w.cell? ⟨S, 0, none⟩ = some (.int .i64 a)
  u1 : w.cell? ⟨S, 1, none⟩ = some (.int .i64 s)
  u2 : w.cell? ⟨S, 2, none⟩ = some (.int .i64 r)
  fz : ∀ o, w.frozen? ⟨R, o, none⟩ = false
  fu : ∀ o, w.frozen? ⟨S, o, none⟩ = false
  lp : P < w.heap.size
  lq : Q < w.heap.size
  lr : R < w.heap.size
  ls : S < w.heap.size

theorem same_cell {w w' : World} {k : Nat} (h : w'.heap[k]? = w.heap[k]?) (o : Nat) : w'.cell? ⟨k, o, none⟩ = w.cell? ⟨k, o, none⟩ := World.cell?_of_block (w := w) (a := ⟨k, o, none⟩) h
theorem same_fz {w w' : World} {k : Nat} (h : w'.heap[k]? = w.heap[k]?) (o : Nat) : w'.frozen? ⟨k, o, none⟩ = w.frozen? ⟨k, o, none⟩ := World.frozen?_of_block (w := w) (a := ⟨k, o, none⟩) h

theorem Four.chg {w w' : World} {b P Q R S : Nat} {a s r q t y : Int} (h : Four w P Q R S a s r q t y) (k : Chg b w w') (n : P ≠ b ∧ Q ≠ b ∧ R ≠ b ∧ S ≠ b) : Four w' P Q R S a s r q t y := by
  obtain ⟨n0, n1, n2, n3⟩ := n
  have e0 := k.block P h.lp n0
  have e1 := k.block Q h.lq n1
  have e2 := k.block R h.lr n2
  have e3 := k.block S h.ls n3
  exact ⟨(same_cell e0 0).trans h.p0, (same_cell e0 1).trans h.p1, (same_cell e0 2).trans h.p2, (same_cell e1 0).trans h.x0, (same_cell e1 1).trans h.x1, (same_cell e1 2).trans h.x2,
    (same_cell e2 0).trans h.z0, (same_cell e2 1).trans h.z1, (same_cell e2 2).trans h.z2, (same_cell e3 0).trans h.u0, (same_cell e3 1).trans h.u1, (same_cell e3 2).trans h.u2,
    fun o => (same_fz e2 o).trans (h.fz o), fun o => (same_fz e3 o).trans (h.fu o), Nat.lt_of_lt_of_le h.lp k.size, Nat.lt_of_lt_of_le h.lq k.size, Nat.lt_of_lt_of_le h.lr k.size, Nat.lt_of_lt_of_le h.ls k.size⟩

theorem four_made (w : World) (a s r q t y : Int) : Four ((((w.alloc (.cells #[.int .i64 a, .int .i64 s, .int .i64 r] 29)).alloc (.cells #[.int .i64 q, .int .i64 t, .int .i64 y] 36)).alloc (.cells #[.int .i64 0, .int .i64 0, .int .i64 0] 29)).alloc (.cells #[.int .i64 a, .int .i64 s, .int .i64 r] 29))
    w.heap.size (w.heap.size + 1) (w.heap.size + 1 + 1) (w.heap.size + 1 + 1 + 1) a s r q t y := by
  refine ⟨?_, ?_, ?_, ?_, ?_, ?_, ?_, ?_, ?_, ?_, ?_, ?_, ?_, ?_, ?_, ?_, ?_, ?_⟩
  all_goals first | (intro o; go_simp; done) | (go_simp; done) | (simp [go_sem]; omega) | (simp [go_sem]; done)

theorem chg_four {b : Nat} (w : World) (X Y Z U : Obj) : Chg b w ((((w.alloc X).alloc Y).alloc Z).alloc U) :=
  Chg.of_below (by go_grown)

theorem Chg.setNew {b k o : Nat} {x y : World} (h : Chg b x y) (hk : x.heap.size ≤ k) (u : Value) : Chg b x (y.setCell ⟨k, o, none⟩ u) :=
  ⟨h.os, h.tape, h.output, by have := h.size; simp [World.setCell]; omega, fun i hi hn => (Below.heap_setCell y ⟨k, o, none⟩ u i (by show i ≠ k; omega)).trans (h.block i hi hn)⟩
theorem Clk.setOther {w : World} {b k o : Nat} {a s r : Int} (h : Clk w b a s r) (hk : k ≠ b) (u : Value) : Clk (w.setCell ⟨k, o, none⟩ u) b a s r :=
  h.same (Below.heap_setCell _ _ _ _ (fun e => hk e.symm))
theorem cell_other {w : World} {j k o p : Nat} (h : j ≠ k) (u : Value) : (w.setCell ⟨k, o, none⟩ u).cell? ⟨j, p, none⟩ = w.cell? ⟨j, p, none⟩ := same_cell (Below.heap_setCell _ _ _ _ h) p
theorem fz_other {w : World} {k o : Nat} {p : Addr} (u : Value) : (w.setCell ⟨k, o, none⟩ u).frozen? p = w.frozen? p := World.frozen?_setCell _ _ _ _

theorem undrew {w w' : World} (h : Below w.drew.heap.size w.drew w') : Below w.heap.size w w' := ⟨h.os, h.tape, h.output, h.size, h.block⟩

theorem keepR {w : World} {S R : Nat} {x y z u v q : Value} (ls : S < w.heap.size) (lr : R < w.heap.size) (h0 : w.cell? ⟨S, 0, none⟩ = some x) (h1 : w.cell? ⟨S, 1, none⟩ = some y) (h2 : w.cell? ⟨S, 2, none⟩ = some z)
    (z0 : w.cell? ⟨R, 0, none⟩ = some u) (z1 : w.cell? ⟨R, 1, none⟩ = some v) (z2 : w.cell? ⟨R, 2, none⟩ = some q) (fz : ∀ o, w.frozen? ⟨R, o, none⟩ = false) (w' : World) (hb : Below w.heap.size w w') :
    w'.cell? ⟨S, 0, none⟩ = some x ∧ w'.cell? ⟨S, 1, none⟩ = some y ∧ w'.cell? ⟨S, 2, none⟩ = some z ∧ w'.cell? ⟨R, 0, none⟩ = some u ∧ w'.cell? ⟨R, 1, none⟩ = some v ∧ w'.cell? ⟨R, 2, none⟩ = some q ∧ ∀ o, w'.frozen? ⟨R, o, none⟩ = false :=
  ⟨(hb.cell (p := ⟨S, 0, none⟩) ls).trans h0, (hb.cell (p := ⟨S, 1, none⟩) ls).trans h1, (hb.cell (p := ⟨S, 2, none⟩) ls).trans h2, (hb.cell (p := ⟨R, 0, none⟩) lr).trans z0, (hb.cell (p := ⟨R, 1, none⟩) lr).trans z1, (hb.cell (p := ⟨R, 2, none⟩) lr).trans z2, fun o => (hb.frozen (p := ⟨R, o, none⟩) lr).trans (fz o)⟩

/-- behind the store of the new reference -/
theorem stores_chg {w w0 : World} {b P Q R S : Nat} {a s r q t y a1 s1 r1 : Int} (F : Four w P Q R S a s r q t y) (n : P ≠ b ∧ Q ≠ b ∧ R ≠ b ∧ S ≠ b) (m : P ≠ S ∧ Q ≠ S ∧ R ≠ S ∧ Q ≠ R) (ge : w0.heap.size ≤ S) (hC : Clk w b a1 s1 r1) (H : Chg b w0 w) (a' s' r' : Int) :
    Clk (((w.setCell ⟨S, 0, none⟩ (.int .i64 a')).setCell ⟨S, 1, none⟩ (.int .i64 s')).setCell ⟨S, 2, none⟩ (.int .i64 r')) b a1 s1 r1 ∧ Chg b w0 (((w.setCell ⟨S, 0, none⟩ (.int .i64 a')).setCell ⟨S, 1, none⟩ (.int .i64 s')).setCell ⟨S, 2, none⟩ (.int .i64 r')) ∧
    (((w.setCell ⟨S, 0, none⟩ (.int .i64 a')).setCell ⟨S, 1, none⟩ (.int .i64 s')).setCell ⟨S, 2, none⟩ (.int .i64 r')).cell? ⟨S, 0, none⟩ = some (.int .i64 a') ∧
    (((w.setCell ⟨S, 0, none⟩ (.int .i64 a')).setCell ⟨S, 1, none⟩ (.int .i64 s')).setCell ⟨S, 2, none⟩ (.int .i64 r')).cell? ⟨S, 1, none⟩ = some (.int .i64 s') ∧
    (((w.setCell ⟨S, 0, none⟩ (.int .i64 a')).setCell ⟨S, 1, none⟩ (.int .i64 s')).setCell ⟨S, 2, none⟩ (.int .i64 r')).cell? ⟨S, 2, none⟩ = some (.int .i64 r') ∧
    (((w.setCell ⟨S, 0, none⟩ (.int .i64 a')).setCell ⟨S, 1, none⟩ (.int .i64 s')).setCell ⟨S, 2, none⟩ (.int .i64 r')).cell? ⟨Q, 1, none⟩ = some (.int .i64 t) ∧
    (((w.setCell ⟨S, 0, none⟩ (.int .i64 a')).setCell ⟨S, 1, none⟩ (.int .i64 s')).setCell ⟨S, 2, none⟩ (.int .i64 r')).cell? ⟨R, 0, none⟩ = some (.int .i64 0) ∧
    (((w.setCell ⟨S, 0, none⟩ (.int .i64 a')).setCell ⟨S, 1, none⟩ (.int .i64 s')).setCell ⟨S, 2, none⟩ (.int .i64 r')).cell? ⟨R, 1, none⟩ = some (.int .i64 0) ∧
    (((w.setCell ⟨S, 0, none⟩ (.int .i64 a')).setCell ⟨S, 1, none⟩ (.int .i64 s')).setCell ⟨S, 2, none⟩ (.int .i64 r')).cell? ⟨R, 2, none⟩ = some (.int .i64 0) ∧
    (∀ o, (((w.setCell ⟨S, 0, none⟩ (.int .i64 a')).setCell ⟨S, 1, none⟩ (.int .i64 s')).setCell ⟨S, 2, none⟩ (.int .i64 r')).frozen? ⟨R, o, none⟩ = false) ∧
    (P < (((w.setCell ⟨S, 0, none⟩ (.int .i64 a')).setCell ⟨S, 1, none⟩ (.int .i64 s')).setCell ⟨S, 2, none⟩ (.int .i64 r')).heap.size ∧ Q < (((w.setCell ⟨S, 0, none⟩ (.int .i64 a')).setCell ⟨S, 1, none⟩ (.int .i64 s')).setCell ⟨S, 2, none⟩ (.int .i64 r')).heap.size ∧ R < (((w.setCell ⟨S, 0, none⟩ (.int .i64 a')).setCell ⟨S, 1, none⟩ (.int .i64 s')).setCell ⟨S, 2, none⟩ (.int .i64 r')).heap.size ∧ S < (((w.setCell ⟨S, 0, none⟩ (.int .i64 a')).setCell ⟨S, 1, none⟩ (.int .i64 s')).setCell ⟨S, 2, none⟩ (.int .i64 r')).heap.size) := by
  obtain ⟨n0, n1, n2, n3⟩ := n
  obtain ⟨m0, m1, m2, m3⟩ := m
  obtain ⟨p0, p1, p2, x0, x1, x2, z0, z1, z2, u0, u1, u2, fz, fu, lp, lq, lr, ls⟩ := F
  refine ⟨((hC.setOther n3 _).setOther n3 _).setOther n3 _, ((H.setNew ge _).setNew ge _).setNew ge _, by go_cell, by go_cell, by go_cell, ?_, ?_, ?_, ?_, fun o => ?_, ?_⟩
  · rw [cell_other m1, cell_other m1, cell_other m1]; exact x1
  · rw [cell_other m2, cell_other m2, cell_other m2]; exact z0
  · rw [cell_other m2, cell_other m2, cell_other m2]; exact z1
  · rw [cell_other m2, cell_other m2, cell_other m2]; exact z2
  · rw [fz_other, fz_other, fz_other]; exact fz o
  · simp [World.setCell]; exact ⟨lp, lq, lr, ls⟩

theorem do_close {w w3 w4 : World} {b R : Nat} {a' s' r' : Int} (n2 : R ≠ b) (ge : w.heap.size ≤ R) (hC : Clk w3 b a' s' r') (H3 : Chg b w w3) (hb : Below w3.drew.heap.size w3.drew w4) :
    DoPost w b (.returned (.tuple #[.pointer (some ⟨b, 0, none⟩), .agg #[.int .i64 a', .int .i64 s', .int .i64 r'], .bool true])) (((w4.setCell ⟨R, 0, none⟩ (.int .i64 a')).setCell ⟨R, 1, none⟩ (.int .i64 s')).setCell ⟨R, 2, none⟩ (.int .i64 r')) :=
  ⟨b, a', s', r', rfl, Or.inl rfl, (((hC.below (undrew hb) hC.lt).setOther n2 _).setOther n2 _).setOther n2 _, (((H3.trans (Chg.of_below (undrew hb))).setNew ge _).setNew ge _).setNew ge _⟩

set_option maxHeartbeats 8000000 in
theorem do_step (a s r t y : Int) (w : World) (b : Nat) (h : Clk w b a s r) :
    Calls Try.prog 12 #[.pointer (some ⟨b, 0, none⟩), .agg #[.int .i64 a, .int .i64 s, .int .i64 r], .agg #[.int .i64 0, .int .i64 t, .int .i64 y]] w (DoPost w b) := by
  obtain ⟨c, a', s', r', HS, HR⟩ := step_pair a s r t y h.a0 h.a1 h.s0 h.s1 h.r0 h.r1
  have HS := Lib.hid HS; have HR := Lib.hid HR
  have hl := h.lt
  go_enter Try.func12, Try.ntmps12
  go_wp2_with fail
  have F0 := four_made w a s r 0 t y
  have G0 : Chg b w _ := chg_four w (.cells #[.int .i64 a, .int .i64 s, .int .i64 r] 29) (.cells #[.int .i64 0, .int .i64 t, .int .i64 y] 36) (.cells #[.int .i64 0, .int .i64 0, .int .i64 0] 29) (.cells #[.int .i64 a, .int .i64 s, .int .i64 r] 29)
  have N0 : w.heap.size ≠ b ∧ w.heap.size + 1 ≠ b ∧ w.heap.size + 1 + 1 ≠ b ∧ w.heap.size + 1 + 1 + 1 ≠ b := by omega
  have hC0 := h.same (w' := (((w.alloc (.cells #[.int .i64 a, .int .i64 s, .int .i64 r] 29)).alloc (.cells #[.int .i64 0, .int .i64 t, .int .i64 y] 36)).alloc (.cells #[.int .i64 0, .int .i64 0, .int .i64 0] 29)).alloc (.cells #[.int .i64 a, .int .i64 s, .int .i64 r] 29)) ((Below.refl w.heap.size w |>.alloc (Nat.le_refl _) _ |>.alloc (by simp) _ |>.alloc (by simp; omega) _ |>.alloc (by simp; omega) _).block b hl)
  generalize (((w.alloc (.cells #[.int .i64 a, .int .i64 s, .int .i64 r] 29)).alloc (.cells #[.int .i64 0, .int .i64 t, .int .i64 y] 36)).alloc (.cells #[.int .i64 0, .int .i64 0, .int .i64 0] 29)).alloc (.cells #[.int .i64 a, .int .i64 s, .int .i64 r] 29) = w0 at *
  have M0 : w.heap.size ≠ w.heap.size + 1 + 1 + 1 ∧ w.heap.size + 1 ≠ w.heap.size + 1 + 1 + 1 ∧ w.heap.size + 1 + 1 ≠ w.heap.size + 1 + 1 + 1 ∧ w.heap.size + 1 ≠ w.heap.size + 1 + 1 := by omega
  have E0 : w.heap.size ≤ w.heap.size + 1 + 1 ∧ w.heap.size ≤ w.heap.size + 1 + 1 + 1 := by omega
  generalize hS : w.heap.size + 1 + 1 + 1 = S at *
  generalize hR : w.heap.size + 1 + 1 = R at *
  generalize hQ : w.heap.size + 1 = Q at *
  have D1 := Lib.hid hS; have D2 := Lib.hid hR; have D3 := Lib.hid hQ
  clear hS hR hQ
  refine (HS.out _ b hC0).mono ?_
  rintro e w1 ⟨rfl, hC1, G1⟩
  have F1 := F0.chg G1 N0
  have H1 := G0.trans G1
  have hl1 := hC1.lt
  clear F0 G0 G1 hC0
  obtain ⟨p0, p1, p2, x0, x1, x2, z0, z1, z2, u0, u1, u2, fz, fu, lp, lq, lr, ls⟩ := id F1
  go_wp2_with fail
  refine (HR.out _).mono ?_
  clear p0 p1 p2 x0 x1 x2 z0 z1 z2 u0 u1 u2 fz fu lp lq lr ls
  rintro e w2 ⟨rfl, B2⟩
  have F2 := F1.chg (Chg.of_below (b := b) B2) N0
  have H2 := H1.trans (Chg.of_below B2)
  have hC2 := hC1.below B2 hl1
  have hl2 := hC2.lt
  clear F1 H1 B2 hC1 hl1
  obtain ⟨p0, p1, p2, x0, x1, x2, z0, z1, z2, u0, u1, u2, fz, fu, lp, lq, lr, ls⟩ := id F2
  go_wp2_with fail
  obtain ⟨c0, c1, c2⟩ := store3 (.int .i64 a') (.int .i64 s') (.int .i64 r') u0 u1 u2
  have W3 := stores_chg (b := b) F2 N0 M0 E0.2 hC2 H2 a' s' r'
  clear p0 p1 p2 x0 x1 x2 z0 z1 z2 u0 u1 u2 fz fu lp lq lr ls c0 c1 c2 F2 H2 hC2 hl2
  generalize ((w2.setCell ⟨S, 0, none⟩ (.int .i64 a')).setCell ⟨S, 1, none⟩ (.int .i64 s')).setCell ⟨S, 2, none⟩ (.int .i64 r') = w3 at *
  obtain ⟨hC3, H3, u0, u1, u2, x1, z0, z1, z2, fz, hz⟩ := W3
  obtain ⟨n0, n1, n2, n3⟩ := N0
  have HC := Lib.hid hC3
  have HK := Lib.hid (keepR (w := w3) (S := S) (R := R) hz.2.2.2 hz.2.2.1 u0 u1 u2 z0 z1 z2 fz)
  go_region_with (go_at_call 11; refine (agrees_any a' s' r' t _ b ?_).mono ?_; exact HC.out.same rfl; rintro e w' ⟨rfl, hb⟩; obtain ⟨v0, v1, v2, y0, y1, y2, yf⟩ := HK.out w' (undrew hb))
  all_goals
    obtain ⟨e0, e1, e2⟩ := store3 (.int .i64 a') (.int .i64 s') (.int .i64 r') y0 y1 y2
    go_wp2
    refine bodyPost_ret (v := .tuple #[.pointer (some ⟨b, 0, none⟩), .agg #[.int .i64 a', .int .i64 s', .int .i64 r'], .bool true]) (by simp [results, Try.results12, go_sem, e0, e1, e2]) rfl ?_
    exact do_close n2 E0.1 hC3 H3 hb

end Go.Proofs.Ytjpnfpmgbeigbaa
