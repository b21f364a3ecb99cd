/- DriftPlays (watchword): for every input the call returns true and the input reads as it did. No conditions. -/
import Derived.Test.YtjpnfpmgbeigbaaPlays4
import Derived.Test.YtjpnfpmgbeigbaaPlays5
import Derived.WalkKit
import Derived.ProofKit
import Derived.OpenShut
import Derived.ShutString
import Derived.ChangeOld
import Derived.Below
import Derived.Lib.SmallJoins
import Derived.Deep.Slices
import Derived.Deep.RegionWith
namespace Go.Proofs.Ytjpnfpmgbeigbaa.driftPlays
open Go.ChangeShapes Go.WideShapes Go.ChangeAt Go.RowKit Go.Joins Drift Go.Deep
open Go.ChangeMaps (open_string shut_string)
set_option linter.unusedVariables false

theorem own : ownKnob Try.prog.godebug = none := by kernel_rfl
theorem laidOut : laidOutB Try.prog = true := by kernel_rfl
theorem cells36 : Try.prog.cellsOf 36 = 3 := by kernel_rfl

/-- the calls that came in, as the walk reads them -/
def Acts (w : World) (A : Option Addr) (len : Nat) : Prop := ∀ i, i < len → ∃ (b off : Nat) (q t y : Int), A = some ⟨b, off, none⟩ ∧ b < w.heap.size ∧
  w.cell? ⟨b, off + i * 3, none⟩ = some (.int .i64 q) ∧ w.cell? ⟨b, off + i * 3 + 1, none⟩ = some (.int .i64 t) ∧ w.cell? ⟨b, off + i * 3 + 2, none⟩ = some (.int .i64 y)

theorem spot_of {W : World} {base : Nat} {x : Addr} {cs : List Value} (hc : W.cells? base (x.add (0 * Try.prog.cellsOf 36)) (Try.prog.cellsOf 36) = some cs) : x.spot = none := by
  rw [cells36] at hc
  obtain ⟨_, hcl, hat⟩ := World.cells?_some hc
  have g0 := hat 0 (by omega)
  have hs : cs[0]? = some (cs[0]'(by omega)) := List.getElem?_eq_getElem (by omega)
  rw [hs] at g0
  simpa [Addr.add] using World.cell?_spot g0

theorem act_cells {H : Type} {enc : TypeId × Value → H} {W : World} {base n i : Nat} {spare : Nat → Bool} {held : Bool} {x : Addr} {cs : List Value} {y : DataW H × List MemPlace}
    (hc : W.cells? base (x.add (i * Try.prog.cellsOf 36)) (Try.prog.cellsOf 36) = some cs) (ht : DataW.trod enc Try.prog W base spare held n 36 cs = some y) (hs : x.spot = none) :
    ∃ (b off : Nat) (q t y : Int), some x = some ⟨b, off, none⟩ ∧ b < W.heap.size ∧
      W.cell? ⟨b, off + i * 3, none⟩ = some (.int .i64 q) ∧ W.cell? ⟨b, off + i * 3 + 1, none⟩ = some (.int .i64 t) ∧ W.cell? ⟨b, off + i * 3 + 2, none⟩ = some (.int .i64 y) := by
  rw [cells36] at hc
  obtain ⟨_, hcl, hat⟩ := World.cells?_some hc
  match cs, hcl with
  | [c0, c1, c2], _ =>
    obtain ⟨xs, n', _, _, _, hxl, hf⟩ := DataW.trod_struct Try.underlying36 ht
    match xs, hxl with
    | [y0, y1, y2], _ =>
      have f0 := hf 0 _ rfl
      have f1 := hf 1 _ rfl
      have f2 := hf 2 _ rfl
      have k3 : Try.prog.cellsOf 3 = 1 := by kernel_rfl
      simp [k3] at f0 f1 f2
      obtain ⟨q, e0, _, _⟩ := DataW.trod_int Try.underlying3 f0
      obtain ⟨t, e1, _, _⟩ := DataW.trod_int Try.underlying3 f1
      obtain ⟨z, e2, _, _⟩ := DataW.trod_int Try.underlying3 f2
      simp at e0 e1 e2
      subst e0 e1 e2
      have g0 := hat 0 (by omega)
      have g1 := hat 1 (by omega)
      have g2 := hat 2 (by omega)
      obtain ⟨b, off, spot⟩ := x
      subst hs
      simp [Go.WideShapes.add_plain] at g0 g1 g2
      exact ⟨b, off, q, t, z, rfl, cell_lt g0, g0, g1, g2⟩

theorem Acts.below {w w' : World} {A : Option Addr} {len : Nat} (h : Acts w A len) (hb : Below w.heap.size w w') : Acts w' A len := by
  intro i hi
  obtain ⟨b, off, q, t, y, e, hl, h0, h1, h2⟩ := h i hi
  exact ⟨b, off, q, t, y, e, Nat.lt_of_lt_of_le hl hb.size, (hb.cell (p := ⟨b, off + i * 3, none⟩) hl).trans h0, (hb.cell (p := ⟨b, off + i * 3 + 1, none⟩) hl).trans h1, (hb.cell (p := ⟨b, off + i * 3 + 2, none⟩) hl).trans h2⟩

def Fine (a s r : Int) : Prop := 0 ≤ a ∧ a ≤ 1099511627776 ∧ 0 ≤ s ∧ s ≤ 1099511627776 ∧ -100000 ≤ r ∧ r ≤ 100000

theorem do_any (a s r q t y : Int) (w : World) (b : Nat) (h : Clk w b a s r) :
    Calls Try.prog 12 #[.pointer (some ⟨b, 0, none⟩), .agg #[.int .i64 a, .int .i64 s, .int .i64 r], .agg #[.int .i64 q, .int .i64 t, .int .i64 y]] w (DoPost w b) := by
  by_cases h0 : q = 0
  · subst h0; exact do_step a s r t y w b h
  by_cases h1 : q = 1
  · subst h1; exact do_rate a s r t y w b h
  by_cases h2 : q = 2
  · subst h2; exact do_copy a s r t y w b h
  exact do_other a s r q t y (beq_eq_false_iff_ne.2 h0) (beq_eq_false_iff_ne.2 h1) (beq_eq_false_iff_ne.2 h2) w b h

/-- what the loop knows: c is a clock of the call's own, and its reference lies in block X -/
def Loop (w wr : World) (X b : Nat) (a s r : Int) : Prop := Clk wr b a s r ∧ w.heap.size ≤ b ∧ Below w.heap.size w wr ∧ X ≠ b ∧ X < wr.heap.size ∧ w.heap.size ≤ X ∧ (∀ o, wr.frozen? ⟨X, o, none⟩ = false) ∧
  wr.cell? ⟨X, 0, none⟩ = some (.int .i64 a) ∧ wr.cell? ⟨X, 1, none⟩ = some (.int .i64 s) ∧ wr.cell? ⟨X, 2, none⟩ = some (.int .i64 r)

theorem loop_start {w x2 x3 : World} {b : Nat} {a s r : Int} (hn : w.heap.size ≤ b) (hC : Clk x2 b a s r) (T : Below w.heap.size w x2) (B : Below (x2.alloc (.cells #[.int .i64 a, .int .i64 s, .int .i64 r] 29)).heap.size (x2.alloc (.cells #[.int .i64 a, .int .i64 s, .int .i64 r] 29)) x3) :
    Loop w x3 x2.heap.size b a s r := by
  obtain ⟨u0, u1, u2, hz, B'⟩ := box3 B
  exact ⟨hC.below B' hC.lt, hn, T.trans (B'.mono T.size), by have := hC.lt; omega, hz, T.size, fun o => (B.frozen (p := ⟨x2.heap.size, o, none⟩) (by simp)).trans (by go_simp), u0, u1, u2⟩

theorem after_do {w wr w' : World} {X b : Nat} {a s r : Int} (L : Loop w wr X b a s r) (hG : Chg b wr.drew w') :
    w'.cell? ⟨X, 0, none⟩ = some (.int .i64 a) ∧ w'.cell? ⟨X, 1, none⟩ = some (.int .i64 s) ∧ w'.cell? ⟨X, 2, none⟩ = some (.int .i64 r) ∧ ∀ o, w'.frozen? ⟨X, o, none⟩ = false := by
  obtain ⟨hC, hwb, hB, hXb, hX, hwX, fz, u0, u1, u2⟩ := L
  have e := hG.block X hX hXb
  exact ⟨(same_cell e 0).trans u0, (same_cell e 1).trans u1, (same_cell e 2).trans u2, fun o => (same_fz e o).trans (fz o)⟩

theorem undrewC {b : Nat} {w w' : World} (h : Chg b w.drew w') : Chg b w w' := ⟨h.os, h.tape, h.output, h.size, h.block⟩

theorem loop_next {w wr w' : World} {X b d : Nat} {a s r a2 s2 r2 : Int} (L : Loop w wr X b a s r) (hd : d = b ∨ wr.drew.heap.size ≤ d) (hD : Clk w' d a2 s2 r2) (hG : Chg b wr.drew w')
    (f0 : w'.cell? ⟨X, 0, none⟩ = some (.int .i64 a)) (f1 : w'.cell? ⟨X, 1, none⟩ = some (.int .i64 s)) (f2 : w'.cell? ⟨X, 2, none⟩ = some (.int .i64 r)) :
    Loop w (((w'.setCell ⟨X, 0, none⟩ (.int .i64 a2)).setCell ⟨X, 1, none⟩ (.int .i64 s2)).setCell ⟨X, 2, none⟩ (.int .i64 r2)) X d a2 s2 r2 := by
  obtain ⟨hC, hwb, hB, hXb, hX, hwX, fz, u0, u1, u2⟩ := L
  have hG := undrewC hG
  have hXd : X ≠ d := by
    rcases hd with h | h
    · rw [h]; exact hXb
    · have : wr.heap.size ≤ d := h
      omega
  have hwd : w.heap.size ≤ d := by
    rcases hd with h | h
    · rw [h]; exact hwb
    · have : wr.heap.size ≤ d := h
      have := hB.size
      omega
  have e := hG.block X hX hXb
  refine ⟨((hD.setOther hXd _).setOther hXd _).setOther hXd _, hwd, ((((Chg.below hB hG hwb).setCell hwX _).setCell hwX _).setCell hwX _), hXd, ?_, hwX, fun o => ?_, by go_cell, by go_cell, by go_cell⟩
  · have := hG.size; simp [World.setCell]; omega
  · rw [fz_other, fz_other, fz_other]; exact (same_fz e o).trans (fz o)

set_option maxHeartbeats 4000000 in
theorem walk (a s r : Int) (A : Option Addr) (len cap : Nat) (w : World) (hcap : len ≤ cap) (hm : cap ≤ maxLen) (hA : Acts w A len) :
    Calls Try.prog 3 #[.int .i64 a, .int .i64 s, .int .i64 r, .slice A len cap] w fun e w' => e = .returned (.bool true) ∧ Below w.heap.size w w' := by
  unfold maxLen at hm
  have HA := Lib.hid hA; clear hA
  by_cases hlen : 30 < len
  · go_enter Try.func3, Try.ntmps3
    go_wp2_with fail
    refine (known_any _).mono ?_
    rintro e x1 ⟨rfl, B1⟩
    go_wp2
    go_ret
    exact ⟨rfl, B1⟩
  have hlen' : len ≤ 30 := by omega
  clear hlen
  by_cases F : Fine a s r
  · obtain ⟨g0, g1, g2, g3, g4, g5⟩ := F
    go_enter Try.func3, Try.ntmps3
    go_wp2_with fail
    refine (new_yes a s r _ g0 g1 g2 g3 g4 g5).mono ?_
    rintro e x1 ⟨b, rfl, hn, hC1, B1⟩
    have hl1 := hC1.lt
    go_wp2_with fail
    refine (rnew_yes a s r _ g0 g1 g2 g3 g4 g5).mono ?_
    rintro e x2 ⟨rfl, B2⟩
    have hC2 := hC1.below B2 hl1
    have hl2 := hC2.lt
    have T2 : Below w.heap.size w x2 := B1.trans (B2.mono B1.size)
    go_wp2_with fail
    refine (agrees_any a s r a _ b (hC2.below (B := x2.heap.size) (by go_grown) hl2)).mono ?_
    rintro e x3 ⟨rfl, B3⟩
    have L3 : Loop w x3 x2.heap.size b a s r := loop_start hn hC2 T2 B3
    clear B1 B2 B3 hC1 hC2 T2 hl1
    generalize x2.heap.size = X at *
    go_wp2
    go_loopw [9, 13, 14] (fun c f i wr => ∃ (k b' : Nat) (a' s' r' : Int), k ≤ len ∧ c = .pointer (some ⟨b', 0, none⟩) ∧ f = .bool true ∧ i = .int .i64 k ∧ Loop w wr X b' a' s' r') (fun c f i wr => len - (intOf i).toNat)
    case atStart => exact ⟨0, b, a, s, r, Nat.zero_le _, rfl, rfl, rfl, L3⟩
    case round =>
      obtain ⟨k, b', a', s', r', hk, rfl, rfl, rfl, L⟩ := hrel
      clear L3
      by_cases hlt : k < len
      · obtain ⟨c, off, q, t, y, rfl, hlc, h0, h1, h2⟩ := (HA.out.below L.2.2.1) k hlt
        have HL := Lib.hid L
        obtain ⟨hC, hwb, hB, hXb, hX, hwX, fz, u0, u1, u2⟩ := L
        have HC := Lib.hid hC
        have HD := Lib.hid (fun w' => after_do (w' := w') HL.out)
        go_wp2_with fail
        go_region_with (go_at_call 12; refine (do_any a' s' r' q t y _ b' ?_).mono ?_; exact HC.out.same rfl; rintro e w' ⟨d, a2, s2, r2, rfl, hd, hD, hG⟩; obtain ⟨f0, f1, f2, ff⟩ := HD.out w' hG)
        all_goals
          go_wp2
          go_roundw
          case rel => exact ⟨k + 1, d, a2, s2, r2, by omega, rfl, rfl, by go_num, loop_next HL.out hd hD hG f0 f1 f2⟩
          case measure => simp [intOf]; omega
      · go_wp2_with fail
        refine (known_any _).mono ?_
        rintro e x4 ⟨rfl, B4⟩
        go_wp2
        go_ret
        exact ⟨rfl, L.2.2.1.trans (B4.mono L.2.2.1.size)⟩
  · have HF := Lib.hid F; clear F
    go_enter Try.func3, Try.ntmps3
    go_wp2_with fail
    refine (new_no a s r _ HF.out).mono ?_
    rintro e x1 ⟨rfl, B1⟩
    go_wp2_with fail
    refine (rnew_no a s r _ HF.out).mono ?_
    rintro e x2 ⟨rfl, B2⟩
    go_wp2
    by_cases hl0 : 0 < len
    all_goals
      refine wp_loop_rounds 1 ?_
      rw [rounds_succ]
      go_wp2_with fail
      refine (known_any _).mono ?_
      rintro e x4 ⟨rfl, B4⟩
      go_wp2
      go_ret
      exact ⟨rfl, (B1.trans (B2.mono B1.size)).trans ((box3 B4).2.2.2.2.mono (by have := B1.size; have := B2.size; omega))⟩

set_option maxRecDepth 100000 in
theorem lifted (os : Os) (started : os.Started) (H : Type) (enc : TypeId × Value → H) :
    ReturnsInHanded {} Try.checked os 3 .any (Rows.driftPlaysSpec.pre6 enc Try.prog Try.f3 Rows.driftPlaysRow.domain false) (Rows.driftPlaysSpec.post enc Try.prog Try.f3 false true false false) := by
  refine returnsInHanded_of_change (C := Try.checked) own started (by kernel_rfl) Try.func3
    (ChangeSpec.witness6 (enc := enc) (C := Try.checked) false ⟨#[], #[.int .i64 0, .int .i64 0, .int .i64 0, .slice none 0 0], []⟩ 8 (by kernel_rfl) (by kernel_rfl) (by kernel_rfl) (by kernel_rfl)) ?_
  intro W base args ds gs before hval0 hW hcnd _
  have hval : ∀ (j : Nat) t v, Try.f3.params[j]? = some t → args[j]? = some v → Value.okWide Try.prog W .any base t v := hval0
  have hW' := hW
  obtain ⟨p, q, hA0, hV, rfl, hfz, hnd⟩ := hW
  have hA : DataW.TrodAll enc Try.prog W 0 (fun _ => true) true Try.f3.params.toList args.toList ds p := hA0
  rw [Try.params3] at hA hval
  obtain ⟨v0, vs0, d0, ds0, p0, q0, hargs, rfl, rfl, h0, r0⟩ := trodAll_cons hA
  obtain ⟨v1, vs1, d1, ds1, p1, q1, rfl, rfl, rfl, h1, r1⟩ := trodAll_cons r0
  obtain ⟨v2, vs2, d2, ds2, p2, q2, rfl, rfl, rfl, h2, r2⟩ := trodAll_cons r1
  obtain ⟨v3, vs3, d3, ds3, p3, q3, rfl, rfl, rfl, h3, r3⟩ := trodAll_cons r2
  obtain ⟨rfl, rfl, rfl⟩ := trodAll_nil r3
  obtain rfl : args = #[v0, v1, v2, v3] := by cases args; simp_all
  obtain ⟨rfl, rfl⟩ := trodVars_none hV
  obtain ⟨a, rfl, rfl, rfl, w0⟩ := open_int Try.underlying3 (hval 0 3 v0 rfl rfl) h0
  obtain ⟨s, rfl, rfl, rfl, w1⟩ := open_int Try.underlying3 (hval 1 3 v1 rfl rfl) h1
  obtain ⟨r, rfl, rfl, rfl, w2⟩ := open_int Try.underlying3 (hval 2 3 v2 rfl rfl) h2
  obtain ⟨A, len, cap, rfl⟩ := okWide_slice Try.underlying22 (hval 3 22 v3 rfl rfl)
  have k3 := h3
  have lt3 : ∀ x ∈ p3, x.block < W.heap.size := by obtain ⟨m, hm⟩ := k3; exact DataW.trod_lt m _ _ _ hm
  have ok3 : len ≤ cap ∧ cap ≤ maxLen ∧ Acts W A len := by
    obtain ⟨fuel, hf⟩ := h3
    rcases open_slice Try.underlying22 hf with ⟨hcs, _⟩ | ⟨x, l, c, m, n, D, Pl, hcs, hb, hl, hm, hmm, hx, hi⟩
    · simp [Value.cells] at hcs
      obtain ⟨rfl, rfl, rfl⟩ := hcs
      exact ⟨Nat.le_refl _, Nat.zero_le _, fun i hi => absurd hi (by omega)⟩
    · simp [Value.cells] at hcs
      obtain ⟨rfl, rfl, rfl⟩ := hcs
      refine ⟨hl, hm, fun i hil => ?_⟩
      obtain ⟨cs', hc, ht⟩ := hi i (by simp at hmm; omega)
      obtain ⟨cs0, hc0, _⟩ := hi 0 (by simp at hmm; omega)
      exact act_cells hc ht (spot_of hc0)
  obtain ⟨ok1, ok2, ok3⟩ := ok3
  clear hA0 hval0
  refine (walk a s r A len cap W ok1 ok2 ok3).mono fun e W' ⟨he, bel⟩ => ?_
  subst he
  exact ⟨_, rfl, _, _, _, [], _, [], hW', trodAll_mk1 (shut_bool Try.underlying4 _), (trodAll_cons_mk (shut_int Try.underlying3 w0) (trodAll_cons_mk (shut_int Try.underlying3 w1) (trodAll_cons_mk (shut_int Try.underlying3 w2) (trodAll_cons_mk (Below.trod laidOut (by kernel_rfl) (of_decide_eq_true (by kernel_rfl)) k3 bel lt3) trodAll_mk0)))), rfl, bel.frame _, fun h => by cases h⟩

theorem over : Rows.driftPlaysRow.holds Try.pinned (OpenSpec.ofChange Rows.driftPlaysSpec) :=
  OpenClaim.holds_of_wide 3 Try.f3 rfl rfl rfl rfl rfl rfl rfl ⟨rfl, rfl, rfl, rfl, rfl⟩ rfl rfl rfl rfl rfl (by kernel_rfl) Try.func3 (by kernel_rfl)
    (of_decide_eq_true (by kernel_rfl)) (by unfold Func.isWrapper; first | (rw [if_pos (by decide +kernel)]; kernel_rfl) | (rw [if_neg (by decide +kernel)]; exact ⟨rfl, rfl⟩))
    (fun os started H enc _ => lifted os started H enc)

/-- THE STATEMENT -/
theorem proved : Rows.DriftPlaysSaid :=
  over
#print axioms proved
end Go.Proofs.Ytjpnfpmgbeigbaa.driftPlays
