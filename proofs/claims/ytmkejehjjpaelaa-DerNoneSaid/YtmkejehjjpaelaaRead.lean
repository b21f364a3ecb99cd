/- Layer 11 (der): require, New, measure, read[int] on the chapter's examples. -/
import Derived.Test.YtmkejehjjpaelaaCatch
namespace Go.Proofs.Ytmkejehjjpaelaa
open Go.ChangeShapes Go.WideShapes Go.ChangeAt Go.RowKit
set_option linter.unusedVariables false

theorem require_true (e : Int) (w : World) : Calls Try.prog 93 #[.bool true, .int .i64 e] w fun r w' => r = .returned (.tuple #[]) ∧ w = w' := by
  go_enter Try.func93, Try.ntmps93
  go_wp2
  go_end0
  exact ⟨rfl, rfl⟩

theorem require_false (e : Int) (w : World) : Calls Try.prog 93 #[.bool false, .int .i64 e] w fun r w' => r = .panicked [{ v := .iface 149 (.int .i64 e), recovered := false }] ∧ w = w' := by
  go_enter Try.func93, Try.ntmps93
  go_wp2
  exact ⟨rfl, rfl, rfl⟩

theorem measure_1 (q c : Nat) (w : World) (h0 : w.cell? ⟨q, 0, none⟩ = some (.int .u8 2)) (h1 : w.cell? ⟨q, 1, none⟩ = some (.int .u8 2)) :
    Calls Try.prog 65 #[.slice (some ⟨q, 0, none⟩) 4 c] w fun r w' => r = .returned (.tuple #[.int .i64 2, .int .i64 4, .int .i64 0]) ∧ Below w.heap.size w w' := by
  go_enter Try.func65, Try.ntmps65
  go_wp2
  go_region
  go_wp2
  go_returns
  exact ⟨rfl, (Below.refl _ _).drew⟩

theorem measure_2 (q c : Nat) (w : World) (h0 : w.cell? ⟨q, 0, none⟩ = some (.int .u8 2)) (h1 : w.cell? ⟨q, 1, none⟩ = some (.int .u8 129)) (h2 : w.cell? ⟨q, 2, none⟩ = some (.int .u8 1)) (hc : 3 ≤ c) :
    Calls Try.prog 65 #[.slice (some ⟨q, 0, none⟩) 4 c] w fun r w' => r = .returned (.tuple #[.int .i64 0, .int .i64 0, .int .i64 6]) ∧ Below w.heap.size w w' := by
  go_enter Try.func65, Try.ntmps65
  go_wp2
  go_region
  go_wp2
  go_rounds 2
  go_returns
  exact ⟨rfl, (Below.refl _ _).drew⟩

theorem measure_3 (q c : Nat) (w : World) (h0 : w.cell? ⟨q, 0, none⟩ = some (.int .u8 2)) (h1 : w.cell? ⟨q, 1, none⟩ = some (.int .u8 2)) :
    Calls Try.prog 65 #[.slice (some ⟨q, 0, none⟩) 3 c] w fun r w' => r = .returned (.tuple #[.int .i64 0, .int .i64 0, .int .i64 4]) ∧ Below w.heap.size w w' := by
  go_enter Try.func65, Try.ntmps65
  go_wp2
  go_region
  go_wp2
  go_returns
  exact ⟨rfl, (Below.refl _ _).drew⟩

theorem integer_1 (q c : Nat) (w : World) (h0 : w.cell? ⟨q, 2, none⟩ = some (.int .u8 0)) (h1 : w.cell? ⟨q, 3, none⟩ = some (.int .u8 5)) :
    Calls Try.prog 69 #[.slice (some ⟨q, 2, none⟩) 2 c] w fun r w' => r = .panicked [{ v := .iface 149 (.int .i64 6), recovered := false }] ∧ w = w' := by
  go_enter Try.func69, Try.ntmps69
  go_wp2_with fail
  refine (require_true _ _).mono ?_
  rintro e w' ⟨rfl, rfl⟩
  go_wp2_with fail
  refine (require_false _ _).mono ?_
  rintro e w' ⟨rfl, rfl⟩
  exact ⟨rfl, rfl, rfl⟩

theorem usable_true (b : Nat) (w : World) (hC : w.cell? ⟨b, 2, none⟩ = some (.bool true)) : Calls Try.prog 60 #[.pointer (some ⟨b, 0, none⟩)] w fun r w' => r = .returned (.bool true) ∧ w = w' := by
  go_enter Try.func60, Try.ntmps60
  go_wp2
  go_ret
  exact ⟨rfl, rfl⟩

theorem rest_any (q n c : Nat) (hn : n ≤ c) (w : World) : Calls Try.prog 77 #[.agg #[.slice (some ⟨q, 0, none⟩) n c, .int .i64 0, .bool true]] w fun r w' => r = .returned (.slice (some ⟨q, 0, none⟩) n n) ∧ Below w.heap.size w w' := by
  go_enter Try.func77, Try.ntmps77
  go_wp2
  go_ret
  exact ⟨rfl, (Below.refl _ _).alloc (Nat.le_refl _) _⟩

theorem new_any (A : Option Addr) (c : Nat) (l : List Int) (w : World) (h : Rd w A c l) (hn : l.length ≤ 16777215) :
    Calls Try.prog 29 #[.slice A l.length c] w fun r w' => ∃ (b : Nat) (A' : Option Addr) (c' : Nat), r = .returned (.pointer (some ⟨b, 0, none⟩)) ∧ w.heap.size ≤ b ∧ b < w'.heap.size ∧ Rd w' A' c' l ∧ w'.cell? ⟨b, 0, none⟩ = some (.slice A' l.length c') ∧ w'.cell? ⟨b, 1, none⟩ = some (.int .i64 0) ∧ w'.cell? ⟨b, 2, none⟩ = some (.bool true) ∧ w'.frozen? ⟨b, 1, none⟩ = false ∧ Below w.heap.size w w' := by
  have hr := Lib.hid h; clear h
  have hnil : Hid (w.ownsRow w.heap.size 5 1 (.slice none 0 0) ([] : List Int).length (([] : List Int).map (Value.int .u8))) := ⟨by simp, Or.inl ⟨rfl, rfl⟩⟩
  have HA : Hid (([] : List Int).length + l.length ≤ 1000000000) := by show _ ≤ _; simp; omega
  have HB : Hid (w.heap.size ≤ w.heap.size) := Nat.le_refl _
  go_enter Try.func29, Try.ntmps29
  go_wp2_with (at_builtin; refine wp_app rfl (.const (.slice none 0 0)) (.tmp 3) rfl w.heap.size _ ([] : List Int) rfl hnil.out _ _ l rfl hr.out HA.out HB.out ?_; intro A1 c1 w1 hown1 hB1)
  go_ret
  have hrd := (Rd.own hr.out.1 hown1).alloc (.cells #[Value.slice A1 l.length c1, Value.int IntKind.i64 0, Value.bool true] 79)
  exact ⟨w1.heap.size, A1, c1, rfl, hB1.size, by simp, hrd, by simp [go_sem], by simp [go_sem], by simp [go_sem], by simp [go_sem], hB1.alloc hB1.size _⟩

/-- what a walk over read knows of the memory: the reader at b, its bytes at q, the three variables -/
structure RF (W : World) (b q p1 p2 p3 n c : Nat) (e0 : Int) (l : List Int) : Prop where
  kb : b < W.heap.size
  kq : q < W.heap.size
  k1 : p1 < W.heap.size
  k2 : p2 < W.heap.size
  k3 : p3 < W.heap.size
  cA : W.cell? ⟨b, 0, none⟩ = some (.slice (some ⟨q, 0, none⟩) n c)
  cB : W.cell? ⟨b, 1, none⟩ = some (.int .i64 0)
  cC : W.cell? ⟨b, 2, none⟩ = some (.bool true)
  zB : W.frozen? ⟨b, 1, none⟩ = false
  c1 : W.cell? ⟨p1, 0, none⟩ = some (.pointer (some ⟨b, 0, none⟩))
  c2 : W.cell? ⟨p2, 0, none⟩ = some (.int .i64 0)
  c3 : W.cell? ⟨p3, 0, none⟩ = some (.int .i64 e0)
  z2 : W.frozen? ⟨p2, 0, none⟩ = false
  z3 : W.frozen? ⟨p3, 0, none⟩ = false
  cl : ∀ (i : Nat) (x : Int), l[i]? = some x → W.cell? ⟨q, i, none⟩ = some (.int .u8 x)

theorem RF.grown {W W' : World} {b q p1 p2 p3 n c : Nat} {e0 : Int} {l : List Int} (h : RF W b q p1 p2 p3 n c e0 l) (hb : Below W.heap.size W W') : RF W' b q p1 p2 p3 n c e0 l where
  kb := Nat.lt_of_lt_of_le h.kb hb.size
  kq := Nat.lt_of_lt_of_le h.kq hb.size
  k1 := Nat.lt_of_lt_of_le h.k1 hb.size
  k2 := Nat.lt_of_lt_of_le h.k2 hb.size
  k3 := Nat.lt_of_lt_of_le h.k3 hb.size
  cA := (hb.cell (p := ⟨b, 0, none⟩) h.kb).trans h.cA
  cB := (hb.cell (p := ⟨b, 1, none⟩) h.kb).trans h.cB
  cC := (hb.cell (p := ⟨b, 2, none⟩) h.kb).trans h.cC
  zB := (hb.frozen (p := ⟨b, 1, none⟩) h.kb).trans h.zB
  c1 := (hb.cell (p := ⟨p1, 0, none⟩) h.k1).trans h.c1
  c2 := (hb.cell (p := ⟨p2, 0, none⟩) h.k2).trans h.c2
  c3 := (hb.cell (p := ⟨p3, 0, none⟩) h.k3).trans h.c3
  z2 := (hb.frozen (p := ⟨p2, 0, none⟩) h.k2).trans h.z2
  z3 := (hb.frozen (p := ⟨p3, 0, none⟩) h.k3).trans h.z3
  cl := fun i x hx => (hb.cell (p := ⟨q, i, none⟩) h.kq).trans (h.cl i x hx)

theorem RF.set3 {W : World} {b q p1 p2 p3 n c : Nat} {e0 : Int} {l : List Int} (h : RF W b q p1 p2 p3 n c e0 l) (e1 : Int) (nb : b ≠ p3) (nq : q ≠ p3) (n1 : p1 ≠ p3) (n2 : p2 ≠ p3) : RF (W.setCell ⟨p3, 0, none⟩ (.int .i64 e1)) b q p1 p2 p3 n c e1 l := by
  have hc3 := h.c3
  refine ⟨by simpa [World.setCell] using h.kb, by simpa [World.setCell] using h.kq, by simpa [World.setCell] using h.k1, by simpa [World.setCell] using h.k2, by simpa [World.setCell] using h.k3, ?_, ?_, ?_, ?_, ?_, ?_, ?_, ?_, ?_, ?_⟩
  · rw [World.cell?_setCell_other _ _ _ _ (by simp)]; exact h.cA
  · rw [World.cell?_setCell_other _ _ _ _ (by simp)]; exact h.cB
  · rw [World.cell?_setCell_other _ _ _ _ (by simp)]; exact h.cC
  · rw [World.frozen?_setCell]; exact h.zB
  · rw [World.cell?_setCell_other _ _ _ _ (by simp)]; exact h.c1
  · rw [World.cell?_setCell_other _ _ _ _ (by simp)]; exact h.c2
  · simp [go_sem, hc3]
  · rw [World.frozen?_setCell]; exact h.z2
  · rw [World.frozen?_setCell]; exact h.z3
  · intro i x hx
    rw [World.cell?_setCell_other _ _ _ _ (by simp)]; exact h.cl i x hx

theorem RF.start {w : World} {b q n c : Nat} {l : List Int} (kb : b < w.heap.size) (kq : q < w.heap.size) (cA : w.cell? ⟨b, 0, none⟩ = some (.slice (some ⟨q, 0, none⟩) n c)) (cB : w.cell? ⟨b, 1, none⟩ = some (.int .i64 0)) (cC : w.cell? ⟨b, 2, none⟩ = some (.bool true)) (zB : w.frozen? ⟨b, 1, none⟩ = false) (cl : ∀ (i : Nat) (x : Int), l[i]? = some x → w.cell? ⟨q, i, none⟩ = some (.int .u8 x)) :
    RF (((w.alloc (.cells #[.pointer (some ⟨b, 0, none⟩)] 35)).alloc (.cells #[.int .i64 0] 3)).alloc (.cells #[.int .i64 0] 37)) b q w.heap.size (w.heap.size + 1) (w.heap.size + 1 + 1) n c 0 l := by
  have hb : Below w.heap.size w (((w.alloc (.cells #[.pointer (some ⟨b, 0, none⟩)] 35)).alloc (.cells #[.int .i64 0] 3)).alloc (.cells #[.int .i64 0] 37)) := (((Below.refl _ _).alloc (Nat.le_refl _) _).alloc (by rw [World.size_alloc]; omega) _).alloc (by rw [World.size_alloc, World.size_alloc]; omega) _
  refine ⟨Nat.lt_of_lt_of_le kb hb.size, Nat.lt_of_lt_of_le kq hb.size, by simp only [World.size_alloc]; omega, by simp only [World.size_alloc]; omega, by simp only [World.size_alloc]; omega, (hb.cell (p := ⟨b, 0, none⟩) kb).trans cA, (hb.cell (p := ⟨b, 1, none⟩) kb).trans cB, (hb.cell (p := ⟨b, 2, none⟩) kb).trans cC, (hb.frozen (p := ⟨b, 1, none⟩) kb).trans zB, ?_, ?_, ?_, ?_, ?_, fun i x hx => (hb.cell (p := ⟨q, i, none⟩) kq).trans (cl i x hx)⟩
  all_goals simp [go_sem]

theorem catch_b (b p1 p2 p3 : Nat) (off : Int) (o0 v0 e0 : Int) (e : Int) (older : List PanicEntry) (w : World) (base : Nat) (hb : base ≤ b) (hp2 : base ≤ p2) (hp3 : base ≤ p3)
    (h1 : w.cell? ⟨p1, 0, none⟩ = some (.pointer (some ⟨b, 0, none⟩)))
    (h2 : w.cell? ⟨b, 1, none⟩ = some (.int .i64 o0)) (z2 : w.frozen? ⟨b, 1, none⟩ = false)
    (h3 : w.cell? ⟨p2, 0, none⟩ = some (.int .i64 v0)) (z3 : w.frozen? ⟨p2, 0, none⟩ = false) (h4 : w.cell? ⟨p3, 0, none⟩ = some (.int .i64 e0)) (z4 : w.frozen? ⟨p3, 0, none⟩ = false) (n1 : b ≠ p2) (n2 : b ≠ p3) (n3 : p2 ≠ p3) :
    CallsD Try.prog 96 #[.int .i64 off, .pointer (some ⟨p1, 0, none⟩), .pointer (some ⟨p2, 0, none⟩), .pointer (some ⟨p3, 0, none⟩)] (.panicking ({ v := .iface 149 (.int .i64 e), recovered := false } :: older)) w fun r u' w' => r = .returned (.tuple #[]) ∧ u' = .panicking ({ v := .iface 149 (.int .i64 e), recovered := true } :: older) ∧ w'.cell? ⟨p2, 0, none⟩ = some (.int .i64 0) ∧ w'.cell? ⟨p3, 0, none⟩ = some (.int .i64 e) ∧ Below base w w' := by
  refine (catch96 b p1 p2 p3 off o0 v0 e0 e older w h1 h2 z2 h3 z3 h4 z4 n1 n2 n3).mono ?_
  rintro r u' w' ⟨rfl, rfl, rfl⟩
  have a3 : (w.drew.setCell ⟨b, 1, none⟩ (.int .i64 off)).cell? ⟨p2, 0, none⟩ = some (.int .i64 v0) := by
    rw [World.cell?_setCell_other _ _ _ _ (by simp)]; simpa [go_sem] using h3
  have a4 : ((w.drew.setCell ⟨b, 1, none⟩ (.int .i64 off)).setCell ⟨p2, 0, none⟩ (.int .i64 0)).cell? ⟨p3, 0, none⟩ = some (.int .i64 e0) := by
    rw [World.cell?_setCell_other _ _ _ _ (by simp), World.cell?_setCell_other _ _ _ _ (by simp)]; simpa [go_sem] using h4
  refine ⟨rfl, rfl, ?_, ?_, ((((Below.refl _ _).drew).setCell hb _).setCell hp2 _).setCell hp3 _⟩
  · rw [World.cell?_setCell_other _ _ _ _ (by simp), World.cell?_setCell_same _ _ _ (by rw [a3])]
  · rw [World.cell?_setCell_same _ _ _ (by rw [a4])]

theorem read_1 (b q c : Nat) (w : World) (base : Nat) (hb : base ≤ b) (hbw : b < w.heap.size) (hqw : q < w.heap.size) (hc : 4 ≤ c) (hbq : b ≠ q)
    (hA : w.cell? ⟨b, 0, none⟩ = some (.slice (some ⟨q, 0, none⟩) 4 c)) (hB : w.cell? ⟨b, 1, none⟩ = some (.int .i64 0)) (hC : w.cell? ⟨b, 2, none⟩ = some (.bool true)) (hz : w.frozen? ⟨b, 1, none⟩ = false)
    (hl : ∀ (i : Nat) (x : Int), [(2 : Int), 2, 0, 5][i]? = some x → w.cell? ⟨q, i, none⟩ = some (.int .u8 x)) :
    Calls Try.prog 68 #[.pointer (some ⟨b, 0, none⟩), .int .u8 2, .func (.func 69) #[] #[]] w fun r w' => r = .returned (.tuple #[.int .i64 0, .int .i64 6]) ∧ Below base w w' := by
  have hmf : ∀ (fn : Fn) (first cap : Array Value) (w : World), (Instr.makeFunc fn first cap).run Try.prog w = .ok (.func fn first cap) w := fun _ _ _ _ => rfl
  have F := RF.start hbw hqw hA hB hC hz hl
  clear hA hB hC hz hl
  go_enter_defers Try.func68, Try.ntmps68
  go_wp2_with fail
  generalize hW : ((w.alloc (.cells #[.pointer (some ⟨b, 0, none⟩)] 35)).alloc (.cells #[.int .i64 0] 3)).alloc (.cells #[.int .i64 0] 37) = W at *
  have hW' : Below base w W := by rw [← hW]; exact ((((Below.refl _ _).alloc (Nat.le_refl _) _).alloc (by rw [World.size_alloc]; omega) _).alloc (by rw [World.size_alloc, World.size_alloc]; omega) _).mono (by omega)
  have hW := Lib.hid hW
  have HF := Lib.hid F
  obtain ⟨kb, kq, k1, k2, k3, cA, cB, cC, zB, c1, c2, c3, z2, z3, cl⟩ := F
  refine (usable_true b _ cC).mono ?_
  rintro e w' ⟨rfl, rfl⟩
  go_wp2_with fail
  refine (rest_any q 4 c hc _).mono ?_
  rintro e W2 ⟨rfl, hB2⟩
  have F2 := HF.out.grown hB2
  have hW2 : Below base w W2 := hW'.trans (hB2.mono (Nat.le_trans (by omega) hW'.size))
  clear hB2 HF kb kq k1 k2 k3 cA cB cC zB c1 c2 c3 z2 z3 cl hW' hW
  have HF := Lib.hid F2
  obtain ⟨kb, kq, k1, k2, k3, cA, cB, cC, zB, c1, c2, c3, z2, z3, cl⟩ := F2
  have l0 := cl 0 _ rfl
  have l1 := cl 1 _ rfl
  clear cl
  go_wp2_with fail
  refine (require_true _ _).mono ?_
  rintro e w' ⟨rfl, rfl⟩
  go_wp2_with fail
  refine (require_true _ _).mono ?_
  rintro e w' ⟨rfl, rfl⟩
  go_wp2_with fail
  refine (measure_1 q _ _ l0 l1).mono ?_
  rintro e W3 ⟨rfl, hB3⟩
  have F3 := HF.out.grown hB3
  have hW3 : Below base w W3 := hW2.trans (hB3.mono (Nat.le_trans (by omega) hW2.size))
  clear HF kb kq k1 k2 k3 cA cB cC zB c1 c2 c3 z2 z3 l0 l1
  have HF := Lib.hid F3
  obtain ⟨kb, kq, k1, k2, k3, cA, cB, cC, zB, c1, c2, c3, z2, z3, cl⟩ := F3
  have l2 := cl 2 _ rfl
  have l3 := cl 3 _ rfl
  clear cl
  go_wp2_with fail
  have F4 := HF.out.set3 0 (by omega) (by omega) (by omega) (by omega)
  have hW4 : Below base w (W3.setCell ⟨w.heap.size + 1 + 1, 0, none⟩ (.int .i64 0)) := hW3.setCell (by show base ≤ w.heap.size + 1 + 1; omega) _
  generalize hWe : W3.setCell ⟨w.heap.size + 1 + 1, 0, none⟩ (.int .i64 0) = W4 at *
  clear HF kb kq k1 k2 k3 cA cB cC zB c1 c2 c3 z2 z3 l2 l3 hWe hB3 hW3 hW2
  have HF := Lib.hid F4
  obtain ⟨kb, kq, k1, k2, k3, cA, cB, cC, zB, c1, c2, c3, z2, z3, cl⟩ := F4
  have l2 := cl 2 _ rfl
  have l3 := cl 3 _ rfl
  clear cl
  refine (require_true _ _).mono ?_
  rintro e w' ⟨rfl, rfl⟩
  go_wp2_with fail
  refine (integer_1 q _ _ l2 l3).mono ?_
  rintro e w' ⟨rfl, rfl⟩
  refine leaves_cons (f := 96) (args := #[.int .i64 0, .pointer (some ⟨w.heap.size, 0, none⟩), .pointer (some ⟨w.heap.size + 1, 0, none⟩), .pointer (some ⟨w.heap.size + 1 + 1, 0, none⟩)]) (by simp) (by simp [go_sem]) ?_
  refine (catch_b b _ _ _ 0 0 0 0 6 [] _ base hb (by omega) (by omega) c1 cB zB c2 z2 c3 z3 (by omega) (by omega) (by omega)).mono ?_
  rintro e u' w'' ⟨rfl, rfl, f2, f3, hB5⟩
  simp [Leaves, settle, results, Try.results68, go_sem, f2, f3, hW4.trans hB5]
theorem read_2 (b q c : Nat) (w : World) (base : Nat) (hb : base ≤ b) (hbw : b < w.heap.size) (hqw : q < w.heap.size) (hc : 4 ≤ c) (hbq : b ≠ q)
    (hA : w.cell? ⟨b, 0, none⟩ = some (.slice (some ⟨q, 0, none⟩) 4 c)) (hB : w.cell? ⟨b, 1, none⟩ = some (.int .i64 0)) (hC : w.cell? ⟨b, 2, none⟩ = some (.bool true)) (hz : w.frozen? ⟨b, 1, none⟩ = false)
    (hl : ∀ (i : Nat) (x : Int), [(2 : Int), 129, 1, 5][i]? = some x → w.cell? ⟨q, i, none⟩ = some (.int .u8 x)) :
    Calls Try.prog 68 #[.pointer (some ⟨b, 0, none⟩), .int .u8 2, .func (.func 69) #[] #[]] w fun r w' => r = .returned (.tuple #[.int .i64 0, .int .i64 6]) ∧ Below base w w' := by
  have hmf : ∀ (fn : Fn) (first cap : Array Value) (w : World), (Instr.makeFunc fn first cap).run Try.prog w = .ok (.func fn first cap) w := fun _ _ _ _ => rfl
  have F := RF.start hbw hqw hA hB hC hz hl
  clear hA hB hC hz hl
  go_enter_defers Try.func68, Try.ntmps68
  go_wp2_with fail
  generalize hW : ((w.alloc (.cells #[.pointer (some ⟨b, 0, none⟩)] 35)).alloc (.cells #[.int .i64 0] 3)).alloc (.cells #[.int .i64 0] 37) = W at *
  have hW' : Below base w W := by rw [← hW]; exact ((((Below.refl _ _).alloc (Nat.le_refl _) _).alloc (by rw [World.size_alloc]; omega) _).alloc (by rw [World.size_alloc, World.size_alloc]; omega) _).mono (by omega)
  have hW := Lib.hid hW
  have HF := Lib.hid F
  obtain ⟨kb, kq, k1, k2, k3, cA, cB, cC, zB, c1, c2, c3, z2, z3, cl⟩ := F
  refine (usable_true b _ cC).mono ?_
  rintro e w' ⟨rfl, rfl⟩
  go_wp2_with fail
  refine (rest_any q 4 c hc _).mono ?_
  rintro e W2 ⟨rfl, hB2⟩
  have F2 := HF.out.grown hB2
  have hW2 : Below base w W2 := hW'.trans (hB2.mono (Nat.le_trans (by omega) hW'.size))
  clear hB2 HF kb kq k1 k2 k3 cA cB cC zB c1 c2 c3 z2 z3 cl hW' hW
  have HF := Lib.hid F2
  obtain ⟨kb, kq, k1, k2, k3, cA, cB, cC, zB, c1, c2, c3, z2, z3, cl⟩ := F2
  have l0 := cl 0 _ rfl
  have l1 := cl 1 _ rfl
  have l2 := cl 2 _ rfl
  clear cl
  go_wp2_with fail
  refine (require_true _ _).mono ?_
  rintro e w' ⟨rfl, rfl⟩
  go_wp2_with fail
  refine (require_true _ _).mono ?_
  rintro e w' ⟨rfl, rfl⟩
  go_wp2_with fail
  refine (measure_2 q _ _ l0 l1 l2 (by omega)).mono ?_
  rintro e W3 ⟨rfl, hB3⟩
  have F3 := HF.out.grown hB3
  have hW3 : Below base w W3 := hW2.trans (hB3.mono (Nat.le_trans (by omega) hW2.size))
  clear HF kb kq k1 k2 k3 cA cB cC zB c1 c2 c3 z2 z3 l0 l1 l2
  have HF := Lib.hid F3
  obtain ⟨kb, kq, k1, k2, k3, cA, cB, cC, zB, c1, c2, c3, z2, z3, cl⟩ := F3
  clear cl
  go_wp2_with fail
  have F4 := HF.out.set3 6 (by omega) (by omega) (by omega) (by omega)
  have hW4 : Below base w (W3.setCell ⟨w.heap.size + 1 + 1, 0, none⟩ (.int .i64 6)) := hW3.setCell (by show base ≤ w.heap.size + 1 + 1; omega) _
  generalize hWe : W3.setCell ⟨w.heap.size + 1 + 1, 0, none⟩ (.int .i64 6) = W4 at *
  clear HF kb kq k1 k2 k3 cA cB cC zB c1 c2 c3 z2 z3 hWe hB3 hW3 hW2
  obtain ⟨kb, kq, k1, k2, k3, cA, cB, cC, zB, c1, c2, c3, z2, z3, cl⟩ := F4
  refine (require_false _ _).mono ?_
  rintro e w' ⟨rfl, rfl⟩
  refine leaves_cons (f := 96) (args := #[.int .i64 0, .pointer (some ⟨w.heap.size, 0, none⟩), .pointer (some ⟨w.heap.size + 1, 0, none⟩), .pointer (some ⟨w.heap.size + 1 + 1, 0, none⟩)]) (by simp) (by simp [go_sem]) ?_
  refine (catch_b b _ _ _ 0 0 0 6 6 [] _ base hb (by omega) (by omega) c1 cB zB c2 z2 c3 z3 (by omega) (by omega) (by omega)).mono ?_
  rintro e u' w'' ⟨rfl, rfl, f2, f3, hB5⟩
  simp [Leaves, settle, results, Try.results68, go_sem, f2, f3, hW4.trans hB5]

theorem read_3 (b q c : Nat) (w : World) (base : Nat) (hb : base ≤ b) (hbw : b < w.heap.size) (hqw : q < w.heap.size) (hc : 3 ≤ c) (hbq : b ≠ q)
    (hA : w.cell? ⟨b, 0, none⟩ = some (.slice (some ⟨q, 0, none⟩) 3 c)) (hB : w.cell? ⟨b, 1, none⟩ = some (.int .i64 0)) (hC : w.cell? ⟨b, 2, none⟩ = some (.bool true)) (hz : w.frozen? ⟨b, 1, none⟩ = false)
    (hl : ∀ (i : Nat) (x : Int), [(2 : Int), 2, 5][i]? = some x → w.cell? ⟨q, i, none⟩ = some (.int .u8 x)) :
    Calls Try.prog 68 #[.pointer (some ⟨b, 0, none⟩), .int .u8 2, .func (.func 69) #[] #[]] w fun r w' => r = .returned (.tuple #[.int .i64 0, .int .i64 4]) ∧ Below base w w' := by
  have hmf : ∀ (fn : Fn) (first cap : Array Value) (w : World), (Instr.makeFunc fn first cap).run Try.prog w = .ok (.func fn first cap) w := fun _ _ _ _ => rfl
  have F := RF.start hbw hqw hA hB hC hz hl
  clear hA hB hC hz hl
  go_enter_defers Try.func68, Try.ntmps68
  go_wp2_with fail
  generalize hW : ((w.alloc (.cells #[.pointer (some ⟨b, 0, none⟩)] 35)).alloc (.cells #[.int .i64 0] 3)).alloc (.cells #[.int .i64 0] 37) = W at *
  have hW' : Below base w W := by rw [← hW]; exact ((((Below.refl _ _).alloc (Nat.le_refl _) _).alloc (by rw [World.size_alloc]; omega) _).alloc (by rw [World.size_alloc, World.size_alloc]; omega) _).mono (by omega)
  have hW := Lib.hid hW
  have HF := Lib.hid F
  obtain ⟨kb, kq, k1, k2, k3, cA, cB, cC, zB, c1, c2, c3, z2, z3, cl⟩ := F
  refine (usable_true b _ cC).mono ?_
  rintro e w' ⟨rfl, rfl⟩
  go_wp2_with fail
  refine (rest_any q 3 c hc _).mono ?_
  rintro e W2 ⟨rfl, hB2⟩
  have F2 := HF.out.grown hB2
  have hW2 : Below base w W2 := hW'.trans (hB2.mono (Nat.le_trans (by omega) hW'.size))
  clear hB2 HF kb kq k1 k2 k3 cA cB cC zB c1 c2 c3 z2 z3 cl hW' hW
  have HF := Lib.hid F2
  obtain ⟨kb, kq, k1, k2, k3, cA, cB, cC, zB, c1, c2, c3, z2, z3, cl⟩ := F2
  have l0 := cl 0 _ rfl
  have l1 := cl 1 _ rfl
  clear cl
  go_wp2_with fail
  refine (require_true _ _).mono ?_
  rintro e w' ⟨rfl, rfl⟩
  go_wp2_with fail
  refine (require_true _ _).mono ?_
  rintro e w' ⟨rfl, rfl⟩
  go_wp2_with fail
  refine (measure_3 q _ _ l0 l1).mono ?_
  rintro e W3 ⟨rfl, hB3⟩
  have F3 := HF.out.grown hB3
  have hW3 : Below base w W3 := hW2.trans (hB3.mono (Nat.le_trans (by omega) hW2.size))
  clear HF kb kq k1 k2 k3 cA cB cC zB c1 c2 c3 z2 z3 l0 l1
  have HF := Lib.hid F3
  obtain ⟨kb, kq, k1, k2, k3, cA, cB, cC, zB, c1, c2, c3, z2, z3, cl⟩ := F3
  clear cl
  go_wp2_with fail
  have F4 := HF.out.set3 4 (by omega) (by omega) (by omega) (by omega)
  have hW4 : Below base w (W3.setCell ⟨w.heap.size + 1 + 1, 0, none⟩ (.int .i64 4)) := hW3.setCell (by show base ≤ w.heap.size + 1 + 1; omega) _
  generalize hWe : W3.setCell ⟨w.heap.size + 1 + 1, 0, none⟩ (.int .i64 4) = W4 at *
  clear HF kb kq k1 k2 k3 cA cB cC zB c1 c2 c3 z2 z3 hWe hB3 hW3 hW2
  obtain ⟨kb, kq, k1, k2, k3, cA, cB, cC, zB, c1, c2, c3, z2, z3, cl⟩ := F4
  refine (require_false _ _).mono ?_
  rintro e w' ⟨rfl, rfl⟩
  refine leaves_cons (f := 96) (args := #[.int .i64 0, .pointer (some ⟨w.heap.size, 0, none⟩), .pointer (some ⟨w.heap.size + 1, 0, none⟩), .pointer (some ⟨w.heap.size + 1 + 1, 0, none⟩)]) (by simp) (by simp [go_sem]) ?_
  refine (catch_b b _ _ _ 0 0 0 4 4 [] _ base hb (by omega) (by omega) c1 cB zB c2 z2 c3 z3 (by omega) (by omega) (by omega)).mono ?_
  rintro e u' w'' ⟨rfl, rfl, f2, f3, hB5⟩
  simp [Leaves, settle, results, Try.results68, go_sem, f2, f3, hW4.trans hB5]

theorem read_4 (b q c : Nat) (w : World) (base : Nat) (hb : base ≤ b) (hbw : b < w.heap.size) (hqw : q < w.heap.size) (hc : 3 ≤ c) (hbq : b ≠ q)
    (hA : w.cell? ⟨b, 0, none⟩ = some (.slice (some ⟨q, 0, none⟩) 3 c)) (hB : w.cell? ⟨b, 1, none⟩ = some (.int .i64 0)) (hC : w.cell? ⟨b, 2, none⟩ = some (.bool true)) (hz : w.frozen? ⟨b, 1, none⟩ = false)
    (hl : ∀ (i : Nat) (x : Int), [(4 : Int), 1, 5][i]? = some x → w.cell? ⟨q, i, none⟩ = some (.int .u8 x)) :
    Calls Try.prog 68 #[.pointer (some ⟨b, 0, none⟩), .int .u8 2, .func (.func 69) #[] #[]] w fun r w' => r = .returned (.tuple #[.int .i64 0, .int .i64 6]) ∧ Below base w w' := by
  have hmf : ∀ (fn : Fn) (first cap : Array Value) (w : World), (Instr.makeFunc fn first cap).run Try.prog w = .ok (.func fn first cap) w := fun _ _ _ _ => rfl
  have F := RF.start hbw hqw hA hB hC hz hl
  clear hA hB hC hz hl
  go_enter_defers Try.func68, Try.ntmps68
  go_wp2_with fail
  generalize hW : ((w.alloc (.cells #[.pointer (some ⟨b, 0, none⟩)] 35)).alloc (.cells #[.int .i64 0] 3)).alloc (.cells #[.int .i64 0] 37) = W at *
  have hW' : Below base w W := by rw [← hW]; exact ((((Below.refl _ _).alloc (Nat.le_refl _) _).alloc (by rw [World.size_alloc]; omega) _).alloc (by rw [World.size_alloc, World.size_alloc]; omega) _).mono (by omega)
  have hW := Lib.hid hW
  have HF := Lib.hid F
  obtain ⟨kb, kq, k1, k2, k3, cA, cB, cC, zB, c1, c2, c3, z2, z3, cl⟩ := F
  refine (usable_true b _ cC).mono ?_
  rintro e w' ⟨rfl, rfl⟩
  go_wp2_with fail
  refine (rest_any q 3 c hc _).mono ?_
  rintro e W2 ⟨rfl, hB2⟩
  have F2 := HF.out.grown hB2
  have hW2 : Below base w W2 := hW'.trans (hB2.mono (Nat.le_trans (by omega) hW'.size))
  clear hB2 HF kb kq k1 k2 k3 cA cB cC zB c1 c2 c3 z2 z3 cl hW' hW
  have HF := Lib.hid F2
  obtain ⟨kb, kq, k1, k2, k3, cA, cB, cC, zB, c1, c2, c3, z2, z3, cl⟩ := F2
  have l0 := cl 0 _ rfl
  have l1 := cl 1 _ rfl
  clear cl
  go_wp2_with fail
  refine (require_true _ _).mono ?_
  rintro e w' ⟨rfl, rfl⟩
  go_wp2_with fail
  refine (require_false _ _).mono ?_
  rintro e w' ⟨rfl, rfl⟩
  refine leaves_cons (f := 96) (args := #[.int .i64 0, .pointer (some ⟨w.heap.size, 0, none⟩), .pointer (some ⟨w.heap.size + 1, 0, none⟩), .pointer (some ⟨w.heap.size + 1 + 1, 0, none⟩)]) (by simp) (by simp [go_sem]) ?_
  refine (catch_b b _ _ _ 0 0 0 0 6 [] _ base hb (by omega) (by omega) c1 cB zB c2 z2 c3 z3 (by omega) (by omega) (by omega)).mono ?_
  rintro e u' w'' ⟨rfl, rfl, f2, f3, hB5⟩
  simp [Leaves, settle, results, Try.results68, go_sem, f2, f3, hW2.trans hB5]

end Go.Proofs.Ytmkejehjjpaelaa
