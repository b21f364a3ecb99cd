/- Walks of layer 11 (der): what writes elements. -/
import Derived.Test.YtmkejehjjpaelaaElem
namespace Go.Proofs.Ytmkejehjjpaelaa
open Go.ChangeShapes Go.WideShapes Go.ChangeAt Go.RowKit
set_option linter.unusedVariables false

/-- a call that hands back these bytes -/
def Gives (l : List Int) (w : World) (e : Ending) (w' : World) : Prop := ∃ A c, e = .returned (.slice A l.length c) ∧ Rd w' A c l ∧ Below w.heap.size w w'

theorem parts_cells {w : World} {p : Nat} (ps : List (Option Addr × Nat × List Int)) (hp : p < w.heap.size)
    (hc : ∀ (i : Nat) (A : Option Addr) (c : Nat) (l : List Int), ps[i]? = some (A, c, l) → w.cell? ⟨p, i, none⟩ = some (.slice A l.length c) ∧ Rd w A c l) : Parts w (some ⟨p, 0, none⟩) ps := by
  refine Or.inr ⟨p, 0, rfl, hp, fun i A c l h => ?_⟩
  rw [Nat.zero_add]; exact hc i A c l h

theorem parts_one (w : World) (A : Option Addr) (c : Nat) (l : List Int) (h : Rd w A c l) (T : TypeId) : Parts (w.alloc (.cells #[.slice A l.length c] T)) (some ⟨w.heap.size, 0, none⟩) [(A, c, l)] := by
  refine parts_cells _ (by rw [World.size_alloc]; omega) fun i A' c' l' hi => ?_
  match i, hi with
  | 0, hi => simp at hi; obtain ⟨rfl, rfl, rfl⟩ := hi; exact ⟨by simp [go_sem], h.alloc _⟩

theorem parts_two (w : World) (A : Option Addr) (c : Nat) (l : List Int) (h : Rd w A c l) (A2 : Option Addr) (c2 : Nat) (l2 : List Int) (h2 : Rd w A2 c2 l2) (T : TypeId) : Parts (w.alloc (.cells #[.slice A l.length c, .slice A2 l2.length c2] T)) (some ⟨w.heap.size, 0, none⟩) [(A, c, l), (A2, c2, l2)] := by
  refine parts_cells _ (by rw [World.size_alloc]; omega) fun i A' c' l' hi => ?_
  match i, hi with
  | 0, hi => simp at hi; obtain ⟨rfl, rfl, rfl⟩ := hi; exact ⟨by simp [go_sem], h.alloc _⟩
  | 1, hi => simp at hi; obtain ⟨rfl, rfl, rfl⟩ := hi; exact ⟨by simp [go_sem], h2.alloc _⟩

theorem parts_three (w : World) (A : Option Addr) (c : Nat) (l : List Int) (h : Rd w A c l) (A2 : Option Addr) (c2 : Nat) (l2 : List Int) (h2 : Rd w A2 c2 l2) (A3 : Option Addr) (c3 : Nat) (l3 : List Int) (h3 : Rd w A3 c3 l3) (T : TypeId) : Parts (w.alloc (.cells #[.slice A l.length c, .slice A2 l2.length c2, .slice A3 l3.length c3] T)) (some ⟨w.heap.size, 0, none⟩) [(A, c, l), (A2, c2, l2), (A3, c3, l3)] := by
  refine parts_cells _ (by rw [World.size_alloc]; omega) fun i A' c' l' hi => ?_
  match i, hi with
  | 0, hi => simp at hi; obtain ⟨rfl, rfl, rfl⟩ := hi; exact ⟨by simp [go_sem], h.alloc _⟩
  | 1, hi => simp at hi; obtain ⟨rfl, rfl, rfl⟩ := hi; exact ⟨by simp [go_sem], h2.alloc _⟩
  | 2, hi => simp at hi; obtain ⟨rfl, rfl, rfl⟩ := hi; exact ⟨by simp [go_sem], h3.alloc _⟩

theorem element_one (tag : Int) (ht0 : 0 ≤ tag) (ht1 : tag < 256) (A : Option Addr) (c : Nat) (l : List Int) (w : World) (h : Rd w A c l) (hn : l.length ≤ 16777215) (T : TypeId) (p : Nat) (hp : w.heap.size = p) (n : Nat) (hl : l.length = n) :
    Calls Try.prog 53 #[.int .u8 tag, .slice (some ⟨p, 0, none⟩) 1 1] (w.alloc (.cells #[.slice A n c] T)) (Gives (elemL tag l) w) := by
  subst hp; subst hl
  have ht : total [(A, c, l)] = l := by simp [total]
  refine (element_any tag ht0 ht1 _ 1 [(A, c, l)] _ (parts_one w A c l h T) (by rw [ht]; exact hn) (by simp)).mono ?_
  rintro e w' ⟨A', c', h1, h2, h3⟩
  rw [ht] at h1 h2
  exact ⟨A', c', h1, h2, (((Below.refl w.heap.size w).alloc (Nat.le_refl _) _).trans (h3.mono (by rw [World.size_alloc]; omega)))⟩

theorem Gives.from {w1 w : World} {l : List Int} {e : Ending} {w' : World} (h : Gives l w1 e w') (hb : Below w.heap.size w w1) : Gives l w e w' := by
  obtain ⟨A, c, h1, h2, h3⟩ := h
  exact ⟨A, c, h1, h2, hb.trans (h3.mono hb.size)⟩

theorem grown1 (w : World) (X : Obj) : Below w.heap.size w (w.alloc X) := (Below.refl w.heap.size w).alloc (Nat.le_refl _) X

theorem bool_any (v : Bool) (w : World) : Calls Try.prog 11 #[.bool v] w (Gives (elemL 1 [if v then 255 else 0]) w) := by
  cases v
  · have hr := Lib.hid (Rd.fresh w [0] (by simp))
    have hb := Lib.hid (grown1 w (.cells #[.int .u8 0] 5))
    go_enter Try.func11, Try.ntmps11
    go_wp2_with (go_at_call 53; refine (element_one 1 (by omega) (by omega) _ _ _ _ hr.out (by simp) 23 _ (by simp [go_sem]) 1 (by simp)).mono ?_; rintro e w' hg; obtain ⟨A, c, rfl, h2, h3⟩ := hg.from hb.out)
    go_ret
    exact ⟨A, c, rfl, h2, h3⟩
  · have hr := Lib.hid (Rd.fresh w [255] (by simp))
    have hb := Lib.hid (grown1 w (.cells #[.int .u8 255] 5))
    go_enter Try.func11, Try.ntmps11
    go_wp2_with (go_at_call 53; refine (element_one 1 (by omega) (by omega) _ _ _ _ hr.out (by simp) 23 _ (by simp [go_sem]) 1 (by simp)).mono ?_; rintro e w' hg; obtain ⟨A, c, rfl, h2, h3⟩ := hg.from hb.out)
    go_ret
    exact ⟨A, c, rfl, h2, h3⟩

theorem octets_any (A : Option Addr) (c : Nat) (l : List Int) (w : World) (h : Rd w A c l) (hn : l.length ≤ 16777215) : Calls Try.prog 19 #[.slice A l.length c] w (Gives (elemL 4 l) w) := by
  have hr := Lib.hid h; clear h
  go_enter Try.func19, Try.ntmps19
  go_wp2_with (go_at_call 53; refine (element_one 4 (by omega) (by omega) _ _ _ _ hr.out hn 23 _ rfl _ rfl).mono ?_; rintro e w' hg; obtain ⟨A', c', rfl, h2, h3⟩ := hg)
  go_ret
  exact ⟨A', c', rfl, h2, h3⟩

theorem sequence_any (P : Option Addr) (cap : Nat) (ps : List (Option Addr × Nat × List Int)) (w : World) (h : Parts w P ps) (hn : (total ps).length ≤ 16777215) (hk : ps.length ≤ 1000) : Calls Try.prog 27 #[.slice P ps.length cap] w (Gives (elemL 48 (total ps)) w) := by
  have hr := Lib.hid h; clear h
  go_enter Try.func27, Try.ntmps27
  go_wp2_with (go_at_call 53; refine (element_any 48 (by omega) (by omega) _ _ _ _ hr.out hn hk).mono ?_; rintro e w' hg; obtain ⟨A', c', rfl, h2, h3⟩ := hg)
  go_ret
  exact ⟨A', c', rfl, h2, h3⟩

theorem wrapped_any (tag n : Int) (ht0 : 0 ≤ tag) (ht1 : tag ≤ 200) (A : Option Addr) (c : Nat) (l : List Int) (w : World) (h : Rd w A c l) (hn : l.length ≤ 16777215) : Calls Try.prog 56 #[.int .i64 tag, .int .i64 n, .slice A l.length c] w (Gives (if n < 0 ∨ n > 30 ∨ l.length = 0 then [] else elemL (tag + n) l) w) := by
  have hr := Lib.hid h; clear h
  by_cases c1 : n < 0
  · rw [if_pos (Or.inl c1)]
    go_enter Try.func56, Try.ntmps56
    go_wp2_with fail
    go_ret
    exact ⟨none, 0, rfl, Rd.nil _, Below.refl _ _⟩
  by_cases c2 : n > 30
  · rw [if_pos (Or.inr (Or.inl c2))]
    go_enter Try.func56, Try.ntmps56
    go_wp2_with fail
    go_ret
    exact ⟨none, 0, rfl, Rd.nil _, Below.refl _ _⟩
  by_cases c3 : l.length = 0
  · rw [if_pos (Or.inr (Or.inr c3))]
    go_enter Try.func56, Try.ntmps56
    go_wp2_with fail
    go_ret
    exact ⟨none, 0, rfl, Rd.nil _, Below.refl _ _⟩
  · rw [if_neg (by omega)]
    have hw : (tag + n) % 256 = tag + n := by omega
    have hlt : tag + n < 256 := by omega
    have hge : 0 ≤ tag + n := by omega
    have hl0 : ¬ (l.length : Int) = 0 := by omega
    go_enter Try.func56, Try.ntmps56
    go_wp2_with (go_at_call 53; refine (element_one (tag + n) hge hlt _ _ _ _ hr.out hn 23 _ rfl _ rfl).mono ?_; rintro e w' hg; obtain ⟨A', c', rfl, h2, h3⟩ := hg)
    go_ret
    exact ⟨A', c', rfl, h2, h3⟩

end Go.Proofs.Ytmkejehjjpaelaa
