/- Layer 11 (der): strings as bytes; Bits and String and Tagged of the chapter's examples. -/
import Derived.Test.YtmkejehjjpaelaaExam
import Derived.Laws.IdiomStrings
namespace Go.Proofs.Ytmkejehjjpaelaa
open Go.ChangeShapes Go.WideShapes Go.ChangeAt Go.RowKit
set_option linter.unusedVariables false

theorem rd_bytes (w : World) (s : ByteArray) (cap : Nat) (e : TypeId) (fr : Nat × Nat) : Rd (w.alloc (.cells (bytesRow s cap) e fr)) (some ⟨w.heap.size, 0, none⟩) cap (s.data.toList.map fun b => (b.toNat : Int)) := by
  refine ⟨?_, Or.inr ⟨_, rfl, by simp, fun i x hx => ?_⟩⟩
  · intro x hx
    obtain ⟨b, _, rfl⟩ := List.mem_map.1 hx
    have := b.toNat_lt
    omega
  · rw [Go.WideShapes.add_plain, Nat.zero_add]
    rw [List.getElem?_map] at hx
    cases hb : s.data.toList[i]? with
    | none => rw [hb] at hx; simp at hx
    | some y =>
      rw [hb] at hx; simp at hx; subst hx
      have hi : i < s.data.size := by
        rcases Nat.lt_or_ge i s.data.size with h | h
        · exact h
        · rw [List.getElem?_eq_none (by simpa using h)] at hb; cases hb
      have hrow := bytesRow_at s cap i hi
      have hy : s.data[i] = y := by
        have : s.data.toList[i]? = some s.data[i] := by simp
        rw [this] at hb; exact Option.some.inj hb
      rw [hy] at hrow
      unfold World.cell?
      rw [heap_alloc_new]
      simp [hrow]

theorem wstr_a (w : World) : Calls Try.prog 21 #[.string ⟨#[97]⟩] w (Gives [27, 1, 97] w) := by
  have hcv : ∀ w : World, (convert 9 23 (.string ⟨#[97]⟩)).run Try.prog w = _ := fun w => run_bytes_of_string (P := Try.prog) w 9 23 5 ⟨#[97]⟩ Try.underlying9 Try.underlying23 Try.underlying5
  have hr := Lib.hid (rd_bytes w.drew ⟨#[97]⟩ (grownCap w 1 0 5) 5 ((bytesRow ⟨#[97]⟩ (grownCap w 1 0 5)).size, (bytesRow ⟨#[97]⟩ (grownCap w 1 0 5)).size + 1))
  have hE := Lib.hid (element_one 27 (by omega) (by omega) _ _ [97] _ hr.out (by simp) 23 (w.heap.size + 1) (by rw [World.size_alloc]; rfl) 1 rfl)
  have hb : Below w.heap.size w (w.drew.alloc (.cells (bytesRow ⟨#[97]⟩ (grownCap w 1 0 5)) 5 ((bytesRow ⟨#[97]⟩ (grownCap w 1 0 5)).size, (bytesRow ⟨#[97]⟩ (grownCap w 1 0 5)).size + 1))) := ((Below.refl w.heap.size w).drew).alloc (Nat.le_refl _) _
  have HB := Lib.hid hb; clear hb hr
  go_enter Try.func21, Try.ntmps21
  go_wp2_with fail
  refine Calls.mono hE.out ?_
  rintro e w' hg
  obtain ⟨A, c, rfl, h2, h3⟩ := hg.from HB.out
  go_wp2_with fail
  go_ret
  exact ⟨A, c, rfl, h2, h3⟩

theorem element_two (tag : Int) (ht0 : 0 ≤ tag) (ht1 : tag < 256) (A : Option Addr) (c : Nat) (l : List Int) (A2 : Option Addr) (c2 : Nat) (l2 : List Int) (w : World) (h : Rd w A c l) (h2 : Rd w A2 c2 l2) (hn : l.length + l2.length ≤ 16777215) (T : TypeId) (p : Nat) (hp : w.heap.size = p) (n : Nat) (hl : l.length = n) (n2 : Nat) (hl2 : l2.length = n2) :
    Calls Try.prog 53 #[.int .u8 tag, .slice (some ⟨p, 0, none⟩) 2 2] (w.alloc (.cells #[.slice A n c, .slice A2 n2 c2] T)) (Gives (elemL tag (l ++ l2)) w) := by
  subst hp; subst hl; subst hl2
  have ht : total [(A, c, l), (A2, c2, l2)] = l ++ l2 := by simp [total]
  refine (element_any tag ht0 ht1 _ 2 [(A, c, l), (A2, c2, l2)] _ (parts_two w A c l h A2 c2 l2 h2 T) (by rw [ht]; simpa using hn) (by simp)).mono ?_
  rintro e w' ⟨A', c', h1, h2, h3⟩
  rw [ht] at h1 h2
  exact ⟨A', c', h1, h2, (((Below.refl w.heap.size w).alloc (Nat.le_refl _) _).trans (h3.mono (by rw [World.size_alloc]; omega)))⟩

theorem wbits_5 (w : World) : Calls Try.prog 17 #[.int .u32 5] w (Gives [3, 5, 0, 0, 0, 0, 5] w) := by
  have hf : ∀ w : World, Calls Try.prog 55 #[.int .i64 5, .int .i64 4] w fun e w' => e = .returned (.slice (some ⟨w.heap.size, 0, none⟩) 4 4) ∧ w.alloc (.cells #[.int .u8 0, .int .u8 0, .int .u8 0, .int .u8 5] 5) = w' := fun w => fixed_4 5 w
  have hr1 := Lib.hid ((Rd.fresh w [0] (by simp)).alloc (.cells #[.int .u8 0, .int .u8 0, .int .u8 0, .int .u8 5] 5))
  have hr2 := Rd.fresh (w.alloc (.cells #[.int .u8 0] 5)) [0, 0, 0, 5] (by simp)
  rw [World.size_alloc] at hr2
  have hr2 := Lib.hid hr2
  have hb := Lib.hid ((grown1 w (.cells #[.int .u8 0] 5)).alloc (grown1 w (.cells #[.int .u8 0] 5)).size (.cells #[.int .u8 0, .int .u8 0, .int .u8 0, .int .u8 5] 5))
  go_enter Try.func17, Try.ntmps17
  go_wp2_with fail
  refine (hf _).mono ?_
  rintro e w' ⟨rfl, rfl⟩
  go_wp2_with fail
  refine (element_two 3 (by omega) (by omega) _ _ _ _ _ _ _ hr1.out hr2.out (by simp) 23 _ (by simp [go_sem]) 1 (by simp) 4 (by simp)).mono ?_
  rintro e w' hg
  obtain ⟨A, c, rfl, h2, h3⟩ := hg.from hb.out
  go_wp2_with fail
  go_ret
  exact ⟨A, c, rfl, h2, h3⟩
end Go.Proofs.Ytmkejehjjpaelaa
