/- Layer 11 (der): known, the chapter's examples. -/
import Derived.Test.YtmkejehjjpaelaaStr
namespace Go.Proofs.Ytmkejehjjpaelaa
open Go.ChangeShapes Go.WideShapes Go.ChangeAt Go.RowKit
set_option linter.unusedVariables false

theorem tagged_any (n : Int) (A : Option Addr) (c : Nat) (l : List Int) (w : World) (h : Rd w A c l) (hn : l.length ≤ 16777215) (k : Nat) (hk : l.length = k) : Calls Try.prog 25 #[.int .i64 n, .slice A k c] w (Gives (if n < 0 ∨ n > 30 ∨ l.length = 0 then [] else elemL (160 + n) l) w) := by
  subst hk
  have hW := wrapped_any 160 n (by omega) (by omega) A c l w h hn; clear h
  generalize hL : (if n < 0 ∨ n > 30 ∨ l.length = 0 then [] else elemL (160 + n) l) = L at *
  have hW := Lib.hid hW; clear hL
  go_enter Try.func25, Try.ntmps25
  go_wp2_with fail
  refine Calls.mono hW.out ?_
  rintro e w' ⟨A', c', rfl, h2, h3⟩
  go_wp2_with fail
  go_ret
  exact ⟨A', c', rfl, h2, h3⟩

/-- der.Tagged(2, nil) -/
theorem tagged_nil (w : World) : Calls Try.prog 25 #[.int .i64 2, .slice none 0 0] w (Gives [] w) := tagged_any 2 none 0 [] w (Rd.nil w) (by simp) 0 rfl

theorem tagged_a (A : Option Addr) (c : Nat) (w : World) (h : Rd w A c [27, 1, 97]) : Calls Try.prog 25 #[.int .i64 1, .slice A 3 c] w (Gives [161, 3, 27, 1, 97] w) := tagged_any 1 A c [27, 1, 97] w h (by simp) 3 rfl

theorem sequence_a (w : World) (A6 : Option Addr) (c6 : Nat) (h6 : Rd w A6 c6 [2, 1, 5]) (A8 : Option Addr) (c8 : Nat) (h8 : Rd w A8 c8 [161, 3, 27, 1, 97]) (A9 : Option Addr) (c9 : Nat) (h9 : Rd w A9 c9 []) :
    Calls Try.prog 27 #[.slice (some ⟨w.heap.size, 0, none⟩) 3 3] (w.alloc (.cells #[.slice A6 3 c6, .slice A8 5 c8, .slice A9 0 c9] 23)) (Gives [48, 8, 2, 1, 5, 161, 3, 27, 1, 97] w) := by
  have hp := parts_three w A6 c6 _ h6 A8 c8 _ h8 A9 c9 _ h9 23
  have hq : Calls Try.prog 27 #[.slice (some ⟨w.heap.size, 0, none⟩) [(A6, c6, [(2 : Int), 1, 5]), (A8, c8, [161, 3, 27, 1, 97]), (A9, c9, [])].length 3] _ _ := sequence_any (some ⟨w.heap.size, 0, none⟩) 3 [(A6, c6, [2, 1, 5]), (A8, c8, [161, 3, 27, 1, 97]), (A9, c9, [])] _ hp (by simp [total]) (by simp)
  simp only [List.length_cons, List.length_nil, Nat.zero_add, Nat.reduceAdd] at hq
  refine hq.mono ?_
  intro e w' hg
  have he : elemL 48 (total [(A6, c6, [2, 1, 5]), (A8, c8, [161, 3, 27, 1, 97]), (A9, c9, [])]) = [48, 8, 2, 1, 5, 161, 3, 27, 1, 97] := by simp [elemL, total, lenB]
  rw [he] at hg
  exact Gives.from hg (grown1 _ _)

theorem exam_below {w w0 w2 w3 : World} {X : Obj} (h : Below w.heap.size w w0) (h1 : Below (w0.alloc X).heap.size (w0.alloc X) w2) (h2 : Below w0.heap.size w2 w3) : Below w.heap.size w w3 := by
  refine h.trans (Below.mono ?_ h.size)
  exact ((grown1 w0 X).trans (h1.mono (grown1 w0 X).size)).trans h2

theorem conv_at {w : World} {A : Option Addr} {c : Nat} {l : List Int} (h : Rd w A c l) (k : Nat) (hk : l.length = k) (s : ByteArray) (hs : strOfNums l = s) : (convert 23 9 (.slice A k c)).run Try.prog w = .ok (.string s) w := by
  subst hk; subst hs; exact conv_any h

set_option maxRecDepth 20000 in
set_option maxHeartbeats 4000000 in
theorem known_any (w : World) : Calls Try.prog 10 #[] w fun e w' => e = .returned (.bool true) ∧ Below w.heap.size w w' := by
  go_enter Try.func10, Try.ntmps10
  go_wp2_with fail
  refine (wint_0 _).mono ?_
  rintro e w1 ⟨A1, c1, rfl, hr1, hb1⟩
  have hcv := conv_at hr1 3 rfl ⟨#[2, 1, 0]⟩ rfl
  clear hr1
  go_wp2_with fail
  refine (wint_128 _).mono ?_
  rintro e w2 ⟨A2, c2, rfl, hr2, hb2⟩
  have hcv := conv_at hr2 4 rfl ⟨#[2, 2, 0, 128]⟩ rfl
  clear hr2
  go_wp2_with fail
  refine (wint_m129 _).mono ?_
  rintro e w3 ⟨A3, c3, rfl, hr3, hb3⟩
  have hcv := conv_at hr3 4 rfl ⟨#[2, 2, 255, 127]⟩ rfl
  clear hr3
  go_wp2_with fail
  refine (wtime_1 _).mono ?_
  rintro e w4 ⟨A4, c4, rfl, hr4, hb4⟩
  have hcv := conv_at hr4 8 rfl ⟨#[24, 6, 0, 0, 0, 0, 0, 1]⟩ rfl
  clear hr4
  go_wp2_with fail
  refine (wbits_5 _).mono ?_
  rintro e w5 ⟨A5, c5, rfl, hr5, hb5⟩
  have hcv := conv_at hr5 7 rfl ⟨#[3, 5, 0, 0, 0, 0, 5]⟩ rfl
  clear hr5
  go_wp2_with fail
  refine (wint_5 _).mono ?_
  rintro e w6 ⟨A6, c6, rfl, hr6, hb6⟩
  go_wp2_with fail
  refine (wstr_a _).mono ?_
  rintro e w7 ⟨A7, c7, rfl, hr7, hb7⟩
  go_wp2_with fail
  refine (tagged_a A7 c7 _ hr7).mono ?_
  rintro e w8 ⟨A8, c8, rfl, hr8, hb8⟩
  go_wp2_with fail
  refine (tagged_nil _).mono ?_
  rintro e w9 ⟨A9, c9, rfl, hr9, hb9⟩
  have hs := sequence_a w9 A6 c6 ((hr6.below hb7).below (hb8.trans (hb9.mono hb8.size))) A8 c8 (hr8.below hb9) A9 c9 hr9
  have HS := Lib.hid hs
  clear hr6 hr7 hr8 hr9 hs
  go_wp2_with fail
  refine HS.out.mono ?_
  rintro e w10 ⟨A10, c10, rfl, hr10, hb10⟩
  have hcv := conv_at hr10 10 rfl ⟨#[48, 8, 2, 1, 5, 161, 3, 27, 1, 97]⟩ rfl
  clear hr10 HS
  have T10 : Below w.heap.size w w10 := by
    refine hb1.trans (Below.mono ?_ hb1.size)
    refine hb2.trans (Below.mono ?_ hb2.size)
    refine hb3.trans (Below.mono ?_ hb3.size)
    refine hb4.trans (Below.mono ?_ hb4.size)
    refine hb5.trans (Below.mono ?_ hb5.size)
    refine hb6.trans (Below.mono ?_ hb6.size)
    refine hb7.trans (Below.mono ?_ hb7.size)
    refine hb8.trans (Below.mono ?_ hb8.size)
    exact hb9.trans (hb10.mono hb9.size)
  have T10 := Lib.hid T10
  clear hb1 hb2 hb3 hb4 hb5 hb6 hb7 hb8 hb9 hb10
  have hf := Lib.hid (Rd.fresh w10 [2, 2, 0, 5] (by simp))
  go_wp2_with fail
  refine (new_reader _ _ [2, 2, 0, 5] _ hf.out (by simp) (by simp)).mono ?_
  rintro e w11 ⟨b, q, c', rfl, k1, k2, k3, k4, k5, hA, hB, hC, hz, hl, hbw⟩
  have k0 : w10.heap.size ≤ b := Nat.le_trans (grown1 w10 _).size k1
  have HR := Lib.hid (int_1 b q c' w11 w10.heap.size k0 k2 k3 k5 k4 hA hB hC hz hl)
  clear hA hB hC hz hl k1 k2 k3 k4 k5 k0 hf
  go_wp2_with fail
  refine HR.out.mono ?_
  rintro e w12 ⟨rfl, hB2⟩
  have T12 := Lib.hid (exam_below T10.out hbw hB2)
  clear hbw hB2 HR
  have hf := Lib.hid (Rd.fresh w12 [2, 129, 1, 5] (by simp))
  go_wp2_with fail
  refine (new_reader _ _ [2, 129, 1, 5] _ hf.out (by simp) (by simp)).mono ?_
  rintro e w13 ⟨b, q, c', rfl, k1, k2, k3, k4, k5, hA, hB, hC, hz, hl, hbw⟩
  have k0 : w12.heap.size ≤ b := Nat.le_trans (grown1 w12 _).size k1
  have HR := Lib.hid (int_2 b q c' w13 w12.heap.size k0 k2 k3 k5 k4 hA hB hC hz hl)
  clear hA hB hC hz hl k1 k2 k3 k4 k5 k0 hf
  go_wp2_with fail
  refine HR.out.mono ?_
  rintro e w14 ⟨rfl, hB2⟩
  have T14 := Lib.hid (exam_below T12.out hbw hB2)
  clear hbw hB2 HR
  have hf := Lib.hid (Rd.fresh w14 [2, 2, 5] (by simp))
  go_wp2_with fail
  refine (new_reader _ _ [2, 2, 5] _ hf.out (by simp) (by simp)).mono ?_
  rintro e w15 ⟨b, q, c', rfl, k1, k2, k3, k4, k5, hA, hB, hC, hz, hl, hbw⟩
  have k0 : w14.heap.size ≤ b := Nat.le_trans (grown1 w14 _).size k1
  have HR := Lib.hid (int_3 b q c' w15 w14.heap.size k0 k2 k3 k5 k4 hA hB hC hz hl)
  clear hA hB hC hz hl k1 k2 k3 k4 k5 k0 hf
  go_wp2_with fail
  refine HR.out.mono ?_
  rintro e w16 ⟨rfl, hB2⟩
  have T16 := Lib.hid (exam_below T14.out hbw hB2)
  clear hbw hB2 HR
  have hf := Lib.hid (Rd.fresh w16 [4, 1, 5] (by simp))
  go_wp2_with fail
  refine (new_reader _ _ [4, 1, 5] _ hf.out (by simp) (by simp)).mono ?_
  rintro e w17 ⟨b, q, c', rfl, k1, k2, k3, k4, k5, hA, hB, hC, hz, hl, hbw⟩
  have k0 : w16.heap.size ≤ b := Nat.le_trans (grown1 w16 _).size k1
  have HR := Lib.hid (int_4 b q c' w17 w16.heap.size k0 k2 k3 k5 k4 hA hB hC hz hl)
  clear hA hB hC hz hl k1 k2 k3 k4 k5 k0 hf
  go_wp2_with fail
  refine HR.out.mono ?_
  rintro e w18 ⟨rfl, hB2⟩
  have T18 := Lib.hid (exam_below T16.out hbw hB2)
  clear hbw hB2 HR
  go_wp2_with fail
  go_ret
  exact ⟨rfl, T18.out⟩
end Go.Proofs.Ytmkejehjjpaelaa
