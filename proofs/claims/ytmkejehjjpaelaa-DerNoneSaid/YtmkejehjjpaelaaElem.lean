/- Walks of layer 11 (der): fixed, element. -/
import Derived.Test.YtmkejehjjpaelaaBytes
namespace Go.Proofs.Ytmkejehjjpaelaa
open Go.ChangeShapes Go.WideShapes Go.ChangeAt Go.RowKit
set_option linter.unusedVariables false

theorem fixed_1 (v : Int) (w : World) :
    Calls Try.prog 55 #[.int .i64 v, .int .i64 1] w fun e w' => e = .returned (.slice (some ⟨w.heap.size, 0, none⟩) 1 1) ∧ w.alloc (.cells #[.int .u8 (v % 256)] 5) = w' := by
  have hmk : ∀ w : World, (Instr.makeSlice 23 (.int .i64 1) (.int .i64 1)).run Try.prog w = .ok (.slice (some ⟨w.heap.size, 0, none⟩) 1 1) (w.alloc (.cells #[.int .u8 0] 5)) := fun _ => by kernel_rfl
  go_enter Try.func55, Try.ntmps55
  go_wp2
  go_rounds 2
  go_ret
  exact ⟨rfl, rfl⟩

theorem fixed_2 (v : Int) (w : World) :
    Calls Try.prog 55 #[.int .i64 v, .int .i64 2] w fun e w' => e = .returned (.slice (some ⟨w.heap.size, 0, none⟩) 2 2) ∧ w.alloc (.cells #[.int .u8 (v / 256 % 256), .int .u8 (v % 256)] 5) = w' := by
  have hmk : ∀ w : World, (Instr.makeSlice 23 (.int .i64 2) (.int .i64 2)).run Try.prog w = .ok (.slice (some ⟨w.heap.size, 0, none⟩) 2 2) (w.alloc (.cells #[.int .u8 0, .int .u8 0] 5)) := fun _ => by kernel_rfl
  go_enter Try.func55, Try.ntmps55
  go_wp2
  go_rounds 3
  go_ret
  exact ⟨rfl, rfl⟩

theorem fixed_3 (v : Int) (w : World) :
    Calls Try.prog 55 #[.int .i64 v, .int .i64 3] w fun e w' => e = .returned (.slice (some ⟨w.heap.size, 0, none⟩) 3 3) ∧ w.alloc (.cells #[.int .u8 (v / 65536 % 256), .int .u8 (v / 256 % 256), .int .u8 (v % 256)] 5) = w' := by
  have hmk : ∀ w : World, (Instr.makeSlice 23 (.int .i64 3) (.int .i64 3)).run Try.prog w = .ok (.slice (some ⟨w.heap.size, 0, none⟩) 3 3) (w.alloc (.cells #[.int .u8 0, .int .u8 0, .int .u8 0] 5)) := fun _ => by kernel_rfl
  go_enter Try.func55, Try.ntmps55
  go_wp2
  go_rounds 4
  go_ret
  exact ⟨rfl, rfl⟩

theorem fixed_4 (v : Int) (w : World) :
    Calls Try.prog 55 #[.int .i64 v, .int .i64 4] w fun e w' => e = .returned (.slice (some ⟨w.heap.size, 0, none⟩) 4 4) ∧ w.alloc (.cells #[.int .u8 (v / 16777216 % 256), .int .u8 (v / 65536 % 256), .int .u8 (v / 256 % 256), .int .u8 (v % 256)] 5) = w' := by
  have hmk : ∀ w : World, (Instr.makeSlice 23 (.int .i64 4) (.int .i64 4)).run Try.prog w = .ok (.slice (some ⟨w.heap.size, 0, none⟩) 4 4) (w.alloc (.cells #[.int .u8 0, .int .u8 0, .int .u8 0, .int .u8 0] 5)) := fun _ => by kernel_rfl
  go_enter Try.func55, Try.ntmps55
  go_wp2
  go_rounds 5
  go_ret
  exact ⟨rfl, rfl⟩

theorem fixed_5 (v : Int) (w : World) :
    Calls Try.prog 55 #[.int .i64 v, .int .i64 5] w fun e w' => e = .returned (.slice (some ⟨w.heap.size, 0, none⟩) 5 5) ∧ w.alloc (.cells #[.int .u8 (v / 4294967296 % 256), .int .u8 (v / 16777216 % 256), .int .u8 (v / 65536 % 256), .int .u8 (v / 256 % 256), .int .u8 (v % 256)] 5) = w' := by
  have hmk : ∀ w : World, (Instr.makeSlice 23 (.int .i64 5) (.int .i64 5)).run Try.prog w = .ok (.slice (some ⟨w.heap.size, 0, none⟩) 5 5) (w.alloc (.cells #[.int .u8 0, .int .u8 0, .int .u8 0, .int .u8 0, .int .u8 0] 5)) := fun _ => by kernel_rfl
  go_enter Try.func55, Try.ntmps55
  go_wp2
  go_rounds 6
  go_ret
  exact ⟨rfl, rfl⟩

theorem fixed_6 (v : Int) (w : World) :
    Calls Try.prog 55 #[.int .i64 v, .int .i64 6] w fun e w' => e = .returned (.slice (some ⟨w.heap.size, 0, none⟩) 6 6) ∧ w.alloc (.cells #[.int .u8 (v / 1099511627776 % 256), .int .u8 (v / 4294967296 % 256), .int .u8 (v / 16777216 % 256), .int .u8 (v / 65536 % 256), .int .u8 (v / 256 % 256), .int .u8 (v % 256)] 5) = w' := by
  have hmk : ∀ w : World, (Instr.makeSlice 23 (.int .i64 6) (.int .i64 6)).run Try.prog w = .ok (.slice (some ⟨w.heap.size, 0, none⟩) 6 6) (w.alloc (.cells #[.int .u8 0, .int .u8 0, .int .u8 0, .int .u8 0, .int .u8 0, .int .u8 0] 5)) := fun _ => by kernel_rfl
  go_enter Try.func55, Try.ntmps55
  go_wp2
  go_rounds 7
  go_ret
  exact ⟨rfl, rfl⟩

theorem fixed_7 (v : Int) (w : World) :
    Calls Try.prog 55 #[.int .i64 v, .int .i64 7] w fun e w' => e = .returned (.slice (some ⟨w.heap.size, 0, none⟩) 7 7) ∧ w.alloc (.cells #[.int .u8 (v / 281474976710656 % 256), .int .u8 (v / 1099511627776 % 256), .int .u8 (v / 4294967296 % 256), .int .u8 (v / 16777216 % 256), .int .u8 (v / 65536 % 256), .int .u8 (v / 256 % 256), .int .u8 (v % 256)] 5) = w' := by
  have hmk : ∀ w : World, (Instr.makeSlice 23 (.int .i64 7) (.int .i64 7)).run Try.prog w = .ok (.slice (some ⟨w.heap.size, 0, none⟩) 7 7) (w.alloc (.cells #[.int .u8 0, .int .u8 0, .int .u8 0, .int .u8 0, .int .u8 0, .int .u8 0, .int .u8 0] 5)) := fun _ => by kernel_rfl
  go_enter Try.func55, Try.ntmps55
  go_wp2
  go_rounds 8
  go_ret
  exact ⟨rfl, rfl⟩

theorem fixed_8 (v : Int) (w : World) :
    Calls Try.prog 55 #[.int .i64 v, .int .i64 8] w fun e w' => e = .returned (.slice (some ⟨w.heap.size, 0, none⟩) 8 8) ∧ w.alloc (.cells #[.int .u8 (v / 72057594037927936 % 256), .int .u8 (v / 281474976710656 % 256), .int .u8 (v / 1099511627776 % 256), .int .u8 (v / 4294967296 % 256), .int .u8 (v / 16777216 % 256), .int .u8 (v / 65536 % 256), .int .u8 (v / 256 % 256), .int .u8 (v % 256)] 5) = w' := by
  have hmk : ∀ w : World, (Instr.makeSlice 23 (.int .i64 8) (.int .i64 8)).run Try.prog w = .ok (.slice (some ⟨w.heap.size, 0, none⟩) 8 8) (w.alloc (.cells #[.int .u8 0, .int .u8 0, .int .u8 0, .int .u8 0, .int .u8 0, .int .u8 0, .int .u8 0, .int .u8 0] 5)) := fun _ => by kernel_rfl
  go_enter Try.func55, Try.ntmps55
  go_wp2
  go_rounds 9
  go_ret
  exact ⟨rfl, rfl⟩

/-- an element -/
def elemL (tag : Int) (l : List Int) : List Int := tag :: (lenB l.length ++ l)

/-- a slice of slices of bytes -/
def Parts (w : World) (P : Option Addr) (ps : List (Option Addr × Nat × List Int)) : Prop := ps = [] ∨ ∃ b off, P = some ⟨b, off, none⟩ ∧ b < w.heap.size ∧
  ∀ (i : Nat) (A : Option Addr) (c : Nat) (l : List Int), ps[i]? = some (A, c, l) → w.cell? ⟨b, off + i, none⟩ = some (.slice A l.length c) ∧ Rd w A c l

def total (ps : List (Option Addr × Nat × List Int)) : List Int := (ps.map (·.2.2)).flatten

theorem total_snoc (ps : List (Option Addr × Nat × List Int)) (k : Nat) (h : k < ps.length) : total (ps.take (k + 1)) = total (ps.take k) ++ (ps[k]'h).2.2 := by
  unfold total
  rw [List.take_succ_eq_append_getElem h, List.map_append, List.flatten_append]
  simp only [List.map_cons, List.map_nil, List.flatten_cons, List.flatten_nil, List.append_nil]
theorem total_le (ps : List (Option Addr × Nat × List Int)) (k : Nat) : (total (ps.take k)).length ≤ (total ps).length := by
  have : total ps = total (ps.take k) ++ total (ps.drop k) := by
    unfold total
    rw [← List.flatten_append, ← List.map_append, List.take_append_drop]
  rw [this]; simp

theorem lenB_range (n : Int) (h0 : 0 ≤ n) (h1 : n ≤ 16777215) : ∀ x ∈ lenB n, 0 ≤ x ∧ x < 256 := by
  unfold lenB
  intro x hx
  split at hx
  · simp at hx; omega
  · split at hx
    · simp at hx; omega
    · split at hx
      · simp at hx; omega
      · simp at hx; omega
theorem lenB_len (n : Int) : (lenB n).length ≤ 4 := by
  unfold lenB
  split
  · simp
  · split
    · simp
    · split <;> simp

theorem total_range {w : World} {P : Option Addr} {ps : List (Option Addr × Nat × List Int)} (h : Parts w P ps) : ∀ x ∈ total ps, 0 ≤ x ∧ x < 256 := by
  intro x hx
  rcases h with h | ⟨b, off, _, _, hc⟩
  · subst h; simp [total] at hx
  · unfold total at hx
    simp at hx
    obtain ⟨l, ⟨A, c, hmem⟩, hxl⟩ := hx
    obtain ⟨i, hi, hget⟩ := List.mem_iff_getElem.1 hmem
    exact (hc i A c l (by rw [List.getElem?_eq_getElem hi, hget])).2.1 x hxl

theorem element_any (tag : Int) (ht0 : 0 ≤ tag) (ht1 : tag < 256) (P : Option Addr) (cap : Nat) (ps : List (Option Addr × Nat × List Int)) (w : World) (h : Parts w P ps) (hn : (total ps).length ≤ 16777215) (hk : ps.length ≤ 1000) :
    Calls Try.prog 53 #[.int .u8 tag, .slice P ps.length cap] w fun e w' => ∃ A c, e = .returned (.slice A (elemL tag (total ps)).length c) ∧ Rd w' A c (elemL tag (total ps)) ∧ Below w.heap.size w w' := by
  have HP2 := Lib.hid (total_range h)
  have HP := Lib.hid h; clear h
  have hle := fun k => total_le ps k
  have HL := Lib.hid hle; clear hle
  go_enter Try.func53, Try.ntmps53
  go_wp2
  go_loop [5, 13] (fun n i => ∃ k : Nat, k ≤ ps.length ∧ i = .int .i64 k ∧ n = .int .i64 (total (ps.take k)).length) (fun _ i => ps.length - (intOf i).toNat)
  case atStart => exact ⟨0, Nat.zero_le _, rfl, rfl⟩
  case round =>
    obtain ⟨k, hk1, rfl, rfl⟩ := hrel
    by_cases hlt : k < ps.length
    · obtain ⟨b, off, rfl, hb, hc⟩ := HP.out.resolve_left (by intro e; subst e; simp at hlt)
      obtain ⟨hc1, hc2⟩ := hc k _ _ _ (by rw [List.getElem?_eq_getElem hlt])
      have hs := total_snoc ps k hlt
      have hl1 := HL.out (k + 1)
      have hl0 := HL.out k
      have hb1 : (total (ps.take k)).length + (ps[k]'hlt).2.2.length ≤ 16777215 := by rw [hs] at hl1; simp at hl1; omega
      have HS := Lib.hid hs; clear hs hl1 hc
      generalize hq : ps[k]'hlt = q at *
      have HQ := Lib.hid hq; clear hq
      obtain ⟨qa, qc, ql⟩ := q
      simp only at hc1 hc2 hb1 HS
      go_wp2
      go_round
      case rel => exact ⟨k + 1, by omega, by go_num, by rw [HS.out]; simp⟩
      case measure => simp [intOf]; omega
    · have hkk : ps.take k = ps := List.take_of_length_le (by omega)
      rw [hkk]
      have HK := Lib.hid hkk; clear hkk
      have htl : (total ps).length ≤ 16777215 := hn
      go_wp2_with fail
      refine (lengthOf_any _ _ (by omega) (by omega)).mono ?_
      rintro e w1 ⟨rfl, rfl⟩
      have hown0 := (own_fresh w [tag] (by simp [maxLen])).alloc (.cells ((lenB (total ps).length).map (Value.int .u8)).toArray 5)
      have hrl : Rd ((w.alloc (.cells #[.int .u8 tag] 5)).alloc (.cells ((lenB (total ps).length).map (Value.int .u8)).toArray 5)) (some ⟨w.heap.size + 1, 0, none⟩) (lenB (total ps).length).length (lenB (total ps).length) := by
        have := Rd.fresh (w.alloc (.cells #[.int .u8 tag] 5)) (lenB (total ps).length) (lenB_range _ (by omega) (by omega))
        rw [World.size_alloc] at this
        exact this
      have hll := lenB_len (total ps).length
      have O := Lib.hid hown0; have R := Lib.hid hrl
      clear hown0 hrl
      generalize hL : lenB (total ps).length = L at *
      have HLL := Lib.hid hL; clear hL
      have HA : Hid ([tag].length + L.length ≤ 1000000000) := by show [tag].length + L.length ≤ 1000000000; simp only [List.length_singleton]; omega
      have HB : Hid (w.heap.size ≤ ((w.alloc (.cells #[.int .u8 tag] 5)).alloc (.cells (L.map (Value.int .u8)).toArray 5)).heap.size) := by show w.heap.size ≤ _; rw [World.size_alloc, World.size_alloc]; omega
      go_wp2_with (at_builtin; refine wp_app rfl (.tmp 25) (.tmp 27) rfl w.heap.size _ [tag] rfl O.out _ _ L rfl R.out HA.out HB.out ?_; intro A1 c1 w1 hown1 hB1)
      have T1 : Below w.heap.size w w1 := Below.trans (by go_grown) hB1
      have hown1 := Lib.hid hown1
      clear hB1 O R HA HB
      go_loopw [8, 31] (fun v i wr => ∃ (k2 : Nat) (A : Option Addr) (c : Nat) (xs : List Int), k2 ≤ ps.length ∧ i = .int .i64 k2 ∧ v = .slice A xs.length c ∧ Hid (xs = [tag] ++ L ++ total (ps.take k2)) ∧ Hid (wr.ownsRow w.heap.size 5 1 (.slice A xs.length c) xs.length (xs.map (Value.int .u8))) ∧ Below w.heap.size w wr) (fun _ i _ => ps.length - (intOf i).toNat)
      case atStart => exact ⟨0, A1, c1, [tag] ++ L, Nat.zero_le _, rfl, by simp, by show _ = _; simp [total], hown1, T1⟩
      case round =>
        clear hown1 T1
        obtain ⟨k2, A, c, xs, hk2, rfl, rfl, hxs, hown, hbw⟩ := hrel
        by_cases hlt2 : k2 < ps.length
        · obtain ⟨b, off, rfl, hb, hc⟩ := HP.out.resolve_left (by intro e; subst e; simp at hlt2)
          obtain ⟨hc1, hc2⟩ := hc k2 _ _ _ (by rw [List.getElem?_eq_getElem hlt2])
          have hs := total_snoc ps k2 hlt2
          have hl1 := HL.out (k2 + 1)
          have hl0 := HL.out k2
          have hb1 : (total (ps.take k2)).length + (ps[k2]'hlt2).2.2.length ≤ 16777215 := by rw [hs] at hl1; simp at hl1; omega
          have hxl : xs.length ≤ 16777220 := by rw [hxs.out]; simp; omega
          have HS := Lib.hid hs; clear hs hl1 hc
          generalize hq : ps[k2]'hlt2 = q at *
          have HQ := Lib.hid hq; clear hq
          obtain ⟨qa, qc, ql⟩ := q
          simp only at hc1 hc2 hb1 HS
          have hc3 := (hbw.cell (p := ⟨b, off + k2, none⟩) hb).trans hc1
          have hc4 := Lib.hid (hc2.below hbw)
          have HA : Hid (xs.length + ql.length ≤ 1000000000) := by show _ ≤ _; omega
          have HB : Hid (w.heap.size ≤ wr.heap.size) := hbw.size
          go_wp2_with (at_builtin; refine wp_app rfl (.tmp 35) (.tmp 36) rfl w.heap.size _ xs rfl hown.out _ _ ql rfl hc4.out HA.out HB.out ?_; intro A2 c2 w2 hown2 hB2)
          have T2 : Below w.heap.size w w2 := hbw.trans hB2
          have hown2 := Lib.hid hown2
          clear hown hB2 hc3 hc4 hc1
          go_wp2
          go_roundw
          case rel => exact ⟨k2 + 1, A2, c2, xs ++ ql, by omega, by go_num, by simp, by show _ = _; rw [hxs.out, HS.out]; simp, hown2, T2⟩
          case measure => simp [intOf]; omega
        · go_wp2
          go_ret
          have hk3 : ps.take k2 = ps := List.take_of_length_le (by omega)
          have hxe : xs = elemL tag (total ps) := by rw [hxs.out, hk3, ← HLL.out]; simp [elemL]
          have hrd : Rd wr A c xs := Rd.own (by
            rw [hxe]; unfold elemL
            intro x hx
            simp at hx
            rcases hx with rfl | hx | hx
            · exact ⟨ht0, ht1⟩
            · exact lenB_range _ (by omega) (by omega) x hx
            · exact HP2.out x hx) hown.out
          rw [hxe] at hrd
          refine ⟨A, c, ?_, hrd, hbw⟩
          rw [← hxe]
          rfl

end Go.Proofs.Ytmkejehjjpaelaa
