/- The arithmetic of layer 47 (drift), the second part: what the stage's theorem needs. -/
import Derived.Test.YtjpnfpmgbeigbaaMath
namespace Go.Proofs.Ytjpnfpmgbeigbaa.Drift
set_option linter.unusedVariables false

theorem ok_of {a s r t : Int} (h0 : 0 ≤ t) (h1 : t ≤ 1099511627776) (h2 : a ≤ t) (h3 : 0 ≤ shw a s r t) (h4 : shw a s r t ≤ 1099511627776) : shE a s r t = 0 ∧ shV a s r t = shw a s r t := by
  unfold shE shV
  rw [if_neg (by omega), if_neg (by omega), if_neg (by omega), if_neg (by omega), if_neg (by omega), if_neg (by omega)]
  exact ⟨rfl, rfl⟩

theorem lin_lo {s p P : Int} (h2 : 0 ≤ s) (hp : 0 ≤ p) (b : -100000 * p ≤ P) : s ≤ s + p + P / 1000000 := by omega
theorem lin_hi {s p P : Int} (h3 : s ≤ 549755813888) (hp : p ≤ 274877906944) (b : P ≤ 100000 * p) (h0 : 0 ≤ p) : s + p + P / 1000000 ≤ 1099511627776 := by omega
theorem lin_add1 {P Q : Int} : P / 1000000 + (Q - P) / 1000000 ≤ Q / 1000000 := by omega
theorem lin_add2 {P Q : Int} : Q / 1000000 - 1 ≤ P / 1000000 + (Q - P) / 1000000 := by omega
theorem lin_sub {P Q d : Int} (h : -100000 * d ≤ Q - P) (hd : 0 ≤ d) : P / 1000000 ≤ d + Q / 1000000 := by omega

theorem lin_all {s p q P Q v u x : Int} (h2 : 0 ≤ s) (h3 : s ≤ 549755813888) (hp : 0 ≤ p) (hpq : p ≤ q) (hq : q ≤ 274877906944)
    (b1 : -100000 * p ≤ P) (a2 : Q ≤ 100000 * q) (b3 : -100000 * (q - p) ≤ Q - P)
    (ev : v = s + p + P / 1000000) (eu : u = s + q + Q / 1000000) (ex : x = v + (q - p) + (Q - P) / 1000000) :
    0 ≤ v ∧ v ≤ u ∧ u ≤ 1099511627776 ∧ v ≤ x ∧ x ≤ u ∧ u - 1 ≤ x := by
  have f1 := lin_lo h2 hp b1
  have f2 := lin_hi h3 hq a2 (by omega)
  have f3 := @lin_add1 P Q
  have f4 := @lin_add2 P Q
  have f5 := lin_sub b3 (by omega)
  have f6 : v ≤ v + (q - p) + (Q - P) / 1000000 := by
    clear f1 f2 f3 f4 f5 ev eu ex b1 a2
    omega
  generalize P / 1000000 = A at *
  generalize Q / 1000000 = B at *
  generalize (Q - P) / 1000000 = C at *
  clear b1 a2 b3
  omega

theorem grow_num {a s r p q : Int} (h4 : -100000 ≤ r) (h5 : r ≤ 100000) (h0 : 0 ≤ a) (h1 : a ≤ 549755813888) (h2 : 0 ≤ s) (h3 : s ≤ 549755813888) (hp : 0 ≤ p) (hpq : p ≤ q) (hq1 : q ≤ 274877906944) :
    ∃ v u x : Int, shE a s r (a + p) = 0 ∧ shV a s r (a + p) = v ∧ v = shw a s r (a + p) ∧ shE a s r (a + q) = 0 ∧ shV a s r (a + q) = u ∧ shE (a + p) v r (a + q) = 0 ∧ shV (a + p) v r (a + q) = x ∧
      v ≤ u ∧ x ≤ u ∧ u - 1 ≤ x ∧ (r = 0 → u - v = q - p) ∧ 0 ≤ v ∧ u ≤ 1099511627776 ∧ 0 ≤ x := by
  have e1 : shw a s r (a + p) = s + p + (r * p) / 1000000 := by unfold shw; rw [show a + p - a = p from by omega]
  have e2 : shw a s r (a + q) = s + q + (r * q) / 1000000 := by unfold shw; rw [show a + q - a = q from by omega]
  have e3 : ∀ v, shw (a + p) v r (a + q) = v + (q - p) + (r * q - r * p) / 1000000 := by
    intro v
    unfold shw
    rw [show a + q - (a + p) = q - p from by omega, Int.mul_sub]
  have b1 : -100000 * p ≤ r * p := Int.mul_le_mul_of_nonneg_right h4 hp
  have a2 : r * q ≤ 100000 * q := Int.mul_le_mul_of_nonneg_right h5 (Int.le_trans hp hpq)
  have b3 : -100000 * (q - p) ≤ r * q - r * p := by rw [← Int.mul_sub]; exact Int.mul_le_mul_of_nonneg_right h4 (Int.sub_nonneg_of_le hpq)
  obtain ⟨k1, k2, k3, k4, k5, k6⟩ := lin_all h2 h3 hp hpq hq1 b1 a2 b3 e1 e2 (e3 _)
  have kr : r = 0 → shw a s r (a + q) - shw a s r (a + p) = q - p := by
    intro hr
    rw [e1, e2, hr]
    clear e1 e2 e3 b1 a2 b3 k1 k2 k3 k4 k5 k6
    simp
    omega
  clear e1 e2 e3 b1 a2 b3
  generalize hv : shw a s r (a + p) = v at *
  generalize hu : shw a s r (a + q) = u at *
  generalize hxx : shw (a + p) v r (a + q) = x at *
  obtain ⟨o1, o2⟩ := ok_of (a := a) (s := s) (r := r) (t := a + p) (by omega) (by omega) (by omega) (by omega) (by omega)
  obtain ⟨o3, o4⟩ := ok_of (a := a) (s := s) (r := r) (t := a + q) (by omega) (by omega) (by omega) (by omega) (by omega)
  obtain ⟨o5, o6⟩ := ok_of (a := a + p) (s := v) (r := r) (t := a + q) (by omega) (by omega) (by omega) (by omega) (by omega)
  exact ⟨v, u, x, o1, by rw [o2, hv], rfl, o3, by rw [o4, hu], o5, by rw [o6, hxx], k2, k5, k6, kr, k1, k3, by omega⟩

end Go.Proofs.Ytjpnfpmgbeigbaa.Drift
