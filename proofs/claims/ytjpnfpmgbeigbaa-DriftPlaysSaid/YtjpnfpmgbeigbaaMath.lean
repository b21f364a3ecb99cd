/- The arithmetic of layer 47 (drift): what a clock shows, without any program. -/
import Derived.Below
namespace Go.Proofs.Ytjpnfpmgbeigbaa.Drift
set_option linter.unusedVariables false

/-- what a clock with the base a, the shown time s and the rate r shows at t -/
def shw (a s r t : Int) : Int := s + (t - a) + (r * (t - a)) / 1000000

/-- the error of Show, as a number -/
def shE (a s r t : Int) : Int := if ¬ (0 ≤ t ∧ t ≤ 1099511627776) then 3 else if t < a then 8 else if ¬ (0 ≤ shw a s r t ∧ shw a s r t ≤ 1099511627776) then 3 else 0
/-- the number that Show returns -/
def shV (a s r t : Int) : Int := if ¬ (0 ≤ t ∧ t ≤ 1099511627776) then 0 else if t < a then 0 else if ¬ (0 ≤ shw a s r t ∧ shw a s r t ≤ 1099511627776) then 0 else shw a s r t

/-- the deviation is greater than a skew -/
def Ovr (a s r k t : Int) : Prop := k < shw a s r t - t ∨ k < -(shw a s r t - t)

theorem prod_bd {r p : Int} (h0 : -100000 ≤ r) (h1 : r ≤ 100000) (h2 : 0 ≤ p) (h3 : p ≤ 1099511627776) : -109951162777600000 ≤ r * p ∧ r * p ≤ 109951162777600000 := by
  have a : r * p ≤ 100000 * p := Int.mul_le_mul_of_nonneg_right h1 h2
  have b : -100000 * p ≤ r * p := Int.mul_le_mul_of_nonneg_right h0 h2
  omega

theorem shw_bd {a s r t : Int} (h3 : -100000 ≤ r) (h4 : r ≤ 100000) (h0 : 0 ≤ a) (h1 : a ≤ t) (h2 : t ≤ 1099511627776) (hs0 : 0 ≤ s) (hs1 : s ≤ 1099511627776) : -1000000000000 ≤ shw a s r t ∧ shw a s r t ≤ 10000000000000 := by
  obtain ⟨g0, g1⟩ := prod_bd h3 h4 (p := t - a) (by omega) (by omega)
  unfold shw; omega

theorem tdiv_neg {g : Int} (h : g < 0) : g.tdiv 1000000 = -((-g) / 1000000) := by
  have : g = -(-g) := by omega
  rw [this, Int.neg_tdiv, Int.tdiv_eq_ediv_of_nonneg (by omega)]; simp

theorem tmod_neg {g : Int} (h : g < 0) : g.tmod 1000000 = -((-g) % 1000000) := by
  have : g = -(-g) := by omega
  rw [this, Int.neg_tmod, Int.tmod_eq_emod_of_nonneg (by omega)]; simp

theorem diff_le {a s r t u : Int} (h3 : -100000 ≤ r) (h4 : r ≤ 100000) (h : t ≤ u) : r * (u - a) - r * (t - a) ≤ 100000 * (u - t) ∧ -(100000 * (u - t)) ≤ r * (u - a) - r * (t - a) := by
  have e : r * (u - a) - r * (t - a) = r * (u - t) := by rw [← Int.mul_sub]; congr 1; omega
  have a1 : r * (u - t) ≤ 100000 * (u - t) := Int.mul_le_mul_of_nonneg_right h4 (by omega)
  have b1 : -100000 * (u - t) ≤ r * (u - t) := Int.mul_le_mul_of_nonneg_right h3 (by omega)
  omega

theorem diff_pos {a r t u : Int} (h3 : 0 ≤ r) (h : t ≤ u) : r * (t - a) ≤ r * (u - a) := Int.mul_le_mul_of_nonneg_left (by omega) h3
theorem diff_neg {a r t u : Int} (h3 : r ≤ 0) (h : t ≤ u) : r * (u - a) ≤ r * (t - a) := Int.mul_le_mul_of_nonpos_left h3 (by omega)

/-- a clock never shows an earlier time later -/
theorem shw_mono {a s r t u : Int} (h3 : -100000 ≤ r) (h4 : r ≤ 100000) (h : t ≤ u) : shw a s r t ≤ shw a s r u := by
  obtain ⟨g0, g1⟩ := diff_le (a := a) (s := s) h3 h4 h
  unfold shw; omega

/-- once a skew is exceeded, it stays so -/
theorem Ovr.mono {a s r k t u v : Int} (hk : 0 ≤ k) (hn : ¬ Ovr a s r k t) (htu : t ≤ u) (huv : u ≤ v) (h : Ovr a s r k u) : Ovr a s r k v := by
  unfold Ovr shw at *
  rcases Int.le_total 0 r with hr | hr
  · have g0 := diff_pos (a := a) hr htu
    have g1 := diff_pos (a := a) hr huv
    omega
  · have g0 := diff_neg (a := a) hr htu
    have g1 := diff_neg (a := a) hr huv
    omega

/-- the first excess is one alone -/
theorem Ovr.first {a s r k t u v : Int} (hk : 0 ≤ k) (hn : ¬ Ovr a s r k t) (hu : t < u) (hv : t < v) (ou : Ovr a s r k u) (nu : ¬ Ovr a s r k (u - 1)) (ov : Ovr a s r k v) (nv : ¬ Ovr a s r k (v - 1)) : u = v := by
  rcases Int.lt_trichotomy u v with h | h | h
  · exact absurd (Ovr.mono hk hn (by omega) (by omega) ou) nv
  · exact h
  · exact absurd (Ovr.mono hk hn (by omega) (by omega) ov) nu

end Go.Proofs.Ytjpnfpmgbeigbaa.Drift
