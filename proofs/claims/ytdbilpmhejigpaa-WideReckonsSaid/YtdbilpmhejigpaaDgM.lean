/- The reference's long division, in numbers. -/
import Derived.Test.YtdbilpmhejigpaaDivM
namespace Go.Proofs.Ytdbilpmhejigpaa
open Go.RowKit

/-- The reference's two carries together are the code's one. -/
theorem dg_step {S c b m p : Nat} (hS : c + b = S) (hb : b ≤ 1) (hp : p < 4294967296) :
    (p + 8589934592 - (c + m) % 4294967296 - b) % 4294967296 = (p + 4294967296 - (S + m) % 4294967296) % 4294967296 ∧
    (c + m) / 4294967296 + (if p < (c + m) % 4294967296 + b then 1 else 0) = (S + m) / 4294967296 + (if p < (S + m) % 4294967296 then 1 else 0) := by
  subst hS
  constructor
  · omega
  · split <;> split <;> omega

/-- What is left once nothing is to be borrowed. -/
theorem dg_done {X V T q : Nat} (hV : 0 < V) (h : T + V * q = X) (hq : X / V ≤ q) : X / V = q ∧ T = X % V := by
  have h1 : q ≤ X / V := by
    rw [Nat.le_div_iff_mul_le hV, Nat.mul_comm]
    omega
  have h2 : X / V = q := by omega
  refine ⟨h2, ?_⟩
  have h3 := Nat.div_add_mod X V
  rw [h2] at h3
  omega
/-- As long as something is to be borrowed, the digit is too great. -/
theorem dg_more {X V T q P : Nat} (hV : 0 < V) (h : T + V * q = X + P) (hT : T < P) : 1 ≤ q ∧ X / V ≤ q - 1 := by
  have h1 : X < V * q := by omega
  have h2 : X / V < q := Nat.div_lt_of_lt_mul h1
  generalize X / V = z at *
  exact ⟨by omega, by omega⟩
/-- Adding the divisor back: the carry is 0 or 1. -/
theorem dg_back {X V T T' q P cy : Nat} (hq : 1 ≤ q) (h : T + V * q = X + P) (hb : T' + P * cy = T + V) (hc : cy ≤ 1) : T' + V * (q - 1) = X + P * (1 - cy) := by
  have e : V * q = V * (q - 1) + V := by
    obtain ⟨r, rfl⟩ : ∃ r, q = r + 1 := ⟨q - 1, by omega⟩
    rw [Nat.add_sub_cancel, Nat.mul_add, Nat.mul_one]
  rcases Nat.eq_zero_or_pos cy with h0 | h0
  · subst h0; simp at hb ⊢; omega
  · obtain rfl : cy = 1 := by omega
    simp at hb ⊢; omega

/-! ### The rest moved back to the right -/
def shrL (s : Nat) (rs : List Nat) : Nat → List Nat
  | 0 => []
  | k + 1 => shrL s rs k ++ [(rs[k]?.getD 0 + 4294967296 * rs[k + 1]?.getD 0) / 2 ^ s % 4294967296]
theorem shrL_len (s : Nat) (rs : List Nat) (k : Nat) : (shrL s rs k).length = k := by
  induction k with
  | zero => rfl
  | succ k ih => unfold shrL; rw [List.length_append, ih]; rfl
theorem limb_at {rs : List Nat} (g : Good rs) (k : Nat) : val rs / 4294967296 ^ k = rs[k]?.getD 0 + 4294967296 * val (rs.drop (k + 1)) := by
  rw [← val_drop rs g k, val_step]
theorem pow_split (s : Nat) (hs : s < 32) : (4294967296 : Nat) = 2 ^ s * 2 ^ (32 - s) := by
  rw [← Nat.pow_add, show s + (32 - s) = 32 by omega]
theorem shr_limb {rs : List Nat} (g : Good rs) (s : Nat) (hs : s < 32) (k : Nat) : val rs / 2 ^ s / 4294967296 ^ k % 4294967296 = (rs[k]?.getD 0 + 4294967296 * rs[k + 1]?.getD 0) / 2 ^ s % 4294967296 := by
  rw [Nat.div_div_eq_div_mul, Nat.mul_comm, ← Nat.div_div_eq_div_mul, limb_at g k, val_step]
  generalize rs[k]?.getD 0 = x
  generalize rs[k + 1]?.getD 0 = y
  generalize val (rs.drop (k + 1 + 1)) = z
  have e : x + 4294967296 * (y + 4294967296 * z) = (x + 4294967296 * y) + 2 ^ s * (4294967296 * (2 ^ (32 - s) * z)) := by
    have e1 : 2 ^ s * (4294967296 * (2 ^ (32 - s) * z)) = 4294967296 * (4294967296 * z) := by
      rw [Nat.mul_left_comm, ← Nat.mul_assoc (2 ^ s), ← pow_split s hs]
    rw [e1]; omega
  rw [e, Nat.add_mul_div_left _ _ (Nat.pow_pos (by omega)), Nat.add_mul_mod_self_left]
theorem shrL_lims {rs : List Nat} (g : Good rs) (s : Nat) (hs : s < 32) (k : Nat) : shrL s rs k = lims (val rs / 2 ^ s) k := by
  induction k with
  | zero => rfl
  | succ k ih => unfold shrL lims; rw [ih, shr_limb g s hs k]
theorem shrL_val {rs : List Nat} (g : Good rs) (s : Nat) (hs : s < 32) {n : Nat} (hn : rs.length = n) : val (shrL s rs n) = val rs / 2 ^ s := by
  rw [shrL_lims g s hs, lims_val]
  have h := val_lt g
  rw [hn] at h
  exact Nat.mod_eq_of_lt (Nat.lt_of_le_of_lt (Nat.div_le_self _ _) h)
end Go.Proofs.Ytdbilpmhejigpaa
