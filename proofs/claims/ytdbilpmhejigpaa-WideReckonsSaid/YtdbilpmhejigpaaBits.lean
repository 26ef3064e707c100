/-
  The 64 binary digits of a number from a place on, out of three limbs.
-/
import Derived.Test.YtdbilpmhejigpaaBase
namespace Go.Proofs.Ytdbilpmhejigpaa
open Go.RowKit

theorem or_add {a b i : Nat} (h : a < 2 ^ i) : a ||| (2 ^ i * b) = a + 2 ^ i * b := by
  rw [Nat.or_comm, ← Nat.two_pow_add_eq_or_of_lt h, Nat.add_comm]
theorem bits_or (a b : Nat) (ha : a < 18446744073709551616) (hb : b < 18446744073709551616) : bits .or .u64 (a : Int) (b : Int) = ((a ||| b : Nat) : Int) := bits_or_u64_nat a b ha hb
theorem wrap_nat (a : Nat) : IntKind.u64.wrap (a : Int) = ((a % 18446744073709551616 : Nat) : Int) := by rw [IntKind.wrap_u64]; omega

/-- The number's limbs from k on. -/
theorem val_drop (xs : List Nat) (g : Good xs) (k : Nat) : val (xs.drop k) = val xs / 4294967296 ^ k := by
  rcases Nat.lt_or_ge xs.length k with h | h
  · rw [List.drop_of_length_le (by omega), Nat.div_eq_of_lt (Nat.lt_of_lt_of_le (val_lt g) (pow_mono_ (by omega)))]; rfl
  · have e := val_split xs k h
    have l : val (xs.take k) < 4294967296 ^ k := by
      have := val_lt (g.take k)
      rwa [List.length_take, Nat.min_eq_left h] at this
    rw [e, Nat.add_mul_div_left _ _ (pow_pos_ k), Nat.div_eq_of_lt l, Nat.zero_add]
theorem val_step (xs : List Nat) (k : Nat) : val (xs.drop k) = xs[k]?.getD 0 + 4294967296 * val (xs.drop (k + 1)) := by
  rcases Nat.lt_or_ge k xs.length with h | h
  · rw [drop_cons_ xs k h]; rfl
  · rw [List.drop_of_length_le h, List.drop_of_length_le (by omega), List.getElem?_eq_none h]; rfl

def win (v p : Nat) : Nat := v / 2 ^ p % 18446744073709551616
theorem win_lt (v p : Nat) : win v p < 18446744073709551616 := Nat.mod_lt _ (by omega)

theorem win_math (u z k x2 r : Nat) (hk : k < 32) (hu : u < 18446744073709551616) (hz : z = x2 + 4294967296 * r) :
    (u + 18446744073709551616 * z) / 2 ^ k % 18446744073709551616 = u / 2 ^ k + 2 ^ (64 - k) * (x2 % 2 ^ k) ∧ u / 2 ^ k < 2 ^ (64 - k) := by
  have hP : 2 ^ (64 - k) * 2 ^ k = 18446744073709551616 := by rw [← Nat.pow_add, Nat.sub_add_cancel (by omega)]
  have hq : 0 < 2 ^ k := Nat.pow_pos (by omega)
  have hPp : 0 < 2 ^ (64 - k) := Nat.pow_pos (by omega)
  have h1 : u / 2 ^ k < 2 ^ (64 - k) := (Nat.div_lt_iff_lt_mul hq).2 (by rw [hP]; exact hu)
  have hB : 4294967296 = 2 ^ k * 2 ^ (32 - k) := by rw [← Nat.pow_add, Nat.add_sub_cancel' (by omega)]
  have h2 : z % 2 ^ k = x2 % 2 ^ k := by
    rw [hz, hB, Nat.mul_assoc, Nat.add_mul_mod_self_left]
  have h3 : (u + 18446744073709551616 * z) / 2 ^ k = u / 2 ^ k + 2 ^ (64 - k) * z := by
    rw [← hP, Nat.mul_comm (2 ^ (64 - k)) (2 ^ k), Nat.mul_assoc, Nat.add_mul_div_left _ _ hq]
  refine ⟨?_, h1⟩
  rw [h3]
  have h4 := Nat.mod_mul (a := 2 ^ (64 - k)) (b := 2 ^ k) (x := u / 2 ^ k + 2 ^ (64 - k) * z)
  rw [hP] at h4
  rw [h4, Nat.add_mul_mod_self_left, Nat.mod_eq_of_lt h1, Nat.add_mul_div_left _ _ hPp, Nat.div_eq_of_lt h1, Nat.zero_add, h2]

theorem cast_shl (a k : Nat) : (a : Int) * 2 ^ k = ((2 ^ k * a : Nat) : Int) := by rw [Int.natCast_mul, Int.natCast_pow, Int.mul_comm]; rfl
theorem cast_shr (a k : Nat) : (a : Int) / 2 ^ k = ((a / 2 ^ k : Nat) : Int) := by rw [Int.natCast_ediv, Int.natCast_pow]; rfl
theorem win_eq (xs : List Nat) (g : Good xs) (p : Nat) :
    bits .or .u64 (bits .or .u64 ((xs[p / 32]?.getD 0 : Nat) : Int) (IntKind.u64.wrap (((xs[p / 32 + 1]?.getD 0 : Nat) : Int) * 4294967296)) / 2 ^ (p % 32))
      (IntKind.u64.wrap (((xs[p / 32 + 2]?.getD 0 : Nat) : Int) * 2 ^ (64 - p % 32))) = (win (val xs) p : Int) := by
  have g0 := g.get (p / 32)
  have g1 := g.get (p / 32 + 1)
  have g2 := g.get (p / 32 + 2)
  have e0 := val_step xs (p / 32)
  have e1 := val_step xs (p / 32 + 1)
  have e2 := val_step xs (p / 32 + 2)
  have ed := val_drop xs g (p / 32)
  have hp : val xs / 2 ^ p = val xs / 4294967296 ^ (p / 32) / 2 ^ (p % 32) := by
    rw [Nat.div_div_eq_div_mul]
    congr 1
    rw [show (4294967296 : Nat) = 2 ^ 32 from rfl, ← Nat.pow_mul, ← Nat.pow_add, Nat.div_add_mod]
  revert g0 g1 g2 e0 e1 e2
  generalize xs[p / 32]?.getD 0 = x0
  generalize xs[p / 32 + 1]?.getD 0 = x1
  generalize xs[p / 32 + 2]?.getD 0 = x2
  intro g0 g1 g2 e0 e1 e2
  have hm := win_math (x0 + 4294967296 * x1) (x2 + 4294967296 * val (xs.drop (p / 32 + 2 + 1))) (p % 32) x2 _ (Nat.mod_lt _ (by omega)) (by omega) rfl
  have hw : win (val xs) p = (x0 + 4294967296 * x1) / 2 ^ (p % 32) + 2 ^ (64 - p % 32) * (x2 % 2 ^ (p % 32)) := by
    rw [← hm.1, win, hp, ← ed, e0, e1, e2]
    congr 2
    omega
  have a1 : IntKind.u64.wrap ((x1 : Int) * 4294967296) = ((2 ^ 32 * x1 : Nat) : Int) := by rw [IntKind.wrap_u64]; omega
  have a2 : bits .or .u64 (x0 : Int) (IntKind.u64.wrap ((x1 : Int) * 4294967296)) = ((x0 + 4294967296 * x1 : Nat) : Int) := by
    rw [a1, bits_or _ _ (by omega) (by omega), or_add (by omega)]
  have hP : 2 ^ (64 - p % 32) * 2 ^ (p % 32) = 18446744073709551616 := by rw [← Nat.pow_add, Nat.sub_add_cancel (by omega)]
  have a3 : IntKind.u64.wrap ((x2 : Int) * 2 ^ (64 - p % 32)) = ((2 ^ (64 - p % 32) * (x2 % 2 ^ (p % 32)) : Nat) : Int) := by
    rw [cast_shl, wrap_nat, ← hP, Nat.mul_mod_mul_left]
  have hl : (x0 + 4294967296 * x1) / 2 ^ (p % 32) < 18446744073709551616 := Nat.lt_of_le_of_lt (Nat.div_le_self _ _) (by omega)
  have hr : 2 ^ (64 - p % 32) * (x2 % 2 ^ (p % 32)) < 18446744073709551616 := by
    rw [← hP]
    exact Nat.mul_lt_mul_of_pos_left (Nat.mod_lt _ (Nat.pow_pos (by omega))) (Nat.pow_pos (by omega))
  rw [a2, a3, cast_shr, bits_or _ _ hl hr, or_add hm.2, hw]

end Go.Proofs.Ytdbilpmhejigpaa
