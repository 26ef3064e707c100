/- A step of long division, in numbers. -/
import Derived.Test.YtdbilpmhejigpaaGuess
namespace Go.Proofs.Ytdbilpmhejigpaa
open Go.RowKit

theorem gs_bounds {V X W T P vl xl : Nat} (hV : V = vl + P * W) (hvl : vl < P) (hX : X = xl + P * T) (hxl : xl < P) (hXB : X < V * 4294967296) (hW : 4294967296 ≤ W) :
    X / V ≤ min 4294967295 (T / W) ∧ min 4294967295 (T / W) ≤ X / V + 1 := by
  have hV0 : 0 < V := by
    have := Nat.mul_le_mul (show 1 ≤ P by omega) hW
    omega
  have hq : X / V < 4294967296 := Nat.div_lt_of_lt_mul hXB
  have hqV := Nat.div_mul_le_self X V
  constructor
  · refine le_min_ (by omega) ?_
    rw [Nat.le_div_iff_mul_le (by omega)]
    have h1 : X / V * (P * W) ≤ X / V * V := Nat.mul_le_mul_left _ (by omega)
    have h2 : P * (X / V * W) < P * (T + 1) := by
      rw [Nat.mul_left_comm, Nat.mul_add, Nat.mul_one]
      omega
    have := Nat.lt_of_mul_lt_mul_left h2
    omega
  · obtain ⟨g, hg⟩ : ∃ g, g = min 4294967295 (T / W) := ⟨_, rfl⟩
    rw [← hg]
    have g1 : g ≤ 4294967295 := by omega
    have g2 : g ≤ T / W := by omega
    rw [Nat.le_div_iff_mul_le (by omega)] at g2
    clear hg
    rcases g with _ | g
    · exact Nat.zero_le _
    · refine Nat.succ_le_succ ?_
      rw [Nat.le_div_iff_mul_le hV0]
      rw [Nat.add_mul, Nat.one_mul] at g2
      have h3 : g * V ≤ g * (P * (W + 1)) := Nat.mul_le_mul_left _ (by rw [Nat.mul_add, Nat.mul_one]; omega)
      have h4 : g * (W + 1) ≤ T := by
        rw [Nat.mul_add, Nat.mul_one]
        omega
      have h6 : g * (P * (W + 1)) = P * (g * (W + 1)) := Nat.mul_left_comm _ _ _
      have h7 : P * (g * (W + 1)) ≤ P * T := Nat.mul_le_mul_left _ h4
      omega

/-- The guess was right. -/
theorem step_right {V X Y P S g h br : Nat} (hVP : V < P) (hX : X = Y + P * h) (hS : S + V * g = Y + P * br) (h1 : X / V ≤ g) (hV0 : 0 < V) (hle : br ≤ h) : X / V = g ∧ S = X % V ∧ h = br := by
  have h2 : P * h = P * br + P * (h - br) := by rw [← Nat.mul_add]; congr 1; omega
  have h3 : g ≤ X / V := by
    rw [Nat.le_div_iff_mul_le hV0, Nat.mul_comm]
    omega
  have hg : X / V = g := Nat.le_antisymm h1 h3
  have hm := Nat.div_add_mod X V
  have hl := Nat.mod_lt X hV0
  rw [hg] at hm
  have h4 : S + P * (h - br) = X % V := by omega
  have h5 : h - br = 0 := by
    rcases Nat.eq_zero_or_pos (h - br) with h | h
    · exact h
    · have := Nat.le_mul_of_pos_right P h
      omega
  rw [h5, Nat.mul_zero] at h4
  exact ⟨hg, by omega, by omega⟩
/-- The guess was 1 too great. -/
theorem step_over {V X Y P S M c g h br : Nat} (hVP : V < P) (hX : X = Y + P * h) (hS : S + V * g = Y + P * br) (hSP : S < P) (hM : M + P * c = V + S) (hMP : M < P) (h1 : g ≤ X / V + 1) (hV0 : 0 < V) (hlt : h < br) : X / V = g - 1 ∧ 1 ≤ g ∧ M = X % V ∧ c + h = br := by
  obtain ⟨t, rfl⟩ : ∃ t, br = h + t := ⟨br - h, by omega⟩
  rw [Nat.mul_add] at hS
  have h2' := Nat.le_mul_of_pos_right P (show 0 < t by omega)
  have h3 : X / V < g := Nat.div_lt_of_lt_mul (by omega)
  have hg : g = X / V + 1 := by omega
  have hm := Nat.div_add_mod X V
  have hl := Nat.mod_lt X hV0
  rw [hg, Nat.mul_add, Nat.mul_one] at hS
  have h4 : M + P * c = X % V + P * t := by omega
  have h5 : c = t := by
    rcases Nat.lt_trichotomy c t with k | k | k
    · obtain ⟨d, rfl⟩ : ∃ d, t = c + d := ⟨t - c, by omega⟩
      rw [Nat.mul_add] at h4
      have := Nat.le_mul_of_pos_right P (show 0 < d by omega)
      omega
    · exact k
    · obtain ⟨d, rfl⟩ : ∃ d, c = t + d := ⟨c - t, by omega⟩
      rw [Nat.mul_add] at h4
      have := Nat.le_mul_of_pos_right P (show 0 < d by omega)
      omega
  rw [h5] at h4
  exact ⟨by rw [hg, Nat.add_sub_cancel], by rw [hg]; exact Nat.le_add_left 1 _, by omega, by omega⟩

theorem val_take2 (xs : List Nat) (j : Nat) : val (xs.take (j + 2)) = val (xs.take j) + 4294967296 ^ j * (xs[j + 1]?.getD 0 * 4294967296 + xs[j]?.getD 0) := by
  rw [val_take_succ', val_take_succ', Nat.add_assoc]
  generalize xs[j + 1]?.getD 0 = y
  generalize xs[j]?.getD 0 = x
  congr 1
  rw [Nat.pow_succ, Nat.mul_assoc, ← Nat.mul_add]
  congr 1
  omega
theorem take3_alg (B P x y z : Nat) : P * (y * B + x) + P * B * B * z = P * ((z * B + y) * B + x) := by
  rw [Nat.mul_assoc, Nat.mul_assoc, ← Nat.mul_add, Nat.add_mul, Nat.mul_comm B (B * z), Nat.mul_comm B z]
  congr 1
  omega
theorem val_take3 (xs : List Nat) (j : Nat) : val (xs.take (j + 3)) = val (xs.take j) + 4294967296 ^ j * ((xs[j + 2]?.getD 0 * 4294967296 + xs[j + 1]?.getD 0) * 4294967296 + xs[j]?.getD 0) := by
  rw [val_take_succ', val_take2, Nat.add_assoc, Nat.pow_succ, Nat.pow_succ, take3_alg]
/-- What a list of limbs is, of which no more than j are other than 0. -/
theorem val_short {xs : List Nat} {j : Nat} (h : val xs < 4294967296 ^ j) : val (xs.take j) = val xs ∧ val (xs.drop j) = 0 := by
  rcases Nat.lt_or_ge xs.length j with hl | hl
  · rw [List.take_of_length_le (by omega), List.drop_of_length_le (by omega)]; exact ⟨rfl, rfl⟩
  · have e := val_split xs j hl
    rcases Nat.eq_zero_or_pos (val (xs.drop j)) with h0 | h0
    · rw [h0] at e; exact ⟨by omega, h0⟩
    · have := Nat.le_mul_of_pos_right (4294967296 ^ j) h0
      omega

/-- What the limbs of a part are, of which the higher ones are less than the divisor. -/
theorem part_facts {rs : List Nat} {V m k : Nat} (gr : Good rs) (hV : (digs V).length = m) (hm2 : 2 ≤ m) (hk : k + m < rs.length) (hlt : val (rs.drop (k + 1)) < V) :
    val (rs.drop k) = val ((rs.drop k).take m) + 4294967296 ^ m * rs[k + m]?.getD 0 ∧ rs[k + m]?.getD 0 ≤ (digs V)[m - 1]?.getD 0 ∧ V < 4294967296 ^ m ∧ val (rs.drop (k + m + 1)) = 0 ∧ 1 ≤ (digs V)[m - 1]?.getD 0 ∧
    val (rs.drop k) / V ≤ gs ((digs V)[m - 1]?.getD 0) ((digs V)[m - 2]?.getD 0) (rs[k + m]?.getD 0) (rs[k + (m - 1)]?.getD 0) (rs[k + (m - 2)]?.getD 0) ∧
    gs ((digs V)[m - 1]?.getD 0) ((digs V)[m - 2]?.getD 0) (rs[k + m]?.getD 0) (rs[k + (m - 1)]?.getD 0) (rs[k + (m - 2)]?.getD 0) ≤ val (rs.drop k) / V + 1 := by
  obtain ⟨j, rfl⟩ : ∃ j, m = j + 2 := ⟨m - 2, by omega⟩
  have hV0 : 0 < V := digs_pos.1 (by omega)
  have hVlt : V < 4294967296 ^ (j + 2) := digs_len.1 (Nat.le_of_eq hV)
  have hg := gr.get k
  have hd := val_step rs k
  have hXB : val (rs.drop k) < V * 4294967296 := by omega
  have hXP : val (rs.drop k) < 4294967296 ^ (j + 2 + 1) := by
    rw [Nat.pow_succ]
    exact Nat.lt_of_lt_of_le hXB (Nat.mul_le_mul_right _ (Nat.le_of_lt hVlt))
  obtain ⟨hs1, hs2⟩ := val_short hXP
  have e1 : ∀ i, (rs.drop k)[i]?.getD 0 = rs[k + i]?.getD 0 := fun i => by rw [List.getElem?_drop]
  have ht := val_take_succ' (rs.drop k) (j + 2)
  rw [hs1, e1] at ht
  have ht3 := val_take3 (rs.drop k) j
  rw [show j + 3 = j + 2 + 1 from rfl, hs1, e1, e1, e1] at ht3
  have hv2 := val_take2 (digs V) j
  rw [List.take_of_length_le (Nat.le_of_eq hV), digs_val] at hv2
  have hv1 := top_pos hV0
  rw [hV] at hv1
  have hpl : ∀ (xs : List Nat), Good xs → val (xs.take j) < 4294967296 ^ j := fun xs g => by
    refine Nat.lt_of_lt_of_le (val_lt (g.take j)) (pow_mono_ ?_)
    rw [List.length_take]; omega
  have gv1 := (digs_good V).get j
  refine ⟨ht, ?_, hVlt, by rwa [List.drop_drop] at hs2, Nat.pos_of_ne_zero hv1, ?_⟩
  · have h3 := val_take2 (rs.drop (k + 1)) j
    have h4 : val ((rs.drop (k + 1)).take (j + 2)) = val (rs.drop (k + 1)) := (val_short (Nat.lt_trans hlt hVlt)).1
    rw [h4, List.getElem?_drop, List.getElem?_drop] at h3
    have h5 := hpl _ (digs_good V)
    have h6 : k + 1 + (j + 1) = k + (j + 2) := by omega
    rw [h6] at h3
    show rs[k + (j + 2)]?.getD 0 ≤ (digs V)[j + 1]?.getD 0
    rcases Nat.lt_or_ge ((digs V)[j + 1]?.getD 0) (rs[k + (j + 2)]?.getD 0) with hc | hc
    · have h7 : 4294967296 ^ j * ((digs V)[j + 1]?.getD 0 * 4294967296 + (digs V)[j]?.getD 0 + 1) ≤ 4294967296 ^ j * (rs[k + (j + 2)]?.getD 0 * 4294967296 + rs[k + 1 + j]?.getD 0) := Nat.mul_le_mul_left _ (by omega)
      rw [Nat.mul_add _ _ 1, Nat.mul_one] at h7
      omega
    · exact hc
  · exact gs_bounds hv2 (hpl _ (digs_good V)) ht3 (hpl _ (gr.drop k)) hXB (by have h9 : (digs V)[j + 1]?.getD 0 ≠ 0 := hv1; omega)

theorem part_done {rs P : List Nat} {m k v : Nat} (hP : P.length = m) (hk : k + m < rs.length) (hz : val (rs.drop (k + m + 1)) = 0) (hv : val P = v) :
    val ((spl rs k (P ++ [0])).drop k) = v ∧ val (spl rs k (P ++ [0])) = val (rs.take k) + 4294967296 ^ k * v := by
  have hl : (rs.take k).length = k := by rw [List.length_take]; omega
  have e : val ((P ++ [0]) ++ rs.drop (k + (P ++ [0]).length)) = v := by
    rw [val_append, val_snoc, hv, List.length_append, hP, show k + (m + [0].length) = k + m + 1 from rfl, hz]
    simp
  unfold spl
  constructor
  · rw [List.drop_append_of_le_length (by omega), List.drop_of_length_le (by omega), List.nil_append]
    exact e
  · rw [val_append, hl, e]

theorem inv_step {rs qs rs' qs' : List Nat} {k U V X : Nat} (hk : k ≤ rs.length) (hX : X = val (rs.drop k)) (hI : val rs + 4294967296 ^ (k + 1) * (V * val (qs.drop (k + 1))) = U)
    (h1 : val rs' = val (rs.take k) + 4294967296 ^ k * (X % V)) (h2 : val (qs'.drop k) = X / V + 4294967296 * val (qs.drop (k + 1))) : val rs' + 4294967296 ^ k * (V * val (qs'.drop k)) = U := by
  have hs := val_split rs k hk
  rw [← hX] at hs
  have hm := Nat.div_add_mod X V
  rw [h1, h2, Nat.mul_add V, Nat.mul_add (4294967296 ^ k), Nat.mul_left_comm V, ← hI, hs, pow_succ_]
  have e1 : 4294967296 ^ k * X = 4294967296 ^ k * (V * (X / V)) + 4294967296 ^ k * (X % V) := by rw [← Nat.mul_add, hm]
  have e2 : 4294967296 * 4294967296 ^ k * (V * val (qs.drop (k + 1))) = 4294967296 ^ k * (4294967296 * (V * val (qs.drop (k + 1)))) := by rw [Nat.mul_comm 4294967296, Nat.mul_assoc]
  rw [e1, e2]
  omega

end Go.Proofs.Ytdbilpmhejigpaa
