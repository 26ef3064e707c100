/- wide.right, and how many binary digits there are. -/
import Derived.Test.YtdbilpmhejigpaaLeft
import Derived.Test.YtdbilpmhejigpaaBts
import Derived.Lib.ItoaNum
namespace Go.Proofs.Ytdbilpmhejigpaa
open Go.RowKit

/-- The first m limbs of a number. -/
def lims (u : Nat) : Nat → List Nat
  | 0 => []
  | m + 1 => lims u m ++ [u / 4294967296 ^ m % 4294967296]
theorem lims_len (u m : Nat) : (lims u m).length = m := by
  induction m with
  | zero => rfl
  | succ m ih => unfold lims; rw [List.length_append, ih]; rfl
theorem lims_good (u m : Nat) : Good (lims u m) := by
  induction m with
  | zero => exact Good.nil
  | succ m ih => exact ih.append (Good.nil.cons (Nat.mod_lt _ (by omega)))
theorem lims_val (u m : Nat) : val (lims u m) = u % 4294967296 ^ m := by
  induction m with
  | zero => simp [lims, val_nil, Nat.mod_one]
  | succ m ih => unfold lims; rw [val_snoc, ih, lims_len, Nat.pow_succ, Nat.mod_mul]
theorem lims_digs {u m : Nat} (h : u < 4294967296 ^ m) (h1 : 0 < m → 4294967296 ^ (m - 1) ≤ u) : lims u m = digs u := by
  refine eq_digs (lims_good _ _) ?_ (by rw [lims_val, Nat.mod_eq_of_lt h])
  rcases m with _ | m
  · exact Norm.nil
  · have h2 := h1 (by omega)
    simp only [Nat.add_sub_cancel] at h2
    unfold Norm lims
    rw [List.getLast?_concat]
    intro e
    have e2 := Option.some.inj e
    rw [Nat.pow_succ] at h
    rw [Nat.mod_eq_of_lt (Nat.div_lt_of_lt_mul h)] at e2
    have := (Nat.div_eq_zero_iff).1 e2
    have hp := pow_pos_ m
    omega
theorem bitLen_bounds {x : Nat} (h0 : x ≠ 0) (h : x < 4294967296) : 1 ≤ Lib.bitLen x ∧ 2 ^ (Lib.bitLen x - 1) ≤ x ∧ x < 2 ^ Lib.bitLen x :=
  Lib.bitLenAux_bounds 64 x (Nat.lt_of_lt_of_le h (by decide)) h0
theorem top_pos {a : Nat} (ha : 0 < a) : (digs a)[(digs a).length - 1]?.getD 0 ≠ 0 := fun h => digs_norm a ((last_get (digs_pos.2 ha)).2 h)
theorem lenS_pos {a : Nat} (ha : 0 < a) : 0 < lenS (digs a) ∧ 2 ^ (lenS (digs a) - 1) ≤ a ∧ a < 2 ^ lenS (digs a) := by
  have hp := digs_pos.2 ha
  obtain ⟨h1, h2, h3⟩ := bitLen_bounds (top_pos ha) ((digs_good a).get _)
  have hs := val_split (digs a) ((digs a).length - 1) (by omega)
  have hd : (digs a).drop ((digs a).length - 1) = [(digs a)[(digs a).length - 1]?.getD 0] := by
    rw [drop_cons_ _ _ (by omega), List.drop_of_length_le (by omega)]
  rw [hd, digs_val, val_cons, val_nil, Nat.mul_zero, Nat.add_zero] at hs
  have hlt := val_lt ((digs_good a).take ((digs a).length - 1))
  rw [List.length_take, Nat.min_eq_left (by omega)] at hlt
  unfold lenS
  rw [if_neg (by omega)]
  generalize (digs a)[(digs a).length - 1]?.getD 0 = x at *
  generalize (digs a).length - 1 = m at *
  generalize val ((digs a).take m) = r at *
  generalize Lib.bitLen x = l at *
  have e1 : 2 ^ (32 * m + l) = 4294967296 ^ m * 2 ^ l := by rw [Nat.pow_add, Nat.pow_mul]
  have e2 : 2 ^ (32 * m + l - 1) = 4294967296 ^ m * 2 ^ (l - 1) := by rw [Nat.add_sub_assoc h1, Nat.pow_add, Nat.pow_mul]
  refine ⟨by omega, ?_, ?_⟩
  · rw [e2]
    have h5 := Nat.mul_le_mul_left (4294967296 ^ m) h2
    omega
  · rw [e1]
    have h5 : 4294967296 ^ m * (x + 1) ≤ 4294967296 ^ m * 2 ^ l := Nat.mul_le_mul_left _ h3
    rw [Nat.mul_add, Nat.mul_one] at h5
    omega
theorem lenS_zero : lenS (digs 0) = 0 := rfl
theorem lenS_le {a k : Nat} : lenS (digs a) ≤ k ↔ a < 2 ^ k := by
  rcases Nat.eq_zero_or_pos a with h | h
  · subst h; rw [lenS_zero]; simp [Nat.pow_pos]
  · obtain ⟨h1, h2, h3⟩ := lenS_pos h
    constructor
    · intro hk; exact Nat.lt_of_lt_of_le h3 (Nat.pow_le_pow_right (by omega) hk)
    · intro hk
      have h4 : 2 ^ (lenS (digs a) - 1) < 2 ^ k := Nat.lt_of_le_of_lt h2 hk
      have := (Nat.pow_lt_pow_iff_right (by omega : 1 < 2)).1 h4
      omega
/-- How many limbs a shifted number has. -/
theorem right_digs (a k : Nat) : lims (a / 2 ^ k) ((lenS (digs a) - k + 31) / 32) = digs (a / 2 ^ k) := by
  refine lims_digs ?_ fun hm => ?_
  · rw [Nat.div_lt_iff_lt_mul (Nat.pow_pos (by omega)), show (4294967296 : Nat) = 2 ^ 32 from rfl, ← Nat.pow_mul, ← Nat.pow_add]
    exact lenS_le.1 (by omega)
  · rcases Nat.eq_zero_or_pos a with h | h
    · subst h; rw [lenS_zero] at hm; omega
    · obtain ⟨h1, h2, h3⟩ := lenS_pos h
      rw [Nat.le_div_iff_mul_le (Nat.pow_pos (by omega)), show (4294967296 : Nat) = 2 ^ 32 from rfl, ← Nat.pow_mul, ← Nat.pow_add]
      exact Nat.le_trans (Nat.pow_le_pow_right (by omega) (by omega)) h2
theorem win_lims (a k i : Nat) : win a (k + 32 * i) % 4294967296 = a / 2 ^ k / 4294967296 ^ i % 4294967296 := by
  unfold win
  rw [Nat.pow_add, ← Nat.div_div_eq_div_mul, Nat.pow_mul, show (2 : Nat) ^ 32 = 4294967296 from rfl]
  omega

set_option maxRecDepth 100000 in
set_option maxHeartbeats 1000000 in
theorem right_any (w : World) (A : Option Addr) (n c k a v : Nat) (hA : Lm w w.heap.size A n c (digs a)) (hn : n ≤ 10000000) (hk : k ≤ 1000000000) (hv : a / 2 ^ k = v) :
    Calls Try.prog 73 #[.slice A n c, .int .i64 (k : Int)] w fun e w' => ∃ A' c', e = .returned (.slice A' (digs v).length c') ∧ Lm w' w'.heap.size A' (digs v).length c' (digs v) ∧ Below w.heap.size w w' := by
  have hl := hA.len
  have h1 := hA.cap
  have h2 := hA.max
  have hL : lenS (digs a) ≤ 32 * n := by
    refine lenS_le.2 ?_
    have := digs_len.1 (Nat.le_of_eq hl)
    rwa [Nat.pow_mul]
  have HA := Lib.hid hA
  have HV := Lib.hid hv
  obtain ⟨m, hm⟩ : ∃ m, m = (lenS (digs a) - k + 31) / 32 := ⟨_, rfl⟩
  have HM := Lib.hid hm
  have hm9 : m ≤ 10000001 := by omega
  have hmk := fun w => run_make_u32 ((max ((lenS (digs a) : Int) - (k : Int)) 0 + 32 - 1) / 32) ((max ((lenS (digs a) : Int) - (k : Int)) 0 + 32 - 1) / 32) m (by omega) (by omega) (by omega) w
  clear hA hv hl hm
  go_enter Try.func73, Try.ntmps73
  go_wp2_with (go_at_call 52; refine (length_any _ _ _ _ _ HA.out (by omega)).mono ?_; rintro e w1 ⟨rfl, rfl⟩)
  clear hmk
  go_loopw [20] (fun i wr => ∃ j : Nat, j ≤ m ∧ i = .int .i64 j ∧ Ld wr w.heap.size (spl (zer m) 0 (lims v j)) ∧ Below w.heap.size w wr) (fun i _ => m - (intOf i).toNat)
  case atStart => exact ⟨0, Nat.zero_le _, rfl, by show Ld _ _ (spl (zer m) 0 []); rw [spl_nil]; exact Ld.new _ _, (Below.refl _ _).alloc (Nat.le_refl _) _⟩
  case round =>
    obtain ⟨j, hj, rfl, hD, hb⟩ := hrel
    have HD := Lib.hid hD
    have HBl := Lib.hid hb
    clear hD hb
    by_cases hlt : j < m
    · have HA1 := Lib.hid ((HA.out.below HBl.out).mono HBl.out.size)
      have hll := lims_len v j
      have hct := HD.out.cell (i := j) (by rw [spl_len (by rw [hll, zer_len]; omega), zer_len]; exact hlt)
      have hfr := HD.out.frozen j
      have hwl := win_lt a (k + 32 * j)
      go_wp2_with fail
      refine (window_any wr A n c (digs a) a ((k : Int) + (j : Int) * 32) HA1.out (digs_val a) (by omega) (by omega)).mono ?_
      rintro e w1 ⟨rfl, d, rfl⟩
      rw [show ((k : Int) + (j : Int) * 32).toNat = k + 32 * j by omega]
      go_wp2
      go_roundw
      case rel =>
        have e := (show Ld (wr.drewN d) w.heap.size (spl (zer m) 0 (lims v j)) from HD.out).set_ j (v / 4294967296 ^ j % 4294967296)
        have e2 := spl_set (cs := zer m) (off := 0) (ts := lims v j) (v / 4294967296 ^ j % 4294967296) (by rw [hll, zer_len]; omega)
        rw [hll, Nat.zero_add] at e2
        rw [e2] at e
        have e3 : (v / 4294967296 ^ j % 4294967296 : Nat) = win a (k + 32 * j) % 4294967296 := by rw [win_lims, HV.out]
        have e4 : ((win a (k + 32 * j) : Nat) : Int) % 4294967296 = ((v / 4294967296 ^ j % 4294967296 : Nat) : Int) := by rw [e3]; rfl
        refine ⟨j + 1, by omega, by go_num, ?_, ((bdrewN HBl.out d).setCell (p := ⟨w.heap.size, j, none⟩) (Nat.le_refl _) _)⟩
        rw [e4]
        exact e
      case measure => simp [intOf]; omega
    · obtain rfl : j = m := by omega
      go_wp2
      go_ret
      have e := HD.out.lm (off := 0) (n := j) (c := j) ((spl_good (zer_good _) (lims_good _ _))) (by rw [spl_len (by rw [lims_len, zer_len]; omega), zer_len]; omega) (Nat.le_refl _) (by omega)
      have e2 : ((spl (zer j) 0 (lims v j)).drop 0).take j = digs v := by
        rw [← HV.out, ← right_digs, ← HM.out, HV.out]
        unfold spl
        rw [List.take_zero, List.nil_append, List.drop_zero, lims_len, Nat.zero_add, List.drop_of_length_le (by rw [zer_len]; exact Nat.le_refl _), List.append_nil, List.take_of_length_le (by rw [lims_len]; exact Nat.le_refl _)]
      rw [e2] at e
      have hl := e.len
      subst hl
      exact ⟨_, _, rfl, e, HBl.out⟩
end Go.Proofs.Ytdbilpmhejigpaa
