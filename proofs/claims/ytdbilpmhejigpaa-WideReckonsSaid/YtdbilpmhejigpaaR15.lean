/- The reference's over. -/
import Derived.Test.YtdbilpmhejigpaaR14
namespace Go.Proofs.Ytdbilpmhejigpaa
open Go.RowKit

set_option maxRecDepth 100000 in
set_option maxHeartbeats 1000000 in
theorem rover_less (w : World) (A B : Option Addr) (n m ca cb b v : Nat) (xs : List Nat) (hA : Lm w w.heap.size A n ca xs) (hB : Lm w w.heap.size B m cb (digs b)) (hv : val xs = v) (hC : cmpL xs (digs b) = -1) (hlt : v < b) (hn9 : n ≤ 1000000) :
    Calls Try.prog 45 #[.slice A n ca, .slice B m cb] w (RD w (v / b) (v % b)) := by
  have HC := Lib.hid hC
  have HA := Lib.hid hA
  have HB := Lib.hid hB
  have HV := Lib.hid hv
  have hcB := hB.cap
  have hxB := hB.max
  rw [Nat.div_eq_of_lt hlt, Nat.mod_eq_of_lt hlt]
  clear hA hB hlt hv hC
  go_enter Try.func45, Try.ntmps45
  go_wp2_with fail
  refine (rcompare_any A B n m ca cb xs (digs b) w HA.out HB.out).mono ?_
  rintro e w1 ⟨he, d, rfl⟩
  rw [HC.out] at he
  subst he
  go_wp2_with fail
  refine (rtrim_any _ _ _ _ xs v (HA.out.drewN d) HV.out (by omega)).mono ?_
  rintro e w2 ⟨A2, c2, rfl, hL2, hb2⟩
  go_wp2
  go_ret2
  refine ⟨none, 0, A2, c2, rfl, Lm.nil _ _, hL2, (bdrewN (Below.refl w.heap.size w) d).trans hb2⟩

set_option maxRecDepth 100000 in
set_option maxHeartbeats 1000000 in
theorem rover_one (w : World) (A B : Option Addr) (n ca cb b v : Nat) (xs : List Nat) (hA : Lm w w.heap.size A n ca xs) (hB : Lm w w.heap.size B 1 cb (digs b)) (hv : val xs = v) (hC : 0 ≤ cmpL xs (digs b)) (hn9 : n ≤ 1000000) :
    Calls Try.prog 45 #[.slice A n ca, .slice B 1 cb] w (RD w (v / b) (v % b)) := by
  obtain ⟨z, hz, HC⟩ : ∃ z : Int, decide (z < 0) = false ∧ Hid (cmpL xs (digs b) = z) := ⟨_, by simp; omega, rfl⟩
  have hb0 : 0 < b := by rw [← digs_pos, hB.len]; omega
  have hbe : (digs b)[0]?.getD 0 = b := by
    have h1 := val_take_succ' (digs b) 0
    rw [List.take_of_length_le (by rw [hB.len]; omega), digs_val] at h1
    simpa [val_nil] using h1.symm
  have hb9 := hB.good.get 0
  obtain ⟨bb, bo, rfl, hbb, cb1⟩ := hB.cell (k := 0) (by omega)
  rw [hbe] at cb1 hb9
  rw [Nat.add_zero] at cb1
  have hcB := hB.cap
  have hxB := hB.max
  have HA := Lib.hid hA
  have HB := Lib.hid hB
  have HV := Lib.hid hv
  clear hA hB hbe hv hC
  go_enter Try.func45, Try.ntmps45
  go_wp2_with fail
  refine (rcompare_any A (some ⟨bb, bo, none⟩) n 1 ca cb xs (digs b) w HA.out HB.out).mono ?_
  rintro e w1 ⟨he, d, rfl⟩
  rw [HC.out] at he
  subst he
  go_wp2_with fail
  refine (rshort_any (w.drewN d) A n ca b xs v (HA.out.drewN d) (by omega) hb0 hb9 HV.out).mono ?_
  rintro e w2 ⟨Q, cq, R, cr, rfl, hQ, hR, hb2⟩
  go_wp2
  go_ret2
  exact ⟨Q, cq, R, cr, rfl, hQ, hR, (bdrewN (Below.refl w.heap.size w) d).trans hb2⟩

theorem up_aux {x s l : Nat} (l1 : 1 ≤ l) (l2 : 2 ^ (l - 1) ≤ x) (l3 : x < 2 ^ l) (h1 : 2 ^ 31 ≤ x * 2 ^ s) (h2 : x * 2 ^ s < 2 ^ 32) : s = 32 - l := by
  have m1 := Nat.mul_le_mul_right (2 ^ s) l2
  have m2 := (Nat.mul_lt_mul_right (a := 2 ^ s) (Nat.pow_pos (by decide))).2 l3
  have a1 := Nat.lt_of_le_of_lt m1 h2
  have a2 := Nat.lt_of_le_of_lt h1 m2
  rw [← Nat.pow_add] at a1 a2
  have b1 := (Nat.pow_lt_pow_iff_right (by decide : 1 < 2)).1 a1
  have b2 := (Nat.pow_lt_pow_iff_right (by decide : 1 < 2)).1 a2
  clear a1 a2 m1 m2 h1 h2 l2 l3
  omega
theorem up_of {x s : Nat} (h0 : x ≠ 0) (h : x < 4294967296) (h1 : 2147483648 ≤ x * 2 ^ s) (h2 : x * 2 ^ s < 4294967296) : s = 32 - Lib.bitLen x := by
  have hb := bitLen_bounds h0 h
  generalize Lib.bitLen x = l at hb ⊢
  exact up_aux hb.1 hb.2.1 hb.2.2 h1 h2
/-- A limb more than a number has is 0. -/
theorem take_digs {ts : List Nat} {V m : Nat} (g : Good ts) (hl : ts.length = m + 1) (hv : val ts = V) (hV : (digs V).length = m) : ts.take m = digs V := by
  have h1 := val_short (xs := ts) (j := m) (by rw [hv]; exact digs_len.1 (Nat.le_of_eq hV))
  exact eq_of_val (g.take m) (digs_good V) (by rw [List.length_take, hl, hV]; omega) (by rw [h1.1, hv, digs_val])
theorem part_whole {rs : List Nat} {m k : Nat} (h : val (rs.drop k) = val ((rs.drop k).take m) + 4294967296 ^ m * rs[k + m]?.getD 0) : val ((rs.drop k).take (m + 1)) = val (rs.drop k) := by
  rw [val_take_succ', List.getElem?_drop]
  exact h.symm
theorem part_done2 {rs P : List Nat} {m k v : Nat} (hP : P.length = m + 1) (hk : k + m < rs.length) (hz : val (rs.drop (k + m + 1)) = 0) (hv : val P = v) :
    val ((spl rs k P).drop k) = v ∧ val (spl rs k P) = val (rs.take k) + 4294967296 ^ k * v := by
  have hl : (rs.take k).length = k := by rw [List.length_take]; omega
  have e : val (P ++ rs.drop (k + P.length)) = v := by
    have hz2 : val (rs.drop (k + P.length)) = 0 := by rw [hP, ← Nat.add_assoc]; exact hz
    rw [val_append, hv, hz2, Nat.mul_zero, Nat.add_zero]
  unfold spl
  constructor
  · rw [List.drop_append_of_le_length (by omega), List.drop_of_length_le (by omega), List.nil_append]
    exact e
  · rw [val_append, hl, e]
end Go.Proofs.Ytdbilpmhejigpaa
