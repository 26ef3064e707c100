/- Lemmas, part 8. -/
import Derived.Laws.BitsLemmas
import Derived.Deep.RegionHeld3
import Derived.Deep.DeepCutAuto
import Derived.BigRegion
import Derived.RegionTactic
import Derived.Deep.RegionWith
import Derived.Deep.CutBlock
import Derived.Test.YtglgfjknhplajaaGreatDoorSH7
/- Square roots by Newton's rule, in numbers. -/
namespace Go.Proofs.YtglgfjknhplajaaGreatDoor
theorem sq_le {a b : Nat} : 2 * a * b ≤ a * a + b * b := by
  rcases Nat.le_total a b with h | h
  · obtain ⟨d, rfl⟩ := Nat.le.dest h
    have : (a + d) * (a + d) = a * a + 2 * a * d + d * d := by grind
    have : 2 * a * (a + d) = 2 * (a * a) + 2 * a * d := by grind
    have := Nat.zero_le (d * d)
    omega
  · obtain ⟨d, rfl⟩ := Nat.le.dest h
    have : (b + d) * (b + d) = b * b + 2 * b * d + d * d := by grind
    have : 2 * (b + d) * b = 2 * (b * b) + 2 * b * d := by grind
    have := Nat.zero_le (d * d)
    omega
theorem le_of_sq {d t : Nat} (h : t * t ≤ d * d) : t ≤ d := by
  rcases Nat.lt_or_ge d t with h1 | h1
  · have := Nat.mul_self_lt_mul_self h1
    omega
  · exact h1
/-- One step of Newton's rule: the next number is less than a unit away. -/
theorem newton_core {N Y T p q : Nat} (hY : 0 < p) (h2 : 2 * p = Y) (hTT : T * T ≤ 2 * Y) (hTY : T ≤ Y) (h3 : (Y - T) * (Y - T) < N) (h4 : N < (Y + T) * (Y + T)) (hq : 2 * Y * q ≤ N) (hq' : N < 2 * Y * (q + 1)) :
    (p + q - 1) * (p + q - 1) < N ∧ N < (p + q + 1) * (p + q + 1) := by
  subst h2
  constructor
  · obtain ⟨u, hu⟩ : ∃ u, p + q = u + 1 := ⟨p + q - 1, by omega⟩
    rw [hu, Nat.add_sub_cancel]
    refine Nat.lt_of_not_le fun hN => ?_
    have e1 : 2 * (2 * p) * (p + q) = 2 * p * (2 * p) + 2 * (2 * p) * q := by grind
    rw [hu] at e1
    have e2 : 2 * (2 * p) * (u + 1) = 2 * (2 * p) * u + 2 * (2 * p) := by grind
    have hm : 2 * (2 * p) * u + 2 * (2 * p) ≤ 2 * p * (2 * p) + N := by omega
    clear e1 e2
    rcases Nat.le_total u (2 * p) with h | h
    · obtain ⟨d, hd⟩ := Nat.le.dest h
      have e3 : d * d + 2 * (2 * p) * u = 2 * p * (2 * p) + u * u := by rw [← hd]; grind
      have hT : T ≤ d := le_of_sq (by omega)
      have h5 : u ≤ 2 * p - T := by omega
      have := Nat.mul_le_mul h5 h5
      omega
    · obtain ⟨d, hd⟩ := Nat.le.dest h
      have e3 : d * d + 2 * (2 * p) * u = 2 * p * (2 * p) + u * u := by rw [← hd]; grind
      have hT : T ≤ d := le_of_sq (by omega)
      have e4 : (2 * p + T) * (2 * p + T) = 2 * p * (2 * p) + 2 * (2 * p) * T + T * T := by grind
      have e5 : 2 * (2 * p) * u = 2 * (2 * p * (2 * p)) + 2 * (2 * p) * d := by rw [← hd]; grind
      have h6 : 2 * (2 * p) * T ≤ 2 * (2 * p) * d := Nat.mul_le_mul_left _ hT
      omega
  · refine Nat.lt_of_not_le fun hN => ?_
    have h5 := @sq_le (2 * p) (p + q + 1)
    have e1 : 2 * (2 * p) * (p + q + 1) = 2 * p * (2 * p) + 2 * (2 * p) * (q + 1) := by grind
    omega
/-- r is the root of v, rounded down. -/
def IsRt (v r : Nat) : Prop := r * r ≤ v ∧ v < (r + 1) * (r + 1)
theorem IsRt.uniq {v r s : Nat} (h : IsRt v r) (k : IsRt v s) : r = s := by
  have h1 : r < s + 1 := Nat.lt_of_not_le fun h' => by have := Nat.mul_le_mul h' h'; have := h.1; have := k.2; omega
  have h2 : s < r + 1 := Nat.lt_of_not_le fun h' => by have := Nat.mul_le_mul h' h'; have := k.1; have := h.2; omega
  omega
/-- a is nearer than a unit to the root of the number v without its lowest 2 * (c - e) digits. -/
def RtInv (v c e a : Nat) : Prop := 2 ^ e ≤ a ∧ (a - 1) * (a - 1) < v / 4 ^ (c - e) ∧ v / 4 ^ (c - e) < (a + 1) * (a + 1)
theorem rt_start {v c : Nat} (h1 : 4 ^ c ≤ v) (h2 : v < 4 ^ (c + 1)) : RtInv v c 0 1 := by
  refine ⟨by simp, ?_, ?_⟩
  · simp only [Nat.sub_self, Nat.mul_zero, Nat.sub_zero]
    exact (Nat.le_div_iff_mul_le (Nat.pow_pos (by omega))).2 (by omega)
  · rw [Nat.sub_zero]
    exact (Nat.div_lt_iff_lt_mul (Nat.pow_pos (by omega))).2 (by rw [Nat.pow_succ] at h2; omega)
theorem rt_end {v c a : Nat} (h : RtInv v c c a) : (a - 1) * (a - 1) < v ∧ v < (a + 1) * (a + 1) := by
  have := h.2
  simpa using this
theorem rt_root {v a : Nat} (h0 : 1 ≤ a) (h : (a - 1) * (a - 1) < v ∧ v < (a + 1) * (a + 1)) : IsRt v (if v < a * a then a - 1 else a) := by
  split
  · exact ⟨by omega, by rw [Nat.sub_add_cancel h0]; assumption⟩
  · exact ⟨by omega, h.2⟩
theorem rt_mid {N a k M q : Nat} (hk : 2 ^ k ≤ a) (hlo : (a - 1) * (a - 1) < M) (hhi : M < (a + 1) * (a + 1)) (hM : N / (2 ^ (k + 1) * 2 ^ (k + 1)) = M) (hq : N / (2 * (2 ^ (k + 1) * a)) = q) :
    (2 ^ k * a + q - 1) * (2 ^ k * a + q - 1) < N ∧ N < (2 ^ k * a + q + 1) * (2 ^ k * a + q + 1) := by
  have ha0 : 0 < a := Nat.lt_of_lt_of_le (Nat.pow_pos (by omega)) hk
  have hTp : 0 < 2 ^ (k + 1) * 2 ^ (k + 1) := Nat.mul_pos (Nat.pow_pos (by omega)) (Nat.pow_pos (by omega))
  have hT2 : 2 ^ (k + 1) = 2 * 2 ^ k := by rw [Nat.pow_succ]; omega
  have n1 := Nat.div_mul_le_self N (2 ^ (k + 1) * 2 ^ (k + 1))
  have n2 := Nat.lt_mul_div_succ N hTp
  have hT0 : 0 < 2 ^ (k + 1) := Nat.pow_pos (by omega)
  have hTT : 2 ^ (k + 1) * 2 ^ (k + 1) ≤ 2 * (2 ^ (k + 1) * a) := by
    have := Nat.mul_le_mul_left (2 ^ (k + 1)) hk
    rw [hT2] at this ⊢
    have e : 2 * 2 ^ k * (2 * 2 ^ k) = 2 * (2 * 2 ^ k * 2 ^ k) := by grind
    omega
  have hpY : 2 * (2 ^ k * a) = 2 ^ (k + 1) * a := by rw [hT2]; grind
  have hP : 0 < 2 ^ k * a := Nat.mul_pos (Nat.pow_pos (by omega)) ha0
  rw [hM] at n1 n2
  clear hM hT2
  generalize hT : 2 ^ (k + 1) = T at *
  clear hT
  have hY : 0 < T * a := Nat.mul_pos hT0 ha0
  have q1 := Nat.mul_div_le N (2 * (T * a))
  have q2 := Nat.lt_mul_div_succ N (show 0 < 2 * (T * a) by omega)
  rw [hq] at q1 q2
  refine @newton_core N (T * a) T (2 ^ k * a) q hP hpY hTT (Nat.le_mul_of_pos_right _ ha0) ?_ ?_ q1 q2
  · have e : (T * a - T) * (T * a - T) = (a - 1) * (a - 1) * (T * T) := by
      rw [show T * a - T = T * (a - 1) from by rw [Nat.mul_sub, Nat.mul_one]]; grind
    rw [e]
    have h5 := Nat.mul_lt_mul_of_pos_right hlo hTp
    omega
  · have e : (T * a + T) * (T * a + T) = (a + 1) * (a + 1) * (T * T) := by grind
    rw [e]
    have h5 := Nat.mul_le_mul_right (T * T) (Nat.succ_le_of_lt hhi)
    rw [Nat.mul_comm (T * T)] at n2
    exact Nat.lt_of_lt_of_le n2 h5
theorem rt_step {v c d e a : Nat} (hc : d ≤ c) (h0 : e < d) (hd : d ≤ 2 * e + 1) (h1 : 4 ^ c ≤ v) (h : RtInv v c e a) :
    RtInv v c d (a * 2 ^ (d - e - 1) + v / 2 ^ (2 * c - e - d + 1) / a) := by
  obtain ⟨ha, hlo, hhi⟩ := h
  obtain ⟨k, rfl⟩ : ∃ k, d = e + k + 1 := ⟨d - e - 1, by omega⟩
  have hk : 2 ^ k ≤ a := Nat.le_trans (Nat.pow_le_pow_right (by omega) (by omega)) ha
  rw [show e + k + 1 - e - 1 = k from by omega]
  have hM : v / 4 ^ (c - (e + k + 1)) / (2 ^ (k + 1) * 2 ^ (k + 1)) = v / 4 ^ (c - e) := by
    rw [Nat.div_div_eq_div_mul]
    congr 1
    rw [show (4 : Nat) = 2 ^ 2 from rfl, ← Nat.pow_mul, ← Nat.pow_mul, ← Nat.pow_add, ← Nat.pow_add]
    congr 1
    omega
  have hq : v / 4 ^ (c - (e + k + 1)) / (2 * (2 ^ (k + 1) * a)) = v / 2 ^ (2 * c - e - (e + k + 1) + 1) / a := by
    rw [Nat.div_div_eq_div_mul, Nat.div_div_eq_div_mul]
    congr 1
    rw [show (4 : Nat) = 2 ^ 2 from rfl, ← Nat.pow_mul, show 2 * (2 ^ (k + 1) * a) = 2 ^ (k + 2) * a from by rw [Nat.pow_succ 2 (k + 1)]; grind, ← Nat.mul_assoc, ← Nat.pow_add]
    congr 2
    omega
  have core := rt_mid hk hlo hhi hM hq
  rw [Nat.mul_comm a]
  refine ⟨?_, core⟩
  have h4 : 4 ^ (e + k + 1) ≤ v / 4 ^ (c - (e + k + 1)) := by
    refine (Nat.le_div_iff_mul_le (Nat.pow_pos (by omega))).2 ?_
    rw [← Nat.pow_add, show e + k + 1 + (c - (e + k + 1)) = c from by omega]
    exact h1
  have h5 : 2 ^ (e + k + 1) * 2 ^ (e + k + 1) < (2 ^ k * a + v / 2 ^ (2 * c - e - (e + k + 1) + 1) / a + 1) * (2 ^ k * a + v / 2 ^ (2 * c - e - (e + k + 1) + 1) / a + 1) := by
    rw [show (4 : Nat) = 2 * 2 from rfl, Nat.mul_pow] at h4
    exact Nat.lt_of_le_of_lt h4 core.2
  refine Nat.le_of_lt_succ (Nat.lt_of_not_le fun h6 => ?_)
  have := Nat.mul_le_mul h6 h6
  exact Nat.lt_irrefl _ (Nat.lt_of_lt_of_le h5 this)
end Go.Proofs.YtglgfjknhplajaaGreatDoor

/-
  The contract of bits.Len where the number is less than 65536.
-/
namespace Go.Proofs.YtglgfjknhplajaaGreatDoor
open Go.RowKit
set_option maxRecDepth 100000 in
set_option maxHeartbeats 400000 in
theorem len64_c (w : World) (x : Int) (h0 : 256 ≤ x) (h1 : x < 65536) :
    Calls Tryz.prog 113 #[.int .u64 x] w fun e w' => e = .returned (.int .i64 (Lib.bitLen x.toNat)) ∧ w = w' := by
  have hT : ∀ w, (Instr.index 9 (.string Lib.len8tab) (.int .u8 (x / 256))).run Tryz.prog w = .ok (.int .u8 (Lib.len8 (x / 256))) w := fun w => Lib.run_index_len8tab w 9 .u8 (x / 256) Tryz.underlying9 (by omega) (by omega)
  have hE : Hid (Lib.len8 (x / 256) = Lib.bitLen (x / 256).toNat) := Lib.len8_of (x / 256) (by omega) (by omega)
  have hL := Lib.hid (Lib.bitLen_le8' (x / 256) (by omega) (by omega))
  have hs := Lib.hid (Lib.bitLen_shift8 x.toNat (by omega) (by omega))
  have he : Hid ((x / 256).toNat = x.toNat / 256) := by show _ = _; omega
  go_enter Tryz.func113, Tryz.ntmps113
  go_wp2
  go_ret
  refine ⟨ret_int ?_, rfl⟩
  rw [hE.out]
  have l := hL.out
  have s := hs.out
  rw [he.out] at l ⊢
  unfold wrap64
  omega
set_option maxRecDepth 100000 in
set_option maxHeartbeats 400000 in
theorem len64_d (w : World) (x : Int) (h0 : 0 ≤ x) (h1 : x < 256) :
    Calls Tryz.prog 113 #[.int .u64 x] w fun e w' => e = .returned (.int .i64 (Lib.bitLen x.toNat)) ∧ w = w' := by
  have hT : ∀ w, (Instr.index 9 (.string Lib.len8tab) (.int .u8 (x))).run Tryz.prog w = .ok (.int .u8 (Lib.len8 (x))) w := fun w => Lib.run_index_len8tab w 9 .u8 (x) Tryz.underlying9 (by omega) (by omega)
  have hE : Hid (Lib.len8 (x) = Lib.bitLen (x).toNat) := Lib.len8_of (x) (by omega) (by omega)
  have hL := Lib.hid (Lib.bitLen_le8' (x) (by omega) (by omega))
  go_enter Tryz.func113, Tryz.ntmps113
  go_wp2
  go_ret
  refine ⟨ret_int ?_, rfl⟩
  rw [hE.out]
  have l := hL.out
  unfold wrap64
  omega
theorem len64_any (w : World) (x : Int) (h0 : 0 ≤ x) (h1 : x < 65536) :
    Calls Tryz.prog 113 #[.int .u64 x] w fun e w' => e = .returned (.int .i64 (Lib.bitLen x.toNat)) ∧ w = w' := by
  by_cases c : 256 ≤ x
  · exact len64_c w x c (by omega)
  exact len64_d w x h0 (by omega)
end Go.Proofs.YtglgfjknhplajaaGreatDoor

/- wide.root: the square root, rounded down. -/
namespace Go.Proofs.YtglgfjknhplajaaGreatDoor
open Go.RowKit

theorem rt_le {v c e x : Nat} (h : RtInv v c e x) : x ≤ v := by
  have h1 := h.2.1
  have h2 : v / 4 ^ (c - e) ≤ v := Nat.div_le_self _ _
  refine Nat.le_of_not_lt fun h3 => ?_
  have h4 := Nat.mul_le_mul (show v ≤ x - 1 by omega) (show v ≤ x - 1 by omega)
  rcases Nat.eq_zero_or_pos v with h5 | h5
  · subst h5; omega
  · have h6 := Nat.mul_le_mul_left v h5
    omega
theorem rt_pos {v c e x : Nat} (h : RtInv v c e x) : 1 ≤ x := Nat.le_trans (Nat.pow_pos (by omega)) h.1
/-- A call returns the root of v. -/
def RR (w : World) (v : Nat) (e : Ending) (w' : World) : Prop := ∃ r A c, IsRt v r ∧ e = .returned (.slice A (digs r).length c) ∧ Lm w' w'.heap.size A (digs r).length c (digs r) ∧ Below w.heap.size w w'

end Go.Proofs.YtglgfjknhplajaaGreatDoor

/- wide.Sqrt. -/
namespace Go.Proofs.YtglgfjknhplajaaGreatDoor
open Go.RowKit

/-- A call returns the root of v as a number. -/
def RQ (w : World) (v : Nat) (e : Ending) (w' : World) : Prop := ∃ r, IsRt v r ∧ RW w false (digs r) 0 e w'
theorem rt_zero : IsRt 0 0 := ⟨Nat.le_refl _, by decide⟩
theorem IsRt.le {v r : Nat} (h : IsRt v r) : r ≤ v := by
  rcases Nat.eq_zero_or_pos r with h0 | h0
  · omega
  · exact Nat.le_trans (Nat.le_mul_of_pos_left r h0) h.1

end Go.Proofs.YtglgfjknhplajaaGreatDoor

/- wide.Pow. -/
namespace Go.Proofs.YtglgfjknhplajaaGreatDoor
open Go.RowKit

/-- A number of at most 4096 limbs, or one that is too large. -/
theorem rz_cases {w : World} {z : Int} {e : Ending} {w' : World} (h : RZ w z e w') : ((digs z.natAbs).length ≤ 4096 ∧ RN w z e w') ∨ (4096 < (digs z.natAbs).length ∧ RW w false [] 16 e w') := by
  rcases Nat.lt_or_ge 4096 (digs z.natAbs).length with h1 | h1
  · right
    refine ⟨h1, ?_⟩
    unfold RZ mkN mkL mkE at h
    rw [decide_eq_false (by omega), if_neg (by omega), if_neg (by omega)] at h
    exact h
  · obtain ⟨k, hk⟩ : ∃ k, k = 4096 := ⟨_, rfl⟩
    exact .inl ⟨h1, rz_rn (k := k) (digs_len.1 (by omega)) (by omega) h⟩
theorem rz_big {w : World} {z : Int} (h1 : 4096 < (digs z.natAbs).length) : RZ w z = RW w false [] 16 := by
  unfold RZ mkN mkL mkE
  rw [decide_eq_false (by omega), if_neg (by omega), if_neg (by omega)]
  rfl
theorem rz_fit {w : World} {z : Int} (h1 : (digs z.natAbs).length ≤ 4096) : RZ w z = RW w (decide (z < 0)) (digs z.natAbs) 0 := by
  obtain ⟨k, hk⟩ : ∃ k, k = 4096 := ⟨_, rfl⟩
  have h2 := mkN_z (z := z) (k := k) (digs_len.1 (by omega)) (by omega)
  unfold RZ
  rw [h2.1, h2.2.1, h2.2.2]
theorem natAbs_pow_ (x : Int) (k : Nat) : (x ^ k).natAbs = x.natAbs ^ k := by
  induction k with
  | zero => simp
  | succ k ih => rw [Int.pow_succ, Nat.pow_succ, Int.natAbs_mul, ih]
/-- A power on the way is no longer than the last one. -/
theorem pow_way {x : Int} {a b : Nat} (h : a ≤ b) (hb : 4096 < (digs (x ^ a).natAbs).length) : 4096 < (digs (x ^ b).natAbs).length := by
  rw [natAbs_pow_] at hb ⊢
  rcases Nat.eq_zero_or_pos x.natAbs with h0 | h0
  · rw [h0] at hb
    have : (digs (0 ^ a)).length ≤ 1 := by
      refine digs_len.2 ?_
      rcases Nat.eq_zero_or_pos a with h1 | h1
      · subst h1; decide
      · rw [Nat.zero_pow h1]; decide
    omega
  · exact Nat.lt_of_lt_of_le hb (digs_mono (Nat.pow_le_pow_right h0 h))
theorem and_one (d : Nat) (h : d < 65536) : bits .and .i64 (d : Int) 1 = ((d % 2 : Nat) : Int) := by
  have e16 : (2 : Int) ^ 16 = 65536 := by decide
  have e1 : (2 : Int) ^ 1 = 2 := by decide
  have h1 := bits_mask .i64 16 (by decide) (fun n h0 h1 => by rw [e16] at h1; rw [IntKind.wrap_i64]; omega) 1 (by omega) (d : Int) (by omega) (by rw [e16]; omega)
  rw [e1] at h1
  have e2 : (2 : Int) - 1 = 1 := by decide
  rw [e2] at h1
  rw [h1]
  omega
theorem Pr.set1 {w : World} {g : Nat} {x y : Value} (p : Pr w g x y) (x' y' : Value) : Pr ((w.setCell ⟨g, 0, none⟩ x').setCell ⟨g, 1, none⟩ y') g x' y' := p.set x' y'

end Go.Proofs.YtglgfjknhplajaaGreatDoor

/- Root, power, shift, greatest common divisor and exact division, in whole numbers. -/
namespace Go.Proofs.YtglgfjknhplajaaGreatDoor
open Go.RowKit

theorem toI_scale (neg : Bool) (v m : Nat) : toI neg (v * m) = toI neg v * m := by
  unfold toI
  cases neg
  · simp
  · simp [Int.neg_mul]
theorem natAbs_two_pow (k : Nat) : ((2 : Int) ^ k).natAbs = 2 ^ k := by rw [natAbs_pow_]; rfl
theorem two_pow_cast (k : Nat) : (((2 : Nat) ^ k : Nat) : Int) = (2 : Int) ^ k := by simp
theorem two_lt8 (k : Nat) (hk : k ≤ 255) : 2 ^ k < 4294967296 ^ 8 :=
  Nat.lt_of_le_of_lt (Nat.pow_le_pow_right (by omega) hk) (by decide)
theorem sz_two (k : Nat) (hk : k ≤ 255) : Sz 8 ((2 : Int) ^ k) := by
  unfold Sz
  rw [natAbs_two_pow]
  exact two_lt8 k hk
section
variable (w : World) (A : Option Addr) (n c k : Nat) (x : Int) (hA : Lm w w.heap.size A n c (digs x.natAbs))
include hA
theorem shup_n (j : Nat) (hx : Sz j x) (hj : j ≤ 2000) (hk : k ≤ 255) {na : Bool} (ha : decide (x < 0) = na) :
    Calls Tryz.prog 78 #[.agg #[.bool na, .slice A n c], .int .i64 (k : Int)] w (RN w (x * (2 : Int) ^ k)) := by
  have hc := chk_z hx (show j ≤ 4096 by omega)
  subst ha
  have h := shift_up w _ A n c _ k hA hc (by omega)
  have e1 := rz_of w (decide (x < 0)) (x.natAbs * 2 ^ k) (z := x * (2 : Int) ^ k) (by rw [toI_scale, toI_self, two_pow_cast])
  rw [e1] at h
  exact h.mono fun e w' hr => rz_rn (hx.mul (sz_two k hk)) (by omega) hr
theorem shdn_n (j : Nat) (z : Int) (hx : Sz j x) (hj : j ≤ 2000) (hz : z = -(k : Int)) (hk : k ≤ 255) (hT : TabD w) {na : Bool} (ha : decide (x < 0) = na) :
    Calls Tryz.prog 78 #[.agg #[.bool na, .slice A n c], .int .i64 z] w (RN w (x / (2 : Int) ^ k)) := by
  rcases Nat.eq_zero_or_pos k with h0 | h0
  · subst h0
    obtain rfl : z = ((0 : Nat) : Int) := by omega
    have h := shup_n w A n c 0 x hA j hx hj (by omega) ha
    rw [Int.pow_zero, Int.mul_one] at h
    rw [Int.pow_zero, Int.ediv_one]
    exact h
  have hc := chk_z hx (show j ≤ 4096 by omega)
  have hd : x.natAbs / 2 ^ k ≤ x.natAbs := Nat.div_le_self _ _
  have hxs : x.natAbs < 4294967296 ^ j := hx
  have hj1 : 4294967296 ^ (j + 1) = 4294967296 ^ j * 4294967296 := rfl
  have hP : 0 < 2 ^ k := Nat.pow_pos (by omega)
  have key : ∀ (v : Nat) (ng : Bool), toI ng v = x / (2 : Int) ^ k → v ≤ x.natAbs + 1 → ∀ e w', RW w (mkN ng v) (mkL v) (mkE v) e w' → RN w (x / (2 : Int) ^ k) e w' := by
    intro v ng e0 hv e w' hr
    rw [rz_of w ng v e0.symm] at hr
    refine rz_rn (k := j + 1) ?_ (by omega) hr
    unfold Sz
    rw [← e0, toI_abs, pow_succ_]
    have := pow_pos_ j
    omega
  by_cases hs : x < 0
  · rw [← ha, decide_eq_true hs] at *
    have hdm := Nat.div_add_mod x.natAbs (2 ^ k)
    have hml := Nat.mod_lt x.natAbs hP
    by_cases hr : x.natAbs % 2 ^ k = 0
    · refine (shift_down_even w A n c _ k z hA hc hz h0 (by omega) hT hr).mono fun e w' => key _ true ?_ (by omega) e w'
      refine ((Int.ediv_emod_unique (a := x) (b := (2 : Int) ^ k) (r := 0) (q := toI true (x.natAbs / 2 ^ k)) (by rw [← two_pow_cast]; omega)).2 ⟨?_, by omega, by rw [← two_pow_cast]; omega⟩).1.symm
      have e1 := toI_scale true (x.natAbs / 2 ^ k) (2 ^ k)
      rw [two_pow_cast] at e1
      rw [Int.mul_comm, ← e1, Nat.mul_comm]
      rw [hr] at hdm
      rw [show 2 ^ k * (x.natAbs / 2 ^ k) = x.natAbs by omega]
      unfold toI
      rw [if_pos rfl]
      omega
    · refine (shift_down_lost w A n c _ k z hA hc hz h0 (by omega) hT hr).mono fun e w' => key _ true ?_ (by omega) e w'
      refine ((Int.ediv_emod_unique (a := x) (b := (2 : Int) ^ k) (r := (2 : Int) ^ k - (x.natAbs % 2 ^ k : Nat)) (q := toI true (x.natAbs / 2 ^ k + 1)) (by rw [← two_pow_cast]; omega)).2 ⟨?_, by rw [← two_pow_cast]; omega, by rw [← two_pow_cast]; omega⟩).1.symm
      have e1 := toI_scale true (x.natAbs / 2 ^ k + 1) (2 ^ k)
      rw [two_pow_cast] at e1
      rw [Int.mul_comm, ← e1, Nat.mul_comm, Nat.mul_add, Nat.mul_one]
      rw [← two_pow_cast]
      unfold toI
      rw [if_pos rfl]
      omega
  · rw [← ha, decide_eq_false hs] at *
    refine (shift_down_pos w A n c _ k z hA hc hz h0 (by omega)).mono fun e w' => key _ false ?_ (by omega) e w'
    have e0 : x = (x.natAbs : Int) := by omega
    rw [← two_pow_cast]
    unfold toI
    rw [if_neg (by simp)]
    conv => rhs; rw [e0]
    simp
end
section
variable (w : World) (A B : Option Addr) (n m ca cb k : Nat) (x y : Int) (hA : Lm w w.heap.size A n ca (digs x.natAbs)) (hB : Lm w w.heap.size B m cb (digs y.natAbs)) (hx : Sz k x) (hy : Sz k y) (hk : k ≤ 2000)
include hA hB hx hy hk
theorem sz_gcd : Sz k (Nat.gcd x.natAbs y.natAbs : Int) := by
  have _ := hA; have _ := hB; have _ := hk
  unfold Sz at *
  rw [Int.natAbs_natCast]
  rcases Nat.eq_zero_or_pos x.natAbs with h0 | h0
  · rw [h0, Nat.gcd_zero_left]; exact hy
  · exact Nat.lt_of_le_of_lt (Nat.gcd_le_left _ h0) hx
theorem gcd_n {na nb : Bool} (ha : decide (x < 0) = na) (hb : decide (y < 0) = nb) : Calls Tryz.prog 71 #[.agg #[.bool na, .slice A n ca], .agg #[.bool nb, .slice B m cb]] w (RN w (Nat.gcd x.natAbs y.natAbs : Int)) := by
  have hz := sz_gcd w A B n m ca cb k x y hA hB hx hy hk
  subst ha hb
  have h := gcd_any w _ _ A B n m ca cb _ _ hA hB (chkB_z hx (by omega) hy (by omega)) (by rw [← hA.len]; exact Nat.le_trans hx.len (by omega)) (by rw [← hB.len]; exact Nat.le_trans hy.len (by omega))
  refine h.mono fun e w' hr => ?_
  have hr2 := rw_rn (neg := false) (Nat.le_trans hz.len (by omega)) hr
  exact hr2
/-- Exact division of the reference: the rest is 0. -/
theorem rdiv0_n {na nb : Bool} (ha : decide (x < 0) = na) (hb : decide (y < 0) = nb) (hy0 : 0 < y) (hd : y.natAbs ∣ x.natAbs) : Calls Tryz.prog 53 #[.agg #[.bool na, .slice A n ca], .agg #[.bool nb, .slice B m cb]] w
      (fun e w' => ∃ Aq nq cq Ar cr gq gr, e = .returned (.tuple #[.agg #[.bool gq, .slice Aq nq cq], .agg #[.bool gr, .slice Ar 0 cr], .int .i64 0]) ∧ Below w.heap.size w w') := by
  have hv := chkB_z hx (show k ≤ 4096 by omega) hy (show k ≤ 4096 by omega)
  rw [ha, hb] at hv
  have h0 : x.natAbs % y.natAbs = 0 := Nat.mod_eq_zero_of_dvd hd
  have hnb : nb = false := by rw [← hb]; exact decide_eq_false (by omega)
  subst hnb
  have fin : ∀ (n1 n2 : Bool) (l1 : List Nat) e w', RWW w n1 l1 n2 (digs (x.natAbs % y.natAbs)) 0 e w' → ∃ Aq nq cq Ar cr gq gr, e = .returned (.tuple #[.agg #[.bool gq, .slice Aq nq cq], .agg #[.bool gr, .slice Ar 0 cr], .int .i64 0]) ∧ Below w.heap.size w w' := by
    rintro n1 n2 l1 e w' ⟨Aq, nq, cq, Ar, nr, cr, he, _, hr, hb⟩
    rw [h0] at hr
    obtain rfl : nr = 0 := hr.len.symm
    exact ⟨Aq, nq, cq, Ar, cr, n1, n2, he, hb⟩
  cases na
  · exact (rdivmod_same w false false A B n m ca cb _ _ hA hB hv (by omega) rfl (decide (0 < x.natAbs % y.natAbs)) rfl).mono fun e w' h => fin _ _ _ e w' h
  · exact (rdivmod_exact w true false A B n m ca cb _ _ hA hB hv (by omega) (.inl ⟨rfl, rfl⟩) h0).mono fun e w' h => fin _ _ _ e w' h
end
/-- The quotient of RD2 for a positive divisor is the floor. -/
theorem rd2_floor {x y q r : Int} (e1 : x = q * y + r) (e2 : r.natAbs < y.natAbs) (e3 : r = 0 ∨ decide (r < 0) = decide (y < 0)) (hy : 0 < y) : q = x / y := by
  have hr : 0 ≤ r := by
    rcases e3 with h | h
    · omega
    · rw [decide_eq_false (show ¬ y < 0 by omega)] at h
      have := of_decide_eq_false h
      omega
  exact ((Int.ediv_emod_unique (a := x) (b := y) (r := r) (q := q) hy).2 ⟨by rw [Int.mul_comm]; omega, hr, by omega⟩).1.symm
end Go.Proofs.YtglgfjknhplajaaGreatDoor

/- The reference's Shift: multiplication by a power of 2, or the floor of division by one. -/
namespace Go.Proofs.YtglgfjknhplajaaGreatDoor
open Go.RowKit

theorem own_zer {w : World} {B a : Nat} {v : Value} (h : Ow w B v (zer a)) : w.ownsRow B 76 1 v a ((zer a).map u32c) := by
  have h2 : w.ownsRow B 76 1 v (zer a).length ((zer a).map u32c) := h
  rw [zer_len] at h2
  exact h2
theorem Lm.loneE (w : World) (k : Nat) (t : TypeId) (hk : w.heap.size = k) (x : Nat) (E : Int) (hE : E = (x : Int)) (hx : x < 4294967296) : Lm (w.alloc (.cells #[.int .u32 E] t)) (w.alloc (.cells #[.int .u32 E] t)).heap.size (some ⟨k, 0, none⟩) 1 1 [x] := by
  subst hk hE
  exact ⟨rfl, by unfold Good; simpa using hx, Nat.le_refl _, by omega, fun h => (by cases h), fun _ => ⟨_, 0, rfl, by simp, fun j hj => by
    match j, hj with
    | 0, _ => go_simp⟩⟩
theorem Ow.madeK (w : World) (k n : Nat) (hk : w.heap.size = k) (hn : n ≤ 4000000000) : Ow (w.alloc (.cells ((zer n).map u32c).toArray 76)) k (.slice (some ⟨k, 0, none⟩) n n) (zer n) := by
  subst hk
  exact Ow.made w n n (Nat.le_refl _) hn
theorem pw_split (k : Nat) : 4294967296 ^ (k / 32) * 2 ^ (k % 32) = 2 ^ k := by
  rw [show (4294967296 : Nat) = 2 ^ 32 from by decide, ← Nat.pow_mul, ← Nat.pow_add]
  congr 1
  omega
theorem val_zer (a : Nat) : val (zer a) = 0 := val_zero fun _ hx => (List.mem_replicate.1 hx).2
theorem up_list {k v : Nat} {ts : List Nat} (h : val ts = v * 2 ^ (k % 32)) : val (zer (k / 32) ++ ts) = v * 2 ^ k := by
  rw [val_append, val_zer, zer_len, h, Nat.zero_add, ← pw_split k, Nat.mul_left_comm]
theorem two_digs (k : Nat) : zer (k / 32) ++ [2 ^ (k % 32)] = digs (2 ^ k) := by
  have h1 : 0 < 2 ^ (k % 32) := Nat.pow_pos (by omega)
  have h2 : 2 ^ (k % 32) < 4294967296 := Nat.lt_of_lt_of_le (Nat.pow_lt_pow_right (by omega) (show k % 32 < 32 by omega)) (by decide)
  refine eq_digs ((zer_good _).append (Good.nil.cons h2)) ?_ ?_
  · unfold Norm
    rw [List.getLast?_append]
    simp
  · have h := up_list (k := k) (v := 1) (ts := [2 ^ (k % 32)]) (by simp [val_cons, val_nil])
    rw [h, Nat.one_mul]

/-- What a shift down makes of an absolute value. -/
def DWN (neg : Bool) (v j : Nat) : Nat := if neg = true ∧ 0 < v % 2 ^ j then v / 2 ^ j + 1 else v / 2 ^ j
end Go.Proofs.YtglgfjknhplajaaGreatDoor

/- Shift and DivMod of the reference, and Int on both sides, in whole numbers. -/
namespace Go.Proofs.YtglgfjknhplajaaGreatDoor
open Go.RowKit

theorem rdivmod_n (w : World) (A B : Option Addr) (n m ca cb k : Nat) (x y : Int) (hA : Lm w w.heap.size A n ca (digs x.natAbs)) (hB : Lm w w.heap.size B m cb (digs y.natAbs)) (hx : Sz k x) (hy : Sz k y) (hk : k ≤ 2000) (hy0 : y ≠ 0)
    {na nb : Bool} (ha : decide (x < 0) = na) (hb : decide (y < 0) = nb) :
    Calls Tryz.prog 53 #[.agg #[.bool na, .slice A n ca], .agg #[.bool nb, .slice B m cb]] w (RD2 w x y) := by
  have hv := chkB_z hx (show k ≤ 4096 by omega) hy (show k ≤ 4096 by omega)
  rw [ha, hb] at hv
  have hxl : (digs x.natAbs).length ≤ 4096 := Nat.le_trans hx.len (by omega)
  have hyl : (digs y.natAbs).length ≤ 4096 := Nat.le_trans hy.len (by omega)
  have hbp : 0 < y.natAbs := by omega
  have ex : toI na x.natAbs = x := by rw [← ha]; exact toI_self x
  have ey : toI nb y.natAbs = y := by rw [← hb]; exact toI_self y
  have hdm := Nat.div_add_mod x.natAbs y.natAbs
  have hml := Nat.mod_lt x.natAbs hbp
  have hdl := Nat.div_le_self x.natAbs y.natAbs
  have hm2 := Nat.mod_le x.natAbs y.natAbs
  have key : ∀ (s t : Bool), toI t y.natAbs = y → toI s (x.natAbs / y.natAbs) * y + toI (s != t) (x.natAbs % y.natAbs) = toI (s != t) x.natAbs := by
    intro s t ht
    have e := toI_mul s t (x.natAbs / y.natAbs) y.natAbs
    rw [ht] at e
    rw [e, toI_same rfl, Nat.mul_comm, hdm]
  by_cases hs : na = nb
  · refine (rdivmod_same w na nb A B n m ca cb _ _ hA hB hv hbp hs _ rfl).mono fun e w' h => rww_rd2 (Nat.le_trans (digs_mono hdl) hxl) (Nat.le_trans (digs_mono hm2) hxl) ?_ hml (.inr hb.symm) hdl h
    have h1 := key false nb ey
    subst hs
    rw [show (false != na) = na from by cases na <;> rfl, ex] at h1
    exact h1.symm
  · have hs2 : na = true ∧ nb = false ∨ na = false ∧ nb = true := by cases na <;> cases nb <;> simp_all
    have hnn : (true != nb) = na := by cases na <;> cases nb <;> simp_all
    have h1 := key true nb ey
    rw [hnn, ex] at h1
    rcases Nat.eq_zero_or_pos (x.natAbs % y.natAbs) with h0 | h0
    · refine (rdivmod_exact w na nb A B n m ca cb _ _ hA hB hv hbp hs2 h0).mono fun e w' h => rww_rd2 (Nat.le_trans (digs_mono hdl) hxl) (Nat.le_trans (digs_mono hm2) hxl) ?_ hml (.inl h0) hdl h
      exact h1.symm
    · have hq1 : x.natAbs / y.natAbs + 1 ≤ x.natAbs := by
        have h2 : 2 ≤ y.natAbs := by omega
        have h3 := Nat.mul_le_mul_right (x.natAbs / y.natAbs) h2
        omega
      refine (rdivmod_down w na nb A B n m ca cb _ _ hA hB hv hbp hs2 h0).mono fun e w' h => rww_rd2 (Nat.le_trans (digs_mono hq1) hxl) (Nat.le_trans (digs_mono (show y.natAbs - x.natAbs % y.natAbs ≤ y.natAbs by omega)) hyl) ?_ (by omega) (.inr hb.symm) hq1 h
      have h4 : toI true (x.natAbs / y.natAbs + 1) = toI true (x.natAbs / y.natAbs) - 1 := by unfold toI; simp; omega
      rw [h4, Int.sub_mul, Int.one_mul]
      have h5 : toI nb (y.natAbs - x.natAbs % y.natAbs) - y = toI na (x.natAbs % y.natAbs) := by
        rw [← ey, toI_abs]
        unfold toI
        cases na <;> cases nb <;> simp_all <;> omega
      omega
/-- What Int returns of the number z. -/
def i64V (z : Int) : Int := if -9223372036854775808 ≤ z ∧ z ≤ 9223372036854775807 then z else 0
def i64E (z : Int) : Int := if -9223372036854775808 ≤ z ∧ z ≤ 9223372036854775807 then 0 else 16
theorem int_z {z : Int} {k : Nat} (hz : Sz k z) (hk : k ≤ 2000) : intVT (decide (z < 0)) (digs z.natAbs) = i64V z ∧ intET (decide (z < 0)) (digs z.natAbs) = i64E z := by
  have hc := chk_z hz (show k ≤ 4096 by omega)
  unfold intVT intET intV intE i64V i64E
  rw [if_pos hc, if_pos hc, digs_val]
  by_cases h : z < 0
  · rw [decide_eq_true h]
    simp only [if_true]
    by_cases h2 : z.natAbs ≤ 9223372036854775808
    · rw [if_pos h2, if_pos h2, if_pos (by omega), if_pos (by omega)]; omega
    · rw [if_neg h2, if_neg h2, if_neg (by omega), if_neg (by omega)]; omega
  · rw [decide_eq_false h]
    simp only [Bool.false_eq_true, if_false]
    by_cases h2 : z.natAbs < 9223372036854775808
    · rw [if_pos h2, if_pos h2, if_pos (by omega), if_pos (by omega)]; omega
    · rw [if_neg h2, if_neg h2, if_neg (by omega), if_neg (by omega)]; omega
section
variable (w : World) (A : Option Addr) (n c k : Nat) (z : Int) (hA : Lm w w.heap.size A n c (digs z.natAbs)) (hz : Sz k z) (hk : k ≤ 2000)
include hA hz hk
theorem int_n {na : Bool} (ha : decide (z < 0) = na) : Calls Tryz.prog 47 #[.agg #[.bool na, .slice A n c]] w fun e w' => e = .returned (.tuple #[.int .i64 (i64V z), .int .i64 (i64E z)]) ∧ Below w.heap.size w w' := by
  have h := int_t w na A n c _ hA
  obtain ⟨h1, h2⟩ := int_z hz hk
  rw [← ha] at h ⊢
  rwa [h1, h2] at h
end
end Go.Proofs.YtglgfjknhplajaaGreatDoor

/- Intervals of fractions: words; Whole on both sides, share of the code. -/
namespace Go.Proofs.YtglgfjknhplajaaGreatDoor
open Go.RowKit

/-- A call returns the number z, which is not negative. -/
def RNN (w : World) (z : Int) (e : Ending) (w' : World) : Prop := ∃ A n c, e = .returned (.tuple #[.agg #[.bool false, .slice A n c], .int .i64 0]) ∧ Lm w' w'.heap.size A n c (digs z.natAbs) ∧ Below w.heap.size w w'
theorem rn_nn {w : World} {z : Int} (hz : 0 ≤ z) {e : Ending} {w' : World} (h : RN w z e w') : RNN w z e w' := by
  unfold RN at h
  rwa [decide_eq_false (by omega)] at h
/-- A call returns quotient and rest of a number by one greater than 0. -/
def RDF (w : World) (x y : Int) (e : Ending) (w' : World) : Prop := ∃ A n c A' n' c', e = .returned (.tuple #[.agg #[.bool (decide (x / y < 0)), .slice A n c], .agg #[.bool false, .slice A' n' c'], .int .i64 0]) ∧ Lm w' w'.heap.size A n c (digs (x / y).natAbs) ∧ Lm w' w'.heap.size A' n' c' (digs (x % y).natAbs) ∧ Below w.heap.size w w'
theorem rd2_f {w : World} {x y : Int} (hy : 0 < y) {e : Ending} {w' : World} (h : RD2 w x y e w') : RDF w x y e w' := by
  obtain ⟨q, r, h1, h2, h3, _, A, n, c, A', n', c', he, hL, hL', hb⟩ := h
  have hr : 0 ≤ r := by
    rcases h3 with h3 | h3
    · omega
    · rw [decide_eq_false (show ¬ y < 0 by omega)] at h3
      have := of_decide_eq_false h3; omega
  obtain ⟨e1, e2⟩ := (Int.ediv_emod_unique (a := x) (b := y) (r := r) (q := q) hy).2 ⟨by rw [h1, Int.mul_comm]; omega, hr, by omega⟩
  refine ⟨A, n, c, A', n', c', ?_, by rw [e1]; exact hL, by rw [e2]; exact hL', hb⟩
  rw [he, e1, decide_eq_false (show ¬ r < 0 by omega)]
theorem RDF.of {w : World} {x y q : Int} (hq : x / y = q) {e : Ending} {w' : World} (h : RDF w x y e w') : ∃ A n c A' n' c', e = .returned (.tuple #[.agg #[.bool (decide (q < 0)), .slice A n c], .agg #[.bool false, .slice A' n' c'], .int .i64 0]) ∧ Lm w' w'.heap.size A n c (digs q.natAbs) ∧ Lm w' w'.heap.size A' n' c' (digs (x % y).natAbs) ∧ Below w.heap.size w w' := by
  subst hq; exact h
theorem div_mod_c {p d : Int} (hd : 0 < d) : cdiv p d = if p % d = 0 then p / d else p / d + 1 := by
  have h1 := Int.mul_ediv_add_emod p d
  have h2 := Int.emod_nonneg p (show d ≠ 0 by omega)
  have h3 := Int.emod_lt_of_pos p hd
  unfold cdiv
  by_cases h : p % d = 0
  · rw [if_pos h]
    have e : -p / d = -(p / d) := ((Int.ediv_emod_unique (a := -p) (b := d) (r := 0) (q := -(p / d)) hd).2 ⟨by rw [Int.mul_neg]; omega, by omega, hd⟩).1
    omega
  · rw [if_neg h]
    have e : -p / d = -(p / d) - 1 := ((Int.ediv_emod_unique (a := -p) (b := d) (r := d - p % d) (q := -(p / d) - 1) hd).2 ⟨by rw [Int.mul_sub, Int.mul_neg]; omega, by omega, by omega⟩).1
    omega
/-- The interval of a fraction. -/
def offO (N D : Int) : Out := mkI (N * 1099511627776 / D) (cdiv (N * 1099511627776) D)
theorem share_eq {N D : Int} (hD : 0 < D) : N * 1099511627776 / D = N / D * 1099511627776 + N % D * 1099511627776 / D ∧ N * 1099511627776 % D = N % D * 1099511627776 % D ∧ 0 ≤ N % D * 1099511627776 / D ∧ N % D * 1099511627776 / D < 1099511627776 := by
  have h1 := Int.mul_ediv_add_emod N D
  have h2 := Int.emod_nonneg N (show D ≠ 0 by omega)
  have h3 := Int.emod_lt_of_pos N hD
  have h4 := Int.mul_ediv_add_emod (N % D * 1099511627776) D
  have h5 := Int.emod_nonneg (N % D * 1099511627776) (show D ≠ 0 by omega)
  have h6 := Int.emod_lt_of_pos (N % D * 1099511627776) hD
  have e : N * 1099511627776 = D * (N / D * 1099511627776 + N % D * 1099511627776 / D) + N % D * 1099511627776 % D := by
    rw [Int.mul_add, ← Int.mul_assoc]
    have : N * 1099511627776 = (D * (N / D) + N % D) * 1099511627776 := by rw [h1]
    rw [this, Int.add_mul]
    omega
  obtain ⟨a1, a2⟩ := (Int.ediv_emod_unique (a := N * 1099511627776) (b := D) (r := N % D * 1099511627776 % D) (q := N / D * 1099511627776 + N % D * 1099511627776 / D) hD).2 ⟨by omega, h5, h6⟩
  refine ⟨a1, a2, Int.ediv_nonneg (by omega) (by omega), Int.ediv_lt_of_lt_mul hD (by rw [Int.mul_comm 1099511627776]; exact Int.mul_lt_mul_of_pos_right h3 (by omega))⟩
theorem sdrewZ {B : Nat} {a w : World} (h : Below B a w) : Below B a w.drew := bdrewN h 1
theorem mk_out {lo hi : Int} (h : lo < -2305843009213693952 ∨ 2305843009213693952 < hi) : mkI lo hi = ⟨0, 0, 16⟩ := by unfold mkI; rw [if_pos h]
theorem off_out {N D : Int} (hD : 0 < D) (h : N / D < -2097152 ∨ 2097152 < N / D) : offO N D = ⟨0, 0, 16⟩ := by
  obtain ⟨h1, h2, h3, h4⟩ := share_eq (N := N) hD
  have h5 := fdiv_le_cdiv (p := N * 1099511627776) hD
  unfold offO
  exact mk_out (by omega)
def whO (n : Int) : Out := if n < -2097152 ∨ 2097152 < n then ⟨0, 0, 16⟩ else ⟨n * 1099511627776, n * 1099511627776, 0⟩
theorem who_out {n : Int} (h : n < -2097152 ∨ 2097152 < n) : whO n = ⟨0, 0, 16⟩ := by unfold whO; rw [if_pos h]
theorem who_in {n : Int} (h1 : -2097152 ≤ n) (h2 : n ≤ 2097152) : whO n = ⟨n * 1099511627776, n * 1099511627776, 0⟩ := by unfold whO; rw [if_neg (by omega)]
set_option maxRecDepth 100000 in
set_option maxHeartbeats 1000000 in
theorem swhole_any (w : World) (n : Int) (hn1 : -9223372036854775808 ≤ n) (hn2 : n ≤ 9223372036854775807) : Calls Tryz.prog 48 #[.int .i64 n] w (RO w (whO n)) := by
  have PR := Lib.hid (Pr.new w w.heap.size rfl (.int .i64 0) (.int .i64 0) 23)
  have BW : Hid (Below w.heap.size w (w.alloc (.cells #[.int .i64 0, .int .i64 0] 23))) := sbal (Below.refl _ _) _
  rcases Int.lt_or_le n (-2097152) with h | h
  · rw [who_out (.inl h)]
    go_enter Tryz.func48, Tryz.ntmps48
    have ⟨r0, r1, r2, r3, r4⟩ := PR.out
    go_wp2
    first
    | exact post_iv Tryz.results48 rfl rfl (PR.out.set _ _) ⟨rfl, below_set2 BW.out (by omega) _ _⟩
    | exact post_iv Tryz.results48 rfl rfl PR.out ⟨rfl, BW.out⟩
  · rcases Int.lt_or_le 2097152 n with h2 | h2
    · rw [who_out (.inr h2)]
      have hnb : decide (n < -2097152) = false := decide_eq_false (by omega)
      go_enter Tryz.func48, Tryz.ntmps48
      have ⟨r0, r1, r2, r3, r4⟩ := PR.out
      go_wp2
      first
      | exact post_iv Tryz.results48 rfl rfl (PR.out.set _ _) ⟨rfl, below_set2 BW.out (by omega) _ _⟩
      | exact post_iv Tryz.results48 rfl rfl PR.out ⟨rfl, BW.out⟩
    · rw [who_in h h2]
      have hnb : decide (n < -2097152) = false := decide_eq_false (by omega)
      have hnb2 : decide (2097152 < n) = false := decide_eq_false (by omega)
      have hw : IntKind.i64.wrap (n * 1099511627776) = n * 1099511627776 := IntWalk.i64_in _ (by omega)
      go_enter Tryz.func48, Tryz.ntmps48
      have ⟨r0, r1, r2, r3, r4⟩ := PR.out
      go_wp2
      exact post_iv Tryz.results48 rfl rfl (Pr.new w _ rfl _ _ _) ⟨rfl, sbal (Below.refl _ _) _⟩
set_option maxRecDepth 100000 in
set_option maxHeartbeats 2000000 in
theorem share_n (w : World) (A B : Option Addr) (n m ca cb k : Nat) (r D : Int) (hA : Lm w w.heap.size A n ca (digs r.natAbs)) (hB : Lm w w.heap.size B m cb (digs D.natAbs)) (hr0 : 0 ≤ r) (hrD : r < D) (hk : k ≤ 1000) (hs : Sz k D) :
    Calls Tryz.prog 49 #[.agg #[.bool false, .slice A n ca], .agg #[.bool false, .slice B m cb]] w fun e w' => e = .returned (.tuple #[.int .i64 (r * 1099511627776 / D), .bool (decide (0 < r * 1099511627776 % D))]) ∧ Below w.heap.size w w' := by
  have HA := Lib.hid hA
  have HB := Lib.hid hB
  have hsr : Sz k r := by unfold Sz at *; omega
  obtain ⟨X, hX⟩ : ∃ X, X = r * 1099511627776 := ⟨_, rfl⟩
  have hX0 : 0 ≤ X := by omega
  have hp : (2 : Int) ^ 40 = 1099511627776 := by decide
  have hsX : Sz (k + 8) X := by rw [hX, ← hp]; exact hsr.mul (sz_two 40 (by omega))
  have hsh : ∀ W, Lm W W.heap.size A n ca (digs r.natAbs) → Calls Tryz.prog 78 #[.agg #[.bool false, .slice A n ca], .int .i64 40] W (RNN W X) := fun W L => by
    have h := shup_n W A n ca 40 r L k hsr (by omega) (by omega) (decide_eq_false (show ¬ r < 0 by omega))
    rw [hp, ← hX] at h
    exact h.mono fun e w' h => rn_nn hX0 h
  have hdm : ∀ W A' n' c', Lm W W.heap.size A' n' c' (digs X.natAbs) → Lm W W.heap.size B m cb (digs D.natAbs) → Calls Tryz.prog 46 #[.agg #[.bool false, .slice A' n' c'], .agg #[.bool false, .slice B m cb]] W (RDF W X D) := fun W A' n' c' L1 L2 =>
    (divmod_n W A' B n' m c' cb (k + 8) X D L1 L2 hsX (hs.mono (by omega)) (by omega) (by omega) (decide_eq_false (by omega)) (decide_eq_false (by omega))).mono fun e w' h => rd2_f (by omega) h
  rw [← hX]
  have hu1 : 0 ≤ X / D := Int.ediv_nonneg hX0 (by omega)
  have hu2 : X / D < 1099511627776 := Int.ediv_lt_of_lt_mul (by omega) (by rw [hX, Int.mul_comm 1099511627776]; exact Int.mul_lt_mul_of_pos_right hrD (by omega))
  have hsu : Sz 2 (X / D) := by unfold Sz; omega
  have hin : ∀ W A' n' c', Lm W W.heap.size A' n' c' (digs (X / D).natAbs) → Calls Tryz.prog 47 #[.agg #[.bool (decide (X / D < 0)), .slice A' n' c']] W fun e w' => e = .returned (.tuple #[.int .i64 (X / D), .int .i64 0]) ∧ Below W.heap.size W w' := fun W A' n' c' L => by
    have h := int_n W A' n' c' 2 (X / D) L hsu (by omega) rfl
    have e1 : i64V (X / D) = X / D := by unfold i64V; rw [if_pos (by omega)]
    have e2 : i64E (X / D) = 0 := by unfold i64E; rw [if_pos (by omega)]
    rwa [e1, e2] at h
  have hm0 : 0 ≤ X % D := Int.emod_nonneg X (by omega)
  have hlen : ∀ n' : Nat, (digs (X % D).natAbs).length = n' → (0 < n' ↔ 0 < X % D) := fun n' h => by rw [← h, digs_pos]; omega
  have HSF := Lib.hid hsh
  unfold RDF at hdm
  have HDM := Lib.hid hdm
  have HIN := Lib.hid hin
  have HLN := Lib.hid hlen
  clear hsh hdm hin hlen hu1 hu2 hsu hm0 hsX hX0 hp hX hsr hA hB hr0 hrD hs
  generalize X / D = u at *
  generalize X % D = v at *
  go_enter Tryz.func49, Tryz.ntmps49
  have QA := Lib.hid ((Pr.new w (w.heap.size) rfl (.bool false) (.slice A n ca) 29).alloc (.cells #[.bool false, .slice B m cb] 29))
  have QB := Lib.hid (Pr.new (w.alloc (.cells #[.bool false, .slice A n ca] 29)) (w.heap.size + 1) (by simp) (.bool false) (.slice B m cb) 29)
  have LA := Lib.hid ((HA.out.box (.cells #[.bool false, .slice A n ca] 29)).box (.cells #[.bool false, .slice B m cb] 29))
  have LB := Lib.hid ((HB.out.box (.cells #[.bool false, .slice A n ca] 29)).box (.cells #[.bool false, .slice B m cb] 29))
  have BW : Hid (Below w.heap.size w ((w.alloc (.cells #[.bool false, .slice A n ca] 29)).alloc (.cells #[.bool false, .slice B m cb] 29))) := (sbal (sbal (Below.refl _ _) _) _)
  clear HA HB
  go_wp2_with fail
  generalize (w.alloc (.cells #[.bool false, .slice A n ca] 29)).alloc (.cells #[.bool false, .slice B m cb] 29) = W0 at *
  refine (HSF.out _ LA.out).mono ?_
  rintro e w1 ⟨A1, n1, c1, rfl, hL1, hb⟩
  replace QA := Lib.hid (QA.out.via hb)
  replace QB := Lib.hid (QB.out.via hb)
  replace LA := Lib.hid (LA.out.via hb)
  replace LB := Lib.hid (LB.out.via hb)
  replace BW := Lib.hid (btr BW.out hb)
  have L1 := Lib.hid hL1
  clear hb hL1
  have ⟨rQA0, rQA1, rQA2, rQA3, rQAl⟩ := QA.out
  have ⟨rQB0, rQB1, rQB2, rQB3, rQBl⟩ := QB.out
  go_wp2_with fail
  clear rQA0 rQA1 rQA2 rQA3 rQAl rQB0 rQB1 rQB2 rQB3 rQBl
  replace QA := Lib.hid (QA.out.alloc (.cells #[.bool false, .slice A1 n1 c1] 29))
  replace QB := Lib.hid (QB.out.alloc (.cells #[.bool false, .slice A1 n1 c1] 29))
  replace LA := Lib.hid (LA.out.box (.cells #[.bool false, .slice A1 n1 c1] 29))
  replace LB := Lib.hid (LB.out.box (.cells #[.bool false, .slice A1 n1 c1] 29))
  replace L1 := Lib.hid (L1.out.box (.cells #[.bool false, .slice A1 n1 c1] 29))
  have Q1 := Lib.hid (Pr.new w1 _ rfl (.bool false) (.slice A1 n1 c1) 29)
  replace BW := Lib.hid (sbal BW.out (.cells #[.bool false, .slice A1 n1 c1] 29))
  generalize w1.alloc (.cells #[.bool false, .slice A1 n1 c1] 29) = W1 at *
  generalize w1.heap.size = g1 at *
  have ⟨rQ10, rQ11, rQ12, rQ13, rQ1l⟩ := Q1.out
  have ⟨rQB0, rQB1, rQB2, rQB3, rQBl⟩ := QB.out
  go_wp2_with fail
  clear rQ10 rQ11 rQ12 rQ13 rQ1l rQB0 rQB1 rQB2 rQB3 rQBl
  obtain ⟨zu, hzu⟩ : ∃ b, decide (u < 0) = b := ⟨_, rfl⟩
  rw [hzu] at HDM HIN
  clear hzu
  refine (HDM.out _ _ _ _ L1.out LB.out).mono ?_
  rintro e w2 ⟨A2, n2, c2, A3, n3, c3, rfl, hL2, hL3, hb⟩
  clear L1
  clear LB
  clear LA
  clear Q1
  clear QB
  replace QA := Lib.hid (QA.out.via hb)
  replace BW := Lib.hid (btr BW.out hb)
  have L2 := Lib.hid hL2
  have L3 := Lib.hid hL3
  clear hb hL2 hL3
  have ⟨rQA0, rQA1, rQA2, rQA3, rQAl⟩ := QA.out
  go_wp2_with fail
  clear rQA0 rQA1 rQA2 rQA3 rQAl
  have hn3 := HLN.out _ L3.out.len
  have Q8 := Lib.hid (Pr.new ((w2.setCell ⟨w.heap.size, 0, none⟩ (.bool false)).setCell ⟨w.heap.size, 1, none⟩ (.slice A3 n3 c3)) w2.heap.size (size_set2 _ _ _ _) (.bool zu) (.slice A2 n2 c2) 29)
  have L8 := Lib.hid ((L2.out.setP QA.out (.bool false) (.slice A3 n3 c3)).box (.cells #[.bool zu, .slice A2 n2 c2] 29))
  replace BW := Lib.hid (sbal (below_set2 BW.out (g := w.heap.size) (Nat.le_refl _) (.bool false) (.slice A3 n3 c3)) (.cells #[.bool zu, .slice A2 n2 c2] 29))
  replace QA := Lib.hid ((QA.out.set (.bool false) (.slice A3 n3 c3)).alloc (.cells #[.bool zu, .slice A2 n2 c2] 29))
  clear L2 L3 HDM HSF HLN
  generalize ((w2.setCell ⟨w.heap.size, 0, none⟩ (.bool false)).setCell ⟨w.heap.size, 1, none⟩ (.slice A3 n3 c3)).alloc (.cells #[.bool zu, .slice A2 n2 c2] 29) = W8 at *
  generalize w2.heap.size = g8 at *
  (try go_wp2_with fail)
  refine (HIN.out _ _ _ _ L8.out).mono ?_
  rintro e w3 ⟨rfl, hb⟩
  clear Q8
  clear L8
  replace QA := Lib.hid (QA.out.via hb)
  replace BW := Lib.hid (btr BW.out hb)
  clear hb
  rcases Nat.eq_zero_or_pos n3 with h0 | h0
  · subst h0
    have hv : decide (0 < v) = false := decide_eq_false (fun h => by have := hn3.2 h; omega)
    have HVV := Lib.hid hv
    clear hv hn3
    have ⟨a0, a1, _, _, _⟩ := QA.out
    go_wp2_with fail
    go_region
    go_wp2
    go_ret2
    exact ⟨by rw [HVV.out]; rfl, sdrewZ BW.out⟩
  · have hv : decide (0 < v) = true := decide_eq_true (hn3.1 h0)
    have HVV := Lib.hid hv
    have h0i : (0 : Int) < (n3 : Int) := by omega
    clear hv hn3
    have ⟨a0, a1, _, _, _⟩ := QA.out
    go_wp2_with fail
    go_region
    go_wp2
    go_ret2
    exact ⟨by rw [HVV.out]; rfl, sdrewZ BW.out⟩
end Go.Proofs.YtglgfjknhplajaaGreatDoor

/- Intervals of fractions: Of of the code. -/
namespace Go.Proofs.YtglgfjknhplajaaGreatDoor
open Go.RowKit

theorem Pr.farB {w : World} {g h : Nat} {x y : Value} (p : Pr w g x y) (hne : g ≠ h) (i : Nat) (z : Value) : Pr (w.setCell ⟨h, i, none⟩ z) g x y := by
  have h1 := p.c0; have h2 := p.c1; have h3 := p.f0; have h4 := p.f1; have h5 := p.lt
  have hne2 : ¬ h = g := fun e => hne e.symm
  exact ⟨by go_simp, by go_simp, by simpa using h3, by simpa using h4, by simpa [World.size_setCell] using h5⟩
theorem ret_outF {a b c : Int} {o : Out} (h : o = ⟨a, b, c⟩) : Ending.returned (.tuple #[iv a b, .int .i64 c]) = .returned (.tuple #[iv o.lo o.hi, .int .i64 o.err]) := by rw [h]
theorem ret_mkF {X Y : Int} {o : Out} (h : mkI X Y = o) : Ending.returned (.tuple #[iv (mkI X Y).lo (mkI X Y).hi, .int .i64 (mkI X Y).err]) = .returned (.tuple #[iv o.lo o.hi, .int .i64 o.err]) := by rw [h]
theorem i64_out {q : Int} (h : ¬ (-9223372036854775808 ≤ q ∧ q ≤ 9223372036854775807)) : i64V q = 0 ∧ i64E q = 16 := ⟨by unfold i64V; rw [if_neg h], by unfold i64E; rw [if_neg h]⟩
theorem i64_in' {q : Int} (h : -9223372036854775808 ≤ q ∧ q ≤ 9223372036854775807) : i64V q = q ∧ i64E q = 0 := ⟨by unfold i64V; rw [if_pos h], by unfold i64E; rw [if_pos h]⟩
set_option maxRecDepth 100000 in
set_option maxHeartbeats 2000000 in
theorem sof_a (w : World) (na : Bool) (A B : Option Addr) (n m ca cb : Nat) (N D : Int) (hA : Lm w w.heap.size A n ca (digs N.natAbs)) (hB : Lm w w.heap.size B m cb (digs D.natAbs)) (hD : 0 < D) (hsN : Sz 300 N) (hsD : Sz 300 D) (hg : fchk na (digs N.natAbs) false (digs D.natAbs) = 0) (ha : decide (N < 0) = na) (h : ¬ (-9223372036854775808 ≤ N / D ∧ N / D ≤ 9223372036854775807)) : Calls Tryz.prog 20 #[fv na A n ca false B m cb] w (RO w (offO N D)) := by
  have HA := Lib.hid hA
  have HB := Lib.hid hB
  have hck : ∀ W, Lm W W.heap.size A n ca (digs N.natAbs) → Lm W W.heap.size B m cb (digs D.natAbs) → Calls Tryz.prog 45 #[fv na A n ca false B m cb] W (RN1 W 0) := fun W L1 L2 => by
    have h := fcheck_any W na false A B n m ca cb _ _ L1 L2
    rw [hg] at h
    exact h
  obtain ⟨q, hq⟩ : ∃ q, N / D = q := ⟨_, rfl⟩
  have hsq : Sz 300 q := by
    have h1 := Int.mul_ediv_add_emod N D
    have h2 := Int.emod_nonneg N (show D ≠ 0 by omega)
    have h3 := Int.emod_lt_of_pos N hD
    rw [hq] at h1
    unfold Sz at *
    have h4 : q.natAbs ≤ N.natAbs := by
      rcases Int.lt_or_le q 0 with h | h
      · have h5 : D * q ≤ 1 * q := Int.mul_le_mul_of_nonpos_right (by omega) (by omega)
        have h6 : D * q = -(D * (-q)) := by rw [Int.mul_neg]; omega
        have h7 : 0 ≤ (D - 1) * (-q - 1) := Int.mul_nonneg (by omega) (by omega)
        have h8 : (D - 1) * (-q - 1) = D * (-q) - D + q + 1 := by grind
        omega
      · have h5 : 1 * q ≤ D * q := Int.mul_le_mul_of_nonneg_right (by omega) h
        omega
    omega
  have hdm : ∀ W, Lm W W.heap.size A n ca (digs N.natAbs) → Lm W W.heap.size B m cb (digs D.natAbs) → Calls Tryz.prog 46 #[.agg #[.bool na, .slice A n ca], .agg #[.bool false, .slice B m cb]] W fun e w' => ∃ A n c A' n' c', e = .returned (.tuple #[.agg #[.bool (decide (q < 0)), .slice A n c], .agg #[.bool false, .slice A' n' c'], .int .i64 0]) ∧ Lm w' w'.heap.size A n c (digs q.natAbs) ∧ Lm w' w'.heap.size A' n' c' (digs (N % D).natAbs) ∧ Below W.heap.size W w' := fun W L1 L2 =>
    (divmod_n W A B n m ca cb 300 N D L1 L2 hsN hsD (by omega) (by omega) ha (decide_eq_false (by omega))).mono fun e w' h => RDF.of hq (rd2_f hD h)
  have hin : ∀ W A' n' c', Lm W W.heap.size A' n' c' (digs q.natAbs) → Calls Tryz.prog 47 #[.agg #[.bool (decide (q < 0)), .slice A' n' c']] W fun e w' => e = .returned (.tuple #[.int .i64 (i64V q), .int .i64 (i64E q)]) ∧ Below W.heap.size W w' := fun W A' n' c' L => int_n W A' n' c' 300 q L hsq (by omega) rfl
  have HM := Lib.hid (off_out (N := N) hD (by omega))
  rw [hq] at h
  rw [(i64_out h).1, (i64_out h).2] at hin
  clear h
  have HCK := Lib.hid hck
  have HDM := Lib.hid hdm
  have HIN := Lib.hid hin
  clear hck hdm hin hsq hsN hsD hg ha hA hB
  have HD := Lib.hid hD
  have HQ := Lib.hid hq
  clear hD hq
  obtain ⟨zq, hzq⟩ : ∃ b, decide (q < 0) = b := ⟨_, rfl⟩
  rw [hzq] at HDM HIN
  clear hzq
  go_enter Tryz.func20, Tryz.ntmps20
  have QF := Lib.hid ((Qd.new w (w.heap.size) rfl (.bool na) (.slice A n ca) (.bool false) (.slice B m cb) 31).alloc (.cells #[.int .i64 0, .int .i64 0] 23))
  have QR := Lib.hid (Pr.new (w.alloc (.cells #[.bool na, .slice A n ca, .bool false, .slice B m cb] 31)) (w.heap.size + 1) (by simp) (.int .i64 0) (.int .i64 0) 23)
  have LA := Lib.hid ((HA.out.box (.cells #[.bool na, .slice A n ca, .bool false, .slice B m cb] 31)).box (.cells #[.int .i64 0, .int .i64 0] 23))
  have LB := Lib.hid ((HB.out.box (.cells #[.bool na, .slice A n ca, .bool false, .slice B m cb] 31)).box (.cells #[.int .i64 0, .int .i64 0] 23))
  have BW : Hid (Below w.heap.size w ((w.alloc (.cells #[.bool na, .slice A n ca, .bool false, .slice B m cb] 31)).alloc (.cells #[.int .i64 0, .int .i64 0] 23))) := (sbal (sbal (Below.refl _ _) _) _)
  clear HA HB
  go_wp2_with fail
  generalize (w.alloc (.cells #[.bool na, .slice A n ca, .bool false, .slice B m cb] 31)).alloc (.cells #[.int .i64 0, .int .i64 0] 23) = W0 at *
  refine (HCK.out _ LA.out LB.out).mono ?_
  rintro e w1 ⟨rfl, hb⟩
  replace QF := Lib.hid (QF.out.via hb)
  replace QR := Lib.hid (QR.out.via hb)
  replace LA := Lib.hid (LA.out.via hb)
  replace LB := Lib.hid (LB.out.via hb)
  replace BW := Lib.hid (btr BW.out hb)
  clear hb
  have ⟨rQF0, rQF1, rQF2, rQF3, rQF4, rQF5, rQF6, rQF7, rQFl⟩ := QF.out
  go_wp2_with fail
  clear rQF0 rQF1 rQF2 rQF3 rQF4 rQF5 rQF6 rQF7 rQFl
  refine (HDM.out _ LA.out LB.out).mono ?_
  rintro e w2 ⟨A1, n1, c1, A2, n2, c2, rfl, hL1, hL2, hb⟩
  replace QF := Lib.hid (QF.out.via hb)
  replace QR := Lib.hid (QR.out.via hb)
  replace LA := Lib.hid (LA.out.via hb)
  replace LB := Lib.hid (LB.out.via hb)
  replace BW := Lib.hid (btr BW.out hb)
  have L1 := Lib.hid hL1
  have L2 := Lib.hid hL2
  clear hb hL1 hL2
  have ⟨rQF0, rQF1, rQF2, rQF3, rQF4, rQF5, rQF6, rQF7, rQFl⟩ := QF.out
  go_wp2_with fail
  clear rQF0 rQF1 rQF2 rQF3 rQF4 rQF5 rQF6 rQF7 rQFl
  replace QF := Lib.hid ((QF.out.alloc (.cells #[.bool zq, .slice A1 n1 c1] 29)).alloc (.cells #[.bool false, .slice A2 n2 c2] 29))
  replace QR := Lib.hid ((QR.out.alloc (.cells #[.bool zq, .slice A1 n1 c1] 29)).alloc (.cells #[.bool false, .slice A2 n2 c2] 29))
  replace LA := Lib.hid ((LA.out.box (.cells #[.bool zq, .slice A1 n1 c1] 29)).box (.cells #[.bool false, .slice A2 n2 c2] 29))
  replace LB := Lib.hid ((LB.out.box (.cells #[.bool zq, .slice A1 n1 c1] 29)).box (.cells #[.bool false, .slice A2 n2 c2] 29))
  replace L1 := Lib.hid ((L1.out.box (.cells #[.bool zq, .slice A1 n1 c1] 29)).box (.cells #[.bool false, .slice A2 n2 c2] 29))
  replace L2 := Lib.hid ((L2.out.box (.cells #[.bool zq, .slice A1 n1 c1] 29)).box (.cells #[.bool false, .slice A2 n2 c2] 29))
  have Q5 := Lib.hid ((Pr.new w2 _ rfl (.bool zq) (.slice A1 n1 c1) 29).alloc (.cells #[.bool false, .slice A2 n2 c2] 29))
  have Q6 := Lib.hid (Pr.new (w2.alloc (.cells #[.bool zq, .slice A1 n1 c1] 29)) (w2.heap.size + 1) (by simp) (.bool false) (.slice A2 n2 c2) 29)
  replace BW := Lib.hid (sbal (sbal BW.out (.cells #[.bool zq, .slice A1 n1 c1] 29)) (.cells #[.bool false, .slice A2 n2 c2] 29))
  generalize (w2.alloc (.cells #[.bool zq, .slice A1 n1 c1] 29)).alloc (.cells #[.bool false, .slice A2 n2 c2] 29) = W2 at *
  generalize w2.heap.size = g2 at *
  refine (HIN.out _ _ _ _ L1.out).mono ?_
  rintro e w3 ⟨rfl, hb⟩
  clear Q5
  clear L1
  clear LA
  replace QF := Lib.hid (QF.out.via hb)
  replace QR := Lib.hid (QR.out.via hb)
  replace LB := Lib.hid (LB.out.via hb)
  replace L2 := Lib.hid (L2.out.via hb)
  replace Q6 := Lib.hid (Q6.out.via hb)
  replace BW := Lib.hid (btr BW.out hb)
  clear hb
  have ⟨rQR0, rQR1, rQR2, rQR3, rQRl⟩ := QR.out
  go_wp2
  exact post_iv Tryz.results20 rfl rfl (QR.out.set _ _) ⟨ret_outF HM.out, below_set2 BW.out (by omega) _ _⟩
set_option maxRecDepth 100000 in
set_option maxHeartbeats 2000000 in
theorem sof_b (w : World) (na : Bool) (A B : Option Addr) (n m ca cb : Nat) (N D : Int) (hA : Lm w w.heap.size A n ca (digs N.natAbs)) (hB : Lm w w.heap.size B m cb (digs D.natAbs)) (hD : 0 < D) (hsN : Sz 300 N) (hsD : Sz 300 D) (hg : fchk na (digs N.natAbs) false (digs D.natAbs) = 0) (ha : decide (N < 0) = na) (h : -9223372036854775808 ≤ N / D ∧ N / D ≤ 9223372036854775807) (h2 : N / D < -2097152 ∨ 2097152 < N / D) : Calls Tryz.prog 20 #[fv na A n ca false B m cb] w (RO w (offO N D)) := by
  have HA := Lib.hid hA
  have HB := Lib.hid hB
  have hck : ∀ W, Lm W W.heap.size A n ca (digs N.natAbs) → Lm W W.heap.size B m cb (digs D.natAbs) → Calls Tryz.prog 45 #[fv na A n ca false B m cb] W (RN1 W 0) := fun W L1 L2 => by
    have h := fcheck_any W na false A B n m ca cb _ _ L1 L2
    rw [hg] at h
    exact h
  obtain ⟨q, hq⟩ : ∃ q, N / D = q := ⟨_, rfl⟩
  have hsq : Sz 300 q := by
    have h1 := Int.mul_ediv_add_emod N D
    have h2 := Int.emod_nonneg N (show D ≠ 0 by omega)
    have h3 := Int.emod_lt_of_pos N hD
    rw [hq] at h1
    unfold Sz at *
    have h4 : q.natAbs ≤ N.natAbs := by
      rcases Int.lt_or_le q 0 with h | h
      · have h5 : D * q ≤ 1 * q := Int.mul_le_mul_of_nonpos_right (by omega) (by omega)
        have h6 : D * q = -(D * (-q)) := by rw [Int.mul_neg]; omega
        have h7 : 0 ≤ (D - 1) * (-q - 1) := Int.mul_nonneg (by omega) (by omega)
        have h8 : (D - 1) * (-q - 1) = D * (-q) - D + q + 1 := by grind
        omega
      · have h5 : 1 * q ≤ D * q := Int.mul_le_mul_of_nonneg_right (by omega) h
        omega
    omega
  have hdm : ∀ W, Lm W W.heap.size A n ca (digs N.natAbs) → Lm W W.heap.size B m cb (digs D.natAbs) → Calls Tryz.prog 46 #[.agg #[.bool na, .slice A n ca], .agg #[.bool false, .slice B m cb]] W fun e w' => ∃ A n c A' n' c', e = .returned (.tuple #[.agg #[.bool (decide (q < 0)), .slice A n c], .agg #[.bool false, .slice A' n' c'], .int .i64 0]) ∧ Lm w' w'.heap.size A n c (digs q.natAbs) ∧ Lm w' w'.heap.size A' n' c' (digs (N % D).natAbs) ∧ Below W.heap.size W w' := fun W L1 L2 =>
    (divmod_n W A B n m ca cb 300 N D L1 L2 hsN hsD (by omega) (by omega) ha (decide_eq_false (by omega))).mono fun e w' h => RDF.of hq (rd2_f hD h)
  have hin : ∀ W A' n' c', Lm W W.heap.size A' n' c' (digs q.natAbs) → Calls Tryz.prog 47 #[.agg #[.bool (decide (q < 0)), .slice A' n' c']] W fun e w' => e = .returned (.tuple #[.int .i64 (i64V q), .int .i64 (i64E q)]) ∧ Below W.heap.size W w' := fun W A' n' c' L => int_n W A' n' c' 300 q L hsq (by omega) rfl
  have HM := Lib.hid (off_out (N := N) hD h2)
  rw [hq] at h h2
  rw [(i64_in' h).1, (i64_in' h).2] at hin
  have hwh := fun W => swhole_any W q h.1 h.2
  rw [who_out h2] at hwh
  have HWH := Lib.hid hwh
  clear h h2 hwh
  have HCK := Lib.hid hck
  have HDM := Lib.hid hdm
  have HIN := Lib.hid hin
  clear hck hdm hin hsq hsN hsD hg ha hA hB
  have HD := Lib.hid hD
  have HQ := Lib.hid hq
  clear hD hq
  obtain ⟨zq, hzq⟩ : ∃ b, decide (q < 0) = b := ⟨_, rfl⟩
  rw [hzq] at HDM HIN
  clear hzq
  go_enter Tryz.func20, Tryz.ntmps20
  have QF := Lib.hid ((Qd.new w (w.heap.size) rfl (.bool na) (.slice A n ca) (.bool false) (.slice B m cb) 31).alloc (.cells #[.int .i64 0, .int .i64 0] 23))
  have QR := Lib.hid (Pr.new (w.alloc (.cells #[.bool na, .slice A n ca, .bool false, .slice B m cb] 31)) (w.heap.size + 1) (by simp) (.int .i64 0) (.int .i64 0) 23)
  have LA := Lib.hid ((HA.out.box (.cells #[.bool na, .slice A n ca, .bool false, .slice B m cb] 31)).box (.cells #[.int .i64 0, .int .i64 0] 23))
  have LB := Lib.hid ((HB.out.box (.cells #[.bool na, .slice A n ca, .bool false, .slice B m cb] 31)).box (.cells #[.int .i64 0, .int .i64 0] 23))
  have BW : Hid (Below w.heap.size w ((w.alloc (.cells #[.bool na, .slice A n ca, .bool false, .slice B m cb] 31)).alloc (.cells #[.int .i64 0, .int .i64 0] 23))) := (sbal (sbal (Below.refl _ _) _) _)
  clear HA HB
  go_wp2_with fail
  generalize (w.alloc (.cells #[.bool na, .slice A n ca, .bool false, .slice B m cb] 31)).alloc (.cells #[.int .i64 0, .int .i64 0] 23) = W0 at *
  refine (HCK.out _ LA.out LB.out).mono ?_
  rintro e w1 ⟨rfl, hb⟩
  replace QF := Lib.hid (QF.out.via hb)
  replace QR := Lib.hid (QR.out.via hb)
  replace LA := Lib.hid (LA.out.via hb)
  replace LB := Lib.hid (LB.out.via hb)
  replace BW := Lib.hid (btr BW.out hb)
  clear hb
  have ⟨rQF0, rQF1, rQF2, rQF3, rQF4, rQF5, rQF6, rQF7, rQFl⟩ := QF.out
  go_wp2_with fail
  clear rQF0 rQF1 rQF2 rQF3 rQF4 rQF5 rQF6 rQF7 rQFl
  refine (HDM.out _ LA.out LB.out).mono ?_
  rintro e w2 ⟨A1, n1, c1, A2, n2, c2, rfl, hL1, hL2, hb⟩
  replace QF := Lib.hid (QF.out.via hb)
  replace QR := Lib.hid (QR.out.via hb)
  replace LA := Lib.hid (LA.out.via hb)
  replace LB := Lib.hid (LB.out.via hb)
  replace BW := Lib.hid (btr BW.out hb)
  have L1 := Lib.hid hL1
  have L2 := Lib.hid hL2
  clear hb hL1 hL2
  have ⟨rQF0, rQF1, rQF2, rQF3, rQF4, rQF5, rQF6, rQF7, rQFl⟩ := QF.out
  go_wp2_with fail
  clear rQF0 rQF1 rQF2 rQF3 rQF4 rQF5 rQF6 rQF7 rQFl
  replace QF := Lib.hid ((QF.out.alloc (.cells #[.bool zq, .slice A1 n1 c1] 29)).alloc (.cells #[.bool false, .slice A2 n2 c2] 29))
  replace QR := Lib.hid ((QR.out.alloc (.cells #[.bool zq, .slice A1 n1 c1] 29)).alloc (.cells #[.bool false, .slice A2 n2 c2] 29))
  replace LA := Lib.hid ((LA.out.box (.cells #[.bool zq, .slice A1 n1 c1] 29)).box (.cells #[.bool false, .slice A2 n2 c2] 29))
  replace LB := Lib.hid ((LB.out.box (.cells #[.bool zq, .slice A1 n1 c1] 29)).box (.cells #[.bool false, .slice A2 n2 c2] 29))
  replace L1 := Lib.hid ((L1.out.box (.cells #[.bool zq, .slice A1 n1 c1] 29)).box (.cells #[.bool false, .slice A2 n2 c2] 29))
  replace L2 := Lib.hid ((L2.out.box (.cells #[.bool zq, .slice A1 n1 c1] 29)).box (.cells #[.bool false, .slice A2 n2 c2] 29))
  have Q5 := Lib.hid ((Pr.new w2 _ rfl (.bool zq) (.slice A1 n1 c1) 29).alloc (.cells #[.bool false, .slice A2 n2 c2] 29))
  have Q6 := Lib.hid (Pr.new (w2.alloc (.cells #[.bool zq, .slice A1 n1 c1] 29)) (w2.heap.size + 1) (by simp) (.bool false) (.slice A2 n2 c2) 29)
  replace BW := Lib.hid (sbal (sbal BW.out (.cells #[.bool zq, .slice A1 n1 c1] 29)) (.cells #[.bool false, .slice A2 n2 c2] 29))
  generalize (w2.alloc (.cells #[.bool zq, .slice A1 n1 c1] 29)).alloc (.cells #[.bool false, .slice A2 n2 c2] 29) = W2 at *
  generalize w2.heap.size = g2 at *
  refine (HIN.out _ _ _ _ L1.out).mono ?_
  rintro e w3 ⟨rfl, hb⟩
  clear Q5
  clear L1
  clear LA
  replace QF := Lib.hid (QF.out.via hb)
  replace QR := Lib.hid (QR.out.via hb)
  replace LB := Lib.hid (LB.out.via hb)
  replace L2 := Lib.hid (L2.out.via hb)
  replace Q6 := Lib.hid (Q6.out.via hb)
  replace BW := Lib.hid (btr BW.out hb)
  clear hb
  have ⟨rQ60, rQ61, rQ62, rQ63, rQ6l⟩ := Q6.out
  go_wp2_with fail
  clear rQ60 rQ61 rQ62 rQ63 rQ6l
  refine (HWH.out _).mono ?_
  rintro e w4 ⟨rfl, hb⟩
  clear Q6
  clear L2
  clear LB
  clear QF
  replace QR := Lib.hid (QR.out.via hb)
  replace BW := Lib.hid (btr BW.out hb)
  clear hb
  have ⟨rQR0, rQR1, rQR2, rQR3, rQRl⟩ := QR.out
  go_wp2
  exact post_iv Tryz.results20 rfl rfl ((QR.out.set _ _).alloc _) ⟨ret_outF HM.out, sbal (below_set2 BW.out (by omega) _ _) _⟩
set_option maxRecDepth 100000 in
set_option maxHeartbeats 2000000 in
theorem sof_c0 (w : World) (na : Bool) (A B : Option Addr) (n m ca cb : Nat) (N D : Int) (hA : Lm w w.heap.size A n ca (digs N.natAbs)) (hB : Lm w w.heap.size B m cb (digs D.natAbs)) (hD : 0 < D) (hsN : Sz 300 N) (hsD : Sz 300 D) (hg : fchk na (digs N.natAbs) false (digs D.natAbs) = 0) (ha : decide (N < 0) = na) (h1 : -2097152 ≤ N / D) (h2 : N / D ≤ 2097152) (h3 : N * 1099511627776 % D = 0) : Calls Tryz.prog 20 #[fv na A n ca false B m cb] w (RO w (offO N D)) := by
  have HA := Lib.hid hA
  have HB := Lib.hid hB
  have hck : ∀ W, Lm W W.heap.size A n ca (digs N.natAbs) → Lm W W.heap.size B m cb (digs D.natAbs) → Calls Tryz.prog 45 #[fv na A n ca false B m cb] W (RN1 W 0) := fun W L1 L2 => by
    have h := fcheck_any W na false A B n m ca cb _ _ L1 L2
    rw [hg] at h
    exact h
  obtain ⟨q, hq⟩ : ∃ q, N / D = q := ⟨_, rfl⟩
  have hsq : Sz 300 q := by
    have h1 := Int.mul_ediv_add_emod N D
    have h2 := Int.emod_nonneg N (show D ≠ 0 by omega)
    have h3 := Int.emod_lt_of_pos N hD
    rw [hq] at h1
    unfold Sz at *
    have h4 : q.natAbs ≤ N.natAbs := by
      rcases Int.lt_or_le q 0 with h | h
      · have h5 : D * q ≤ 1 * q := Int.mul_le_mul_of_nonpos_right (by omega) (by omega)
        have h6 : D * q = -(D * (-q)) := by rw [Int.mul_neg]; omega
        have h7 : 0 ≤ (D - 1) * (-q - 1) := Int.mul_nonneg (by omega) (by omega)
        have h8 : (D - 1) * (-q - 1) = D * (-q) - D + q + 1 := by grind
        omega
      · have h5 : 1 * q ≤ D * q := Int.mul_le_mul_of_nonneg_right (by omega) h
        omega
    omega
  have hdm : ∀ W, Lm W W.heap.size A n ca (digs N.natAbs) → Lm W W.heap.size B m cb (digs D.natAbs) → Calls Tryz.prog 46 #[.agg #[.bool na, .slice A n ca], .agg #[.bool false, .slice B m cb]] W fun e w' => ∃ A n c A' n' c', e = .returned (.tuple #[.agg #[.bool (decide (q < 0)), .slice A n c], .agg #[.bool false, .slice A' n' c'], .int .i64 0]) ∧ Lm w' w'.heap.size A n c (digs q.natAbs) ∧ Lm w' w'.heap.size A' n' c' (digs (N % D).natAbs) ∧ Below W.heap.size W w' := fun W L1 L2 =>
    (divmod_n W A B n m ca cb 300 N D L1 L2 hsN hsD (by omega) (by omega) ha (decide_eq_false (by omega))).mono fun e w' h => RDF.of hq (rd2_f hD h)
  have hin : ∀ W A' n' c', Lm W W.heap.size A' n' c' (digs q.natAbs) → Calls Tryz.prog 47 #[.agg #[.bool (decide (q < 0)), .slice A' n' c']] W fun e w' => e = .returned (.tuple #[.int .i64 (i64V q), .int .i64 (i64E q)]) ∧ Below W.heap.size W w' := fun W A' n' c' L => int_n W A' n' c' 300 q L hsq (by omega) rfl
  obtain ⟨s1, s2, s3, s4⟩ := share_eq (N := N) hD
  have hr0 := Int.emod_nonneg N (show D ≠ 0 by omega)
  have hr1 := Int.emod_lt_of_pos N hD
  have hsh : ∀ W A' n' c', Lm W W.heap.size A' n' c' (digs (N % D).natAbs) → Lm W W.heap.size B m cb (digs D.natAbs) → Calls Tryz.prog 49 #[.agg #[.bool false, .slice A' n' c'], .agg #[.bool false, .slice B m cb]] W fun e w' => e = .returned (.tuple #[.int .i64 (N % D * 1099511627776 / D), .bool false]) ∧ Below W.heap.size W w' := fun W A' n' c' L1 L2 => by
    have h := share_n W A' B n' m c' cb 300 (N % D) D L1 L2 hr0 hr1 (by omega) hsD
    rw [← s2] at h
    rwa [decide_eq_false (by omega)] at h
  obtain ⟨u, hu⟩ : ∃ u, u = N % D * 1099511627776 / D := ⟨_, rfl⟩
  rw [← hu] at hsh s1 s3 s4
  rw [hq] at h1 h2 s1
  obtain ⟨L0, hL0⟩ : ∃ L0, L0 = q * 1099511627776 := ⟨_, rfl⟩
  rw [← hL0] at s1
  have hl1 : -2305843009213693952 ≤ L0 := by omega
  have hl2 : L0 ≤ 2305843009213693952 := by omega
  have hw1 : IntKind.i64.wrap (L0 + u) = L0 + u := IntWalk.i64_in _ (by omega)
  have hw2 : IntKind.i64.wrap (L0 + u + 1) = L0 + u + 1 := IntWalk.i64_in _ (by omega)
  have HM : Hid (mkI (L0 + u) (L0 + u) = offO N D) := by show _ = _; unfold offO; rw [div_mod_c hD, if_pos h3, s1]
  rw [(i64_in' (q := q) (by omega)).1, (i64_in' (q := q) (by omega)).2] at hin
  have hwh := fun W => swhole_any W q (by omega) (by omega)
  rw [who_in h1 h2, ← hL0] at hwh
  have HWH := Lib.hid hwh
  have HSH := Lib.hid hsh
  clear hwh hsh s1 s2 s3 s4 hr0 hr1 hu hL0 h1 h2 h3
  have HCK := Lib.hid hck
  have HDM := Lib.hid hdm
  have HIN := Lib.hid hin
  clear hck hdm hin hsq hsN hsD hg ha hA hB
  have HD := Lib.hid hD
  have HQ := Lib.hid hq
  clear hD hq
  obtain ⟨zq, hzq⟩ : ∃ b, decide (q < 0) = b := ⟨_, rfl⟩
  rw [hzq] at HDM HIN
  clear hzq
  go_enter Tryz.func20, Tryz.ntmps20
  have QF := Lib.hid ((Qd.new w (w.heap.size) rfl (.bool na) (.slice A n ca) (.bool false) (.slice B m cb) 31).alloc (.cells #[.int .i64 0, .int .i64 0] 23))
  have QR := Lib.hid (Pr.new (w.alloc (.cells #[.bool na, .slice A n ca, .bool false, .slice B m cb] 31)) (w.heap.size + 1) (by simp) (.int .i64 0) (.int .i64 0) 23)
  have LA := Lib.hid ((HA.out.box (.cells #[.bool na, .slice A n ca, .bool false, .slice B m cb] 31)).box (.cells #[.int .i64 0, .int .i64 0] 23))
  have LB := Lib.hid ((HB.out.box (.cells #[.bool na, .slice A n ca, .bool false, .slice B m cb] 31)).box (.cells #[.int .i64 0, .int .i64 0] 23))
  have BW : Hid (Below w.heap.size w ((w.alloc (.cells #[.bool na, .slice A n ca, .bool false, .slice B m cb] 31)).alloc (.cells #[.int .i64 0, .int .i64 0] 23))) := (sbal (sbal (Below.refl _ _) _) _)
  clear HA HB
  go_wp2_with fail
  generalize (w.alloc (.cells #[.bool na, .slice A n ca, .bool false, .slice B m cb] 31)).alloc (.cells #[.int .i64 0, .int .i64 0] 23) = W0 at *
  refine (HCK.out _ LA.out LB.out).mono ?_
  rintro e w1 ⟨rfl, hb⟩
  replace QF := Lib.hid (QF.out.via hb)
  replace QR := Lib.hid (QR.out.via hb)
  replace LA := Lib.hid (LA.out.via hb)
  replace LB := Lib.hid (LB.out.via hb)
  replace BW := Lib.hid (btr BW.out hb)
  clear hb
  have ⟨rQF0, rQF1, rQF2, rQF3, rQF4, rQF5, rQF6, rQF7, rQFl⟩ := QF.out
  go_wp2_with fail
  clear rQF0 rQF1 rQF2 rQF3 rQF4 rQF5 rQF6 rQF7 rQFl
  refine (HDM.out _ LA.out LB.out).mono ?_
  rintro e w2 ⟨A1, n1, c1, A2, n2, c2, rfl, hL1, hL2, hb⟩
  replace QF := Lib.hid (QF.out.via hb)
  replace QR := Lib.hid (QR.out.via hb)
  replace LA := Lib.hid (LA.out.via hb)
  replace LB := Lib.hid (LB.out.via hb)
  replace BW := Lib.hid (btr BW.out hb)
  have L1 := Lib.hid hL1
  have L2 := Lib.hid hL2
  clear hb hL1 hL2
  have ⟨rQF0, rQF1, rQF2, rQF3, rQF4, rQF5, rQF6, rQF7, rQFl⟩ := QF.out
  go_wp2_with fail
  clear rQF0 rQF1 rQF2 rQF3 rQF4 rQF5 rQF6 rQF7 rQFl
  replace QF := Lib.hid ((QF.out.alloc (.cells #[.bool zq, .slice A1 n1 c1] 29)).alloc (.cells #[.bool false, .slice A2 n2 c2] 29))
  replace QR := Lib.hid ((QR.out.alloc (.cells #[.bool zq, .slice A1 n1 c1] 29)).alloc (.cells #[.bool false, .slice A2 n2 c2] 29))
  replace LA := Lib.hid ((LA.out.box (.cells #[.bool zq, .slice A1 n1 c1] 29)).box (.cells #[.bool false, .slice A2 n2 c2] 29))
  replace LB := Lib.hid ((LB.out.box (.cells #[.bool zq, .slice A1 n1 c1] 29)).box (.cells #[.bool false, .slice A2 n2 c2] 29))
  replace L1 := Lib.hid ((L1.out.box (.cells #[.bool zq, .slice A1 n1 c1] 29)).box (.cells #[.bool false, .slice A2 n2 c2] 29))
  replace L2 := Lib.hid ((L2.out.box (.cells #[.bool zq, .slice A1 n1 c1] 29)).box (.cells #[.bool false, .slice A2 n2 c2] 29))
  have Q5 := Lib.hid ((Pr.new w2 _ rfl (.bool zq) (.slice A1 n1 c1) 29).alloc (.cells #[.bool false, .slice A2 n2 c2] 29))
  have Q6 := Lib.hid (Pr.new (w2.alloc (.cells #[.bool zq, .slice A1 n1 c1] 29)) (w2.heap.size + 1) (by simp) (.bool false) (.slice A2 n2 c2) 29)
  replace BW := Lib.hid (sbal (sbal BW.out (.cells #[.bool zq, .slice A1 n1 c1] 29)) (.cells #[.bool false, .slice A2 n2 c2] 29))
  generalize (w2.alloc (.cells #[.bool zq, .slice A1 n1 c1] 29)).alloc (.cells #[.bool false, .slice A2 n2 c2] 29) = W2 at *
  generalize w2.heap.size = g2 at *
  refine (HIN.out _ _ _ _ L1.out).mono ?_
  rintro e w3 ⟨rfl, hb⟩
  clear Q5
  clear L1
  clear LA
  replace QF := Lib.hid (QF.out.via hb)
  replace QR := Lib.hid (QR.out.via hb)
  replace LB := Lib.hid (LB.out.via hb)
  replace L2 := Lib.hid (L2.out.via hb)
  replace Q6 := Lib.hid (Q6.out.via hb)
  replace BW := Lib.hid (btr BW.out hb)
  clear hb
  have ⟨rQ60, rQ61, rQ62, rQ63, rQ6l⟩ := Q6.out
  go_wp2_with fail
  clear rQ60 rQ61 rQ62 rQ63 rQ6l
  refine (HWH.out _).mono ?_
  rintro e w4 ⟨rfl, hb⟩
  replace QF := Lib.hid (QF.out.via hb)
  replace QR := Lib.hid (QR.out.via hb)
  replace LB := Lib.hid (LB.out.via hb)
  replace L2 := Lib.hid (L2.out.via hb)
  replace Q6 := Lib.hid (Q6.out.via hb)
  replace BW := Lib.hid (btr BW.out hb)
  clear hb
  have hgrB := QR.out.lt
  have ⟨rQF0, rQF1, rQF2, rQF3, rQF4, rQF5, rQF6, rQF7, rQFl⟩ := QF.out
  have ⟨rQ60, rQ61, rQ62, rQ63, rQ6l⟩ := Q6.out
  go_wp2_with fail
  clear rQF0 rQF1 rQF2 rQF3 rQF4 rQF5 rQF6 rQF7 rQFl rQ60 rQ61 rQ62 rQ63 rQ6l
  replace QF := Lib.hid (QF.out.alloc (.cells #[.int .i64 L0, .int .i64 L0] 23))
  replace QR := Lib.hid (QR.out.alloc (.cells #[.int .i64 L0, .int .i64 L0] 23))
  replace LB := Lib.hid (LB.out.box (.cells #[.int .i64 L0, .int .i64 L0] 23))
  replace L2 := Lib.hid (L2.out.box (.cells #[.int .i64 L0, .int .i64 L0] 23))
  replace Q6 := Lib.hid (Q6.out.alloc (.cells #[.int .i64 L0, .int .i64 L0] 23))
  have Q10 := Lib.hid (Pr.new w4 _ rfl (.int .i64 L0) (.int .i64 L0) 23)
  replace BW := Lib.hid (sbal BW.out (.cells #[.int .i64 L0, .int .i64 L0] 23))
  generalize w4.alloc (.cells #[.int .i64 L0, .int .i64 L0] 23) = W4 at *
  generalize w4.heap.size = g4 at *
  have hgr : w.heap.size + 1 < g4 := hgrB
  refine (HSH.out _ _ _ _ L2.out LB.out).mono ?_
  rintro e w5 ⟨rfl, hb⟩
  replace QF := Lib.hid (QF.out.via hb)
  replace QR := Lib.hid (QR.out.via hb)
  replace LB := Lib.hid (LB.out.via hb)
  replace L2 := Lib.hid (L2.out.via hb)
  replace Q6 := Lib.hid (Q6.out.via hb)
  replace Q10 := Lib.hid (Q10.out.via hb)
  replace BW := Lib.hid (btr BW.out hb)
  clear hb
  clear Q6
  clear L2
  clear LB
  clear QF
  have ⟨rQ100, rQ101, rQ102, rQ103, rQ10l⟩ := Q10.out
  go_upto_region 14 with (fail)
  clear rQ100 rQ101 rQ102 rQ103 rQ10l
  replace QR := Lib.hid (QR.out.far (h := g4) (Nat.ne_of_lt hgr) (.int .i64 (L0 + u)) (.int .i64 (L0 + u)))
  replace Q10 := Lib.hid (Q10.out.set (.int .i64 (L0 + u)) (.int .i64 (L0 + u)))
  replace BW := Lib.hid (below_set2 BW.out (g := g4) (by omega) (.int .i64 (L0 + u)) (.int .i64 (L0 + u)))
  generalize (w5.setCell ⟨g4, 0, none⟩ (.int .i64 (L0 + u))).setCell ⟨g4, 1, none⟩ (.int .i64 (L0 + u)) = W9 at *
  have ⟨rQ100, rQ101, rQ102, rQ103, rQ10l⟩ := Q10.out
  go_wp2_with fail
  clear rQ100 rQ101 rQ102 rQ103 rQ10l
  clear Q10
  refine (smade_any _ (L0 + u) (L0 + u) (by omega)).mono ?_
  rintro e w6 ⟨rfl, hb⟩
  replace QR := Lib.hid (QR.out.via hb)
  replace BW := Lib.hid (btr BW.out hb)
  clear hb
  have ⟨rQR0, rQR1, rQR2, rQR3, rQRl⟩ := QR.out
  go_wp2
  exact post_iv Tryz.results20 rfl rfl (QR.out.set _ _) ⟨ret_mkF HM.out, below_set2 BW.out (by omega) _ _⟩
set_option maxRecDepth 100000 in
set_option maxHeartbeats 2000000 in
theorem sof_c1 (w : World) (na : Bool) (A B : Option Addr) (n m ca cb : Nat) (N D : Int) (hA : Lm w w.heap.size A n ca (digs N.natAbs)) (hB : Lm w w.heap.size B m cb (digs D.natAbs)) (hD : 0 < D) (hsN : Sz 300 N) (hsD : Sz 300 D) (hg : fchk na (digs N.natAbs) false (digs D.natAbs) = 0) (ha : decide (N < 0) = na) (h1 : -2097152 ≤ N / D) (h2 : N / D ≤ 2097152) (h3 : 0 < N * 1099511627776 % D) : Calls Tryz.prog 20 #[fv na A n ca false B m cb] w (RO w (offO N D)) := by
  have HA := Lib.hid hA
  have HB := Lib.hid hB
  have hck : ∀ W, Lm W W.heap.size A n ca (digs N.natAbs) → Lm W W.heap.size B m cb (digs D.natAbs) → Calls Tryz.prog 45 #[fv na A n ca false B m cb] W (RN1 W 0) := fun W L1 L2 => by
    have h := fcheck_any W na false A B n m ca cb _ _ L1 L2
    rw [hg] at h
    exact h
  obtain ⟨q, hq⟩ : ∃ q, N / D = q := ⟨_, rfl⟩
  have hsq : Sz 300 q := by
    have h1 := Int.mul_ediv_add_emod N D
    have h2 := Int.emod_nonneg N (show D ≠ 0 by omega)
    have h3 := Int.emod_lt_of_pos N hD
    rw [hq] at h1
    unfold Sz at *
    have h4 : q.natAbs ≤ N.natAbs := by
      rcases Int.lt_or_le q 0 with h | h
      · have h5 : D * q ≤ 1 * q := Int.mul_le_mul_of_nonpos_right (by omega) (by omega)
        have h6 : D * q = -(D * (-q)) := by rw [Int.mul_neg]; omega
        have h7 : 0 ≤ (D - 1) * (-q - 1) := Int.mul_nonneg (by omega) (by omega)
        have h8 : (D - 1) * (-q - 1) = D * (-q) - D + q + 1 := by grind
        omega
      · have h5 : 1 * q ≤ D * q := Int.mul_le_mul_of_nonneg_right (by omega) h
        omega
    omega
  have hdm : ∀ W, Lm W W.heap.size A n ca (digs N.natAbs) → Lm W W.heap.size B m cb (digs D.natAbs) → Calls Tryz.prog 46 #[.agg #[.bool na, .slice A n ca], .agg #[.bool false, .slice B m cb]] W fun e w' => ∃ A n c A' n' c', e = .returned (.tuple #[.agg #[.bool (decide (q < 0)), .slice A n c], .agg #[.bool false, .slice A' n' c'], .int .i64 0]) ∧ Lm w' w'.heap.size A n c (digs q.natAbs) ∧ Lm w' w'.heap.size A' n' c' (digs (N % D).natAbs) ∧ Below W.heap.size W w' := fun W L1 L2 =>
    (divmod_n W A B n m ca cb 300 N D L1 L2 hsN hsD (by omega) (by omega) ha (decide_eq_false (by omega))).mono fun e w' h => RDF.of hq (rd2_f hD h)
  have hin : ∀ W A' n' c', Lm W W.heap.size A' n' c' (digs q.natAbs) → Calls Tryz.prog 47 #[.agg #[.bool (decide (q < 0)), .slice A' n' c']] W fun e w' => e = .returned (.tuple #[.int .i64 (i64V q), .int .i64 (i64E q)]) ∧ Below W.heap.size W w' := fun W A' n' c' L => int_n W A' n' c' 300 q L hsq (by omega) rfl
  obtain ⟨s1, s2, s3, s4⟩ := share_eq (N := N) hD
  have hr0 := Int.emod_nonneg N (show D ≠ 0 by omega)
  have hr1 := Int.emod_lt_of_pos N hD
  have hsh : ∀ W A' n' c', Lm W W.heap.size A' n' c' (digs (N % D).natAbs) → Lm W W.heap.size B m cb (digs D.natAbs) → Calls Tryz.prog 49 #[.agg #[.bool false, .slice A' n' c'], .agg #[.bool false, .slice B m cb]] W fun e w' => e = .returned (.tuple #[.int .i64 (N % D * 1099511627776 / D), .bool true]) ∧ Below W.heap.size W w' := fun W A' n' c' L1 L2 => by
    have h := share_n W A' B n' m c' cb 300 (N % D) D L1 L2 hr0 hr1 (by omega) hsD
    rw [← s2] at h
    rwa [decide_eq_true h3] at h
  obtain ⟨u, hu⟩ : ∃ u, u = N % D * 1099511627776 / D := ⟨_, rfl⟩
  rw [← hu] at hsh s1 s3 s4
  rw [hq] at h1 h2 s1
  obtain ⟨L0, hL0⟩ : ∃ L0, L0 = q * 1099511627776 := ⟨_, rfl⟩
  rw [← hL0] at s1
  have hl1 : -2305843009213693952 ≤ L0 := by omega
  have hl2 : L0 ≤ 2305843009213693952 := by omega
  have hw1 : IntKind.i64.wrap (L0 + u) = L0 + u := IntWalk.i64_in _ (by omega)
  have hw2 : IntKind.i64.wrap (L0 + u + 1) = L0 + u + 1 := IntWalk.i64_in _ (by omega)
  have HM : Hid (mkI (L0 + u) (L0 + u + 1) = offO N D) := by show _ = _; unfold offO; rw [div_mod_c hD, if_neg (by omega), s1]
  rw [(i64_in' (q := q) (by omega)).1, (i64_in' (q := q) (by omega)).2] at hin
  have hwh := fun W => swhole_any W q (by omega) (by omega)
  rw [who_in h1 h2, ← hL0] at hwh
  have HWH := Lib.hid hwh
  have HSH := Lib.hid hsh
  clear hwh hsh s1 s2 s3 s4 hr0 hr1 hu hL0 h1 h2 h3
  have HCK := Lib.hid hck
  have HDM := Lib.hid hdm
  have HIN := Lib.hid hin
  clear hck hdm hin hsq hsN hsD hg ha hA hB
  have HD := Lib.hid hD
  have HQ := Lib.hid hq
  clear hD hq
  obtain ⟨zq, hzq⟩ : ∃ b, decide (q < 0) = b := ⟨_, rfl⟩
  rw [hzq] at HDM HIN
  clear hzq
  go_enter Tryz.func20, Tryz.ntmps20
  have QF := Lib.hid ((Qd.new w (w.heap.size) rfl (.bool na) (.slice A n ca) (.bool false) (.slice B m cb) 31).alloc (.cells #[.int .i64 0, .int .i64 0] 23))
  have QR := Lib.hid (Pr.new (w.alloc (.cells #[.bool na, .slice A n ca, .bool false, .slice B m cb] 31)) (w.heap.size + 1) (by simp) (.int .i64 0) (.int .i64 0) 23)
  have LA := Lib.hid ((HA.out.box (.cells #[.bool na, .slice A n ca, .bool false, .slice B m cb] 31)).box (.cells #[.int .i64 0, .int .i64 0] 23))
  have LB := Lib.hid ((HB.out.box (.cells #[.bool na, .slice A n ca, .bool false, .slice B m cb] 31)).box (.cells #[.int .i64 0, .int .i64 0] 23))
  have BW : Hid (Below w.heap.size w ((w.alloc (.cells #[.bool na, .slice A n ca, .bool false, .slice B m cb] 31)).alloc (.cells #[.int .i64 0, .int .i64 0] 23))) := (sbal (sbal (Below.refl _ _) _) _)
  clear HA HB
  go_wp2_with fail
  generalize (w.alloc (.cells #[.bool na, .slice A n ca, .bool false, .slice B m cb] 31)).alloc (.cells #[.int .i64 0, .int .i64 0] 23) = W0 at *
  refine (HCK.out _ LA.out LB.out).mono ?_
  rintro e w1 ⟨rfl, hb⟩
  replace QF := Lib.hid (QF.out.via hb)
  replace QR := Lib.hid (QR.out.via hb)
  replace LA := Lib.hid (LA.out.via hb)
  replace LB := Lib.hid (LB.out.via hb)
  replace BW := Lib.hid (btr BW.out hb)
  clear hb
  have ⟨rQF0, rQF1, rQF2, rQF3, rQF4, rQF5, rQF6, rQF7, rQFl⟩ := QF.out
  go_wp2_with fail
  clear rQF0 rQF1 rQF2 rQF3 rQF4 rQF5 rQF6 rQF7 rQFl
  refine (HDM.out _ LA.out LB.out).mono ?_
  rintro e w2 ⟨A1, n1, c1, A2, n2, c2, rfl, hL1, hL2, hb⟩
  replace QF := Lib.hid (QF.out.via hb)
  replace QR := Lib.hid (QR.out.via hb)
  replace LA := Lib.hid (LA.out.via hb)
  replace LB := Lib.hid (LB.out.via hb)
  replace BW := Lib.hid (btr BW.out hb)
  have L1 := Lib.hid hL1
  have L2 := Lib.hid hL2
  clear hb hL1 hL2
  have ⟨rQF0, rQF1, rQF2, rQF3, rQF4, rQF5, rQF6, rQF7, rQFl⟩ := QF.out
  go_wp2_with fail
  clear rQF0 rQF1 rQF2 rQF3 rQF4 rQF5 rQF6 rQF7 rQFl
  replace QF := Lib.hid ((QF.out.alloc (.cells #[.bool zq, .slice A1 n1 c1] 29)).alloc (.cells #[.bool false, .slice A2 n2 c2] 29))
  replace QR := Lib.hid ((QR.out.alloc (.cells #[.bool zq, .slice A1 n1 c1] 29)).alloc (.cells #[.bool false, .slice A2 n2 c2] 29))
  replace LA := Lib.hid ((LA.out.box (.cells #[.bool zq, .slice A1 n1 c1] 29)).box (.cells #[.bool false, .slice A2 n2 c2] 29))
  replace LB := Lib.hid ((LB.out.box (.cells #[.bool zq, .slice A1 n1 c1] 29)).box (.cells #[.bool false, .slice A2 n2 c2] 29))
  replace L1 := Lib.hid ((L1.out.box (.cells #[.bool zq, .slice A1 n1 c1] 29)).box (.cells #[.bool false, .slice A2 n2 c2] 29))
  replace L2 := Lib.hid ((L2.out.box (.cells #[.bool zq, .slice A1 n1 c1] 29)).box (.cells #[.bool false, .slice A2 n2 c2] 29))
  have Q5 := Lib.hid ((Pr.new w2 _ rfl (.bool zq) (.slice A1 n1 c1) 29).alloc (.cells #[.bool false, .slice A2 n2 c2] 29))
  have Q6 := Lib.hid (Pr.new (w2.alloc (.cells #[.bool zq, .slice A1 n1 c1] 29)) (w2.heap.size + 1) (by simp) (.bool false) (.slice A2 n2 c2) 29)
  replace BW := Lib.hid (sbal (sbal BW.out (.cells #[.bool zq, .slice A1 n1 c1] 29)) (.cells #[.bool false, .slice A2 n2 c2] 29))
  generalize (w2.alloc (.cells #[.bool zq, .slice A1 n1 c1] 29)).alloc (.cells #[.bool false, .slice A2 n2 c2] 29) = W2 at *
  generalize w2.heap.size = g2 at *
  refine (HIN.out _ _ _ _ L1.out).mono ?_
  rintro e w3 ⟨rfl, hb⟩
  clear Q5
  clear L1
  clear LA
  replace QF := Lib.hid (QF.out.via hb)
  replace QR := Lib.hid (QR.out.via hb)
  replace LB := Lib.hid (LB.out.via hb)
  replace L2 := Lib.hid (L2.out.via hb)
  replace Q6 := Lib.hid (Q6.out.via hb)
  replace BW := Lib.hid (btr BW.out hb)
  clear hb
  have ⟨rQ60, rQ61, rQ62, rQ63, rQ6l⟩ := Q6.out
  go_wp2_with fail
  clear rQ60 rQ61 rQ62 rQ63 rQ6l
  refine (HWH.out _).mono ?_
  rintro e w4 ⟨rfl, hb⟩
  replace QF := Lib.hid (QF.out.via hb)
  replace QR := Lib.hid (QR.out.via hb)
  replace LB := Lib.hid (LB.out.via hb)
  replace L2 := Lib.hid (L2.out.via hb)
  replace Q6 := Lib.hid (Q6.out.via hb)
  replace BW := Lib.hid (btr BW.out hb)
  clear hb
  have hgrB := QR.out.lt
  have ⟨rQF0, rQF1, rQF2, rQF3, rQF4, rQF5, rQF6, rQF7, rQFl⟩ := QF.out
  have ⟨rQ60, rQ61, rQ62, rQ63, rQ6l⟩ := Q6.out
  go_wp2_with fail
  clear rQF0 rQF1 rQF2 rQF3 rQF4 rQF5 rQF6 rQF7 rQFl rQ60 rQ61 rQ62 rQ63 rQ6l
  replace QF := Lib.hid (QF.out.alloc (.cells #[.int .i64 L0, .int .i64 L0] 23))
  replace QR := Lib.hid (QR.out.alloc (.cells #[.int .i64 L0, .int .i64 L0] 23))
  replace LB := Lib.hid (LB.out.box (.cells #[.int .i64 L0, .int .i64 L0] 23))
  replace L2 := Lib.hid (L2.out.box (.cells #[.int .i64 L0, .int .i64 L0] 23))
  replace Q6 := Lib.hid (Q6.out.alloc (.cells #[.int .i64 L0, .int .i64 L0] 23))
  have Q10 := Lib.hid (Pr.new w4 _ rfl (.int .i64 L0) (.int .i64 L0) 23)
  replace BW := Lib.hid (sbal BW.out (.cells #[.int .i64 L0, .int .i64 L0] 23))
  generalize w4.alloc (.cells #[.int .i64 L0, .int .i64 L0] 23) = W4 at *
  generalize w4.heap.size = g4 at *
  have hgr : w.heap.size + 1 < g4 := hgrB
  refine (HSH.out _ _ _ _ L2.out LB.out).mono ?_
  rintro e w5 ⟨rfl, hb⟩
  replace QF := Lib.hid (QF.out.via hb)
  replace QR := Lib.hid (QR.out.via hb)
  replace LB := Lib.hid (LB.out.via hb)
  replace L2 := Lib.hid (L2.out.via hb)
  replace Q6 := Lib.hid (Q6.out.via hb)
  replace Q10 := Lib.hid (Q10.out.via hb)
  replace BW := Lib.hid (btr BW.out hb)
  clear hb
  clear Q6
  clear L2
  clear LB
  clear QF
  have ⟨rQ100, rQ101, rQ102, rQ103, rQ10l⟩ := Q10.out
  go_upto_region 14 with (fail)
  clear rQ100 rQ101 rQ102 rQ103 rQ10l
  replace QR := Lib.hid (QR.out.far (h := g4) (Nat.ne_of_lt hgr) (.int .i64 (L0 + u)) (.int .i64 (L0 + u)))
  replace Q10 := Lib.hid (Q10.out.set (.int .i64 (L0 + u)) (.int .i64 (L0 + u)))
  replace BW := Lib.hid (below_set2 BW.out (g := g4) (by omega) (.int .i64 (L0 + u)) (.int .i64 (L0 + u)))
  generalize (w5.setCell ⟨g4, 0, none⟩ (.int .i64 (L0 + u))).setCell ⟨g4, 1, none⟩ (.int .i64 (L0 + u)) = W9 at *
  have ⟨rQ100, rQ101, rQ102, rQ103, rQ10l⟩ := Q10.out
  go_wp2_with fail
  clear rQ100 rQ101 rQ102 rQ103 rQ10l
  replace QR := Lib.hid (QR.out.farB (h := g4) (Nat.ne_of_lt hgr) 1 (.int .i64 (L0 + u + 1)))
  replace BW := Lib.hid (BW.out.setCell (p := ⟨g4, 1, none⟩) (by show _ ≤ g4; omega) (.int .i64 (L0 + u + 1)))
  clear Q10
  generalize W9.setCell ⟨g4, 1, none⟩ (.int .i64 (L0 + u + 1)) = W10 at *
  refine (smade_any _ (L0 + u) (L0 + u + 1) (by omega)).mono ?_
  rintro e w6 ⟨rfl, hb⟩
  replace QR := Lib.hid (QR.out.via hb)
  replace BW := Lib.hid (btr BW.out hb)
  clear hb
  have ⟨rQR0, rQR1, rQR2, rQR3, rQRl⟩ := QR.out
  go_wp2
  exact post_iv Tryz.results20 rfl rfl (QR.out.set _ _) ⟨ret_mkF HM.out, below_set2 BW.out (by omega) _ _⟩
end Go.Proofs.YtglgfjknhplajaaGreatDoor

/- Intervals: ends of the reference. -/
namespace Go.Proofs.YtglgfjknhplajaaGreatDoor
open Go.RowKit

/-- Block g has twelve cells that hold these values, and may be written. -/
structure D12 (w : World) (g : Nat) (vs : List Value) : Prop where
  len : vs.length = 12
  at_ : ∀ j (h : j < vs.length), w.cell? ⟨g, j, none⟩ = some vs[j]
  free : ∀ j, j < 12 → w.frozen? ⟨g, j, none⟩ = false
  lt : g < w.heap.size
theorem D12.via {w w' : World} {g : Nat} {vs : List Value} (p : D12 w g vs) (hb : Below w.heap.size w w') : D12 w' g vs :=
  ⟨p.len, fun j h => (hb.cell (p := ⟨g, j, none⟩) p.lt).trans (p.at_ j h), fun j h => (hb.frozen (p := ⟨g, j, none⟩) p.lt).trans (p.free j h), Nat.lt_of_lt_of_le p.lt hb.size⟩
theorem D12.alloc {w : World} {g : Nat} {vs : List Value} (p : D12 w g vs) (o : Obj) : D12 (w.alloc o) g vs := p.via ((Below.refl _ _).alloc (Nat.le_refl _) o)
theorem D12.drew {w : World} {g : Nat} {vs : List Value} (p : D12 w g vs) : D12 w.drew g vs := ⟨p.len, p.at_, p.free, p.lt⟩
theorem D12.new (w : World) (k : Nat) (hk : w.heap.size = k) (v0 v1 v2 v3 v4 v5 v6 v7 v8 v9 v10 v11 : Value) (t : TypeId) : D12 (w.alloc (.cells #[v0, v1, v2, v3, v4, v5, v6, v7, v8, v9, v10, v11] t)) k [v0, v1, v2, v3, v4, v5, v6, v7, v8, v9, v10, v11] := by
  subst hk
  refine ⟨rfl, fun j h => ?_, fun j h => ?_, by simp⟩
  · simp only [List.length_cons, List.length_nil] at h
    rcases (show j = 0 ∨ j = 1 ∨ j = 2 ∨ j = 3 ∨ j = 4 ∨ j = 5 ∨ j = 6 ∨ j = 7 ∨ j = 8 ∨ j = 9 ∨ j = 10 ∨ j = 11 by omega) with rfl | rfl | rfl | rfl | rfl | rfl | rfl | rfl | rfl | rfl | rfl | rfl <;> go_simp
  · rcases (show j = 0 ∨ j = 1 ∨ j = 2 ∨ j = 3 ∨ j = 4 ∨ j = 5 ∨ j = 6 ∨ j = 7 ∨ j = 8 ∨ j = 9 ∨ j = 10 ∨ j = 11 by omega) with rfl | rfl | rfl | rfl | rfl | rfl | rfl | rfl | rfl | rfl | rfl | rfl <;> go_simp
theorem D12.raw {w : World} {g : Nat} {v0 v1 v2 v3 v4 v5 v6 v7 v8 v9 v10 v11 : Value} (p : D12 w g [v0, v1, v2, v3, v4, v5, v6, v7, v8, v9, v10, v11]) : w.cell? ⟨g, 0, none⟩ = some v0 ∧ w.cell? ⟨g, 1, none⟩ = some v1 ∧ w.cell? ⟨g, 2, none⟩ = some v2 ∧ w.cell? ⟨g, 3, none⟩ = some v3 ∧ w.cell? ⟨g, 4, none⟩ = some v4 ∧ w.cell? ⟨g, 5, none⟩ = some v5 ∧ w.cell? ⟨g, 6, none⟩ = some v6 ∧ w.cell? ⟨g, 7, none⟩ = some v7 ∧ w.cell? ⟨g, 8, none⟩ = some v8 ∧ w.cell? ⟨g, 9, none⟩ = some v9 ∧ w.cell? ⟨g, 10, none⟩ = some v10 ∧ w.cell? ⟨g, 11, none⟩ = some v11 ∧ w.frozen? ⟨g, 0, none⟩ = false ∧ w.frozen? ⟨g, 1, none⟩ = false ∧ w.frozen? ⟨g, 2, none⟩ = false ∧ w.frozen? ⟨g, 3, none⟩ = false ∧ w.frozen? ⟨g, 4, none⟩ = false ∧ w.frozen? ⟨g, 5, none⟩ = false ∧ w.frozen? ⟨g, 6, none⟩ = false ∧ w.frozen? ⟨g, 7, none⟩ = false ∧ w.frozen? ⟨g, 8, none⟩ = false ∧ w.frozen? ⟨g, 9, none⟩ = false ∧ w.frozen? ⟨g, 10, none⟩ = false ∧ w.frozen? ⟨g, 11, none⟩ = false :=
  ⟨p.at_ 0 (by simp), p.at_ 1 (by simp), p.at_ 2 (by simp), p.at_ 3 (by simp), p.at_ 4 (by simp), p.at_ 5 (by simp), p.at_ 6 (by simp), p.at_ 7 (by simp), p.at_ 8 (by simp), p.at_ 9 (by simp), p.at_ 10 (by simp), p.at_ 11 (by simp), p.free 0 (by omega), p.free 1 (by omega), p.free 2 (by omega), p.free 3 (by omega), p.free 4 (by omega), p.free 5 (by omega), p.free 6 (by omega), p.free 7 (by omega), p.free 8 (by omega), p.free 9 (by omega), p.free 10 (by omega), p.free 11 (by omega)⟩
theorem size_setCells (b : Nat) : ∀ (vs : List Value) (o : Nat) (w : World), (w.setCells b o vs).heap.size = w.heap.size
  | [], _, _ => rfl
  | v :: r, o, w => by rw [World.setCells, size_setCells b r]; simp [World.size_setCell]
theorem D12.set {w : World} {g : Nat} {vs : List Value} (p : D12 w g vs) (us : List Value) (hu : us.length = 12) : D12 (w.setCells g 0 us) g us :=
  ⟨hu, fun j h => by
    have := World.cell?_setCells_in g us 0 w (fun i hi => by rw [Nat.zero_add, p.at_ i (by rw [p.len]; omega)]; rfl) j h
    rwa [Nat.zero_add] at this, fun j h => by rw [World.frozen?_setCells]; exact p.free j h, by rw [size_setCells]; exact p.lt⟩
theorem below_setCells {B g : Nat} (hg : B ≤ g) : ∀ (vs : List Value) (o : Nat) (w w1 : World), Below B w w1 → Below B w (w1.setCells g o vs)
  | [], _, _, _, h => h
  | v :: r, o, w, _, h => below_setCells hg r (o + 1) w _ (h.setCell (p := ⟨g, o, none⟩) hg v)
theorem set12_eq (w : World) (g : Nat) (v0 v1 v2 v3 v4 v5 v6 v7 v8 v9 v10 v11 : Value) : (((((((((((w.setCell ⟨g, 0, none⟩ v0).setCell ⟨g, 1, none⟩ v1).setCell ⟨g, 2, none⟩ v2).setCell ⟨g, 3, none⟩ v3).setCell ⟨g, 4, none⟩ v4).setCell ⟨g, 5, none⟩ v5).setCell ⟨g, 6, none⟩ v6).setCell ⟨g, 7, none⟩ v7).setCell ⟨g, 8, none⟩ v8).setCell ⟨g, 9, none⟩ v9).setCell ⟨g, 10, none⟩ v10).setCell ⟨g, 11, none⟩ v11 = w.setCells g 0 [v0, v1, v2, v3, v4, v5, v6, v7, v8, v9, v10, v11] := rfl
/-- The first slot points to the four products. -/
def EndsAt (W : World) (us : List Value) (s : Value) (wx : World) : Prop := ∃ g, s = .pointer (some ⟨g, 0, none⟩) ∧ D12 wx g us ∧ W.heap.size ≤ g ∧ Below W.heap.size W wx
theorem efin1 {W w : World} (hB : Below W.heap.size W w) (v0 v1 v2 v3 v4 v5 v6 v7 v8 v9 v10 v11 : Value) (t : TypeId) : EndsAt W [v0, v1, v2, v3, v4, v5, v6, v7, v8, v9, v10, v11] (.pointer (some ⟨w.heap.size, 0, none⟩)) (w.alloc (.cells #[v0, v1, v2, v3, v4, v5, v6, v7, v8, v9, v10, v11] t)) :=
  ⟨_, rfl, D12.new w _ rfl v0 v1 v2 v3 v4 v5 v6 v7 v8 v9 v10 v11 t, hB.size, sbal hB _⟩
theorem efin2 {W w : World} {g : Nat} {zs : List Value} (hB : Below W.heap.size W w) (p : D12 w g zs) (hg : W.heap.size ≤ g) (v0 v1 v2 v3 v4 v5 v6 v7 v8 v9 v10 v11 : Value) : EndsAt W [v0, v1, v2, v3, v4, v5, v6, v7, v8, v9, v10, v11] (.pointer (some ⟨g, 0, none⟩)) (w.setCells g 0 [v0, v1, v2, v3, v4, v5, v6, v7, v8, v9, v10, v11]) :=
  ⟨_, rfl, p.set _ rfl, hg, below_setCells hg _ _ _ _ hB⟩
/-- The number of a product of two words. -/
def sv (s : Bool) (H L : Nat) : Int := sgn s (H * 18446744073709551616 + L)
/-- A product as the reference has it. -/
structure Lg (s : Bool) (H L : Nat) : Prop where
  pos : s = true → 0 < H * 18446744073709551616 + L
  low : L < 18446744073709551616
abbrev lv (s : Bool) (H L : Nat) : Value := .agg #[.bool s, .int .u64 (H : Int), .int .u64 (L : Int)]
def RLg (w : World) (s : Bool) (H L : Nat) (e : Ending) (w' : World) : Prop := e = .returned (lv s H L) ∧ Below w.heap.size w w'
theorem split_hl (H : Nat) {L : Nat} (h : L < 18446744073709551616) : (H * 18446744073709551616 + L) / 18446744073709551616 = H ∧ (H * 18446744073709551616 + L) % 18446744073709551616 = L := by omega
theorem C3.setC {w : World} {g : Nat} {x0 x1 x2 : Value} (p : C3 w g x0 x1 x2) (y0 y1 y2 : Value) : C3 (w.setCells g 0 [y0, y1, y2]) g y0 y1 y2 := by
  have h := World.cell?_setCells_in g [y0, y1, y2] 0 w (fun i hi => by
    simp at hi
    rcases (show i = 0 ∨ i = 1 ∨ i = 2 by omega) with rfl | rfl | rfl
    · rw [Nat.zero_add, p.c0]; rfl
    · rw [Nat.zero_add, p.c1]; rfl
    · rw [Nat.zero_add, p.c2]; rfl)
  exact ⟨h 0 (by simp), h 1 (by simp), h 2 (by simp), by rw [World.frozen?_setCells]; exact p.f0, by rw [World.frozen?_setCells]; exact p.f1, by rw [World.frozen?_setCells]; exact p.f2, by rw [size_setCells]; exact p.lt⟩
theorem far_cell {w : World} {g h : Nat} (hne : g ≠ h) (vs : List Value) (j : Nat) : (w.setCells h 0 vs).cell? ⟨g, j, none⟩ = w.cell? ⟨g, j, none⟩ :=
  World.cell?_setCells_out h vs 0 w ⟨g, j, none⟩ (fun e => absurd e hne)
theorem C3.farC {w : World} {g h : Nat} {x0 x1 x2 : Value} (p : C3 w g x0 x1 x2) (hne : g ≠ h) (vs : List Value) : C3 (w.setCells h 0 vs) g x0 x1 x2 :=
  ⟨(far_cell hne vs 0).trans p.c0, (far_cell hne vs 1).trans p.c1, (far_cell hne vs 2).trans p.c2, by rw [World.frozen?_setCells]; exact p.f0, by rw [World.frozen?_setCells]; exact p.f1, by rw [World.frozen?_setCells]; exact p.f2, by rw [size_setCells]; exact p.lt⟩
theorem D12.farC {w : World} {g h : Nat} {us : List Value} (p : D12 w g us) (hne : g ≠ h) (vs : List Value) : D12 (w.setCells h 0 vs) g us :=
  ⟨p.len, fun j hj => (far_cell hne vs j).trans (p.at_ j hj), fun j hj => by rw [World.frozen?_setCells]; exact p.free j hj, by rw [size_setCells]; exact p.lt⟩
theorem set3_eq (w : World) (g : Nat) (x y z : Value) : ((w.setCell ⟨g, 0, none⟩ x).setCell ⟨g, 1, none⟩ y).setCell ⟨g, 2, none⟩ z = w.setCells g 0 [x, y, z] := rfl
theorem tfin1 {w : World} {g : Nat} (hg : g < w.heap.size) (x y z : Value) (t : TypeId) : ∃ p q, (Value.pointer (some ⟨w.heap.size, 0, none⟩)) = .pointer (some ⟨p, 0, none⟩) ∧ (Value.pointer (some ⟨w.heap.size + 1, 0, none⟩)) = .pointer (some ⟨q, 0, none⟩) ∧ C3 (((w.alloc (.cells #[x, y, z] t)).alloc (.cells #[x, y, z] t)).drew) p x y z ∧ C3 (((w.alloc (.cells #[x, y, z] t)).alloc (.cells #[x, y, z] t)).drew) q x y z ∧ p ≠ q ∧ g < p ∧ g < q ∧ Below w.heap.size w (((w.alloc (.cells #[x, y, z] t)).alloc (.cells #[x, y, z] t)).drew) :=
  ⟨_, _, rfl, rfl, ((C3.new w _ rfl x y z t).alloc _).drewN 1, (C3.new (w.alloc _) _ (by simp) x y z t).drewN 1, by omega, by omega, by omega, bdrewN (sbal (sbal (Below.refl _ _) _) _) 1⟩
theorem tfin2 {w : World} {g : Nat} (hg : g < w.heap.size) (x y z : Value) (t : TypeId) : ∃ p q, (Value.pointer (some ⟨w.heap.size + 1, 0, none⟩)) = .pointer (some ⟨p, 0, none⟩) ∧ (Value.pointer (some ⟨w.heap.size, 0, none⟩)) = .pointer (some ⟨q, 0, none⟩) ∧ C3 (((w.alloc (.cells #[x, y, z] t)).alloc (.cells #[x, y, z] t)).drew) p x y z ∧ C3 (((w.alloc (.cells #[x, y, z] t)).alloc (.cells #[x, y, z] t)).drew) q x y z ∧ p ≠ q ∧ g < p ∧ g < q ∧ Below w.heap.size w (((w.alloc (.cells #[x, y, z] t)).alloc (.cells #[x, y, z] t)).drew) :=
  ⟨_, _, rfl, rfl, (C3.new (w.alloc _) _ (by simp) x y z t).drewN 1, ((C3.new w _ rfl x y z t).alloc _).drewN 1, by omega, by omega, by omega, bdrewN (sbal (sbal (Below.refl _ _) _) _) 1⟩
/-- The least and the greatest of four numbers are returned as products. -/
def RE2 (w : World) (v0 v1 v2 v3 : Int) (e : Ending) (w' : World) : Prop := ∃ s H L s' H' L', Lg s H L ∧ Lg s' H' L' ∧ sv s H L = mn4 v0 v1 v2 v3 ∧ sv s' H' L' = mx4 v0 v1 v2 v3 ∧ e = .returned (.tuple #[lv s H L, lv s' H' L']) ∧ Below w.heap.size w w'
end Go.Proofs.YtglgfjknhplajaaGreatDoor

/- Intervals: Mul of the reference. -/
namespace Go.Proofs.YtglgfjknhplajaaGreatDoor
open Go.RowKit

theorem mkI_cl2 {lo hi lo' hi' : Int} (h1 : cl lo = cl lo') (h2 : cl hi = cl hi') (h4 : lo' ≤ hi') : mkI lo hi = mkI lo' hi' := by
  unfold mkI cl at *
  by_cases h : lo' < -2305843009213693952 ∨ 2305843009213693952 < hi'
  · rw [if_pos (show lo < -2305843009213693952 ∨ 2305843009213693952 < hi by omega), if_pos h]
  · have h5 : ¬ (lo < -2305843009213693952 ∨ 2305843009213693952 < hi) := by omega
    rw [if_neg h5, if_neg h]
    have e1 : lo = lo' := by omega
    have e2 : hi = hi' := by omega
    rw [e1, e2]
theorem C3.far2 {w : World} {g h : Nat} {x0 x1 x2 : Value} (p : C3 w g x0 x1 x2) (hne : g ≠ h) (x y : Value) : C3 ((w.setCell ⟨h, 0, none⟩ x).setCell ⟨h, 1, none⟩ y) g x0 x1 x2 := p.farC hne [x, y]
end Go.Proofs.YtglgfjknhplajaaGreatDoor

/- Intervals: made where the ends may be far out; rising; Sq on both sides. -/
namespace Go.Proofs.YtglgfjknhplajaaGreatDoor
open Go.RowKit

set_option maxRecDepth 100000 in
theorem smade_bad (w : World) (lo hi : Int) (h : ivC lo hi = 8) : Calls Tryz.prog 38 #[iv lo hi] w (RO w ⟨0, 0, 16⟩) := by
  have PA := Lib.hid ((Pr.new w w.heap.size rfl (.int .i64 lo) (.int .i64 hi) 23).alloc (ivB 0 0))
  have PB := Lib.hid (Pr.new (w.alloc (ivB lo hi)) (w.heap.size + 1) (by simp) (.int .i64 0) (.int .i64 0) 23)
  have H := Lib.hid h
  clear h
  go_enter Tryz.func38, Tryz.ntmps38
  go_wp2_with fail
  refine (scheck_any _ lo hi).mono ?_
  rintro e w1 ⟨rfl, hb⟩
  have P1 := Lib.hid (PA.out.via hb)
  have P2 := Lib.hid (PB.out.via hb)
  have B1 := Lib.hid (bbox (bbox hb))
  clear hb PA PB
  rw [H.out]
  have ⟨a0, a1, _, _, _⟩ := P1.out
  have ⟨b0, b1, f0, f1, bl⟩ := P2.out
  go_wp2
  exact post_iv Tryz.results38 rfl rfl (P2.out.set _ _) ⟨rfl, below_set2 B1.out (by omega) _ _⟩
theorem smade2_any (w : World) (lo hi : Int) (h : lo ≤ hi ∨ lo < -2305843009213693952 ∨ 2305843009213693952 < hi) : Calls Tryz.prog 38 #[iv lo hi] w (RO w (mkI lo hi)) := by
  by_cases hle : lo ≤ hi
  · exact smade_any w lo hi hle
  · rw [mkI_out (by omega)]
    exact smade_bad w lo hi (ivC_bad (by omega))
theorem cl_le_or {a b e f : Int} (h1 : cl a = cl e) (h2 : cl b = cl f) (h : e ≤ f) : a ≤ b ∨ a < -2305843009213693952 ∨ 2305843009213693952 < b := by
  unfold cl at *; omega
set_option maxRecDepth 100000 in
set_option maxHeartbeats 1000000 in
theorem change2_any (w : World) (f : FuncId) (al ah lo hi : Int) (hcf : ∀ (u : Value) (W : World), (callFunc f #[u]).run Tryz.prog W = .ok (.enter f #[u]) W)
    (H : ivC al ah = 0 → (lo ≤ hi ∨ lo < -2305843009213693952 ∨ 2305843009213693952 < hi) ∧ ∀ W, Calls Tryz.prog f #[iv al ah] W (RV W lo hi)) :
    Calls Tryz.prog 32 #[iv al ah, .func (.func f) #[] #[]] w (RO w (j1 al ah (mkI lo hi))) := by
  have HH := Lib.hid H
  have PA := Lib.hid ((Pr.new w w.heap.size rfl (.int .i64 al) (.int .i64 ah) 23).alloc (ivB 0 0))
  have PR := Lib.hid (Pr.new (w.alloc (ivB al ah)) (w.heap.size + 1) (by simp) (.int .i64 0) (.int .i64 0) 23)
  have BW : Hid (Below w.heap.size w ((w.alloc (ivB al ah)).alloc (ivB 0 0))) := sbal (sbal (Below.refl _ _) _) _
  clear H
  go_enter Tryz.func32, Tryz.ntmps32
  go_wp2_with fail
  generalize (w.alloc (ivB al ah)).alloc (ivB 0 0) = W0 at *
  refine (scheck_any _ al ah).mono ?_
  rintro e w1 ⟨rfl, hb⟩
  have P1 := Lib.hid (PA.out.via hb)
  have P3 := Lib.hid (PR.out.via hb)
  have B1 := Lib.hid (sbtr BW.out hb)
  clear hb PA PR BW
  rcases ivC_cases al ah with ⟨h, _⟩ | ⟨h, _⟩
  · have e : j1 al ah (mkI lo hi) = mkI lo hi := by unfold j1; rw [if_pos h]
    rw [h]
    have E := Lib.hid e
    obtain ⟨hle, hc⟩ := HH.out h
    have HC := Lib.hid hc
    have ⟨a0, a1, _, _, _⟩ := P1.out
    clear h hc e HH
    go_wp2_with fail
    refine (HC.out _).mono ?_
    rintro e w2 ⟨rfl, hb⟩
    have B2 := Lib.hid (sbtr B1.out hb)
    have P4 := Lib.hid (P3.out.via hb)
    clear hb a0 a1 B1
    go_wp2_with fail
    refine (smade2_any _ lo hi hle).mono ?_
    rintro e w3 ⟨rfl, hb⟩
    have B3 := Lib.hid (sbtr B2.out hb)
    have P5 := Lib.hid (P4.out.via hb)
    clear hb B2 hcf
    have ⟨r0, r1, f0, f1, rl⟩ := P5.out
    go_wp2
    exact post_iv Tryz.results32 rfl rfl (P5.out.set _ _) ⟨by rw [E.out]; rfl, below_set2 B3.out (by omega) _ _⟩
  · have e : j1 al ah (mkI lo hi) = ⟨0, 0, 8⟩ := by unfold j1; rw [if_neg (by rw [h]; decide), h]
    rw [h]
    have E := Lib.hid e
    have ⟨r0, r1, f0, f1, rl⟩ := P3.out
    clear h e HH hcf
    go_wp2
    exact post_iv Tryz.results32 rfl rfl (P3.out.set _ _) ⟨by rw [E.out]; rfl, below_set2 B1.out (by omega) _ _⟩
set_option maxRecDepth 100000 in
set_option maxHeartbeats 1000000 in
theorem rising_sq (w : World) (lo hi l0 h0 l1 h1 : Int) (k0 : ∀ W, Calls Tryz.prog 36 #[.int .i64 lo] W (RV W l0 h0)) (k1 : ∀ W, Calls Tryz.prog 36 #[.int .i64 hi] W (RV W l1 h1)) :
    Calls Tryz.prog 34 #[iv lo hi, .func (.func 36) #[] #[]] w (RV w l0 h1) := by
  have hf0 : ∀ (w : World) (x y : Value), (Instr.field 23 (.agg #[x, y]) 0).run Tryz.prog w = .ok x w := fun _ _ _ => by kernel_rfl
  have hf1 : ∀ (w : World) (x y : Value), (Instr.field 23 (.agg #[x, y]) 1).run Tryz.prog w = .ok y w := fun _ _ _ => by kernel_rfl
  have K0 := Lib.hid k0
  have K1 := Lib.hid k1
  clear k0 k1
  have PA := Lib.hid ((Pr.new w w.heap.size rfl (.int .i64 lo) (.int .i64 hi) 23).alloc (ivB 0 0))
  have PR := Lib.hid (Pr.new (w.alloc (ivB lo hi)) (w.heap.size + 1) (by simp) (.int .i64 0) (.int .i64 0) 23)
  have BW : Hid (Below w.heap.size w ((w.alloc (ivB lo hi)).alloc (ivB 0 0))) := sbal (sbal (Below.refl _ _) _) _
  go_enter Tryz.func34, Tryz.ntmps34
  go_wp2_with fail
  generalize (w.alloc (ivB lo hi)).alloc (ivB 0 0) = W0 at *
  have HKS : Hid (∀ X : World, Below W0.heap.size W0 X → X.cell? ⟨w.heap.size, 0, none⟩ = some (.int .i64 lo) ∧ X.cell? ⟨w.heap.size, 1, none⟩ = some (.int .i64 hi)) := fun X h => ⟨(PA.out.via h).c0, (PA.out.via h).c1⟩
  go_region_held3 (fun X => X.cell? ⟨w.heap.size, 0, none⟩ = some (.int .i64 lo) ∧ X.cell? ⟨w.heap.size, 1, none⟩ = some (.int .i64 hi))
    (first | exact HKS.out _ (Below.refl _ _) | exact HKS.out _ (Below.refl _ _).drew | exact HKS.out _ D2 | exact HKS.out _ D1 | exact ⟨((PA.out.via D2).far (by omega) _ _).c0, ((PA.out.via D2).far (by omega) _ _).c1⟩)
    (first
     | (have _t := D1; go_at_call 36; refine (K1.out _).mono ?_; rintro e w2 ⟨rfl, hb2⟩; have D2 : Below W0.heap.size W0 w2 := sbtr D1 hb2; have P7 := PR.out.via D2; have ⟨q0, q1, q2, q3, ql⟩ := P7)
     | (go_at_call 36; refine (K0.out _).mono ?_; rintro e w1 ⟨rfl, hb1⟩; have D1 : Below W0.heap.size W0 w1 := (by first | exact (bdrewN (Below.refl _ _) 1).trans hb1 | exact hb1))
     | fail)
  all_goals
    go_wp2
    exact post_iv1 Tryz.results34 rfl rfl (P7.set _ _) ⟨rfl, below_set2 (sbtr BW.out D2) (by omega) _ _⟩
set_option maxRecDepth 100000 in
set_option maxHeartbeats 1000000 in
theorem rising_rt (w : World) (lo hi l0 h0 l1 h1 : Int) (k0 : ∀ W, Calls Tryz.prog 41 #[.int .i64 lo] W (RV W l0 h0)) (k1 : ∀ W, Calls Tryz.prog 41 #[.int .i64 hi] W (RV W l1 h1)) :
    Calls Tryz.prog 34 #[iv lo hi, .func (.func 41) #[] #[]] w (RV w l0 h1) := by
  have hf0 : ∀ (w : World) (x y : Value), (Instr.field 23 (.agg #[x, y]) 0).run Tryz.prog w = .ok x w := fun _ _ _ => by kernel_rfl
  have hf1 : ∀ (w : World) (x y : Value), (Instr.field 23 (.agg #[x, y]) 1).run Tryz.prog w = .ok y w := fun _ _ _ => by kernel_rfl
  have K0 := Lib.hid k0
  have K1 := Lib.hid k1
  clear k0 k1
  have PA := Lib.hid ((Pr.new w w.heap.size rfl (.int .i64 lo) (.int .i64 hi) 23).alloc (ivB 0 0))
  have PR := Lib.hid (Pr.new (w.alloc (ivB lo hi)) (w.heap.size + 1) (by simp) (.int .i64 0) (.int .i64 0) 23)
  have BW : Hid (Below w.heap.size w ((w.alloc (ivB lo hi)).alloc (ivB 0 0))) := sbal (sbal (Below.refl _ _) _) _
  go_enter Tryz.func34, Tryz.ntmps34
  go_wp2_with fail
  generalize (w.alloc (ivB lo hi)).alloc (ivB 0 0) = W0 at *
  have HKS : Hid (∀ X : World, Below W0.heap.size W0 X → X.cell? ⟨w.heap.size, 0, none⟩ = some (.int .i64 lo) ∧ X.cell? ⟨w.heap.size, 1, none⟩ = some (.int .i64 hi)) := fun X h => ⟨(PA.out.via h).c0, (PA.out.via h).c1⟩
  go_region_held3 (fun X => X.cell? ⟨w.heap.size, 0, none⟩ = some (.int .i64 lo) ∧ X.cell? ⟨w.heap.size, 1, none⟩ = some (.int .i64 hi))
    (first | exact HKS.out _ (Below.refl _ _) | exact HKS.out _ (Below.refl _ _).drew | exact HKS.out _ D2 | exact HKS.out _ D1 | exact ⟨((PA.out.via D2).far (by omega) _ _).c0, ((PA.out.via D2).far (by omega) _ _).c1⟩)
    (first
     | (have _t := D1; go_at_call 41; refine (K1.out _).mono ?_; rintro e w2 ⟨rfl, hb2⟩; have D2 : Below W0.heap.size W0 w2 := sbtr D1 hb2; have P7 := PR.out.via D2; have ⟨q0, q1, q2, q3, ql⟩ := P7)
     | (go_at_call 41; refine (K0.out _).mono ?_; rintro e w1 ⟨rfl, hb1⟩; have D1 : Below W0.heap.size W0 w1 := (by first | exact (bdrewN (Below.refl _ _) 1).trans hb1 | exact hb1))
     | fail)
  all_goals
    go_wp2
    exact post_iv1 Tryz.results34 rfl rfl (P7.set _ _) ⟨rfl, below_set2 (sbtr BW.out D2) (by omega) _ _⟩
def sqA (al ah : Int) : Int := max al (max (-ah) 0)
def sqB (al ah : Int) : Int := max (-al) ah
def sqO (al ah : Int) : Out := mkI (sqA al ah * sqA al ah / 1099511627776) (cdiv (sqB al ah * sqB al ah) 1099511627776)
theorem sqAB {al ah : Int} (h : IvIn al ah) : 0 ≤ sqA al ah ∧ sqA al ah ≤ sqB al ah ∧ sqB al ah ≤ 2305843009213693952 := by
  obtain ⟨x1, x2, x3⟩ := h
  unfold sqA sqB
  omega
theorem sq_mono {a b : Int} (h0 : 0 ≤ a) (h : a ≤ b) : a * a ≤ b * b := Int.mul_le_mul h h h0 (by omega)
set_option maxRecDepth 100000 in
set_option maxHeartbeats 1000000 in
theorem sqf_ex (al ah : Int) (h : IvIn al ah) : ∃ lo hi, (lo ≤ hi ∨ lo < -2305843009213693952 ∨ 2305843009213693952 < hi) ∧ mkI lo hi = sqO al ah ∧ ∀ w, Calls Tryz.prog 33 #[iv al ah] w (RV w lo hi) := by
  obtain ⟨a0, ab, b1⟩ := sqAB h
  obtain ⟨l0, h0, u0, q0, r0, k0⟩ := square_ex (sqA al ah) (by omega) (by omega)
  obtain ⟨l1, h1, u1, q1, r1, k1⟩ := square_ex (sqB al ah) (by omega) (by omega)
  have hle : sqA al ah * sqA al ah / 1099511627776 ≤ cdiv (sqB al ah * sqB al ah) 1099511627776 := Int.le_trans (fdiv_mono (by omega) (sq_mono a0 ab)) (fdiv_le_cdiv (by omega))
  refine ⟨l0, h1, cl_le_or q0 r1 hle, mkI_cl2 q0 r1 hle, fun w => ?_⟩
  have HA := Lib.hid (fun W => absolute_any W al ah h)
  have HR := Lib.hid (fun W => rising_sq W (sqA al ah) (sqB al ah) l0 h0 l1 h1 k0 k1)
  unfold sqA sqB at HR
  have PR := Lib.hid (Pr.new (w.alloc (ivB al ah)) (w.heap.size + 1) (by simp) (.int .i64 0) (.int .i64 0) 23)
  have BW : Hid (Below w.heap.size w ((w.alloc (ivB al ah)).alloc (ivB 0 0))) := sbal (sbal (Below.refl _ _) _) _
  clear a0 ab b1 u0 q0 r0 k0 u1 q1 r1 k1 hle h
  go_enter Tryz.func33, Tryz.ntmps33
  go_wp2_with fail
  generalize (w.alloc (ivB al ah)).alloc (ivB 0 0) = W0 at *
  refine (HA.out _).mono ?_
  rintro e w1 ⟨rfl, hb⟩
  have P1 := Lib.hid (PR.out.via hb)
  have B1 := Lib.hid (sbtr BW.out hb)
  clear hb PR HA BW
  go_wp2_with fail
  refine (HR.out _).mono ?_
  rintro e w2 ⟨rfl, hb⟩
  have P2 := Lib.hid (P1.out.via hb)
  have B2 := Lib.hid (sbtr B1.out hb)
  clear hb P1 B1 HR
  have ⟨r0, r1, r2, r3, rl⟩ := P2.out
  go_wp2
  exact post_iv1 Tryz.results33 rfl rfl (P2.out.set _ _) ⟨rfl, below_set2 B2.out (by omega) _ _⟩
set_option maxRecDepth 100000 in
theorem ssq_any (w : World) (al ah : Int) : Calls Tryz.prog 14 #[iv al ah] w (RO w (j1 al ah (sqO al ah))) := by
  have hcf : ∀ (u : Value) (W : World), (callFunc 33 #[u]).run Tryz.prog W = .ok (.enter 33 #[u]) W := fun u W => by go_simp
  have hJ : ∀ W, Calls Tryz.prog 32 #[iv al ah, .func (.func 33) #[] #[]] W (RO W (j1 al ah (sqO al ah))) := fun W => by
    rcases ivC_cases al ah with ⟨h, _⟩ | ⟨h, _⟩
    · obtain ⟨lo, hi, h1, h2, h3⟩ := sqf_ex al ah (ivC_le h)
      rw [← h2]
      exact change2_any W 33 al ah lo hi hcf fun _ => ⟨h1, h3⟩
    · rw [j1_bad h, ← j1_bad (o := mkI 0 0) h]
      exact change2_any W 33 al ah 0 0 hcf fun ha => by rw [h] at ha; cases ha
  have J := Lib.hid hJ
  clear hJ hcf
  generalize j1 al ah (sqO al ah) = o at *
  have PR := Lib.hid (Pr.new (w.alloc (ivB al ah)) (w.heap.size + 1) (by simp) (.int .i64 0) (.int .i64 0) 23)
  have BW : Hid (Below w.heap.size w ((w.alloc (ivB al ah)).alloc (ivB 0 0))) := sbal (sbal (Below.refl _ _) _) _
  go_enter Tryz.func14, Tryz.ntmps14
  go_wp2_with fail
  generalize (w.alloc (ivB al ah)).alloc (ivB 0 0) = W0 at *
  refine (J.out _).mono ?_
  rintro e w1 ⟨rfl, hb⟩
  have P3 := Lib.hid (PR.out.via hb)
  have B1 := Lib.hid (sbtr BW.out hb)
  clear hb PR BW J
  have ⟨r0, r1, f0, f1, rl⟩ := P3.out
  go_wp2
  exact post_iv Tryz.results14 rfl rfl (P3.out.set _ _) ⟨rfl, below_set2 B1.out (by omega) _ _⟩
end Go.Proofs.YtglgfjknhplajaaGreatDoor

/- Intervals: Sq of the reference. -/
namespace Go.Proofs.YtglgfjknhplajaaGreatDoor
open Go.RowKit

theorem mul_self {A B : Int} (h0 : 0 ≤ A) (h : A ≤ B) : mulLo A B A B = A * A / 1099511627776 ∧ mulHi A B A B = cdiv (B * B) 1099511627776 := by
  have h1 : A * A ≤ A * B := Int.mul_le_mul_of_nonneg_left h h0
  have h2 : A * B ≤ B * B := Int.mul_le_mul_of_nonneg_right h (by omega)
  have h3 : B * A = A * B := Int.mul_comm _ _
  constructor
  · unfold mulLo mn4; congr 1; omega
  · unfold mulHi mx4; congr 1; omega
end Go.Proofs.YtglgfjknhplajaaGreatDoor

/- Intervals: Scale of package span. -/
namespace Go.Proofs.YtglgfjknhplajaaGreatDoor
open Go.RowKit

def sN (x num den : Int) : Int := if den < 0 then -(x * num) else x * num
def scO (al ah num den : Int) : Out :=
  if den = 0 then ⟨0, 0, 18⟩ else mkI (min (sN al num den / (den.natAbs : Int)) (sN ah num den / (den.natAbs : Int))) (max (cdiv (sN al num den) (den.natAbs : Int)) (cdiv (sN ah num den) (den.natAbs : Int)))
theorem sgn_sN (x num den : Int) : sgn (sgB x num != decide (den < 0)) (x.natAbs * num.natAbs) = sN x num den := by
  have h := sgn_mul x num
  unfold sN
  rcases neg_cases den with hy | ⟨hy, hy'⟩
  · rw [if_pos hy, decide_eq_true hy, show (sgB x num != true) = !sgB x num by cases sgB x num <;> rfl, sgn_not, h]
  · rw [if_neg (by omega), hy, show (sgB x num != false) = sgB x num by cases sgB x num <;> rfl, h]
theorem mo_ex (x num den : Int) (hx1 : -9223372036854775808 ≤ x) (hx2 : x ≤ 9223372036854775807) (hn1 : -9223372036854775808 ≤ num) (hn2 : num ≤ 9223372036854775807) (hd0 : den ≠ 0) (hd1 : -9223372036854775808 ≤ den) (hd2 : den ≤ 9223372036854775807) :
    ∃ v lo hi, lo ≤ hi ∧ cl lo = cl (sN x num den / (den.natAbs : Int)) ∧ cl hi = cl (cdiv (sN x num den) (den.natAbs : Int)) ∧
      (∀ w, Calls Tryz.prog 60 #[.int .i64 x, .int .i64 num] w fun e w' => e = .returned v ∧ Below w.heap.size w w') ∧
      ∀ w, Calls Tryz.prog 61 #[v, .int .i64 den] w (RV w lo hi) := by
  obtain ⟨lo, hi, h1, h2, h3, h4⟩ := over_ex (sgB x num) (x.natAbs * num.natAbs) den hd0 hd1 hd2
  rw [sgn_sN] at h2 h3
  exact ⟨_, lo, hi, h1, h2, h3, fun w => smul_any w x num hx1 hx2 hn1 hn2, h4⟩
end Go.Proofs.YtglgfjknhplajaaGreatDoor

/- Intervals: length of a product; turned of the reference. -/
namespace Go.Proofs.YtglgfjknhplajaaGreatDoor
open Go.RowKit

def plen (H L : Nat) : Nat := if H = 0 then Lib.bitLen L else 64 + Lib.bitLen H
theorem plen_lt {H L : Nat} (hH : H < 18446744073709551616) (hL : L < 18446744073709551616) : H * 18446744073709551616 + L < 2 ^ plen H L := by
  unfold plen
  by_cases h : H = 0
  · rw [if_pos h, h, Nat.zero_mul, Nat.zero_add]
    rcases Nat.eq_zero_or_pos L with h0 | h0
    · rw [h0]; exact Nat.pow_pos (by omega)
    · exact (bitLen_bd h0 hL).2.2.2
  · rw [if_neg h, Nat.pow_add]
    have h1 := (bitLen_bd (show 0 < H by omega) hH).2.2.2
    have h2 := Nat.mul_le_mul_right 18446744073709551616 (show H + 1 ≤ 2 ^ Lib.bitLen H from h1)
    have e : (2 : Nat) ^ 64 = 18446744073709551616 := rfl
    rw [e, Nat.mul_comm]
    omega
theorem plen_le {H L : Nat} (hH : H < 18446744073709551616) (hL : L < 18446744073709551616) : plen H L ≤ 128 := by
  unfold plen
  have h1 := Lib.bitLen_le L 64 (by omega) hL
  have h2 := Lib.bitLen_le H 64 (by omega) hH
  split <;> omega
set_option maxRecDepth 100000 in
theorem slength_any (w : World) (neg : Bool) (H L : Nat) (hH : H < 18446744073709551616) (hL : L < 18446744073709551616) :
    Calls Tryz.prog 90 #[.agg #[.bool neg, .int .u64 (H : Int), .int .u64 (L : Int)]] w (RN1 w ((plen H L : Nat) : Int)) := by
  have S1 := Lib.hid (fun W => slen64_any L W hL)
  have S2 := Lib.hid (fun W => slen64_any H W hH)
  have b2 := Lib.bitLen_le H 64 (by omega) hH
  rcases Nat.eq_zero_or_pos H with h | h
  · subst h
    have HP : Hid (plen 0 L = Lib.bitLen L) := by show _ = _; unfold plen; rw [if_pos rfl]
    clear S2 hH b2
    go_enter Tryz.func90, Tryz.ntmps90
    go_wp2_with fail
    refine (S1.out _).mono ?_
    rintro e w1 ⟨rfl, rfl⟩
    clear S1 hL
    go_wp2
    go_ret
    exact ⟨ret_int (by rw [HP.out]), by go_grown⟩
  · have HP : Hid (plen H L = 64 + Lib.bitLen H) := by show _ = _; unfold plen; rw [if_neg (by omega)]
    have he : ((H : Int) == 0) = false := by simp; omega
    have he2 : (H == 0) = false := by simp; omega
    have b3 : (Lib.bitLen H : Int) ≤ 64 := by omega
    clear S1 hL b2 h
    go_enter Tryz.func90, Tryz.ntmps90
    go_wp2_with fail
    refine (S2.out _).mono ?_
    rintro e w1 ⟨rfl, rfl⟩
    clear S2 hH
    go_wp2
    go_ret
    exact ⟨ret_int (by rw [HP.out]; omega), by go_grown⟩
end Go.Proofs.YtglgfjknhplajaaGreatDoor

/- Newton's steps from above, in numbers. -/
namespace Go.Proofs.YtglgfjknhplajaaGreatDoor
theorem newt_next {v x : Nat} (hx : 0 < x) : v < ((v / x + x) / 2 + 1) * ((v / x + x) / 2 + 1) := by
  obtain ⟨q, hq⟩ : ∃ q, v / x = q := ⟨_, rfl⟩
  obtain ⟨h, hh⟩ : ∃ h, (q + x) / 2 = h := ⟨_, rfl⟩
  rw [hq, hh]
  have h1 : v < x * (q + 1) := by rw [← hq]; exact Nat.lt_mul_div_succ v hx
  have h2 : x + (q + 1) ≤ 2 * (h + 1) := by omega
  have h3 := Nat.mul_le_mul h2 h2
  have h4 := @sq_le x (q + 1)
  have e1 : 2 * (h + 1) * (2 * (h + 1)) = 4 * ((h + 1) * (h + 1)) := by grind
  have e2 : (x + (q + 1)) * (x + (q + 1)) = x * x + (q + 1) * (q + 1) + 2 * x * (q + 1) := by grind
  have e3 : 2 * x * (q + 1) = 2 * (x * (q + 1)) := by grind
  omega
theorem newt_end {v x : Nat} (h : v < (x + 1) * (x + 1)) (hh : x ≤ (v / x + x) / 2) : IsRt v x := by
  refine ⟨?_, h⟩
  have h1 : x ≤ v / x := by omega
  exact Nat.le_trans (Nat.mul_le_mul_right x h1) (Nat.div_mul_le_self v x)
theorem newt_pos {v x : Nat} (hv : 0 < v) (hx : 0 < x) : 0 < (v / x + x) / 2 := by
  rcases Nat.lt_or_ge 1 x with h | h
  · generalize v / x = q
    omega
  · obtain rfl : x = 1 := by omega
    rw [Nat.div_one]
    omega
theorem newt_start {v n : Nat} (h : v < 2 ^ n) : v < (2 ^ ((n + 1) / 2) + 1) * (2 ^ ((n + 1) / 2) + 1) := by
  have h1 : 2 ^ n ≤ 2 ^ ((n + 1) / 2) * 2 ^ ((n + 1) / 2) := by
    rw [← Nat.pow_add]
    exact Nat.pow_le_pow_right (by omega) (by omega)
  have h2 : 2 ^ ((n + 1) / 2) * 2 ^ ((n + 1) / 2) ≤ (2 ^ ((n + 1) / 2) + 1) * (2 ^ ((n + 1) / 2) + 1) := Nat.mul_le_mul (by omega) (by omega)
  omega
end Go.Proofs.YtglgfjknhplajaaGreatDoor

/- Intervals: the square root of a product, by Newton's rule. -/
namespace Go.Proofs.YtglgfjknhplajaaGreatDoor
open Go.RowKit

theorem isRt_ex : ∀ N : Nat, ∃ r, IsRt N r
  | 0 => ⟨0, by unfold IsRt; omega⟩
  | N + 1 => by
    obtain ⟨r, h1, h2⟩ := isRt_ex N
    by_cases h : (r + 1) * (r + 1) ≤ N + 1
    · refine ⟨r + 1, h, ?_⟩
      have : (r + 1 + 1) * (r + 1 + 1) = (r + 1) * (r + 1) + 2 * (r + 1) + 1 := by grind
      omega
    · exact ⟨r, by omega, by omega⟩
theorem rt_high {H L r : Nat} (h0 : 0 < r) (hr : r ≤ 2251799813685248) (h : H * 18446744073709551616 + L < (r + 1) * (r + 1)) : H < r := by
  have h1 : (r + 1) * (r + 1) ≤ (2 * r) * (2 * r) := Nat.mul_le_mul (by omega) (by omega)
  have h2 : (2 * r) * (2 * r) = 4 * (r * r) := by grind
  have h3 : r * r ≤ r * 2251799813685248 := Nat.mul_le_mul_left r hr
  omega
theorem rt_quo {N r : Nat} (h0 : 0 < r) (h : N < (r + 1) * (r + 1)) : N / r ≤ r + 2 := by
  refine Nat.le_of_lt_succ ((Nat.div_lt_iff_lt_mul h0).2 ?_)
  have h1 : (r + 2).succ * r = r * r + 3 * r := by grind
  have h2 : (r + 1) * (r + 1) = r * r + 2 * r + 1 := by grind
  omega
set_option maxRecDepth 100000 in
set_option maxHeartbeats 2000000 in
theorem proot_any (w : World) (H L R : Nat) (hN : 0 < H * 18446744073709551616 + L) (hb : plen H L ≤ 102) (hH : H < 18446744073709551616) (hL : L < 18446744073709551616) (hR : IsRt (H * 18446744073709551616 + L) R) :
    Calls Tryz.prog 63 #[.agg #[.bool false, .int .u64 (H : Int), .int .u64 (L : Int)]] w (RN1 w (R : Int)) := by
  have HL := Lib.hid (fun W => slength_any W false H L hH hL)
  have hst := newt_start (plen_lt hH hL)
  have hDV : ∀ (r : Nat) (h0 : 0 < r) (hr : r ≤ 2251799813685248) (h : H * 18446744073709551616 + L < (r + 1) * (r + 1)) (W : World), Calls Tryz.prog 89 #[.int .u64 (H : Int), .int .u64 (L : Int), .int .u64 (r : Int)] W fun e w' => e = .returned (.tuple #[.int .u64 (((H * 18446744073709551616 + L) / r : Nat) : Int), .int .u64 (((H * 18446744073709551616 + L) % r : Nat) : Int)]) ∧ ∃ d, w' = W.drewN d :=
    fun r h0 hr h W => div64_any W H L r (rt_high h0 hr h) (by omega) hL
  obtain ⟨N, hNN⟩ : ∃ N, N = H * 18446744073709551616 + L := ⟨_, rfl⟩
  rw [← hNN] at hst hDV hR hN
  have hsp : H = 0 ∧ ¬ L = 0 ∨ ¬ H = 0 := by omega
  have HDV := Lib.hid hDV
  have HRT := Lib.hid hR
  have PN := hN
  obtain ⟨k, hk⟩ : ∃ k, k = (plen H L + 1) / 2 := ⟨_, rfl⟩
  have hk51 : k ≤ 51 := by omega
  rw [← hk] at hst
  have hp0 : 0 < 2 ^ k := Nat.pow_pos (by omega)
  have hp1 : 2 ^ k ≤ 2 ^ 51 := Nat.pow_le_pow_right (by omega) hk51
  have hki : ((plen H L : Int) + 1) / 2 = (k : Int) := by omega
  have hkt : ((plen H L : Int) + 1).tdiv 2 = (k : Int) := by rw [Int.tdiv_eq_ediv_of_nonneg (by omega)]; exact hki
  obtain ⟨r0, hr0⟩ : ∃ r0 : Nat, r0 = 2 ^ k := ⟨_, rfl⟩
  have hpw : IntKind.u64.wrap ((2 : Int) ^ k) = (r0 : Int) := by
    have e : ((2 : Int) ^ k) = ((2 ^ k : Nat) : Int) := by rw [Int.natCast_pow]; rfl
    rw [e, wrap_nat, Nat.mod_eq_of_lt (by omega), ← hr0]
  rw [← hr0] at hst hp0 hp1
  have hp2 : r0 ≤ 2251799813685248 := hp1
  have HST := Lib.hid hst
  have P3 := Lib.hid (C3.new w w.heap.size rfl (.bool false) (.int .u64 (H : Int)) (.int .u64 (L : Int)) 80)
  have BW : Hid (Below w.heap.size w (w.alloc (.cells #[.bool false, .int .u64 (H : Int), .int .u64 (L : Int)] 80))) := sbal (Below.refl _ _) _
  clear hDV hR hst hH hL hk hr0 hp1 hNN
  generalize plen H L = pl at *
  rcases hsp with ⟨rfl, hz⟩ | hz
  · clear hN
    go_enter Tryz.func63, Tryz.ntmps63
    go_wp2_with fail
    generalize w.alloc _ = W0 at *
    refine (HL.out _).mono ?_
    rintro e w1 ⟨rfl, hb1⟩
    have P1 := Lib.hid (P3.out.via hb1)
    have B1 := Lib.hid (sbtr BW.out hb1)
    clear hb1 P3 BW HL
    go_wp2_with fail
    go_loopw [3] (fun s wr => ∃ r : Nat, s = .int .u64 (r : Int) ∧ 0 < r ∧ r ≤ 2251799813685248 ∧ N < (r + 1) * (r + 1) ∧ C3 wr w.heap.size (.bool false) (.int .u64 0) (.int .u64 (L : Int)) ∧ Below w.heap.size w wr) (fun s _ => (intOf s).toNat)
    case atStart => exact ⟨r0, rfl, hp0, hp2, HST.out, P1.out, B1.out⟩
    case round =>
      obtain ⟨r, rfl, q0, q1, q2, cp, bx⟩ := hrel
      have HD := Lib.hid (HDV.out r q0 q1 q2)
      have hq := rt_quo q0 q2
      have QN := Lib.hid q2
      have P2 := Lib.hid cp
      have B2 := Lib.hid bx
      clear cp bx q2 P1 B1 HST hp0 hp2 HDV
      obtain ⟨q, hqq⟩ : ∃ q, q = N / r := ⟨_, rfl⟩
      rw [← hqq] at HD hq
      have HQ := Lib.hid hqq
      clear hqq
      have ⟨c0, c1, c2, _, _, _, _⟩ := P2.out
      go_wp2_with fail
      clear c0 c1 c2
      refine (HD.out _).mono ?_
      rintro e w2 ⟨rfl, d, rfl⟩
      have P4 := Lib.hid (P2.out.drewN d)
      have B4 := Lib.hid (bdrewN B2.out d)
      clear P2 B2 HD
      by_cases hlt : (r + q) / 2 < r
      · have hld : decide ((r : Int) ≤ ((r : Int) + (q : Int)) / 2) = false := decide_eq_false (by omega)
        have hnd : decide (r ≤ (r + q) / 2) = false := decide_eq_false (by omega)
        go_wp2
        go_roundw
        case rel => exact ⟨(r + q) / 2, by go_num, by rw [HQ.out, Nat.add_comm r]; exact newt_pos (by have := PN; omega) q0, by omega, by rw [HQ.out, Nat.add_comm r]; exact newt_next q0, P4.out, B4.out⟩
        case measure => simp [intOf]; omega
      · have hrr : r = R := IsRt.uniq (newt_end QN.out (by rw [← HQ.out, Nat.add_comm q]; omega)) HRT.out
        have HRR := Lib.hid hrr
        have hli : (r : Int) ≤ ((r : Int) + (q : Int)) / 2 := by omega
        have hni : r ≤ (r + q) / 2 := by omega
        clear hrr hlt
        go_wp2
        go_ret
        exact ⟨ret_int (by rw [HRR.out]), B4.out⟩
  · clear hN
    go_enter Tryz.func63, Tryz.ntmps63
    go_wp2_with fail
    generalize w.alloc _ = W0 at *
    refine (HL.out _).mono ?_
    rintro e w1 ⟨rfl, hb1⟩
    have P1 := Lib.hid (P3.out.via hb1)
    have B1 := Lib.hid (sbtr BW.out hb1)
    clear hb1 P3 BW HL
    go_wp2_with fail
    go_loopw [3] (fun s wr => ∃ r : Nat, s = .int .u64 (r : Int) ∧ 0 < r ∧ r ≤ 2251799813685248 ∧ N < (r + 1) * (r + 1) ∧ C3 wr w.heap.size (.bool false) (.int .u64 (H : Int)) (.int .u64 (L : Int)) ∧ Below w.heap.size w wr) (fun s _ => (intOf s).toNat)
    case atStart => exact ⟨r0, rfl, hp0, hp2, HST.out, P1.out, B1.out⟩
    case round =>
      obtain ⟨r, rfl, q0, q1, q2, cp, bx⟩ := hrel
      have HD := Lib.hid (HDV.out r q0 q1 q2)
      have hq := rt_quo q0 q2
      have QN := Lib.hid q2
      have P2 := Lib.hid cp
      have B2 := Lib.hid bx
      clear cp bx q2 P1 B1 HST hp0 hp2 HDV
      obtain ⟨q, hqq⟩ : ∃ q, q = N / r := ⟨_, rfl⟩
      rw [← hqq] at HD hq
      have HQ := Lib.hid hqq
      clear hqq
      have ⟨c0, c1, c2, _, _, _, _⟩ := P2.out
      go_wp2_with fail
      clear c0 c1 c2
      refine (HD.out _).mono ?_
      rintro e w2 ⟨rfl, d, rfl⟩
      have P4 := Lib.hid (P2.out.drewN d)
      have B4 := Lib.hid (bdrewN B2.out d)
      clear P2 B2 HD
      by_cases hlt : (r + q) / 2 < r
      · have hld : decide ((r : Int) ≤ ((r : Int) + (q : Int)) / 2) = false := decide_eq_false (by omega)
        have hnd : decide (r ≤ (r + q) / 2) = false := decide_eq_false (by omega)
        go_wp2
        go_roundw
        case rel => exact ⟨(r + q) / 2, by go_num, by rw [HQ.out, Nat.add_comm r]; exact newt_pos (by have := PN; omega) q0, by omega, by rw [HQ.out, Nat.add_comm r]; exact newt_next q0, P4.out, B4.out⟩
        case measure => simp [intOf]; omega
      · have hrr : r = R := IsRt.uniq (newt_end QN.out (by rw [← HQ.out, Nat.add_comm q]; omega)) HRT.out
        have HRR := Lib.hid hrr
        have hli : (r : Int) ≤ ((r : Int) + (q : Int)) / 2 := by omega
        have hni : r ≤ (r + q) / 2 := by omega
        clear hrr hlt
        go_wp2
        go_ret
        exact ⟨ret_int (by rw [HRR.out]), B4.out⟩
end Go.Proofs.YtglgfjknhplajaaGreatDoor

/- Intervals: squareRoot of package span. -/
namespace Go.Proofs.YtglgfjknhplajaaGreatDoor
open Go.RowKit

set_option maxRecDepth 100000 in
theorem root_zero (w : World) : Calls Tryz.prog 63 #[.agg #[.bool false, .int .u64 ((0 : Nat) : Int), .int .u64 ((0 : Nat) : Int)]] w (RN1 w 0) := by
  go_enter Tryz.func63, Tryz.ntmps63
  go_wp2
  go_ret
  exact ⟨rfl, by go_grown⟩
theorem plen_small {H L : Nat} (h : H * 18446744073709551616 + L ≤ 2535301200456458802993406410752) (hL : L < 18446744073709551616) : plen H L ≤ 102 := by
  unfold plen
  by_cases h0 : H = 0
  · rw [if_pos h0]; have := Lib.bitLen_le L 64 (by omega) hL; omega
  · rw [if_neg h0]
    have h1 : H < 2 ^ 38 := by have e : (2 : Nat) ^ 38 = 274877906944 := rfl; rw [e]; omega
    have := Lib.bitLen_le H 38 (by omega) h1
    omega
/-- root at every product of the square root's range. -/
theorem root_all (w : World) (H L R : Nat) (h : H * 18446744073709551616 + L ≤ 2535301200456458802993406410752) (hL : L < 18446744073709551616) (hR : IsRt (H * 18446744073709551616 + L) R) :
    Calls Tryz.prog 63 #[.agg #[.bool false, .int .u64 (H : Int), .int .u64 (L : Int)]] w (RN1 w (R : Int)) := by
  rcases Nat.eq_zero_or_pos (H * 18446744073709551616 + L) with h0 | h0
  · obtain rfl : H = 0 := by omega
    obtain rfl : L = 0 := by omega
    obtain rfl : R = 0 := IsRt.uniq hR (by unfold IsRt; omega)
    exact root_zero w
  · exact proot_any w H L R h0 (plen_small h hL) (by omega) hL hR
theorem smul_self (r : Nat) (hr : r ≤ 9223372036854775807) (w : World) : Calls Tryz.prog 60 #[.int .i64 (r : Int), .int .i64 (r : Int)] w (RP w false (r * r)) := by
  have h := smul_any w (r : Int) (r : Int) (by omega) (by omega) (by omega) (by omega)
  rw [Int.natAbs_natCast, show sgB (r : Int) (r : Int) = false by unfold sgB; simp] at h
  exact h
end Go.Proofs.YtglgfjknhplajaaGreatDoor

/- Intervals: squareRoot of package span. -/
namespace Go.Proofs.YtglgfjknhplajaaGreatDoor
open Go.RowKit
theorem Pr.farO {w : World} {g h : Nat} {x y : Value} (p : Pr w g x y) (hne : g ≠ h) (i : Nat) (z : Value) : Pr (w.setCell ⟨h, i, none⟩ z) g x y := by
  have h1 := p.c0; have h2 := p.c1; have h3 := p.f0; have h4 := p.f1; have h5 := p.lt
  have hne2 : ¬ h = g := fun e => hne e.symm
  exact ⟨by go_simp, by go_simp, by simpa using h3, by simpa using h4, by simpa [World.size_setCell] using h5⟩
theorem smul_hl (x y : Nat) (hx : x ≤ 9223372036854775807) (hy : y ≤ 9223372036854775807) : ∃ H L, H * 18446744073709551616 + L = x * y ∧ L < 18446744073709551616 ∧ ∀ w, Calls Tryz.prog 60 #[.int .i64 (x : Int), .int .i64 (y : Int)] w fun e w' => e = .returned (.agg #[.bool false, .int .u64 (H : Int), .int .u64 (L : Int)]) ∧ Below w.heap.size w w' := by
  refine ⟨x * y / 18446744073709551616, x * y % 18446744073709551616, Nat.div_add_mod' _ _, Nat.mod_lt _ (by omega), fun w => ?_⟩
  have h := smul_any w (x : Int) (y : Int) (by omega) (by omega) (by omega) (by omega)
  rw [Int.natAbs_natCast, Int.natAbs_natCast, show sgB (x : Int) (y : Int) = false by unfold sgB; rw [decide_eq_false (by omega), decide_eq_false (by omega)]; rfl] at h
  exact h
def rtHi (N R : Nat) : Int := if R * R = N then (R : Int) else (R : Int) + 1
set_option maxRecDepth 100000 in
set_option maxHeartbeats 2000000 in
theorem sroot_any (w : World) (x R : Nat) (hx : x ≤ 2305843009213693952) (hR : IsRt (x * 1099511627776) R) :
    Calls Tryz.prog 41 #[.int .i64 (x : Int)] w (RV w (R : Int) (rtHi (x * 1099511627776) R)) := by
  have hR9 : R ≤ 9223372036854775806 := by
    have h1 := hR.1
    rcases Nat.lt_or_ge R 9223372036854775807 with h | h
    · omega
    · have := Nat.mul_le_mul h h; omega
  obtain ⟨H, L, e1, l1, m1⟩ := smul_hl x 1099511627776 (by omega) (by omega)
  obtain ⟨H2, L2, e2, l2, m2⟩ := smul_hl R R (by omega) (by omega)
  have hrt := fun W => root_all W H L R (by rw [e1]; omega) l1 (by rw [e1]; exact hR)
  have heq : R * R = x * 1099511627776 ↔ H2 = H ∧ L2 = L := by rw [← e1, ← e2]; omega
  have M1 := Lib.hid m1
  have M2 := Lib.hid m2
  have RT := Lib.hid hrt
  have HV : Hid (H2 = H ∧ L2 = L → rtHi (x * 1099511627776) R = (R : Int)) := fun h => by unfold rtHi; rw [if_pos (heq.2 h)]
  have HW : Hid (¬ (H2 = H ∧ L2 = L) → rtHi (x * 1099511627776) R = (R : Int) + 1) := fun h => by unfold rtHi; rw [if_neg (fun e => h (heq.1 e))]
  clear m1 m2 hrt e1 e2 l1 l2 heq hR
  generalize rtHi (x * 1099511627776) R = v at *
  have PR := Lib.hid (Pr.new w w.heap.size rfl (.int .i64 0) (.int .i64 0) 23)
  have BW : Hid (Below w.heap.size w (w.alloc (ivB 0 0))) := sbal (Below.refl _ _) _
  go_enter Tryz.func41, Tryz.ntmps41
  go_wp2_with fail
  generalize w.alloc (ivB 0 0) = W0 at *
  refine (M1.out _).mono ?_
  rintro e w1 ⟨rfl, hb⟩
  have P1 := Lib.hid ((PR.out.via hb).alloc (.cells #[.bool false, .int .u64 (H : Int), .int .u64 (L : Int)] 80))
  have B1 := Lib.hid (sbal (sbtr BW.out hb) (.cells #[.bool false, .int .u64 (H : Int), .int .u64 (L : Int)] 80))
  have X1 := Lib.hid (C3.new w1 _ rfl (.bool false) (.int .u64 (H : Int)) (.int .u64 (L : Int)) 80)
  have hl1 := (PR.out.via hb).lt
  clear hb PR BW M1
  go_wp2_with fail
  generalize w1.alloc (.cells #[.bool false, .int .u64 (H : Int), .int .u64 (L : Int)] 80) = W1 at *
  generalize w1.heap.size = g1 at *
  refine (RT.out _).mono ?_
  rintro e w2 ⟨rfl, hb⟩
  have P2 := Lib.hid ((P1.out.via hb).alloc (ivB R R))
  have B2 := Lib.hid (sbal (sbtr B1.out hb) (ivB R R))
  have X2 := Lib.hid ((X1.out.via hb).alloc (ivB R R))
  have Y2 := Lib.hid (Pr.new w2 _ rfl (.int .i64 (R : Int)) (.int .i64 (R : Int)) 23)
  have hl2 := (X1.out.via hb).lt
  clear hb P1 B1 X1 RT
  go_wp2_with fail
  generalize w2.alloc (ivB R R) = W2 at *
  generalize w2.heap.size = g2 at *
  have hlg : w.heap.size < g2 := by omega
  rcases (show H = H2 ∧ L = L2 ∨ H = H2 ∧ ¬ L2 = L ∨ ¬ H2 = H by omega) with ⟨rfl, rfl⟩ | ⟨rfl, hz⟩ | hz
  · have HKS : Hid (∀ X : World, Below W2.heap.size W2 X → X.cell? ⟨g1, 0, none⟩ = some (.bool false) ∧ X.cell? ⟨g1, 1, none⟩ = some (.int .u64 (H : Int)) ∧ X.cell? ⟨g1, 2, none⟩ = some (.int .u64 (L : Int))) := fun X h => ⟨(X2.out.via h).c0, (X2.out.via h).c1, (X2.out.via h).c2⟩
    go_region_held3 (fun X => X.cell? ⟨g1, 0, none⟩ = some (.bool false) ∧ X.cell? ⟨g1, 1, none⟩ = some (.int .u64 (H : Int)) ∧ X.cell? ⟨g1, 2, none⟩ = some (.int .u64 (L : Int)))
      (first | exact HKS.out _ (Below.refl _ _) | exact HKS.out _ (Below.refl _ _).drew | exact HKS.out _ E0)
      (first | (go_at_call 60; refine (M2.out _).mono ?_; rintro e y0 ⟨rfl, hh0⟩; have E0 : Below W2.heap.size W2 y0 := (by first | exact (bdrewN (Below.refl _ _) 1).trans hh0 | exact hh0)) | fail)
    have P5 := Lib.hid (P2.out.via E0)
    have Y5 := Lib.hid (Y2.out.via E0)
    have B5 := Lib.hid (sbtr B2.out E0)
    clear P2 Y2 X2 B2 HKS E0 M2
    have ⟨r0, r1, r2, r3, rl⟩ := P5.out
    have ⟨t0, t1, t2, t3, tl⟩ := Y5.out
    have hng := Nat.ne_of_lt hlg
    have hng2 := Nat.ne_of_gt hlg
    go_wp2
    exact post_iv1 Tryz.results41 rfl rfl (P5.out.set _ _) ⟨ret_iv rfl (HV.out (by simp)).symm, below_set2 B5.out (by omega) _ _⟩
  · have HW2 := Lib.hid (HW.out (by omega))
    have hz_a : (((L2 : Nat) : Int) == ((L : Nat) : Int)) = false := by simp; omega
    have hz_b : ¬ ((L2 : Int) = (L : Int)) := by omega
    have hz_c : decide ((L2 : Int) = (L : Int)) = false := decide_eq_false (by omega)
    have hz_d : decide (L2 = L) = false := decide_eq_false (by omega)
    have hz_e : (L2 == L) = false := by simp; omega
    have HKS : Hid (∀ X : World, Below W2.heap.size W2 X → X.cell? ⟨g1, 0, none⟩ = some (.bool false) ∧ X.cell? ⟨g1, 1, none⟩ = some (.int .u64 (H : Int)) ∧ X.cell? ⟨g1, 2, none⟩ = some (.int .u64 (L : Int))) := fun X h => ⟨(X2.out.via h).c0, (X2.out.via h).c1, (X2.out.via h).c2⟩
    go_region_held3 (fun X => X.cell? ⟨g1, 0, none⟩ = some (.bool false) ∧ X.cell? ⟨g1, 1, none⟩ = some (.int .u64 (H : Int)) ∧ X.cell? ⟨g1, 2, none⟩ = some (.int .u64 (L : Int)))
      (first | exact HKS.out _ (Below.refl _ _) | exact HKS.out _ (Below.refl _ _).drew | exact HKS.out _ E0)
      (first | (go_at_call 60; refine (M2.out _).mono ?_; rintro e y0 ⟨rfl, hh0⟩; have E0 : Below W2.heap.size W2 y0 := (by first | exact (bdrewN (Below.refl _ _) 1).trans hh0 | exact hh0)) | fail)
    have P5 := Lib.hid (P2.out.via E0)
    have Y5 := Lib.hid (Y2.out.via E0)
    have B5 := Lib.hid (sbtr B2.out E0)
    clear P2 Y2 X2 B2 HKS E0 M2
    have ⟨r0, r1, r2, r3, rl⟩ := P5.out
    have ⟨t0, t1, t2, t3, tl⟩ := Y5.out
    have hng := Nat.ne_of_lt hlg
    have hng2 := Nat.ne_of_gt hlg
    go_wp2
    have hP := (P5.out.farO hng 1 (.int .i64 ((R : Int) + 1))).set (.int .i64 (R : Int)) (.int .i64 ((R : Int) + 1))
    exact post_iv1 Tryz.results41 rfl rfl hP ⟨ret_iv rfl HW2.out.symm, below_set2 (B5.out.setCell (p := ⟨g2, 1, none⟩) (Nat.le_of_lt hlg) _) (by omega) _ _⟩
  · have HW2 := Lib.hid (HW.out (by omega))
    have hz_a : (((H2 : Nat) : Int) == ((H : Nat) : Int)) = false := by simp; omega
    have hz_b : ¬ ((H2 : Int) = (H : Int)) := by omega
    have hz_c : decide ((H2 : Int) = (H : Int)) = false := decide_eq_false (by omega)
    have hz_d : decide (H2 = H) = false := decide_eq_false (by omega)
    have hz_e : (H2 == H) = false := by simp; omega
    have HKS : Hid (∀ X : World, Below W2.heap.size W2 X → X.cell? ⟨g1, 0, none⟩ = some (.bool false) ∧ X.cell? ⟨g1, 1, none⟩ = some (.int .u64 (H : Int)) ∧ X.cell? ⟨g1, 2, none⟩ = some (.int .u64 (L : Int))) := fun X h => ⟨(X2.out.via h).c0, (X2.out.via h).c1, (X2.out.via h).c2⟩
    go_region_held3 (fun X => X.cell? ⟨g1, 0, none⟩ = some (.bool false) ∧ X.cell? ⟨g1, 1, none⟩ = some (.int .u64 (H : Int)) ∧ X.cell? ⟨g1, 2, none⟩ = some (.int .u64 (L : Int)))
      (first | exact HKS.out _ (Below.refl _ _) | exact HKS.out _ (Below.refl _ _).drew | exact HKS.out _ E0)
      (first | (go_at_call 60; refine (M2.out _).mono ?_; rintro e y0 ⟨rfl, hh0⟩; have E0 : Below W2.heap.size W2 y0 := (by first | exact (bdrewN (Below.refl _ _) 1).trans hh0 | exact hh0)) | fail)
    have P5 := Lib.hid (P2.out.via E0)
    have Y5 := Lib.hid (Y2.out.via E0)
    have B5 := Lib.hid (sbtr B2.out E0)
    clear P2 Y2 X2 B2 HKS E0 M2
    have ⟨r0, r1, r2, r3, rl⟩ := P5.out
    have ⟨t0, t1, t2, t3, tl⟩ := Y5.out
    have hng := Nat.ne_of_lt hlg
    have hng2 := Nat.ne_of_gt hlg
    go_wp2
    have hP := (P5.out.farO hng 1 (.int .i64 ((R : Int) + 1))).set (.int .i64 (R : Int)) (.int .i64 ((R : Int) + 1))
    exact post_iv1 Tryz.results41 rfl rfl hP ⟨ret_iv rfl HW2.out.symm, below_set2 (B5.out.setCell (p := ⟨g2, 1, none⟩) (Nat.le_of_lt hlg) _) (by omega) _ _⟩
end Go.Proofs.YtglgfjknhplajaaGreatDoor

/- Intervals: Sqrt of package span. -/
namespace Go.Proofs.YtglgfjknhplajaaGreatDoor
open Go.RowKit

theorem IsRt.mono {N M r s : Nat} (h : N ≤ M) (hr : IsRt N r) (hs : IsRt M s) : r ≤ s := by
  obtain ⟨a1, _⟩ := hr
  obtain ⟨_, b2⟩ := hs
  rcases Nat.lt_or_ge s r with g | g
  · have := Nat.mul_le_mul (show s + 1 ≤ r by omega) (show s + 1 ≤ r by omega); omega
  · exact g
theorem rtHi_le (N R : Nat) : (R : Int) ≤ rtHi N R := by unfold rtHi; split <;> omega
def rtO (al ah : Int) (Rl Rh : Nat) : Out := if al < 0 then ⟨0, 0, 2⟩ else mkI (Rl : Int) (rtHi (ah.toNat * 1099511627776) Rh)
set_option maxRecDepth 100000 in
set_option maxHeartbeats 2000000 in
theorem ssqrt_any (w : World) (al ah : Int) (Rl Rh : Nat) (hl : IsRt (al.toNat * 1099511627776) Rl) (hh : IsRt (ah.toNat * 1099511627776) Rh) :
    Calls Tryz.prog 18 #[iv al ah] w (RO w (j1 al ah (rtO al ah Rl Rh))) := by
  have PA := Lib.hid ((Pr.new w w.heap.size rfl (.int .i64 al) (.int .i64 ah) 23).alloc (ivB 0 0))
  have PR := Lib.hid (Pr.new (w.alloc (ivB al ah)) (w.heap.size + 1) (by simp) (.int .i64 0) (.int .i64 0) 23)
  have BW : Hid (Below w.heap.size w ((w.alloc (ivB al ah)).alloc (ivB 0 0))) := sbal (sbal (Below.refl _ _) _) _
  go_enter Tryz.func18, Tryz.ntmps18
  go_wp2_with fail
  generalize (w.alloc (ivB al ah)).alloc (ivB 0 0) = W0 at *
  refine (scheck_any _ al ah).mono ?_
  rintro e w1 ⟨rfl, hb⟩
  have P1 := Lib.hid (PA.out.via hb)
  have P3 := Lib.hid (PR.out.via hb)
  have B1 := Lib.hid (sbtr BW.out hb)
  clear hb PA PR BW
  rcases ivC_cases al ah with ⟨h, x1, x2, x3⟩ | ⟨h, _⟩
  · rw [h]
    have HO : Hid (j1 al ah (rtO al ah Rl Rh) = rtO al ah Rl Rh) := j1_ok h
    clear h
    by_cases hz : al < 0
    · have HM : Hid (rtO al ah Rl Rh = ⟨0, 0, 2⟩) := by show _ = _; unfold rtO; rw [if_pos hz]
      have ⟨a0, a1, _, _, _⟩ := P1.out
      have ⟨r0, r1, r2, r3, r4⟩ := P3.out
      clear x1 x2 x3 hl hh
      go_wp2
      exact post_iv Tryz.results18 rfl rfl (P3.out.set _ _) ⟨ret_out (HO.out.trans HM.out), below_set2 B1.out (by omega) _ _⟩
    · have hm : (Rl : Int) ≤ rtHi (ah.toNat * 1099511627776) Rh := by
        have h1 := IsRt.mono (Nat.mul_le_mul_right _ (show al.toNat ≤ ah.toNat by omega)) hl hh
        have h2 := rtHi_le (ah.toNat * 1099511627776) Rh
        omega
      have k0 : ∀ W, Calls Tryz.prog 41 #[.int .i64 al] W (RV W (Rl : Int) (rtHi (al.toNat * 1099511627776) Rl)) := fun W => by
        have := sroot_any W al.toNat Rl (by omega) hl
        rwa [Int.toNat_of_nonneg (by omega)] at this
      have k1 : ∀ W, Calls Tryz.prog 41 #[.int .i64 ah] W (RV W (Rh : Int) (rtHi (ah.toNat * 1099511627776) Rh)) := fun W => by
        have := sroot_any W ah.toNat Rh (by omega) hh
        rwa [Int.toNat_of_nonneg (by omega)] at this
      have HM : Hid (mkI (Rl : Int) (rtHi (ah.toNat * 1099511627776) Rh) = rtO al ah Rl Rh) := by show _ = _; unfold rtO; rw [if_neg hz]
      have RI := Lib.hid (fun W => rising_rt W al ah _ _ _ _ k0 k1)
      have HLE := Lib.hid hm
      have hal : decide (al < 0) = false := decide_eq_false hz
      clear k0 k1 hm hl hh x1 x2 x3
      generalize rtHi (ah.toNat * 1099511627776) Rh = v at *
      generalize rtO al ah Rl Rh = o at *
      have ⟨a0, a1, _, _, _⟩ := P1.out
      go_wp2_with fail
      clear a0 a1
      refine (RI.out _).mono ?_
      rintro e w2 ⟨rfl, hb⟩
      have P4 := Lib.hid (P3.out.via hb)
      have B2 := Lib.hid (sbtr B1.out hb)
      clear hb P3 B1 RI P1
      go_wp2_with fail
      refine (smade_any _ _ _ HLE.out).mono ?_
      rintro e w3 ⟨rfl, hb⟩
      have P5 := Lib.hid (P4.out.via hb)
      have B3 := Lib.hid (sbtr B2.out hb)
      clear hb P4 B2
      have ⟨r0, r1, r2, r3, r4⟩ := P5.out
      go_wp2
      exact post_iv Tryz.results18 rfl rfl (P5.out.set _ _) ⟨ret_mk (HM.out.trans HO.out.symm), below_set2 B3.out (by omega) _ _⟩
  · rw [h]
    have HO : Hid (j1 al ah (rtO al ah Rl Rh) = ⟨0, 0, 8⟩) := j1_bad h
    clear h hl hh
    have ⟨r0, r1, r2, r3, r4⟩ := P3.out
    go_wp2
    exact post_iv Tryz.results18 rfl rfl (P3.out.set _ _) ⟨by rw [HO.out]; rfl, below_set2 B1.out (by omega) _ _⟩
end Go.Proofs.YtglgfjknhplajaaGreatDoor

/- What the chapter's examples of intervals need: the fraction 1/3 of the reference, and the results at closed numbers. -/
namespace Go.Proofs.YtglgfjknhplajaaGreatDoor
open Go.RowKit

theorem rred_third (w : World) (A B : Option Addr) (n m ca cb : Nat) (hA : Lm w w.heap.size A n ca (digs 1)) (hB : Lm w w.heap.size B m cb (digs 3)) :
    Calls Tryz.prog 24 #[.agg #[.bool false, .slice A n ca], .agg #[.bool false, .slice B m cb]] w (RFr w 1 3) := by
  have h := rreduced_pos w A B n m ca cb 1 1 3 hA hB (by unfold Sz; decide) (by unfold Sz; decide) (by omega) (na := false) (nb := false) (by decide) (by decide) (by decide)
  have e1 : (1 : Int) / dvr 1 3 = 1 := by decide
  have e2 : (3 : Int) / dvr 1 3 = 3 := by decide
  rwa [e1, e2] at h
theorem rmake_third (w : World) (A B : Option Addr) (n m ca cb : Nat) (hA : Lm w w.heap.size A n ca (digs 1)) (hB : Lm w w.heap.size B m cb (digs 3)) :
    Calls Tryz.prog 80 #[.agg #[.bool false, .slice A n ca], .agg #[.bool false, .slice B m cb]] w (RG w false (digs 1) false (digs 3) 0) :=
  rmake_ok w false false A B n m ca cb (digs 1) (digs 3) hA hB (by decide) (by decide) (by decide) 1 3 (fun W h1 h2 => rred_third W A B n m ca cb h1 h2)
theorem rof_third (w : World) : Calls Tryz.prog 50 #[.int .i64 1, .int .i64 3] w (RG w false (digs 1) false (digs 3) 0) :=
  rof_g w 1 3 (by omega) (by omega) (by omega) (by omega) false false (digs 1) (digs 3) 0 (fun W A B n m ca cb h1 h2 => rmake_third W A B n m ca cb h1 h2)
theorem sz_one : Sz 1 1 := by unfold Sz; decide
theorem sz_three : Sz 1 3 := by unfold Sz; decide
theorem sof_third (w : World) (A B : Option Addr) (n m ca cb : Nat) (hA : Lm w w.heap.size A n ca (digs 1)) (hB : Lm w w.heap.size B m cb (digs 3)) :
    Calls Tryz.prog 20 #[fv false A n ca false B m cb] w (RO w ⟨366503875925, 366503875926, 0⟩) := by
  have h := sof_c1 w false A B n m ca cb 1 3 hA hB (by decide) (sz_one.mono (by omega)) (sz_three.mono (by omega)) (by decide) (by decide) (by decide) (by decide) (by decide)
  exact h
theorem smul_ex (w : World) : Calls Tryz.prog 12 #[iv (-1099511627776) 2199023255552, iv 3298534883328 4398046511104] w (RO w ⟨-4398046511104, 8796093022208, 0⟩) := smulp_any w _ _ _ _
theorem ssq_ex (w : World) : Calls Tryz.prog 14 #[iv (-1099511627776) 2199023255552] w (RO w ⟨0, 4398046511104, 0⟩) := ssq_any w _ _
theorem sdiv_ex (w : World) : Calls Tryz.prog 16 #[iv 1099511627776 1099511627776, iv 0 1099511627776] w (RO w ⟨0, 0, 18⟩) := sdiv_any w _ _ _ _
theorem rt_ex : IsRt ((2199023255552 : Int).toNat * 1099511627776) 1554944255987 := by unfold IsRt; decide
theorem ssqrt_ex (w : World) : Calls Tryz.prog 18 #[iv 2199023255552 2199023255552] w (RO w ⟨1554944255987, 1554944255988, 0⟩) := ssqrt_any w _ _ _ _ rt_ex rt_ex
end Go.Proofs.YtglgfjknhplajaaGreatDoor

/- The chapter's examples of intervals hold. -/
namespace Go.Proofs.YtglgfjknhplajaaGreatDoor
open Go.RowKit

set_option maxRecDepth 100000 in
theorem liv_any (w : World) (x y : Int) : Calls Tryz.prog 23 #[.int .i64 x, .int .i64 y] w (RV w x y) := by
  go_enter Tryz.func23, Tryz.ntmps23
  go_wp2
  exact post_iv1 Tryz.results23 rfl rfl (Pr.new w _ rfl _ _ _) ⟨rfl, sbal (Below.refl _ _) _⟩
set_option maxRecDepth 100000 in
theorem lones_any (w : World) (x y X Y : Int) (hx : X = x * 1099511627776) (hy : Y = y * 1099511627776) (h1 : -2305843009213693952 ≤ X) (h2 : X ≤ 2305843009213693952) (h3 : -2305843009213693952 ≤ Y) (h4 : Y ≤ 2305843009213693952) :
    Calls Tryz.prog 22 #[.int .i64 x, .int .i64 y] w (RV w X Y) := by
  have e1 : IntKind.i64.wrap (x * 1099511627776) = X := by rw [← hx]; exact IntWalk.i64_in _ (by omega)
  have e2 : IntKind.i64.wrap (y * 1099511627776) = Y := by rw [← hy]; exact IntWalk.i64_in _ (by omega)
  have E : Hid (Ending.returned (iv (x * 1099511627776) (y * 1099511627776)) = .returned (iv X Y)) := by show _ = _; rw [← hx, ← hy]
  have hx1 : -9223372036854775808 ≤ x * 1099511627776 := by omega
  have hx2 : x * 1099511627776 ≤ 9223372036854775807 := by omega
  have hy1 : -9223372036854775808 ≤ y * 1099511627776 := by omega
  have hy2 : y * 1099511627776 ≤ 9223372036854775807 := by omega
  clear hx hy h1 h2 h3 h4
  go_enter Tryz.func22, Tryz.ntmps22
  go_wp2
  first
  | exact post_iv1 Tryz.results22 rfl rfl (Pr.new w _ rfl _ _ _) ⟨rfl, sbal (Below.refl _ _) _⟩
  | exact post_iv1 Tryz.results22 rfl rfl (Pr.new w _ rfl _ _ _) ⟨E.out, sbal (Below.refl _ _) _⟩
set_option maxRecDepth 100000 in
set_option maxHeartbeats 1000000 in
theorem lpart_third (w : World) : Calls Tryz.prog 21 #[.int .i64 1, .int .i64 3] w fun e w' => ∃ A n c B m c', e = .returned (fv false A n c false B m c') ∧ Lm w' w'.heap.size A n c (digs 1) ∧ Lm w' w'.heap.size B m c' (digs 3) ∧ Below w.heap.size w w' := by
  have QR := Lib.hid (Qd.new w w.heap.size rfl (.bool false) (.slice none 0 0) (.bool false) (.slice none 0 0) 31)
  have BW : Hid (Below w.heap.size w (w.alloc (.cells #[.bool false, .slice none 0 0, .bool false, .slice none 0 0] 31))) := sbal (Below.refl _ _) _
  go_enter Tryz.func21, Tryz.ntmps21
  go_wp2_with fail
  generalize w.alloc _ = W0 at *
  refine (rof_third _).mono ?_
  rintro e w1 ⟨A, n, c, B, m, c', rfl, hA, hB, hb⟩
  have L1 := Lib.hid (hA.box (.cells #[.bool false, .slice A n c, .bool false, .slice B m c'] 31))
  have L2 := Lib.hid (hB.box (.cells #[.bool false, .slice A n c, .bool false, .slice B m c'] 31))
  have Q1 := Lib.hid ((QR.out.via hb).alloc (.cells #[.bool false, .slice A n c, .bool false, .slice B m c'] 31))
  have B1 := Lib.hid (sbal (sbtr BW.out hb) (.cells #[.bool false, .slice A n c, .bool false, .slice B m c'] 31))
  have X1 := Lib.hid (Qd.new w1 _ rfl (.bool false) (.slice A n c) (.bool false) (.slice B m c') 31)
  clear hb hA hB QR BW
  go_upto_region 2 with (fail)
  generalize w1.alloc (.cells #[.bool false, .slice A n c, .bool false, .slice B m c'] 31) = W1 at *
  generalize w1.heap.size = g1 at *
  have ⟨x0, x1, x2, x3, _, _, _, _, xl⟩ := X1.out
  have ⟨q0, q1, q2, q3, q4, q5, q6, q7, ql⟩ := Q1.out
  go_wp2
  exact post_f1 Tryz.results21 rfl rfl (Q1.out.set (.bool false) (.slice A n c) (.bool false) (.slice B m c')) ⟨A, n, c, B, m, c', rfl, L1.out.put4 Q1.out _ _ _ _, L2.out.put4 Q1.out _ _ _ _, below_put4 B1.out (by omega) _ _ _ _⟩
set_option maxRecDepth 100000 in
set_option maxHeartbeats 8000000 in
theorem lalive_any (w : World) : Calls Tryz.prog 4 #[] w (RB1 w true) := by
  have BX : Hid (Below w.heap.size w w) := Below.refl _ _
  go_enter Tryz.func4, Tryz.ntmps4
  go_wp2_with fail
  refine (lpart_third _).mono ?_
  rintro e w1 ⟨A, n, c, B, m, c', rfl, hL1, hL2, hb⟩
  replace BX := Lib.hid (sbtr BX.out hb)
  have L1 := Lib.hid hL1
  have L2 := Lib.hid hL2
  clear hb hL1 hL2
  go_wp2_with fail
  refine (sof_third _ A B n m c c' L1.out L2.out).mono ?_
  rintro e w2 ⟨rfl, hb⟩
  replace L1 := Lib.hid (L1.out.via hb)
  replace L2 := Lib.hid (L2.out.via hb)
  replace BX := Lib.hid (sbtr BX.out hb)
  clear hb
  clear L1 L2
  go_upto_region 2 with (fail)
  have XA := Lib.hid (Pr.new w2 _ rfl (.int .i64 (366503875925)) (.int .i64 (366503875926)) 23)
  replace BX := Lib.hid (sbal BX.out (ivB (366503875925) (366503875926)))
  generalize w2.heap.size = gXA at *
  generalize w2.alloc (ivB (366503875925) (366503875926)) = V2 at *
  go_wp2_with fail
  refine (lones_any _ (-1) 2 (-1099511627776) 2199023255552 (by decide) (by decide) (by decide) (by decide) (by decide) (by decide)).mono ?_
  rintro e w3 ⟨rfl, hb⟩
  replace XA := Lib.hid (XA.out.via hb)
  replace BX := Lib.hid (sbtr BX.out hb)
  clear hb
  go_wp2_with fail
  refine (lones_any _ (3) 4 (3298534883328) 4398046511104 (by decide) (by decide) (by decide) (by decide) (by decide) (by decide)).mono ?_
  rintro e w4 ⟨rfl, hb⟩
  replace XA := Lib.hid (XA.out.via hb)
  replace BX := Lib.hid (sbtr BX.out hb)
  clear hb
  go_wp2_with fail
  refine (smul_ex _).mono ?_
  rintro e w5 ⟨rfl, hb⟩
  replace XA := Lib.hid (XA.out.via hb)
  replace BX := Lib.hid (sbtr BX.out hb)
  clear hb
  go_upto_region 3 with (fail)
  replace XA := Lib.hid (XA.out.alloc (ivB (-4398046511104) (8796093022208)))
  have XB := Lib.hid (Pr.new w5 _ rfl (.int .i64 (-4398046511104)) (.int .i64 (8796093022208)) 23)
  replace BX := Lib.hid (sbal BX.out (ivB (-4398046511104) (8796093022208)))
  generalize w5.heap.size = gXB at *
  generalize w5.alloc (ivB (-4398046511104) (8796093022208)) = V5 at *
  go_wp2_with fail
  refine (lones_any _ (-1) 2 (-1099511627776) 2199023255552 (by decide) (by decide) (by decide) (by decide) (by decide) (by decide)).mono ?_
  rintro e w6 ⟨rfl, hb⟩
  replace XA := Lib.hid (XA.out.via hb)
  replace XB := Lib.hid (XB.out.via hb)
  replace BX := Lib.hid (sbtr BX.out hb)
  clear hb
  go_wp2_with fail
  refine (ssq_ex _).mono ?_
  rintro e w7 ⟨rfl, hb⟩
  replace XA := Lib.hid (XA.out.via hb)
  replace XB := Lib.hid (XB.out.via hb)
  replace BX := Lib.hid (sbtr BX.out hb)
  clear hb
  go_upto_region 4 with (fail)
  replace XA := Lib.hid (XA.out.alloc (ivB (0) (4398046511104)))
  replace XB := Lib.hid (XB.out.alloc (ivB (0) (4398046511104)))
  have XC := Lib.hid (Pr.new w7 _ rfl (.int .i64 (0)) (.int .i64 (4398046511104)) 23)
  replace BX := Lib.hid (sbal BX.out (ivB (0) (4398046511104)))
  generalize w7.heap.size = gXC at *
  generalize w7.alloc (ivB (0) (4398046511104)) = V7 at *
  go_wp2_with fail
  refine (lones_any _ (1) 1 (1099511627776) 1099511627776 (by decide) (by decide) (by decide) (by decide) (by decide) (by decide)).mono ?_
  rintro e w8 ⟨rfl, hb⟩
  replace XA := Lib.hid (XA.out.via hb)
  replace XB := Lib.hid (XB.out.via hb)
  replace XC := Lib.hid (XC.out.via hb)
  replace BX := Lib.hid (sbtr BX.out hb)
  clear hb
  go_wp2_with fail
  refine (lones_any _ (0) 1 (0) 1099511627776 (by decide) (by decide) (by decide) (by decide) (by decide) (by decide)).mono ?_
  rintro e w9 ⟨rfl, hb⟩
  replace XA := Lib.hid (XA.out.via hb)
  replace XB := Lib.hid (XB.out.via hb)
  replace XC := Lib.hid (XC.out.via hb)
  replace BX := Lib.hid (sbtr BX.out hb)
  clear hb
  go_wp2_with fail
  refine (sdiv_ex _).mono ?_
  rintro e w10 ⟨rfl, hb⟩
  replace XA := Lib.hid (XA.out.via hb)
  replace XB := Lib.hid (XB.out.via hb)
  replace XC := Lib.hid (XC.out.via hb)
  replace BX := Lib.hid (sbtr BX.out hb)
  clear hb
  go_upto_region 5 with (fail)
  replace XA := Lib.hid (XA.out.alloc (ivB (0) (0)))
  replace XB := Lib.hid (XB.out.alloc (ivB (0) (0)))
  replace XC := Lib.hid (XC.out.alloc (ivB (0) (0)))
  have XZ := Lib.hid (Pr.new w10 _ rfl (.int .i64 (0)) (.int .i64 (0)) 23)
  replace BX := Lib.hid (sbal BX.out (ivB (0) (0)))
  generalize w10.heap.size = gXZ at *
  generalize w10.alloc (ivB (0) (0)) = V10 at *
  go_wp2_with fail
  refine (lones_any _ (2) 2 (2199023255552) 2199023255552 (by decide) (by decide) (by decide) (by decide) (by decide) (by decide)).mono ?_
  rintro e w11 ⟨rfl, hb⟩
  replace XA := Lib.hid (XA.out.via hb)
  replace XB := Lib.hid (XB.out.via hb)
  replace XC := Lib.hid (XC.out.via hb)
  replace XZ := Lib.hid (XZ.out.via hb)
  replace BX := Lib.hid (sbtr BX.out hb)
  clear hb
  go_wp2_with fail
  refine (ssqrt_ex _).mono ?_
  rintro e w12 ⟨rfl, hb⟩
  replace XA := Lib.hid (XA.out.via hb)
  replace XB := Lib.hid (XB.out.via hb)
  replace XC := Lib.hid (XC.out.via hb)
  replace XZ := Lib.hid (XZ.out.via hb)
  replace BX := Lib.hid (sbtr BX.out hb)
  clear hb
  go_upto_region 6 with (fail)
  replace XA := Lib.hid (XA.out.alloc (ivB (1554944255987) (1554944255988)))
  replace XB := Lib.hid (XB.out.alloc (ivB (1554944255987) (1554944255988)))
  replace XC := Lib.hid (XC.out.alloc (ivB (1554944255987) (1554944255988)))
  replace XZ := Lib.hid (XZ.out.alloc (ivB (1554944255987) (1554944255988)))
  have XD := Lib.hid (Pr.new w12 _ rfl (.int .i64 (1554944255987)) (.int .i64 (1554944255988)) 23)
  replace BX := Lib.hid (sbal BX.out (ivB (1554944255987) (1554944255988)))
  generalize w12.heap.size = gXD at *
  generalize w12.alloc (ivB (1554944255987) (1554944255988)) = V12 at *
  have HKS : Hid (∀ X : World, Below V12.heap.size V12 X → X.cell? ⟨gXA, 0, none⟩ = some (.int .i64 (366503875925)) ∧ X.cell? ⟨gXA, 1, none⟩ = some (.int .i64 (366503875926)) ∧ X.cell? ⟨gXB, 0, none⟩ = some (.int .i64 (-4398046511104)) ∧ X.cell? ⟨gXB, 1, none⟩ = some (.int .i64 (8796093022208)) ∧ X.cell? ⟨gXC, 0, none⟩ = some (.int .i64 (0)) ∧ X.cell? ⟨gXC, 1, none⟩ = some (.int .i64 (4398046511104)) ∧ X.cell? ⟨gXD, 0, none⟩ = some (.int .i64 (1554944255987)) ∧ X.cell? ⟨gXD, 1, none⟩ = some (.int .i64 (1554944255988))) := fun X h => ⟨(XA.out.via h).c0, (XA.out.via h).c1, (XB.out.via h).c0, (XB.out.via h).c1, (XC.out.via h).c0, (XC.out.via h).c1, (XD.out.via h).c0, (XD.out.via h).c1⟩
  go_region_held3 (fun X => X.cell? ⟨gXA, 0, none⟩ = some (.int .i64 (366503875925)) ∧ X.cell? ⟨gXA, 1, none⟩ = some (.int .i64 (366503875926)) ∧ X.cell? ⟨gXB, 0, none⟩ = some (.int .i64 (-4398046511104)) ∧ X.cell? ⟨gXB, 1, none⟩ = some (.int .i64 (8796093022208)) ∧ X.cell? ⟨gXC, 0, none⟩ = some (.int .i64 (0)) ∧ X.cell? ⟨gXC, 1, none⟩ = some (.int .i64 (4398046511104)) ∧ X.cell? ⟨gXD, 0, none⟩ = some (.int .i64 (1554944255987)) ∧ X.cell? ⟨gXD, 1, none⟩ = some (.int .i64 (1554944255988)))
    (first | exact HKS.out _ (Below.refl _ _) | exact HKS.out _ (Below.refl _ _).drew | exact HKS.out _ E3 | exact HKS.out _ E2 | exact HKS.out _ E1 | exact HKS.out _ E0)
    (first
     | (have _t := E2; go_at_call 23; refine (liv_any _ _ _).mono ?_; rintro e y3 ⟨rfl, hh3⟩; have E3 : Below V12.heap.size V12 y3 := sbtr E2 hh3)
     | (have _t := E1; go_at_call 22; refine (lones_any _ (0) 4 (0) 4398046511104 (by decide) (by decide) (by decide) (by decide) (by decide) (by decide)).mono ?_; rintro e y2 ⟨rfl, hh2⟩; have E2 : Below V12.heap.size V12 y2 := sbtr E1 hh2)
     | (have _t := E0; go_at_call 22; refine (lones_any _ (-4) 8 (-4398046511104) 8796093022208 (by decide) (by decide) (by decide) (by decide) (by decide) (by decide)).mono ?_; rintro e y1 ⟨rfl, hh1⟩; have E1 : Below V12.heap.size V12 y1 := sbtr E0 hh1)
     | (go_at_call 23; refine (liv_any _ _ _).mono ?_; rintro e y0 ⟨rfl, hh0⟩; have E0 : Below V12.heap.size V12 y0 := (by first | exact (bdrewN (Below.refl _ _) 1).trans hh0 | exact hh0))
     | fail)
  all_goals
    go_wp2
    go_ret
    exact ⟨rfl, sbtr BX.out E3⟩
end Go.Proofs.YtglgfjknhplajaaGreatDoor

/- The reference's Has: an interval has a fraction. -/
namespace Go.Proofs.YtglgfjknhplajaaGreatDoor
open Go.RowKit

theorem sz2_i64 {i : Int} (h1 : -9223372036854775808 ≤ i) (h2 : i ≤ 9223372036854775807) : Sz 2 i := by unfold Sz; omega
theorem rred_f (w : World) (A B : Option Addr) (n m ca cb : Nat) (i : Int) (hA : Lm w w.heap.size A n ca (digs i.natAbs)) (hB : Lm w w.heap.size B m cb (digs (1099511627776 : Int).natAbs)) (h1 : -9223372036854775808 ≤ i) (h2 : i ≤ 9223372036854775807) {na nb : Bool} (ha : decide (i < 0) = na) (hb : decide ((1099511627776 : Int) < 0) = nb) :
    Calls Tryz.prog 24 #[.agg #[.bool na, .slice A n ca], .agg #[.bool nb, .slice B m cb]] w (RF1 w 2 i 1099511627776) :=
  (rreduced_pos w A B n m ca cb 2 i 1099511627776 hA hB (sz2_i64 h1 h2) (by unfold Sz; decide) (by omega) ha hb (by decide)).mono fun e w' h => rfr_rf1 (red_fr (sz2_i64 h1 h2) (by unfold Sz; decide) (by omega) (by omega)) h
set_option maxRecDepth 100000 in
set_option maxHeartbeats 4000000 in
theorem rhas_f (w : World) (lo hi : Int) (zf : Bool) (A B : Option Addr) (n m ca cb k : Nat) (p q u v : Int) (hz : decide (p < 0) = zf) (hA : Lm w w.heap.size A n ca (digs p.natAbs)) (hB : Lm w w.heap.size B m cb (digs q.natAbs)) (f : FrV k p q u v) (hk2 : 2 ≤ k) (hk : k ≤ 300) (l1 : -9223372036854775808 ≤ lo) (l2 : lo ≤ 9223372036854775807) (l3 : -9223372036854775808 ≤ hi) (l4 : hi ≤ 9223372036854775807) (hv : 0 < v) (H1 : lo * v ≤ u * 1099511627776) (H2 : u * 1099511627776 ≤ hi * v) :
    Calls Tryz.prog 15 #[iv lo hi, fv zf A n ca false B m cb] w (RB1 w true) := by
  have HA := Lib.hid hA
  have HB := Lib.hid hB
  have HF := Lib.hid (And.intro hz f)
  have HI := Lib.hid (And.intro hk2 (And.intro hk hv))
  have HH := Lib.hid (And.intro H1 H2)
  have Hl := Lib.hid (And.intro l1 l2)
  have Hh := Lib.hid (And.intro l3 l4)
  obtain ⟨zl, hzl⟩ : ∃ b, decide (lo < 0) = b := ⟨_, rfl⟩
  obtain ⟨zh, hzh⟩ : ∃ b, decide (hi < 0) = b := ⟨_, rfl⟩
  have HZl := Lib.hid hzl
  have HZh := Lib.hid hzh
  clear hA hB hz f hk2 hk hv H1 H2 l1 l2 l3 l4 hzl hzh
  go_enter Tryz.func15, Tryz.ntmps15
  have QA := Lib.hid ((Pr.new w (w.heap.size) rfl (.int .i64 lo) (.int .i64 hi) 23).alloc (.cells #[.bool zf, .slice A n ca, .bool false, .slice B m cb] 31))
  have QF := Lib.hid (Qd.new (w.alloc (.cells #[.int .i64 lo, .int .i64 hi] 23)) (w.heap.size + 1) (by simp) (.bool zf) (.slice A n ca) (.bool false) (.slice B m cb) 31)
  have LA := Lib.hid ((HA.out.box (.cells #[.int .i64 lo, .int .i64 hi] 23)).box (.cells #[.bool zf, .slice A n ca, .bool false, .slice B m cb] 31))
  have LB := Lib.hid ((HB.out.box (.cells #[.int .i64 lo, .int .i64 hi] 23)).box (.cells #[.bool zf, .slice A n ca, .bool false, .slice B m cb] 31))
  have BW : Hid (Below w.heap.size w ((w.alloc (.cells #[.int .i64 lo, .int .i64 hi] 23)).alloc (.cells #[.bool zf, .slice A n ca, .bool false, .slice B m cb] 31))) := (sbal (sbal (Below.refl _ _) _) _)
  clear HA HB
  go_wp2_with fail
  generalize (w.alloc (.cells #[.int .i64 lo, .int .i64 hi] 23)).alloc (.cells #[.bool zf, .slice A n ca, .bool false, .slice B m cb] 31) = W0 at *
  have HKS : Hid (∀ X : World, Below W0.heap.size W0 X → X.cell? ⟨w.heap.size, 0, none⟩ = some (.int .i64 lo) ∧ X.cell? ⟨w.heap.size, 1, none⟩ = some (.int .i64 hi) ∧ X.cell? ⟨w.heap.size + 1, 0, none⟩ = some (.bool zf) ∧ X.cell? ⟨w.heap.size + 1, 1, none⟩ = some (.slice A n ca) ∧ X.cell? ⟨w.heap.size + 1, 2, none⟩ = some (.bool false) ∧ X.cell? ⟨w.heap.size + 1, 3, none⟩ = some (.slice B m cb)) := fun X h => ⟨(QA.out.via h).c0, (QA.out.via h).c1, (QF.out.via h).c0, (QF.out.via h).c1, (QF.out.via h).c2, (QF.out.via h).c3⟩
  go_cut [5] (fun s wx => ∃ c : Int, s = .int .i64 c ∧ c ≤ 0 ∧ Below W0.heap.size W0 wx)
  case first =>
    go_region_held3 (fun X => X.cell? ⟨w.heap.size, 0, none⟩ = some (.int .i64 lo) ∧ X.cell? ⟨w.heap.size, 1, none⟩ = some (.int .i64 hi) ∧ X.cell? ⟨w.heap.size + 1, 0, none⟩ = some (.bool zf) ∧ X.cell? ⟨w.heap.size + 1, 1, none⟩ = some (.slice A n ca) ∧ X.cell? ⟨w.heap.size + 1, 2, none⟩ = some (.bool false) ∧ X.cell? ⟨w.heap.size + 1, 3, none⟩ = some (.slice B m cb))
      (first | exact HKS.out _ (Below.refl _ _) | exact HKS.out _ (Below.refl _ _).drew | exact HKS.out _ E3 | exact HKS.out _ E2 | exact HKS.out _ E1 | exact HKS.out _ E0)
      (first
       | (have _t := E2; go_at_call 19; refine (rcmp_f _ z1 zf A1 B1 A B n1 m1 n m c1 d1 ca cb k p1 q1 p q lo 1099511627776 u v hz1 HF.out.1 hP1 hQ1 (LA.out.via E2) (LB.out.via E2) (hf1.mono HI.out.1) HF.out.2 HI.out.2.1 (by decide) HI.out.2.2).mono ?_; rintro e u3 ⟨c3, rfl, hc3, _, hh3⟩; have E3 : Below W0.heap.size W0 u3 := sbtr E2 hh3)
       | (have _t := E1; go_at_call 24; refine (rred_f _ A0 D0 n0 m0 c0 d0 lo (hL0.via hh1) hL1 Hl.out.1 Hl.out.2 HZl.out (by decide)).mono ?_; rintro e u2 ⟨p1, q1, z1, A1, n1, c1, B1, m1, d1, hz1, hf1, rfl, hP1, hQ1, hh2⟩; have E2 : Below W0.heap.size W0 u2 := sbtr E1 hh2)
       | (have _t := E0; go_at_call 25; refine (rfrom_any _ 1099511627776 (by decide) (by decide)).mono ?_; rintro e u1 ⟨D0, m0, d0, rfl, hL1, hh1⟩; have E1 : Below W0.heap.size W0 u1 := sbtr E0 hh1)
       | (go_at_call 25; refine (rfrom_any _ lo Hl.out.1 Hl.out.2).mono ?_; rintro e u0 ⟨A0, n0, c0, rfl, hL0, hh0⟩; rw [HZl.out]; have E0 : Below W0.heap.size W0 u0 := (by first | exact (bdrewN (Below.refl _ _) 1).trans hh0 | exact hh0))
       | fail)
    all_goals
      go_wp2_with fail
      go_meet
      exact ⟨_, rfl, hc3.2 HH.out.1, E3⟩
  case rest =>
    obtain ⟨cl, rfl, hcl, hb⟩ := hcut
    clear HKS
    replace QA := Lib.hid (QA.out.via hb)
    replace QF := Lib.hid (QF.out.via hb)
    replace LA := Lib.hid (LA.out.via hb)
    replace LB := Lib.hid (LB.out.via hb)
    replace BW := Lib.hid (sbtr BW.out hb)
    clear hb
    have HC := Lib.hid hcl
    clear hcl
    go_wp2_with fail
    generalize wc = W1 at *
    have HKS : Hid (∀ X : World, Below W1.heap.size W1 X → X.cell? ⟨w.heap.size, 0, none⟩ = some (.int .i64 lo) ∧ X.cell? ⟨w.heap.size, 1, none⟩ = some (.int .i64 hi) ∧ X.cell? ⟨w.heap.size + 1, 0, none⟩ = some (.bool zf) ∧ X.cell? ⟨w.heap.size + 1, 1, none⟩ = some (.slice A n ca) ∧ X.cell? ⟨w.heap.size + 1, 2, none⟩ = some (.bool false) ∧ X.cell? ⟨w.heap.size + 1, 3, none⟩ = some (.slice B m cb)) := fun X h => ⟨(QA.out.via h).c0, (QA.out.via h).c1, (QF.out.via h).c0, (QF.out.via h).c1, (QF.out.via h).c2, (QF.out.via h).c3⟩
    go_cut [7] (fun s wx => ∃ c : Int, s = .int .i64 c ∧ c ≤ 0 ∧ Below W1.heap.size W1 wx)
    case first =>
      go_region_held3 (fun X => X.cell? ⟨w.heap.size, 0, none⟩ = some (.int .i64 lo) ∧ X.cell? ⟨w.heap.size, 1, none⟩ = some (.int .i64 hi) ∧ X.cell? ⟨w.heap.size + 1, 0, none⟩ = some (.bool zf) ∧ X.cell? ⟨w.heap.size + 1, 1, none⟩ = some (.slice A n ca) ∧ X.cell? ⟨w.heap.size + 1, 2, none⟩ = some (.bool false) ∧ X.cell? ⟨w.heap.size + 1, 3, none⟩ = some (.slice B m cb))
        (first | exact HKS.out _ (Below.refl _ _) | exact HKS.out _ (Below.refl _ _).drew | exact HKS.out _ E3 | exact HKS.out _ E2 | exact HKS.out _ E1 | exact HKS.out _ E0)
        (first
         | (have _t := E2; go_at_call 19; refine (rcmp_f _ zf z1 A B A1 B1 n m n1 m1 ca cb c1 d1 k p q p1 q1 u v hi 1099511627776 HF.out.1 hz1 (LA.out.via E2) (LB.out.via E2) hP1 hQ1 HF.out.2 (hf1.mono HI.out.1) HI.out.2.1 HI.out.2.2 (by decide)).mono ?_; rintro e u3 ⟨c3, rfl, hc3, _, hh3⟩; have E3 : Below W1.heap.size W1 u3 := sbtr E2 hh3)
         | (have _t := E1; go_at_call 24; refine (rred_f _ A0 D0 n0 m0 c0 d0 hi (hL0.via hh1) hL1 Hh.out.1 Hh.out.2 HZh.out (by decide)).mono ?_; rintro e u2 ⟨p1, q1, z1, A1, n1, c1, B1, m1, d1, hz1, hf1, rfl, hP1, hQ1, hh2⟩; have E2 : Below W1.heap.size W1 u2 := sbtr E1 hh2)
         | (have _t := E0; go_at_call 25; refine (rfrom_any _ 1099511627776 (by decide) (by decide)).mono ?_; rintro e u1 ⟨D0, m0, d0, rfl, hL1, hh1⟩; have E1 : Below W1.heap.size W1 u1 := sbtr E0 hh1)
         | (go_at_call 25; refine (rfrom_any _ hi Hh.out.1 Hh.out.2).mono ?_; rintro e u0 ⟨A0, n0, c0, rfl, hL0, hh0⟩; rw [HZh.out]; have E0 : Below W1.heap.size W1 u0 := (by first | exact (bdrewN (Below.refl _ _) 1).trans hh0 | exact hh0))
         | fail)
      all_goals
        go_wp2_with fail
        go_meet
        exact ⟨_, rfl, hc3.2 HH.out.2, E3⟩
    case rest =>
      obtain ⟨ch, rfl, hch, hb⟩ := hcut
      have hcl := HC.out
      go_wp2
      go_ret
      exact ⟨rfl, sbtr BW.out hb⟩
end Go.Proofs.YtglgfjknhplajaaGreatDoor

