/- Lemmas, part 6. -/
import Derived.Laws.BitsLemmas
import Derived.Deep.RegionLaw
import Derived.Laws.OwnMore
import Derived.Deep.RegionHeld3
import Derived.Deep.DeepCutAuto
import Derived.BigRegion
import Derived.RegionTactic
import Derived.LoopTactic
import Derived.Shelf.Strconv.Itoa0
import Derived.Shelf.Bits.Mul64
import Derived.Lib.ItoaNum
import Derived.Deep.QuietTactic
import Derived.BigQuiet
import Derived.Deep.CutBlock
import Derived.Test.YtegnaknoaflppaaGreatDoornames5
/- wide.Shift. -/
namespace Go.Proofs.YtegnaknoaflppaaGreatDoor
open Go.RowKit

set_option maxRecDepth 100000 in
set_option maxHeartbeats 400000 in
theorem shift_bad (w : World) (neg : Bool) (A : Option Addr) (n c : Nat) (xs : List Nat) (k : Int) (h : Lm w w.heap.size A n c xs) (hc : chk neg xs = 8) :
    Calls Tryz.prog 67 #[.agg #[.bool neg, .slice A n c], .int .i64 k] w (RW w false [] 8) := by
  have HH := Lib.hid h
  have HC := Lib.hid hc
  clear hc
  go_enter Tryz.func67, Tryz.ntmps67
  go_wp2_with (go_at_call 58; refine (check_bad _ _ _ _ _ _ ((HH.out.box _).box _) HC.out).mono ?_; rintro e w1 ⟨rfl, hb1⟩; have ⟨hx0, hx1, hy0, hy1, hf0, hf1, hsz⟩ := box2 hb1)
  exact post_ws Tryz.results67 rfl rfl hy0 hy1 ⟨none, 0, 0, rfl, Lm.nil _ _, below_set2 (bbox (bbox hb1)) (by omega) _ _⟩
set_option maxRecDepth 100000 in
set_option maxHeartbeats 400000 in
theorem shift_arg (w : World) (neg : Bool) (A : Option Addr) (n c : Nat) (xs : List Nat) (k : Int) (h : Lm w w.heap.size A n c xs) (hc : chk neg xs = 0) (hk : k < -131072 ∨ 131072 < k) :
    Calls Tryz.prog 67 #[.agg #[.bool neg, .slice A n c], .int .i64 k] w (RW w false [] 2) := by
  have HH := Lib.hid h
  have HC := Lib.hid hc
  clear hc
  by_cases h1 : k < -131072
  · clear hk
    go_enter Tryz.func67, Tryz.ntmps67
    go_wp2_with (go_at_call 58; refine (check_ok _ _ _ _ _ _ ((HH.out.box _).box _) HC.out).mono ?_; rintro e w1 ⟨rfl, hb1⟩; have ⟨hx0, hx1, hy0, hy1, hf0, hf1, hsz⟩ := box2 hb1)
    exact post_ws Tryz.results67 rfl rfl hy0 hy1 ⟨none, 0, 0, rfl, Lm.nil _ _, below_set2 (bbox (bbox hb1)) (by omega) _ _⟩
  · have h2 : 131072 < k := by omega
    clear hk
    go_enter Tryz.func67, Tryz.ntmps67
    go_wp2_with (go_at_call 58; refine (check_ok _ _ _ _ _ _ ((HH.out.box _).box _) HC.out).mono ?_; rintro e w1 ⟨rfl, hb1⟩; have ⟨hx0, hx1, hy0, hy1, hf0, hf1, hsz⟩ := box2 hb1)
    exact post_ws Tryz.results67 rfl rfl hy0 hy1 ⟨none, 0, 0, rfl, Lm.nil _ _, below_set2 (bbox (bbox hb1)) (by omega) _ _⟩

set_option maxRecDepth 100000 in
set_option maxHeartbeats 1000000 in
theorem shift_up (w : World) (neg : Bool) (A : Option Addr) (n c v k : Nat) (h : Lm w w.heap.size A n c (digs v)) (hc : chk neg (digs v) = 0) (hk : k ≤ 131072) :
    Calls Tryz.prog 67 #[.agg #[.bool neg, .slice A n c], .int .i64 (k : Int)] w (RW w (mkN neg (v * 2 ^ k)) (mkL (v * 2 ^ k)) (mkE (v * 2 ^ k))) := by
  have hl := (chk_ok.1 hc).1
  rw [h.len] at hl
  have HH := Lib.hid h
  have HC := Lib.hid hc
  have HV := Lib.hid (digs_val v)
  clear hc
  go_enter Tryz.func67, Tryz.ntmps67
  go_wp2_with (go_at_call 58; refine (check_ok _ _ _ _ _ _ ((HH.out.box _).box _) HC.out).mono ?_; rintro e w1 ⟨rfl, hb1⟩; have ⟨hx0, hx1, hy0, hy1, hf0, hf1, hsz⟩ := box2 hb1)
  have HL := Lib.hid (((HH.out.box _).box _).via hb1)
  go_region_held3 (fun w' => w'.cell? ⟨w.heap.size, 0, none⟩ = some (.bool neg) ∧ w'.cell? ⟨w.heap.size, 1, none⟩ = some (.slice A n c))
    (first | exact ⟨hx0, hx1⟩ | exact hk2 | exact hk3 | go_keep)
    (first
     | (go_at_call 81; refine (left_any _ _ _ _ k (digs v) (v * 2 ^ k) (by first | exact HL.out | exact HL.out.drew) (by omega) (by omega) (by rw [HV.out])).mono ?_; rintro e w2 ⟨A2, c2, rfl, hL2, hb2⟩; have hg2 : w.heap.size + 1 < w2.heap.size := Nat.lt_of_lt_of_le hsz hb2.size; have hk2 := keep2 hb2 (Nat.lt_of_succ_lt hsz) ⟨hx0, hx1⟩; have hky2 := keep2 hb2 hsz ⟨hy0, hy1⟩; have hkf2 := keepF hb2 hsz ⟨hf0, hf1⟩)
     | (go_at_call 65; refine (made_any _ _ _ _ _ (v * 2 ^ k) hL2).mono ?_; rintro e w3 ⟨A3, n3, c3, rfl, hL3, hb3⟩; have hk3 := keep2 hb3 (Nat.lt_of_succ_lt hg2) hk2; have hky3 := keep2 hb3 hg2 hky2; have hkf3 := keepF hb3 hg2 hkf2))
  go_wp2
  exact post_ws Tryz.results67 rfl rfl hky3.1 hky3.2 ⟨A3, n3, c3, rfl, hL3.set2 hky3.1 hky3.2 _ _,
    below_set2 (((bbox (bbox hb1)).drew.trans (hb2.mono (show w.heap.size ≤ w1.heap.size from by omega))).trans (hb3.mono (by omega))) (by omega) _ _⟩
theorem boxes2 {w w1 : World} {t0 t1 : TypeId} {a0 a1 b0 b1 : Value} (hb : Below ((w.alloc (.cells #[a0, a1] t0)).alloc (.cells #[b0, b1] t1)).heap.size ((w.alloc (.cells #[a0, a1] t0)).alloc (.cells #[b0, b1] t1)) w1) :
    Pr w1 w.heap.size a0 a1 ∧ Pr w1 (w.heap.size + 1) b0 b1 :=
  ⟨((Pr.new w _ rfl a0 a1 t0).alloc _).via hb, (Pr.new _ _ (by simp) b0 b1 t1).via hb⟩

set_option maxRecDepth 100000 in
set_option maxHeartbeats 1000000 in
theorem shift_down_pos (w : World) (A : Option Addr) (n c v j : Nat) (z : Int) (h : Lm w w.heap.size A n c (digs v)) (hc : chk false (digs v) = 0) (hz : z = -(j : Int)) (hj0 : 0 < j) (hj : j ≤ 131072) :
    Calls Tryz.prog 67 #[.agg #[.bool false, .slice A n c], .int .i64 z] w (RW w (mkN false (v / 2 ^ j)) (mkL (v / 2 ^ j)) (mkE (v / 2 ^ j))) := by
  have hl := (chk_ok.1 hc).1
  rw [h.len] at hl
  have HH := Lib.hid h
  have HC := Lib.hid hc
  have HV := Lib.hid (digs_val v)
  have hcA := h.cap
  have hxA := h.max
  have hz1 : z < 0 := by omega
  have hz2 : -131072 ≤ z := by omega
  have HZ : Hid (-z = (j : Int)) := by show _ = _; omega
  clear hc h hz
  go_enter Tryz.func67, Tryz.ntmps67
  go_wp2_with fail
  refine (check_ok _ _ _ _ _ _ ((HH.out.box _).box _) HC.out).mono ?_
  rintro e w1 ⟨rfl, hb1⟩
  have ⟨P1, P2⟩ : Pr w1 w.heap.size (.bool false) (.slice A n c) ∧ Pr w1 (w.heap.size + 1) (.bool false) (.slice none 0 0) := boxes2 hb1
  have HL1 := Lib.hid (((HH.out.box _).box _).via hb1)
  have HB1 := Lib.hid (bbox (bbox hb1))
  clear hb1
  have ⟨a0, a1, _, _, _⟩ := P1
  go_wp2_with fail
  rw [HZ.out]
  refine (right_any w1 A n c j v (v / 2 ^ j) HL1.out (by omega) (by omega) rfl).mono ?_
  rintro e w2 ⟨A2, c2, rfl, hL2, hb2⟩
  have P1' := P1.via hb2
  have P2' := P2.via hb2
  have HB2 := Lib.hid (HB1.out.trans (hb2.mono HB1.out.size))
  have HL2 := Lib.hid hL2
  have hc2 := hL2.cap
  have hx2 := hL2.max
  have hl2 : (digs (v / 2 ^ j)).length ≤ 4096 := by
    have := digs_mono (Nat.div_le_self v (2 ^ j))
    rw [HH.out.len] at this
    omega
  clear hL2 hb2 a0 a1 P1 P2 HB1
  have ⟨a0, a1, _, _, _⟩ := P1'
  go_wp2_with fail
  refine (made_any _ _ _ _ _ (v / 2 ^ j) HL2.out).mono ?_
  rintro e w8 ⟨A3, n3, c3, rfl, hL3, hb3⟩
  have P8 := P2'.via hb3
  have HB8 := Lib.hid (HB2.out.trans (hb3.mono HB2.out.size))
  have HL8 := Lib.hid hL3
  clear hL3 hb3
  have ⟨k0, k1, f0, f1, kl⟩ := P8
  go_wp2
  exact post_ws Tryz.results67 rfl rfl k0 k1 ⟨A3, n3, c3, rfl, HL8.out.set2 k0 k1 _ _, below_set2 HB8.out (by omega) _ _⟩

set_option maxRecDepth 100000 in
set_option maxHeartbeats 1000000 in
theorem shift_down_even (w : World) (A : Option Addr) (n c v j : Nat) (z : Int) (h : Lm w w.heap.size A n c (digs v)) (hc : chk true (digs v) = 0) (hz : z = -(j : Int)) (hj0 : 0 < j) (hj : j ≤ 131072) (hT : TabD w) (h0 : v % 2 ^ j = 0) :
    Calls Tryz.prog 67 #[.agg #[.bool true, .slice A n c], .int .i64 z] w (RW w (mkN true (v / 2 ^ j)) (mkL (v / 2 ^ j)) (mkE (v / 2 ^ j))) := by
  have hl := (chk_ok.1 hc).1
  rw [h.len] at hl
  have hv0 : 0 < v := Nat.pos_of_ne_zero fun e => (chk_ok.1 hc).2.2 rfl (digs_nil.2 e)
  have HH := Lib.hid h
  have HC := Lib.hid hc
  have HV := Lib.hid (digs_val v)
  have hcA := h.cap
  have hxA := h.max
  have hz1 : z < 0 := by omega
  have hz2 : -131072 ≤ z := by omega
  have HZ : Hid (-z = (j : Int)) := by show _ = _; omega
  clear hc h hz
  go_enter Tryz.func67, Tryz.ntmps67
  go_wp2_with fail
  refine (check_ok _ _ _ _ _ _ ((HH.out.box _).box _) HC.out).mono ?_
  rintro e w1 ⟨rfl, hb1⟩
  have ⟨P1, P2⟩ : Pr w1 w.heap.size (.bool true) (.slice A n c) ∧ Pr w1 (w.heap.size + 1) (.bool false) (.slice none 0 0) := boxes2 hb1
  have HL1 := Lib.hid (((HH.out.box _).box _).via hb1)
  have HB1 := Lib.hid (bbox (bbox hb1))
  have HT1 := Lib.hid (((hT.box _).box _).via hb1)
  clear hT
  clear hb1
  have ⟨a0, a1, _, _, _⟩ := P1
  go_wp2_with fail
  rw [HZ.out]
  refine (right_any w1 A n c j v (v / 2 ^ j) HL1.out (by omega) (by omega) rfl).mono ?_
  rintro e w2 ⟨A2, c2, rfl, hL2, hb2⟩
  have P1' := P1.via hb2
  have P2' := P2.via hb2
  have HB2 := Lib.hid (HB1.out.trans (hb2.mono HB1.out.size))
  have HL2 := Lib.hid hL2
  have HT2 := Lib.hid (HT1.out.via hb2)
  have HL1b := Lib.hid (HL1.out.via hb2)
  have hc2 := hL2.cap
  have hx2 := hL2.max
  have hl2 : (digs (v / 2 ^ j)).length ≤ 4096 := by
    have := digs_mono (Nat.div_le_self v (2 ^ j))
    rw [HH.out.len] at this
    omega
  clear hL2 hb2 a0 a1 P1 P2 HB1
  have ⟨a0, a1, _, _, _⟩ := P1'
  go_wp2_with fail
  refine (zeros_any w2 A n c (digs v) v (by first | exact HL1b.out) HV.out hv0 (by omega) HT2.out).mono ?_
  rintro e w3 ⟨t, ht, ht9, rfl, rfl⟩
  have htz : -z ≤ (t : Int) := by have e1 := (ht j).1 h0; have e2 := HZ.out; omega
  go_wp2_with fail
  refine (made_any _ _ _ _ _ (v / 2 ^ j) HL2.out).mono ?_
  rintro e w8 ⟨A3, n3, c3, rfl, hL3, hb3⟩
  have P8 := P2'.via hb3
  have HB8 := Lib.hid (HB2.out.trans (hb3.mono HB2.out.size))
  have HL8 := Lib.hid hL3
  clear hL3 hb3
  have ⟨k0, k1, f0, f1, kl⟩ := P8
  go_wp2
  exact post_ws Tryz.results67 rfl rfl k0 k1 ⟨A3, n3, c3, rfl, HL8.out.set2 k0 k1 _ _, below_set2 HB8.out (by omega) _ _⟩

set_option maxRecDepth 100000 in
set_option maxHeartbeats 1000000 in
theorem shift_down_lost (w : World) (A : Option Addr) (n c v j : Nat) (z : Int) (h : Lm w w.heap.size A n c (digs v)) (hc : chk true (digs v) = 0) (hz : z = -(j : Int)) (hj0 : 0 < j) (hj : j ≤ 131072) (hT : TabD w) (h0 : v % 2 ^ j ≠ 0) :
    Calls Tryz.prog 67 #[.agg #[.bool true, .slice A n c], .int .i64 z] w (RW w (mkN true (v / 2 ^ j + 1)) (mkL (v / 2 ^ j + 1)) (mkE (v / 2 ^ j + 1))) := by
  have hl := (chk_ok.1 hc).1
  rw [h.len] at hl
  have hv0 : 0 < v := Nat.pos_of_ne_zero fun e => (chk_ok.1 hc).2.2 rfl (digs_nil.2 e)
  have HH := Lib.hid h
  have HC := Lib.hid hc
  have HV := Lib.hid (digs_val v)
  have hcA := h.cap
  have hxA := h.max
  have hz1 : z < 0 := by omega
  have hz2 : -131072 ≤ z := by omega
  have HZ : Hid (-z = (j : Int)) := by show _ = _; omega
  clear hc h hz
  go_enter Tryz.func67, Tryz.ntmps67
  go_wp2_with fail
  refine (check_ok _ _ _ _ _ _ ((HH.out.box _).box _) HC.out).mono ?_
  rintro e w1 ⟨rfl, hb1⟩
  have ⟨P1, P2⟩ : Pr w1 w.heap.size (.bool true) (.slice A n c) ∧ Pr w1 (w.heap.size + 1) (.bool false) (.slice none 0 0) := boxes2 hb1
  have HL1 := Lib.hid (((HH.out.box _).box _).via hb1)
  have HB1 := Lib.hid (bbox (bbox hb1))
  have HT1 := Lib.hid (((hT.box _).box _).via hb1)
  clear hT
  clear hb1
  have ⟨a0, a1, _, _, _⟩ := P1
  go_wp2_with fail
  rw [HZ.out]
  refine (right_any w1 A n c j v (v / 2 ^ j) HL1.out (by omega) (by omega) rfl).mono ?_
  rintro e w2 ⟨A2, c2, rfl, hL2, hb2⟩
  have P1' := P1.via hb2
  have P2' := P2.via hb2
  have HB2 := Lib.hid (HB1.out.trans (hb2.mono HB1.out.size))
  have HL2 := Lib.hid hL2
  have HT2 := Lib.hid (HT1.out.via hb2)
  have HL1b := Lib.hid (HL1.out.via hb2)
  have hc2 := hL2.cap
  have hx2 := hL2.max
  have hl2 : (digs (v / 2 ^ j)).length ≤ 4096 := by
    have := digs_mono (Nat.div_le_self v (2 ^ j))
    rw [HH.out.len] at this
    omega
  clear hL2 hb2 a0 a1 P1 P2 HB1
  have ⟨a0, a1, _, _, _⟩ := P1'
  go_wp2_with fail
  refine (zeros_any w2 A n c (digs v) v (by first | exact HL1b.out) HV.out hv0 (by omega) HT2.out).mono ?_
  rintro e w3 ⟨t, ht, ht9, rfl, rfl⟩
  have htz : (t : Int) < -z := by have e1 : ¬ j ≤ t := fun e => h0 ((ht j).2 e); have e2 := HZ.out; omega
  go_wp2_with fail
  refine (sum_any _ _ _ _ _ _ _ (digs (v / 2 ^ j)) [1] (v / 2 ^ j + 1) (HL2.out.box _) (Lm.one w2 1 1 rfl (by omega)) (by omega) (by omega) (by rw [digs_val, val_one])).mono ?_
  rintro e w4 ⟨A4, c4, rfl, hL4, hb4⟩
  have P2q := P2'.via (bbox hb4)
  have HB4 := Lib.hid (HB2.out.trans ((bbox hb4).mono HB2.out.size))
  have HL4 := Lib.hid hL4
  have hb4q := Lib.hid hb4
  clear hL4 hb4
  have P1q := P1'.via (bbox hb4q.out)
  clear P2' P1' a0 a1
  have ⟨a0, a1, _, _, _⟩ := P1q
  have P2' := P2q
  go_wp2_with fail
  refine (made_any _ _ _ _ _ (v / 2 ^ j + 1) HL4.out).mono ?_
  rintro e w8 ⟨A3, n3, c3, rfl, hL3, hb3⟩
  have P8 := P2'.via hb3
  have HB8 := Lib.hid (HB4.out.trans (hb3.mono HB4.out.size))
  have HL8 := Lib.hid hL3
  clear hL3 hb3
  have ⟨k0, k1, f0, f1, kl⟩ := P8
  go_wp2
  exact post_ws Tryz.results67 rfl rfl k0 k1 ⟨A3, n3, c3, rfl, HL8.out.set2 k0 k1 _ _, below_set2 HB8.out (by omega) _ _⟩
end Go.Proofs.YtegnaknoaflppaaGreatDoor

/- Square roots by Newton's rule, in numbers. -/
namespace Go.Proofs.YtegnaknoaflppaaGreatDoor
theorem sq_le {a b : Nat} : 2 * a * b ≤ a * a + b * b := by
  rcases Nat.le_total a b with h | h
  · obtain ⟨d, rfl⟩ := Nat.le.dest h
    have : (a + d) * (a + d) = a * a + 2 * a * d + d * d := by grind
    have : 2 * a * (a + d) = 2 * (a * a) + 2 * a * d := by grind
    have := Nat.zero_le (d * d)
    omega
  · obtain ⟨d, rfl⟩ := Nat.le.dest h
    have : (b + d) * (b + d) = b * b + 2 * b * d + d * d := by grind
    have : 2 * (b + d) * b = 2 * (b * b) + 2 * b * d := by grind
    have := Nat.zero_le (d * d)
    omega
theorem le_of_sq {d t : Nat} (h : t * t ≤ d * d) : t ≤ d := by
  rcases Nat.lt_or_ge d t with h1 | h1
  · have := Nat.mul_self_lt_mul_self h1
    omega
  · exact h1
/-- One step of Newton's rule: the next number is less than a unit away. -/
theorem newton_core {N Y T p q : Nat} (hY : 0 < p) (h2 : 2 * p = Y) (hTT : T * T ≤ 2 * Y) (hTY : T ≤ Y) (h3 : (Y - T) * (Y - T) < N) (h4 : N < (Y + T) * (Y + T)) (hq : 2 * Y * q ≤ N) (hq' : N < 2 * Y * (q + 1)) :
    (p + q - 1) * (p + q - 1) < N ∧ N < (p + q + 1) * (p + q + 1) := by
  subst h2
  constructor
  · obtain ⟨u, hu⟩ : ∃ u, p + q = u + 1 := ⟨p + q - 1, by omega⟩
    rw [hu, Nat.add_sub_cancel]
    refine Nat.lt_of_not_le fun hN => ?_
    have e1 : 2 * (2 * p) * (p + q) = 2 * p * (2 * p) + 2 * (2 * p) * q := by grind
    rw [hu] at e1
    have e2 : 2 * (2 * p) * (u + 1) = 2 * (2 * p) * u + 2 * (2 * p) := by grind
    have hm : 2 * (2 * p) * u + 2 * (2 * p) ≤ 2 * p * (2 * p) + N := by omega
    clear e1 e2
    rcases Nat.le_total u (2 * p) with h | h
    · obtain ⟨d, hd⟩ := Nat.le.dest h
      have e3 : d * d + 2 * (2 * p) * u = 2 * p * (2 * p) + u * u := by rw [← hd]; grind
      have hT : T ≤ d := le_of_sq (by omega)
      have h5 : u ≤ 2 * p - T := by omega
      have := Nat.mul_le_mul h5 h5
      omega
    · obtain ⟨d, hd⟩ := Nat.le.dest h
      have e3 : d * d + 2 * (2 * p) * u = 2 * p * (2 * p) + u * u := by rw [← hd]; grind
      have hT : T ≤ d := le_of_sq (by omega)
      have e4 : (2 * p + T) * (2 * p + T) = 2 * p * (2 * p) + 2 * (2 * p) * T + T * T := by grind
      have e5 : 2 * (2 * p) * u = 2 * (2 * p * (2 * p)) + 2 * (2 * p) * d := by rw [← hd]; grind
      have h6 : 2 * (2 * p) * T ≤ 2 * (2 * p) * d := Nat.mul_le_mul_left _ hT
      omega
  · refine Nat.lt_of_not_le fun hN => ?_
    have h5 := @sq_le (2 * p) (p + q + 1)
    have e1 : 2 * (2 * p) * (p + q + 1) = 2 * p * (2 * p) + 2 * (2 * p) * (q + 1) := by grind
    omega
/-- r is the root of v, rounded down. -/
def IsRt (v r : Nat) : Prop := r * r ≤ v ∧ v < (r + 1) * (r + 1)
theorem IsRt.uniq {v r s : Nat} (h : IsRt v r) (k : IsRt v s) : r = s := by
  have h1 : r < s + 1 := Nat.lt_of_not_le fun h' => by have := Nat.mul_le_mul h' h'; have := h.1; have := k.2; omega
  have h2 : s < r + 1 := Nat.lt_of_not_le fun h' => by have := Nat.mul_le_mul h' h'; have := k.1; have := h.2; omega
  omega
/-- a is nearer than a unit to the root of the number v without its lowest 2 * (c - e) digits. -/
def RtInv (v c e a : Nat) : Prop := 2 ^ e ≤ a ∧ (a - 1) * (a - 1) < v / 4 ^ (c - e) ∧ v / 4 ^ (c - e) < (a + 1) * (a + 1)
theorem rt_start {v c : Nat} (h1 : 4 ^ c ≤ v) (h2 : v < 4 ^ (c + 1)) : RtInv v c 0 1 := by
  refine ⟨by simp, ?_, ?_⟩
  · simp only [Nat.sub_self, Nat.mul_zero, Nat.sub_zero]
    exact (Nat.le_div_iff_mul_le (Nat.pow_pos (by omega))).2 (by omega)
  · rw [Nat.sub_zero]
    exact (Nat.div_lt_iff_lt_mul (Nat.pow_pos (by omega))).2 (by rw [Nat.pow_succ] at h2; omega)
theorem rt_end {v c a : Nat} (h : RtInv v c c a) : (a - 1) * (a - 1) < v ∧ v < (a + 1) * (a + 1) := by
  have := h.2
  simpa using this
theorem rt_root {v a : Nat} (h0 : 1 ≤ a) (h : (a - 1) * (a - 1) < v ∧ v < (a + 1) * (a + 1)) : IsRt v (if v < a * a then a - 1 else a) := by
  split
  · exact ⟨by omega, by rw [Nat.sub_add_cancel h0]; assumption⟩
  · exact ⟨by omega, h.2⟩
theorem rt_mid {N a k M q : Nat} (hk : 2 ^ k ≤ a) (hlo : (a - 1) * (a - 1) < M) (hhi : M < (a + 1) * (a + 1)) (hM : N / (2 ^ (k + 1) * 2 ^ (k + 1)) = M) (hq : N / (2 * (2 ^ (k + 1) * a)) = q) :
    (2 ^ k * a + q - 1) * (2 ^ k * a + q - 1) < N ∧ N < (2 ^ k * a + q + 1) * (2 ^ k * a + q + 1) := by
  have ha0 : 0 < a := Nat.lt_of_lt_of_le (Nat.pow_pos (by omega)) hk
  have hTp : 0 < 2 ^ (k + 1) * 2 ^ (k + 1) := Nat.mul_pos (Nat.pow_pos (by omega)) (Nat.pow_pos (by omega))
  have hT2 : 2 ^ (k + 1) = 2 * 2 ^ k := by rw [Nat.pow_succ]; omega
  have n1 := Nat.div_mul_le_self N (2 ^ (k + 1) * 2 ^ (k + 1))
  have n2 := Nat.lt_mul_div_succ N hTp
  have hT0 : 0 < 2 ^ (k + 1) := Nat.pow_pos (by omega)
  have hTT : 2 ^ (k + 1) * 2 ^ (k + 1) ≤ 2 * (2 ^ (k + 1) * a) := by
    have := Nat.mul_le_mul_left (2 ^ (k + 1)) hk
    rw [hT2] at this ⊢
    have e : 2 * 2 ^ k * (2 * 2 ^ k) = 2 * (2 * 2 ^ k * 2 ^ k) := by grind
    omega
  have hpY : 2 * (2 ^ k * a) = 2 ^ (k + 1) * a := by rw [hT2]; grind
  have hP : 0 < 2 ^ k * a := Nat.mul_pos (Nat.pow_pos (by omega)) ha0
  rw [hM] at n1 n2
  clear hM hT2
  generalize hT : 2 ^ (k + 1) = T at *
  clear hT
  have hY : 0 < T * a := Nat.mul_pos hT0 ha0
  have q1 := Nat.mul_div_le N (2 * (T * a))
  have q2 := Nat.lt_mul_div_succ N (show 0 < 2 * (T * a) by omega)
  rw [hq] at q1 q2
  refine @newton_core N (T * a) T (2 ^ k * a) q hP hpY hTT (Nat.le_mul_of_pos_right _ ha0) ?_ ?_ q1 q2
  · have e : (T * a - T) * (T * a - T) = (a - 1) * (a - 1) * (T * T) := by
      rw [show T * a - T = T * (a - 1) from by rw [Nat.mul_sub, Nat.mul_one]]; grind
    rw [e]
    have h5 := Nat.mul_lt_mul_of_pos_right hlo hTp
    omega
  · have e : (T * a + T) * (T * a + T) = (a + 1) * (a + 1) * (T * T) := by grind
    rw [e]
    have h5 := Nat.mul_le_mul_right (T * T) (Nat.succ_le_of_lt hhi)
    rw [Nat.mul_comm (T * T)] at n2
    exact Nat.lt_of_lt_of_le n2 h5
theorem rt_step {v c d e a : Nat} (hc : d ≤ c) (h0 : e < d) (hd : d ≤ 2 * e + 1) (h1 : 4 ^ c ≤ v) (h : RtInv v c e a) :
    RtInv v c d (a * 2 ^ (d - e - 1) + v / 2 ^ (2 * c - e - d + 1) / a) := by
  obtain ⟨ha, hlo, hhi⟩ := h
  obtain ⟨k, rfl⟩ : ∃ k, d = e + k + 1 := ⟨d - e - 1, by omega⟩
  have hk : 2 ^ k ≤ a := Nat.le_trans (Nat.pow_le_pow_right (by omega) (by omega)) ha
  rw [show e + k + 1 - e - 1 = k from by omega]
  have hM : v / 4 ^ (c - (e + k + 1)) / (2 ^ (k + 1) * 2 ^ (k + 1)) = v / 4 ^ (c - e) := by
    rw [Nat.div_div_eq_div_mul]
    congr 1
    rw [show (4 : Nat) = 2 ^ 2 from rfl, ← Nat.pow_mul, ← Nat.pow_mul, ← Nat.pow_add, ← Nat.pow_add]
    congr 1
    omega
  have hq : v / 4 ^ (c - (e + k + 1)) / (2 * (2 ^ (k + 1) * a)) = v / 2 ^ (2 * c - e - (e + k + 1) + 1) / a := by
    rw [Nat.div_div_eq_div_mul, Nat.div_div_eq_div_mul]
    congr 1
    rw [show (4 : Nat) = 2 ^ 2 from rfl, ← Nat.pow_mul, show 2 * (2 ^ (k + 1) * a) = 2 ^ (k + 2) * a from by rw [Nat.pow_succ 2 (k + 1)]; grind, ← Nat.mul_assoc, ← Nat.pow_add]
    congr 2
    omega
  have core := rt_mid hk hlo hhi hM hq
  rw [Nat.mul_comm a]
  refine ⟨?_, core⟩
  have h4 : 4 ^ (e + k + 1) ≤ v / 4 ^ (c - (e + k + 1)) := by
    refine (Nat.le_div_iff_mul_le (Nat.pow_pos (by omega))).2 ?_
    rw [← Nat.pow_add, show e + k + 1 + (c - (e + k + 1)) = c from by omega]
    exact h1
  have h5 : 2 ^ (e + k + 1) * 2 ^ (e + k + 1) < (2 ^ k * a + v / 2 ^ (2 * c - e - (e + k + 1) + 1) / a + 1) * (2 ^ k * a + v / 2 ^ (2 * c - e - (e + k + 1) + 1) / a + 1) := by
    rw [show (4 : Nat) = 2 * 2 from rfl, Nat.mul_pow] at h4
    exact Nat.lt_of_le_of_lt h4 core.2
  refine Nat.le_of_lt_succ (Nat.lt_of_not_le fun h6 => ?_)
  have := Nat.mul_le_mul h6 h6
  exact Nat.lt_irrefl _ (Nat.lt_of_lt_of_le h5 this)
end Go.Proofs.YtegnaknoaflppaaGreatDoor

/-
  The contract of bits.Len where the number is less than 65536.
-/
namespace Go.Proofs.YtegnaknoaflppaaGreatDoor
open Go.RowKit
set_option maxRecDepth 100000 in
set_option maxHeartbeats 400000 in
theorem len64_c (w : World) (x : Int) (h0 : 256 ≤ x) (h1 : x < 65536) :
    Calls Tryz.prog 89 #[.int .u64 x] w fun e w' => e = .returned (.int .i64 (Lib.bitLen x.toNat)) ∧ w = w' := by
  have hT : ∀ w, (Instr.index 9 (.string Lib.len8tab) (.int .u8 (x / 256))).run Tryz.prog w = .ok (.int .u8 (Lib.len8 (x / 256))) w := fun w => Lib.run_index_len8tab w 9 .u8 (x / 256) Tryz.underlying9 (by omega) (by omega)
  have hE : Hid (Lib.len8 (x / 256) = Lib.bitLen (x / 256).toNat) := Lib.len8_of (x / 256) (by omega) (by omega)
  have hL := Lib.hid (Lib.bitLen_le8' (x / 256) (by omega) (by omega))
  have hs := Lib.hid (Lib.bitLen_shift8 x.toNat (by omega) (by omega))
  have he : Hid ((x / 256).toNat = x.toNat / 256) := by show _ = _; omega
  go_enter Tryz.func89, Tryz.ntmps89
  go_wp2
  go_ret
  refine ⟨ret_int ?_, rfl⟩
  rw [hE.out]
  have l := hL.out
  have s := hs.out
  rw [he.out] at l ⊢
  unfold wrap64
  omega
set_option maxRecDepth 100000 in
set_option maxHeartbeats 400000 in
theorem len64_d (w : World) (x : Int) (h0 : 0 ≤ x) (h1 : x < 256) :
    Calls Tryz.prog 89 #[.int .u64 x] w fun e w' => e = .returned (.int .i64 (Lib.bitLen x.toNat)) ∧ w = w' := by
  have hT : ∀ w, (Instr.index 9 (.string Lib.len8tab) (.int .u8 (x))).run Tryz.prog w = .ok (.int .u8 (Lib.len8 (x))) w := fun w => Lib.run_index_len8tab w 9 .u8 (x) Tryz.underlying9 (by omega) (by omega)
  have hE : Hid (Lib.len8 (x) = Lib.bitLen (x).toNat) := Lib.len8_of (x) (by omega) (by omega)
  have hL := Lib.hid (Lib.bitLen_le8' (x) (by omega) (by omega))
  go_enter Tryz.func89, Tryz.ntmps89
  go_wp2
  go_ret
  refine ⟨ret_int ?_, rfl⟩
  rw [hE.out]
  have l := hL.out
  unfold wrap64
  omega
theorem len64_any (w : World) (x : Int) (h0 : 0 ≤ x) (h1 : x < 65536) :
    Calls Tryz.prog 89 #[.int .u64 x] w fun e w' => e = .returned (.int .i64 (Lib.bitLen x.toNat)) ∧ w = w' := by
  by_cases c : 256 ≤ x
  · exact len64_c w x c (by omega)
  exact len64_d w x h0 (by omega)
end Go.Proofs.YtegnaknoaflppaaGreatDoor

/- wide.root: the square root, rounded down. -/
namespace Go.Proofs.YtegnaknoaflppaaGreatDoor
open Go.RowKit

theorem rt_le {v c e x : Nat} (h : RtInv v c e x) : x ≤ v := by
  have h1 := h.2.1
  have h2 : v / 4 ^ (c - e) ≤ v := Nat.div_le_self _ _
  refine Nat.le_of_not_lt fun h3 => ?_
  have h4 := Nat.mul_le_mul (show v ≤ x - 1 by omega) (show v ≤ x - 1 by omega)
  rcases Nat.eq_zero_or_pos v with h5 | h5
  · subst h5; omega
  · have h6 := Nat.mul_le_mul_left v h5
    omega
theorem rt_pos {v c e x : Nat} (h : RtInv v c e x) : 1 ≤ x := Nat.le_trans (Nat.pow_pos (by omega)) h.1
/-- A call returns the root of v. -/
def RR (w : World) (v : Nat) (e : Ending) (w' : World) : Prop := ∃ r A c, IsRt v r ∧ e = .returned (.slice A (digs r).length c) ∧ Lm w' w'.heap.size A (digs r).length c (digs r) ∧ Below w.heap.size w w'

end Go.Proofs.YtegnaknoaflppaaGreatDoor

/- wide.Sqrt. -/
namespace Go.Proofs.YtegnaknoaflppaaGreatDoor
open Go.RowKit

/-- A call returns the root of v as a number. -/
def RQ (w : World) (v : Nat) (e : Ending) (w' : World) : Prop := ∃ r, IsRt v r ∧ RW w false (digs r) 0 e w'
theorem rt_zero : IsRt 0 0 := ⟨Nat.le_refl _, by decide⟩
theorem IsRt.le {v r : Nat} (h : IsRt v r) : r ≤ v := by
  rcases Nat.eq_zero_or_pos r with h0 | h0
  · omega
  · exact Nat.le_trans (Nat.le_mul_of_pos_left r h0) h.1

end Go.Proofs.YtegnaknoaflppaaGreatDoor

/- wide.Pow. -/
namespace Go.Proofs.YtegnaknoaflppaaGreatDoor
open Go.RowKit

/-- A number of at most 4096 limbs, or one that is too large. -/
theorem rz_cases {w : World} {z : Int} {e : Ending} {w' : World} (h : RZ w z e w') : ((digs z.natAbs).length ≤ 4096 ∧ RN w z e w') ∨ (4096 < (digs z.natAbs).length ∧ RW w false [] 16 e w') := by
  rcases Nat.lt_or_ge 4096 (digs z.natAbs).length with h1 | h1
  · right
    refine ⟨h1, ?_⟩
    unfold RZ mkN mkL mkE at h
    rw [decide_eq_false (by omega), if_neg (by omega), if_neg (by omega)] at h
    exact h
  · obtain ⟨k, hk⟩ : ∃ k, k = 4096 := ⟨_, rfl⟩
    exact .inl ⟨h1, rz_rn (k := k) (digs_len.1 (by omega)) (by omega) h⟩
theorem rz_big {w : World} {z : Int} (h1 : 4096 < (digs z.natAbs).length) : RZ w z = RW w false [] 16 := by
  unfold RZ mkN mkL mkE
  rw [decide_eq_false (by omega), if_neg (by omega), if_neg (by omega)]
  rfl
theorem rz_fit {w : World} {z : Int} (h1 : (digs z.natAbs).length ≤ 4096) : RZ w z = RW w (decide (z < 0)) (digs z.natAbs) 0 := by
  obtain ⟨k, hk⟩ : ∃ k, k = 4096 := ⟨_, rfl⟩
  have h2 := mkN_z (z := z) (k := k) (digs_len.1 (by omega)) (by omega)
  unfold RZ
  rw [h2.1, h2.2.1, h2.2.2]
theorem natAbs_pow_ (x : Int) (k : Nat) : (x ^ k).natAbs = x.natAbs ^ k := by
  induction k with
  | zero => simp
  | succ k ih => rw [Int.pow_succ, Nat.pow_succ, Int.natAbs_mul, ih]
/-- A power on the way is no longer than the last one. -/
theorem pow_way {x : Int} {a b : Nat} (h : a ≤ b) (hb : 4096 < (digs (x ^ a).natAbs).length) : 4096 < (digs (x ^ b).natAbs).length := by
  rw [natAbs_pow_] at hb ⊢
  rcases Nat.eq_zero_or_pos x.natAbs with h0 | h0
  · rw [h0] at hb
    have : (digs (0 ^ a)).length ≤ 1 := by
      refine digs_len.2 ?_
      rcases Nat.eq_zero_or_pos a with h1 | h1
      · subst h1; decide
      · rw [Nat.zero_pow h1]; decide
    omega
  · exact Nat.lt_of_lt_of_le hb (digs_mono (Nat.pow_le_pow_right h0 h))
theorem and_one (d : Nat) (h : d < 65536) : bits .and .i64 (d : Int) 1 = ((d % 2 : Nat) : Int) := by
  have e16 : (2 : Int) ^ 16 = 65536 := by decide
  have e1 : (2 : Int) ^ 1 = 2 := by decide
  have h1 := bits_mask .i64 16 (by decide) (fun n h0 h1 => by rw [e16] at h1; rw [IntKind.wrap_i64]; omega) 1 (by omega) (d : Int) (by omega) (by rw [e16]; omega)
  rw [e1] at h1
  have e2 : (2 : Int) - 1 = 1 := by decide
  rw [e2] at h1
  rw [h1]
  omega
theorem Pr.set1 {w : World} {g : Nat} {x y : Value} (p : Pr w g x y) (x' y' : Value) : Pr ((w.setCell ⟨g, 0, none⟩ x').setCell ⟨g, 1, none⟩ y') g x' y' := p.set x' y'

end Go.Proofs.YtegnaknoaflppaaGreatDoor

/- Root, power, shift, greatest common divisor and exact division, in whole numbers. -/
namespace Go.Proofs.YtegnaknoaflppaaGreatDoor
open Go.RowKit

theorem toI_scale (neg : Bool) (v m : Nat) : toI neg (v * m) = toI neg v * m := by
  unfold toI
  cases neg
  · simp
  · simp [Int.neg_mul]
theorem natAbs_two_pow (k : Nat) : ((2 : Int) ^ k).natAbs = 2 ^ k := by rw [natAbs_pow_]; rfl
theorem two_pow_cast (k : Nat) : (((2 : Nat) ^ k : Nat) : Int) = (2 : Int) ^ k := by simp
theorem two_lt8 (k : Nat) (hk : k ≤ 255) : 2 ^ k < 4294967296 ^ 8 :=
  Nat.lt_of_le_of_lt (Nat.pow_le_pow_right (by omega) hk) (by decide)
theorem sz_two (k : Nat) (hk : k ≤ 255) : Sz 8 ((2 : Int) ^ k) := by
  unfold Sz
  rw [natAbs_two_pow]
  exact two_lt8 k hk
section
variable (w : World) (A : Option Addr) (n c k : Nat) (x : Int) (hA : Lm w w.heap.size A n c (digs x.natAbs))
include hA
theorem shup_n (j : Nat) (hx : Sz j x) (hj : j ≤ 2000) (hk : k ≤ 255) {na : Bool} (ha : decide (x < 0) = na) :
    Calls Tryz.prog 67 #[.agg #[.bool na, .slice A n c], .int .i64 (k : Int)] w (RN w (x * (2 : Int) ^ k)) := by
  have hc := chk_z hx (show j ≤ 4096 by omega)
  subst ha
  have h := shift_up w _ A n c _ k hA hc (by omega)
  have e1 := rz_of w (decide (x < 0)) (x.natAbs * 2 ^ k) (z := x * (2 : Int) ^ k) (by rw [toI_scale, toI_self, two_pow_cast])
  rw [e1] at h
  exact h.mono fun e w' hr => rz_rn (hx.mul (sz_two k hk)) (by omega) hr
theorem shdn_n (j : Nat) (z : Int) (hx : Sz j x) (hj : j ≤ 2000) (hz : z = -(k : Int)) (hk : k ≤ 255) (hT : TabD w) {na : Bool} (ha : decide (x < 0) = na) :
    Calls Tryz.prog 67 #[.agg #[.bool na, .slice A n c], .int .i64 z] w (RN w (x / (2 : Int) ^ k)) := by
  rcases Nat.eq_zero_or_pos k with h0 | h0
  · subst h0
    obtain rfl : z = ((0 : Nat) : Int) := by omega
    have h := shup_n w A n c 0 x hA j hx hj (by omega) ha
    rw [Int.pow_zero, Int.mul_one] at h
    rw [Int.pow_zero, Int.ediv_one]
    exact h
  have hc := chk_z hx (show j ≤ 4096 by omega)
  have hd : x.natAbs / 2 ^ k ≤ x.natAbs := Nat.div_le_self _ _
  have hxs : x.natAbs < 4294967296 ^ j := hx
  have hj1 : 4294967296 ^ (j + 1) = 4294967296 ^ j * 4294967296 := rfl
  have hP : 0 < 2 ^ k := Nat.pow_pos (by omega)
  have key : ∀ (v : Nat) (ng : Bool), toI ng v = x / (2 : Int) ^ k → v ≤ x.natAbs + 1 → ∀ e w', RW w (mkN ng v) (mkL v) (mkE v) e w' → RN w (x / (2 : Int) ^ k) e w' := by
    intro v ng e0 hv e w' hr
    rw [rz_of w ng v e0.symm] at hr
    refine rz_rn (k := j + 1) ?_ (by omega) hr
    unfold Sz
    rw [← e0, toI_abs, pow_succ_]
    have := pow_pos_ j
    omega
  by_cases hs : x < 0
  · rw [← ha, decide_eq_true hs] at *
    have hdm := Nat.div_add_mod x.natAbs (2 ^ k)
    have hml := Nat.mod_lt x.natAbs hP
    by_cases hr : x.natAbs % 2 ^ k = 0
    · refine (shift_down_even w A n c _ k z hA hc hz h0 (by omega) hT hr).mono fun e w' => key _ true ?_ (by omega) e w'
      refine ((Int.ediv_emod_unique (a := x) (b := (2 : Int) ^ k) (r := 0) (q := toI true (x.natAbs / 2 ^ k)) (by rw [← two_pow_cast]; omega)).2 ⟨?_, by omega, by rw [← two_pow_cast]; omega⟩).1.symm
      have e1 := toI_scale true (x.natAbs / 2 ^ k) (2 ^ k)
      rw [two_pow_cast] at e1
      rw [Int.mul_comm, ← e1, Nat.mul_comm]
      rw [hr] at hdm
      rw [show 2 ^ k * (x.natAbs / 2 ^ k) = x.natAbs by omega]
      unfold toI
      rw [if_pos rfl]
      omega
    · refine (shift_down_lost w A n c _ k z hA hc hz h0 (by omega) hT hr).mono fun e w' => key _ true ?_ (by omega) e w'
      refine ((Int.ediv_emod_unique (a := x) (b := (2 : Int) ^ k) (r := (2 : Int) ^ k - (x.natAbs % 2 ^ k : Nat)) (q := toI true (x.natAbs / 2 ^ k + 1)) (by rw [← two_pow_cast]; omega)).2 ⟨?_, by rw [← two_pow_cast]; omega, by rw [← two_pow_cast]; omega⟩).1.symm
      have e1 := toI_scale true (x.natAbs / 2 ^ k + 1) (2 ^ k)
      rw [two_pow_cast] at e1
      rw [Int.mul_comm, ← e1, Nat.mul_comm, Nat.mul_add, Nat.mul_one]
      rw [← two_pow_cast]
      unfold toI
      rw [if_pos rfl]
      omega
  · rw [← ha, decide_eq_false hs] at *
    refine (shift_down_pos w A n c _ k z hA hc hz h0 (by omega)).mono fun e w' => key _ false ?_ (by omega) e w'
    have e0 : x = (x.natAbs : Int) := by omega
    rw [← two_pow_cast]
    unfold toI
    rw [if_neg (by simp)]
    conv => rhs; rw [e0]
    simp
end
section
variable (w : World) (A B : Option Addr) (n m ca cb k : Nat) (x y : Int) (hA : Lm w w.heap.size A n ca (digs x.natAbs)) (hB : Lm w w.heap.size B m cb (digs y.natAbs)) (hx : Sz k x) (hy : Sz k y) (hk : k ≤ 2000)
include hA hB hx hy hk
theorem sz_gcd : Sz k (Nat.gcd x.natAbs y.natAbs : Int) := by
  have _ := hA; have _ := hB; have _ := hk
  unfold Sz at *
  rw [Int.natAbs_natCast]
  rcases Nat.eq_zero_or_pos x.natAbs with h0 | h0
  · rw [h0, Nat.gcd_zero_left]; exact hy
  · exact Nat.lt_of_le_of_lt (Nat.gcd_le_left _ h0) hx
theorem gcd_n {na nb : Bool} (ha : decide (x < 0) = na) (hb : decide (y < 0) = nb) : Calls Tryz.prog 60 #[.agg #[.bool na, .slice A n ca], .agg #[.bool nb, .slice B m cb]] w (RN w (Nat.gcd x.natAbs y.natAbs : Int)) := by
  have hz := sz_gcd w A B n m ca cb k x y hA hB hx hy hk
  subst ha hb
  have h := gcd_any w _ _ A B n m ca cb _ _ hA hB (chkB_z hx (by omega) hy (by omega)) (by rw [← hA.len]; exact Nat.le_trans hx.len (by omega)) (by rw [← hB.len]; exact Nat.le_trans hy.len (by omega))
  refine h.mono fun e w' hr => ?_
  have hr2 := rw_rn (neg := false) (Nat.le_trans hz.len (by omega)) hr
  exact hr2
/-- Exact division of the reference: the rest is 0. -/
theorem rdiv0_n {na nb : Bool} (ha : decide (x < 0) = na) (hb : decide (y < 0) = nb) (hy0 : 0 < y) (hd : y.natAbs ∣ x.natAbs) : Calls Tryz.prog 115 #[.agg #[.bool na, .slice A n ca], .agg #[.bool nb, .slice B m cb]] w
      (fun e w' => ∃ Aq nq cq Ar cr gq gr, e = .returned (.tuple #[.agg #[.bool gq, .slice Aq nq cq], .agg #[.bool gr, .slice Ar 0 cr], .int .i64 0]) ∧ Below w.heap.size w w') := by
  have hv := chkB_z hx (show k ≤ 4096 by omega) hy (show k ≤ 4096 by omega)
  rw [ha, hb] at hv
  have h0 : x.natAbs % y.natAbs = 0 := Nat.mod_eq_zero_of_dvd hd
  have hnb : nb = false := by rw [← hb]; exact decide_eq_false (by omega)
  subst hnb
  have fin : ∀ (n1 n2 : Bool) (l1 : List Nat) e w', RWW w n1 l1 n2 (digs (x.natAbs % y.natAbs)) 0 e w' → ∃ Aq nq cq Ar cr gq gr, e = .returned (.tuple #[.agg #[.bool gq, .slice Aq nq cq], .agg #[.bool gr, .slice Ar 0 cr], .int .i64 0]) ∧ Below w.heap.size w w' := by
    rintro n1 n2 l1 e w' ⟨Aq, nq, cq, Ar, nr, cr, he, _, hr, hb⟩
    rw [h0] at hr
    obtain rfl : nr = 0 := hr.len.symm
    exact ⟨Aq, nq, cq, Ar, cr, n1, n2, he, hb⟩
  cases na
  · exact (rdivmod_same w false false A B n m ca cb _ _ hA hB hv (by omega) rfl (decide (0 < x.natAbs % y.natAbs)) rfl).mono fun e w' h => fin _ _ _ e w' h
  · exact (rdivmod_exact w true false A B n m ca cb _ _ hA hB hv (by omega) (.inl ⟨rfl, rfl⟩) h0).mono fun e w' h => fin _ _ _ e w' h
end
/-- The quotient of RD2 for a positive divisor is the floor. -/
theorem rd2_floor {x y q r : Int} (e1 : x = q * y + r) (e2 : r.natAbs < y.natAbs) (e3 : r = 0 ∨ decide (r < 0) = decide (y < 0)) (hy : 0 < y) : q = x / y := by
  have hr : 0 ≤ r := by
    rcases e3 with h | h
    · omega
    · rw [decide_eq_false (show ¬ y < 0 by omega)] at h
      have := of_decide_eq_false h
      omega
  exact ((Int.ediv_emod_unique (a := x) (b := y) (r := r) (q := q) hy).2 ⟨by rw [Int.mul_comm]; omega, hr, by omega⟩).1.symm
end Go.Proofs.YtegnaknoaflppaaGreatDoor

/- The reference Twin: a copy of a number. -/
namespace Go.Proofs.YtegnaknoaflppaaGreatDoor
open Go.RowKit

/-- 'append(out, xs...)' where out is the call's own, and xs reads as limbs, inside a region that draws. -/
theorem step_append_lm {P : Program} {ops : Array Oper} {o : Oper} {a : Act} {w : World} {K : Act → World → Prop} {Q : Exit → Act → World → Prop} {E : Prop}
    (hg : o.guard = none) (s x : Operand) (t : TypeId) (hop : o.op = Op.call { callee := Callee.builtin Builtin.append, args := #[s, x], argTypes := #[t, t] })
    (base : Nat) (e : TypeId) (i : TypeInfo) (ht : P.underlying t = some (.slice e)) (hi : P.info? e = some i) (hz : i.zero = some (.int .u32 0)) (hsize : i.size = 1) (hby : i.bytes = 4)
    (v : Value) (n : Nat) (ts : List Value) (hs : a.eval s = v) (hown : w.ownsRow base e 1 v n ts)
    (B : Nat) (A : Option Addr) (m c : Nat) (xs : List Nat) (hx : a.eval x = .slice A m c) (hr : Lm w B A m c xs)
    (h63 : n + m ≤ maxLen) (hbytes : (n + m) * 4 ≤ 140737488355328) (hbase : base ≤ w.heap.size)
    (hK : ∀ v' w', w'.ownsRow base e 1 v' (n + m) (ts ++ xs.map u32c) → w.grownBy w' v.ownBlock → K (a.put o.dst v') w') :
    if Region.wanted o (yielded ops a.tmps) = true then Oper.wp P o a w K Q else E := by
  have hw : Region.wanted o (yielded ops a.tmps) = true := by simp [Region.wanted, hg]
  rw [if_pos hw]
  rcases A with _ | ad
  · have hm : m = 0 := by
      rcases Nat.eq_zero_or_pos m with h0 | h0
      · exact h0
      · obtain ⟨b, off, e, _⟩ := hr.at_ h0
        cases e
    subst hm
    obtain rfl := hr.nil_ rfl
    obtain rfl : xs = [] := List.eq_nil_of_length_eq_zero hr.len
    have hrun := run_append_owned_none (P := P) (w := w) base t o.type e i 1 ht hi v n ts hown
    unfold Oper.wp
    simp [execOp, hop, resolve, invoke, builtin, hs, hx, hrun, Result.andThen]
    exact hK v w (by simpa using hown) (World.grownBy.refl w _)
  · obtain ⟨v', w', hrun, r1, r2, _⟩ := run_append_own (P := P) w base t o.type e i (.int .u32 0) 1 4 ht hi hz hsize hby rfl (by decide) v n ts hown ad m c (xs.map u32c) (by simp [hr.len]) hr.cells (u32c_one xs) h63 hbytes hbase
    unfold Oper.wp
    simp [execOp, hop, resolve, invoke, builtin, hs, hx, hrun, Result.andThen]
    exact hK v' w' r1 r2

theorem own_empty (w : World) (k : Nat) (hk : w.heap.size = k) : ((w.alloc (.cells #[] 85)).drew).ownsRow k 85 1 (.slice (some ⟨k, 0, none⟩) 0 0) 0 [] := by
  subst hk
  have h : (w.alloc (.cells #[] 85)).ownsRow w.heap.size 85 1 (.slice (some ⟨w.heap.size, 0, none⟩) 0 0) 0 [] := World.ownsRow_made w #[] _ (Nat.le_refl _) (by simp [maxLen]) rfl
  exact h

end Go.Proofs.YtegnaknoaflppaaGreatDoor

/- Two copies laid in new boxes, in whatever order. -/
namespace Go.Proofs.YtegnaknoaflppaaGreatDoor
open Go.RowKit

/-- Two slots point to copies of both numbers. -/
def TwinsAt (w2 : World) (na : Bool) (n : Nat) (xs : List Nat) (nb : Bool) (m : Nat) (ys : List Nat) (s5 s6 : Value) (wc : World) : Prop :=
  ∃ gx gy A' c' A'' c'', s5 = .pointer (some ⟨gx, 0, none⟩) ∧ s6 = .pointer (some ⟨gy, 0, none⟩) ∧ Pr wc gx (.bool na) (.slice A' n c') ∧ Pr wc gy (.bool nb) (.slice A'' m c'') ∧ Lm wc wc.heap.size A' n c' xs ∧ Lm wc wc.heap.size A'' m c'' ys ∧ Below w2.heap.size w2 wc

section
variable {w2 w4 : World} {na nb : Bool} {n m : Nat} {xs ys : List Nat} {A3 A4 : Option Addr} {c3 c4 : Nat} {t : TypeId}
theorem fin1 (hB : Below w2.heap.size w2 w4) (L3 : Lm w4 w4.heap.size A3 n c3 xs) (L4 : Lm w4 w4.heap.size A4 m c4 ys) :
    TwinsAt w2 na n xs nb m ys (.pointer (some ⟨w4.heap.size, 0, none⟩)) (.pointer (some ⟨w4.heap.size + 1, 0, none⟩)) ((w4.alloc (.cells #[.bool na, .slice A3 n c3] t)).alloc (.cells #[.bool nb, .slice A4 m c4] t)) :=
  ⟨_, _, A3, c3, A4, c4, rfl, rfl, (Pr.new w4 _ rfl _ _ t).alloc _, Pr.new (w4.alloc _) _ (by simp) _ _ t, (L3.box _).box _, (L4.box _).box _, (hB.alloc hB.size _).alloc (hB.alloc hB.size _).size _⟩
theorem fin2 (hB : Below w2.heap.size w2 w4) (L3 : Lm w4 w4.heap.size A3 n c3 xs) (L4 : Lm w4 w4.heap.size A4 m c4 ys) :
    TwinsAt w2 na n xs nb m ys (.pointer (some ⟨w4.heap.size + 1, 0, none⟩)) (.pointer (some ⟨w4.heap.size, 0, none⟩)) ((w4.alloc (.cells #[.bool nb, .slice A4 m c4] t)).alloc (.cells #[.bool na, .slice A3 n c3] t)) :=
  ⟨_, _, A3, c3, A4, c4, rfl, rfl, Pr.new (w4.alloc _) _ (by simp) _ _ t, (Pr.new w4 _ rfl _ _ t).alloc _, (L3.box _).box _, (L4.box _).box _, (hB.alloc hB.size _).alloc (hB.alloc hB.size _).size _⟩
theorem fin3 {g : Nat} (hB : Below w2.heap.size w2 w4) (L3 : Lm w4 w4.heap.size A3 n c3 xs) (L4 : Lm w4 w4.heap.size A4 m c4 ys) (P : Pr w4 g (.bool false) (.slice none 0 0)) (hg : w2.heap.size ≤ g) :
    TwinsAt w2 na n xs nb m ys (.pointer (some ⟨g, 0, none⟩)) (.pointer (some ⟨w4.heap.size, 0, none⟩)) (((w4.setCell ⟨g, 0, none⟩ (.bool na)).setCell ⟨g, 1, none⟩ (.slice A3 n c3)).alloc (.cells #[.bool nb, .slice A4 m c4] t)) :=
  ⟨_, _, A3, c3, A4, c4, rfl, rfl, (P.set _ _).alloc _, Pr.new _ _ (size_set2 _ _ _ _) _ _ t, (L3.setP P _ _).box _, (L4.setP P _ _).box _, (below_set2 hB hg _ _).alloc (below_set2 hB hg _ _).size _⟩
theorem fin4 {g : Nat} (hB : Below w2.heap.size w2 w4) (L3 : Lm w4 w4.heap.size A3 n c3 xs) (L4 : Lm w4 w4.heap.size A4 m c4 ys) (P : Pr w4 g (.bool false) (.slice none 0 0)) (hg : w2.heap.size ≤ g) :
    TwinsAt w2 na n xs nb m ys (.pointer (some ⟨w4.heap.size, 0, none⟩)) (.pointer (some ⟨g, 0, none⟩)) (((w4.setCell ⟨g, 0, none⟩ (.bool nb)).setCell ⟨g, 1, none⟩ (.slice A4 m c4)).alloc (.cells #[.bool na, .slice A3 n c3] t)) :=
  ⟨_, _, A3, c3, A4, c4, rfl, rfl, Pr.new _ _ (size_set2 _ _ _ _) _ _ t, (P.set _ _).alloc _, (L3.setP P _ _).box _, (L4.setP P _ _).box _, (below_set2 hB hg _ _).alloc (below_set2 hB hg _ _).size _⟩
theorem fin5 {g h : Nat} (hB : Below w2.heap.size w2 w4) (L3 : Lm w4 w4.heap.size A3 n c3 xs) (L4 : Lm w4 w4.heap.size A4 m c4 ys) (P : Pr w4 g (.bool false) (.slice none 0 0)) (Q : Pr w4 h (.bool false) (.slice none 0 0)) (hg : w2.heap.size ≤ g) (hh : w2.heap.size ≤ h) (hne : g ≠ h) :
    TwinsAt w2 na n xs nb m ys (.pointer (some ⟨g, 0, none⟩)) (.pointer (some ⟨h, 0, none⟩)) ((((w4.setCell ⟨g, 0, none⟩ (.bool na)).setCell ⟨g, 1, none⟩ (.slice A3 n c3)).setCell ⟨h, 0, none⟩ (.bool nb)).setCell ⟨h, 1, none⟩ (.slice A4 m c4)) :=
  have Q' := Q.far (h := g) (fun e => hne e.symm) (.bool na) (.slice A3 n c3)
  ⟨_, _, A3, c3, A4, c4, rfl, rfl, (P.set _ _).far hne _ _, Q'.set _ _, (L3.setP P _ _).setP Q' _ _, (L4.setP P _ _).setP Q' _ _, below_set2 (below_set2 hB hg _ _) hh _ _⟩
end
theorem b_one {w w' : World} {o : Obj} (h : Below (w.alloc o).heap.size (w.alloc o) w') : Below w.heap.size w w' := bbox h
theorem b_two {w w' : World} {o o' : Obj} (h : Below ((w.alloc o).alloc o').heap.size ((w.alloc o).alloc o') w') : Below w.heap.size w w' := bbox (bbox h)
theorem b_one_d {w w' : World} {o : Obj} (h : Below (w.alloc o).drew.heap.size (w.alloc o).drew w') : Below w.heap.size w w' :=
  ((Below.refl w.heap.size w).alloc (Nat.le_refl _) o).drew.trans (h.mono (((Below.refl w.heap.size w).alloc (Nat.le_refl _) o).drew.size))
theorem b_two_d {w w' : World} {o o' : Obj} (h : Below ((w.alloc o).alloc o').drew.heap.size ((w.alloc o).alloc o').drew w') : Below w.heap.size w w' :=
  have q := (((Below.refl w.heap.size w).alloc (Nat.le_refl _) o).alloc ((Below.refl w.heap.size w).alloc (Nat.le_refl _) o).size o').drew
  q.trans (h.mono q.size)
end Go.Proofs.YtegnaknoaflppaaGreatDoor

/- The reference's Shift: multiplication by a power of 2, or the floor of division by one. -/
namespace Go.Proofs.YtegnaknoaflppaaGreatDoor
open Go.RowKit

theorem own_zer {w : World} {B a : Nat} {v : Value} (h : Ow w B v (zer a)) : w.ownsRow B 85 1 v a ((zer a).map u32c) := by
  have h2 : w.ownsRow B 85 1 v (zer a).length ((zer a).map u32c) := h
  rw [zer_len] at h2
  exact h2
theorem Lm.loneE (w : World) (k : Nat) (t : TypeId) (hk : w.heap.size = k) (x : Nat) (E : Int) (hE : E = (x : Int)) (hx : x < 4294967296) : Lm (w.alloc (.cells #[.int .u32 E] t)) (w.alloc (.cells #[.int .u32 E] t)).heap.size (some ⟨k, 0, none⟩) 1 1 [x] := by
  subst hk hE
  exact ⟨rfl, by unfold Good; simpa using hx, Nat.le_refl _, by omega, fun h => (by cases h), fun _ => ⟨_, 0, rfl, by simp, fun j hj => by
    match j, hj with
    | 0, _ => go_simp⟩⟩
theorem Ow.madeK (w : World) (k n : Nat) (hk : w.heap.size = k) (hn : n ≤ 4000000000) : Ow (w.alloc (.cells ((zer n).map u32c).toArray 85)) k (.slice (some ⟨k, 0, none⟩) n n) (zer n) := by
  subst hk
  exact Ow.made w n n (Nat.le_refl _) hn
theorem pw_split (k : Nat) : 4294967296 ^ (k / 32) * 2 ^ (k % 32) = 2 ^ k := by
  rw [show (4294967296 : Nat) = 2 ^ 32 from by decide, ← Nat.pow_mul, ← Nat.pow_add]
  congr 1
  omega
theorem val_zer (a : Nat) : val (zer a) = 0 := val_zero fun _ hx => (List.mem_replicate.1 hx).2
theorem up_list {k v : Nat} {ts : List Nat} (h : val ts = v * 2 ^ (k % 32)) : val (zer (k / 32) ++ ts) = v * 2 ^ k := by
  rw [val_append, val_zer, zer_len, h, Nat.zero_add, ← pw_split k, Nat.mul_left_comm]
theorem two_digs (k : Nat) : zer (k / 32) ++ [2 ^ (k % 32)] = digs (2 ^ k) := by
  have h1 : 0 < 2 ^ (k % 32) := Nat.pow_pos (by omega)
  have h2 : 2 ^ (k % 32) < 4294967296 := Nat.lt_of_lt_of_le (Nat.pow_lt_pow_right (by omega) (show k % 32 < 32 by omega)) (by decide)
  refine eq_digs ((zer_good _).append (Good.nil.cons h2)) ?_ ?_
  · unfold Norm
    rw [List.getLast?_append]
    simp
  · have h := up_list (k := k) (v := 1) (ts := [2 ^ (k % 32)]) (by simp [val_cons, val_nil])
    rw [h, Nat.one_mul]

/-- What a shift down makes of an absolute value. -/
def DWN (neg : Bool) (v j : Nat) : Nat := if neg = true ∧ 0 < v % 2 ^ j then v / 2 ^ j + 1 else v / 2 ^ j
end Go.Proofs.YtegnaknoaflppaaGreatDoor

/- Shift and DivMod of the reference, and Int on both sides, in whole numbers. -/
namespace Go.Proofs.YtegnaknoaflppaaGreatDoor
open Go.RowKit

theorem rdivmod_n (w : World) (A B : Option Addr) (n m ca cb k : Nat) (x y : Int) (hA : Lm w w.heap.size A n ca (digs x.natAbs)) (hB : Lm w w.heap.size B m cb (digs y.natAbs)) (hx : Sz k x) (hy : Sz k y) (hk : k ≤ 2000) (hy0 : y ≠ 0)
    {na nb : Bool} (ha : decide (x < 0) = na) (hb : decide (y < 0) = nb) :
    Calls Tryz.prog 115 #[.agg #[.bool na, .slice A n ca], .agg #[.bool nb, .slice B m cb]] w (RD2 w x y) := by
  have hv := chkB_z hx (show k ≤ 4096 by omega) hy (show k ≤ 4096 by omega)
  rw [ha, hb] at hv
  have hxl : (digs x.natAbs).length ≤ 4096 := Nat.le_trans hx.len (by omega)
  have hyl : (digs y.natAbs).length ≤ 4096 := Nat.le_trans hy.len (by omega)
  have hbp : 0 < y.natAbs := by omega
  have ex : toI na x.natAbs = x := by rw [← ha]; exact toI_self x
  have ey : toI nb y.natAbs = y := by rw [← hb]; exact toI_self y
  have hdm := Nat.div_add_mod x.natAbs y.natAbs
  have hml := Nat.mod_lt x.natAbs hbp
  have hdl := Nat.div_le_self x.natAbs y.natAbs
  have hm2 := Nat.mod_le x.natAbs y.natAbs
  have key : ∀ (s t : Bool), toI t y.natAbs = y → toI s (x.natAbs / y.natAbs) * y + toI (s != t) (x.natAbs % y.natAbs) = toI (s != t) x.natAbs := by
    intro s t ht
    have e := toI_mul s t (x.natAbs / y.natAbs) y.natAbs
    rw [ht] at e
    rw [e, toI_same rfl, Nat.mul_comm, hdm]
  by_cases hs : na = nb
  · refine (rdivmod_same w na nb A B n m ca cb _ _ hA hB hv hbp hs _ rfl).mono fun e w' h => rww_rd2 (Nat.le_trans (digs_mono hdl) hxl) (Nat.le_trans (digs_mono hm2) hxl) ?_ hml (.inr hb.symm) hdl h
    have h1 := key false nb ey
    subst hs
    rw [show (false != na) = na from by cases na <;> rfl, ex] at h1
    exact h1.symm
  · have hs2 : na = true ∧ nb = false ∨ na = false ∧ nb = true := by cases na <;> cases nb <;> simp_all
    have hnn : (true != nb) = na := by cases na <;> cases nb <;> simp_all
    have h1 := key true nb ey
    rw [hnn, ex] at h1
    rcases Nat.eq_zero_or_pos (x.natAbs % y.natAbs) with h0 | h0
    · refine (rdivmod_exact w na nb A B n m ca cb _ _ hA hB hv hbp hs2 h0).mono fun e w' h => rww_rd2 (Nat.le_trans (digs_mono hdl) hxl) (Nat.le_trans (digs_mono hm2) hxl) ?_ hml (.inl h0) hdl h
      exact h1.symm
    · have hq1 : x.natAbs / y.natAbs + 1 ≤ x.natAbs := by
        have h2 : 2 ≤ y.natAbs := by omega
        have h3 := Nat.mul_le_mul_right (x.natAbs / y.natAbs) h2
        omega
      refine (rdivmod_down w na nb A B n m ca cb _ _ hA hB hv hbp hs2 h0).mono fun e w' h => rww_rd2 (Nat.le_trans (digs_mono hq1) hxl) (Nat.le_trans (digs_mono (show y.natAbs - x.natAbs % y.natAbs ≤ y.natAbs by omega)) hyl) ?_ (by omega) (.inr hb.symm) hq1 h
      have h4 : toI true (x.natAbs / y.natAbs + 1) = toI true (x.natAbs / y.natAbs) - 1 := by unfold toI; simp; omega
      rw [h4, Int.sub_mul, Int.one_mul]
      have h5 : toI nb (y.natAbs - x.natAbs % y.natAbs) - y = toI na (x.natAbs % y.natAbs) := by
        rw [← ey, toI_abs]
        unfold toI
        cases na <;> cases nb <;> simp_all <;> omega
      omega
/-- What Int returns of the number z. -/
def i64V (z : Int) : Int := if -9223372036854775808 ≤ z ∧ z ≤ 9223372036854775807 then z else 0
def i64E (z : Int) : Int := if -9223372036854775808 ≤ z ∧ z ≤ 9223372036854775807 then 0 else 16
theorem int_z {z : Int} {k : Nat} (hz : Sz k z) (hk : k ≤ 2000) : intVT (decide (z < 0)) (digs z.natAbs) = i64V z ∧ intET (decide (z < 0)) (digs z.natAbs) = i64E z := by
  have hc := chk_z hz (show k ≤ 4096 by omega)
  unfold intVT intET intV intE i64V i64E
  rw [if_pos hc, if_pos hc, digs_val]
  by_cases h : z < 0
  · rw [decide_eq_true h]
    simp only [if_true]
    by_cases h2 : z.natAbs ≤ 9223372036854775808
    · rw [if_pos h2, if_pos h2, if_pos (by omega), if_pos (by omega)]; omega
    · rw [if_neg h2, if_neg h2, if_neg (by omega), if_neg (by omega)]; omega
  · rw [decide_eq_false h]
    simp only [Bool.false_eq_true, if_false]
    by_cases h2 : z.natAbs < 9223372036854775808
    · rw [if_pos h2, if_pos h2, if_pos (by omega), if_pos (by omega)]; omega
    · rw [if_neg h2, if_neg h2, if_neg (by omega), if_neg (by omega)]; omega
section
variable (w : World) (A : Option Addr) (n c k : Nat) (z : Int) (hA : Lm w w.heap.size A n c (digs z.natAbs)) (hz : Sz k z) (hk : k ≤ 2000)
include hA hz hk
theorem int_n {na : Bool} (ha : decide (z < 0) = na) : Calls Tryz.prog 38 #[.agg #[.bool na, .slice A n c]] w fun e w' => e = .returned (.tuple #[.int .i64 (i64V z), .int .i64 (i64E z)]) ∧ Below w.heap.size w w' := by
  have h := int_t w na A n c _ hA
  obtain ⟨h1, h2⟩ := int_z hz hk
  rw [← ha] at h ⊢
  rwa [h1, h2] at h
end
end Go.Proofs.YtegnaknoaflppaaGreatDoor

/- Intervals of fractions: words; Whole on both sides, share of the code. -/
namespace Go.Proofs.YtegnaknoaflppaaGreatDoor
open Go.RowKit

/-- A call returns the number z, which is not negative. -/
def RNN (w : World) (z : Int) (e : Ending) (w' : World) : Prop := ∃ A n c, e = .returned (.tuple #[.agg #[.bool false, .slice A n c], .int .i64 0]) ∧ Lm w' w'.heap.size A n c (digs z.natAbs) ∧ Below w.heap.size w w'
theorem rn_nn {w : World} {z : Int} (hz : 0 ≤ z) {e : Ending} {w' : World} (h : RN w z e w') : RNN w z e w' := by
  unfold RN at h
  rwa [decide_eq_false (by omega)] at h
/-- A call returns quotient and rest of a number by one greater than 0. -/
def RDF (w : World) (x y : Int) (e : Ending) (w' : World) : Prop := ∃ A n c A' n' c', e = .returned (.tuple #[.agg #[.bool (decide (x / y < 0)), .slice A n c], .agg #[.bool false, .slice A' n' c'], .int .i64 0]) ∧ Lm w' w'.heap.size A n c (digs (x / y).natAbs) ∧ Lm w' w'.heap.size A' n' c' (digs (x % y).natAbs) ∧ Below w.heap.size w w'
theorem rd2_f {w : World} {x y : Int} (hy : 0 < y) {e : Ending} {w' : World} (h : RD2 w x y e w') : RDF w x y e w' := by
  obtain ⟨q, r, h1, h2, h3, _, A, n, c, A', n', c', he, hL, hL', hb⟩ := h
  have hr : 0 ≤ r := by
    rcases h3 with h3 | h3
    · omega
    · rw [decide_eq_false (show ¬ y < 0 by omega)] at h3
      have := of_decide_eq_false h3; omega
  obtain ⟨e1, e2⟩ := (Int.ediv_emod_unique (a := x) (b := y) (r := r) (q := q) hy).2 ⟨by rw [h1, Int.mul_comm]; omega, hr, by omega⟩
  refine ⟨A, n, c, A', n', c', ?_, by rw [e1]; exact hL, by rw [e2]; exact hL', hb⟩
  rw [he, e1, decide_eq_false (show ¬ r < 0 by omega)]
theorem RDF.of {w : World} {x y q : Int} (hq : x / y = q) {e : Ending} {w' : World} (h : RDF w x y e w') : ∃ A n c A' n' c', e = .returned (.tuple #[.agg #[.bool (decide (q < 0)), .slice A n c], .agg #[.bool false, .slice A' n' c'], .int .i64 0]) ∧ Lm w' w'.heap.size A n c (digs q.natAbs) ∧ Lm w' w'.heap.size A' n' c' (digs (x % y).natAbs) ∧ Below w.heap.size w w' := by
  subst hq; exact h
theorem div_mod_c {p d : Int} (hd : 0 < d) : cdiv p d = if p % d = 0 then p / d else p / d + 1 := by
  have h1 := Int.mul_ediv_add_emod p d
  have h2 := Int.emod_nonneg p (show d ≠ 0 by omega)
  have h3 := Int.emod_lt_of_pos p hd
  unfold cdiv
  by_cases h : p % d = 0
  · rw [if_pos h]
    have e : -p / d = -(p / d) := ((Int.ediv_emod_unique (a := -p) (b := d) (r := 0) (q := -(p / d)) hd).2 ⟨by rw [Int.mul_neg]; omega, by omega, hd⟩).1
    omega
  · rw [if_neg h]
    have e : -p / d = -(p / d) - 1 := ((Int.ediv_emod_unique (a := -p) (b := d) (r := d - p % d) (q := -(p / d) - 1) hd).2 ⟨by rw [Int.mul_sub, Int.mul_neg]; omega, by omega, by omega⟩).1
    omega
/-- The interval of a fraction. -/
def offO (N D : Int) : Out := mkI (N * 1099511627776 / D) (cdiv (N * 1099511627776) D)
theorem share_eq {N D : Int} (hD : 0 < D) : N * 1099511627776 / D = N / D * 1099511627776 + N % D * 1099511627776 / D ∧ N * 1099511627776 % D = N % D * 1099511627776 % D ∧ 0 ≤ N % D * 1099511627776 / D ∧ N % D * 1099511627776 / D < 1099511627776 := by
  have h1 := Int.mul_ediv_add_emod N D
  have h2 := Int.emod_nonneg N (show D ≠ 0 by omega)
  have h3 := Int.emod_lt_of_pos N hD
  have h4 := Int.mul_ediv_add_emod (N % D * 1099511627776) D
  have h5 := Int.emod_nonneg (N % D * 1099511627776) (show D ≠ 0 by omega)
  have h6 := Int.emod_lt_of_pos (N % D * 1099511627776) hD
  have e : N * 1099511627776 = D * (N / D * 1099511627776 + N % D * 1099511627776 / D) + N % D * 1099511627776 % D := by
    rw [Int.mul_add, ← Int.mul_assoc]
    have : N * 1099511627776 = (D * (N / D) + N % D) * 1099511627776 := by rw [h1]
    rw [this, Int.add_mul]
    omega
  obtain ⟨a1, a2⟩ := (Int.ediv_emod_unique (a := N * 1099511627776) (b := D) (r := N % D * 1099511627776 % D) (q := N / D * 1099511627776 + N % D * 1099511627776 / D) hD).2 ⟨by omega, h5, h6⟩
  refine ⟨a1, a2, Int.ediv_nonneg (by omega) (by omega), Int.ediv_lt_of_lt_mul hD (by rw [Int.mul_comm 1099511627776]; exact Int.mul_lt_mul_of_pos_right h3 (by omega))⟩
theorem sdrewZ {B : Nat} {a w : World} (h : Below B a w) : Below B a w.drew := bdrewN h 1
theorem mk_out {lo hi : Int} (h : lo < -2305843009213693952 ∨ 2305843009213693952 < hi) : mkI lo hi = ⟨0, 0, 16⟩ := by unfold mkI; rw [if_pos h]
theorem off_out {N D : Int} (hD : 0 < D) (h : N / D < -2097152 ∨ 2097152 < N / D) : offO N D = ⟨0, 0, 16⟩ := by
  obtain ⟨h1, h2, h3, h4⟩ := share_eq (N := N) hD
  have h5 := fdiv_le_cdiv (p := N * 1099511627776) hD
  unfold offO
  exact mk_out (by omega)
def whO (n : Int) : Out := if n < -2097152 ∨ 2097152 < n then ⟨0, 0, 16⟩ else ⟨n * 1099511627776, n * 1099511627776, 0⟩
theorem who_out {n : Int} (h : n < -2097152 ∨ 2097152 < n) : whO n = ⟨0, 0, 16⟩ := by unfold whO; rw [if_pos h]
theorem who_in {n : Int} (h1 : -2097152 ≤ n) (h2 : n ≤ 2097152) : whO n = ⟨n * 1099511627776, n * 1099511627776, 0⟩ := by unfold whO; rw [if_neg (by omega)]
set_option maxRecDepth 100000 in
set_option maxHeartbeats 1000000 in
theorem swhole_any (w : World) (n : Int) (hn1 : -9223372036854775808 ≤ n) (hn2 : n ≤ 9223372036854775807) : Calls Tryz.prog 13 #[.int .i64 n] w (RO w (whO n)) := by
  have PR := Lib.hid (Pr.new w w.heap.size rfl (.int .i64 0) (.int .i64 0) 23)
  have BW : Hid (Below w.heap.size w (w.alloc (.cells #[.int .i64 0, .int .i64 0] 23))) := sbal (Below.refl _ _) _
  rcases Int.lt_or_le n (-2097152) with h | h
  · rw [who_out (.inl h)]
    go_enter Tryz.func13, Tryz.ntmps13
    have ⟨r0, r1, r2, r3, r4⟩ := PR.out
    go_wp2
    first
    | exact post_iv Tryz.results13 rfl rfl (PR.out.set _ _) ⟨rfl, below_set2 BW.out (by omega) _ _⟩
    | exact post_iv Tryz.results13 rfl rfl PR.out ⟨rfl, BW.out⟩
  · rcases Int.lt_or_le 2097152 n with h2 | h2
    · rw [who_out (.inr h2)]
      have hnb : decide (n < -2097152) = false := decide_eq_false (by omega)
      go_enter Tryz.func13, Tryz.ntmps13
      have ⟨r0, r1, r2, r3, r4⟩ := PR.out
      go_wp2
      first
      | exact post_iv Tryz.results13 rfl rfl (PR.out.set _ _) ⟨rfl, below_set2 BW.out (by omega) _ _⟩
      | exact post_iv Tryz.results13 rfl rfl PR.out ⟨rfl, BW.out⟩
    · rw [who_in h h2]
      have hnb : decide (n < -2097152) = false := decide_eq_false (by omega)
      have hnb2 : decide (2097152 < n) = false := decide_eq_false (by omega)
      have hw : IntKind.i64.wrap (n * 1099511627776) = n * 1099511627776 := IntWalk.i64_in _ (by omega)
      go_enter Tryz.func13, Tryz.ntmps13
      have ⟨r0, r1, r2, r3, r4⟩ := PR.out
      go_wp2
      exact post_iv Tryz.results13 rfl rfl (Pr.new w _ rfl _ _ _) ⟨rfl, sbal (Below.refl _ _) _⟩
set_option maxRecDepth 100000 in
set_option maxHeartbeats 2000000 in
theorem share_n (w : World) (A B : Option Addr) (n m ca cb k : Nat) (r D : Int) (hA : Lm w w.heap.size A n ca (digs r.natAbs)) (hB : Lm w w.heap.size B m cb (digs D.natAbs)) (hr0 : 0 ≤ r) (hrD : r < D) (hk : k ≤ 1000) (hs : Sz k D) :
    Calls Tryz.prog 39 #[.agg #[.bool false, .slice A n ca], .agg #[.bool false, .slice B m cb]] w fun e w' => e = .returned (.tuple #[.int .i64 (r * 1099511627776 / D), .bool (decide (0 < r * 1099511627776 % D))]) ∧ Below w.heap.size w w' := by
  have HA := Lib.hid hA
  have HB := Lib.hid hB
  have hsr : Sz k r := by unfold Sz at *; omega
  obtain ⟨X, hX⟩ : ∃ X, X = r * 1099511627776 := ⟨_, rfl⟩
  have hX0 : 0 ≤ X := by omega
  have hp : (2 : Int) ^ 40 = 1099511627776 := by decide
  have hsX : Sz (k + 8) X := by rw [hX, ← hp]; exact hsr.mul (sz_two 40 (by omega))
  have hsh : ∀ W, Lm W W.heap.size A n ca (digs r.natAbs) → Calls Tryz.prog 67 #[.agg #[.bool false, .slice A n ca], .int .i64 40] W (RNN W X) := fun W L => by
    have h := shup_n W A n ca 40 r L k hsr (by omega) (by omega) (decide_eq_false (show ¬ r < 0 by omega))
    rw [hp, ← hX] at h
    exact h.mono fun e w' h => rn_nn hX0 h
  have hdm : ∀ W A' n' c', Lm W W.heap.size A' n' c' (digs X.natAbs) → Lm W W.heap.size B m cb (digs D.natAbs) → Calls Tryz.prog 37 #[.agg #[.bool false, .slice A' n' c'], .agg #[.bool false, .slice B m cb]] W (RDF W X D) := fun W A' n' c' L1 L2 =>
    (divmod_n W A' B n' m c' cb (k + 8) X D L1 L2 hsX (hs.mono (by omega)) (by omega) (by omega) (decide_eq_false (by omega)) (decide_eq_false (by omega))).mono fun e w' h => rd2_f (by omega) h
  rw [← hX]
  have hu1 : 0 ≤ X / D := Int.ediv_nonneg hX0 (by omega)
  have hu2 : X / D < 1099511627776 := Int.ediv_lt_of_lt_mul (by omega) (by rw [hX, Int.mul_comm 1099511627776]; exact Int.mul_lt_mul_of_pos_right hrD (by omega))
  have hsu : Sz 2 (X / D) := by unfold Sz; omega
  have hin : ∀ W A' n' c', Lm W W.heap.size A' n' c' (digs (X / D).natAbs) → Calls Tryz.prog 38 #[.agg #[.bool (decide (X / D < 0)), .slice A' n' c']] W fun e w' => e = .returned (.tuple #[.int .i64 (X / D), .int .i64 0]) ∧ Below W.heap.size W w' := fun W A' n' c' L => by
    have h := int_n W A' n' c' 2 (X / D) L hsu (by omega) rfl
    have e1 : i64V (X / D) = X / D := by unfold i64V; rw [if_pos (by omega)]
    have e2 : i64E (X / D) = 0 := by unfold i64E; rw [if_pos (by omega)]
    rwa [e1, e2] at h
  have hm0 : 0 ≤ X % D := Int.emod_nonneg X (by omega)
  have hlen : ∀ n' : Nat, (digs (X % D).natAbs).length = n' → (0 < n' ↔ 0 < X % D) := fun n' h => by rw [← h, digs_pos]; omega
  have HSF := Lib.hid hsh
  unfold RDF at hdm
  have HDM := Lib.hid hdm
  have HIN := Lib.hid hin
  have HLN := Lib.hid hlen
  clear hsh hdm hin hlen hu1 hu2 hsu hm0 hsX hX0 hp hX hsr hA hB hr0 hrD hs
  generalize X / D = u at *
  generalize X % D = v at *
  go_enter Tryz.func39, Tryz.ntmps39
  have QA := Lib.hid ((Pr.new w (w.heap.size) rfl (.bool false) (.slice A n ca) 37).alloc (.cells #[.bool false, .slice B m cb] 37))
  have QB := Lib.hid (Pr.new (w.alloc (.cells #[.bool false, .slice A n ca] 37)) (w.heap.size + 1) (by simp) (.bool false) (.slice B m cb) 37)
  have LA := Lib.hid ((HA.out.box (.cells #[.bool false, .slice A n ca] 37)).box (.cells #[.bool false, .slice B m cb] 37))
  have LB := Lib.hid ((HB.out.box (.cells #[.bool false, .slice A n ca] 37)).box (.cells #[.bool false, .slice B m cb] 37))
  have BW : Hid (Below w.heap.size w ((w.alloc (.cells #[.bool false, .slice A n ca] 37)).alloc (.cells #[.bool false, .slice B m cb] 37))) := (sbal (sbal (Below.refl _ _) _) _)
  clear HA HB
  go_wp2_with fail
  generalize (w.alloc (.cells #[.bool false, .slice A n ca] 37)).alloc (.cells #[.bool false, .slice B m cb] 37) = W0 at *
  refine (HSF.out _ LA.out).mono ?_
  rintro e w1 ⟨A1, n1, c1, rfl, hL1, hb⟩
  replace QA := Lib.hid (QA.out.via hb)
  replace QB := Lib.hid (QB.out.via hb)
  replace LA := Lib.hid (LA.out.via hb)
  replace LB := Lib.hid (LB.out.via hb)
  replace BW := Lib.hid (btr BW.out hb)
  have L1 := Lib.hid hL1
  clear hb hL1
  have ⟨rQA0, rQA1, rQA2, rQA3, rQAl⟩ := QA.out
  have ⟨rQB0, rQB1, rQB2, rQB3, rQBl⟩ := QB.out
  go_wp2_with fail
  clear rQA0 rQA1 rQA2 rQA3 rQAl rQB0 rQB1 rQB2 rQB3 rQBl
  replace QA := Lib.hid (QA.out.alloc (.cells #[.bool false, .slice A1 n1 c1] 37))
  replace QB := Lib.hid (QB.out.alloc (.cells #[.bool false, .slice A1 n1 c1] 37))
  replace LA := Lib.hid (LA.out.box (.cells #[.bool false, .slice A1 n1 c1] 37))
  replace LB := Lib.hid (LB.out.box (.cells #[.bool false, .slice A1 n1 c1] 37))
  replace L1 := Lib.hid (L1.out.box (.cells #[.bool false, .slice A1 n1 c1] 37))
  have Q1 := Lib.hid (Pr.new w1 _ rfl (.bool false) (.slice A1 n1 c1) 37)
  replace BW := Lib.hid (sbal BW.out (.cells #[.bool false, .slice A1 n1 c1] 37))
  generalize w1.alloc (.cells #[.bool false, .slice A1 n1 c1] 37) = W1 at *
  generalize w1.heap.size = g1 at *
  have ⟨rQ10, rQ11, rQ12, rQ13, rQ1l⟩ := Q1.out
  have ⟨rQB0, rQB1, rQB2, rQB3, rQBl⟩ := QB.out
  go_wp2_with fail
  clear rQ10 rQ11 rQ12 rQ13 rQ1l rQB0 rQB1 rQB2 rQB3 rQBl
  obtain ⟨zu, hzu⟩ : ∃ b, decide (u < 0) = b := ⟨_, rfl⟩
  rw [hzu] at HDM HIN
  clear hzu
  refine (HDM.out _ _ _ _ L1.out LB.out).mono ?_
  rintro e w2 ⟨A2, n2, c2, A3, n3, c3, rfl, hL2, hL3, hb⟩
  clear L1
  clear LB
  clear LA
  clear Q1
  clear QB
  replace QA := Lib.hid (QA.out.via hb)
  replace BW := Lib.hid (btr BW.out hb)
  have L2 := Lib.hid hL2
  have L3 := Lib.hid hL3
  clear hb hL2 hL3
  have ⟨rQA0, rQA1, rQA2, rQA3, rQAl⟩ := QA.out
  go_wp2_with fail
  clear rQA0 rQA1 rQA2 rQA3 rQAl
  have hn3 := HLN.out _ L3.out.len
  have Q8 := Lib.hid (Pr.new ((w2.setCell ⟨w.heap.size, 0, none⟩ (.bool false)).setCell ⟨w.heap.size, 1, none⟩ (.slice A3 n3 c3)) w2.heap.size (size_set2 _ _ _ _) (.bool zu) (.slice A2 n2 c2) 37)
  have L8 := Lib.hid ((L2.out.setP QA.out (.bool false) (.slice A3 n3 c3)).box (.cells #[.bool zu, .slice A2 n2 c2] 37))
  replace BW := Lib.hid (sbal (below_set2 BW.out (g := w.heap.size) (Nat.le_refl _) (.bool false) (.slice A3 n3 c3)) (.cells #[.bool zu, .slice A2 n2 c2] 37))
  replace QA := Lib.hid ((QA.out.set (.bool false) (.slice A3 n3 c3)).alloc (.cells #[.bool zu, .slice A2 n2 c2] 37))
  clear L2 L3 HDM HSF HLN
  generalize ((w2.setCell ⟨w.heap.size, 0, none⟩ (.bool false)).setCell ⟨w.heap.size, 1, none⟩ (.slice A3 n3 c3)).alloc (.cells #[.bool zu, .slice A2 n2 c2] 37) = W8 at *
  generalize w2.heap.size = g8 at *
  (try go_wp2_with fail)
  refine (HIN.out _ _ _ _ L8.out).mono ?_
  rintro e w3 ⟨rfl, hb⟩
  clear Q8
  clear L8
  replace QA := Lib.hid (QA.out.via hb)
  replace BW := Lib.hid (btr BW.out hb)
  clear hb
  rcases Nat.eq_zero_or_pos n3 with h0 | h0
  · subst h0
    have hv : decide (0 < v) = false := decide_eq_false (fun h => by have := hn3.2 h; omega)
    have HVV := Lib.hid hv
    clear hv hn3
    have ⟨a0, a1, _, _, _⟩ := QA.out
    go_wp2_with fail
    go_region
    go_wp2
    go_ret2
    exact ⟨by rw [HVV.out]; rfl, sdrewZ BW.out⟩
  · have hv : decide (0 < v) = true := decide_eq_true (hn3.1 h0)
    have HVV := Lib.hid hv
    have h0i : (0 : Int) < (n3 : Int) := by omega
    clear hv hn3
    have ⟨a0, a1, _, _, _⟩ := QA.out
    go_wp2_with fail
    go_region
    go_wp2
    go_ret2
    exact ⟨by rw [HVV.out]; rfl, sdrewZ BW.out⟩
end Go.Proofs.YtegnaknoaflppaaGreatDoor

/- Intervals of fractions: Of of the code. -/
namespace Go.Proofs.YtegnaknoaflppaaGreatDoor
open Go.RowKit

theorem Pr.farB {w : World} {g h : Nat} {x y : Value} (p : Pr w g x y) (hne : g ≠ h) (i : Nat) (z : Value) : Pr (w.setCell ⟨h, i, none⟩ z) g x y := by
  have h1 := p.c0; have h2 := p.c1; have h3 := p.f0; have h4 := p.f1; have h5 := p.lt
  have hne2 : ¬ h = g := fun e => hne e.symm
  exact ⟨by go_simp, by go_simp, by simpa using h3, by simpa using h4, by simpa [World.size_setCell] using h5⟩
theorem ret_outF {a b c : Int} {o : Out} (h : o = ⟨a, b, c⟩) : Ending.returned (.tuple #[iv a b, .int .i64 c]) = .returned (.tuple #[iv o.lo o.hi, .int .i64 o.err]) := by rw [h]
theorem ret_mkF {X Y : Int} {o : Out} (h : mkI X Y = o) : Ending.returned (.tuple #[iv (mkI X Y).lo (mkI X Y).hi, .int .i64 (mkI X Y).err]) = .returned (.tuple #[iv o.lo o.hi, .int .i64 o.err]) := by rw [h]
theorem i64_out {q : Int} (h : ¬ (-9223372036854775808 ≤ q ∧ q ≤ 9223372036854775807)) : i64V q = 0 ∧ i64E q = 16 := ⟨by unfold i64V; rw [if_neg h], by unfold i64E; rw [if_neg h]⟩
theorem i64_in' {q : Int} (h : -9223372036854775808 ≤ q ∧ q ≤ 9223372036854775807) : i64V q = q ∧ i64E q = 0 := ⟨by unfold i64V; rw [if_pos h], by unfold i64E; rw [if_pos h]⟩
set_option maxRecDepth 100000 in
set_option maxHeartbeats 2000000 in
theorem sof_a (w : World) (na : Bool) (A B : Option Addr) (n m ca cb : Nat) (N D : Int) (hA : Lm w w.heap.size A n ca (digs N.natAbs)) (hB : Lm w w.heap.size B m cb (digs D.natAbs)) (hD : 0 < D) (hsN : Sz 300 N) (hsD : Sz 300 D) (hg : fchk na (digs N.natAbs) false (digs D.natAbs) = 0) (ha : decide (N < 0) = na) (h : ¬ (-9223372036854775808 ≤ N / D ∧ N / D ≤ 9223372036854775807)) : Calls Tryz.prog 15 #[fv na A n ca false B m cb] w (RO w (offO N D)) := by
  have HA := Lib.hid hA
  have HB := Lib.hid hB
  have hck : ∀ W, Lm W W.heap.size A n ca (digs N.natAbs) → Lm W W.heap.size B m cb (digs D.natAbs) → Calls Tryz.prog 36 #[fv na A n ca false B m cb] W (RN1 W 0) := fun W L1 L2 => by
    have h := fcheck_any W na false A B n m ca cb _ _ L1 L2
    rw [hg] at h
    exact h
  obtain ⟨q, hq⟩ : ∃ q, N / D = q := ⟨_, rfl⟩
  have hsq : Sz 300 q := by
    have h1 := Int.mul_ediv_add_emod N D
    have h2 := Int.emod_nonneg N (show D ≠ 0 by omega)
    have h3 := Int.emod_lt_of_pos N hD
    rw [hq] at h1
    unfold Sz at *
    have h4 : q.natAbs ≤ N.natAbs := by
      rcases Int.lt_or_le q 0 with h | h
      · have h5 : D * q ≤ 1 * q := Int.mul_le_mul_of_nonpos_right (by omega) (by omega)
        have h6 : D * q = -(D * (-q)) := by rw [Int.mul_neg]; omega
        have h7 : 0 ≤ (D - 1) * (-q - 1) := Int.mul_nonneg (by omega) (by omega)
        have h8 : (D - 1) * (-q - 1) = D * (-q) - D + q + 1 := by grind
        omega
      · have h5 : 1 * q ≤ D * q := Int.mul_le_mul_of_nonneg_right (by omega) h
        omega
    omega
  have hdm : ∀ W, Lm W W.heap.size A n ca (digs N.natAbs) → Lm W W.heap.size B m cb (digs D.natAbs) → Calls Tryz.prog 37 #[.agg #[.bool na, .slice A n ca], .agg #[.bool false, .slice B m cb]] W fun e w' => ∃ A n c A' n' c', e = .returned (.tuple #[.agg #[.bool (decide (q < 0)), .slice A n c], .agg #[.bool false, .slice A' n' c'], .int .i64 0]) ∧ Lm w' w'.heap.size A n c (digs q.natAbs) ∧ Lm w' w'.heap.size A' n' c' (digs (N % D).natAbs) ∧ Below W.heap.size W w' := fun W L1 L2 =>
    (divmod_n W A B n m ca cb 300 N D L1 L2 hsN hsD (by omega) (by omega) ha (decide_eq_false (by omega))).mono fun e w' h => RDF.of hq (rd2_f hD h)
  have hin : ∀ W A' n' c', Lm W W.heap.size A' n' c' (digs q.natAbs) → Calls Tryz.prog 38 #[.agg #[.bool (decide (q < 0)), .slice A' n' c']] W fun e w' => e = .returned (.tuple #[.int .i64 (i64V q), .int .i64 (i64E q)]) ∧ Below W.heap.size W w' := fun W A' n' c' L => int_n W A' n' c' 300 q L hsq (by omega) rfl
  have HM := Lib.hid (off_out (N := N) hD (by omega))
  rw [hq] at h
  rw [(i64_out h).1, (i64_out h).2] at hin
  clear h
  have HCK := Lib.hid hck
  have HDM := Lib.hid hdm
  have HIN := Lib.hid hin
  clear hck hdm hin hsq hsN hsD hg ha hA hB
  have HD := Lib.hid hD
  have HQ := Lib.hid hq
  clear hD hq
  obtain ⟨zq, hzq⟩ : ∃ b, decide (q < 0) = b := ⟨_, rfl⟩
  rw [hzq] at HDM HIN
  clear hzq
  go_enter Tryz.func15, Tryz.ntmps15
  have QF := Lib.hid ((Qd.new w (w.heap.size) rfl (.bool na) (.slice A n ca) (.bool false) (.slice B m cb) 39).alloc (.cells #[.int .i64 0, .int .i64 0] 23))
  have QR := Lib.hid (Pr.new (w.alloc (.cells #[.bool na, .slice A n ca, .bool false, .slice B m cb] 39)) (w.heap.size + 1) (by simp) (.int .i64 0) (.int .i64 0) 23)
  have LA := Lib.hid ((HA.out.box (.cells #[.bool na, .slice A n ca, .bool false, .slice B m cb] 39)).box (.cells #[.int .i64 0, .int .i64 0] 23))
  have LB := Lib.hid ((HB.out.box (.cells #[.bool na, .slice A n ca, .bool false, .slice B m cb] 39)).box (.cells #[.int .i64 0, .int .i64 0] 23))
  have BW : Hid (Below w.heap.size w ((w.alloc (.cells #[.bool na, .slice A n ca, .bool false, .slice B m cb] 39)).alloc (.cells #[.int .i64 0, .int .i64 0] 23))) := (sbal (sbal (Below.refl _ _) _) _)
  clear HA HB
  go_wp2_with fail
  generalize (w.alloc (.cells #[.bool na, .slice A n ca, .bool false, .slice B m cb] 39)).alloc (.cells #[.int .i64 0, .int .i64 0] 23) = W0 at *
  refine (HCK.out _ LA.out LB.out).mono ?_
  rintro e w1 ⟨rfl, hb⟩
  replace QF := Lib.hid (QF.out.via hb)
  replace QR := Lib.hid (QR.out.via hb)
  replace LA := Lib.hid (LA.out.via hb)
  replace LB := Lib.hid (LB.out.via hb)
  replace BW := Lib.hid (btr BW.out hb)
  clear hb
  have ⟨rQF0, rQF1, rQF2, rQF3, rQF4, rQF5, rQF6, rQF7, rQFl⟩ := QF.out
  go_wp2_with fail
  clear rQF0 rQF1 rQF2 rQF3 rQF4 rQF5 rQF6 rQF7 rQFl
  refine (HDM.out _ LA.out LB.out).mono ?_
  rintro e w2 ⟨A1, n1, c1, A2, n2, c2, rfl, hL1, hL2, hb⟩
  replace QF := Lib.hid (QF.out.via hb)
  replace QR := Lib.hid (QR.out.via hb)
  replace LA := Lib.hid (LA.out.via hb)
  replace LB := Lib.hid (LB.out.via hb)
  replace BW := Lib.hid (btr BW.out hb)
  have L1 := Lib.hid hL1
  have L2 := Lib.hid hL2
  clear hb hL1 hL2
  have ⟨rQF0, rQF1, rQF2, rQF3, rQF4, rQF5, rQF6, rQF7, rQFl⟩ := QF.out
  go_wp2_with fail
  clear rQF0 rQF1 rQF2 rQF3 rQF4 rQF5 rQF6 rQF7 rQFl
  replace QF := Lib.hid ((QF.out.alloc (.cells #[.bool zq, .slice A1 n1 c1] 37)).alloc (.cells #[.bool false, .slice A2 n2 c2] 37))
  replace QR := Lib.hid ((QR.out.alloc (.cells #[.bool zq, .slice A1 n1 c1] 37)).alloc (.cells #[.bool false, .slice A2 n2 c2] 37))
  replace LA := Lib.hid ((LA.out.box (.cells #[.bool zq, .slice A1 n1 c1] 37)).box (.cells #[.bool false, .slice A2 n2 c2] 37))
  replace LB := Lib.hid ((LB.out.box (.cells #[.bool zq, .slice A1 n1 c1] 37)).box (.cells #[.bool false, .slice A2 n2 c2] 37))
  replace L1 := Lib.hid ((L1.out.box (.cells #[.bool zq, .slice A1 n1 c1] 37)).box (.cells #[.bool false, .slice A2 n2 c2] 37))
  replace L2 := Lib.hid ((L2.out.box (.cells #[.bool zq, .slice A1 n1 c1] 37)).box (.cells #[.bool false, .slice A2 n2 c2] 37))
  have Q5 := Lib.hid ((Pr.new w2 _ rfl (.bool zq) (.slice A1 n1 c1) 37).alloc (.cells #[.bool false, .slice A2 n2 c2] 37))
  have Q6 := Lib.hid (Pr.new (w2.alloc (.cells #[.bool zq, .slice A1 n1 c1] 37)) (w2.heap.size + 1) (by simp) (.bool false) (.slice A2 n2 c2) 37)
  replace BW := Lib.hid (sbal (sbal BW.out (.cells #[.bool zq, .slice A1 n1 c1] 37)) (.cells #[.bool false, .slice A2 n2 c2] 37))
  generalize (w2.alloc (.cells #[.bool zq, .slice A1 n1 c1] 37)).alloc (.cells #[.bool false, .slice A2 n2 c2] 37) = W2 at *
  generalize w2.heap.size = g2 at *
  refine (HIN.out _ _ _ _ L1.out).mono ?_
  rintro e w3 ⟨rfl, hb⟩
  clear Q5
  clear L1
  clear LA
  replace QF := Lib.hid (QF.out.via hb)
  replace QR := Lib.hid (QR.out.via hb)
  replace LB := Lib.hid (LB.out.via hb)
  replace L2 := Lib.hid (L2.out.via hb)
  replace Q6 := Lib.hid (Q6.out.via hb)
  replace BW := Lib.hid (btr BW.out hb)
  clear hb
  have ⟨rQR0, rQR1, rQR2, rQR3, rQRl⟩ := QR.out
  go_wp2
  exact post_iv Tryz.results15 rfl rfl (QR.out.set _ _) ⟨ret_outF HM.out, below_set2 BW.out (by omega) _ _⟩
set_option maxRecDepth 100000 in
set_option maxHeartbeats 2000000 in
theorem sof_b (w : World) (na : Bool) (A B : Option Addr) (n m ca cb : Nat) (N D : Int) (hA : Lm w w.heap.size A n ca (digs N.natAbs)) (hB : Lm w w.heap.size B m cb (digs D.natAbs)) (hD : 0 < D) (hsN : Sz 300 N) (hsD : Sz 300 D) (hg : fchk na (digs N.natAbs) false (digs D.natAbs) = 0) (ha : decide (N < 0) = na) (h : -9223372036854775808 ≤ N / D ∧ N / D ≤ 9223372036854775807) (h2 : N / D < -2097152 ∨ 2097152 < N / D) : Calls Tryz.prog 15 #[fv na A n ca false B m cb] w (RO w (offO N D)) := by
  have HA := Lib.hid hA
  have HB := Lib.hid hB
  have hck : ∀ W, Lm W W.heap.size A n ca (digs N.natAbs) → Lm W W.heap.size B m cb (digs D.natAbs) → Calls Tryz.prog 36 #[fv na A n ca false B m cb] W (RN1 W 0) := fun W L1 L2 => by
    have h := fcheck_any W na false A B n m ca cb _ _ L1 L2
    rw [hg] at h
    exact h
  obtain ⟨q, hq⟩ : ∃ q, N / D = q := ⟨_, rfl⟩
  have hsq : Sz 300 q := by
    have h1 := Int.mul_ediv_add_emod N D
    have h2 := Int.emod_nonneg N (show D ≠ 0 by omega)
    have h3 := Int.emod_lt_of_pos N hD
    rw [hq] at h1
    unfold Sz at *
    have h4 : q.natAbs ≤ N.natAbs := by
      rcases Int.lt_or_le q 0 with h | h
      · have h5 : D * q ≤ 1 * q := Int.mul_le_mul_of_nonpos_right (by omega) (by omega)
        have h6 : D * q = -(D * (-q)) := by rw [Int.mul_neg]; omega
        have h7 : 0 ≤ (D - 1) * (-q - 1) := Int.mul_nonneg (by omega) (by omega)
        have h8 : (D - 1) * (-q - 1) = D * (-q) - D + q + 1 := by grind
        omega
      · have h5 : 1 * q ≤ D * q := Int.mul_le_mul_of_nonneg_right (by omega) h
        omega
    omega
  have hdm : ∀ W, Lm W W.heap.size A n ca (digs N.natAbs) → Lm W W.heap.size B m cb (digs D.natAbs) → Calls Tryz.prog 37 #[.agg #[.bool na, .slice A n ca], .agg #[.bool false, .slice B m cb]] W fun e w' => ∃ A n c A' n' c', e = .returned (.tuple #[.agg #[.bool (decide (q < 0)), .slice A n c], .agg #[.bool false, .slice A' n' c'], .int .i64 0]) ∧ Lm w' w'.heap.size A n c (digs q.natAbs) ∧ Lm w' w'.heap.size A' n' c' (digs (N % D).natAbs) ∧ Below W.heap.size W w' := fun W L1 L2 =>
    (divmod_n W A B n m ca cb 300 N D L1 L2 hsN hsD (by omega) (by omega) ha (decide_eq_false (by omega))).mono fun e w' h => RDF.of hq (rd2_f hD h)
  have hin : ∀ W A' n' c', Lm W W.heap.size A' n' c' (digs q.natAbs) → Calls Tryz.prog 38 #[.agg #[.bool (decide (q < 0)), .slice A' n' c']] W fun e w' => e = .returned (.tuple #[.int .i64 (i64V q), .int .i64 (i64E q)]) ∧ Below W.heap.size W w' := fun W A' n' c' L => int_n W A' n' c' 300 q L hsq (by omega) rfl
  have HM := Lib.hid (off_out (N := N) hD h2)
  rw [hq] at h h2
  rw [(i64_in' h).1, (i64_in' h).2] at hin
  have hwh := fun W => swhole_any W q h.1 h.2
  rw [who_out h2] at hwh
  have HWH := Lib.hid hwh
  clear h h2 hwh
  have HCK := Lib.hid hck
  have HDM := Lib.hid hdm
  have HIN := Lib.hid hin
  clear hck hdm hin hsq hsN hsD hg ha hA hB
  have HD := Lib.hid hD
  have HQ := Lib.hid hq
  clear hD hq
  obtain ⟨zq, hzq⟩ : ∃ b, decide (q < 0) = b := ⟨_, rfl⟩
  rw [hzq] at HDM HIN
  clear hzq
  go_enter Tryz.func15, Tryz.ntmps15
  have QF := Lib.hid ((Qd.new w (w.heap.size) rfl (.bool na) (.slice A n ca) (.bool false) (.slice B m cb) 39).alloc (.cells #[.int .i64 0, .int .i64 0] 23))
  have QR := Lib.hid (Pr.new (w.alloc (.cells #[.bool na, .slice A n ca, .bool false, .slice B m cb] 39)) (w.heap.size + 1) (by simp) (.int .i64 0) (.int .i64 0) 23)
  have LA := Lib.hid ((HA.out.box (.cells #[.bool na, .slice A n ca, .bool false, .slice B m cb] 39)).box (.cells #[.int .i64 0, .int .i64 0] 23))
  have LB := Lib.hid ((HB.out.box (.cells #[.bool na, .slice A n ca, .bool false, .slice B m cb] 39)).box (.cells #[.int .i64 0, .int .i64 0] 23))
  have BW : Hid (Below w.heap.size w ((w.alloc (.cells #[.bool na, .slice A n ca, .bool false, .slice B m cb] 39)).alloc (.cells #[.int .i64 0, .int .i64 0] 23))) := (sbal (sbal (Below.refl _ _) _) _)
  clear HA HB
  go_wp2_with fail
  generalize (w.alloc (.cells #[.bool na, .slice A n ca, .bool false, .slice B m cb] 39)).alloc (.cells #[.int .i64 0, .int .i64 0] 23) = W0 at *
  refine (HCK.out _ LA.out LB.out).mono ?_
  rintro e w1 ⟨rfl, hb⟩
  replace QF := Lib.hid (QF.out.via hb)
  replace QR := Lib.hid (QR.out.via hb)
  replace LA := Lib.hid (LA.out.via hb)
  replace LB := Lib.hid (LB.out.via hb)
  replace BW := Lib.hid (btr BW.out hb)
  clear hb
  have ⟨rQF0, rQF1, rQF2, rQF3, rQF4, rQF5, rQF6, rQF7, rQFl⟩ := QF.out
  go_wp2_with fail
  clear rQF0 rQF1 rQF2 rQF3 rQF4 rQF5 rQF6 rQF7 rQFl
  refine (HDM.out _ LA.out LB.out).mono ?_
  rintro e w2 ⟨A1, n1, c1, A2, n2, c2, rfl, hL1, hL2, hb⟩
  replace QF := Lib.hid (QF.out.via hb)
  replace QR := Lib.hid (QR.out.via hb)
  replace LA := Lib.hid (LA.out.via hb)
  replace LB := Lib.hid (LB.out.via hb)
  replace BW := Lib.hid (btr BW.out hb)
  have L1 := Lib.hid hL1
  have L2 := Lib.hid hL2
  clear hb hL1 hL2
  have ⟨rQF0, rQF1, rQF2, rQF3, rQF4, rQF5, rQF6, rQF7, rQFl⟩ := QF.out
  go_wp2_with fail
  clear rQF0 rQF1 rQF2 rQF3 rQF4 rQF5 rQF6 rQF7 rQFl
  replace QF := Lib.hid ((QF.out.alloc (.cells #[.bool zq, .slice A1 n1 c1] 37)).alloc (.cells #[.bool false, .slice A2 n2 c2] 37))
  replace QR := Lib.hid ((QR.out.alloc (.cells #[.bool zq, .slice A1 n1 c1] 37)).alloc (.cells #[.bool false, .slice A2 n2 c2] 37))
  replace LA := Lib.hid ((LA.out.box (.cells #[.bool zq, .slice A1 n1 c1] 37)).box (.cells #[.bool false, .slice A2 n2 c2] 37))
  replace LB := Lib.hid ((LB.out.box (.cells #[.bool zq, .slice A1 n1 c1] 37)).box (.cells #[.bool false, .slice A2 n2 c2] 37))
  replace L1 := Lib.hid ((L1.out.box (.cells #[.bool zq, .slice A1 n1 c1] 37)).box (.cells #[.bool false, .slice A2 n2 c2] 37))
  replace L2 := Lib.hid ((L2.out.box (.cells #[.bool zq, .slice A1 n1 c1] 37)).box (.cells #[.bool false, .slice A2 n2 c2] 37))
  have Q5 := Lib.hid ((Pr.new w2 _ rfl (.bool zq) (.slice A1 n1 c1) 37).alloc (.cells #[.bool false, .slice A2 n2 c2] 37))
  have Q6 := Lib.hid (Pr.new (w2.alloc (.cells #[.bool zq, .slice A1 n1 c1] 37)) (w2.heap.size + 1) (by simp) (.bool false) (.slice A2 n2 c2) 37)
  replace BW := Lib.hid (sbal (sbal BW.out (.cells #[.bool zq, .slice A1 n1 c1] 37)) (.cells #[.bool false, .slice A2 n2 c2] 37))
  generalize (w2.alloc (.cells #[.bool zq, .slice A1 n1 c1] 37)).alloc (.cells #[.bool false, .slice A2 n2 c2] 37) = W2 at *
  generalize w2.heap.size = g2 at *
  refine (HIN.out _ _ _ _ L1.out).mono ?_
  rintro e w3 ⟨rfl, hb⟩
  clear Q5
  clear L1
  clear LA
  replace QF := Lib.hid (QF.out.via hb)
  replace QR := Lib.hid (QR.out.via hb)
  replace LB := Lib.hid (LB.out.via hb)
  replace L2 := Lib.hid (L2.out.via hb)
  replace Q6 := Lib.hid (Q6.out.via hb)
  replace BW := Lib.hid (btr BW.out hb)
  clear hb
  have ⟨rQ60, rQ61, rQ62, rQ63, rQ6l⟩ := Q6.out
  go_wp2_with fail
  clear rQ60 rQ61 rQ62 rQ63 rQ6l
  refine (HWH.out _).mono ?_
  rintro e w4 ⟨rfl, hb⟩
  clear Q6
  clear L2
  clear LB
  clear QF
  replace QR := Lib.hid (QR.out.via hb)
  replace BW := Lib.hid (btr BW.out hb)
  clear hb
  have ⟨rQR0, rQR1, rQR2, rQR3, rQRl⟩ := QR.out
  go_wp2
  exact post_iv Tryz.results15 rfl rfl ((QR.out.set _ _).alloc _) ⟨ret_outF HM.out, sbal (below_set2 BW.out (by omega) _ _) _⟩
set_option maxRecDepth 100000 in
set_option maxHeartbeats 2000000 in
theorem sof_c0 (w : World) (na : Bool) (A B : Option Addr) (n m ca cb : Nat) (N D : Int) (hA : Lm w w.heap.size A n ca (digs N.natAbs)) (hB : Lm w w.heap.size B m cb (digs D.natAbs)) (hD : 0 < D) (hsN : Sz 300 N) (hsD : Sz 300 D) (hg : fchk na (digs N.natAbs) false (digs D.natAbs) = 0) (ha : decide (N < 0) = na) (h1 : -2097152 ≤ N / D) (h2 : N / D ≤ 2097152) (h3 : N * 1099511627776 % D = 0) : Calls Tryz.prog 15 #[fv na A n ca false B m cb] w (RO w (offO N D)) := by
  have HA := Lib.hid hA
  have HB := Lib.hid hB
  have hck : ∀ W, Lm W W.heap.size A n ca (digs N.natAbs) → Lm W W.heap.size B m cb (digs D.natAbs) → Calls Tryz.prog 36 #[fv na A n ca false B m cb] W (RN1 W 0) := fun W L1 L2 => by
    have h := fcheck_any W na false A B n m ca cb _ _ L1 L2
    rw [hg] at h
    exact h
  obtain ⟨q, hq⟩ : ∃ q, N / D = q := ⟨_, rfl⟩
  have hsq : Sz 300 q := by
    have h1 := Int.mul_ediv_add_emod N D
    have h2 := Int.emod_nonneg N (show D ≠ 0 by omega)
    have h3 := Int.emod_lt_of_pos N hD
    rw [hq] at h1
    unfold Sz at *
    have h4 : q.natAbs ≤ N.natAbs := by
      rcases Int.lt_or_le q 0 with h | h
      · have h5 : D * q ≤ 1 * q := Int.mul_le_mul_of_nonpos_right (by omega) (by omega)
        have h6 : D * q = -(D * (-q)) := by rw [Int.mul_neg]; omega
        have h7 : 0 ≤ (D - 1) * (-q - 1) := Int.mul_nonneg (by omega) (by omega)
        have h8 : (D - 1) * (-q - 1) = D * (-q) - D + q + 1 := by grind
        omega
      · have h5 : 1 * q ≤ D * q := Int.mul_le_mul_of_nonneg_right (by omega) h
        omega
    omega
  have hdm : ∀ W, Lm W W.heap.size A n ca (digs N.natAbs) → Lm W W.heap.size B m cb (digs D.natAbs) → Calls Tryz.prog 37 #[.agg #[.bool na, .slice A n ca], .agg #[.bool false, .slice B m cb]] W fun e w' => ∃ A n c A' n' c', e = .returned (.tuple #[.agg #[.bool (decide (q < 0)), .slice A n c], .agg #[.bool false, .slice A' n' c'], .int .i64 0]) ∧ Lm w' w'.heap.size A n c (digs q.natAbs) ∧ Lm w' w'.heap.size A' n' c' (digs (N % D).natAbs) ∧ Below W.heap.size W w' := fun W L1 L2 =>
    (divmod_n W A B n m ca cb 300 N D L1 L2 hsN hsD (by omega) (by omega) ha (decide_eq_false (by omega))).mono fun e w' h => RDF.of hq (rd2_f hD h)
  have hin : ∀ W A' n' c', Lm W W.heap.size A' n' c' (digs q.natAbs) → Calls Tryz.prog 38 #[.agg #[.bool (decide (q < 0)), .slice A' n' c']] W fun e w' => e = .returned (.tuple #[.int .i64 (i64V q), .int .i64 (i64E q)]) ∧ Below W.heap.size W w' := fun W A' n' c' L => int_n W A' n' c' 300 q L hsq (by omega) rfl
  obtain ⟨s1, s2, s3, s4⟩ := share_eq (N := N) hD
  have hr0 := Int.emod_nonneg N (show D ≠ 0 by omega)
  have hr1 := Int.emod_lt_of_pos N hD
  have hsh : ∀ W A' n' c', Lm W W.heap.size A' n' c' (digs (N % D).natAbs) → Lm W W.heap.size B m cb (digs D.natAbs) → Calls Tryz.prog 39 #[.agg #[.bool false, .slice A' n' c'], .agg #[.bool false, .slice B m cb]] W fun e w' => e = .returned (.tuple #[.int .i64 (N % D * 1099511627776 / D), .bool false]) ∧ Below W.heap.size W w' := fun W A' n' c' L1 L2 => by
    have h := share_n W A' B n' m c' cb 300 (N % D) D L1 L2 hr0 hr1 (by omega) hsD
    rw [← s2] at h
    rwa [decide_eq_false (by omega)] at h
  obtain ⟨u, hu⟩ : ∃ u, u = N % D * 1099511627776 / D := ⟨_, rfl⟩
  rw [← hu] at hsh s1 s3 s4
  rw [hq] at h1 h2 s1
  obtain ⟨L0, hL0⟩ : ∃ L0, L0 = q * 1099511627776 := ⟨_, rfl⟩
  rw [← hL0] at s1
  have hl1 : -2305843009213693952 ≤ L0 := by omega
  have hl2 : L0 ≤ 2305843009213693952 := by omega
  have hw1 : IntKind.i64.wrap (L0 + u) = L0 + u := IntWalk.i64_in _ (by omega)
  have hw2 : IntKind.i64.wrap (L0 + u + 1) = L0 + u + 1 := IntWalk.i64_in _ (by omega)
  have HM : Hid (mkI (L0 + u) (L0 + u) = offO N D) := by show _ = _; unfold offO; rw [div_mod_c hD, if_pos h3, s1]
  rw [(i64_in' (q := q) (by omega)).1, (i64_in' (q := q) (by omega)).2] at hin
  have hwh := fun W => swhole_any W q (by omega) (by omega)
  rw [who_in h1 h2, ← hL0] at hwh
  have HWH := Lib.hid hwh
  have HSH := Lib.hid hsh
  clear hwh hsh s1 s2 s3 s4 hr0 hr1 hu hL0 h1 h2 h3
  have HCK := Lib.hid hck
  have HDM := Lib.hid hdm
  have HIN := Lib.hid hin
  clear hck hdm hin hsq hsN hsD hg ha hA hB
  have HD := Lib.hid hD
  have HQ := Lib.hid hq
  clear hD hq
  obtain ⟨zq, hzq⟩ : ∃ b, decide (q < 0) = b := ⟨_, rfl⟩
  rw [hzq] at HDM HIN
  clear hzq
  go_enter Tryz.func15, Tryz.ntmps15
  have QF := Lib.hid ((Qd.new w (w.heap.size) rfl (.bool na) (.slice A n ca) (.bool false) (.slice B m cb) 39).alloc (.cells #[.int .i64 0, .int .i64 0] 23))
  have QR := Lib.hid (Pr.new (w.alloc (.cells #[.bool na, .slice A n ca, .bool false, .slice B m cb] 39)) (w.heap.size + 1) (by simp) (.int .i64 0) (.int .i64 0) 23)
  have LA := Lib.hid ((HA.out.box (.cells #[.bool na, .slice A n ca, .bool false, .slice B m cb] 39)).box (.cells #[.int .i64 0, .int .i64 0] 23))
  have LB := Lib.hid ((HB.out.box (.cells #[.bool na, .slice A n ca, .bool false, .slice B m cb] 39)).box (.cells #[.int .i64 0, .int .i64 0] 23))
  have BW : Hid (Below w.heap.size w ((w.alloc (.cells #[.bool na, .slice A n ca, .bool false, .slice B m cb] 39)).alloc (.cells #[.int .i64 0, .int .i64 0] 23))) := (sbal (sbal (Below.refl _ _) _) _)
  clear HA HB
  go_wp2_with fail
  generalize (w.alloc (.cells #[.bool na, .slice A n ca, .bool false, .slice B m cb] 39)).alloc (.cells #[.int .i64 0, .int .i64 0] 23) = W0 at *
  refine (HCK.out _ LA.out LB.out).mono ?_
  rintro e w1 ⟨rfl, hb⟩
  replace QF := Lib.hid (QF.out.via hb)
  replace QR := Lib.hid (QR.out.via hb)
  replace LA := Lib.hid (LA.out.via hb)
  replace LB := Lib.hid (LB.out.via hb)
  replace BW := Lib.hid (btr BW.out hb)
  clear hb
  have ⟨rQF0, rQF1, rQF2, rQF3, rQF4, rQF5, rQF6, rQF7, rQFl⟩ := QF.out
  go_wp2_with fail
  clear rQF0 rQF1 rQF2 rQF3 rQF4 rQF5 rQF6 rQF7 rQFl
  refine (HDM.out _ LA.out LB.out).mono ?_
  rintro e w2 ⟨A1, n1, c1, A2, n2, c2, rfl, hL1, hL2, hb⟩
  replace QF := Lib.hid (QF.out.via hb)
  replace QR := Lib.hid (QR.out.via hb)
  replace LA := Lib.hid (LA.out.via hb)
  replace LB := Lib.hid (LB.out.via hb)
  replace BW := Lib.hid (btr BW.out hb)
  have L1 := Lib.hid hL1
  have L2 := Lib.hid hL2
  clear hb hL1 hL2
  have ⟨rQF0, rQF1, rQF2, rQF3, rQF4, rQF5, rQF6, rQF7, rQFl⟩ := QF.out
  go_wp2_with fail
  clear rQF0 rQF1 rQF2 rQF3 rQF4 rQF5 rQF6 rQF7 rQFl
  replace QF := Lib.hid ((QF.out.alloc (.cells #[.bool zq, .slice A1 n1 c1] 37)).alloc (.cells #[.bool false, .slice A2 n2 c2] 37))
  replace QR := Lib.hid ((QR.out.alloc (.cells #[.bool zq, .slice A1 n1 c1] 37)).alloc (.cells #[.bool false, .slice A2 n2 c2] 37))
  replace LA := Lib.hid ((LA.out.box (.cells #[.bool zq, .slice A1 n1 c1] 37)).box (.cells #[.bool false, .slice A2 n2 c2] 37))
  replace LB := Lib.hid ((LB.out.box (.cells #[.bool zq, .slice A1 n1 c1] 37)).box (.cells #[.bool false, .slice A2 n2 c2] 37))
  replace L1 := Lib.hid ((L1.out.box (.cells #[.bool zq, .slice A1 n1 c1] 37)).box (.cells #[.bool false, .slice A2 n2 c2] 37))
  replace L2 := Lib.hid ((L2.out.box (.cells #[.bool zq, .slice A1 n1 c1] 37)).box (.cells #[.bool false, .slice A2 n2 c2] 37))
  have Q5 := Lib.hid ((Pr.new w2 _ rfl (.bool zq) (.slice A1 n1 c1) 37).alloc (.cells #[.bool false, .slice A2 n2 c2] 37))
  have Q6 := Lib.hid (Pr.new (w2.alloc (.cells #[.bool zq, .slice A1 n1 c1] 37)) (w2.heap.size + 1) (by simp) (.bool false) (.slice A2 n2 c2) 37)
  replace BW := Lib.hid (sbal (sbal BW.out (.cells #[.bool zq, .slice A1 n1 c1] 37)) (.cells #[.bool false, .slice A2 n2 c2] 37))
  generalize (w2.alloc (.cells #[.bool zq, .slice A1 n1 c1] 37)).alloc (.cells #[.bool false, .slice A2 n2 c2] 37) = W2 at *
  generalize w2.heap.size = g2 at *
  refine (HIN.out _ _ _ _ L1.out).mono ?_
  rintro e w3 ⟨rfl, hb⟩
  clear Q5
  clear L1
  clear LA
  replace QF := Lib.hid (QF.out.via hb)
  replace QR := Lib.hid (QR.out.via hb)
  replace LB := Lib.hid (LB.out.via hb)
  replace L2 := Lib.hid (L2.out.via hb)
  replace Q6 := Lib.hid (Q6.out.via hb)
  replace BW := Lib.hid (btr BW.out hb)
  clear hb
  have ⟨rQ60, rQ61, rQ62, rQ63, rQ6l⟩ := Q6.out
  go_wp2_with fail
  clear rQ60 rQ61 rQ62 rQ63 rQ6l
  refine (HWH.out _).mono ?_
  rintro e w4 ⟨rfl, hb⟩
  replace QF := Lib.hid (QF.out.via hb)
  replace QR := Lib.hid (QR.out.via hb)
  replace LB := Lib.hid (LB.out.via hb)
  replace L2 := Lib.hid (L2.out.via hb)
  replace Q6 := Lib.hid (Q6.out.via hb)
  replace BW := Lib.hid (btr BW.out hb)
  clear hb
  have hgrB := QR.out.lt
  have ⟨rQF0, rQF1, rQF2, rQF3, rQF4, rQF5, rQF6, rQF7, rQFl⟩ := QF.out
  have ⟨rQ60, rQ61, rQ62, rQ63, rQ6l⟩ := Q6.out
  go_wp2_with fail
  clear rQF0 rQF1 rQF2 rQF3 rQF4 rQF5 rQF6 rQF7 rQFl rQ60 rQ61 rQ62 rQ63 rQ6l
  replace QF := Lib.hid (QF.out.alloc (.cells #[.int .i64 L0, .int .i64 L0] 23))
  replace QR := Lib.hid (QR.out.alloc (.cells #[.int .i64 L0, .int .i64 L0] 23))
  replace LB := Lib.hid (LB.out.box (.cells #[.int .i64 L0, .int .i64 L0] 23))
  replace L2 := Lib.hid (L2.out.box (.cells #[.int .i64 L0, .int .i64 L0] 23))
  replace Q6 := Lib.hid (Q6.out.alloc (.cells #[.int .i64 L0, .int .i64 L0] 23))
  have Q10 := Lib.hid (Pr.new w4 _ rfl (.int .i64 L0) (.int .i64 L0) 23)
  replace BW := Lib.hid (sbal BW.out (.cells #[.int .i64 L0, .int .i64 L0] 23))
  generalize w4.alloc (.cells #[.int .i64 L0, .int .i64 L0] 23) = W4 at *
  generalize w4.heap.size = g4 at *
  have hgr : w.heap.size + 1 < g4 := hgrB
  refine (HSH.out _ _ _ _ L2.out LB.out).mono ?_
  rintro e w5 ⟨rfl, hb⟩
  replace QF := Lib.hid (QF.out.via hb)
  replace QR := Lib.hid (QR.out.via hb)
  replace LB := Lib.hid (LB.out.via hb)
  replace L2 := Lib.hid (L2.out.via hb)
  replace Q6 := Lib.hid (Q6.out.via hb)
  replace Q10 := Lib.hid (Q10.out.via hb)
  replace BW := Lib.hid (btr BW.out hb)
  clear hb
  clear Q6
  clear L2
  clear LB
  clear QF
  have ⟨rQ100, rQ101, rQ102, rQ103, rQ10l⟩ := Q10.out
  go_upto_region 14 with (fail)
  clear rQ100 rQ101 rQ102 rQ103 rQ10l
  replace QR := Lib.hid (QR.out.far (h := g4) (Nat.ne_of_lt hgr) (.int .i64 (L0 + u)) (.int .i64 (L0 + u)))
  replace Q10 := Lib.hid (Q10.out.set (.int .i64 (L0 + u)) (.int .i64 (L0 + u)))
  replace BW := Lib.hid (below_set2 BW.out (g := g4) (by omega) (.int .i64 (L0 + u)) (.int .i64 (L0 + u)))
  generalize (w5.setCell ⟨g4, 0, none⟩ (.int .i64 (L0 + u))).setCell ⟨g4, 1, none⟩ (.int .i64 (L0 + u)) = W9 at *
  have ⟨rQ100, rQ101, rQ102, rQ103, rQ10l⟩ := Q10.out
  go_wp2_with fail
  clear rQ100 rQ101 rQ102 rQ103 rQ10l
  clear Q10
  refine (smade_any _ (L0 + u) (L0 + u) (by omega)).mono ?_
  rintro e w6 ⟨rfl, hb⟩
  replace QR := Lib.hid (QR.out.via hb)
  replace BW := Lib.hid (btr BW.out hb)
  clear hb
  have ⟨rQR0, rQR1, rQR2, rQR3, rQRl⟩ := QR.out
  go_wp2
  exact post_iv Tryz.results15 rfl rfl (QR.out.set _ _) ⟨ret_mkF HM.out, below_set2 BW.out (by omega) _ _⟩
set_option maxRecDepth 100000 in
set_option maxHeartbeats 2000000 in
theorem sof_c1 (w : World) (na : Bool) (A B : Option Addr) (n m ca cb : Nat) (N D : Int) (hA : Lm w w.heap.size A n ca (digs N.natAbs)) (hB : Lm w w.heap.size B m cb (digs D.natAbs)) (hD : 0 < D) (hsN : Sz 300 N) (hsD : Sz 300 D) (hg : fchk na (digs N.natAbs) false (digs D.natAbs) = 0) (ha : decide (N < 0) = na) (h1 : -2097152 ≤ N / D) (h2 : N / D ≤ 2097152) (h3 : 0 < N * 1099511627776 % D) : Calls Tryz.prog 15 #[fv na A n ca false B m cb] w (RO w (offO N D)) := by
  have HA := Lib.hid hA
  have HB := Lib.hid hB
  have hck : ∀ W, Lm W W.heap.size A n ca (digs N.natAbs) → Lm W W.heap.size B m cb (digs D.natAbs) → Calls Tryz.prog 36 #[fv na A n ca false B m cb] W (RN1 W 0) := fun W L1 L2 => by
    have h := fcheck_any W na false A B n m ca cb _ _ L1 L2
    rw [hg] at h
    exact h
  obtain ⟨q, hq⟩ : ∃ q, N / D = q := ⟨_, rfl⟩
  have hsq : Sz 300 q := by
    have h1 := Int.mul_ediv_add_emod N D
    have h2 := Int.emod_nonneg N (show D ≠ 0 by omega)
    have h3 := Int.emod_lt_of_pos N hD
    rw [hq] at h1
    unfold Sz at *
    have h4 : q.natAbs ≤ N.natAbs := by
      rcases Int.lt_or_le q 0 with h | h
      · have h5 : D * q ≤ 1 * q := Int.mul_le_mul_of_nonpos_right (by omega) (by omega)
        have h6 : D * q = -(D * (-q)) := by rw [Int.mul_neg]; omega
        have h7 : 0 ≤ (D - 1) * (-q - 1) := Int.mul_nonneg (by omega) (by omega)
        have h8 : (D - 1) * (-q - 1) = D * (-q) - D + q + 1 := by grind
        omega
      · have h5 : 1 * q ≤ D * q := Int.mul_le_mul_of_nonneg_right (by omega) h
        omega
    omega
  have hdm : ∀ W, Lm W W.heap.size A n ca (digs N.natAbs) → Lm W W.heap.size B m cb (digs D.natAbs) → Calls Tryz.prog 37 #[.agg #[.bool na, .slice A n ca], .agg #[.bool false, .slice B m cb]] W fun e w' => ∃ A n c A' n' c', e = .returned (.tuple #[.agg #[.bool (decide (q < 0)), .slice A n c], .agg #[.bool false, .slice A' n' c'], .int .i64 0]) ∧ Lm w' w'.heap.size A n c (digs q.natAbs) ∧ Lm w' w'.heap.size A' n' c' (digs (N % D).natAbs) ∧ Below W.heap.size W w' := fun W L1 L2 =>
    (divmod_n W A B n m ca cb 300 N D L1 L2 hsN hsD (by omega) (by omega) ha (decide_eq_false (by omega))).mono fun e w' h => RDF.of hq (rd2_f hD h)
  have hin : ∀ W A' n' c', Lm W W.heap.size A' n' c' (digs q.natAbs) → Calls Tryz.prog 38 #[.agg #[.bool (decide (q < 0)), .slice A' n' c']] W fun e w' => e = .returned (.tuple #[.int .i64 (i64V q), .int .i64 (i64E q)]) ∧ Below W.heap.size W w' := fun W A' n' c' L => int_n W A' n' c' 300 q L hsq (by omega) rfl
  obtain ⟨s1, s2, s3, s4⟩ := share_eq (N := N) hD
  have hr0 := Int.emod_nonneg N (show D ≠ 0 by omega)
  have hr1 := Int.emod_lt_of_pos N hD
  have hsh : ∀ W A' n' c', Lm W W.heap.size A' n' c' (digs (N % D).natAbs) → Lm W W.heap.size B m cb (digs D.natAbs) → Calls Tryz.prog 39 #[.agg #[.bool false, .slice A' n' c'], .agg #[.bool false, .slice B m cb]] W fun e w' => e = .returned (.tuple #[.int .i64 (N % D * 1099511627776 / D), .bool true]) ∧ Below W.heap.size W w' := fun W A' n' c' L1 L2 => by
    have h := share_n W A' B n' m c' cb 300 (N % D) D L1 L2 hr0 hr1 (by omega) hsD
    rw [← s2] at h
    rwa [decide_eq_true h3] at h
  obtain ⟨u, hu⟩ : ∃ u, u = N % D * 1099511627776 / D := ⟨_, rfl⟩
  rw [← hu] at hsh s1 s3 s4
  rw [hq] at h1 h2 s1
  obtain ⟨L0, hL0⟩ : ∃ L0, L0 = q * 1099511627776 := ⟨_, rfl⟩
  rw [← hL0] at s1
  have hl1 : -2305843009213693952 ≤ L0 := by omega
  have hl2 : L0 ≤ 2305843009213693952 := by omega
  have hw1 : IntKind.i64.wrap (L0 + u) = L0 + u := IntWalk.i64_in _ (by omega)
  have hw2 : IntKind.i64.wrap (L0 + u + 1) = L0 + u + 1 := IntWalk.i64_in _ (by omega)
  have HM : Hid (mkI (L0 + u) (L0 + u + 1) = offO N D) := by show _ = _; unfold offO; rw [div_mod_c hD, if_neg (by omega), s1]
  rw [(i64_in' (q := q) (by omega)).1, (i64_in' (q := q) (by omega)).2] at hin
  have hwh := fun W => swhole_any W q (by omega) (by omega)
  rw [who_in h1 h2, ← hL0] at hwh
  have HWH := Lib.hid hwh
  have HSH := Lib.hid hsh
  clear hwh hsh s1 s2 s3 s4 hr0 hr1 hu hL0 h1 h2 h3
  have HCK := Lib.hid hck
  have HDM := Lib.hid hdm
  have HIN := Lib.hid hin
  clear hck hdm hin hsq hsN hsD hg ha hA hB
  have HD := Lib.hid hD
  have HQ := Lib.hid hq
  clear hD hq
  obtain ⟨zq, hzq⟩ : ∃ b, decide (q < 0) = b := ⟨_, rfl⟩
  rw [hzq] at HDM HIN
  clear hzq
  go_enter Tryz.func15, Tryz.ntmps15
  have QF := Lib.hid ((Qd.new w (w.heap.size) rfl (.bool na) (.slice A n ca) (.bool false) (.slice B m cb) 39).alloc (.cells #[.int .i64 0, .int .i64 0] 23))
  have QR := Lib.hid (Pr.new (w.alloc (.cells #[.bool na, .slice A n ca, .bool false, .slice B m cb] 39)) (w.heap.size + 1) (by simp) (.int .i64 0) (.int .i64 0) 23)
  have LA := Lib.hid ((HA.out.box (.cells #[.bool na, .slice A n ca, .bool false, .slice B m cb] 39)).box (.cells #[.int .i64 0, .int .i64 0] 23))
  have LB := Lib.hid ((HB.out.box (.cells #[.bool na, .slice A n ca, .bool false, .slice B m cb] 39)).box (.cells #[.int .i64 0, .int .i64 0] 23))
  have BW : Hid (Below w.heap.size w ((w.alloc (.cells #[.bool na, .slice A n ca, .bool false, .slice B m cb] 39)).alloc (.cells #[.int .i64 0, .int .i64 0] 23))) := (sbal (sbal (Below.refl _ _) _) _)
  clear HA HB
  go_wp2_with fail
  generalize (w.alloc (.cells #[.bool na, .slice A n ca, .bool false, .slice B m cb] 39)).alloc (.cells #[.int .i64 0, .int .i64 0] 23) = W0 at *
  refine (HCK.out _ LA.out LB.out).mono ?_
  rintro e w1 ⟨rfl, hb⟩
  replace QF := Lib.hid (QF.out.via hb)
  replace QR := Lib.hid (QR.out.via hb)
  replace LA := Lib.hid (LA.out.via hb)
  replace LB := Lib.hid (LB.out.via hb)
  replace BW := Lib.hid (btr BW.out hb)
  clear hb
  have ⟨rQF0, rQF1, rQF2, rQF3, rQF4, rQF5, rQF6, rQF7, rQFl⟩ := QF.out
  go_wp2_with fail
  clear rQF0 rQF1 rQF2 rQF3 rQF4 rQF5 rQF6 rQF7 rQFl
  refine (HDM.out _ LA.out LB.out).mono ?_
  rintro e w2 ⟨A1, n1, c1, A2, n2, c2, rfl, hL1, hL2, hb⟩
  replace QF := Lib.hid (QF.out.via hb)
  replace QR := Lib.hid (QR.out.via hb)
  replace LA := Lib.hid (LA.out.via hb)
  replace LB := Lib.hid (LB.out.via hb)
  replace BW := Lib.hid (btr BW.out hb)
  have L1 := Lib.hid hL1
  have L2 := Lib.hid hL2
  clear hb hL1 hL2
  have ⟨rQF0, rQF1, rQF2, rQF3, rQF4, rQF5, rQF6, rQF7, rQFl⟩ := QF.out
  go_wp2_with fail
  clear rQF0 rQF1 rQF2 rQF3 rQF4 rQF5 rQF6 rQF7 rQFl
  replace QF := Lib.hid ((QF.out.alloc (.cells #[.bool zq, .slice A1 n1 c1] 37)).alloc (.cells #[.bool false, .slice A2 n2 c2] 37))
  replace QR := Lib.hid ((QR.out.alloc (.cells #[.bool zq, .slice A1 n1 c1] 37)).alloc (.cells #[.bool false, .slice A2 n2 c2] 37))
  replace LA := Lib.hid ((LA.out.box (.cells #[.bool zq, .slice A1 n1 c1] 37)).box (.cells #[.bool false, .slice A2 n2 c2] 37))
  replace LB := Lib.hid ((LB.out.box (.cells #[.bool zq, .slice A1 n1 c1] 37)).box (.cells #[.bool false, .slice A2 n2 c2] 37))
  replace L1 := Lib.hid ((L1.out.box (.cells #[.bool zq, .slice A1 n1 c1] 37)).box (.cells #[.bool false, .slice A2 n2 c2] 37))
  replace L2 := Lib.hid ((L2.out.box (.cells #[.bool zq, .slice A1 n1 c1] 37)).box (.cells #[.bool false, .slice A2 n2 c2] 37))
  have Q5 := Lib.hid ((Pr.new w2 _ rfl (.bool zq) (.slice A1 n1 c1) 37).alloc (.cells #[.bool false, .slice A2 n2 c2] 37))
  have Q6 := Lib.hid (Pr.new (w2.alloc (.cells #[.bool zq, .slice A1 n1 c1] 37)) (w2.heap.size + 1) (by simp) (.bool false) (.slice A2 n2 c2) 37)
  replace BW := Lib.hid (sbal (sbal BW.out (.cells #[.bool zq, .slice A1 n1 c1] 37)) (.cells #[.bool false, .slice A2 n2 c2] 37))
  generalize (w2.alloc (.cells #[.bool zq, .slice A1 n1 c1] 37)).alloc (.cells #[.bool false, .slice A2 n2 c2] 37) = W2 at *
  generalize w2.heap.size = g2 at *
  refine (HIN.out _ _ _ _ L1.out).mono ?_
  rintro e w3 ⟨rfl, hb⟩
  clear Q5
  clear L1
  clear LA
  replace QF := Lib.hid (QF.out.via hb)
  replace QR := Lib.hid (QR.out.via hb)
  replace LB := Lib.hid (LB.out.via hb)
  replace L2 := Lib.hid (L2.out.via hb)
  replace Q6 := Lib.hid (Q6.out.via hb)
  replace BW := Lib.hid (btr BW.out hb)
  clear hb
  have ⟨rQ60, rQ61, rQ62, rQ63, rQ6l⟩ := Q6.out
  go_wp2_with fail
  clear rQ60 rQ61 rQ62 rQ63 rQ6l
  refine (HWH.out _).mono ?_
  rintro e w4 ⟨rfl, hb⟩
  replace QF := Lib.hid (QF.out.via hb)
  replace QR := Lib.hid (QR.out.via hb)
  replace LB := Lib.hid (LB.out.via hb)
  replace L2 := Lib.hid (L2.out.via hb)
  replace Q6 := Lib.hid (Q6.out.via hb)
  replace BW := Lib.hid (btr BW.out hb)
  clear hb
  have hgrB := QR.out.lt
  have ⟨rQF0, rQF1, rQF2, rQF3, rQF4, rQF5, rQF6, rQF7, rQFl⟩ := QF.out
  have ⟨rQ60, rQ61, rQ62, rQ63, rQ6l⟩ := Q6.out
  go_wp2_with fail
  clear rQF0 rQF1 rQF2 rQF3 rQF4 rQF5 rQF6 rQF7 rQFl rQ60 rQ61 rQ62 rQ63 rQ6l
  replace QF := Lib.hid (QF.out.alloc (.cells #[.int .i64 L0, .int .i64 L0] 23))
  replace QR := Lib.hid (QR.out.alloc (.cells #[.int .i64 L0, .int .i64 L0] 23))
  replace LB := Lib.hid (LB.out.box (.cells #[.int .i64 L0, .int .i64 L0] 23))
  replace L2 := Lib.hid (L2.out.box (.cells #[.int .i64 L0, .int .i64 L0] 23))
  replace Q6 := Lib.hid (Q6.out.alloc (.cells #[.int .i64 L0, .int .i64 L0] 23))
  have Q10 := Lib.hid (Pr.new w4 _ rfl (.int .i64 L0) (.int .i64 L0) 23)
  replace BW := Lib.hid (sbal BW.out (.cells #[.int .i64 L0, .int .i64 L0] 23))
  generalize w4.alloc (.cells #[.int .i64 L0, .int .i64 L0] 23) = W4 at *
  generalize w4.heap.size = g4 at *
  have hgr : w.heap.size + 1 < g4 := hgrB
  refine (HSH.out _ _ _ _ L2.out LB.out).mono ?_
  rintro e w5 ⟨rfl, hb⟩
  replace QF := Lib.hid (QF.out.via hb)
  replace QR := Lib.hid (QR.out.via hb)
  replace LB := Lib.hid (LB.out.via hb)
  replace L2 := Lib.hid (L2.out.via hb)
  replace Q6 := Lib.hid (Q6.out.via hb)
  replace Q10 := Lib.hid (Q10.out.via hb)
  replace BW := Lib.hid (btr BW.out hb)
  clear hb
  clear Q6
  clear L2
  clear LB
  clear QF
  have ⟨rQ100, rQ101, rQ102, rQ103, rQ10l⟩ := Q10.out
  go_upto_region 14 with (fail)
  clear rQ100 rQ101 rQ102 rQ103 rQ10l
  replace QR := Lib.hid (QR.out.far (h := g4) (Nat.ne_of_lt hgr) (.int .i64 (L0 + u)) (.int .i64 (L0 + u)))
  replace Q10 := Lib.hid (Q10.out.set (.int .i64 (L0 + u)) (.int .i64 (L0 + u)))
  replace BW := Lib.hid (below_set2 BW.out (g := g4) (by omega) (.int .i64 (L0 + u)) (.int .i64 (L0 + u)))
  generalize (w5.setCell ⟨g4, 0, none⟩ (.int .i64 (L0 + u))).setCell ⟨g4, 1, none⟩ (.int .i64 (L0 + u)) = W9 at *
  have ⟨rQ100, rQ101, rQ102, rQ103, rQ10l⟩ := Q10.out
  go_wp2_with fail
  clear rQ100 rQ101 rQ102 rQ103 rQ10l
  replace QR := Lib.hid (QR.out.farB (h := g4) (Nat.ne_of_lt hgr) 1 (.int .i64 (L0 + u + 1)))
  replace BW := Lib.hid (BW.out.setCell (p := ⟨g4, 1, none⟩) (by show _ ≤ g4; omega) (.int .i64 (L0 + u + 1)))
  clear Q10
  generalize W9.setCell ⟨g4, 1, none⟩ (.int .i64 (L0 + u + 1)) = W10 at *
  refine (smade_any _ (L0 + u) (L0 + u + 1) (by omega)).mono ?_
  rintro e w6 ⟨rfl, hb⟩
  replace QR := Lib.hid (QR.out.via hb)
  replace BW := Lib.hid (btr BW.out hb)
  clear hb
  have ⟨rQR0, rQR1, rQR2, rQR3, rQRl⟩ := QR.out
  go_wp2
  exact post_iv Tryz.results15 rfl rfl (QR.out.set _ _) ⟨ret_mkF HM.out, below_set2 BW.out (by omega) _ _⟩
end Go.Proofs.YtegnaknoaflppaaGreatDoor

/- Intervals: checkAll, and join, change on both sides. -/
namespace Go.Proofs.YtegnaknoaflppaaGreatDoor
open Go.RowKit

/-- Block g holds four cells. -/
structure C4 (w : World) (g : Nat) (x0 x1 x2 x3 : Value) : Prop where
  c0 : w.cell? ⟨g, 0, none⟩ = some x0
  c1 : w.cell? ⟨g, 1, none⟩ = some x1
  c2 : w.cell? ⟨g, 2, none⟩ = some x2
  c3 : w.cell? ⟨g, 3, none⟩ = some x3
  lt : g < w.heap.size
theorem C4.new (w : World) (k : Nat) (hk : w.heap.size = k) (x0 x1 x2 x3 : Value) (t : TypeId) : C4 (w.alloc (.cells #[x0, x1, x2, x3] t)) k x0 x1 x2 x3 := by
  subst hk
  refine ⟨?_, ?_, ?_, ?_, by simp⟩ <;> go_simp
theorem C4.via {w w' : World} {g : Nat} {x0 x1 x2 x3 : Value} (p : C4 w g x0 x1 x2 x3) (hb : Below w.heap.size w w') : C4 w' g x0 x1 x2 x3 :=
  ⟨(hb.cell (p := ⟨g, 0, none⟩) p.lt).trans p.c0, (hb.cell (p := ⟨g, 1, none⟩) p.lt).trans p.c1, (hb.cell (p := ⟨g, 2, none⟩) p.lt).trans p.c2, (hb.cell (p := ⟨g, 3, none⟩) p.lt).trans p.c3, Nat.lt_of_lt_of_le p.lt hb.size⟩

set_option maxRecDepth 100000 in
set_option maxHeartbeats 1000000 in
theorem checkall_any (w : World) (g : Nat) (al ah bl bh : Int) (hC : C4 w g (.int .i64 al) (.int .i64 ah) (.int .i64 bl) (.int .i64 bh)) :
    Calls Tryz.prog 30 #[.slice (some ⟨g, 0, none⟩) 2 2] w (RN1 w (ivB2 al ah bl bh)) := by
  have HC := Lib.hid hC
  clear hC
  go_enter Tryz.func30, Tryz.ntmps30
  go_wp2
  go_loopw [8] (fun i wr => ∃ k : Nat, k ≤ 2 ∧ i = .int .i64 k ∧ (1 ≤ k → ivC al ah = 0) ∧ (2 ≤ k → ivC bl bh = 0) ∧ Below w.heap.size w wr) (fun i _ => 2 - (intOf i).toNat)
  case atStart => exact ⟨0, by omega, rfl, by omega, by omega, Below.refl _ _⟩
  case round =>
    obtain ⟨k, hk, rfl, h1, h2, hB⟩ := hrel
    have HB := Lib.hid hB
    have H1 := Lib.hid h1
    have H2 := Lib.hid h2
    have P := Lib.hid (HC.out.via hB)
    clear hB h1 h2
    rcases (show k = 0 ∨ k = 1 ∨ k = 2 by omega) with rfl | rfl | rfl
    · have ⟨a0, a1, _, _, _⟩ := P.out
      go_wp2_with fail
      refine (scheck_any _ al ah).mono ?_
      rintro e w1 ⟨rfl, hb⟩
      have B1 := Lib.hid (sbtr HB.out (bbox hb))
      clear hb a0 a1
      rcases ivC_cases al ah with ⟨h, _⟩ | ⟨h, _⟩
      · have H := Lib.hid h
        rw [h]; clear h
        go_wp2
        go_roundw
        case rel => exact ⟨1, by omega, by go_num, fun _ => H.out, by omega, B1.out⟩
        case measure => simp [intOf]
      · have H := Lib.hid h
        rw [h]; clear h
        go_wp2
        go_ret
        exact ⟨ret_int (by rw [ivB2_bad H.out]), B1.out⟩
    · have ⟨_, _, a0, a1, _⟩ := P.out
      go_wp2_with fail
      refine (scheck_any _ bl bh).mono ?_
      rintro e w1 ⟨rfl, hb⟩
      have B1 := Lib.hid (sbtr HB.out (bbox hb))
      clear hb a0 a1
      rcases ivC_cases bl bh with ⟨h, _⟩ | ⟨h, _⟩
      · have H := Lib.hid h
        rw [h]; clear h
        go_wp2
        go_roundw
        case rel => exact ⟨2, by omega, by go_num, fun _ => H1.out (by omega), fun _ => H.out, B1.out⟩
        case measure => simp [intOf]
      · have H := Lib.hid h
        rw [h]; clear h
        go_wp2
        go_ret
        exact ⟨ret_int (by rw [ivB2_ok (H1.out (by omega)), H.out]), B1.out⟩
    · go_wp2
      go_ret
      exact ⟨ret_int (by rw [ivB2_ok (H1.out (by omega)), H2.out (by omega)]), HB.out⟩

/-- What a function of two intervals returns: the first error, or what the ends make. -/
def j2 (al ah bl bh : Int) (o : Out) : Out := if ivB2 al ah bl bh = 0 then o else ⟨0, 0, ivB2 al ah bl bh⟩
def j1 (al ah : Int) (o : Out) : Out := if ivC al ah = 0 then o else ⟨0, 0, ivC al ah⟩
theorem ivB2_cases (al ah bl bh : Int) : ivB2 al ah bl bh = 0 ∧ ivC al ah = 0 ∧ ivC bl bh = 0 ∨ ivB2 al ah bl bh = 8 := by
  rcases ivC_cases al ah with ⟨h, _⟩ | ⟨h, _⟩
  · rw [ivB2_ok h]
    rcases ivC_cases bl bh with ⟨h', _⟩ | ⟨h', _⟩
    · exact .inl ⟨h', h, h'⟩
    · exact .inr h'
  · exact .inr (ivB2_bad h)
theorem ivC_le {lo hi : Int} (h : ivC lo hi = 0) : -2305843009213693952 ≤ lo ∧ lo ≤ hi ∧ hi ≤ 2305843009213693952 := by
  rcases ivC_cases lo hi with ⟨_, h1, h2, h3⟩ | ⟨h8, _⟩
  · exact ⟨h1, h2, h3⟩
  · rw [h8] at h; exact absurd h (by decide)
set_option maxRecDepth 100000 in
set_option maxHeartbeats 1000000 in
theorem join_any (w : World) (f : FuncId) (al ah bl bh lo hi : Int) (hcf : ∀ (u v : Value) (W : World), (callFunc f #[u, v]).run Tryz.prog W = .ok (.enter f #[u, v]) W)
    (H : ivC al ah = 0 → ivC bl bh = 0 → lo ≤ hi ∧ ∀ W, Calls Tryz.prog f #[iv al ah, iv bl bh] W (RV W lo hi)) :
    Calls Tryz.prog 24 #[iv al ah, iv bl bh, .func (.func f) #[] #[]] w (RO w (j2 al ah bl bh (mkI lo hi))) := by
  have HH := Lib.hid H
  have PA := Lib.hid (((Pr.new w w.heap.size rfl (.int .i64 al) (.int .i64 ah) 23).alloc (ivB bl bh)).alloc (ivB 0 0))
  have PB := Lib.hid ((Pr.new (w.alloc (ivB al ah)) (w.heap.size + 1) (by simp) (.int .i64 bl) (.int .i64 bh) 23).alloc (ivB 0 0))
  have PR := Lib.hid (Pr.new ((w.alloc (ivB al ah)).alloc (ivB bl bh)) (w.heap.size + 1 + 1) (by simp) (.int .i64 0) (.int .i64 0) 23)
  have BW : Hid (Below w.heap.size w (((w.alloc (ivB al ah)).alloc (ivB bl bh)).alloc (ivB 0 0))) := sbal (sbal (sbal (Below.refl _ _) _) _) _
  clear H
  go_enter Tryz.func24, Tryz.ntmps24
  have hs : (((w.alloc (ivB al ah)).alloc (ivB bl bh)).alloc (ivB 0 0)).heap.size = w.heap.size + 1 + 1 + 1 := by simp
  have HS := Lib.hid hs
  clear hs
  go_wp2_with fail
  generalize ((w.alloc (ivB al ah)).alloc (ivB bl bh)).alloc (ivB 0 0) = W0 at *
  refine (checkall_any _ _ al ah bl bh (C4.new W0 _ HS.out _ _ _ _ _)).mono ?_
  rintro e w1 ⟨rfl, hb⟩
  have P1 := Lib.hid (PA.out.via (bbox hb))
  have P2 := Lib.hid (PB.out.via (bbox hb))
  have P3 := Lib.hid (PR.out.via (bbox hb))
  have B1 := Lib.hid (sbtr BW.out (bbox hb))
  clear hb PA PB PR BW HS
  rcases ivB2_cases al ah bl bh with ⟨h, ha, hbb⟩ | h
  · have e : j2 al ah bl bh (mkI lo hi) = mkI lo hi := by unfold j2; rw [if_pos h]
    rw [h]
    have E := Lib.hid e
    obtain ⟨hle, hc⟩ := HH.out ha hbb
    have HC := Lib.hid hc
    have ⟨a0, a1, _, _, _⟩ := P1.out
    have ⟨b0, b1, _, _, _⟩ := P2.out
    clear h ha hbb hc e HH
    go_wp2_with fail
    refine (HC.out _).mono ?_
    rintro e w2 ⟨rfl, hb⟩
    have B2 := Lib.hid (sbtr B1.out hb)
    have P4 := Lib.hid (P3.out.via hb)
    clear hb a0 a1 b0 b1 B1
    go_wp2_with fail
    refine (smade_any _ lo hi hle).mono ?_
    rintro e w3 ⟨rfl, hb⟩
    have B3 := Lib.hid (sbtr B2.out hb)
    have P5 := Lib.hid (P4.out.via hb)
    clear hb B2 hcf
    have ⟨r0, r1, f0, f1, rl⟩ := P5.out
    go_wp2
    exact post_iv Tryz.results24 rfl rfl (P5.out.set _ _) ⟨by rw [E.out]; rfl, below_set2 B3.out (by omega) _ _⟩
  · have e : j2 al ah bl bh (mkI lo hi) = ⟨0, 0, 8⟩ := by unfold j2; rw [if_neg (by rw [h]; decide), h]
    rw [h]
    have E := Lib.hid e
    have ⟨r0, r1, f0, f1, rl⟩ := P3.out
    clear h e HH hcf
    go_wp2
    exact post_iv Tryz.results24 rfl rfl (P3.out.set _ _) ⟨by rw [E.out]; rfl, below_set2 B1.out (by omega) _ _⟩

set_option maxRecDepth 100000 in
set_option maxHeartbeats 1000000 in
theorem change_any (w : World) (f : FuncId) (al ah lo hi : Int) (hcf : ∀ (u : Value) (W : World), (callFunc f #[u]).run Tryz.prog W = .ok (.enter f #[u]) W)
    (H : ivC al ah = 0 → lo ≤ hi ∧ ∀ W, Calls Tryz.prog f #[iv al ah] W (RV W lo hi)) :
    Calls Tryz.prog 40 #[iv al ah, .func (.func f) #[] #[]] w (RO w (j1 al ah (mkI lo hi))) := by
  have HH := Lib.hid H
  have PA := Lib.hid ((Pr.new w w.heap.size rfl (.int .i64 al) (.int .i64 ah) 23).alloc (ivB 0 0))
  have PR := Lib.hid (Pr.new (w.alloc (ivB al ah)) (w.heap.size + 1) (by simp) (.int .i64 0) (.int .i64 0) 23)
  have BW : Hid (Below w.heap.size w ((w.alloc (ivB al ah)).alloc (ivB 0 0))) := sbal (sbal (Below.refl _ _) _) _
  clear H
  go_enter Tryz.func40, Tryz.ntmps40
  go_wp2_with fail
  generalize (w.alloc (ivB al ah)).alloc (ivB 0 0) = W0 at *
  refine (scheck_any _ al ah).mono ?_
  rintro e w1 ⟨rfl, hb⟩
  have P1 := Lib.hid (PA.out.via hb)
  have P3 := Lib.hid (PR.out.via hb)
  have B1 := Lib.hid (sbtr BW.out hb)
  clear hb PA PR BW
  rcases ivC_cases al ah with ⟨h, _⟩ | ⟨h, _⟩
  · have e : j1 al ah (mkI lo hi) = mkI lo hi := by unfold j1; rw [if_pos h]
    rw [h]
    have E := Lib.hid e
    obtain ⟨hle, hc⟩ := HH.out h
    have HC := Lib.hid hc
    have ⟨a0, a1, _, _, _⟩ := P1.out
    clear h hc e HH
    go_wp2_with fail
    refine (HC.out _).mono ?_
    rintro e w2 ⟨rfl, hb⟩
    have B2 := Lib.hid (sbtr B1.out hb)
    have P4 := Lib.hid (P3.out.via hb)
    clear hb a0 a1 B1
    go_wp2_with fail
    refine (smade_any _ lo hi hle).mono ?_
    rintro e w3 ⟨rfl, hb⟩
    have B3 := Lib.hid (sbtr B2.out hb)
    have P5 := Lib.hid (P4.out.via hb)
    clear hb B2 hcf
    have ⟨r0, r1, f0, f1, rl⟩ := P5.out
    go_wp2
    exact post_iv Tryz.results40 rfl rfl (P5.out.set _ _) ⟨by rw [E.out]; rfl, below_set2 B3.out (by omega) _ _⟩
  · have e : j1 al ah (mkI lo hi) = ⟨0, 0, 8⟩ := by unfold j1; rw [if_neg (by rw [h]; decide), h]
    rw [h]
    have E := Lib.hid e
    have ⟨r0, r1, f0, f1, rl⟩ := P3.out
    clear h e HH hcf
    go_wp2
    exact post_iv Tryz.results40 rfl rfl (P3.out.set _ _) ⟨by rw [E.out]; rfl, below_set2 B1.out (by omega) _ _⟩
end Go.Proofs.YtegnaknoaflppaaGreatDoor

/- Intervals: sum, negative, difference, lesser, greater, absolute, hull of two. -/
namespace Go.Proofs.YtegnaknoaflppaaGreatDoor
open Go.RowKit

theorem ret_iv {a b c d : Int} (h1 : a = c) (h2 : b = d) : Ending.returned (iv a b) = .returned (iv c d) := by rw [h1, h2]
def IvIn (lo hi : Int) : Prop := -2305843009213693952 ≤ lo ∧ lo ≤ hi ∧ hi ≤ 2305843009213693952
set_option maxRecDepth 100000 in
theorem ssum_any (w : World) (al ah bl bh : Int) (h1 : IvIn al ah) (h2 : IvIn bl bh) : Calls Tryz.prog 25 #[iv al ah, iv bl bh] w (RV w (al + bl) (ah + bh)) := by
  obtain ⟨x1, x2, x3⟩ := h1
  obtain ⟨y1, y2, y3⟩ := h2
  go_enter Tryz.func25, Tryz.ntmps25
  go_wp2
  all_goals exact post_iv1 Tryz.results25 rfl rfl (Pr.new _ _ (by simp) _ _ _) ⟨ret_iv (by omega) (by omega), by go_grown⟩
set_option maxRecDepth 100000 in
theorem negative_any (w : World) (al ah : Int) (h1 : -4611686018427387904 ≤ al) (h2 : al ≤ 4611686018427387904) (h3 : -4611686018427387904 ≤ ah) (h4 : ah ≤ 4611686018427387904) : Calls Tryz.prog 41 #[iv al ah] w (RV w (-ah) (-al)) := by
  go_enter Tryz.func41, Tryz.ntmps41
  go_wp2
  all_goals exact post_iv1 Tryz.results41 rfl rfl (Pr.new _ _ (by simp) _ _ _) ⟨ret_iv (by omega) (by omega), by go_grown⟩
set_option maxRecDepth 100000 in
theorem absolute_any (w : World) (al ah : Int) (h1 : IvIn al ah) : Calls Tryz.prog 45 #[iv al ah] w (RV w (max al (max (-ah) 0)) (max (-al) ah)) := by
  obtain ⟨x1, x2, x3⟩ := h1
  go_enter Tryz.func45, Tryz.ntmps45
  go_wp2
  all_goals exact post_iv1 Tryz.results45 rfl rfl (Pr.new _ _ (by simp) _ _ _) ⟨ret_iv (by omega) (by omega), by go_grown⟩
set_option maxRecDepth 100000 in
set_option maxHeartbeats 1000000 in
theorem sdiff_any (w : World) (al ah bl bh : Int) (h1 : IvIn al ah) (h2 : IvIn bl bh) : Calls Tryz.prog 47 #[iv al ah, iv bl bh] w (RV w (al - bh) (ah - bl)) := by
  have ⟨x1, x2, x3⟩ := h1
  have ⟨y1, y2, y3⟩ := h2
  have hh2 : IvIn (-bh) (-bl) := ⟨by omega, by omega, by omega⟩
  have PA := Lib.hid (((Pr.new w w.heap.size rfl (.int .i64 al) (.int .i64 ah) 23).alloc (ivB bl bh)).alloc (ivB 0 0))
  have PB := Lib.hid ((Pr.new (w.alloc (ivB al ah)) (w.heap.size + 1) (by simp) (.int .i64 bl) (.int .i64 bh) 23).alloc (ivB 0 0))
  have PR := Lib.hid (Pr.new ((w.alloc (ivB al ah)).alloc (ivB bl bh)) (w.heap.size + 1 + 1) (by simp) (.int .i64 0) (.int .i64 0) 23)
  have BW : Hid (Below w.heap.size w (((w.alloc (ivB al ah)).alloc (ivB bl bh)).alloc (ivB 0 0))) := sbal (sbal (sbal (Below.refl _ _) _) _) _
  go_enter Tryz.func47, Tryz.ntmps47
  go_wp2_with fail
  generalize ((w.alloc (ivB al ah)).alloc (ivB bl bh)).alloc (ivB 0 0) = W0 at *
  have HKS : Hid (∀ X : World, Below W0.heap.size W0 X → X.cell? ⟨w.heap.size, 0, none⟩ = some (.int .i64 al) ∧ X.cell? ⟨w.heap.size, 1, none⟩ = some (.int .i64 ah) ∧ X.cell? ⟨w.heap.size + 1, 0, none⟩ = some (.int .i64 bl) ∧ X.cell? ⟨w.heap.size + 1, 1, none⟩ = some (.int .i64 bh)) := fun X h => ⟨(PA.out.via h).c0, (PA.out.via h).c1, (PB.out.via h).c0, (PB.out.via h).c1⟩
  have ⟨r0, r1, f0, f1, rl⟩ := PR.out
  go_region_held3 (fun w' => w'.cell? ⟨w.heap.size, 0, none⟩ = some (.int .i64 al) ∧ w'.cell? ⟨w.heap.size, 1, none⟩ = some (.int .i64 ah) ∧ w'.cell? ⟨w.heap.size + 1, 0, none⟩ = some (.int .i64 bl) ∧ w'.cell? ⟨w.heap.size + 1, 1, none⟩ = some (.int .i64 bh))
    (first
     | exact HKS.out _ (Below.refl _ _)
     | exact HKS.out _ (Below.refl _ _).drew
     | exact HKS.out _ B2
     | exact HKS.out _ B1
     | exact ⟨((PA.out.via B2).far (by omega) _ _).c0, ((PA.out.via B2).far (by omega) _ _).c1, ((PB.out.via B2).far (by omega) _ _).c0, ((PB.out.via B2).far (by omega) _ _).c1⟩)
    (first
     | (go_at_call 25; refine (ssum_any _ al ah (-bh) (-bl) h1 hh2).mono ?_; rintro e w2 ⟨rfl, hb2⟩; have B2 : Below W0.heap.size W0 w2 := sbtr B1 hb2; have P2 := PR.out.via B2; have ⟨q0, q1, g0, g1, ql⟩ := P2)
     | (go_at_call 41; refine (negative_any _ bl bh (by omega) (by omega) (by omega) (by omega)).mono ?_; rintro e w1 ⟨rfl, hb1⟩; have B1 : Below W0.heap.size W0 w1 := (by first | exact (Below.refl _ _).drew.trans hb1 | exact hb1))
     | fail)
  all_goals
    go_wp2
    exact post_iv1 Tryz.results47 rfl rfl (P2.set _ _) ⟨ret_iv (by omega) (by omega), below_set2 (sbtr BW.out B2) (by omega) _ _⟩
end Go.Proofs.YtegnaknoaflppaaGreatDoor

/- Intervals: hull of one and of three others; Hull's closure. -/
namespace Go.Proofs.YtegnaknoaflppaaGreatDoor
open Go.RowKit

/-- The cells of intervals from off on in block g. -/
structure Iv1 (w : World) (g off : Nat) (l h : Int) : Prop where
  c0 : w.cell? ⟨g, off, none⟩ = some (.int .i64 l)
  c1 : w.cell? ⟨g, off + 1, none⟩ = some (.int .i64 h)
  lt : g < w.heap.size
theorem Iv1.via {w w' : World} {g off : Nat} {l h : Int} (p : Iv1 w g off l h) (hb : Below w.heap.size w w') : Iv1 w' g off l h :=
  ⟨(hb.cell (p := ⟨g, off, none⟩) p.lt).trans p.c0, (hb.cell (p := ⟨g, off + 1, none⟩) p.lt).trans p.c1, Nat.lt_of_lt_of_le p.lt hb.size⟩
theorem Iv1.al {w : World} {g off : Nat} {l h : Int} (p : Iv1 w g off l h) (o : Obj) : Iv1 (w.alloc o) g off l h := p.via ((Below.refl _ _).alloc (Nat.le_refl _) o)
theorem Iv1.far {w : World} {g off k : Nat} {l h : Int} (p : Iv1 w g off l h) (hne : g ≠ k) (x y : Value) : Iv1 ((w.setCell ⟨k, 0, none⟩ x).setCell ⟨k, 1, none⟩ y) g off l h := by
  have e : ∀ (i j : Nat), (⟨k, i, none⟩ : Addr) ≠ ⟨g, j, none⟩ := fun i j e => hne (congrArg Addr.block e).symm
  refine ⟨?_, ?_, by simpa [World.size_setCell] using p.lt⟩
  · rw [World.cell?_setCell_other _ _ _ _ (e _ _), World.cell?_setCell_other _ _ _ _ (e _ _)]; exact p.c0
  · rw [World.cell?_setCell_other _ _ _ _ (e _ _), World.cell?_setCell_other _ _ _ _ (e _ _)]; exact p.c1
set_option maxRecDepth 100000 in
set_option maxHeartbeats 2000000 in
theorem hull1_any (w : World) (g : Nat) (l0 h0 l1 h1 : Int) (hC1 : Iv1 w g 0 l1 h1) :
    Calls Tryz.prog 32 #[iv l0 h0, .slice (some ⟨g, 0, none⟩) 1 1] w (RV w (min l0 l1) (max h0 h1)) := by
  have HC1 := Lib.hid hC1
  clear hC1
  have PA := Lib.hid ((Pr.new w w.heap.size rfl (.int .i64 l0) (.int .i64 h0) 23).alloc (ivB 0 0))
  have PR := Lib.hid (Pr.new (w.alloc (ivB l0 h0)) (w.heap.size + 1) (by simp) (.int .i64 0) (.int .i64 0) 23)
  have BW : Hid (Below w.heap.size w ((w.alloc (ivB l0 h0)).alloc (ivB 0 0))) := sbal (sbal (Below.refl _ _) _) _
  have hgl : g < w.heap.size := HC1.out.lt
  have IC1 := Lib.hid (HC1.out.via BW.out)
  clear HC1
  go_enter Tryz.func32, Tryz.ntmps32
  go_wp2
  generalize (w.alloc (ivB l0 h0)).alloc (ivB 0 0) = W0 at *
  go_loopw [9] (fun i wr => ∃ (k : Nat) (x y : Int), i = .int .i64 k ∧ (k = 0 ∧ x = l0 ∧ y = h0 ∨ k = 1 ∧ x = min l0 l1 ∧ y = max h0 h1) ∧ Pr wr w.heap.size (.int .i64 x) (.int .i64 y) ∧ Pr wr (w.heap.size + 1) (.int .i64 0) (.int .i64 0) ∧ Iv1 wr g 0 l1 h1 ∧ Below w.heap.size w wr) (fun i _ => 1 - (intOf i).toNat)
  case atStart => exact ⟨0, l0, h0, rfl, .inl ⟨rfl, rfl, rfl⟩, PA.out, PR.out, IC1.out, BW.out⟩
  case round =>
    obtain ⟨k, x, y, rfl, hk, pa, pr, ic1, hB⟩ := hrel
    clear PA PR BW IC1
    have SA := Lib.hid pa
    have SR := Lib.hid pr
    have HB := Lib.hid hB
    have JC1 := Lib.hid ic1
    clear pa pr hB ic1
    rcases hk with ⟨rfl, hx, hy⟩ | ⟨rfl, hx, hy⟩
    · have HX := Lib.hid hx
      have HY := Lib.hid hy
      clear hx hy
      have ⟨c0, c1, _⟩ := JC1.out
      have ⟨s0, s1, s2, s3, sl⟩ := SA.out
      have hn1 : ¬ (w.heap.size = wr.heap.size) := by omega
      have hn2 : ¬ (wr.heap.size = w.heap.size) := by omega
      go_wp2
      all_goals
        go_roundw
        case rel =>
          refine ⟨1, _, _, by go_num, .inr (⟨rfl, ?_, ?_⟩), (SA.out.set _ _).alloc _, ((SR.out.far (by omega) _ _).alloc _), (JC1.out.far (by omega) _ _).al _, sbal (below_set2 HB.out (by omega) _ _) _⟩
          all_goals (have hx := HX.out; have hy := HY.out; omega)
        case measure => simp [intOf]
    · have HX := Lib.hid hx
      have HY := Lib.hid hy
      clear hx hy
      have ⟨s0, s1, s2, s3, sl⟩ := SA.out
      have ⟨r0, r1, r2, r3, rl⟩ := SR.out
      go_wp2
      exact post_iv1 Tryz.results32 rfl rfl (SR.out.set _ _) ⟨ret_iv (by rw [HX.out]) (by rw [HY.out]), below_set2 HB.out (by omega) _ _⟩
set_option maxRecDepth 100000 in
set_option maxHeartbeats 2000000 in
theorem hull3_any (w : World) (g : Nat) (l0 h0 l1 h1 l2 h2 l3 h3 : Int) (hC1 : Iv1 w g 2 l1 h1) (hC2 : Iv1 w g 4 l2 h2) (hC3 : Iv1 w g 6 l3 h3) :
    Calls Tryz.prog 32 #[iv l0 h0, .slice (some ⟨g, 2, none⟩) 3 3] w (RV w (min (min (min l0 l1) l2) l3) (max (max (max h0 h1) h2) h3)) := by
  have HC1 := Lib.hid hC1
  have HC2 := Lib.hid hC2
  have HC3 := Lib.hid hC3
  clear hC1 hC2 hC3
  have PA := Lib.hid ((Pr.new w w.heap.size rfl (.int .i64 l0) (.int .i64 h0) 23).alloc (ivB 0 0))
  have PR := Lib.hid (Pr.new (w.alloc (ivB l0 h0)) (w.heap.size + 1) (by simp) (.int .i64 0) (.int .i64 0) 23)
  have BW : Hid (Below w.heap.size w ((w.alloc (ivB l0 h0)).alloc (ivB 0 0))) := sbal (sbal (Below.refl _ _) _) _
  have hgl : g < w.heap.size := HC1.out.lt
  have IC1 := Lib.hid (HC1.out.via BW.out)
  have IC2 := Lib.hid (HC2.out.via BW.out)
  have IC3 := Lib.hid (HC3.out.via BW.out)
  clear HC1 HC2 HC3
  go_enter Tryz.func32, Tryz.ntmps32
  go_wp2
  generalize (w.alloc (ivB l0 h0)).alloc (ivB 0 0) = W0 at *
  go_loopw [9] (fun i wr => ∃ (k : Nat) (x y : Int), i = .int .i64 k ∧ (k = 0 ∧ x = l0 ∧ y = h0 ∨ k = 1 ∧ x = min l0 l1 ∧ y = max h0 h1 ∨ k = 2 ∧ x = min (min l0 l1) l2 ∧ y = max (max h0 h1) h2 ∨ k = 3 ∧ x = min (min (min l0 l1) l2) l3 ∧ y = max (max (max h0 h1) h2) h3) ∧ Pr wr w.heap.size (.int .i64 x) (.int .i64 y) ∧ Pr wr (w.heap.size + 1) (.int .i64 0) (.int .i64 0) ∧ Iv1 wr g 2 l1 h1 ∧ Iv1 wr g 4 l2 h2 ∧ Iv1 wr g 6 l3 h3 ∧ Below w.heap.size w wr) (fun i _ => 3 - (intOf i).toNat)
  case atStart => exact ⟨0, l0, h0, rfl, .inl ⟨rfl, rfl, rfl⟩, PA.out, PR.out, IC1.out, IC2.out, IC3.out, BW.out⟩
  case round =>
    obtain ⟨k, x, y, rfl, hk, pa, pr, ic1, ic2, ic3, hB⟩ := hrel
    clear PA PR BW IC1 IC2 IC3
    have SA := Lib.hid pa
    have SR := Lib.hid pr
    have HB := Lib.hid hB
    have JC1 := Lib.hid ic1
    have JC2 := Lib.hid ic2
    have JC3 := Lib.hid ic3
    clear pa pr hB ic1 ic2 ic3
    rcases hk with ⟨rfl, hx, hy⟩ | ⟨rfl, hx, hy⟩ | ⟨rfl, hx, hy⟩ | ⟨rfl, hx, hy⟩
    · have HX := Lib.hid hx
      have HY := Lib.hid hy
      clear hx hy
      have ⟨c0, c1, _⟩ := JC1.out
      have ⟨s0, s1, s2, s3, sl⟩ := SA.out
      have hn1 : ¬ (w.heap.size = wr.heap.size) := by omega
      have hn2 : ¬ (wr.heap.size = w.heap.size) := by omega
      go_wp2
      all_goals
        go_roundw
        case rel =>
          refine ⟨1, _, _, by go_num, .inr (.inl ⟨rfl, ?_, ?_⟩), (SA.out.set _ _).alloc _, ((SR.out.far (by omega) _ _).alloc _), (JC1.out.far (by omega) _ _).al _, (JC2.out.far (by omega) _ _).al _, (JC3.out.far (by omega) _ _).al _, sbal (below_set2 HB.out (by omega) _ _) _⟩
          all_goals (have hx := HX.out; have hy := HY.out; omega)
        case measure => simp [intOf]
    · have HX := Lib.hid hx
      have HY := Lib.hid hy
      clear hx hy
      have ⟨c0, c1, _⟩ := JC2.out
      have ⟨s0, s1, s2, s3, sl⟩ := SA.out
      have hn1 : ¬ (w.heap.size = wr.heap.size) := by omega
      have hn2 : ¬ (wr.heap.size = w.heap.size) := by omega
      go_wp2
      all_goals
        go_roundw
        case rel =>
          refine ⟨2, _, _, by go_num, .inr (.inr (.inl ⟨rfl, ?_, ?_⟩)), (SA.out.set _ _).alloc _, ((SR.out.far (by omega) _ _).alloc _), (JC1.out.far (by omega) _ _).al _, (JC2.out.far (by omega) _ _).al _, (JC3.out.far (by omega) _ _).al _, sbal (below_set2 HB.out (by omega) _ _) _⟩
          all_goals (have hx := HX.out; have hy := HY.out; omega)
        case measure => simp [intOf]
    · have HX := Lib.hid hx
      have HY := Lib.hid hy
      clear hx hy
      have ⟨c0, c1, _⟩ := JC3.out
      have ⟨s0, s1, s2, s3, sl⟩ := SA.out
      have hn1 : ¬ (w.heap.size = wr.heap.size) := by omega
      have hn2 : ¬ (wr.heap.size = w.heap.size) := by omega
      go_wp2
      all_goals
        go_roundw
        case rel =>
          refine ⟨3, _, _, by go_num, .inr (.inr (.inr (⟨rfl, ?_, ?_⟩))), (SA.out.set _ _).alloc _, ((SR.out.far (by omega) _ _).alloc _), (JC1.out.far (by omega) _ _).al _, (JC2.out.far (by omega) _ _).al _, (JC3.out.far (by omega) _ _).al _, sbal (below_set2 HB.out (by omega) _ _) _⟩
          all_goals (have hx := HX.out; have hy := HY.out; omega)
        case measure => simp [intOf]
    · have HX := Lib.hid hx
      have HY := Lib.hid hy
      clear hx hy
      have ⟨s0, s1, s2, s3, sl⟩ := SA.out
      have ⟨r0, r1, r2, r3, rl⟩ := SR.out
      go_wp2
      exact post_iv1 Tryz.results32 rfl rfl (SR.out.set _ _) ⟨ret_iv (by rw [HX.out]) (by rw [HY.out]), below_set2 HB.out (by omega) _ _⟩
set_option maxRecDepth 100000 in
theorem hullf_any (w : World) (al ah bl bh : Int) : Calls Tryz.prog 48 #[iv al ah, iv bl bh] w (RV w (min al bl) (max ah bh)) := by
  have PR := Lib.hid (Pr.new ((w.alloc (ivB al ah)).alloc (ivB bl bh)) (w.heap.size + 1 + 1) (by simp) (.int .i64 0) (.int .i64 0) 23)
  have BW : Hid (Below w.heap.size w (((w.alloc (ivB al ah)).alloc (ivB bl bh)).alloc (ivB 0 0))) := sbal (sbal (sbal (Below.refl _ _) _) _) _
  have hs : (((w.alloc (ivB al ah)).alloc (ivB bl bh)).alloc (ivB 0 0)).heap.size = w.heap.size + 1 + 1 + 1 := by simp
  have HS := Lib.hid hs
  clear hs
  go_enter Tryz.func48, Tryz.ntmps48
  go_wp2_with fail
  generalize ((w.alloc (ivB al ah)).alloc (ivB bl bh)).alloc (ivB 0 0) = W0 at *
  have I1 : Iv1 (W0.alloc (ivB bl bh)) (w.heap.size + 1 + 1 + 1) 0 bl bh := by
    have p := Pr.new W0 _ HS.out (.int .i64 bl) (.int .i64 bh) 23
    exact ⟨p.c0, p.c1, p.lt⟩
  refine (hull1_any _ _ al ah bl bh I1).mono ?_
  rintro e w1 ⟨rfl, hb⟩
  have P3 := Lib.hid (PR.out.via (bbox hb))
  have B1 := Lib.hid (sbtr BW.out (bbox hb))
  clear hb I1 PR BW HS
  have ⟨r0, r1, f0, f1, rl⟩ := P3.out
  go_wp2
  exact post_iv1 Tryz.results48 rfl rfl (P3.out.set _ _) ⟨rfl, below_set2 B1.out (by omega) _ _⟩
end Go.Proofs.YtegnaknoaflppaaGreatDoor

/- math/bits: Len64, Mul64 and LeadingZeros64 at this translation. -/
namespace Go.Proofs.YtegnaknoaflppaaGreatDoor
open Go.RowKit Go.Shelf

def lays129_ren : Go.Shelf.Ren := ⟨fun | 129 => 89 | n => n, fun | 3 => 3 | 4 => 4 | 5 => 5 | 9 => 9 | 46 => 57 | 53 => 43 | n => n, fun | n => n⟩
theorem lays129 : Go.Proofs.Lays.n129 Tryz.prog lays129_ren := {
  mixed := by kernel_rfl
  f129 := Tryz.func89.trans (congrArg some (by kernel_rfl))
  t3 := Tryz.underlying3
  a3 := Tryz.isAgg3
  z3 := Tryz.sizeOf3
  v3 := Tryz.zeroValue3
  t4 := Tryz.underlying4
  a4 := Tryz.isAgg4
  z4 := Tryz.sizeOf4
  v4 := Tryz.zeroValue4
  t5 := Tryz.underlying5
  a5 := Tryz.isAgg5
  z5 := Tryz.sizeOf5
  v5 := Tryz.zeroValue5
  t9 := Tryz.underlying9
  a9 := Tryz.isAgg9
  z9 := Tryz.sizeOf9
  v9 := Tryz.zeroValue9
  t46 := Tryz.underlying57
  a46 := Tryz.isAgg57
  z46 := Tryz.sizeOf57
  v46 := Tryz.zeroValue57
  t53 := Tryz.underlying43
  a53 := Tryz.isAgg43
  z53 := Tryz.sizeOf43
  v53 := Tryz.zeroValue43 }
theorem slen64_any (x : Nat) (w : World) (h1 : x < 18446744073709551616) :
    Calls Tryz.prog 89 #[.int .u64 (x : Int)] w fun e w' => e = .returned (.int .i64 (Lib.bitLen x)) ∧ w = w' := by
  refine (Any.bits_Len64 lays129 (x : Int) w (by omega) (by omega)).mono ?_
  rintro e w' ⟨rfl, rfl⟩
  exact ⟨by rw [Int.toNat_natCast], rfl⟩
def lays264_ren : Go.Shelf.Ren := ⟨fun | 264 => 52 | n => n, fun | 46 => 57 | 53 => 43 | n => n, fun | n => n⟩
theorem lays264 : Go.Proofs.Lays.n264 Tryz.prog lays264_ren := {
  mixed := by kernel_rfl
  f264 := Tryz.func52.trans (congrArg some (by kernel_rfl))
  t46 := Tryz.underlying57
  a46 := Tryz.isAgg57
  z46 := Tryz.sizeOf57
  v46 := Tryz.zeroValue57
  t53 := Tryz.underlying43
  a53 := Tryz.isAgg43
  z53 := Tryz.sizeOf43
  v53 := Tryz.zeroValue43 }
theorem smul64_any (x y : Nat) (hx : x < 18446744073709551616) (hy : y < 18446744073709551616) (w : World) :
    Calls Tryz.prog 52 #[.int .u64 (x : Int), .int .u64 (y : Int)] w fun e w' => e = .returned (.tuple #[.int .u64 ((x * y / 18446744073709551616 : Nat) : Int), .int .u64 ((x * y % 18446744073709551616 : Nat) : Int)]) ∧ w = w' := by
  refine (Any.bits_Mul64 lays264 x y hx hy w).mono ?_
  rintro e w' ⟨rfl, rfl⟩
  exact ⟨rfl, rfl⟩
set_option maxRecDepth 100000 in
theorem slz64_any (x : Nat) (w : World) (h1 : x < 18446744073709551616) (hl : Lib.bitLen x ≤ 64) :
    Calls Tryz.prog 71 #[.int .u64 (x : Int)] w fun e w' => e = .returned (.int .i64 (64 - (Lib.bitLen x : Int))) ∧ w = w' := by
  have H := Lib.hid (fun w => slen64_any x w h1)
  have h0 : (0 : Int) ≤ (Lib.bitLen x : Int) := by omega
  have hl' : (Lib.bitLen x : Int) ≤ 64 := by omega
  go_enter Tryz.func71, Tryz.ntmps71
  go_wp2_with fail
  refine (H.out _).mono ?_
  rintro e w' ⟨rfl, rfl⟩
  clear H
  go_wp2
  go_ret
  exact ⟨ret_int (by omega), rfl⟩
end Go.Proofs.YtegnaknoaflppaaGreatDoor

/- math/bits.Div64: the quotient and the rest of two words by one. -/
namespace Go.Proofs.YtegnaknoaflppaaGreatDoor
open Go.RowKit

set_option maxRecDepth 100000 in
set_option maxHeartbeats 4000000 in
theorem div64_main (w : World) (hi lo y s Y b1 b2 U V ua ub : Nat) (h0 : 0 < hi) (h1 : hi < y) (_ : y < 18446744073709551616) (_ : lo < 18446744073709551616) (hs : s < 64)
    (HL : ∀ w, Calls Tryz.prog 71 #[.int .u64 (y : Int)] w fun e w' => e = .returned (.int .i64 (s : Int)) ∧ w = w')
    (hY : Y = b1 * 4294967296 + b2) (hb1 : 2147483648 ≤ b1) (hb1l : b1 < 4294967296) (hb2l : b2 < 4294967296) (hUY : U < Y) (hua : ua < 4294967296) (hub : ub < 4294967296) (hV : V = ua * 4294967296 + ub)
    (e1 : IntKind.u64.wrap ((y : Int) * 2 ^ s) = (Y : Int)) (e2 : (Y : Int) / 4294967296 = (b1 : Int)) (e3 : bits .and .u64 (Y : Int) 4294967295 = (b2 : Int))
    (e4 : bits .or .u64 (IntKind.u64.wrap ((hi : Int) * 2 ^ s)) ((lo : Int) / 2 ^ (64 - s)) = (U : Int)) (e5 : IntKind.u64.wrap ((lo : Int) * 2 ^ s) = (V : Int)) (e6 : (V : Int) / 4294967296 = (ua : Int)) (e7 : bits .and .u64 (V : Int) 4294967295 = (ub : Int))
    (hq : ((U * 4294967296 + ua) * 4294967296 + ub) / Y = (hi * 18446744073709551616 + lo) / y) (hr : ((U * 4294967296 + ua) * 4294967296 + ub) % Y / 2 ^ s = (hi * 18446744073709551616 + lo) % y) :
    Calls Tryz.prog 55 #[.int .u64 (hi : Int), .int .u64 (lo : Int), .int .u64 (y : Int)] w fun e w' => e = .returned (.tuple #[.int .u64 (((hi * 18446744073709551616 + lo) / y : Nat) : Int), .int .u64 (((hi * 18446744073709551616 + lo) % y : Nat) : Int)]) ∧ ∃ d, w' = w.drewN d := by
  have H := Lib.hid HL
  have hy0 : 0 < y := by omega
  have hb1p : 0 < b1 := by omega
  have hb0 : ¬ ((b1 : Int) = 0) := by omega
  have hYl : Y < 18446744073709551616 := by omega
  have hUl : U < 18446744073709551616 := by omega
  have HY := Lib.hid hY
  have HUY := Lib.hid hUY
  have HUL := Lib.hid hua
  have HQR := Lib.hid hq
  have HRR := Lib.hid hr
  have HV := Lib.hid hV
  clear HL hq hr hV
  have hq0 : (U : Int).tdiv (b1 : Int) = ((U / b1 : Nat) : Int) := by rw [Int.tdiv_eq_ediv_of_nonneg (by omega), ← Int.natCast_ediv]
  have hq0' : (U : Int) / (b1 : Int) = ((U / b1 : Nat) : Int) := by rw [← Int.natCast_ediv]
  have hdm := Nat.div_add_mod U b1
  have hrl := Nat.mod_lt U hb1p
  have hD9 := Nat.div_le_self U b1
  obtain ⟨Q, hQ⟩ : ∃ Q, Q = gs b1 b2 (U / 4294967296) (U % 4294967296) ua := ⟨_, rfl⟩
  have hle : U / 4294967296 ≤ b1 := by have := HY.out; have := HUY.out; omega
  have hu1l : U % 4294967296 < 4294967296 := Nat.mod_lt _ (by omega)
  have hQ0 : Q ≤ U / b1 := by rw [hQ]; exact gs_start HUL.out (R := U % b1) (by rw [hdm]; omega) hrl
  have hQ9 : Q ≤ 4294967295 := by rw [hQ]; exact gs_le _ _ _ _ _
  have HQX : Hid (Q = (U * 4294967296 + ua) / Y) := by show _ = _; rw [hQ]; exact gs_exact HY.out HUY.out HUL.out
  have HI : Hid (U = U / 4294967296 * 4294967296 + U % 4294967296) := by show _ = _; omega
  have HQ := Lib.hid hQ
  clear hQ
  generalize U / b1 = D0 at *
  generalize U % b1 = R0 at *
  have hP0 : D0 * b1 ≤ U := by rw [Nat.mul_comm]; omega
  have hw1 : IntKind.u64.wrap ((D0 : Int) * (b1 : Int)) = ((D0 * b1 : Nat) : Int) := by rw [← Int.natCast_mul, IntKind.wrap_u64]; omega
  have hw2 : (U : Int) - ((D0 * b1 : Nat) : Int) = (R0 : Int) := by rw [Nat.mul_comm D0 b1]; omega
  have hw3 : IntKind.u64.wrap ((U : Int) - ((D0 * b1 : Nat) : Int)) = (R0 : Int) := by rw [hw2, IntKind.wrap_u64]; omega
  have HW4 : Hid ((U : Int) - (D0 : Int) * (b1 : Int) = (R0 : Int)) := by show _ = _; rw [← Int.natCast_mul]; exact hw2
  have HDM0 : Hid (D0 * b1 + R0 = U) := by show _ = _; rw [Nat.mul_comm]; exact hdm
  have HR0 : Hid (R0 < 4294967296) := by show _ < _; omega
  have HQ0 := Lib.hid hQ0
  clear hdm hQ0
  clear hY
  go_enter Tryz.func55, Tryz.ntmps55
  go_wp2_with fail
  refine (H.out _).mono ?_
  rintro e w' ⟨rfl, rfl⟩
  clear H
  go_upto_block 0 with (fail)
  go_cut [15] (fun s7 wx => s7 = .int .u64 (Q : Int) ∧ w = wx)
  case first =>
    go_wp2
    go_loopw [15, 16] (fun x r wr => ∃ D R : Nat, x = .int .u64 (D : Int) ∧ r = .int .u64 (R : Int) ∧ D * b1 + R = U ∧ R < 4294967296 ∧ Q ≤ D ∧ wr = w) (fun x _ _ => (intOf x).toNat)
    case atStart => exact ⟨D0, R0, rfl, congrArg (Value.int .u64) HW4.out, HDM0.out, HR0.out, HQ0.out, rfl⟩
    case round =>
      obtain ⟨D, R, rfl, rfl, hDR, hR, hQD, rfl⟩ := hrel
      have hDle : D ≤ U := by
        have := Nat.le_mul_of_pos_right D hb1p
        omega
      have HDR := Lib.hid hDR
      clear hDR
      by_cases hd : 4294967296 ≤ D
      · have hlt : Q < D := by rw [HQ.out]; exact gs_lt hb1p (by rw [← HI.out]; exact HDR.out) (.inl (by omega))
        have HDM : Hid ((D - 1) * b1 + (R + b1) = D * b1 + R) := by show _ = _; rw [Nat.sub_mul, Nat.one_mul]; have := Nat.le_mul_of_pos_left b1 (show 0 < D by omega); omega
        have hdi : (4294967296 : Int) ≤ (D : Int) := by omega
        by_cases hR2 : R + b1 < 4294967296
        case' pos => have hR2d : decide ((4294967296 : Int) ≤ (R : Int) + (b1 : Int)) = false := by simp; omega
        case' neg => have hR2i : (4294967296 : Int) ≤ (R : Int) + (b1 : Int) := by omega
        case' neg => have hQE : Q = D - 1 := by rw [HQ.out]; exact gs_break hb1p hb2l hu1l hle (by rw [← HI.out, ← HDR.out]; exact HDM.out) (by omega) (by rw [← HQ.out]; omega)
        case' neg => have HQE := Lib.hid hQE
        case' neg => clear hQE
        all_goals clear hd
        all_goals go_wp2
        · go_meet
          have := HQE.out
          exact ⟨by go_num, rfl⟩
        · go_roundw
          case rel => exact ⟨D - 1, R + b1, by go_num, by go_num, by rw [← HDR.out]; exact HDM.out, by omega, by omega, by first | trivial | rfl⟩
          case measure => simp [intOf]; omega
      · have hdd : decide ((4294967296 : Int) ≤ (D : Int)) = false := by simp; omega
        have hmul := mul_bd (show D < 4294967296 by omega) hb2l
        obtain ⟨P, hP⟩ : ∃ P : Nat, P = D * b2 := ⟨_, rfl⟩
        have hbit1 : IntKind.u64.wrap ((D : Int) * (b2 : Int)) = (P : Int) := by rw [← Int.natCast_mul, ← hP, IntKind.wrap_u64]; omega
        obtain ⟨T, hT⟩ : ∃ T : Nat, T = R * 4294967296 + ua := ⟨_, rfl⟩
        have hbit2 : (4294967296 : Int) * (R : Int) + (ua : Int) = (T : Int) := by omega
        have hbit3 : IntKind.u64.wrap (4294967296 * (R : Int)) = 4294967296 * (R : Int) := by rw [IntKind.wrap_u64]; omega
        have hbit4 : IntKind.u64.wrap (4294967296 * (R : Int) + (ua : Int)) = (T : Int) := by rw [IntKind.wrap_u64]; omega
        have hT9 : T ≤ 18446744073709551615 := by omega
        have HT := Lib.hid hT
        have HP := Lib.hid hP
        rw [← hP] at hmul
        clear hT hP
        by_cases hp : T < P
        · have hlt : Q < D := by rw [HQ.out]; exact gs_lt hb1p (by rw [← HI.out]; exact HDR.out) (.inr (by rw [← HT.out, ← HP.out]; exact hp))
          have HDM : Hid ((D - 1) * b1 + (R + b1) = D * b1 + R) := by show _ = _; rw [Nat.sub_mul, Nat.one_mul]; have := Nat.le_mul_of_pos_left b1 (show 0 < D by omega); omega
          have hpi : (T : Int) < (P : Int) := by omega
          by_cases hR2 : R + b1 < 4294967296
          case' pos => have hR2d : decide ((4294967296 : Int) ≤ (R : Int) + (b1 : Int)) = false := by simp; omega
          case' neg => have hR2i : (4294967296 : Int) ≤ (R : Int) + (b1 : Int) := by omega
          case' neg => have hQE : Q = D - 1 := by rw [HQ.out]; exact gs_break hb1p hb2l hu1l hle (by rw [← HI.out, ← HDR.out]; exact HDM.out) (by omega) (by rw [← HQ.out]; omega)
          case' neg => have HQE := Lib.hid hQE
          case' neg => clear hQE
          all_goals clear hd hp
          all_goals go_wp2
          · go_meet
            have := HQE.out
            exact ⟨by go_num, rfl⟩
          · go_roundw
            case rel => exact ⟨D - 1, R + b1, by go_num, by go_num, by rw [← HDR.out]; exact HDM.out, by omega, by omega, by first | trivial | rfl⟩
            case measure => simp [intOf]; omega
        · have hpd : decide (T < P) = false := decide_eq_false hp
          have hQE : Q = D := by rw [HQ.out]; exact gs_eq hb1p (by rw [← HI.out]; exact HDR.out) (by omega) (by rw [← HP.out, ← HT.out]; omega) (by rw [← HQ.out]; exact hQD)
          have HQE := Lib.hid hQE
          clear hQE hd hp
          go_wp2
          go_meet
          have := HQE.out
          exact ⟨by go_num, rfl⟩
  case rest =>
    obtain ⟨rfl, rfl⟩ := hcut
    have hQY := HQX.out
    clear hq0 hq0' hrl hD9 hle hu1l hP0 hw1 hw2 hw3 HDM0 HR0 HQ0 HQ HI HW4 hQ9
    obtain ⟨U2, hU2⟩ : ∃ U2, U2 = (U * 4294967296 + ua) % Y := ⟨_, rfl⟩
    have hYp : 0 < Y := by omega
    have hUY2 : U2 < Y := by rw [hU2]; exact Nat.mod_lt _ hYp
    have hrw := rest_wrap hQY hYp hYl
    rw [← hU2] at hrw
    have HUY2 := Lib.hid hUY2
    have HUL2 := Lib.hid hub
    have HU2 := Lib.hid hU2
    obtain ⟨A, hA⟩ : ∃ A, A = (U * 4294967296) % 18446744073709551616 := ⟨_, rfl⟩
    obtain ⟨B, hB⟩ : ∃ B, B = (A + ua) % 18446744073709551616 := ⟨_, rfl⟩
    obtain ⟨C, hC⟩ : ∃ C, C = (Q * Y) % 18446744073709551616 := ⟨_, rfl⟩
    rw [← hA, ← hB, ← hC] at hrw
    have f1 : IntKind.u64.wrap ((U : Int) * 4294967296) = (A : Int) := by rw [IntKind.wrap_u64, hA]; omega
    have f2 : IntKind.u64.wrap ((A : Int) + (ua : Int)) = (B : Int) := by rw [IntKind.wrap_u64, hB]; omega
    have f3 : IntKind.u64.wrap ((Q : Int) * (Y : Int)) = (C : Int) := by rw [← Int.natCast_mul, IntKind.wrap_u64, hC]; omega
    have f4 : IntKind.u64.wrap ((B : Int) - (C : Int)) = (U2 : Int) := by rw [IntKind.wrap_u64]; omega
    have hU2l : U2 < 18446744073709551616 := by omega
    clear hU2 hA hB hC hrw hQY hYp hUY2
    have hq0 : (U2 : Int).tdiv (b1 : Int) = ((U2 / b1 : Nat) : Int) := by rw [Int.tdiv_eq_ediv_of_nonneg (by omega), ← Int.natCast_ediv]
    have hq0' : (U2 : Int) / (b1 : Int) = ((U2 / b1 : Nat) : Int) := by rw [← Int.natCast_ediv]
    have hdm := Nat.div_add_mod U2 b1
    have hrl := Nat.mod_lt U2 hb1p
    have hD9 := Nat.div_le_self U2 b1
    obtain ⟨Q2, hQ⟩ : ∃ Q2, Q2 = gs b1 b2 (U2 / 4294967296) (U2 % 4294967296) ub := ⟨_, rfl⟩
    have hle : U2 / 4294967296 ≤ b1 := by have := HY.out; have := HUY2.out; omega
    have hu1l : U2 % 4294967296 < 4294967296 := Nat.mod_lt _ (by omega)
    have hQ0 : Q2 ≤ U2 / b1 := by rw [hQ]; exact gs_start HUL2.out (R := U2 % b1) (by rw [hdm]; omega) hrl
    have hQ9 : Q2 ≤ 4294967295 := by rw [hQ]; exact gs_le _ _ _ _ _
    have HQX2 : Hid (Q2 = (U2 * 4294967296 + ub) / Y) := by show _ = _; rw [hQ]; exact gs_exact HY.out HUY2.out HUL2.out
    have HI2 : Hid (U2 = U2 / 4294967296 * 4294967296 + U2 % 4294967296) := by show _ = _; omega
    have HQ2 := Lib.hid hQ
    clear hQ
    generalize U2 / b1 = E0 at *
    generalize U2 % b1 = S0 at *
    have hP0 : E0 * b1 ≤ U2 := by rw [Nat.mul_comm]; omega
    have hw1 : IntKind.u64.wrap ((E0 : Int) * (b1 : Int)) = ((E0 * b1 : Nat) : Int) := by rw [← Int.natCast_mul, IntKind.wrap_u64]; omega
    have hw2 : (U2 : Int) - ((E0 * b1 : Nat) : Int) = (S0 : Int) := by rw [Nat.mul_comm E0 b1]; omega
    have hw3 : IntKind.u64.wrap ((U2 : Int) - ((E0 * b1 : Nat) : Int)) = (S0 : Int) := by rw [hw2, IntKind.wrap_u64]; omega
    have HW4 : Hid ((U2 : Int) - (E0 : Int) * (b1 : Int) = (S0 : Int)) := by show _ = _; rw [← Int.natCast_mul]; exact hw2
    have HDM0 : Hid (E0 * b1 + S0 = U2) := by show _ = _; rw [Nat.mul_comm]; exact hdm
    have HR0 : Hid (S0 < 4294967296) := by show _ < _; omega
    have HQ0 := Lib.hid hQ0
    clear hdm hQ0
    go_upto_block 2 with (fail)
    go_cut [18] (fun s7 wx => s7 = .int .u64 (Q2 : Int) ∧ w = wx)
    case first =>
      go_wp2
      go_loopw [18, 16] (fun x r wr => ∃ D R : Nat, x = .int .u64 (D : Int) ∧ r = .int .u64 (R : Int) ∧ D * b1 + R = U2 ∧ R < 4294967296 ∧ Q2 ≤ D ∧ wr = w) (fun x _ _ => (intOf x).toNat)
      case atStart => exact ⟨E0, S0, rfl, congrArg (Value.int .u64) HW4.out, HDM0.out, HR0.out, HQ0.out, rfl⟩
      case round =>
        obtain ⟨D, R, rfl, rfl, hDR, hR, hQD, rfl⟩ := hrel
        have hDle : D ≤ U2 := by
          have := Nat.le_mul_of_pos_right D hb1p
          omega
        have HDR := Lib.hid hDR
        clear hDR
        by_cases hd : 4294967296 ≤ D
        · have hlt : Q2 < D := by rw [HQ2.out]; exact gs_lt hb1p (by rw [← HI2.out]; exact HDR.out) (.inl (by omega))
          have HDM : Hid ((D - 1) * b1 + (R + b1) = D * b1 + R) := by show _ = _; rw [Nat.sub_mul, Nat.one_mul]; have := Nat.le_mul_of_pos_left b1 (show 0 < D by omega); omega
          have hdi : (4294967296 : Int) ≤ (D : Int) := by omega
          by_cases hR2 : R + b1 < 4294967296
          case' pos => have hR2d : decide ((4294967296 : Int) ≤ (R : Int) + (b1 : Int)) = false := by simp; omega
          case' neg => have hR2i : (4294967296 : Int) ≤ (R : Int) + (b1 : Int) := by omega
          case' neg => have hQE : Q2 = D - 1 := by rw [HQ2.out]; exact gs_break hb1p hb2l hu1l hle (by rw [← HI2.out, ← HDR.out]; exact HDM.out) (by omega) (by rw [← HQ2.out]; omega)
          case' neg => have HQE := Lib.hid hQE
          case' neg => clear hQE
          all_goals clear hd
          all_goals go_wp2
          · go_meet
            have := HQE.out
            exact ⟨by go_num, rfl⟩
          · go_roundw
            case rel => exact ⟨D - 1, R + b1, by go_num, by go_num, by rw [← HDR.out]; exact HDM.out, by omega, by omega, by first | trivial | rfl⟩
            case measure => simp [intOf]; omega
        · have hdd : decide ((4294967296 : Int) ≤ (D : Int)) = false := by simp; omega
          have hmul := mul_bd (show D < 4294967296 by omega) hb2l
          obtain ⟨P, hP⟩ : ∃ P : Nat, P = D * b2 := ⟨_, rfl⟩
          have hbit1 : IntKind.u64.wrap ((D : Int) * (b2 : Int)) = (P : Int) := by rw [← Int.natCast_mul, ← hP, IntKind.wrap_u64]; omega
          obtain ⟨T, hT⟩ : ∃ T : Nat, T = R * 4294967296 + ub := ⟨_, rfl⟩
          have hbit2 : (4294967296 : Int) * (R : Int) + (ub : Int) = (T : Int) := by omega
          have hbit3 : IntKind.u64.wrap (4294967296 * (R : Int)) = 4294967296 * (R : Int) := by rw [IntKind.wrap_u64]; omega
          have hbit4 : IntKind.u64.wrap (4294967296 * (R : Int) + (ub : Int)) = (T : Int) := by rw [IntKind.wrap_u64]; omega
          have hT9 : T ≤ 18446744073709551615 := by omega
          have HT := Lib.hid hT
          have HP := Lib.hid hP
          rw [← hP] at hmul
          clear hT hP
          by_cases hp : T < P
          · have hlt : Q2 < D := by rw [HQ2.out]; exact gs_lt hb1p (by rw [← HI2.out]; exact HDR.out) (.inr (by rw [← HT.out, ← HP.out]; exact hp))
            have HDM : Hid ((D - 1) * b1 + (R + b1) = D * b1 + R) := by show _ = _; rw [Nat.sub_mul, Nat.one_mul]; have := Nat.le_mul_of_pos_left b1 (show 0 < D by omega); omega
            have hpi : (T : Int) < (P : Int) := by omega
            by_cases hR2 : R + b1 < 4294967296
            case' pos => have hR2d : decide ((4294967296 : Int) ≤ (R : Int) + (b1 : Int)) = false := by simp; omega
            case' neg => have hR2i : (4294967296 : Int) ≤ (R : Int) + (b1 : Int) := by omega
            case' neg => have hQE : Q2 = D - 1 := by rw [HQ2.out]; exact gs_break hb1p hb2l hu1l hle (by rw [← HI2.out, ← HDR.out]; exact HDM.out) (by omega) (by rw [← HQ2.out]; omega)
            case' neg => have HQE := Lib.hid hQE
            case' neg => clear hQE
            all_goals clear hd hp
            all_goals go_wp2
            · go_meet
              have := HQE.out
              exact ⟨by go_num, rfl⟩
            · go_roundw
              case rel => exact ⟨D - 1, R + b1, by go_num, by go_num, by rw [← HDR.out]; exact HDM.out, by omega, by omega, by first | trivial | rfl⟩
              case measure => simp [intOf]; omega
          · have hpd : decide (T < P) = false := decide_eq_false hp
            have hQE : Q2 = D := by rw [HQ2.out]; exact gs_eq hb1p (by rw [← HI2.out]; exact HDR.out) (by omega) (by rw [← HP.out, ← HT.out]; omega) (by rw [← HQ2.out]; exact hQD)
            have HQE := Lib.hid hQE
            clear hQE hd hp
            go_wp2
            go_meet
            have := HQE.out
            exact ⟨by go_num, rfl⟩
    case rest =>
      obtain ⟨rfl, rfl⟩ := hcut
      have hts := two_steps (U := U) (u1 := ua) (u0 := ub) (show 0 < Y by omega)
      have hz1 : Q * 4294967296 + Q2 = (hi * 18446744073709551616 + lo) / y := by rw [← HQR.out, HQX.out, HQX2.out, HU2.out]; exact hts.1
      have hz2 : (U2 * 4294967296 + ub) % Y / 2 ^ s = (hi * 18446744073709551616 + lo) % y := by rw [← HRR.out, HU2.out, hts.2]
      have hrw := rest_wrap HQX2.out (show 0 < Y by omega) hYl
      have HZ1 := Lib.hid hz1
      have HZ2 := Lib.hid hz2
      have HRW := Lib.hid hrw
      have hQl : Q ≤ 4294967295 := by
        rw [HQX.out]
        have : (U * 4294967296 + ua) / Y < 4294967296 := by
          rw [Nat.div_lt_iff_lt_mul (by omega), Nat.mul_comm 4294967296 Y]
          have := Nat.mul_le_mul_right 4294967296 (show U + 1 ≤ Y from HUY.out)
          have := HUL.out
          omega
        omega
      clear hts hz1 hz2 hrw hq0 hq0' hrl hD9 hle hu1l hP0 hw1 hw2 hw3 HDM0 HR0 HQ0 HW4
      go_wp2
      go_ret2
      refine ⟨ret2_int ?_ ?_, 0, rfl⟩
      · rw [← HZ1.out]
        omega
      · have h := HRW.out
        have e : IntKind.u64.wrap (IntKind.u64.wrap (IntKind.u64.wrap ((U2 : Int) * 4294967296) + (ub : Int)) - IntKind.u64.wrap ((Q2 : Int) * (Y : Int))) = (((U2 * 4294967296 + ub) % Y : Nat) : Int) := by
          rw [← h, ← Int.natCast_mul]
          generalize Q2 * Y = Z
          rw [IntKind.wrap_u64, IntKind.wrap_u64, IntKind.wrap_u64, IntKind.wrap_u64]
          omega
        rw [e, cast_shr, HZ2.out]
theorem bitLen_bd {x : Nat} (h0 : 0 < x) (h : x < 18446744073709551616) : 1 ≤ Lib.bitLen x ∧ Lib.bitLen x ≤ 64 ∧ 2 ^ (Lib.bitLen x - 1) ≤ x ∧ x < 2 ^ Lib.bitLen x := by
  have h1 := Lib.bitLenAux_bounds 64 x h (by omega)
  have h2 := Lib.bitLen_le x 64 (by omega) h
  exact ⟨h1.1, h2, h1.2.1, h1.2.2⟩
set_option maxRecDepth 100000 in
theorem div64_zero (w : World) (lo y : Nat) (h1 : 0 < y) (h2 : y < 18446744073709551616) (h3 : lo < 18446744073709551616) :
    Calls Tryz.prog 55 #[.int .u64 ((0 : Nat) : Int), .int .u64 (lo : Int), .int .u64 (y : Int)] w fun e w' => e = .returned (.tuple #[.int .u64 ((lo / y : Nat) : Int), .int .u64 ((lo % y : Nat) : Int)]) ∧ ∃ d, w' = w.drewN d := by
  have hq0 : (lo : Int).tdiv (y : Int) = ((lo / y : Nat) : Int) := by rw [Int.tdiv_eq_ediv_of_nonneg (by omega), ← Int.natCast_ediv]
  have hr0 : (lo : Int).tmod (y : Int) = ((lo % y : Nat) : Int) := by rw [Int.tmod_eq_emod_of_nonneg (by omega), ← Int.natCast_emod]
  have hq0' : (lo : Int) / (y : Int) = ((lo / y : Nat) : Int) := by rw [← Int.natCast_ediv]
  have hr0' : (lo : Int) % (y : Int) = ((lo % y : Nat) : Int) := by rw [← Int.natCast_emod]
  have hq9 := Nat.div_le_self lo y
  have hr9 := Nat.mod_lt lo h1
  have hb0 : ¬ ((y : Int) = 0) := by omega
  generalize lo / y = Q at *
  generalize lo % y = R at *
  go_enter Tryz.func55, Tryz.ntmps55
  go_wp2
  go_quiet (fail)
  go_wp2
  go_ret2
  exact ⟨ret2_int (by first | rfl | omega) (by first | rfl | omega), _, rfl⟩
theorem d64_scale {hi lo s : Nat} (hs : s < 64) (hlo : lo < 18446744073709551616) :
    lo / 2 ^ (64 - s) < 2 ^ s ∧ (hi * 18446744073709551616 + lo) * 2 ^ s = (hi * 2 ^ s + lo / 2 ^ (64 - s)) * 18446744073709551616 + lo * 2 ^ s % 18446744073709551616 := by
  have e : (18446744073709551616 : Nat) = 2 ^ (64 - s) * 2 ^ s := by rw [← Nat.pow_add, show 64 - s + s = 64 by omega]
  have hp : 0 < 2 ^ s := Nat.pow_pos (by omega)
  have hp2 : 0 < 2 ^ (64 - s) := Nat.pow_pos (by omega)
  have hd : lo * 2 ^ s / 18446744073709551616 = lo / 2 ^ (64 - s) := by
    rw [show lo * 2 ^ s / 18446744073709551616 = lo * 2 ^ s / (2 ^ (64 - s) * 2 ^ s) by rw [← e], Nat.mul_div_mul_right _ _ hp]
  refine ⟨by rw [Nat.div_lt_iff_lt_mul hp2, Nat.mul_comm, ← e]; exact hlo, ?_⟩
  have hm := Nat.div_add_mod (lo * 2 ^ s) 18446744073709551616
  rw [hd] at hm
  have h1 : (hi * 18446744073709551616 + lo) * 2 ^ s = hi * 2 ^ s * 18446744073709551616 + lo * 2 ^ s := by
    rw [Nat.add_mul, Nat.mul_assoc, Nat.mul_assoc, Nat.mul_comm 18446744073709551616]
  rw [h1, Nat.add_mul]
  omega
theorem d64_norm {y : Nat} (h0 : 0 < y) (h : y < 18446744073709551616) : 9223372036854775808 ≤ y * 2 ^ (64 - Lib.bitLen y) ∧ y * 2 ^ (64 - Lib.bitLen y) < 18446744073709551616 := by
  obtain ⟨b1, b2, b3, b4⟩ := bitLen_bd h0 h
  generalize Lib.bitLen y = L at *
  have hp : 0 < 2 ^ (64 - L) := Nat.pow_pos (by omega)
  have e1 : 2 ^ (L - 1) * 2 ^ (64 - L) = 9223372036854775808 := by rw [← Nat.pow_add, show L - 1 + (64 - L) = 63 by omega]
  have e2 : 2 ^ L * 2 ^ (64 - L) = 18446744073709551616 := by rw [← Nat.pow_add, show L + (64 - L) = 64 by omega]
  refine ⟨by rw [← e1]; exact Nat.mul_le_mul_right _ b3, by rw [← e2]; exact Nat.mul_lt_mul_of_pos_right b4 hp⟩
theorem div64_any (w : World) (hi lo y : Nat) (h1 : hi < y) (h2 : y < 18446744073709551616) (h3 : lo < 18446744073709551616) :
    Calls Tryz.prog 55 #[.int .u64 (hi : Int), .int .u64 (lo : Int), .int .u64 (y : Int)] w fun e w' => e = .returned (.tuple #[.int .u64 (((hi * 18446744073709551616 + lo) / y : Nat) : Int), .int .u64 (((hi * 18446744073709551616 + lo) % y : Nat) : Int)]) ∧ ∃ d, w' = w.drewN d := by
  rcases Nat.eq_zero_or_pos hi with rfl | h0
  · have := div64_zero w lo y h1 h2 h3
    rw [Nat.zero_mul, Nat.zero_add]
    exact this
  · obtain ⟨c1, c2, c3, c4⟩ := bitLen_bd (show 0 < y by omega) h2
    have hnm := d64_norm (show 0 < y by omega) h2
    obtain ⟨s, hs⟩ : ∃ s, s = 64 - Lib.bitLen y := ⟨_, rfl⟩
    rw [← hs] at hnm
    have hs64 : s < 64 := by omega
    obtain ⟨k1, k2⟩ := d64_scale (hi := hi) hs64 h3
    have hp : 0 < 2 ^ s := Nat.pow_pos (by omega)
    have hHL : ∀ w, Calls Tryz.prog 71 #[.int .u64 (y : Int)] w fun e w' => e = .returned (.int .i64 (s : Int)) ∧ w = w' := fun w => by
      refine (slz64_any y w h2 c2).mono ?_
      rintro e w' ⟨rfl, rfl⟩
      exact ⟨ret_int (by omega), rfl⟩
    have hle : hi * 2 ^ s + 2 ^ s ≤ y * 2 ^ s := by
      have := Nat.mul_le_mul_right (2 ^ s) (show hi + 1 ≤ y from h1)
      rw [Nat.add_mul, Nat.one_mul] at this
      exact this
    have hsd := shifted_div (hi * 18446744073709551616 + lo) y s (by omega)
    obtain ⟨Y, hY⟩ : ∃ Y, Y = y * 2 ^ s := ⟨_, rfl⟩
    obtain ⟨G, hG⟩ : ∃ G, G = lo / 2 ^ (64 - s) := ⟨_, rfl⟩
    obtain ⟨V, hV⟩ : ∃ V, V = lo * 2 ^ s % 18446744073709551616 := ⟨_, rfl⟩
    obtain ⟨U, hU⟩ : ∃ U, U = hi * 2 ^ s + G := ⟨_, rfl⟩
    rw [← hY] at hnm hle hsd
    rw [← hG] at k1
    rw [← hG, ← hV, ← hU] at k2
    rw [k2] at hsd
    have hVl : V < 18446744073709551616 := by rw [hV]; exact Nat.mod_lt _ (by omega)
    have hhl : hi * 2 ^ s < 18446744073709551616 := by omega
    have hsplit : U * 18446744073709551616 + V = (U * 4294967296 + V / 4294967296) * 4294967296 + V % 4294967296 := by omega
    rw [hsplit] at hsd
    refine div64_main w hi lo y s Y (Y / 4294967296) (Y % 4294967296) U V (V / 4294967296) (V % 4294967296) h0 h1 h2 h3 hs64 hHL (by omega) (by omega) (by omega) (by omega) (by omega) (by omega) (by omega) (by omega) ?_ (by omega) ?_ ?_ ?_ (by omega) ?_ hsd.1 hsd.2
    · rw [cast_shl, Nat.mul_comm, ← hY, wrap_nat, Nat.mod_eq_of_lt hnm.2]
    · exact Mul64.maskN Y hnm.2
    · rw [cast_shl, Nat.mul_comm, wrap_nat, Nat.mod_eq_of_lt hhl, cast_shr, ← hG, bits_or _ _ hhl (by omega), Nat.or_comm, Nat.mul_comm, or_add k1, hU, Nat.mul_comm, Nat.add_comm]
    · rw [cast_shl, Nat.mul_comm, wrap_nat, ← hV]
    · exact Mul64.maskN V hVl
end Go.Proofs.YtegnaknoaflppaaGreatDoor

