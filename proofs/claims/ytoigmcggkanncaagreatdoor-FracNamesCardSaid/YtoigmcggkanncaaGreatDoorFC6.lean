/- Lemmas of several claims. -/
import Derived.Defers
import Derived.Recover
import Derived.Deep.RegionHeld3
import Derived.Test.YtoigmcggkanncaaGreatDoorFC5
/- Package frac: ratio.reduced. -/
namespace Go.Proofs.YtoigmcggkanncaaGreatDoor
open Go.RowKit

/-- The divisor by which a ratio is reduced: it has the sign of the second number. -/
def dvr (x y : Int) : Int := if y < 0 then -(Nat.gcd x.natAbs y.natAbs : Int) else (Nat.gcd x.natAbs y.natAbs : Int)
theorem dvr_ne {x y : Int} (hy : y ≠ 0) : dvr x y ≠ 0 := by
  have h : 0 < Nat.gcd x.natAbs y.natAbs := Nat.gcd_pos_of_pos_right _ (by omega)
  unfold dvr
  split <;> omega
theorem dvr_dvd_left (x y : Int) : dvr x y ∣ x := by
  have h : ((Nat.gcd x.natAbs y.natAbs : Nat) : Int) ∣ x := Int.ofNat_dvd_left.2 (Nat.gcd_dvd_left _ _)
  unfold dvr
  split
  · exact Int.neg_dvd.2 h
  · exact h
theorem dvr_dvd_right (x y : Int) : dvr x y ∣ y := by
  have h : ((Nat.gcd x.natAbs y.natAbs : Nat) : Int) ∣ y := Int.ofNat_dvd_left.2 (Nat.gcd_dvd_right _ _)
  unfold dvr
  split
  · exact Int.neg_dvd.2 h
  · exact h
theorem dvr_left (x y : Int) : x = x / dvr x y * dvr x y := (Int.ediv_mul_cancel (dvr_dvd_left x y)).symm
theorem dvr_right (x y : Int) : y = y / dvr x y * dvr x y := (Int.ediv_mul_cancel (dvr_dvd_right x y)).symm
theorem sz_gcd2 {x y : Int} {k : Nat} (hy : Sz k y) (hy0 : y ≠ 0) : Sz k (Nat.gcd x.natAbs y.natAbs : Int) := by
  unfold Sz at *
  rw [Int.natAbs_natCast]
  exact Nat.lt_of_le_of_lt (Nat.gcd_le_right _ (by omega)) hy
theorem sz_dvr {x y : Int} {k : Nat} (hy : Sz k y) (hy0 : y ≠ 0) : Sz k (dvr x y) := by
  have h := sz_gcd2 (x := x) hy hy0
  unfold dvr
  split
  · exact h.neg
  · exact h
/-- A call returns the fraction p / q. -/
def RFr (w : World) (p q : Int) (e : Ending) (w' : World) : Prop := ∃ A n c B m c', e = .returned (fv (decide (p < 0)) A n c (decide (q < 0)) B m c') ∧ Lm w' w'.heap.size A n c (digs p.natAbs) ∧ Lm w' w'.heap.size B m c' (digs q.natAbs) ∧ Below w.heap.size w w'
section
variable (w : World) (A B : Option Addr) (n m ca cb k : Nat) (x y : Int) (hA : Lm w w.heap.size A n ca (digs x.natAbs)) (hB : Lm w w.heap.size B m cb (digs y.natAbs)) (hx : Sz k x) (hy : Sz k y) (hk : k ≤ 2000) {na nb : Bool} (ha : decide (x < 0) = na) (hb : decide (y < 0) = nb)
include hA hx hk ha
theorem neg_n2 : Calls Tryz.prog 85 #[.agg #[.bool na, .slice A n ca]] w (RN w (-x)) := by
  have hc := chk_z hx (show k ≤ 4096 by omega)
  rw [ha] at hc
  have h := neg_ok w na A n ca _ hA hc
  refine h.mono fun e w' hr => ?_
  have hl : (digs x.natAbs).length ≤ 4096 := Nat.le_trans hx.len (by omega)
  have hr2 := rw_rn hl hr
  have e1 : toI (!na) x.natAbs = -x := by
    subst ha
    unfold toI
    by_cases h : x < 0
    · rw [decide_eq_true h]; simp; omega
    · rw [decide_eq_false h]; simp; omega
  rw [e1] at hr2
  exact hr2
include hB hy hb
theorem gcd_n2 : Calls Tryz.prog 39 #[.agg #[.bool na, .slice A n ca], .agg #[.bool nb, .slice B m cb]] w fun e w' => ∃ A' n' c', e = .returned (.tuple #[.agg #[.bool false, .slice A' n' c'], .int .i64 0]) ∧ Lm w' w'.heap.size A' n' c' (digs (Nat.gcd x.natAbs y.natAbs)) ∧ Below w.heap.size w w' := by
  subst ha hb
  have hxl : (digs x.natAbs).length ≤ 4096 := Nat.le_trans hx.len (by omega)
  have hyl : (digs y.natAbs).length ≤ 4096 := Nat.le_trans hy.len (by omega)
  have h := gcd_any w _ _ A B n m ca cb _ _ hA hB (chkB_z hx (by omega) hy (by omega)) (by rw [← hA.len]; exact hxl) (by rw [← hB.len]; exact hyl)
  have hgl : (digs (Nat.gcd x.natAbs y.natAbs)).length ≤ 4096 := by
    rcases Nat.eq_zero_or_pos x.natAbs with h0 | h0
    · rw [h0, Nat.gcd_zero_left]; exact hyl
    · exact Nat.le_trans (digs_mono (Nat.gcd_le_left _ h0)) hxl
  refine h.mono fun e w' hr => ?_
  obtain ⟨A', n', c', he, hL, hb⟩ := rw_rn (neg := false) hgl hr
  have e1 : decide (toI false (Nat.gcd x.natAbs y.natAbs) < 0) = false := by unfold toI; simp
  rw [e1] at he
  have e2 : (toI false (Nat.gcd x.natAbs y.natAbs)).natAbs = Nat.gcd x.natAbs y.natAbs := toI_abs _ _
  rw [e2] at hL
  exact ⟨A', n', c', he, hL, hb⟩
end
theorem sign_n2 (w : World) (A : Option Addr) (n c k : Nat) (y : Int) (h : Lm w w.heap.size A n c (digs y.natAbs)) (hy : Sz k y) (hk : k ≤ 2000) {nb : Bool} (hb : decide (y < 0) = nb) (s : Int) (hs : s = if y < 0 then -1 else if y = 0 then 0 else 1) :
    Calls Tryz.prog 38 #[.agg #[.bool nb, .slice A n c]] w fun e w' => e = .returned (.tuple #[.int .i64 s, .int .i64 0]) ∧ Below w.heap.size w w' := by
  have hc := chk_z hy (show k ≤ 4096 by omega)
  rw [hb] at hc
  have h2 := sign_ok w nb A n c _ h hc
  have e1 : signZ nb y.natAbs = s := by
    subst hs hb
    unfold signZ sideZ
    by_cases h0 : y < 0
    · rw [decide_eq_true h0, if_pos h0]; simp; omega
    · rw [decide_eq_false h0, if_neg h0]
      by_cases h1 : y = 0
      · simp [h1]
      · rw [if_neg h1]; simp; try omega
  rw [e1] at h2
  exact h2

end Go.Proofs.YtoigmcggkanncaaGreatDoor

/- Package frac: ratio.reduced of valid numbers. -/
namespace Go.Proofs.YtoigmcggkanncaaGreatDoor
open Go.RowKit

set_option maxRecDepth 100000 in
set_option maxHeartbeats 2000000 in
theorem reduced_zero (w : World) (A B : Option Addr) (n m ca cb k : Nat) (x y : Int) (hA : Lm w w.heap.size A n ca (digs x.natAbs)) (hB : Lm w w.heap.size B m cb (digs y.natAbs)) (hx : Sz k x) (hy : Sz k y) (hk : k ≤ 2000) {na nb : Bool} (ha : decide (x < 0) = na) (hb : decide (y < 0) = nb) (hs : y = 0) :
    Calls Tryz.prog 48 #[fv na A n ca nb B m cb] w (fun e w' => e = Pan 18 ∧ Below w.heap.size w w') := by
  have HA := Lib.hid hA
  have HB := Lib.hid hB
  have HX := Lib.hid hx
  have HY := Lib.hid hy
  have HNa := Lib.hid ha
  have HNb := Lib.hid hb
  have HC := Lib.hid hs
  have HS : Hid ((0 : Int) = if y < 0 then -1 else if y = 0 then 0 else 1) := by show _ = _; subst hs; rfl
  clear hA hB hx hy ha hb hs
  go_enter Tryz.func48, Tryz.ntmps48
  go_wp2_with fail
  refine (gcd_n2 _ A B n m ca cb k x y ((HA.out.box _).box _) ((HB.out.box _).box _) HX.out HY.out hk HNa.out HNb.out).mono ?_
  rintro e w1 ⟨A1, n1, c1, rfl, hL1, hb1⟩
  have QF := Lib.hid (((Qd.new w _ rfl (.bool na) (.slice A n ca) (.bool nb) (.slice B m cb) 69).alloc (.cells #[.bool false, .slice none 0 0, .bool false, .slice none 0 0] 29)).via hb1)
  have QR := Lib.hid ((Qd.new (w.alloc (.cells #[.bool na, .slice A n ca, .bool nb, .slice B m cb] 69)) (w.heap.size + 1) (by simp) (.bool false) (.slice none 0 0) (.bool false) (.slice none 0 0) 29).via hb1)
  have LA := Lib.hid (((HA.out.box _).box _).via hb1)
  have LB := Lib.hid (((HB.out.box _).box _).via hb1)
  have L1 := Lib.hid hL1
  have B1 := Lib.hid (bbox (bbox hb1))
  clear hb1 hL1 HA HB
  go_wp2_with fail
  refine (must_ok _ _ _ _ _).mono ?_
  rintro e w2 ⟨rfl, hb2⟩
  have QF2 := Lib.hid ((QF.out.via hb2).alloc (.cells #[.bool false, .slice A1 n1 c1] 24))
  have QR2 := Lib.hid ((QR.out.via hb2).alloc (.cells #[.bool false, .slice A1 n1 c1] 24))
  have LA2 := Lib.hid ((LA.out.via hb2).box (.cells #[.bool false, .slice A1 n1 c1] 24))
  have LB2 := Lib.hid ((LB.out.via hb2).box (.cells #[.bool false, .slice A1 n1 c1] 24))
  have L12 := Lib.hid ((L1.out.via hb2).box (.cells #[.bool false, .slice A1 n1 c1] 24))
  have PG := Lib.hid (Pr.new w2 _ rfl (.bool false) (.slice A1 n1 c1) 24)
  have B2 := Lib.hid ((B1.out.trans (hb2.mono B1.out.size)).alloc (B1.out.trans (hb2.mono B1.out.size)).size (.cells #[.bool false, .slice A1 n1 c1] 24))
  have hg := (QR.out.via hb2).lt
  have ⟨f0, f1, f2, f3, _, _, _, _, fl⟩ := QF.out.via hb2
  clear hb2 QF QR LA LB L1 B1
  go_wp2_with fail
  generalize w2.alloc (.cells #[.bool false, .slice A1 n1 c1] 24) = W2 at *
  refine (sign_n2 _ B m cb k y LB2.out HY.out hk HNb.out 0 HS.out).mono ?_
  rintro e w3 ⟨rfl, hb3⟩
  have QF := Lib.hid (QF2.out.via hb3)
  have QR := Lib.hid (QR2.out.via hb3)
  have LA := Lib.hid (LA2.out.via hb3)
  have LB := Lib.hid (LB2.out.via hb3)
  have L1 := Lib.hid (L12.out.via hb3)
  have P3 := Lib.hid (PG.out.via hb3)
  have B3 := Lib.hid (B2.out.trans (hb3.mono B2.out.size))
  clear hb3 QF2 QR2 LA2 LB2 L12 PG B2 f0 f1 f2 f3 fl
  generalize w2.heap.size = g at *
  go_wp2_with fail
  refine (musti_ok _ _).mono ?_
  rintro e w4 ⟨rfl, rfl⟩
  go_wp2
  exact ⟨rfl, rfl, B3.out⟩
set_option maxRecDepth 100000 in
set_option maxHeartbeats 2000000 in
theorem reduced_pos (w : World) (A B : Option Addr) (n m ca cb k : Nat) (x y : Int) (hA : Lm w w.heap.size A n ca (digs x.natAbs)) (hB : Lm w w.heap.size B m cb (digs y.natAbs)) (hx : Sz k x) (hy : Sz k y) (hk : k ≤ 2000) {na nb : Bool} (ha : decide (x < 0) = na) (hb : decide (y < 0) = nb) (hs : 0 < y) :
    Calls Tryz.prog 48 #[fv na A n ca nb B m cb] w (RFr w (x / dvr x y) (y / dvr x y)) := by
  have HA := Lib.hid hA
  have HB := Lib.hid hB
  have HX := Lib.hid hx
  have HY := Lib.hid hy
  have HNa := Lib.hid ha
  have HNb := Lib.hid hb
  have HC := Lib.hid hs
  have HS : Hid ((1 : Int) = if y < 0 then -1 else if y = 0 then 0 else 1) := by show _ = _; rw [if_neg (by omega), if_neg (by omega)]
  clear hA hB hx hy ha hb hs
  go_enter Tryz.func48, Tryz.ntmps48
  go_wp2_with fail
  refine (gcd_n2 _ A B n m ca cb k x y ((HA.out.box _).box _) ((HB.out.box _).box _) HX.out HY.out hk HNa.out HNb.out).mono ?_
  rintro e w1 ⟨A1, n1, c1, rfl, hL1, hb1⟩
  have QF := Lib.hid (((Qd.new w _ rfl (.bool na) (.slice A n ca) (.bool nb) (.slice B m cb) 69).alloc (.cells #[.bool false, .slice none 0 0, .bool false, .slice none 0 0] 29)).via hb1)
  have QR := Lib.hid ((Qd.new (w.alloc (.cells #[.bool na, .slice A n ca, .bool nb, .slice B m cb] 69)) (w.heap.size + 1) (by simp) (.bool false) (.slice none 0 0) (.bool false) (.slice none 0 0) 29).via hb1)
  have LA := Lib.hid (((HA.out.box _).box _).via hb1)
  have LB := Lib.hid (((HB.out.box _).box _).via hb1)
  have L1 := Lib.hid hL1
  have B1 := Lib.hid (bbox (bbox hb1))
  clear hb1 hL1 HA HB
  go_wp2_with fail
  refine (must_ok _ _ _ _ _).mono ?_
  rintro e w2 ⟨rfl, hb2⟩
  have QF2 := Lib.hid ((QF.out.via hb2).alloc (.cells #[.bool false, .slice A1 n1 c1] 24))
  have QR2 := Lib.hid ((QR.out.via hb2).alloc (.cells #[.bool false, .slice A1 n1 c1] 24))
  have LA2 := Lib.hid ((LA.out.via hb2).box (.cells #[.bool false, .slice A1 n1 c1] 24))
  have LB2 := Lib.hid ((LB.out.via hb2).box (.cells #[.bool false, .slice A1 n1 c1] 24))
  have L12 := Lib.hid ((L1.out.via hb2).box (.cells #[.bool false, .slice A1 n1 c1] 24))
  have PG := Lib.hid (Pr.new w2 _ rfl (.bool false) (.slice A1 n1 c1) 24)
  have B2 := Lib.hid ((B1.out.trans (hb2.mono B1.out.size)).alloc (B1.out.trans (hb2.mono B1.out.size)).size (.cells #[.bool false, .slice A1 n1 c1] 24))
  have hg := (QR.out.via hb2).lt
  have ⟨f0, f1, f2, f3, _, _, _, _, fl⟩ := QF.out.via hb2
  clear hb2 QF QR LA LB L1 B1
  go_wp2_with fail
  generalize w2.alloc (.cells #[.bool false, .slice A1 n1 c1] 24) = W2 at *
  refine (sign_n2 _ B m cb k y LB2.out HY.out hk HNb.out 1 HS.out).mono ?_
  rintro e w3 ⟨rfl, hb3⟩
  have QF := Lib.hid (QF2.out.via hb3)
  have QR := Lib.hid (QR2.out.via hb3)
  have LA := Lib.hid (LA2.out.via hb3)
  have LB := Lib.hid (LB2.out.via hb3)
  have L1 := Lib.hid (L12.out.via hb3)
  have P3 := Lib.hid (PG.out.via hb3)
  have B3 := Lib.hid (B2.out.trans (hb3.mono B2.out.size))
  clear hb3 QF2 QR2 LA2 LB2 L12 PG B2 f0 f1 f2 f3 fl
  generalize w2.heap.size = g at *
  go_wp2_with fail
  refine (musti_ok _ _).mono ?_
  rintro e w4 ⟨rfl, rfl⟩
  have HD : Hid (decide (dvr x y < 0) = false) := by
    show _ = _
    have := HC.out
    unfold dvr
    rw [if_neg (by omega)]
    simp
  have LC : Hid (Lm w3 w3.heap.size A1 n1 c1 (digs (dvr x y).natAbs)) := by
    have := HC.out
    have e : (dvr x y).natAbs = Nat.gcd x.natAbs y.natAbs := by unfold dvr; rw [if_neg (by omega)]; rfl
    rw [e]
    exact L1.out
  have BL := Lib.hid B3.out
  have ⟨f0, f1, f2, f3, _, _, _, _, fl⟩ := QF.out
  have ⟨p0, p1, _, _, pl⟩ := P3.out
  go_wp2_with fail
  clear f0 f1 f2 f3 fl p0 p1 pl
  refine (divided_x _ A B A1 n m n1 ca cb c1 k x y (dvr x y) (x / dvr x y) (y / dvr x y) LA.out LB.out LC.out HX.out HY.out (sz_dvr HY.out (by have := HC.out; omega)) hk (dvr_ne (by have := HC.out; omega)) (dvr_left x y) (dvr_right x y) HNa.out HNb.out HD.out).mono ?_
  rintro e w5 ⟨A5, n5, c5, B5, m5, d5, rfl, hL5, hM5, hb5⟩
  have QR5 := QR.out.via hb5
  obtain ⟨np, hnp⟩ : ∃ b, decide (x / dvr x y < 0) = b := ⟨_, rfl⟩
  obtain ⟨nq, hnq⟩ : ∃ b, decide (y / dvr x y < 0) = b := ⟨_, rfl⟩
  rw [hnp, hnq]
  have HNp := Lib.hid hnp
  have HNq := Lib.hid hnq
  have L5 := Lib.hid hL5
  have M5 := Lib.hid hM5
  have BB := Lib.hid (BL.out.trans (hb5.mono BL.out.size))
  clear hnp hnq hL5 hM5 hb5
  have ⟨r0, r1, r2, r3, rf0, rf1, rf2, rf3, rl⟩ := QR5
  go_wp2
  exact post_f1 Tryz.results48 rfl rfl (QR5.set (.bool np) (.slice A5 n5 c5) (.bool nq) (.slice B5 m5 d5)) ⟨A5, n5, c5, B5, m5, d5, by rw [HNp.out, HNq.out], L5.out.put4 QR5 _ _ _ _, M5.out.put4 QR5 _ _ _ _, below_put4 BB.out (by omega) _ _ _ _⟩
set_option maxRecDepth 100000 in
set_option maxHeartbeats 2000000 in
theorem reduced_neg (w : World) (A B : Option Addr) (n m ca cb k : Nat) (x y : Int) (hA : Lm w w.heap.size A n ca (digs x.natAbs)) (hB : Lm w w.heap.size B m cb (digs y.natAbs)) (hx : Sz k x) (hy : Sz k y) (hk : k ≤ 2000) {na nb : Bool} (ha : decide (x < 0) = na) (hb : decide (y < 0) = nb) (hs : y < 0) :
    Calls Tryz.prog 48 #[fv na A n ca nb B m cb] w (RFr w (x / dvr x y) (y / dvr x y)) := by
  have HA := Lib.hid hA
  have HB := Lib.hid hB
  have HX := Lib.hid hx
  have HY := Lib.hid hy
  have HNa := Lib.hid ha
  have HNb := Lib.hid hb
  have HC := Lib.hid hs
  have HS : Hid (((-1) : Int) = if y < 0 then -1 else if y = 0 then 0 else 1) := by show _ = _; rw [if_pos hs]
  clear hA hB hx hy ha hb hs
  go_enter Tryz.func48, Tryz.ntmps48
  go_wp2_with fail
  refine (gcd_n2 _ A B n m ca cb k x y ((HA.out.box _).box _) ((HB.out.box _).box _) HX.out HY.out hk HNa.out HNb.out).mono ?_
  rintro e w1 ⟨A1, n1, c1, rfl, hL1, hb1⟩
  have QF := Lib.hid (((Qd.new w _ rfl (.bool na) (.slice A n ca) (.bool nb) (.slice B m cb) 69).alloc (.cells #[.bool false, .slice none 0 0, .bool false, .slice none 0 0] 29)).via hb1)
  have QR := Lib.hid ((Qd.new (w.alloc (.cells #[.bool na, .slice A n ca, .bool nb, .slice B m cb] 69)) (w.heap.size + 1) (by simp) (.bool false) (.slice none 0 0) (.bool false) (.slice none 0 0) 29).via hb1)
  have LA := Lib.hid (((HA.out.box _).box _).via hb1)
  have LB := Lib.hid (((HB.out.box _).box _).via hb1)
  have L1 := Lib.hid hL1
  have B1 := Lib.hid (bbox (bbox hb1))
  clear hb1 hL1 HA HB
  go_wp2_with fail
  refine (must_ok _ _ _ _ _).mono ?_
  rintro e w2 ⟨rfl, hb2⟩
  have QF2 := Lib.hid ((QF.out.via hb2).alloc (.cells #[.bool false, .slice A1 n1 c1] 24))
  have QR2 := Lib.hid ((QR.out.via hb2).alloc (.cells #[.bool false, .slice A1 n1 c1] 24))
  have LA2 := Lib.hid ((LA.out.via hb2).box (.cells #[.bool false, .slice A1 n1 c1] 24))
  have LB2 := Lib.hid ((LB.out.via hb2).box (.cells #[.bool false, .slice A1 n1 c1] 24))
  have L12 := Lib.hid ((L1.out.via hb2).box (.cells #[.bool false, .slice A1 n1 c1] 24))
  have PG := Lib.hid (Pr.new w2 _ rfl (.bool false) (.slice A1 n1 c1) 24)
  have B2 := Lib.hid ((B1.out.trans (hb2.mono B1.out.size)).alloc (B1.out.trans (hb2.mono B1.out.size)).size (.cells #[.bool false, .slice A1 n1 c1] 24))
  have hg := (QR.out.via hb2).lt
  have ⟨f0, f1, f2, f3, _, _, _, _, fl⟩ := QF.out.via hb2
  clear hb2 QF QR LA LB L1 B1
  go_wp2_with fail
  generalize w2.alloc (.cells #[.bool false, .slice A1 n1 c1] 24) = W2 at *
  refine (sign_n2 _ B m cb k y LB2.out HY.out hk HNb.out (-1) HS.out).mono ?_
  rintro e w3 ⟨rfl, hb3⟩
  have QF := Lib.hid (QF2.out.via hb3)
  have QR := Lib.hid (QR2.out.via hb3)
  have LA := Lib.hid (LA2.out.via hb3)
  have LB := Lib.hid (LB2.out.via hb3)
  have L1 := Lib.hid (L12.out.via hb3)
  have P3 := Lib.hid (PG.out.via hb3)
  have B3 := Lib.hid (B2.out.trans (hb3.mono B2.out.size))
  clear hb3 QF2 QR2 LA2 LB2 L12 PG B2 f0 f1 f2 f3 fl
  generalize w2.heap.size = g at *
  go_wp2_with fail
  refine (musti_ok _ _).mono ?_
  rintro e w4 ⟨rfl, rfl⟩
  have hg0 : Sz k (Nat.gcd x.natAbs y.natAbs : Int) := sz_gcd2 HY.out (by have := HC.out; omega)
  have HG := Lib.hid hg0
  have hdg : decide ((Nat.gcd x.natAbs y.natAbs : Int) < 0) = false := by simp
  have HDG := Lib.hid hdg
  have HD : Hid (decide (-(Nat.gcd x.natAbs y.natAbs : Int) < 0) = true) := by
    show _ = _
    have := HC.out
    have h : 0 < Nat.gcd x.natAbs y.natAbs := Nat.gcd_pos_of_pos_right _ (by omega)
    simp
    omega
  have HE : Hid (dvr x y = -(Nat.gcd x.natAbs y.natAbs : Int)) := by
    show _ = _
    have := HC.out
    unfold dvr
    rw [if_pos this]
  clear hg0 hdg
  have ⟨p0, p1, _, _, pl⟩ := P3.out
  go_wp2_with fail
  clear p0 p1 pl
  refine (neg_n2 _ A1 n1 c1 k (Nat.gcd x.natAbs y.natAbs : Int) L1.out HG.out hk HDG.out).mono ?_
  rintro e w4 ⟨A4, n4, c4, rfl, hL4, hb4⟩
  rw [HD.out]
  rw [← HE.out] at hL4 HD
  have QF4 := Lib.hid (QF.out.via hb4)
  have QR4 := Lib.hid (QR.out.via hb4)
  have LA4 := Lib.hid (LA.out.via hb4)
  have LB4 := Lib.hid (LB.out.via hb4)
  have P4 := Lib.hid (P3.out.via hb4)
  have L4 := Lib.hid hL4
  have B4 := Lib.hid (B3.out.trans (hb4.mono B3.out.size))
  clear hL4 hb4 QF QR LA LB L1 P3 B3
  go_wp2_with fail
  refine (must_ok _ _ _ _ _).mono ?_
  rintro e w6 ⟨rfl, hb6⟩
  have P6 := P4.out.via hb6
  have QF := Lib.hid ((QF4.out.via hb6).far2 (h := g) (x := .bool true) (y := .slice A4 n4 c4) (by omega))
  have QR := Lib.hid ((QR4.out.via hb6).far2 (h := g) (x := .bool true) (y := .slice A4 n4 c4) (by omega))
  have LA := Lib.hid ((LA4.out.via hb6).setP P6 (.bool true) (.slice A4 n4 c4))
  have LB := Lib.hid ((LB4.out.via hb6).setP P6 (.bool true) (.slice A4 n4 c4))
  have LC := Lib.hid ((L4.out.via hb6).setP P6 (.bool true) (.slice A4 n4 c4))
  have P7 := Lib.hid (P6.set (.bool true) (.slice A4 n4 c4))
  have BL := Lib.hid (below_set2 (B4.out.trans (hb6.mono B4.out.size)) (g := g) (by omega) (.bool true) (.slice A4 n4 c4))
  have ⟨p0, p1, pf0, pf1, pl⟩ := P6
  have ⟨f0, f1, f2, f3, _, _, _, _, fl⟩ := QF4.out.via hb6
  clear hb6 QF4 QR4 LA4 LB4 L4 P4 B4 P6
  go_wp2_with fail
  clear p0 p1 pf0 pf1 pl f0 f1 f2 f3 fl
  generalize (w6.setCell ⟨g, 0, none⟩ (.bool true)).setCell ⟨g, 1, none⟩ (.slice A4 n4 c4) = W6 at *
  refine (divided_x _ A B A4 n m n4 ca cb c4 k x y (dvr x y) (x / dvr x y) (y / dvr x y) LA.out LB.out LC.out HX.out HY.out (sz_dvr HY.out (by have := HC.out; omega)) hk (dvr_ne (by have := HC.out; omega)) (dvr_left x y) (dvr_right x y) HNa.out HNb.out HD.out).mono ?_
  rintro e w5 ⟨A5, n5, c5, B5, m5, d5, rfl, hL5, hM5, hb5⟩
  have QR5 := QR.out.via hb5
  obtain ⟨np, hnp⟩ : ∃ b, decide (x / dvr x y < 0) = b := ⟨_, rfl⟩
  obtain ⟨nq, hnq⟩ : ∃ b, decide (y / dvr x y < 0) = b := ⟨_, rfl⟩
  rw [hnp, hnq]
  have HNp := Lib.hid hnp
  have HNq := Lib.hid hnq
  have L5 := Lib.hid hL5
  have M5 := Lib.hid hM5
  have BB := Lib.hid (BL.out.trans (hb5.mono BL.out.size))
  clear hnp hnq hL5 hM5 hb5
  have ⟨r0, r1, r2, r3, rf0, rf1, rf2, rf3, rl⟩ := QR5
  go_wp2
  exact post_f1 Tryz.results48 rfl rfl (QR5.set (.bool np) (.slice A5 n5 c5) (.bool nq) (.slice B5 m5 d5)) ⟨A5, n5, c5, B5, m5, d5, by rw [HNp.out, HNq.out], L5.out.put4 QR5 _ _ _ _, M5.out.put4 QR5 _ _ _ _, below_put4 BB.out (by omega) _ _ _ _⟩
end Go.Proofs.YtoigmcggkanncaaGreatDoor

/- Package frac: attempt, which makes a panic a result. -/
namespace Go.Proofs.YtoigmcggkanncaaGreatDoor
open Go.RowKit

/-- A store into a cell that holds an int touches no limb. -/
theorem Lm.err {w : World} {n c : Nat} {A : Option Addr} {xs : List Nat} (h : Lm w w.heap.size A n c xs) {g i : Nat} {z : Int} (hc : w.cell? ⟨g, i, none⟩ = some (.int .i64 z)) (v : Value) : Lm (w.setCell ⟨g, i, none⟩ v) (w.setCell ⟨g, i, none⟩ v).heap.size A n c xs := by
  rw [World.size_setCell]
  refine ⟨h.len, h.good, h.cap, h.max, h.nil_, fun hn => ?_⟩
  obtain ⟨b, off, e, hb, hcs⟩ := h.at_ hn
  refine ⟨b, off, e, hb, fun j hj => ?_⟩
  have hcj := hcs j hj
  rw [World.cell?_setCell_other]
  · exact hcj
  · intro e2
    rw [← e2, hc] at hcj
    have := Option.some.inj hcj
    injection this with h1 h2
    cases h1
theorem Qd.far1 {w : World} {g h : Nat} {x0 x1 x2 x3 : Value} (p : Qd w g x0 x1 x2 x3) (hne : g ≠ h) (i : Nat) (v : Value) : Qd (w.setCell ⟨h, i, none⟩ v) g x0 x1 x2 x3 := by
  have e : ∀ j, (⟨h, i, none⟩ : Addr) ≠ ⟨g, j, none⟩ := fun j e => hne (congrArg Addr.block e).symm
  exact ⟨(World.cell?_setCell_other _ _ _ _ (e 0)).trans p.c0, (World.cell?_setCell_other _ _ _ _ (e 1)).trans p.c1, (World.cell?_setCell_other _ _ _ _ (e 2)).trans p.c2, (World.cell?_setCell_other _ _ _ _ (e 3)).trans p.c3,
    by have := p.f0; simpa using this, by have := p.f1; simpa using this, by have := p.f2; simpa using this, by have := p.f3; simpa using this, by rw [World.size_setCell]; exact p.lt⟩

theorem catch_panicking (p : Addr) (x0 x : Int) (older : List PanicEntry) (w : World) (hc : w.cell? p = some (.int .i64 x0)) (hz : w.frozen? p = false) :
    CallsD Tryz.prog 81 #[.pointer (some p)] (.panicking ({ v := .iface 26 (.int .i64 x), recovered := false } :: older)) w fun e u' w' =>
      e = .returned (.tuple #[]) ∧ u' = .panicking ({ v := .iface 26 (.int .i64 x), recovered := true } :: older) ∧ w' = w.setCell p (.int .i64 x) := by
  have hta : ∀ w : World, (Instr.typeAssert (.iface 26 (.int .i64 x)) 20 26 false).run Tryz.prog w = .ok (.int .i64 x) w := fun _ => by kernel_rfl
  refine callsD_of_wpS Tryz.func81 rfl fun c₀ cs hu => ?_
  apply wpS_seq
  apply wpS_region
  simp [wpOpsS, go_sem, recoverD, hu, Tryz.ntmps81, Exit.thenS]
  apply wpS_seq
  apply wpS_region
  simp [wpOpsS, go_sem, Exit.thenS]
  refine wpS_cond (t := true) (by simp [Act.eval, Array.replicate]) ?_
  simp only [if_true]
  apply wpS_region
  simp [wpOpsS, go_sem, hta, hc, hz, bodyPostS, results, Tryz.results81]

theorem catch_idle (p : Addr) (w : World) :
    CallsD Tryz.prog 81 #[.pointer (some p)] .returning w fun e u' w' => e = .returned (.tuple #[]) ∧ u' = .returning ∧ w' = w := by
  refine callsD_of_wpS Tryz.func81 rfl fun c₀ cs hu => ?_
  apply wpS_seq
  apply wpS_region
  simp [wpOpsS, go_sem, recoverD, hu, Tryz.ntmps81, Exit.thenS]
  apply wpS_seq
  apply wpS_region
  simp [wpOpsS, go_sem, Exit.thenS]
  refine wpS_cond (t := false) (by simp [Act.eval, Array.replicate]) ?_
  simp only [Bool.false_eq_true, if_false]
  refine wpS_of_wp (wp_skip ?_)
  cases c₀
  simp_all [bodyPostS, results, Tryz.results81]

/-- A call returns a fraction and no error. -/
def RFE (w : World) (p q : Int) (e : Ending) (w' : World) : Prop := ∃ A n c B m c', e = .returned (.tuple #[fv (decide (p < 0)) A n c (decide (q < 0)) B m c', .int .i64 0]) ∧ Lm w' w'.heap.size A n c (digs p.natAbs) ∧ Lm w' w'.heap.size B m c' (digs q.natAbs) ∧ Below w.heap.size w w'
/-- A call returns an error. -/
def RFX (w : World) (x : Int) (e : Ending) (w' : World) : Prop := e = .returned (.tuple #[fv false none 0 0 false none 0 0, .int .i64 x]) ∧ Below w.heap.size w w'
/-- The world in which attempt calls: with the boxes of its two results. -/
def Wat (w : World) : World := (w.alloc (.cells #[.bool false, .slice none 0 0, .bool false, .slice none 0 0] 29)).alloc (.cells #[.int .i64 0] 26)
theorem wat_below (w : World) : Below w.heap.size w (Wat w) := ((Below.refl _ _).alloc (Nat.le_refl _) _).alloc (by simp) _
theorem wat_qd (w : World) : Qd (Wat w) w.heap.size (.bool false) (.slice none 0 0) (.bool false) (.slice none 0 0) := (Qd.new w _ rfl _ _ _ _ _).alloc _
theorem wat_c (w : World) : (Wat w).cell? ⟨w.heap.size + 1, 0, none⟩ = some (.int .i64 0) ∧ (Wat w).frozen? ⟨w.heap.size + 1, 0, none⟩ = false := by unfold Wat; constructor <;> go_simp
theorem wat_size (w : World) : (Wat w).heap.size = w.heap.size + 1 + 1 := by unfold Wat; simp

set_option maxRecDepth 100000 in
set_option maxHeartbeats 1000000 in
theorem attempt_ok (w : World) (f : FuncId) (first cap : Array Value) (p q : Int) (hcf : ∀ W, (callFunc f (first ++ cap)).run Tryz.prog W = .ok (.enter f (first ++ cap)) W)
    (H : Calls Tryz.prog f (first ++ cap) (Wat w) (RFr (Wat w) p q)) :
    Calls Tryz.prog 45 #[.func (.func f) first cap] w (RFE w p q) := by
  have hmf : ∀ (fn : Fn) (first cap : Array Value) (w : World), (Instr.makeFunc fn first cap).run Tryz.prog w = .ok (.func fn first cap) w := fun _ _ _ _ => rfl
  have HH := Lib.hid H
  clear H
  go_enter_defers Tryz.func45, Tryz.ntmps45
  go_wp2_with fail
  refine HH.out.mono ?_
  rintro e w1 ⟨A, n, c, B, m, c', rfl, hL, hM, hb⟩
  have QD := (wat_qd w).via hb
  have hz := hb.size
  rw [wat_size] at hz
  have hc : w1.cell? ⟨w.heap.size + 1, 0, none⟩ = some (.int .i64 0) := (hb.cell (p := ⟨w.heap.size + 1, 0, none⟩) (by rw [wat_size]; simp)).trans (wat_c w).1
  have hf : w1.frozen? ⟨w.heap.size + 1, 0, none⟩ = false := (hb.frozen (p := ⟨w.heap.size + 1, 0, none⟩) (by rw [wat_size]; simp)).trans (wat_c w).2
  obtain ⟨np, hnp⟩ : ∃ b, decide (p < 0) = b := ⟨_, rfl⟩
  obtain ⟨nq, hnq⟩ : ∃ b, decide (q < 0) = b := ⟨_, rfl⟩
  rw [hnp, hnq]
  have HNp := Lib.hid hnp
  have HNq := Lib.hid hnq
  have HQ := Lib.hid QD
  have HL := Lib.hid hL
  have HM := Lib.hid hM
  have HB := Lib.hid ((wat_below w).trans (hb.mono (wat_below w).size))
  clear hnp hnq hL hM hb hz
  have ⟨d0, d1, d2, d3, g0, g1, g2, g3, dl⟩ := QD
  clear QD
  go_wp2
  clear d0 d1 d2 d3 g0 g1 g2 g3 dl
  refine leaves_cons (f := 81) (args := #[.pointer (some ⟨w.heap.size + 1, 0, none⟩)]) (by simp) (by simp [go_sem]) ?_
  refine (catch_idle _ _).mono ?_
  rintro e u' w'' ⟨rfl, rfl, rfl⟩
  have hc2 : (Proofs.YtoigmcggkanncaaGreatDoor.put4 w1 w.heap.size (.bool np) (.slice A n c) (.bool nq) (.slice B m c')).cell? ⟨w.heap.size + 1, 0, none⟩ = some (.int .i64 0) := (put4_cell _ _ _ _ (by omega)).trans hc
  exact ⟨_, res_fe Tryz.results45 rfl rfl ((HQ.out.set (.bool np) (.slice A n c) (.bool nq) (.slice B m c')).far1 (h := w.heap.size + 1) (by omega) 0 (.int .i64 0)) (World.cell?_setCell_same _ _ _ hc2),
    A, n, c, B, m, c', by rw [HNp.out, HNq.out], (HL.out.put4 HQ.out _ _ _ _).err hc2 _, (HM.out.put4 HQ.out _ _ _ _).err hc2 _, (below_put4 HB.out (Nat.le_refl _) _ _ _ _).setCell (p := ⟨w.heap.size + 1, 0, none⟩) (by show w.heap.size ≤ w.heap.size + 1; omega) _⟩

set_option maxRecDepth 100000 in
set_option maxHeartbeats 1000000 in
theorem attempt_no (w : World) (f : FuncId) (first cap : Array Value) (x : Int) (hcf : ∀ W, (callFunc f (first ++ cap)).run Tryz.prog W = .ok (.enter f (first ++ cap)) W)
    (H : Calls Tryz.prog f (first ++ cap) (Wat w) (fun e w' => e = Pan x ∧ Below (Wat w).heap.size (Wat w) w')) :
    Calls Tryz.prog 45 #[.func (.func f) first cap] w (RFX w x) := by
  have hmf : ∀ (fn : Fn) (first cap : Array Value) (w : World), (Instr.makeFunc fn first cap).run Tryz.prog w = .ok (.func fn first cap) w := fun _ _ _ _ => rfl
  have HH := Lib.hid H
  clear H
  go_enter_defers Tryz.func45, Tryz.ntmps45
  go_wp2_with fail
  refine HH.out.mono ?_
  rintro e w1 ⟨rfl, hb⟩
  unfold Pan
  have QD := (wat_qd w).via hb
  have hc : w1.cell? ⟨w.heap.size + 1, 0, none⟩ = some (.int .i64 0) := (hb.cell (p := ⟨w.heap.size + 1, 0, none⟩) (by rw [wat_size]; simp)).trans (wat_c w).1
  have hf : w1.frozen? ⟨w.heap.size + 1, 0, none⟩ = false := (hb.frozen (p := ⟨w.heap.size + 1, 0, none⟩) (by rw [wat_size]; simp)).trans (wat_c w).2
  have HB := Lib.hid ((wat_below w).trans (hb.mono (wat_below w).size))
  have HQ := Lib.hid QD
  clear hb QD
  refine leaves_cons (f := 81) (args := #[.pointer (some ⟨w.heap.size + 1, 0, none⟩)]) (by simp) (by simp [go_sem]) ?_
  refine (catch_panicking _ 0 x _ _ hc hf).mono ?_
  rintro e u' w'' ⟨rfl, rfl, rfl⟩
  exact ⟨_, res_fe Tryz.results45 rfl rfl (HQ.out.far1 (h := w.heap.size + 1) (by omega) 0 (.int .i64 x)) (World.cell?_setCell_same _ _ _ hc),
    rfl, HB.out.setCell (p := ⟨w.heap.size + 1, 0, none⟩) (by show w.heap.size ≤ w.heap.size + 1; omega) _⟩
end Go.Proofs.YtoigmcggkanncaaGreatDoor

/-
  The contracts of both sides for any number, valid or not: what the functions of the chapter return, as functions of the number's reading.
-/
namespace Go.Proofs.YtoigmcggkanncaaGreatDoor
open Go.RowKit

def intVT (neg : Bool) (xs : List Nat) : Int := if chk neg xs = 0 then intV neg (val xs) else 0
def intET (neg : Bool) (xs : List Nat) : Int := if chk neg xs = 0 then intE neg (val xs) else 8
def unN (neg' neg : Bool) (xs : List Nat) : Bool := if chk neg xs = 0 then mkN neg' (val xs) else false
def unL (neg : Bool) (xs : List Nat) : List Nat := if chk neg xs = 0 then mkL (val xs) else []
def unE (neg : Bool) (xs : List Nat) : Int := if chk neg xs = 0 then mkE (val xs) else 8
def cmpVT (na : Bool) (xs : List Nat) (nb : Bool) (ys : List Nat) : Int := if chkB na xs nb ys = 0 then cmpZ (toI na (val xs)) (toI nb (val ys)) else 0
def cmpET (na : Bool) (xs : List Nat) (nb : Bool) (ys : List Nat) : Int := if chkB na xs nb ys = 0 then 0 else 8
def signVT (neg : Bool) (xs : List Nat) : Int := if chk neg xs = 0 then signZ neg (val xs) else 0
def errT (neg : Bool) (xs : List Nat) : Int := if chk neg xs = 0 then 0 else 8
def bitsVT (neg : Bool) (xs : List Nat) : Int := if chk neg xs = 0 then (lenS xs : Int) else 0
theorem rsame_self (w : World) (na : Bool) (A B : Option Addr) (n m ca cb : Nat) (xs : List Nat) (hA : Lm w w.heap.size A n ca xs) (hB : Lm w w.heap.size B m cb xs) :
    Calls Tryz.prog 34 #[.agg #[.bool na, .slice A n ca], .agg #[.bool na, .slice B m cb]] w fun e w' => e = .returned (.bool true) ∧ Below w.heap.size w w' :=
  (rsame_any w na na A B n m ca cb xs xs hA hB).mono fun _ _ ⟨he, hb⟩ => ⟨by rw [he, sameB_self], hb⟩

end Go.Proofs.YtoigmcggkanncaaGreatDoor

/- Package frac: Check, Make, Of. -/
namespace Go.Proofs.YtoigmcggkanncaaGreatDoor
open Go.RowKit

theorem btr {a b c : World} (h : Below a.heap.size a b) (h' : Below b.heap.size b c) : Below a.heap.size a c := h.trans (h'.mono h.size)
/-- The error of a fraction: whether it is valid. -/
def fchk (nn : Bool) (xs : List Nat) (dn : Bool) (ys : List Nat) : Int := if chk nn xs = 0 ∧ chk dn ys = 0 ∧ dn = false ∧ ys ≠ [] ∧ Nat.gcd (val xs) (val ys) = 1 then 0 else 8
theorem digs1 : digs 1 = [1] := by decide
set_option maxRecDepth 100000 in
set_option maxHeartbeats 1000000 in
theorem fcheck_one (w : World) (nn dn : Bool) (A B : Option Addr) (n m ca cb : Nat) (xs ys : List Nat) (hA : Lm w w.heap.size A n ca xs) (hB : Lm w w.heap.size B m cb ys) (hd : dn = false) (hy : ys = digs 1) :
    Calls Tryz.prog 8 #[fv nn A n ca dn B m cb] w fun e w' => e = .returned (.int .i64 (chk nn xs)) ∧ Below w.heap.size w w' := by
  have HA := Lib.hid hA
  have HB := Lib.hid hB
  clear hA hB
  subst hd hy
  go_enter Tryz.func8, Tryz.ntmps8
  go_wp2_with fail
  refine (isOne_yes _ B m cb (HB.out.box _)).mono ?_
  rintro e w1 ⟨rfl, hb1⟩
  have Q1 := (Qd.new w _ rfl (.bool nn) (.slice A n ca) (.bool false) (.slice B m cb) 29).via hb1
  have LA := Lib.hid ((HA.out.box _).via hb1)
  have LB := Lib.hid ((HB.out.box _).via hb1)
  have B1 := Lib.hid (bbox hb1)
  have HQ := Lib.hid Q1
  have ⟨q0, q1, q2, q3, _, _, _, _, ql⟩ := Q1
  clear hb1 Q1 HA HB
  go_wp2_with fail
  refine (check_any _ nn A n ca xs LA.out).mono ?_
  rintro e w2 ⟨rfl, hb2⟩
  go_wp2
  go_ret
  exact ⟨rfl, btr B1.out hb2⟩
set_option maxRecDepth 100000 in
set_option maxHeartbeats 1000000 in
theorem fcheck_sign (w : World) (nn dn : Bool) (A B : Option Addr) (n m ca cb : Nat) (xs ys : List Nat) (hA : Lm w w.heap.size A n ca xs) (hB : Lm w w.heap.size B m cb ys) (hno : dn = true ∨ ys ≠ [1]) (s t : Int) (hst : t ≠ 0 ∨ t = 0 ∧ s ≤ 0) (hS : ∀ W, Lm W W.heap.size B m cb ys → Calls Tryz.prog 38 #[.agg #[.bool dn, .slice B m cb]] W fun e w' => e = .returned (.tuple #[.int .i64 s, .int .i64 t]) ∧ Below W.heap.size W w') :
    Calls Tryz.prog 8 #[fv nn A n ca dn B m cb] w fun e w' => e = .returned (.int .i64 8) ∧ Below w.heap.size w w' := by
  have HA := Lib.hid hA
  have HB := Lib.hid hB
  clear hA hB
  have HNO := Lib.hid hno
  clear hno
  have HS := Lib.hid hS
  clear hS
  have hst2 : (t != 0) = true ∨ t = 0 ∧ s ≤ 0 := by
    rcases hst with h | h
    · exact .inl (by simpa using h)
    · exact .inr h
  clear hst
  go_enter Tryz.func8, Tryz.ntmps8
  go_wp2_with fail
  refine (isOne_no _ dn B m cb ys (HB.out.box _) HNO.out).mono ?_
  rintro e w1 ⟨rfl, hb1⟩
  have Q1 := (Qd.new w _ rfl (.bool nn) (.slice A n ca) (.bool dn) (.slice B m cb) 29).via hb1
  have LA := Lib.hid ((HA.out.box _).via hb1)
  have LB := Lib.hid ((HB.out.box _).via hb1)
  have B1 := Lib.hid (bbox hb1)
  have HQ := Lib.hid Q1
  have ⟨q0, q1, q2, q3, _, _, _, _, ql⟩ := Q1
  clear hb1 Q1 HA HB
  go_wp2_with fail
  refine (HS.out _ LB.out).mono ?_
  rintro e w2 ⟨rfl, hb2⟩
  have B2 := Lib.hid (btr B1.out hb2)
  clear hb2 q0 q1 q2 q3 ql
  rcases hst2 with h | ⟨rfl, h⟩
  · go_wp2
    go_ret
    exact ⟨rfl, B2.out⟩
  · go_wp2
    go_ret
    exact ⟨rfl, B2.out⟩
set_option maxRecDepth 100000 in
set_option maxHeartbeats 1000000 in
theorem fcheck_gbad (w : World) (nn dn : Bool) (A B : Option Addr) (n m ca cb : Nat) (xs ys : List Nat) (hA : Lm w w.heap.size A n ca xs) (hB : Lm w w.heap.size B m cb ys) (hno : dn = true ∨ ys ≠ [1]) (hS : ∀ W, Lm W W.heap.size B m cb ys → Calls Tryz.prog 38 #[.agg #[.bool dn, .slice B m cb]] W fun e w' => e = .returned (.tuple #[.int .i64 1, .int .i64 0]) ∧ Below W.heap.size W w') (hv : chkB nn xs dn ys = 8) :
    Calls Tryz.prog 8 #[fv nn A n ca dn B m cb] w fun e w' => e = .returned (.int .i64 8) ∧ Below w.heap.size w w' := by
  have HA := Lib.hid hA
  have HB := Lib.hid hB
  clear hA hB
  have HNO := Lib.hid hno
  clear hno
  have HS := Lib.hid hS
  have HV := Lib.hid hv
  clear hS hv
  go_enter Tryz.func8, Tryz.ntmps8
  go_wp2_with fail
  refine (isOne_no _ dn B m cb ys (HB.out.box _) HNO.out).mono ?_
  rintro e w1 ⟨rfl, hb1⟩
  have Q1 := (Qd.new w _ rfl (.bool nn) (.slice A n ca) (.bool dn) (.slice B m cb) 29).via hb1
  have LA := Lib.hid ((HA.out.box _).via hb1)
  have LB := Lib.hid ((HB.out.box _).via hb1)
  have B1 := Lib.hid (bbox hb1)
  have HQ := Lib.hid Q1
  have ⟨q0, q1, q2, q3, _, _, _, _, ql⟩ := Q1
  clear hb1 Q1 HA HB
  go_wp2_with fail
  refine (HS.out _ LB.out).mono ?_
  rintro e w2 ⟨rfl, hb2⟩
  have Q2 := HQ.out.via hb2
  have LA2 := Lib.hid (LA.out.via hb2)
  have LB2 := Lib.hid (LB.out.via hb2)
  have B2 := Lib.hid (btr B1.out hb2)
  clear hb2 q0 q1 q2 q3 ql LA LB B1 HQ
  have ⟨q0, q1, q2, q3, _, _, _, _, ql⟩ := Q2
  go_wp2_with fail
  refine (gcd_bad _ nn dn A B n m ca cb xs ys LA2.out LB2.out HV.out).mono ?_
  rintro e w3 ⟨A3, n3, c3, rfl, _, hb3⟩
  have B3 := Lib.hid (btr B2.out hb3)
  clear hb3 q0 q1 q2 q3 ql Q2
  go_wp2
  go_ret
  exact ⟨rfl, B3.out.alloc B3.out.size _⟩
set_option maxRecDepth 100000 in
set_option maxHeartbeats 1000000 in
theorem fcheck_gno (w : World) (nn dn : Bool) (A B : Option Addr) (n m ca cb : Nat) (xs ys : List Nat) (hA : Lm w w.heap.size A n ca xs) (hB : Lm w w.heap.size B m cb ys) (hno : dn = true ∨ ys ≠ [1]) (hS : ∀ W, Lm W W.heap.size B m cb ys → Calls Tryz.prog 38 #[.agg #[.bool dn, .slice B m cb]] W fun e w' => e = .returned (.tuple #[.int .i64 1, .int .i64 0]) ∧ Below W.heap.size W w') (g : Nat) (hg : g ≠ 1) (HGG : ∀ W, Lm W W.heap.size A n ca xs → Lm W W.heap.size B m cb ys → Calls Tryz.prog 39 #[.agg #[.bool nn, .slice A n ca], .agg #[.bool dn, .slice B m cb]] W (RW W false (digs g) 0)) :
    Calls Tryz.prog 8 #[fv nn A n ca dn B m cb] w fun e w' => e = .returned (.int .i64 8) ∧ Below w.heap.size w w' := by
  have HA := Lib.hid hA
  have HB := Lib.hid hB
  clear hA hB
  have HNO := Lib.hid hno
  clear hno
  have HS := Lib.hid hS
  have HG := Lib.hid HGG
  have HN : Hid (false = true ∨ digs g ≠ [1]) := .inr fun e => hg (by rw [← digs_val g, e]; rfl)
  clear hS HGG hg
  go_enter Tryz.func8, Tryz.ntmps8
  go_wp2_with fail
  refine (isOne_no _ dn B m cb ys (HB.out.box _) HNO.out).mono ?_
  rintro e w1 ⟨rfl, hb1⟩
  have Q1 := (Qd.new w _ rfl (.bool nn) (.slice A n ca) (.bool dn) (.slice B m cb) 29).via hb1
  have LA := Lib.hid ((HA.out.box _).via hb1)
  have LB := Lib.hid ((HB.out.box _).via hb1)
  have B1 := Lib.hid (bbox hb1)
  have HQ := Lib.hid Q1
  have ⟨q0, q1, q2, q3, _, _, _, _, ql⟩ := Q1
  clear hb1 Q1 HA HB
  go_wp2_with fail
  refine (HS.out _ LB.out).mono ?_
  rintro e w2 ⟨rfl, hb2⟩
  have Q2 := HQ.out.via hb2
  have LA2 := Lib.hid (LA.out.via hb2)
  have LB2 := Lib.hid (LB.out.via hb2)
  have B2 := Lib.hid (btr B1.out hb2)
  clear hb2 q0 q1 q2 q3 ql LA LB B1 HQ
  have ⟨q0, q1, q2, q3, _, _, _, _, ql⟩ := Q2
  go_wp2_with fail
  refine (HG.out _ LA2.out LB2.out).mono ?_
  rintro e w3 ⟨A3, n3, c3, rfl, hL3, hb3⟩
  have B3 := Lib.hid (btr B2.out hb3)
  have L3 := Lib.hid hL3
  clear hb3 hL3 q0 q1 q2 q3 ql Q2
  go_wp2_with fail
  refine (isOne_no _ false A3 n3 c3 (digs g) (L3.out.box _) HN.out).mono ?_
  rintro e w4 ⟨rfl, hb4⟩
  go_wp2
  go_ret
  exact ⟨rfl, btr B3.out (bbox hb4)⟩
set_option maxRecDepth 100000 in
set_option maxHeartbeats 1000000 in
theorem fcheck_gyes (w : World) (nn dn : Bool) (A B : Option Addr) (n m ca cb : Nat) (xs ys : List Nat) (hA : Lm w w.heap.size A n ca xs) (hB : Lm w w.heap.size B m cb ys) (hno : dn = true ∨ ys ≠ [1]) (hS : ∀ W, Lm W W.heap.size B m cb ys → Calls Tryz.prog 38 #[.agg #[.bool dn, .slice B m cb]] W fun e w' => e = .returned (.tuple #[.int .i64 1, .int .i64 0]) ∧ Below W.heap.size W w') (g : Nat) (hg : g = 1) (HGG : ∀ W, Lm W W.heap.size A n ca xs → Lm W W.heap.size B m cb ys → Calls Tryz.prog 39 #[.agg #[.bool nn, .slice A n ca], .agg #[.bool dn, .slice B m cb]] W (RW W false (digs g) 0)) :
    Calls Tryz.prog 8 #[fv nn A n ca dn B m cb] w fun e w' => e = .returned (.int .i64 0) ∧ Below w.heap.size w w' := by
  have HA := Lib.hid hA
  have HB := Lib.hid hB
  clear hA hB
  subst hg
  have HNO := Lib.hid hno
  clear hno
  have HS := Lib.hid hS
  have HG := Lib.hid HGG
  clear hS HGG
  go_enter Tryz.func8, Tryz.ntmps8
  go_wp2_with fail
  refine (isOne_no _ dn B m cb ys (HB.out.box _) HNO.out).mono ?_
  rintro e w1 ⟨rfl, hb1⟩
  have Q1 := (Qd.new w _ rfl (.bool nn) (.slice A n ca) (.bool dn) (.slice B m cb) 29).via hb1
  have LA := Lib.hid ((HA.out.box _).via hb1)
  have LB := Lib.hid ((HB.out.box _).via hb1)
  have B1 := Lib.hid (bbox hb1)
  have HQ := Lib.hid Q1
  have ⟨q0, q1, q2, q3, _, _, _, _, ql⟩ := Q1
  clear hb1 Q1 HA HB
  go_wp2_with fail
  refine (HS.out _ LB.out).mono ?_
  rintro e w2 ⟨rfl, hb2⟩
  have Q2 := HQ.out.via hb2
  have LA2 := Lib.hid (LA.out.via hb2)
  have LB2 := Lib.hid (LB.out.via hb2)
  have B2 := Lib.hid (btr B1.out hb2)
  clear hb2 q0 q1 q2 q3 ql LA LB B1 HQ
  have ⟨q0, q1, q2, q3, _, _, _, _, ql⟩ := Q2
  go_wp2_with fail
  refine (HG.out _ LA2.out LB2.out).mono ?_
  rintro e w3 ⟨A3, n3, c3, rfl, hL3, hb3⟩
  have B3 := Lib.hid (btr B2.out hb3)
  have L3 := Lib.hid hL3
  clear hb3 hL3 q0 q1 q2 q3 ql Q2
  go_wp2_with fail
  refine (isOne_yes _ A3 n3 c3 (L3.out.box _)).mono ?_
  rintro e w4 ⟨rfl, hb4⟩
  go_wp2
  go_ret
  exact ⟨rfl, btr B3.out (bbox hb4)⟩
theorem fcheck_any (w : World) (nn dn : Bool) (A B : Option Addr) (n m ca cb : Nat) (xs ys : List Nat) (hA : Lm w w.heap.size A n ca xs) (hB : Lm w w.heap.size B m cb ys) :
    Calls Tryz.prog 8 #[fv nn A n ca dn B m cb] w fun e w' => e = .returned (.int .i64 (fchk nn xs dn ys)) ∧ Below w.heap.size w w' := by
  by_cases h1 : dn = false ∧ ys = [1]
  · obtain ⟨rfl, rfl⟩ := h1
    have e : fchk nn xs false [1] = chk nn xs := by
      unfold fchk
      rcases chk_cases nn xs with hc | hc
      · rw [if_pos ⟨hc, by decide, rfl, by simp, by simp [val_cons, val_nil]⟩, hc]
      · rw [if_neg (fun h => by have := h.1; omega), hc]
    rw [e]
    exact fcheck_one w nn false A B n m ca cb xs [1] hA hB rfl digs1.symm
  · have hno : dn = true ∨ ys ≠ [1] := by
      cases dn
      · exact .inr fun h => h1 ⟨rfl, h⟩
      · exact .inl rfl
    rcases chk_cases dn ys with hc | hc
    · by_cases h2 : dn = false ∧ ys ≠ []
      · obtain ⟨rfl, h2⟩ := h2
        have hd := chk_digs hc hB.good
        have hvp : 0 < val ys := val_pos (chk_ok.1 hc).2.1 h2
        have hS : ∀ W, Lm W W.heap.size B m cb ys → Calls Tryz.prog 38 #[.agg #[.bool false, .slice B m cb]] W fun e w' => e = .returned (.tuple #[.int .i64 1, .int .i64 0]) ∧ Below W.heap.size W w' := by
          intro W hW
          have hc2 := hc
          rw [hd] at hW hc2
          have h := sign_ok W false B m cb _ hW hc2
          have e1 : signZ false (val ys) = 1 := by unfold signZ sideZ; rw [if_neg (by omega)]; rfl
          rw [e1] at h
          exact h
        rcases chk_cases nn xs with hn | hn
        · have hd2 := chk_digs hn hA.good
          have hB2 : chkB nn xs false ys = 0 := chkB_ok.2 ⟨hn, hc⟩
          have hG : ∀ W, Lm W W.heap.size A n ca xs → Lm W W.heap.size B m cb ys → Calls Tryz.prog 39 #[.agg #[.bool nn, .slice A n ca], .agg #[.bool false, .slice B m cb]] W (RW W false (digs (Nat.gcd (val xs) (val ys))) 0) := by
            intro W h3 h4
            have l1 := (chk_ok.1 hn).1
            have l2 := (chk_ok.1 hc).1
            have hB3 := hB2
            rw [hd2] at h3 l1 hB3
            rw [hd] at h4 l2 hB3
            have h := gcd_any W nn false A B n m ca cb _ _ h3 h4 hB3 (by rw [← h3.len]; exact l1) (by rw [← h4.len]; exact l2)
            have hgl : (digs (Nat.gcd (val xs) (val ys))).length ≤ 4096 := Nat.le_trans (digs_mono (Nat.gcd_le_right _ hvp)) l2
            have e1 : mkN false (Nat.gcd (val xs) (val ys)) = false := by unfold mkN; simp
            have e2 : mkL (Nat.gcd (val xs) (val ys)) = digs (Nat.gcd (val xs) (val ys)) := by unfold mkL; rw [if_pos hgl]
            have e3 : mkE (Nat.gcd (val xs) (val ys)) = 0 := by unfold mkE; rw [if_pos hgl]
            rw [e1, e2, e3] at h
            exact h
          by_cases hg : Nat.gcd (val xs) (val ys) = 1
          · have e : fchk nn xs false ys = 0 := by unfold fchk; rw [if_pos ⟨hn, hc, rfl, h2, hg⟩]
            rw [e]
            exact fcheck_gyes w nn false A B n m ca cb xs ys hA hB hno hS _ hg hG
          · have e : fchk nn xs false ys = 8 := by unfold fchk; rw [if_neg (fun h => hg h.2.2.2.2)]
            rw [e]
            exact fcheck_gno w nn false A B n m ca cb xs ys hA hB hno hS _ hg hG
        · have e : fchk nn xs false ys = 8 := by unfold fchk; rw [if_neg (fun h => by have := h.1; omega)]
          rw [e]
          exact fcheck_gbad w nn false A B n m ca cb xs ys hA hB hno hS (by rcases chkB_cases nn xs false ys with h | h; (have := (chkB_ok.1 h).1; omega); exact h)
      · have e : fchk nn xs dn ys = 8 := by unfold fchk; rw [if_neg (fun h => h2 ⟨h.2.2.1, h.2.2.2.1⟩)]
        rw [e]
        have hd := chk_digs hc hB.good
        refine fcheck_sign w nn dn A B n m ca cb xs ys hA hB hno (signZ dn (val ys)) 0 (.inr ⟨rfl, ?_⟩) fun W hW => ?_
        · unfold signZ sideZ
          cases dn
          · have : ys = [] := Classical.byContradiction fun h => h2 ⟨rfl, h⟩
            subst this
            simp [val_nil]
          · split <;> simp
        · have hc2 := hc
          rw [hd] at hW hc2
          exact sign_ok W dn B m cb _ hW hc2
    · have e : fchk nn xs dn ys = 8 := by unfold fchk; rw [if_neg (fun h => by have := h.2.1; omega)]
      rw [e]
      exact fcheck_sign w nn dn A B n m ca cb xs ys hA hB hno 0 8 (.inl (by decide)) fun W hW => sign_bad W dn B m cb ys hW hc
end Go.Proofs.YtoigmcggkanncaaGreatDoor

/- Fractions in lowest terms and what they are worth: in whole numbers. -/
namespace Go.Proofs.YtoigmcggkanncaaGreatDoor
open Go.RowKit

/-- p / q is in lowest terms, of at most k limbs each, and worth u / v. -/
structure FrV (k : Nat) (p q u v : Int) : Prop where
  pos : 0 < q
  eq : p * v = u * q
  ok : fchk (decide (p < 0)) (digs p.natAbs) false (digs q.natAbs) = 0
  sp : Sz k p
  sq : Sz k q
theorem FrV.mono {k l : Nat} {p q u v : Int} (h : FrV k p q u v) (hl : k ≤ l) : FrV l p q u v := ⟨h.pos, h.eq, h.ok, h.sp.mono hl, h.sq.mono hl⟩
theorem natAbs_le_mul {p g : Int} (hg : g ≠ 0) : p.natAbs ≤ (p * g).natAbs := by
  rw [Int.natAbs_mul]
  exact Nat.le_mul_of_pos_right _ (by omega)
theorem red_fr {k : Nat} {x y : Int} (hx : Sz k x) (hy : Sz k y) (hk : k ≤ 2000) (hy0 : y ≠ 0) : FrV k (x / dvr x y) (y / dvr x y) x y := by
  have hg := dvr_ne (x := x) hy0
  have e1 := dvr_left x y
  have e2 := dvr_right x y
  have hG : 0 < Nat.gcd x.natAbs y.natAbs := Nat.gcd_pos_of_pos_right _ (by omega)
  have hgn : (dvr x y).natAbs = Nat.gcd x.natAbs y.natAbs := by unfold dvr; split <;> omega
  have hgs : dvr x y < 0 ↔ y < 0 := by unfold dvr; split <;> omega
  generalize dvr x y = g at *
  generalize x / g = p at *
  generalize y / g = q at *
  have hq : 0 < q := by
    rcases Int.lt_trichotomy q 0 with h | h | h
    · exfalso
      by_cases hy : y < 0
      · have := Int.mul_pos_of_neg_of_neg h (hgs.2 hy); omega
      · have := Int.mul_neg_of_neg_of_pos h (show 0 < g by have := mt hgs.1 hy; omega); omega
    · subst h; omega
    · exact h
  have sp : Sz k p := by
    have h := natAbs_le_mul (p := p) hg
    rw [← e1] at h
    unfold Sz at *; omega
  have sq : Sz k q := by
    have h := natAbs_le_mul (p := q) hg
    rw [← e2] at h
    unfold Sz at *; omega
  refine ⟨hq, by rw [e2, e1]; grind, ?_, sp, sq⟩
  have hn : Nat.gcd p.natAbs q.natAbs = 1 := by
    have a1 : x.natAbs = p.natAbs * Nat.gcd x.natAbs y.natAbs := by rw [← hgn, ← Int.natAbs_mul, ← e1]
    have a2 : y.natAbs = q.natAbs * Nat.gcd x.natAbs y.natAbs := by rw [← hgn, ← Int.natAbs_mul, ← e2]
    generalize hGG : Nat.gcd x.natAbs y.natAbs = G at *
    have a3 : G = Nat.gcd p.natAbs q.natAbs * G := by
      conv => lhs; rw [← hGG, a1, a2, Nat.gcd_mul_right]
    exact Nat.eq_of_mul_eq_mul_right hG (by rw [Nat.one_mul]; exact a3.symm)
  have c1 := chk_z sp (show k ≤ 4096 by omega)
  have c2 := chk_z sq (show k ≤ 4096 by omega)
  rw [decide_eq_false (show ¬ q < 0 by omega)] at c2
  unfold fchk
  rw [if_pos ⟨c1, c2, rfl, fun e => by have := digs_nil.1 e; omega, by rw [digs_val, digs_val]; exact hn⟩]
theorem frv_to {k : Nat} {p q u v u' v' : Int} (h : FrV k p q u v) (hv : v ≠ 0) (e : u * v' = u' * v) : FrV k p q u' v' := by
  refine ⟨h.pos, ?_, h.ok, h.sp, h.sq⟩
  have h1 := h.eq
  refine Int.eq_of_mul_eq_mul_right hv ?_
  have a1 : p * v' * v = p * v * v' := by grind
  have a2 : u' * q * v = u' * v * q := by grind
  rw [a1, a2, h1, ← e]
  grind
/-- Sums, differences, products and quotients of fractions that are worth u / v and s / t. -/
theorem frv_add {p q u v r z s t : Int} (h1 : p * v = u * q) (h2 : r * t = s * z) : (p * z + r * q) * (v * t) = (u * t + s * v) * (q * z) := by
  have a1 : (p * z + r * q) * (v * t) = (p * v) * (z * t) + (r * t) * (q * v) := by grind
  rw [a1, h1, h2]; grind
theorem frv_sub {p q u v r z s t : Int} (h1 : p * v = u * q) (h2 : r * t = s * z) : (p * z - r * q) * (v * t) = (u * t - s * v) * (q * z) := by
  have a1 : (p * z - r * q) * (v * t) = (p * v) * (z * t) - (r * t) * (q * v) := by grind
  rw [a1, h1, h2]; grind
theorem frv_mul {p q u v r z s t : Int} (h1 : p * v = u * q) (h2 : r * t = s * z) : (p * r) * (v * t) = (u * s) * (q * z) := by
  have a1 : (p * r) * (v * t) = (p * v) * (r * t) := by grind
  rw [a1, h1, h2]; grind
theorem frv_div {p q u v r z s t : Int} (h1 : p * v = u * q) (h2 : r * t = s * z) : (p * z) * (v * s) = (u * t) * (q * r) := by
  have a1 : (p * z) * (v * s) = (p * v) * (s * z) := by grind
  rw [a1, h1, ← h2]; grind
/-- The order of two fractions is that of what they are worth. -/
theorem frv_cmp {p q u v r z s t : Int} (hq : 0 < q) (hz : 0 < z) (hv : 0 < v) (ht : 0 < t) (h1 : p * v = u * q) (h2 : r * t = s * z) : (p * z ≤ r * q ↔ u * t ≤ s * v) ∧ (p * z < r * q ↔ u * t < s * v) := by
  have hvt : 0 < v * t := Int.mul_pos hv ht
  have hqz : 0 < q * z := Int.mul_pos hq hz
  have a1 : p * z * (v * t) = u * t * (q * z) := by
    have : p * z * (v * t) = (p * v) * (z * t) := by grind
    rw [this, h1]; grind
  have a2 : r * q * (v * t) = s * v * (q * z) := by
    have : r * q * (v * t) = (r * t) * (q * v) := by grind
    rw [this, h2]; grind
  constructor
  · constructor
    · intro h
      have h' := Int.mul_le_mul_of_nonneg_right h (show 0 ≤ v * t by omega)
      rw [a1, a2] at h'
      exact Int.le_of_mul_le_mul_right h' hqz
    · intro h
      have h' := Int.mul_le_mul_of_nonneg_right h (show 0 ≤ q * z by omega)
      rw [← a1, ← a2] at h'
      exact Int.le_of_mul_le_mul_right h' hvt
  · constructor
    · intro h
      have h' := Int.mul_lt_mul_of_pos_right h hvt
      rw [a1, a2] at h'
      exact Int.lt_of_mul_lt_mul_right h' (by omega)
    · intro h
      have h' := Int.mul_lt_mul_of_pos_right h hqz
      rw [← a1, ← a2] at h'
      exact Int.lt_of_mul_lt_mul_right h' (by omega)
end Go.Proofs.YtoigmcggkanncaaGreatDoor

/- The reference's DivMod. -/
namespace Go.Proofs.YtoigmcggkanncaaGreatDoor
open Go.RowKit

set_option maxRecDepth 100000 in
set_option maxHeartbeats 2000000 in
theorem rdivmod_same (w : World) (na nb : Bool) (A B : Option Addr) (n m ca cb a b : Nat) (hA : Lm w w.heap.size A n ca (digs a)) (hB : Lm w w.heap.size B m cb (digs b)) (hv : chkB na (digs a) nb (digs b) = 0) (hb : 0 < b) (hs : na = nb) (z : Bool) (hz : decide (0 < a % b) = z) :
    Calls Tryz.prog 147 #[.agg #[.bool na, .slice A n ca], .agg #[.bool nb, .slice B m cb]] w (RWW w (mkN false (a / b)) (digs (a / b)) (mkN nb (a % b)) (digs (a % b)) 0) := by
  have h41 := (chk_ok.1 (chkB_ok.1 hv).1).1
  have h42 := (chk_ok.1 (chkB_ok.1 hv).2).1
  have hml := Nat.mod_lt a hb
  have hq0 : (digs (a / b)).length ≤ 4096 := Nat.le_trans (digs_mono (Nat.div_le_self a b)) h41
  have hr0 : (digs (a % b)).length ≤ 4096 := Nat.le_trans (digs_mono (Nat.le_of_lt hml)) h42
  have HLq : Hid (mkL (a / b) = digs (a / b)) := by show _ = _; unfold mkL; rw [if_pos hq0]
  have HLr : Hid (mkL (a % b) = digs (a % b)) := by show _ = _; unfold mkL; rw [if_pos hr0]
  have HEq : Hid (mkE (a / b) = 0) := by show _ = _; unfold mkE; rw [if_pos hq0]
  have HEr : Hid (mkE (a % b) = 0) := by show _ = _; unfold mkE; rw [if_pos hr0]
  rw [hA.len] at h41
  rw [hB.len] at h42
  have hm0 : 0 < m := by rw [← hB.len, digs_pos]; exact hb
  have hm1 : ((m : Int) == 0) = false := by simp; omega
  have hcB := hB.cap
  have hxB := hB.max
  have HA := Lib.hid hA
  have HB := Lib.hid hB
  have HV := Lib.hid hv
  have HVq : Hid (val (digs (a / b)) = a / b) := digs_val _
  have HVr : Hid (val (digs (a % b)) = a % b) := digs_val _
  have hrl : decide (0 < (digs (a % b)).length) = decide (0 < a % b) := decide_eq_decide.2 digs_pos
  rw [hz] at hrl
  clear hz
  clear hv hA hB hml
  subst hs
  cases na <;> cases z
  · go_enter Tryz.func147, Tryz.ntmps147
    go_wp2_with fail
    refine (rboth_any _ _ _ _ _ _ _ _ _ _ _ ((((HA.out.box _).box _).box _).box _) ((((HB.out.box _).box _).box _).box _) 0 HV.out).mono ?_
    rintro e w1 ⟨rfl, hb1⟩
    have ⟨PA, PB, PQ, PR⟩ := boxes4 hb1
    have LA1 := Lib.hid (((((HA.out.box _).box _).box _).box _).via hb1)
    have LB1 := Lib.hid (((((HB.out.box _).box _).box _).box _).via hb1)
    have HB1 := Lib.hid (bbox (bbox (bbox (bbox hb1))))
    have ⟨a0, a1, _, _, _⟩ := PA
    have ⟨b0, b1, _, _, _⟩ := PB
    clear hb1
    go_wp2_with fail
    refine (rover_any w1 A B n m ca cb a b LA1.out LB1.out hb (by omega)).mono ?_
    rintro e w2 ⟨Q, cq, R, cr, rfl, hQ, hR, hb2⟩
    have PA2 := PA.via hb2
    have PB2 := PB.via hb2
    have PQ2 := PQ.via hb2
    have PR2 := PR.via hb2
    have HB2 := Lib.hid (HB1.out.trans (hb2.mono HB1.out.size))
    have HQ := Lib.hid hQ
    have HR := Lib.hid hR
    have LB2 := Lib.hid (LB1.out.via hb2)
    clear PA PB PQ PR LA1 LB1 HB1 a0 a1 b0 b1 hb2 hQ hR
    have ⟨a0, a1, _, _, _⟩ := PA2
    have ⟨b0, b1, _, _, _⟩ := PB2
    go_wp2_with fail
    refine (rmade_any w2 _ _ _ _ _ (a / b) HQ.out HVq.out (by omega)).mono ?_
    rintro e w3 ⟨A3, n3, c3, rfl, hL3, hb3⟩
    rw [HLq.out] at hL3
    rw [HEq.out]
    have PA4 := (PA2.via hb3).alloc (.cells #[.bool (mkN false (a / b)), .slice A3 n3 c3] 24)
    have PB4 := (PB2.via hb3).alloc (.cells #[.bool (mkN false (a / b)), .slice A3 n3 c3] 24)
    have PQ4 := (PQ2.via hb3).alloc (.cells #[.bool (mkN false (a / b)), .slice A3 n3 c3] 24)
    have PR4 := (PR2.via hb3).alloc (.cells #[.bool (mkN false (a / b)), .slice A3 n3 c3] 24)
    have HB4 := Lib.hid ((HB2.out.trans (hb3.mono HB2.out.size)).alloc (HB2.out.trans (hb3.mono HB2.out.size)).size (.cells #[.bool (mkN false (a / b)), .slice A3 n3 c3] 24))
    have HR4 := Lib.hid ((HR.out.via hb3).box (.cells #[.bool (mkN false (a / b)), .slice A3 n3 c3] 24))
    have LB4 := Lib.hid ((LB2.out.via hb3).box (.cells #[.bool (mkN false (a / b)), .slice A3 n3 c3] 24))
    have HL4 := Lib.hid (hL3.box (.cells #[.bool (mkN false (a / b)), .slice A3 n3 c3] 24))
    have PX4 := Pr.new w3 w3.heap.size rfl (.bool (mkN false (a / b))) (.slice A3 n3 c3) 24
    have hlt3 : w.heap.size + 1 + 1 + 1 < w3.heap.size := (PR2.via hb3).lt
    clear PA2 PB2 PQ2 PR2 HQ HR HB2 LB2 hb3 hL3 a0 a1 b0 b1
    have ⟨a0, a1, _, _, _⟩ := PA4
    have ⟨b0, b1, _, _, _⟩ := PB4
    go_wp2_with fail
    generalize w3.alloc (.cells #[.bool (mkN false (a / b)), .slice A3 n3 c3] 24) = w4 at *
    generalize w3.heap.size = g3 at *
    refine (rmade_any w4 _ _ _ _ _ (a % b) HR4.out HVr.out (by omega)).mono ?_
    rintro e w5 ⟨A5, n5, c5, rfl, hL5, hb5⟩
    rw [HLr.out] at hL5
    rw [HEr.out]
    have PA6 := (PA4.via hb5).alloc (.cells #[.bool (mkN false (a % b)), .slice A5 n5 c5] 24)
    have PB6 := (PB4.via hb5).alloc (.cells #[.bool (mkN false (a % b)), .slice A5 n5 c5] 24)
    have PQ6 := (PQ4.via hb5).alloc (.cells #[.bool (mkN false (a % b)), .slice A5 n5 c5] 24)
    have PR6 := (PR4.via hb5).alloc (.cells #[.bool (mkN false (a % b)), .slice A5 n5 c5] 24)
    have PX6 := (PX4.via hb5).alloc (.cells #[.bool (mkN false (a % b)), .slice A5 n5 c5] 24)
    have HB6 := Lib.hid ((HB4.out.trans (hb5.mono HB4.out.size)).alloc (HB4.out.trans (hb5.mono HB4.out.size)).size (.cells #[.bool (mkN false (a % b)), .slice A5 n5 c5] 24))
    have LB6 := Lib.hid ((LB4.out.via hb5).box (.cells #[.bool (mkN false (a % b)), .slice A5 n5 c5] 24))
    have HL6 := Lib.hid ((HL4.out.via hb5).box (.cells #[.bool (mkN false (a % b)), .slice A5 n5 c5] 24))
    have HM6 := Lib.hid (hL5.box (.cells #[.bool (mkN false (a % b)), .slice A5 n5 c5] 24))
    have PY6 := Pr.new w5 w5.heap.size rfl (.bool (mkN false (a % b))) (.slice A5 n5 c5) 24
    have hlt5 : g3 < w5.heap.size := (PX4.via hb5).lt
    clear PA4 PB4 PQ4 PR4 PX4 HB4 HR4 LB4 HL4 hb5 hL5 a0 a1 b0 b1
    have ⟨a0, a1, _, _, _⟩ := PA6
    have ⟨b0, b1, _, _, _⟩ := PB6
    go_wp2_with fail
    generalize w5.alloc (.cells #[.bool (mkN false (a % b)), .slice A5 n5 c5] 24) = w6 at *
    generalize w5.heap.size = g5 at *
    have ⟨q0, q1, qf0, qf1, ql⟩ := PQ6
    have ⟨r0, r1, rf0, rf1, rl⟩ := PR6
    have ⟨x0, x1, xf0, xf1, xl⟩ := PX6
    have ⟨y0, y1, yf0, yf1, yl⟩ := PY6
    go_region
    all_goals
      go_wp2
      refine post_ww Tryz.results147 rfl rfl rfl ((PQ6.set _ _).far (by omega) _ _).drew ((PR6.far (by omega) _ _).set _ _).drew ⟨A3, n3, c3, A5, n5, c5, rfl, ?_, ?_, ?_⟩
      · exact ((HL6.out.setP PQ6 _ _).setP (PR6.far (by omega) _ _) _ _).drew
      · exact ((HM6.out.setP PQ6 _ _).setP (PR6.far (by omega) _ _) _ _).drew
      · exact (below_set2 (below_set2 HB6.out (by omega) _ _) (by omega) _ _).drew
  · go_enter Tryz.func147, Tryz.ntmps147
    go_wp2_with fail
    refine (rboth_any _ _ _ _ _ _ _ _ _ _ _ ((((HA.out.box _).box _).box _).box _) ((((HB.out.box _).box _).box _).box _) 0 HV.out).mono ?_
    rintro e w1 ⟨rfl, hb1⟩
    have ⟨PA, PB, PQ, PR⟩ := boxes4 hb1
    have LA1 := Lib.hid (((((HA.out.box _).box _).box _).box _).via hb1)
    have LB1 := Lib.hid (((((HB.out.box _).box _).box _).box _).via hb1)
    have HB1 := Lib.hid (bbox (bbox (bbox (bbox hb1))))
    have ⟨a0, a1, _, _, _⟩ := PA
    have ⟨b0, b1, _, _, _⟩ := PB
    clear hb1
    go_wp2_with fail
    refine (rover_any w1 A B n m ca cb a b LA1.out LB1.out hb (by omega)).mono ?_
    rintro e w2 ⟨Q, cq, R, cr, rfl, hQ, hR, hb2⟩
    have PA2 := PA.via hb2
    have PB2 := PB.via hb2
    have PQ2 := PQ.via hb2
    have PR2 := PR.via hb2
    have HB2 := Lib.hid (HB1.out.trans (hb2.mono HB1.out.size))
    have HQ := Lib.hid hQ
    have HR := Lib.hid hR
    have LB2 := Lib.hid (LB1.out.via hb2)
    clear PA PB PQ PR LA1 LB1 HB1 a0 a1 b0 b1 hb2 hQ hR
    have ⟨a0, a1, _, _, _⟩ := PA2
    have ⟨b0, b1, _, _, _⟩ := PB2
    go_wp2_with fail
    refine (rmade_any w2 _ _ _ _ _ (a / b) HQ.out HVq.out (by omega)).mono ?_
    rintro e w3 ⟨A3, n3, c3, rfl, hL3, hb3⟩
    rw [HLq.out] at hL3
    rw [HEq.out]
    have PA4 := (PA2.via hb3).alloc (.cells #[.bool (mkN false (a / b)), .slice A3 n3 c3] 24)
    have PB4 := (PB2.via hb3).alloc (.cells #[.bool (mkN false (a / b)), .slice A3 n3 c3] 24)
    have PQ4 := (PQ2.via hb3).alloc (.cells #[.bool (mkN false (a / b)), .slice A3 n3 c3] 24)
    have PR4 := (PR2.via hb3).alloc (.cells #[.bool (mkN false (a / b)), .slice A3 n3 c3] 24)
    have HB4 := Lib.hid ((HB2.out.trans (hb3.mono HB2.out.size)).alloc (HB2.out.trans (hb3.mono HB2.out.size)).size (.cells #[.bool (mkN false (a / b)), .slice A3 n3 c3] 24))
    have HR4 := Lib.hid ((HR.out.via hb3).box (.cells #[.bool (mkN false (a / b)), .slice A3 n3 c3] 24))
    have LB4 := Lib.hid ((LB2.out.via hb3).box (.cells #[.bool (mkN false (a / b)), .slice A3 n3 c3] 24))
    have HL4 := Lib.hid (hL3.box (.cells #[.bool (mkN false (a / b)), .slice A3 n3 c3] 24))
    have PX4 := Pr.new w3 w3.heap.size rfl (.bool (mkN false (a / b))) (.slice A3 n3 c3) 24
    have hlt3 : w.heap.size + 1 + 1 + 1 < w3.heap.size := (PR2.via hb3).lt
    clear PA2 PB2 PQ2 PR2 HQ HR HB2 LB2 hb3 hL3 a0 a1 b0 b1
    have ⟨a0, a1, _, _, _⟩ := PA4
    have ⟨b0, b1, _, _, _⟩ := PB4
    go_wp2_with fail
    generalize w3.alloc (.cells #[.bool (mkN false (a / b)), .slice A3 n3 c3] 24) = w4 at *
    generalize w3.heap.size = g3 at *
    refine (rmade_any w4 _ _ _ _ _ (a % b) HR4.out HVr.out (by omega)).mono ?_
    rintro e w5 ⟨A5, n5, c5, rfl, hL5, hb5⟩
    rw [HLr.out] at hL5
    rw [HEr.out]
    have PA6 := (PA4.via hb5).alloc (.cells #[.bool (mkN false (a % b)), .slice A5 n5 c5] 24)
    have PB6 := (PB4.via hb5).alloc (.cells #[.bool (mkN false (a % b)), .slice A5 n5 c5] 24)
    have PQ6 := (PQ4.via hb5).alloc (.cells #[.bool (mkN false (a % b)), .slice A5 n5 c5] 24)
    have PR6 := (PR4.via hb5).alloc (.cells #[.bool (mkN false (a % b)), .slice A5 n5 c5] 24)
    have PX6 := (PX4.via hb5).alloc (.cells #[.bool (mkN false (a % b)), .slice A5 n5 c5] 24)
    have HB6 := Lib.hid ((HB4.out.trans (hb5.mono HB4.out.size)).alloc (HB4.out.trans (hb5.mono HB4.out.size)).size (.cells #[.bool (mkN false (a % b)), .slice A5 n5 c5] 24))
    have LB6 := Lib.hid ((LB4.out.via hb5).box (.cells #[.bool (mkN false (a % b)), .slice A5 n5 c5] 24))
    have HL6 := Lib.hid ((HL4.out.via hb5).box (.cells #[.bool (mkN false (a % b)), .slice A5 n5 c5] 24))
    have HM6 := Lib.hid (hL5.box (.cells #[.bool (mkN false (a % b)), .slice A5 n5 c5] 24))
    have PY6 := Pr.new w5 w5.heap.size rfl (.bool (mkN false (a % b))) (.slice A5 n5 c5) 24
    have hlt5 : g3 < w5.heap.size := (PX4.via hb5).lt
    clear PA4 PB4 PQ4 PR4 PX4 HB4 HR4 LB4 HL4 hb5 hL5 a0 a1 b0 b1
    have ⟨a0, a1, _, _, _⟩ := PA6
    have ⟨b0, b1, _, _, _⟩ := PB6
    go_wp2_with fail
    generalize w5.alloc (.cells #[.bool (mkN false (a % b)), .slice A5 n5 c5] 24) = w6 at *
    generalize w5.heap.size = g5 at *
    have ⟨q0, q1, qf0, qf1, ql⟩ := PQ6
    have ⟨r0, r1, rf0, rf1, rl⟩ := PR6
    have ⟨x0, x1, xf0, xf1, xl⟩ := PX6
    have ⟨y0, y1, yf0, yf1, yl⟩ := PY6
    go_region
    all_goals
      go_wp2
      refine post_ww Tryz.results147 rfl rfl rfl ((PQ6.set _ _).far (by omega) _ _).drew ((PR6.far (by omega) _ _).set _ _).drew ⟨A3, n3, c3, A5, n5, c5, rfl, ?_, ?_, ?_⟩
      · exact ((HL6.out.setP PQ6 _ _).setP (PR6.far (by omega) _ _) _ _).drew
      · exact ((HM6.out.setP PQ6 _ _).setP (PR6.far (by omega) _ _) _ _).drew
      · exact (below_set2 (below_set2 HB6.out (by omega) _ _) (by omega) _ _).drew
  · go_enter Tryz.func147, Tryz.ntmps147
    go_wp2_with fail
    refine (rboth_any _ _ _ _ _ _ _ _ _ _ _ ((((HA.out.box _).box _).box _).box _) ((((HB.out.box _).box _).box _).box _) 0 HV.out).mono ?_
    rintro e w1 ⟨rfl, hb1⟩
    have ⟨PA, PB, PQ, PR⟩ := boxes4 hb1
    have LA1 := Lib.hid (((((HA.out.box _).box _).box _).box _).via hb1)
    have LB1 := Lib.hid (((((HB.out.box _).box _).box _).box _).via hb1)
    have HB1 := Lib.hid (bbox (bbox (bbox (bbox hb1))))
    have ⟨a0, a1, _, _, _⟩ := PA
    have ⟨b0, b1, _, _, _⟩ := PB
    clear hb1
    go_wp2_with fail
    refine (rover_any w1 A B n m ca cb a b LA1.out LB1.out hb (by omega)).mono ?_
    rintro e w2 ⟨Q, cq, R, cr, rfl, hQ, hR, hb2⟩
    have PA2 := PA.via hb2
    have PB2 := PB.via hb2
    have PQ2 := PQ.via hb2
    have PR2 := PR.via hb2
    have HB2 := Lib.hid (HB1.out.trans (hb2.mono HB1.out.size))
    have HQ := Lib.hid hQ
    have HR := Lib.hid hR
    have LB2 := Lib.hid (LB1.out.via hb2)
    clear PA PB PQ PR LA1 LB1 HB1 a0 a1 b0 b1 hb2 hQ hR
    have ⟨a0, a1, _, _, _⟩ := PA2
    have ⟨b0, b1, _, _, _⟩ := PB2
    go_wp2_with fail
    refine (rmade_any w2 _ _ _ _ _ (a / b) HQ.out HVq.out (by omega)).mono ?_
    rintro e w3 ⟨A3, n3, c3, rfl, hL3, hb3⟩
    rw [HLq.out] at hL3
    rw [HEq.out]
    have PA4 := (PA2.via hb3).alloc (.cells #[.bool (mkN false (a / b)), .slice A3 n3 c3] 24)
    have PB4 := (PB2.via hb3).alloc (.cells #[.bool (mkN false (a / b)), .slice A3 n3 c3] 24)
    have PQ4 := (PQ2.via hb3).alloc (.cells #[.bool (mkN false (a / b)), .slice A3 n3 c3] 24)
    have PR4 := (PR2.via hb3).alloc (.cells #[.bool (mkN false (a / b)), .slice A3 n3 c3] 24)
    have HB4 := Lib.hid ((HB2.out.trans (hb3.mono HB2.out.size)).alloc (HB2.out.trans (hb3.mono HB2.out.size)).size (.cells #[.bool (mkN false (a / b)), .slice A3 n3 c3] 24))
    have HR4 := Lib.hid ((HR.out.via hb3).box (.cells #[.bool (mkN false (a / b)), .slice A3 n3 c3] 24))
    have LB4 := Lib.hid ((LB2.out.via hb3).box (.cells #[.bool (mkN false (a / b)), .slice A3 n3 c3] 24))
    have HL4 := Lib.hid (hL3.box (.cells #[.bool (mkN false (a / b)), .slice A3 n3 c3] 24))
    have PX4 := Pr.new w3 w3.heap.size rfl (.bool (mkN false (a / b))) (.slice A3 n3 c3) 24
    have hlt3 : w.heap.size + 1 + 1 + 1 < w3.heap.size := (PR2.via hb3).lt
    clear PA2 PB2 PQ2 PR2 HQ HR HB2 LB2 hb3 hL3 a0 a1 b0 b1
    have ⟨a0, a1, _, _, _⟩ := PA4
    have ⟨b0, b1, _, _, _⟩ := PB4
    go_wp2_with fail
    generalize w3.alloc (.cells #[.bool (mkN false (a / b)), .slice A3 n3 c3] 24) = w4 at *
    generalize w3.heap.size = g3 at *
    refine (rmade_any w4 _ _ _ _ _ (a % b) HR4.out HVr.out (by omega)).mono ?_
    rintro e w5 ⟨A5, n5, c5, rfl, hL5, hb5⟩
    rw [HLr.out] at hL5
    rw [HEr.out]
    have PA6 := (PA4.via hb5).alloc (.cells #[.bool (mkN true (a % b)), .slice A5 n5 c5] 24)
    have PB6 := (PB4.via hb5).alloc (.cells #[.bool (mkN true (a % b)), .slice A5 n5 c5] 24)
    have PQ6 := (PQ4.via hb5).alloc (.cells #[.bool (mkN true (a % b)), .slice A5 n5 c5] 24)
    have PR6 := (PR4.via hb5).alloc (.cells #[.bool (mkN true (a % b)), .slice A5 n5 c5] 24)
    have PX6 := (PX4.via hb5).alloc (.cells #[.bool (mkN true (a % b)), .slice A5 n5 c5] 24)
    have HB6 := Lib.hid ((HB4.out.trans (hb5.mono HB4.out.size)).alloc (HB4.out.trans (hb5.mono HB4.out.size)).size (.cells #[.bool (mkN true (a % b)), .slice A5 n5 c5] 24))
    have LB6 := Lib.hid ((LB4.out.via hb5).box (.cells #[.bool (mkN true (a % b)), .slice A5 n5 c5] 24))
    have HL6 := Lib.hid ((HL4.out.via hb5).box (.cells #[.bool (mkN true (a % b)), .slice A5 n5 c5] 24))
    have HM6 := Lib.hid (hL5.box (.cells #[.bool (mkN true (a % b)), .slice A5 n5 c5] 24))
    have PY6 := Pr.new w5 w5.heap.size rfl (.bool (mkN true (a % b))) (.slice A5 n5 c5) 24
    have hlt5 : g3 < w5.heap.size := (PX4.via hb5).lt
    clear PA4 PB4 PQ4 PR4 PX4 HB4 HR4 LB4 HL4 hb5 hL5 a0 a1 b0 b1
    have ⟨a0, a1, _, _, _⟩ := PA6
    have ⟨b0, b1, _, _, _⟩ := PB6
    go_wp2_with fail
    generalize w5.alloc (.cells #[.bool (mkN true (a % b)), .slice A5 n5 c5] 24) = w6 at *
    generalize w5.heap.size = g5 at *
    have ⟨q0, q1, qf0, qf1, ql⟩ := PQ6
    have ⟨r0, r1, rf0, rf1, rl⟩ := PR6
    have ⟨x0, x1, xf0, xf1, xl⟩ := PX6
    have ⟨y0, y1, yf0, yf1, yl⟩ := PY6
    go_region
    all_goals
      go_wp2
      refine post_ww Tryz.results147 rfl rfl rfl ((PQ6.set _ _).far (by omega) _ _).drew ((PR6.far (by omega) _ _).set _ _).drew ⟨A3, n3, c3, A5, n5, c5, rfl, ?_, ?_, ?_⟩
      · exact ((HL6.out.setP PQ6 _ _).setP (PR6.far (by omega) _ _) _ _).drew
      · exact ((HM6.out.setP PQ6 _ _).setP (PR6.far (by omega) _ _) _ _).drew
      · exact (below_set2 (below_set2 HB6.out (by omega) _ _) (by omega) _ _).drew
  · go_enter Tryz.func147, Tryz.ntmps147
    go_wp2_with fail
    refine (rboth_any _ _ _ _ _ _ _ _ _ _ _ ((((HA.out.box _).box _).box _).box _) ((((HB.out.box _).box _).box _).box _) 0 HV.out).mono ?_
    rintro e w1 ⟨rfl, hb1⟩
    have ⟨PA, PB, PQ, PR⟩ := boxes4 hb1
    have LA1 := Lib.hid (((((HA.out.box _).box _).box _).box _).via hb1)
    have LB1 := Lib.hid (((((HB.out.box _).box _).box _).box _).via hb1)
    have HB1 := Lib.hid (bbox (bbox (bbox (bbox hb1))))
    have ⟨a0, a1, _, _, _⟩ := PA
    have ⟨b0, b1, _, _, _⟩ := PB
    clear hb1
    go_wp2_with fail
    refine (rover_any w1 A B n m ca cb a b LA1.out LB1.out hb (by omega)).mono ?_
    rintro e w2 ⟨Q, cq, R, cr, rfl, hQ, hR, hb2⟩
    have PA2 := PA.via hb2
    have PB2 := PB.via hb2
    have PQ2 := PQ.via hb2
    have PR2 := PR.via hb2
    have HB2 := Lib.hid (HB1.out.trans (hb2.mono HB1.out.size))
    have HQ := Lib.hid hQ
    have HR := Lib.hid hR
    have LB2 := Lib.hid (LB1.out.via hb2)
    clear PA PB PQ PR LA1 LB1 HB1 a0 a1 b0 b1 hb2 hQ hR
    have ⟨a0, a1, _, _, _⟩ := PA2
    have ⟨b0, b1, _, _, _⟩ := PB2
    go_wp2_with fail
    refine (rmade_any w2 _ _ _ _ _ (a / b) HQ.out HVq.out (by omega)).mono ?_
    rintro e w3 ⟨A3, n3, c3, rfl, hL3, hb3⟩
    rw [HLq.out] at hL3
    rw [HEq.out]
    have PA4 := (PA2.via hb3).alloc (.cells #[.bool (mkN false (a / b)), .slice A3 n3 c3] 24)
    have PB4 := (PB2.via hb3).alloc (.cells #[.bool (mkN false (a / b)), .slice A3 n3 c3] 24)
    have PQ4 := (PQ2.via hb3).alloc (.cells #[.bool (mkN false (a / b)), .slice A3 n3 c3] 24)
    have PR4 := (PR2.via hb3).alloc (.cells #[.bool (mkN false (a / b)), .slice A3 n3 c3] 24)
    have HB4 := Lib.hid ((HB2.out.trans (hb3.mono HB2.out.size)).alloc (HB2.out.trans (hb3.mono HB2.out.size)).size (.cells #[.bool (mkN false (a / b)), .slice A3 n3 c3] 24))
    have HR4 := Lib.hid ((HR.out.via hb3).box (.cells #[.bool (mkN false (a / b)), .slice A3 n3 c3] 24))
    have LB4 := Lib.hid ((LB2.out.via hb3).box (.cells #[.bool (mkN false (a / b)), .slice A3 n3 c3] 24))
    have HL4 := Lib.hid (hL3.box (.cells #[.bool (mkN false (a / b)), .slice A3 n3 c3] 24))
    have PX4 := Pr.new w3 w3.heap.size rfl (.bool (mkN false (a / b))) (.slice A3 n3 c3) 24
    have hlt3 : w.heap.size + 1 + 1 + 1 < w3.heap.size := (PR2.via hb3).lt
    clear PA2 PB2 PQ2 PR2 HQ HR HB2 LB2 hb3 hL3 a0 a1 b0 b1
    have ⟨a0, a1, _, _, _⟩ := PA4
    have ⟨b0, b1, _, _, _⟩ := PB4
    go_wp2_with fail
    generalize w3.alloc (.cells #[.bool (mkN false (a / b)), .slice A3 n3 c3] 24) = w4 at *
    generalize w3.heap.size = g3 at *
    refine (rmade_any w4 _ _ _ _ _ (a % b) HR4.out HVr.out (by omega)).mono ?_
    rintro e w5 ⟨A5, n5, c5, rfl, hL5, hb5⟩
    rw [HLr.out] at hL5
    rw [HEr.out]
    have PA6 := (PA4.via hb5).alloc (.cells #[.bool (mkN true (a % b)), .slice A5 n5 c5] 24)
    have PB6 := (PB4.via hb5).alloc (.cells #[.bool (mkN true (a % b)), .slice A5 n5 c5] 24)
    have PQ6 := (PQ4.via hb5).alloc (.cells #[.bool (mkN true (a % b)), .slice A5 n5 c5] 24)
    have PR6 := (PR4.via hb5).alloc (.cells #[.bool (mkN true (a % b)), .slice A5 n5 c5] 24)
    have PX6 := (PX4.via hb5).alloc (.cells #[.bool (mkN true (a % b)), .slice A5 n5 c5] 24)
    have HB6 := Lib.hid ((HB4.out.trans (hb5.mono HB4.out.size)).alloc (HB4.out.trans (hb5.mono HB4.out.size)).size (.cells #[.bool (mkN true (a % b)), .slice A5 n5 c5] 24))
    have LB6 := Lib.hid ((LB4.out.via hb5).box (.cells #[.bool (mkN true (a % b)), .slice A5 n5 c5] 24))
    have HL6 := Lib.hid ((HL4.out.via hb5).box (.cells #[.bool (mkN true (a % b)), .slice A5 n5 c5] 24))
    have HM6 := Lib.hid (hL5.box (.cells #[.bool (mkN true (a % b)), .slice A5 n5 c5] 24))
    have PY6 := Pr.new w5 w5.heap.size rfl (.bool (mkN true (a % b))) (.slice A5 n5 c5) 24
    have hlt5 : g3 < w5.heap.size := (PX4.via hb5).lt
    clear PA4 PB4 PQ4 PR4 PX4 HB4 HR4 LB4 HL4 hb5 hL5 a0 a1 b0 b1
    have ⟨a0, a1, _, _, _⟩ := PA6
    have ⟨b0, b1, _, _, _⟩ := PB6
    go_wp2_with fail
    generalize w5.alloc (.cells #[.bool (mkN true (a % b)), .slice A5 n5 c5] 24) = w6 at *
    generalize w5.heap.size = g5 at *
    have ⟨q0, q1, qf0, qf1, ql⟩ := PQ6
    have ⟨r0, r1, rf0, rf1, rl⟩ := PR6
    have ⟨x0, x1, xf0, xf1, xl⟩ := PX6
    have ⟨y0, y1, yf0, yf1, yl⟩ := PY6
    go_region
    all_goals
      go_wp2
      refine post_ww Tryz.results147 rfl rfl rfl ((PQ6.set _ _).far (by omega) _ _).drew ((PR6.far (by omega) _ _).set _ _).drew ⟨A3, n3, c3, A5, n5, c5, rfl, ?_, ?_, ?_⟩
      · exact ((HL6.out.setP PQ6 _ _).setP (PR6.far (by omega) _ _) _ _).drew
      · exact ((HM6.out.setP PQ6 _ _).setP (PR6.far (by omega) _ _) _ _).drew
      · exact (below_set2 (below_set2 HB6.out (by omega) _ _) (by omega) _ _).drew
set_option maxRecDepth 100000 in
set_option maxHeartbeats 2000000 in
theorem rdivmod_exact (w : World) (na nb : Bool) (A B : Option Addr) (n m ca cb a b : Nat) (hA : Lm w w.heap.size A n ca (digs a)) (hB : Lm w w.heap.size B m cb (digs b)) (hv : chkB na (digs a) nb (digs b) = 0) (hb : 0 < b) (hs : na = true ∧ nb = false ∨ na = false ∧ nb = true) (h0 : a % b = 0) :
    Calls Tryz.prog 147 #[.agg #[.bool na, .slice A n ca], .agg #[.bool nb, .slice B m cb]] w (RWW w (mkN true (a / b)) (digs (a / b)) (mkN na (a % b)) (digs (a % b)) 0) := by
  have h41 := (chk_ok.1 (chkB_ok.1 hv).1).1
  have h42 := (chk_ok.1 (chkB_ok.1 hv).2).1
  have hml := Nat.mod_lt a hb
  have hq0 : (digs (a / b)).length ≤ 4096 := Nat.le_trans (digs_mono (Nat.div_le_self a b)) h41
  have hr0 : (digs (a % b)).length ≤ 4096 := Nat.le_trans (digs_mono (Nat.le_of_lt hml)) h42
  have HLq : Hid (mkL (a / b) = digs (a / b)) := by show _ = _; unfold mkL; rw [if_pos hq0]
  have HLr : Hid (mkL (a % b) = digs (a % b)) := by show _ = _; unfold mkL; rw [if_pos hr0]
  have HEq : Hid (mkE (a / b) = 0) := by show _ = _; unfold mkE; rw [if_pos hq0]
  have HEr : Hid (mkE (a % b) = 0) := by show _ = _; unfold mkE; rw [if_pos hr0]
  rw [hA.len] at h41
  rw [hB.len] at h42
  have hm0 : 0 < m := by rw [← hB.len, digs_pos]; exact hb
  have hm1 : ((m : Int) == 0) = false := by simp; omega
  have hcB := hB.cap
  have hxB := hB.max
  have HA := Lib.hid hA
  have HB := Lib.hid hB
  have HV := Lib.hid hv
  have HVq : Hid (val (digs (a / b)) = a / b) := digs_val _
  have HVr : Hid (val (digs (a % b)) = a % b) := digs_val _
  have hrl : decide (0 < (digs (a % b)).length) = decide (0 < a % b) := decide_eq_decide.2 digs_pos
  have hrz : decide (0 < (digs (a % b)).length) = false := by rw [hrl]; simp; omega
  have H0 := Lib.hid h0
  clear hrl h0
  clear hv hA hB hml
  rcases hs with ⟨rfl, rfl⟩ | ⟨rfl, rfl⟩
  · go_enter Tryz.func147, Tryz.ntmps147
    go_wp2_with fail
    refine (rboth_any _ _ _ _ _ _ _ _ _ _ _ ((((HA.out.box _).box _).box _).box _) ((((HB.out.box _).box _).box _).box _) 0 HV.out).mono ?_
    rintro e w1 ⟨rfl, hb1⟩
    have ⟨PA, PB, PQ, PR⟩ := boxes4 hb1
    have LA1 := Lib.hid (((((HA.out.box _).box _).box _).box _).via hb1)
    have LB1 := Lib.hid (((((HB.out.box _).box _).box _).box _).via hb1)
    have HB1 := Lib.hid (bbox (bbox (bbox (bbox hb1))))
    have ⟨a0, a1, _, _, _⟩ := PA
    have ⟨b0, b1, _, _, _⟩ := PB
    clear hb1
    go_wp2_with fail
    refine (rover_any w1 A B n m ca cb a b LA1.out LB1.out hb (by omega)).mono ?_
    rintro e w2 ⟨Q, cq, R, cr, rfl, hQ, hR, hb2⟩
    have PA2 := PA.via hb2
    have PB2 := PB.via hb2
    have PQ2 := PQ.via hb2
    have PR2 := PR.via hb2
    have HB2 := Lib.hid (HB1.out.trans (hb2.mono HB1.out.size))
    have HQ := Lib.hid hQ
    have HR := Lib.hid hR
    have LB2 := Lib.hid (LB1.out.via hb2)
    clear PA PB PQ PR LA1 LB1 HB1 a0 a1 b0 b1 hb2 hQ hR
    have ⟨a0, a1, _, _, _⟩ := PA2
    have ⟨b0, b1, _, _, _⟩ := PB2
    go_wp2_with fail
    refine (rmade_any w2 _ _ _ _ _ (a / b) HQ.out HVq.out (by omega)).mono ?_
    rintro e w3 ⟨A3, n3, c3, rfl, hL3, hb3⟩
    rw [HLq.out] at hL3
    rw [HEq.out]
    have PA4 := (PA2.via hb3).alloc (.cells #[.bool (mkN true (a / b)), .slice A3 n3 c3] 24)
    have PB4 := (PB2.via hb3).alloc (.cells #[.bool (mkN true (a / b)), .slice A3 n3 c3] 24)
    have PQ4 := (PQ2.via hb3).alloc (.cells #[.bool (mkN true (a / b)), .slice A3 n3 c3] 24)
    have PR4 := (PR2.via hb3).alloc (.cells #[.bool (mkN true (a / b)), .slice A3 n3 c3] 24)
    have HB4 := Lib.hid ((HB2.out.trans (hb3.mono HB2.out.size)).alloc (HB2.out.trans (hb3.mono HB2.out.size)).size (.cells #[.bool (mkN true (a / b)), .slice A3 n3 c3] 24))
    have HR4 := Lib.hid ((HR.out.via hb3).box (.cells #[.bool (mkN true (a / b)), .slice A3 n3 c3] 24))
    have LB4 := Lib.hid ((LB2.out.via hb3).box (.cells #[.bool (mkN true (a / b)), .slice A3 n3 c3] 24))
    have HL4 := Lib.hid (hL3.box (.cells #[.bool (mkN true (a / b)), .slice A3 n3 c3] 24))
    have PX4 := Pr.new w3 w3.heap.size rfl (.bool (mkN true (a / b))) (.slice A3 n3 c3) 24
    have hlt3 : w.heap.size + 1 + 1 + 1 < w3.heap.size := (PR2.via hb3).lt
    clear PA2 PB2 PQ2 PR2 HQ HR HB2 LB2 hb3 hL3 a0 a1 b0 b1
    have ⟨a0, a1, _, _, _⟩ := PA4
    have ⟨b0, b1, _, _, _⟩ := PB4
    go_wp2_with fail
    generalize w3.alloc (.cells #[.bool (mkN true (a / b)), .slice A3 n3 c3] 24) = w4 at *
    generalize w3.heap.size = g3 at *
    refine (rmade_any w4 _ _ _ _ _ (a % b) HR4.out HVr.out (by omega)).mono ?_
    rintro e w5 ⟨A5, n5, c5, rfl, hL5, hb5⟩
    rw [HLr.out] at hL5
    rw [HEr.out]
    have PA6 := (PA4.via hb5).alloc (.cells #[.bool (mkN true (a % b)), .slice A5 n5 c5] 24)
    have PB6 := (PB4.via hb5).alloc (.cells #[.bool (mkN true (a % b)), .slice A5 n5 c5] 24)
    have PQ6 := (PQ4.via hb5).alloc (.cells #[.bool (mkN true (a % b)), .slice A5 n5 c5] 24)
    have PR6 := (PR4.via hb5).alloc (.cells #[.bool (mkN true (a % b)), .slice A5 n5 c5] 24)
    have PX6 := (PX4.via hb5).alloc (.cells #[.bool (mkN true (a % b)), .slice A5 n5 c5] 24)
    have HB6 := Lib.hid ((HB4.out.trans (hb5.mono HB4.out.size)).alloc (HB4.out.trans (hb5.mono HB4.out.size)).size (.cells #[.bool (mkN true (a % b)), .slice A5 n5 c5] 24))
    have LB6 := Lib.hid ((LB4.out.via hb5).box (.cells #[.bool (mkN true (a % b)), .slice A5 n5 c5] 24))
    have HL6 := Lib.hid ((HL4.out.via hb5).box (.cells #[.bool (mkN true (a % b)), .slice A5 n5 c5] 24))
    have HM6 := Lib.hid (hL5.box (.cells #[.bool (mkN true (a % b)), .slice A5 n5 c5] 24))
    have PY6 := Pr.new w5 w5.heap.size rfl (.bool (mkN true (a % b))) (.slice A5 n5 c5) 24
    have hlt5 : g3 < w5.heap.size := (PX4.via hb5).lt
    clear PA4 PB4 PQ4 PR4 PX4 HB4 HR4 LB4 HL4 hb5 hL5 a0 a1 b0 b1
    have ⟨a0, a1, _, _, _⟩ := PA6
    have ⟨b0, b1, _, _, _⟩ := PB6
    go_wp2_with fail
    generalize w5.alloc (.cells #[.bool (mkN true (a % b)), .slice A5 n5 c5] 24) = w6 at *
    generalize w5.heap.size = g5 at *
    have ⟨q0, q1, qf0, qf1, ql⟩ := PQ6
    have ⟨r0, r1, rf0, rf1, rl⟩ := PR6
    have ⟨x0, x1, xf0, xf1, xl⟩ := PX6
    have ⟨y0, y1, yf0, yf1, yl⟩ := PY6
    go_region
    all_goals
      go_wp2
      refine post_ww Tryz.results147 rfl rfl rfl ((PQ6.set _ _).far (by omega) _ _).drew ((PR6.far (by omega) _ _).set _ _).drew ⟨A3, n3, c3, A5, n5, c5, rfl, ?_, ?_, ?_⟩
      · exact ((HL6.out.setP PQ6 _ _).setP (PR6.far (by omega) _ _) _ _).drew
      · exact ((HM6.out.setP PQ6 _ _).setP (PR6.far (by omega) _ _) _ _).drew
      · exact (below_set2 (below_set2 HB6.out (by omega) _ _) (by omega) _ _).drew
  · go_enter Tryz.func147, Tryz.ntmps147
    go_wp2_with fail
    refine (rboth_any _ _ _ _ _ _ _ _ _ _ _ ((((HA.out.box _).box _).box _).box _) ((((HB.out.box _).box _).box _).box _) 0 HV.out).mono ?_
    rintro e w1 ⟨rfl, hb1⟩
    have ⟨PA, PB, PQ, PR⟩ := boxes4 hb1
    have LA1 := Lib.hid (((((HA.out.box _).box _).box _).box _).via hb1)
    have LB1 := Lib.hid (((((HB.out.box _).box _).box _).box _).via hb1)
    have HB1 := Lib.hid (bbox (bbox (bbox (bbox hb1))))
    have ⟨a0, a1, _, _, _⟩ := PA
    have ⟨b0, b1, _, _, _⟩ := PB
    clear hb1
    go_wp2_with fail
    refine (rover_any w1 A B n m ca cb a b LA1.out LB1.out hb (by omega)).mono ?_
    rintro e w2 ⟨Q, cq, R, cr, rfl, hQ, hR, hb2⟩
    have PA2 := PA.via hb2
    have PB2 := PB.via hb2
    have PQ2 := PQ.via hb2
    have PR2 := PR.via hb2
    have HB2 := Lib.hid (HB1.out.trans (hb2.mono HB1.out.size))
    have HQ := Lib.hid hQ
    have HR := Lib.hid hR
    have LB2 := Lib.hid (LB1.out.via hb2)
    clear PA PB PQ PR LA1 LB1 HB1 a0 a1 b0 b1 hb2 hQ hR
    have ⟨a0, a1, _, _, _⟩ := PA2
    have ⟨b0, b1, _, _, _⟩ := PB2
    go_wp2_with fail
    refine (rmade_any w2 _ _ _ _ _ (a / b) HQ.out HVq.out (by omega)).mono ?_
    rintro e w3 ⟨A3, n3, c3, rfl, hL3, hb3⟩
    rw [HLq.out] at hL3
    rw [HEq.out]
    have PA4 := (PA2.via hb3).alloc (.cells #[.bool (mkN true (a / b)), .slice A3 n3 c3] 24)
    have PB4 := (PB2.via hb3).alloc (.cells #[.bool (mkN true (a / b)), .slice A3 n3 c3] 24)
    have PQ4 := (PQ2.via hb3).alloc (.cells #[.bool (mkN true (a / b)), .slice A3 n3 c3] 24)
    have PR4 := (PR2.via hb3).alloc (.cells #[.bool (mkN true (a / b)), .slice A3 n3 c3] 24)
    have HB4 := Lib.hid ((HB2.out.trans (hb3.mono HB2.out.size)).alloc (HB2.out.trans (hb3.mono HB2.out.size)).size (.cells #[.bool (mkN true (a / b)), .slice A3 n3 c3] 24))
    have HR4 := Lib.hid ((HR.out.via hb3).box (.cells #[.bool (mkN true (a / b)), .slice A3 n3 c3] 24))
    have LB4 := Lib.hid ((LB2.out.via hb3).box (.cells #[.bool (mkN true (a / b)), .slice A3 n3 c3] 24))
    have HL4 := Lib.hid (hL3.box (.cells #[.bool (mkN true (a / b)), .slice A3 n3 c3] 24))
    have PX4 := Pr.new w3 w3.heap.size rfl (.bool (mkN true (a / b))) (.slice A3 n3 c3) 24
    have hlt3 : w.heap.size + 1 + 1 + 1 < w3.heap.size := (PR2.via hb3).lt
    clear PA2 PB2 PQ2 PR2 HQ HR HB2 LB2 hb3 hL3 a0 a1 b0 b1
    have ⟨a0, a1, _, _, _⟩ := PA4
    have ⟨b0, b1, _, _, _⟩ := PB4
    go_wp2_with fail
    generalize w3.alloc (.cells #[.bool (mkN true (a / b)), .slice A3 n3 c3] 24) = w4 at *
    generalize w3.heap.size = g3 at *
    refine (rmade_any w4 _ _ _ _ _ (a % b) HR4.out HVr.out (by omega)).mono ?_
    rintro e w5 ⟨A5, n5, c5, rfl, hL5, hb5⟩
    rw [HLr.out] at hL5
    rw [HEr.out]
    have PA6 := (PA4.via hb5).alloc (.cells #[.bool (mkN false (a % b)), .slice A5 n5 c5] 24)
    have PB6 := (PB4.via hb5).alloc (.cells #[.bool (mkN false (a % b)), .slice A5 n5 c5] 24)
    have PQ6 := (PQ4.via hb5).alloc (.cells #[.bool (mkN false (a % b)), .slice A5 n5 c5] 24)
    have PR6 := (PR4.via hb5).alloc (.cells #[.bool (mkN false (a % b)), .slice A5 n5 c5] 24)
    have PX6 := (PX4.via hb5).alloc (.cells #[.bool (mkN false (a % b)), .slice A5 n5 c5] 24)
    have HB6 := Lib.hid ((HB4.out.trans (hb5.mono HB4.out.size)).alloc (HB4.out.trans (hb5.mono HB4.out.size)).size (.cells #[.bool (mkN false (a % b)), .slice A5 n5 c5] 24))
    have LB6 := Lib.hid ((LB4.out.via hb5).box (.cells #[.bool (mkN false (a % b)), .slice A5 n5 c5] 24))
    have HL6 := Lib.hid ((HL4.out.via hb5).box (.cells #[.bool (mkN false (a % b)), .slice A5 n5 c5] 24))
    have HM6 := Lib.hid (hL5.box (.cells #[.bool (mkN false (a % b)), .slice A5 n5 c5] 24))
    have PY6 := Pr.new w5 w5.heap.size rfl (.bool (mkN false (a % b))) (.slice A5 n5 c5) 24
    have hlt5 : g3 < w5.heap.size := (PX4.via hb5).lt
    clear PA4 PB4 PQ4 PR4 PX4 HB4 HR4 LB4 HL4 hb5 hL5 a0 a1 b0 b1
    have ⟨a0, a1, _, _, _⟩ := PA6
    have ⟨b0, b1, _, _, _⟩ := PB6
    go_wp2_with fail
    generalize w5.alloc (.cells #[.bool (mkN false (a % b)), .slice A5 n5 c5] 24) = w6 at *
    generalize w5.heap.size = g5 at *
    have ⟨q0, q1, qf0, qf1, ql⟩ := PQ6
    have ⟨r0, r1, rf0, rf1, rl⟩ := PR6
    have ⟨x0, x1, xf0, xf1, xl⟩ := PX6
    have ⟨y0, y1, yf0, yf1, yl⟩ := PY6
    go_region
    all_goals
      go_wp2
      refine post_ww Tryz.results147 rfl rfl rfl ((PQ6.set _ _).far (by omega) _ _).drew ((PR6.far (by omega) _ _).set _ _).drew ⟨A3, n3, c3, A5, n5, c5, rfl, ?_, ?_, ?_⟩
      · exact ((HL6.out.setP PQ6 _ _).setP (PR6.far (by omega) _ _) _ _).drew
      · exact ((HM6.out.setP PQ6 _ _).setP (PR6.far (by omega) _ _) _ _).drew
      · exact (below_set2 (below_set2 HB6.out (by omega) _ _) (by omega) _ _).drew
end Go.Proofs.YtoigmcggkanncaaGreatDoor

/- The reference's DivMod, rounded down. -/
namespace Go.Proofs.YtoigmcggkanncaaGreatDoor
open Go.RowKit

end Go.Proofs.YtoigmcggkanncaaGreatDoor

/- The reference for fractions: Check, Reduced, Same, Great. -/
namespace Go.Proofs.YtoigmcggkanncaaGreatDoor
open Go.RowKit

theorem sign_of {x p z : Int} (h : x = p * z) (hz : z ≠ 0) : decide (p < 0) = (decide (x < 0) != decide (z < 0) && decide (p ≠ 0)) := by
  subst h
  rcases Int.lt_trichotomy p 0 with hp | hp | hp
  · rcases Int.lt_or_gt_of_ne hz with h | h
    · have := Int.mul_pos_of_neg_of_neg hp h
      rw [decide_eq_true hp, decide_eq_false (show ¬ p * z < 0 by omega), decide_eq_true h, decide_eq_true (show p ≠ 0 by omega)]; rfl
    · have := Int.mul_neg_of_neg_of_pos hp h
      rw [decide_eq_true hp, decide_eq_true this, decide_eq_false (show ¬ z < 0 by omega), decide_eq_true (show p ≠ 0 by omega)]; rfl
  · subst hp; simp
  · rcases Int.lt_or_gt_of_ne hz with h | h
    · have := Int.mul_neg_of_pos_of_neg hp h
      rw [decide_eq_false (show ¬ p < 0 by omega), decide_eq_true this, decide_eq_true h]; rfl
    · have := Int.mul_pos hp h
      rw [decide_eq_false (show ¬ p < 0 by omega), decide_eq_false (show ¬ p * z < 0 by omega), decide_eq_false (show ¬ z < 0 by omega)]; rfl
/-- The reference's DivMod where the second number divides the first one. -/
theorem rdiv_x (w : World) (A B : Option Addr) (n m ca cb k : Nat) (x z p : Int) (hA : Lm w w.heap.size A n ca (digs x.natAbs)) (hB : Lm w w.heap.size B m cb (digs z.natAbs)) (hx : Sz k x) (hz : Sz k z) (hk : k ≤ 2000) (hz0 : z ≠ 0) (hp : x = p * z)
    {na nb : Bool} (ha : decide (x < 0) = na) (hb : decide (z < 0) = nb) :
    Calls Tryz.prog 147 #[.agg #[.bool na, .slice A n ca], .agg #[.bool nb, .slice B m cb]] w fun e w' => ∃ A n c g A' n' c', e = .returned (.tuple #[.agg #[.bool (decide (p < 0)), .slice A n c], .agg #[.bool g, .slice A' n' c'], .int .i64 0]) ∧ Lm w' w'.heap.size A n c (digs p.natAbs) ∧ Below w.heap.size w w' := by
  have hv := chkB_z hx (show k ≤ 4096 by omega) hz (show k ≤ 4096 by omega)
  have hs := sign_of hp hz0
  rw [ha, hb] at hv hs
  have hbp : 0 < z.natAbs := by omega
  have e1 : x.natAbs = p.natAbs * z.natAbs := by rw [hp, Int.natAbs_mul]
  have e2 : x.natAbs / z.natAbs = p.natAbs := by rw [e1]; exact Nat.mul_div_cancel _ hbp
  have e3 : x.natAbs % z.natAbs = 0 := by rw [e1]; exact Nat.mul_mod_left _ _
  have hpl : (digs p.natAbs).length ≤ 4096 := by
    rw [← e2]
    exact Nat.le_trans (digs_mono (Nat.div_le_self _ _)) (Nat.le_trans hx.len (by omega))
  have hdz : decide (p.natAbs ≠ 0) = decide (p ≠ 0) := by rw [decide_eq_decide]; omega
  by_cases hsame : na = nb
  · have h := rdivmod_same w na nb A B n m ca cb _ _ hA hB hv hbp hsame (decide (0 < x.natAbs % z.natAbs)) rfl
    refine h.mono fun e w' hr => ?_
    obtain ⟨A1, n1, c1, A2, n2, c2, he, h1, _, hbl⟩ := hr
    rw [e2] at he h1
    have e4 : mkN false p.natAbs = decide (p < 0) := by rw [hs, hsame]; unfold mkN; simp
    rw [e4] at he
    exact ⟨A1, n1, c1, _, A2, n2, c2, he, h1, hbl⟩
  · have hs2 : na = true ∧ nb = false ∨ na = false ∧ nb = true := by cases na <;> cases nb <;> simp_all
    have h := rdivmod_exact w na nb A B n m ca cb _ _ hA hB hv hbp hs2 e3
    refine h.mono fun e w' hr => ?_
    obtain ⟨A1, n1, c1, A2, n2, c2, he, h1, _, hbl⟩ := hr
    rw [e2] at he h1
    have e4 : mkN true p.natAbs = decide (p < 0) := by
      rw [hs]
      unfold mkN
      rw [decide_eq_true hpl, hdz]
      rcases hs2 with ⟨h1, h2⟩ | ⟨h1, h2⟩ <;> rw [h1, h2] <;> simp
    rw [e4] at he
    exact ⟨A1, n1, c1, _, A2, n2, c2, he, h1, hbl⟩

set_option maxRecDepth 100000 in
set_option maxHeartbeats 400000 in
theorem fgreat_any (w : World) (nn dn : Bool) (A B : Option Addr) (n m ca cb : Nat) (_h1 : n ≤ ca) (_h2 : ca ≤ 9223372036854775807) (_h3 : m ≤ cb) (_h4 : cb ≤ 9223372036854775807) :
    Calls Tryz.prog 25 #[fv nn A n ca dn B m cb] w fun e w' => e = .returned (.bool (decide (130 < n) || decide (130 < m))) ∧ Below w.heap.size w w' := by
  go_enter Tryz.func25, Tryz.ntmps25
  go_wp2
  all_goals
    go_ret
    first
      | exact ⟨ret_bool (a := decide ((130 : Int) < (n : Int)) || decide ((130 : Int) < (m : Int))) (by congr 1 <;> (rw [decide_eq_decide]; omega)), by go_grown⟩
      | exact ⟨ret_bool (a := true) (by simp; omega), by go_grown⟩
set_option maxRecDepth 100000 in
set_option maxHeartbeats 1000000 in
theorem fsame_self (w : World) (nn dn : Bool) (A B A' B' : Option Addr) (n m n' m' ca cb ca' cb' : Nat) (xs ys : List Nat) (hA : Lm w w.heap.size A n ca xs) (hB : Lm w w.heap.size B m cb ys) (hA' : Lm w w.heap.size A' n' ca' xs) (hB' : Lm w w.heap.size B' m' cb' ys) :
    Calls Tryz.prog 23 #[fv nn A n ca dn B m cb, fv nn A' n' ca' dn B' m' cb'] w fun e w' => e = .returned (.bool true) ∧ Below w.heap.size w w' := by
  have HA := Lib.hid hA
  have HB := Lib.hid hB
  have HA' := Lib.hid hA'
  have HB' := Lib.hid hB'
  clear hA hB hA' hB'
  go_enter Tryz.func23, Tryz.ntmps23
  go_wp2_with fail
  refine (rsame_self _ _ _ _ _ _ _ _ _ ((HA.out.box _).box _) ((HA'.out.box _).box _)).mono ?_
  rintro e w1 ⟨rfl, hb1⟩
  have Q1 := ((Qd.new w _ rfl (.bool nn) (.slice A n ca) (.bool dn) (.slice B m cb) 29).alloc _).via hb1
  have Q2 := (Qd.new (w.alloc (.cells #[.bool nn, .slice A n ca, .bool dn, .slice B m cb] 29)) (w.heap.size + 1) (by simp) (.bool nn) (.slice A' n' ca') (.bool dn) (.slice B' m' cb') 29).via hb1
  have LB := Lib.hid (((HB.out.box _).box _).via hb1)
  have LB' := Lib.hid (((HB'.out.box _).box _).via hb1)
  have B1 := Lib.hid (bbox (bbox hb1))
  have ⟨_, _, q2, q3, _, _, _, _, ql⟩ := Q1
  have ⟨_, _, s2, s3, _, _, _, _, sl⟩ := Q2
  clear hb1 Q1 Q2 HA HB HA' HB'
  go_wp2_with fail
  refine (rsame_self _ _ _ _ _ _ _ _ _ LB.out LB'.out).mono ?_
  rintro e w2 ⟨rfl, hb2⟩
  go_wp2
  go_ret
  exact ⟨rfl, btr B1.out hb2⟩
set_option maxRecDepth 100000 in
set_option maxHeartbeats 1000000 in
theorem rfcheck_nbad (w : World) (nn dn : Bool) (A B : Option Addr) (n m ca cb : Nat) (xs ys : List Nat) (hA : Lm w w.heap.size A n ca xs) (hB : Lm w w.heap.size B m cb ys) (hn : chk nn xs = 8) :
    Calls Tryz.prog 18 #[fv nn A n ca dn B m cb] w fun e w' => e = .returned (.int .i64 8) ∧ Below w.heap.size w w' := by
  have HA := Lib.hid hA
  have HB := Lib.hid hB
  have HN := Lib.hid hn
  clear hn
  clear hA hB
  go_enter Tryz.func18, Tryz.ntmps18
  go_wp2_with fail
  refine (rcheck_bad _ nn A n ca xs (HA.out.box _) HN.out).mono ?_
  rintro e w1 ⟨rfl, hb1⟩
  have Q1 := (Qd.new w _ rfl (.bool nn) (.slice A n ca) (.bool dn) (.slice B m cb) 29).via hb1
  have LA := Lib.hid ((HA.out.box _).via hb1)
  have LB := Lib.hid ((HB.out.box _).via hb1)
  have B1 := Lib.hid (bbox hb1)
  have HQ := Lib.hid Q1
  have ⟨q0, q1, q2, q3, _, _, _, _, ql⟩ := Q1
  clear hb1 Q1 HA HB
  go_wp2
  go_ret
  exact ⟨rfl, B1.out⟩
set_option maxRecDepth 100000 in
set_option maxHeartbeats 1000000 in
theorem rfcheck_dbad (w : World) (nn dn : Bool) (A B : Option Addr) (n m ca cb : Nat) (xs ys : List Nat) (hA : Lm w w.heap.size A n ca xs) (hB : Lm w w.heap.size B m cb ys) (hn : chk nn xs = 0) (hd : chk dn ys = 8) :
    Calls Tryz.prog 18 #[fv nn A n ca dn B m cb] w fun e w' => e = .returned (.int .i64 8) ∧ Below w.heap.size w w' := by
  have HA := Lib.hid hA
  have HB := Lib.hid hB
  have HN := Lib.hid hn
  have HD := Lib.hid hd
  clear hn hd
  clear hA hB
  go_enter Tryz.func18, Tryz.ntmps18
  go_wp2_with fail
  refine (rcheck_ok _ nn A n ca xs (HA.out.box _) HN.out).mono ?_
  rintro e w1 ⟨rfl, hb1⟩
  have Q1 := (Qd.new w _ rfl (.bool nn) (.slice A n ca) (.bool dn) (.slice B m cb) 29).via hb1
  have LA := Lib.hid ((HA.out.box _).via hb1)
  have LB := Lib.hid ((HB.out.box _).via hb1)
  have B1 := Lib.hid (bbox hb1)
  have HQ := Lib.hid Q1
  have ⟨q0, q1, q2, q3, _, _, _, _, ql⟩ := Q1
  clear hb1 Q1 HA HB
  go_wp2_with fail
  refine (rcheck_bad _ dn B m cb ys LB.out HD.out).mono ?_
  rintro e w2 ⟨rfl, hb2⟩
  have B2 := Lib.hid (btr B1.out hb2)
  clear hb2
  go_wp2
  go_ret
  exact ⟨rfl, B2.out⟩
set_option maxRecDepth 100000 in
set_option maxHeartbeats 1000000 in
theorem rfcheck_neg (w : World) (nn dn : Bool) (A B : Option Addr) (n m ca cb : Nat) (xs ys : List Nat) (hA : Lm w w.heap.size A n ca xs) (hB : Lm w w.heap.size B m cb ys) (hn : chk nn xs = 0) (hd : chk dn ys = 0) (ht : dn = true) :
    Calls Tryz.prog 18 #[fv nn A n ca dn B m cb] w fun e w' => e = .returned (.int .i64 8) ∧ Below w.heap.size w w' := by
  have HA := Lib.hid hA
  have HB := Lib.hid hB
  subst ht
  have HN := Lib.hid hn
  have HD := Lib.hid hd
  clear hn hd
  clear hA hB
  go_enter Tryz.func18, Tryz.ntmps18
  go_wp2_with fail
  refine (rcheck_ok _ nn A n ca xs (HA.out.box _) HN.out).mono ?_
  rintro e w1 ⟨rfl, hb1⟩
  have Q1 := (Qd.new w _ rfl (.bool nn) (.slice A n ca) (.bool true) (.slice B m cb) 29).via hb1
  have LA := Lib.hid ((HA.out.box _).via hb1)
  have LB := Lib.hid ((HB.out.box _).via hb1)
  have B1 := Lib.hid (bbox hb1)
  have HQ := Lib.hid Q1
  have ⟨q0, q1, q2, q3, _, _, _, _, ql⟩ := Q1
  clear hb1 Q1 HA HB
  go_wp2_with fail
  refine (rcheck_ok _ true B m cb ys LB.out HD.out).mono ?_
  rintro e w2 ⟨rfl, hb2⟩
  have B2 := Lib.hid (btr B1.out hb2)
  have Q2 := HQ.out.via hb2
  have LA2 := Lib.hid (LA.out.via hb2)
  have LB2 := Lib.hid (LB.out.via hb2)
  have HQ2 := Lib.hid Q2
  clear hb2 q0 q1 q2 q3 ql LA LB HQ
  have ⟨q0, q1, q2, q3, _, _, _, _, ql⟩ := Q2
  clear Q2
  go_wp2
  go_ret
  exact ⟨rfl, B2.out⟩
set_option maxRecDepth 100000 in
set_option maxHeartbeats 1000000 in
theorem rfcheck_zero (w : World) (nn dn : Bool) (A B : Option Addr) (n m ca cb : Nat) (xs ys : List Nat) (hA : Lm w w.heap.size A n ca xs) (hB : Lm w w.heap.size B m cb ys) (hn : chk nn xs = 0) (hd : chk dn ys = 0) (ht : dn = false) (hz : ys = []) :
    Calls Tryz.prog 18 #[fv nn A n ca dn B m cb] w fun e w' => e = .returned (.int .i64 8) ∧ Below w.heap.size w w' := by
  have HA := Lib.hid hA
  have HB := Lib.hid hB
  subst ht hz
  obtain rfl : m = 0 := HB.out.len.symm
  have HN := Lib.hid hn
  have HD := Lib.hid hd
  clear hn hd
  clear hA hB
  go_enter Tryz.func18, Tryz.ntmps18
  go_wp2_with fail
  refine (rcheck_ok _ nn A n ca xs (HA.out.box _) HN.out).mono ?_
  rintro e w1 ⟨rfl, hb1⟩
  have Q1 := (Qd.new w _ rfl (.bool nn) (.slice A n ca) (.bool false) (.slice B 0 cb) 29).via hb1
  have LA := Lib.hid ((HA.out.box _).via hb1)
  have LB := Lib.hid ((HB.out.box _).via hb1)
  have B1 := Lib.hid (bbox hb1)
  have HQ := Lib.hid Q1
  have ⟨q0, q1, q2, q3, _, _, _, _, ql⟩ := Q1
  clear hb1 Q1 HA HB
  go_wp2_with fail
  refine (rcheck_ok _ false B 0 cb [] LB.out HD.out).mono ?_
  rintro e w2 ⟨rfl, hb2⟩
  have B2 := Lib.hid (btr B1.out hb2)
  have Q2 := HQ.out.via hb2
  have LA2 := Lib.hid (LA.out.via hb2)
  have LB2 := Lib.hid (LB.out.via hb2)
  have HQ2 := Lib.hid Q2
  clear hb2 q0 q1 q2 q3 ql LA LB HQ
  have ⟨q0, q1, q2, q3, _, _, _, _, ql⟩ := Q2
  clear Q2
  go_wp2
  go_ret
  exact ⟨rfl, B2.out⟩
set_option maxRecDepth 100000 in
set_option maxHeartbeats 1000000 in
theorem rfcheck_gcd (w : World) (nn dn : Bool) (A B : Option Addr) (n m ca cb : Nat) (xs ys : List Nat) (hA : Lm w w.heap.size A n ca xs) (hB : Lm w w.heap.size B m cb ys) (hn : chk nn xs = 0) (hd : chk dn ys = 0) (ht : dn = false) (hz : ys ≠ []) (g : Nat) (hgg : Nat.gcd (val xs) (val ys) = g) (r : Int) (hr : r = if g = 1 then 0 else 8) :
    Calls Tryz.prog 18 #[fv nn A n ca dn B m cb] w fun e w' => e = .returned (.int .i64 r) ∧ Below w.heap.size w w' := by
  have HA := Lib.hid hA
  have HB := Lib.hid hB
  subst ht
  have hm0 : 0 < m := by
    rcases Nat.eq_zero_or_pos m with h | h
    · exact absurd (List.eq_nil_of_length_eq_zero (by rw [HB.out.len]; exact h)) hz
    · exact h
  have hmz : ((m : Int) == 0) = false := by simp; omega
  have hcc := HB.out.cap
  have hcx := HB.out.max
  have HG0 := Lib.hid hgg
  have HR := Lib.hid hr
  have HV : Hid (chkB nn (digs (val xs)) false (digs (val ys)) = 0) := by
    show _ = _
    rw [← chk_digs hn HA.out.good, ← chk_digs hd HB.out.good]
    exact chkB_ok.2 ⟨hn, hd⟩
  have HDA := Lib.hid (chk_digs hn HA.out.good)
  have HDB := Lib.hid (chk_digs hd HB.out.good)
  have HGL : Hid ((digs g).length ≤ 4096) := by
    show _ ≤ _
    rw [← hgg]
    have h1 := (chk_ok.1 hd).1
    rw [chk_digs hd HB.out.good] at h1
    exact Nat.le_trans (digs_mono (Nat.gcd_le_right _ (val_pos (chk_ok.1 hd).2.1 hz))) h1
  clear hr hz hgg
  have HN := Lib.hid hn
  have HD := Lib.hid hd
  clear hn hd
  clear hA hB
  go_enter Tryz.func18, Tryz.ntmps18
  go_wp2_with fail
  refine (rcheck_ok _ nn A n ca xs (HA.out.box _) HN.out).mono ?_
  rintro e w1 ⟨rfl, hb1⟩
  have Q1 := (Qd.new w _ rfl (.bool nn) (.slice A n ca) (.bool false) (.slice B m cb) 29).via hb1
  have LA := Lib.hid ((HA.out.box _).via hb1)
  have LB := Lib.hid ((HB.out.box _).via hb1)
  have B1 := Lib.hid (bbox hb1)
  have HQ := Lib.hid Q1
  have ⟨q0, q1, q2, q3, _, _, _, _, ql⟩ := Q1
  clear hb1 Q1 HA HB
  go_wp2_with fail
  refine (rcheck_ok _ false B m cb ys LB.out HD.out).mono ?_
  rintro e w2 ⟨rfl, hb2⟩
  have B2 := Lib.hid (btr B1.out hb2)
  have Q2 := HQ.out.via hb2
  have LA2 := Lib.hid (LA.out.via hb2)
  have LB2 := Lib.hid (LB.out.via hb2)
  have HQ2 := Lib.hid Q2
  clear hb2 q0 q1 q2 q3 ql LA LB HQ
  have ⟨q0, q1, q2, q3, _, _, _, _, ql⟩ := Q2
  clear Q2
  have hA2 : Lm w2 w2.heap.size A n ca (digs (val xs)) := by rw [← HDA.out]; exact LA2.out
  have hB2 : Lm w2 w2.heap.size B m cb (digs (val ys)) := by rw [← HDB.out]; exact LB2.out
  have KA := Lib.hid hA2
  have KB := Lib.hid hB2
  clear hA2 hB2
  go_wp2_with fail
  have hcall := rgcd_ok w2 nn false A B n m ca cb _ _ KA.out KB.out HV.out
  rw [HG0.out] at hcall
  refine hcall.mono ?_
  clear hcall
  rintro e w3 ⟨A3, n3, c3, rfl, hL3, hb3⟩
  have e1 : mkN false g = false := by unfold mkN; simp
  have e2 : mkL g = digs g := by unfold mkL; rw [if_pos HGL.out]
  have e3 : mkE g = 0 := by unfold mkE; rw [if_pos HGL.out]
  rw [e1, e3]
  rw [e2] at hL3
  have L3 := Lib.hid (hL3.box (.cells #[.bool false, .slice A3 n3 c3] 24))
  have P3 := Lib.hid (Pr.new w3 _ rfl (.bool false) (.slice A3 n3 c3) 24)
  have B3 := Lib.hid ((btr B2.out hb3).alloc (btr B2.out hb3).size (.cells #[.bool false, .slice A3 n3 c3] 24))
  have HSB : Hid (sameB false (digs g) false (digs 1) = decide (g = 1)) := by
    show _ = _
    by_cases h : g = 1
    · rw [h, sameB_self]; rfl
    · rw [decide_eq_false h]
      unfold sameB
      have h2 : cmpL (digs g) (digs 1) ≠ 0 := fun e => h (by have := (cmpL_eq (digs_good _) (digs_good _)).1 e; rw [← digs_val g, this]; rfl)
      simp [h2]
  clear hL3 hb3 e1 e2 e3 q0 q1 q2 q3 ql KA KB LA2 LB2 HQ2 B1 B2
  have hd1 : decide ((1 : Int) < 0) = false := rfl
  go_wp2_with fail
  generalize w3.alloc (.cells #[.bool false, .slice A3 n3 c3] 24) = W3 at *
  generalize w3.heap.size = g3 at *
  have ⟨p0, p1, _, _, pl⟩ := P3.out
  have hrf := fun w => rfrom_any w 1 (by omega) (by omega)
  rw [hd1] at hrf
  have HRF := Lib.hid hrf
  clear hrf hd1
  go_region_held3 (fun w' => w'.cell? ⟨g3, 0, none⟩ = some (.bool false) ∧ w'.cell? ⟨g3, 1, none⟩ = some (.slice A3 n3 c3))
    (first
     | exact ⟨p0, p1⟩
     | exact ⟨(P3.out.via Bb).c0, (P3.out.via Bb).c1⟩
     | exact ⟨(P3.out.via Ba).c0, (P3.out.via Ba).c1⟩
     | exact ⟨P3.out.drew.c0, P3.out.drew.c1⟩)
    (first
     | (go_at_call 7; refine (HRF.out _).mono ?_; rintro e wa ⟨Aa, na', ca', rfl, hLa, hba⟩; have Ba : Below W3.heap.size W3 wa := (by first | exact hba | exact (Below.refl _ _).drew.trans hba); have L3a := L3.out.via Ba)
     | (go_at_call 34; refine (rsame_any _ false false A3 Aa n3 na' c3 ca' (digs g) (digs 1) L3a hLa).mono ?_; rintro e wb ⟨rfl, hbb⟩; have Bb := btr Ba hbb)
     | fail)
  all_goals
    rw [HSB.out]
    have BE := Lib.hid (btr B3.out Bb)
    have hR := HR.out
    by_cases hg : g = 1
    · rw [if_pos hg] at hR
      rw [decide_eq_true hg]
      subst hR
      clear hg
      go_wp2
      go_ret
      exact ⟨rfl, BE.out⟩
    · rw [if_neg hg] at hR
      rw [decide_eq_false hg]
      subst hR
      clear hg
      go_wp2
      go_ret
      exact ⟨rfl, BE.out⟩
theorem rfcheck_any (w : World) (nn dn : Bool) (A B : Option Addr) (n m ca cb : Nat) (xs ys : List Nat) (hA : Lm w w.heap.size A n ca xs) (hB : Lm w w.heap.size B m cb ys) :
    Calls Tryz.prog 18 #[fv nn A n ca dn B m cb] w fun e w' => e = .returned (.int .i64 (fchk nn xs dn ys)) ∧ Below w.heap.size w w' := by
  rcases chk_cases nn xs with hn | hn
  · rcases chk_cases dn ys with hd | hd
    · cases hdn : dn
      · subst hdn
        by_cases hz : ys = []
        · have e : fchk nn xs false ys = 8 := by unfold fchk; rw [if_neg (fun h => h.2.2.2.1 hz)]
          rw [e]
          exact rfcheck_zero w nn false A B n m ca cb xs ys hA hB hn hd rfl hz
        · refine rfcheck_gcd w nn false A B n m ca cb xs ys hA hB hn hd rfl hz _ rfl _ ?_
          unfold fchk
          by_cases hg : Nat.gcd (val xs) (val ys) = 1
          · rw [if_pos ⟨hn, hd, rfl, hz, hg⟩, if_pos hg]
          · rw [if_neg (fun h => hg h.2.2.2.2), if_neg hg]
      · subst hdn
        have e : fchk nn xs true ys = 8 := by unfold fchk; rw [if_neg (fun h => by cases h.2.2.1)]
        rw [e]
        exact rfcheck_neg w nn true A B n m ca cb xs ys hA hB hn hd rfl
    · have e : fchk nn xs dn ys = 8 := by unfold fchk; rw [if_neg (fun h => by have := h.2.1; omega)]
      rw [e]
      exact rfcheck_dbad w nn dn A B n m ca cb xs ys hA hB hn hd
  · have e : fchk nn xs dn ys = 8 := by unfold fchk; rw [if_neg (fun h => by have := h.1; omega)]
    rw [e]
    exact rfcheck_nbad w nn dn A B n m ca cb xs ys hA hB hn
end Go.Proofs.YtoigmcggkanncaaGreatDoor

/- The reference for fractions: Reduced. -/
namespace Go.Proofs.YtoigmcggkanncaaGreatDoor
open Go.RowKit

section
variable (w : World) (A B : Option Addr) (n m ca cb k : Nat) (x y : Int) (hA : Lm w w.heap.size A n ca (digs x.natAbs)) (hB : Lm w w.heap.size B m cb (digs y.natAbs)) (hx : Sz k x) (hy : Sz k y) (hk : k ≤ 2000) {na nb : Bool} (ha : decide (x < 0) = na) (hb : decide (y < 0) = nb)
include hA hx hk ha
theorem rneg_n2 : Calls Tryz.prog 146 #[.agg #[.bool na, .slice A n ca]] w (RN w (-x)) := by
  have hc := chk_z hx (show k ≤ 4096 by omega)
  rw [ha] at hc
  have h := rneg_ok w na A n ca _ hA hc
  refine h.mono fun e w' hr => ?_
  have hl : (digs x.natAbs).length ≤ 4096 := Nat.le_trans hx.len (by omega)
  have hr2 := rw_rn hl hr
  have e1 : toI (!na) x.natAbs = -x := by
    subst ha
    unfold toI
    by_cases h : x < 0
    · rw [decide_eq_true h]; simp; omega
    · rw [decide_eq_false h]; simp; omega
  rw [e1] at hr2
  exact hr2
include hB hy hb
theorem rgcd_n2 : Calls Tryz.prog 56 #[.agg #[.bool na, .slice A n ca], .agg #[.bool nb, .slice B m cb]] w fun e w' => ∃ A' n' c', e = .returned (.tuple #[.agg #[.bool false, .slice A' n' c'], .int .i64 0]) ∧ Lm w' w'.heap.size A' n' c' (digs (Nat.gcd x.natAbs y.natAbs)) ∧ Below w.heap.size w w' := by
  subst ha hb
  have hxl : (digs x.natAbs).length ≤ 4096 := Nat.le_trans hx.len (by omega)
  have hyl : (digs y.natAbs).length ≤ 4096 := Nat.le_trans hy.len (by omega)
  have h := rgcd_ok w _ _ A B n m ca cb _ _ hA hB (chkB_z hx (by omega) hy (by omega))
  have hgl : (digs (Nat.gcd x.natAbs y.natAbs)).length ≤ 4096 := by
    rcases Nat.eq_zero_or_pos x.natAbs with h0 | h0
    · rw [h0, Nat.gcd_zero_left]; exact hyl
    · exact Nat.le_trans (digs_mono (Nat.gcd_le_left _ h0)) hxl
  refine h.mono fun e w' hr => ?_
  obtain ⟨A', n', c', he, hL, hb⟩ := rw_rn (neg := false) hgl hr
  have e1 : decide (toI false (Nat.gcd x.natAbs y.natAbs) < 0) = false := by unfold toI; simp
  rw [e1] at he
  have e2 : (toI false (Nat.gcd x.natAbs y.natAbs)).natAbs = Nat.gcd x.natAbs y.natAbs := toI_abs _ _
  rw [e2] at hL
  exact ⟨A', n', c', he, hL, hb⟩
end

set_option maxRecDepth 100000 in
set_option maxHeartbeats 2000000 in
theorem rreduced_pos (w : World) (A B : Option Addr) (n m ca cb k : Nat) (x y : Int) (hA : Lm w w.heap.size A n ca (digs x.natAbs)) (hB : Lm w w.heap.size B m cb (digs y.natAbs)) (hx : Sz k x) (hy : Sz k y) (hk : k ≤ 2000) {na nb : Bool} (ha : decide (x < 0) = na) (hb : decide (y < 0) = nb) (hs : 0 < y) :
    Calls Tryz.prog 117 #[.agg #[.bool na, .slice A n ca], .agg #[.bool nb, .slice B m cb]] w (RFr w (x / dvr x y) (y / dvr x y)) := by
  have HA := Lib.hid hA
  have HB := Lib.hid hB
  have HX := Lib.hid hx
  have HY := Lib.hid hy
  have HC := Lib.hid hs
  obtain rfl : nb = false := by rw [← hb]; exact decide_eq_false (by omega)
  have HNa := Lib.hid ha
  have HNb := Lib.hid hb
  clear hA hB hx hy ha hb hs
  go_enter Tryz.func117, Tryz.ntmps117
  go_wp2_with fail
  refine (rgcd_n2 _ A B n m ca cb k x y (((HA.out.box _).box _).box _) (((HB.out.box _).box _).box _) HX.out HY.out hk HNa.out HNb.out).mono ?_
  rintro e w1 ⟨A1, n1, c1, rfl, hL1, hb1⟩
  have PA := Lib.hid (((((Pr.new w _ rfl (.bool na) (.slice A n ca) 24).alloc (.cells #[.bool false, .slice B m cb] 24)).alloc (.cells #[.bool false, .slice none 0 0, .bool false, .slice none 0 0] 29)).via hb1).alloc (.cells #[.bool false, .slice A1 n1 c1] 24))
  have PB := Lib.hid ((((Pr.new (w.alloc (.cells #[.bool na, .slice A n ca] 24)) (w.heap.size + 1) (by simp) (.bool false) (.slice B m cb) 24).alloc (.cells #[.bool false, .slice none 0 0, .bool false, .slice none 0 0] 29)).via hb1).alloc (.cells #[.bool false, .slice A1 n1 c1] 24))
  have QR := Lib.hid (((Qd.new ((w.alloc (.cells #[.bool na, .slice A n ca] 24)).alloc (.cells #[.bool false, .slice B m cb] 24)) (w.heap.size + 1 + 1) (by simp) (.bool false) (.slice none 0 0) (.bool false) (.slice none 0 0) 29).via hb1).alloc (.cells #[.bool false, .slice A1 n1 c1] 24))
  have PG := Lib.hid (Pr.new w1 _ rfl (.bool false) (.slice A1 n1 c1) 24)
  have LA := Lib.hid (((((HA.out.box _).box _).box _).via hb1).box (.cells #[.bool false, .slice A1 n1 c1] 24))
  have LB := Lib.hid (((((HB.out.box _).box _).box _).via hb1).box (.cells #[.bool false, .slice A1 n1 c1] 24))
  have L1 := Lib.hid (hL1.box (.cells #[.bool false, .slice A1 n1 c1] 24))
  have B1 := Lib.hid ((bbox (bbox (bbox hb1))).alloc (bbox (bbox (bbox hb1))).size (.cells #[.bool false, .slice A1 n1 c1] 24))
  have ⟨x0, x1, _, _, xl⟩ := ((((Pr.new w _ rfl (.bool na) (.slice A n ca) 24).alloc (.cells #[.bool false, .slice B m cb] 24)).alloc (.cells #[.bool false, .slice none 0 0, .bool false, .slice none 0 0] 29)).via hb1)
  have hg : w.heap.size + 1 + 1 < w1.heap.size := by have := hb1.size; simp only [World.size_alloc] at this; omega
  have ⟨y0, y1, _, _, yl⟩ := (((Pr.new (w.alloc (.cells #[.bool na, .slice A n ca] 24)) (w.heap.size + 1) (by simp) (.bool false) (.slice B m cb) 24).alloc (.cells #[.bool false, .slice none 0 0, .bool false, .slice none 0 0] 29)).via hb1)
  clear hb1 hL1 HA HB
  go_wp2_with fail
  clear y0 y1 yl x0 x1 xl
  generalize w1.alloc (.cells #[.bool false, .slice A1 n1 c1] 24) = W1 at *
  generalize w1.heap.size = g at *
  have HD : Hid (decide (dvr x y < 0) = false) := by
    show _ = _
    have := HC.out
    unfold dvr
    rw [if_neg (by omega)]
    simp
  have LC : Hid (Lm W1 W1.heap.size A1 n1 c1 (digs (dvr x y).natAbs)) := by
    have := HC.out
    have e : (dvr x y).natAbs = Nat.gcd x.natAbs y.natAbs := by unfold dvr; rw [if_neg (by omega)]; rfl
    rw [e]
    exact L1.out
  have BL := Lib.hid B1.out
  clear L1 B1
  refine (rdiv_x _ A A1 n n1 ca c1 k x (dvr x y) (x / dvr x y) LA.out LC.out HX.out (sz_dvr HY.out (by have := HC.out; omega)) hk (dvr_ne (by have := HC.out; omega)) (dvr_left x y) HNa.out HD.out).mono ?_
  rintro e w3 ⟨A3, n3, c3, g3, A4, n4, c4, rfl, hL3, hb3⟩
  obtain ⟨np, hnp⟩ : ∃ b, decide (x / dvr x y < 0) = b := ⟨_, rfl⟩
  rw [hnp]
  have HNp := Lib.hid hnp
  have P7 := Lib.hid ((Pr.new w3 _ rfl (.bool np) (.slice A3 n3 c3) 24).alloc (.cells #[.bool g3, .slice A4 n4 c4] 24))
  have KB := Lib.hid (((PB.out.via hb3).alloc (.cells #[.bool np, .slice A3 n3 c3] 24)).alloc (.cells #[.bool g3, .slice A4 n4 c4] 24))
  have KG := Lib.hid (((PG.out.via hb3).alloc (.cells #[.bool np, .slice A3 n3 c3] 24)).alloc (.cells #[.bool g3, .slice A4 n4 c4] 24))
  have KR := Lib.hid (((QR.out.via hb3).alloc (.cells #[.bool np, .slice A3 n3 c3] 24)).alloc (.cells #[.bool g3, .slice A4 n4 c4] 24))
  have ML := Lib.hid (((LB.out.via hb3).box (.cells #[.bool np, .slice A3 n3 c3] 24)).box (.cells #[.bool g3, .slice A4 n4 c4] 24))
  have MC := Lib.hid (((LC.out.via hb3).box (.cells #[.bool np, .slice A3 n3 c3] 24)).box (.cells #[.bool g3, .slice A4 n4 c4] 24))
  have M3 := Lib.hid ((hL3.box (.cells #[.bool np, .slice A3 n3 c3] 24)).box (.cells #[.bool g3, .slice A4 n4 c4] 24))
  have B3 := Lib.hid (((BL.out.trans (hb3.mono BL.out.size)).alloc (BL.out.trans (hb3.mono BL.out.size)).size (.cells #[.bool np, .slice A3 n3 c3] 24)).alloc ((BL.out.trans (hb3.mono BL.out.size)).alloc (BL.out.trans (hb3.mono BL.out.size)).size (.cells #[.bool np, .slice A3 n3 c3] 24)).size (.cells #[.bool g3, .slice A4 n4 c4] 24))
  have ⟨b0, b1, _, _, bl⟩ := KB.out
  have ⟨p0, p1, _, _, pl⟩ := KG.out
  clear hnp hb3 hL3 PA PB PG QR LA LB LC BL
  go_wp2_with fail
  clear b0 b1 bl p0 p1 pl
  generalize (w3.alloc (.cells #[.bool np, .slice A3 n3 c3] 24)).alloc (.cells #[.bool g3, .slice A4 n4 c4] 24) = W3 at *
  generalize w3.heap.size = h3 at *
  refine (rdiv_x _ B A1 m n1 cb c1 k y (dvr x y) (y / dvr x y) ML.out MC.out HY.out (sz_dvr HY.out (by have := HC.out; omega)) hk (dvr_ne (by have := HC.out; omega)) (dvr_right x y) HNb.out HD.out).mono ?_
  rintro e w4 ⟨A5, n5, c5, g5, A6, n6, c6, rfl, hL5, hb5⟩
  obtain ⟨nq, hnq⟩ : ∃ b, decide (y / dvr x y < 0) = b := ⟨_, rfl⟩
  rw [hnq]
  have HNq := Lib.hid hnq
  have PQ := Lib.hid ((Pr.new w4 _ rfl (.bool nq) (.slice A5 n5 c5) 24).alloc (.cells #[.bool g5, .slice A6 n6 c6] 24))
  have P7' := Lib.hid (((P7.out.via hb5).alloc (.cells #[.bool nq, .slice A5 n5 c5] 24)).alloc (.cells #[.bool g5, .slice A6 n6 c6] 24))
  have QR := Lib.hid (((KR.out.via hb5).alloc (.cells #[.bool nq, .slice A5 n5 c5] 24)).alloc (.cells #[.bool g5, .slice A6 n6 c6] 24))
  have M5 := Lib.hid ((hL5.box (.cells #[.bool nq, .slice A5 n5 c5] 24)).box (.cells #[.bool g5, .slice A6 n6 c6] 24))
  have M7 := Lib.hid (((M3.out.via hb5).box (.cells #[.bool nq, .slice A5 n5 c5] 24)).box (.cells #[.bool g5, .slice A6 n6 c6] 24))
  have B5 := Lib.hid (((B3.out.trans (hb5.mono B3.out.size)).alloc (B3.out.trans (hb5.mono B3.out.size)).size (.cells #[.bool nq, .slice A5 n5 c5] 24)).alloc ((B3.out.trans (hb5.mono B3.out.size)).alloc (B3.out.trans (hb5.mono B3.out.size)).size (.cells #[.bool nq, .slice A5 n5 c5] 24)).size (.cells #[.bool g5, .slice A6 n6 c6] 24))
  have ⟨s0, s1, _, _, sl⟩ := P7'.out
  have ⟨u0, u1, _, _, ul⟩ := PQ.out
  have ⟨r0, r1, r2, r3, rf0, rf1, rf2, rf3, rl⟩ := QR.out
  clear hnq hb5 hL5 P7 KB KG KR ML MC M3 B3
  go_wp2
  exact post_f1 Tryz.results117 rfl rfl (QR.out.set (.bool np) (.slice A3 n3 c3) (.bool nq) (.slice A5 n5 c5)) ⟨A3, n3, c3, A5, n5, c5, by rw [HNp.out, HNq.out], M7.out.put4 QR.out _ _ _ _, M5.out.put4 QR.out _ _ _ _, below_put4 B5.out (by omega) _ _ _ _⟩
set_option maxRecDepth 100000 in
set_option maxHeartbeats 2000000 in
theorem rreduced_neg (w : World) (A B : Option Addr) (n m ca cb k : Nat) (x y : Int) (hA : Lm w w.heap.size A n ca (digs x.natAbs)) (hB : Lm w w.heap.size B m cb (digs y.natAbs)) (hx : Sz k x) (hy : Sz k y) (hk : k ≤ 2000) {na nb : Bool} (ha : decide (x < 0) = na) (hb : decide (y < 0) = nb) (hs : y < 0) :
    Calls Tryz.prog 117 #[.agg #[.bool na, .slice A n ca], .agg #[.bool nb, .slice B m cb]] w (RFr w (x / dvr x y) (y / dvr x y)) := by
  have HA := Lib.hid hA
  have HB := Lib.hid hB
  have HX := Lib.hid hx
  have HY := Lib.hid hy
  have HC := Lib.hid hs
  obtain rfl : nb = true := by rw [← hb]; exact decide_eq_true hs
  have HNa := Lib.hid ha
  have HNb := Lib.hid hb
  clear hA hB hx hy ha hb hs
  go_enter Tryz.func117, Tryz.ntmps117
  go_wp2_with fail
  refine (rgcd_n2 _ A B n m ca cb k x y (((HA.out.box _).box _).box _) (((HB.out.box _).box _).box _) HX.out HY.out hk HNa.out HNb.out).mono ?_
  rintro e w1 ⟨A1, n1, c1, rfl, hL1, hb1⟩
  have PA := Lib.hid (((((Pr.new w _ rfl (.bool na) (.slice A n ca) 24).alloc (.cells #[.bool true, .slice B m cb] 24)).alloc (.cells #[.bool false, .slice none 0 0, .bool false, .slice none 0 0] 29)).via hb1).alloc (.cells #[.bool false, .slice A1 n1 c1] 24))
  have PB := Lib.hid ((((Pr.new (w.alloc (.cells #[.bool na, .slice A n ca] 24)) (w.heap.size + 1) (by simp) (.bool true) (.slice B m cb) 24).alloc (.cells #[.bool false, .slice none 0 0, .bool false, .slice none 0 0] 29)).via hb1).alloc (.cells #[.bool false, .slice A1 n1 c1] 24))
  have QR := Lib.hid (((Qd.new ((w.alloc (.cells #[.bool na, .slice A n ca] 24)).alloc (.cells #[.bool true, .slice B m cb] 24)) (w.heap.size + 1 + 1) (by simp) (.bool false) (.slice none 0 0) (.bool false) (.slice none 0 0) 29).via hb1).alloc (.cells #[.bool false, .slice A1 n1 c1] 24))
  have PG := Lib.hid (Pr.new w1 _ rfl (.bool false) (.slice A1 n1 c1) 24)
  have LA := Lib.hid (((((HA.out.box _).box _).box _).via hb1).box (.cells #[.bool false, .slice A1 n1 c1] 24))
  have LB := Lib.hid (((((HB.out.box _).box _).box _).via hb1).box (.cells #[.bool false, .slice A1 n1 c1] 24))
  have L1 := Lib.hid (hL1.box (.cells #[.bool false, .slice A1 n1 c1] 24))
  have B1 := Lib.hid ((bbox (bbox (bbox hb1))).alloc (bbox (bbox (bbox hb1))).size (.cells #[.bool false, .slice A1 n1 c1] 24))
  have ⟨x0, x1, _, _, xl⟩ := ((((Pr.new w _ rfl (.bool na) (.slice A n ca) 24).alloc (.cells #[.bool true, .slice B m cb] 24)).alloc (.cells #[.bool false, .slice none 0 0, .bool false, .slice none 0 0] 29)).via hb1)
  have hg : w.heap.size + 1 + 1 < w1.heap.size := by have := hb1.size; simp only [World.size_alloc] at this; omega
  have ⟨y0, y1, _, _, yl⟩ := (((Pr.new (w.alloc (.cells #[.bool na, .slice A n ca] 24)) (w.heap.size + 1) (by simp) (.bool true) (.slice B m cb) 24).alloc (.cells #[.bool false, .slice none 0 0, .bool false, .slice none 0 0] 29)).via hb1)
  clear hb1 hL1 HA HB
  go_wp2_with fail
  clear y0 y1 yl x0 x1 xl
  generalize w1.alloc (.cells #[.bool false, .slice A1 n1 c1] 24) = W1 at *
  generalize w1.heap.size = g at *
  have hg0 : Sz k (Nat.gcd x.natAbs y.natAbs : Int) := sz_gcd2 HY.out (by have := HC.out; omega)
  have HG := Lib.hid hg0
  have hdg : decide ((Nat.gcd x.natAbs y.natAbs : Int) < 0) = false := by simp
  have HDG := Lib.hid hdg
  have HD : Hid (decide (-(Nat.gcd x.natAbs y.natAbs : Int) < 0) = true) := by
    show _ = _
    have := HC.out
    have h : 0 < Nat.gcd x.natAbs y.natAbs := Nat.gcd_pos_of_pos_right _ (by omega)
    simp
    omega
  have HE : Hid (dvr x y = -(Nat.gcd x.natAbs y.natAbs : Int)) := by
    show _ = _
    have := HC.out
    unfold dvr
    rw [if_pos this]
  clear hg0 hdg
  refine (rneg_n2 _ A1 n1 c1 k (Nat.gcd x.natAbs y.natAbs : Int) L1.out HG.out hk HDG.out).mono ?_
  rintro e w2 ⟨A2, n2, c2, rfl, hL2, hb2⟩
  rw [HD.out]
  rw [← HE.out] at hL2 HD
  have P6 := PG.out.via hb2
  have KA := Lib.hid ((PA.out.via hb2).far (h := g) (by omega) (.bool true) (.slice A2 n2 c2))
  have KB := Lib.hid ((PB.out.via hb2).far (h := g) (by omega) (.bool true) (.slice A2 n2 c2))
  have KR := Lib.hid ((QR.out.via hb2).far2 (h := g) (x := .bool true) (y := .slice A2 n2 c2) (by omega))
  have ML := Lib.hid ((LA.out.via hb2).setP P6 (.bool true) (.slice A2 n2 c2))
  have MB := Lib.hid ((LB.out.via hb2).setP P6 (.bool true) (.slice A2 n2 c2))
  have LC := Lib.hid (hL2.setP P6 (.bool true) (.slice A2 n2 c2))
  have KG := Lib.hid (P6.set (.bool true) (.slice A2 n2 c2))
  have BL := Lib.hid (below_set2 (B1.out.trans (hb2.mono B1.out.size)) (g := g) (by omega) (.bool true) (.slice A2 n2 c2))
  have ⟨p0, p1, pf0, pf1, pl⟩ := P6
  have ⟨a0, a1, _, _, al⟩ := PA.out.via hb2
  clear hL2 hb2 PA PB QR LA LB L1 PG B1 P6
  go_wp2_with fail
  clear p0 p1 pf0 pf1 pl a0 a1 al
  generalize (w2.setCell ⟨g, 0, none⟩ (.bool true)).setCell ⟨g, 1, none⟩ (.slice A2 n2 c2) = W2 at *
  have PA := KA
  have PB := KB
  have QR := KR
  have LA := ML
  have LB := MB
  have PG := KG
  clear KA KB KR ML MB KG
  refine (rdiv_x _ A A2 n n2 ca c2 k x (dvr x y) (x / dvr x y) LA.out LC.out HX.out (sz_dvr HY.out (by have := HC.out; omega)) hk (dvr_ne (by have := HC.out; omega)) (dvr_left x y) HNa.out HD.out).mono ?_
  rintro e w3 ⟨A3, n3, c3, g3, A4, n4, c4, rfl, hL3, hb3⟩
  obtain ⟨np, hnp⟩ : ∃ b, decide (x / dvr x y < 0) = b := ⟨_, rfl⟩
  rw [hnp]
  have HNp := Lib.hid hnp
  have P7 := Lib.hid ((Pr.new w3 _ rfl (.bool np) (.slice A3 n3 c3) 24).alloc (.cells #[.bool g3, .slice A4 n4 c4] 24))
  have KB := Lib.hid (((PB.out.via hb3).alloc (.cells #[.bool np, .slice A3 n3 c3] 24)).alloc (.cells #[.bool g3, .slice A4 n4 c4] 24))
  have KG := Lib.hid (((PG.out.via hb3).alloc (.cells #[.bool np, .slice A3 n3 c3] 24)).alloc (.cells #[.bool g3, .slice A4 n4 c4] 24))
  have KR := Lib.hid (((QR.out.via hb3).alloc (.cells #[.bool np, .slice A3 n3 c3] 24)).alloc (.cells #[.bool g3, .slice A4 n4 c4] 24))
  have ML := Lib.hid (((LB.out.via hb3).box (.cells #[.bool np, .slice A3 n3 c3] 24)).box (.cells #[.bool g3, .slice A4 n4 c4] 24))
  have MC := Lib.hid (((LC.out.via hb3).box (.cells #[.bool np, .slice A3 n3 c3] 24)).box (.cells #[.bool g3, .slice A4 n4 c4] 24))
  have M3 := Lib.hid ((hL3.box (.cells #[.bool np, .slice A3 n3 c3] 24)).box (.cells #[.bool g3, .slice A4 n4 c4] 24))
  have B3 := Lib.hid (((BL.out.trans (hb3.mono BL.out.size)).alloc (BL.out.trans (hb3.mono BL.out.size)).size (.cells #[.bool np, .slice A3 n3 c3] 24)).alloc ((BL.out.trans (hb3.mono BL.out.size)).alloc (BL.out.trans (hb3.mono BL.out.size)).size (.cells #[.bool np, .slice A3 n3 c3] 24)).size (.cells #[.bool g3, .slice A4 n4 c4] 24))
  have ⟨b0, b1, _, _, bl⟩ := KB.out
  have ⟨p0, p1, _, _, pl⟩ := KG.out
  clear hnp hb3 hL3 PA PB PG QR LA LB LC BL
  go_wp2_with fail
  clear b0 b1 bl p0 p1 pl
  generalize (w3.alloc (.cells #[.bool np, .slice A3 n3 c3] 24)).alloc (.cells #[.bool g3, .slice A4 n4 c4] 24) = W3 at *
  generalize w3.heap.size = h3 at *
  refine (rdiv_x _ B A2 m n2 cb c2 k y (dvr x y) (y / dvr x y) ML.out MC.out HY.out (sz_dvr HY.out (by have := HC.out; omega)) hk (dvr_ne (by have := HC.out; omega)) (dvr_right x y) HNb.out HD.out).mono ?_
  rintro e w4 ⟨A5, n5, c5, g5, A6, n6, c6, rfl, hL5, hb5⟩
  obtain ⟨nq, hnq⟩ : ∃ b, decide (y / dvr x y < 0) = b := ⟨_, rfl⟩
  rw [hnq]
  have HNq := Lib.hid hnq
  have PQ := Lib.hid ((Pr.new w4 _ rfl (.bool nq) (.slice A5 n5 c5) 24).alloc (.cells #[.bool g5, .slice A6 n6 c6] 24))
  have P7' := Lib.hid (((P7.out.via hb5).alloc (.cells #[.bool nq, .slice A5 n5 c5] 24)).alloc (.cells #[.bool g5, .slice A6 n6 c6] 24))
  have QR := Lib.hid (((KR.out.via hb5).alloc (.cells #[.bool nq, .slice A5 n5 c5] 24)).alloc (.cells #[.bool g5, .slice A6 n6 c6] 24))
  have M5 := Lib.hid ((hL5.box (.cells #[.bool nq, .slice A5 n5 c5] 24)).box (.cells #[.bool g5, .slice A6 n6 c6] 24))
  have M7 := Lib.hid (((M3.out.via hb5).box (.cells #[.bool nq, .slice A5 n5 c5] 24)).box (.cells #[.bool g5, .slice A6 n6 c6] 24))
  have B5 := Lib.hid (((B3.out.trans (hb5.mono B3.out.size)).alloc (B3.out.trans (hb5.mono B3.out.size)).size (.cells #[.bool nq, .slice A5 n5 c5] 24)).alloc ((B3.out.trans (hb5.mono B3.out.size)).alloc (B3.out.trans (hb5.mono B3.out.size)).size (.cells #[.bool nq, .slice A5 n5 c5] 24)).size (.cells #[.bool g5, .slice A6 n6 c6] 24))
  have ⟨s0, s1, _, _, sl⟩ := P7'.out
  have ⟨u0, u1, _, _, ul⟩ := PQ.out
  have ⟨r0, r1, r2, r3, rf0, rf1, rf2, rf3, rl⟩ := QR.out
  clear hnq hb5 hL5 P7 KB KG KR ML MC M3 B3
  go_wp2
  exact post_f1 Tryz.results117 rfl rfl (QR.out.set (.bool np) (.slice A3 n3 c3) (.bool nq) (.slice A5 n5 c5)) ⟨A3, n3, c3, A5, n5, c5, by rw [HNp.out, HNq.out], M7.out.put4 QR.out _ _ _ _, M5.out.put4 QR.out _ _ _ _, below_put4 B5.out (by omega) _ _ _ _⟩
end Go.Proofs.YtoigmcggkanncaaGreatDoor

/- Make and Of on both sides. -/
namespace Go.Proofs.YtoigmcggkanncaaGreatDoor
open Go.RowKit

/-- A call returns a fraction that reads so, and an error; what was there is kept. -/
def RG (w : World) (np : Bool) (xs : List Nat) (nq : Bool) (ys : List Nat) (err : Int) (e : Ending) (w' : World) : Prop := ∃ A n c B m c', e = .returned (.tuple #[fv np A n c nq B m c', .int .i64 err]) ∧ Lm w' w'.heap.size A n c xs ∧ Lm w' w'.heap.size B m c' ys ∧ Below w.heap.size w w'
theorem rfe_rg {w : World} {p q : Int} {e : Ending} {w' : World} (h : RFE w p q e w') : RG w (decide (p < 0)) (digs p.natAbs) (decide (q < 0)) (digs q.natAbs) 0 e w' := h
theorem rfx_rg {w : World} {x : Int} {e : Ending} {w' : World} (h : RFX w x e w') : RG w false [] false [] x e w' := ⟨none, 0, 0, none, 0, 0, h.1, Lm.nil _ _, Lm.nil _ _, h.2⟩

set_option maxRecDepth 100000 in
set_option maxHeartbeats 1000000 in
theorem make_g (w : World) (na nb : Bool) (A B : Option Addr) (n m ca cb : Nat) (xs ys : List Nat) (hA : Lm w w.heap.size A n ca xs) (hB : Lm w w.heap.size B m cb ys) (np nq : Bool) (l1 l2 : List Nat) (err : Int)
    (H : ∀ W, Lm W W.heap.size A n ca xs → Lm W W.heap.size B m cb ys → Calls Tryz.prog 45 #[.func (.func 48) #[fv na A n ca nb B m cb] #[]] W (RG W np l1 nq l2 err)) :
    Calls Tryz.prog 41 #[.agg #[.bool na, .slice A n ca], .agg #[.bool nb, .slice B m cb]] w (RG w np l1 nq l2 err) := by
  have hmf : ∀ (fn : Fn) (first cap : Array Value) (w : World), (Instr.makeFunc fn first cap).run Tryz.prog w = .ok (.func fn first cap) w := fun _ _ _ _ => rfl
  have HH := Lib.hid H
  have HA := Lib.hid hA
  have HB := Lib.hid hB
  clear H hA hB
  go_enter Tryz.func41, Tryz.ntmps41
  go_wp2_with fail
  refine (HH.out _ (((HA.out.box _).box _).box _) (((HB.out.box _).box _).box _)).mono ?_
  rintro e w1 ⟨A1, n1, c1, B1, m1, d1, rfl, hL, hM, hb⟩
  have Q := Lib.hid ((Qd.new ((w.alloc (.cells #[.bool na, .slice A n ca] 24)).alloc (.cells #[.bool nb, .slice B m cb] 24)) (w.heap.size + 1 + 1) (by simp) (.bool false) (.slice none 0 0) (.bool false) (.slice none 0 0) 29).via hb)
  have L1 := Lib.hid hL
  have M1 := Lib.hid hM
  have BB := Lib.hid (bbox (bbox (bbox hb)))
  have ⟨q0, q1, q2, q3, f0, f1, f2, f3, ql⟩ := Q.out
  clear hL hM hb
  go_wp2
  exact post_f Tryz.results41 rfl rfl (Q.out.set (.bool np) (.slice A1 n1 c1) (.bool nq) (.slice B1 m1 d1)) ⟨A1, n1, c1, B1, m1, d1, rfl, L1.out.put4 Q.out _ _ _ _, M1.out.put4 Q.out _ _ _ _, below_put4 BB.out (by omega) _ _ _ _⟩

set_option maxRecDepth 100000 in
set_option maxHeartbeats 1000000 in
theorem of_g (w : World) (a b : Int) (ha1 : -9223372036854775808 ≤ a) (ha2 : a ≤ 9223372036854775807) (hb1 : -9223372036854775808 ≤ b) (hb2 : b ≤ 9223372036854775807) (np nq : Bool) (l1 l2 : List Nat) (err : Int)
    (H : ∀ W (A B : Option Addr) (n m ca cb : Nat), Lm W W.heap.size A n ca (digs a.natAbs) → Lm W W.heap.size B m cb (digs b.natAbs) → Calls Tryz.prog 41 #[.agg #[.bool (decide (a < 0)), .slice A n ca], .agg #[.bool (decide (b < 0)), .slice B m cb]] W (RG W np l1 nq l2 err)) :
    Calls Tryz.prog 10 #[.int .i64 a, .int .i64 b] w (RG w np l1 nq l2 err) := by
  obtain ⟨na, hna⟩ : ∃ z, decide (a < 0) = z := ⟨_, rfl⟩
  obtain ⟨nb, hnb⟩ : ∃ z, decide (b < 0) = z := ⟨_, rfl⟩
  rw [hna, hnb] at H
  have HNa := Lib.hid hna
  have HNb := Lib.hid hnb
  have HH := Lib.hid H
  clear H hna hnb
  go_enter Tryz.func10, Tryz.ntmps10
  go_wp2_with fail
  refine (from_any _ a ha1 ha2).mono ?_
  rintro e w1 ⟨A1, n1, c1, rfl, hL1, h1⟩
  rw [HNa.out]
  have Q := Lib.hid ((Qd.new w _ rfl (.bool false) (.slice none 0 0) (.bool false) (.slice none 0 0) 29).via h1)
  have L1 := Lib.hid hL1
  have B1 := Lib.hid (bbox h1)
  clear hL1 h1
  go_wp2_with fail
  refine (from_any _ b hb1 hb2).mono ?_
  rintro e w2 ⟨A2, n2, c2, rfl, hL2, h2⟩
  rw [HNb.out]
  have Q2 := Lib.hid (Q.out.via h2)
  have L12 := Lib.hid (L1.out.via h2)
  have L2 := Lib.hid hL2
  have B2 := Lib.hid (btr B1.out h2)
  clear hL2 h2 Q L1 B1
  go_wp2_with fail
  refine (HH.out _ _ _ _ _ _ _ L12.out L2.out).mono ?_
  rintro e w3 ⟨A3, n3, c3, B3, m3, d3, rfl, hL3, hM3, h3⟩
  have Q := Lib.hid (Q2.out.via h3)
  have L3 := Lib.hid hL3
  have M3 := Lib.hid hM3
  have BB := Lib.hid (btr B2.out h3)
  have ⟨q0, q1, q2, q3, f0, f1, f2, f3, ql⟩ := Q.out
  clear hL3 hM3 h3 Q2 L12 L2 B2
  go_wp2
  exact post_f Tryz.results10 rfl rfl (Q.out.set (.bool np) (.slice A3 n3 c3) (.bool nq) (.slice B3 m3 d3)) ⟨A3, n3, c3, B3, m3, d3, rfl, L3.out.put4 Q.out _ _ _ _, M3.out.put4 Q.out _ _ _ _, below_put4 BB.out (Nat.le_refl _) _ _ _ _⟩

set_option maxRecDepth 100000 in
set_option maxHeartbeats 1000000 in
theorem rof_g (w : World) (a b : Int) (ha1 : -9223372036854775808 ≤ a) (ha2 : a ≤ 9223372036854775807) (hb1 : -9223372036854775808 ≤ b) (hb2 : b ≤ 9223372036854775807) (np nq : Bool) (l1 l2 : List Nat) (err : Int)
    (H : ∀ W (A B : Option Addr) (n m ca cb : Nat), Lm W W.heap.size A n ca (digs a.natAbs) → Lm W W.heap.size B m cb (digs b.natAbs) → Calls Tryz.prog 76 #[.agg #[.bool (decide (a < 0)), .slice A n ca], .agg #[.bool (decide (b < 0)), .slice B m cb]] W (RG W np l1 nq l2 err)) :
    Calls Tryz.prog 40 #[.int .i64 a, .int .i64 b] w (RG w np l1 nq l2 err) := by
  obtain ⟨na, hna⟩ : ∃ z, decide (a < 0) = z := ⟨_, rfl⟩
  obtain ⟨nb, hnb⟩ : ∃ z, decide (b < 0) = z := ⟨_, rfl⟩
  rw [hna, hnb] at H
  have HNa := Lib.hid hna
  have HNb := Lib.hid hnb
  have HH := Lib.hid H
  clear H hna hnb
  go_enter Tryz.func40, Tryz.ntmps40
  go_wp2_with fail
  refine (rfrom_any _ a ha1 ha2).mono ?_
  rintro e w1 ⟨A1, n1, c1, rfl, hL1, h1⟩
  rw [HNa.out]
  have Q := Lib.hid ((Qd.new w _ rfl (.bool false) (.slice none 0 0) (.bool false) (.slice none 0 0) 29).via h1)
  have L1 := Lib.hid hL1
  have B1 := Lib.hid (bbox h1)
  clear hL1 h1
  go_wp2_with fail
  refine (rfrom_any _ b hb1 hb2).mono ?_
  rintro e w2 ⟨A2, n2, c2, rfl, hL2, h2⟩
  rw [HNb.out]
  have Q2 := Lib.hid (Q.out.via h2)
  have L12 := Lib.hid (L1.out.via h2)
  have L2 := Lib.hid hL2
  have B2 := Lib.hid (btr B1.out h2)
  clear hL2 h2 Q L1 B1
  go_wp2_with fail
  refine (HH.out _ _ _ _ _ _ _ L12.out L2.out).mono ?_
  rintro e w3 ⟨A3, n3, c3, B3, m3, d3, rfl, hL3, hM3, h3⟩
  have Q := Lib.hid (Q2.out.via h3)
  have L3 := Lib.hid hL3
  have M3 := Lib.hid hM3
  have BB := Lib.hid (btr B2.out h3)
  have ⟨q0, q1, q2, q3, f0, f1, f2, f3, ql⟩ := Q.out
  clear hL3 hM3 h3 Q2 L12 L2 B2
  go_wp2
  exact post_f Tryz.results40 rfl rfl (Q.out.set (.bool np) (.slice A3 n3 c3) (.bool nq) (.slice B3 m3 d3)) ⟨A3, n3, c3, B3, m3, d3, rfl, L3.out.put4 Q.out _ _ _ _, M3.out.put4 Q.out _ _ _ _, below_put4 BB.out (Nat.le_refl _) _ _ _ _⟩

set_option maxRecDepth 100000 in
set_option maxHeartbeats 1000000 in
theorem rmake_ok (w : World) (na nb : Bool) (A B : Option Addr) (n m ca cb : Nat) (xs ys : List Nat) (hA : Lm w w.heap.size A n ca xs) (hB : Lm w w.heap.size B m cb ys) (hn : chk na xs = 0) (hd : chk nb ys = 0) (hz : ys ≠ []) (p q : Int) (H : ∀ W, Lm W W.heap.size A n ca xs → Lm W W.heap.size B m cb ys → Calls Tryz.prog 117 #[.agg #[.bool na, .slice A n ca], .agg #[.bool nb, .slice B m cb]] W (RFr W p q)) :
    Calls Tryz.prog 76 #[.agg #[.bool na, .slice A n ca], .agg #[.bool nb, .slice B m cb]] w (RG w (decide (p < 0)) (digs p.natAbs) (decide (q < 0)) (digs q.natAbs) 0) := by
  have HA := Lib.hid hA
  have HB := Lib.hid hB
  have hm0 : 0 < m := by
    rcases Nat.eq_zero_or_pos m with h | h
    · exact absurd (List.eq_nil_of_length_eq_zero (by rw [HB.out.len]; exact h)) hz
    · exact h
  have hmz : ((m : Int) == 0) = false := by simp; omega
  have hcc := HB.out.cap
  have hcx := HB.out.max
  have HH := Lib.hid H
  clear H hz
  have HN := Lib.hid hn
  have HD := Lib.hid hd
  clear hn hd
  clear hA hB
  go_enter Tryz.func76, Tryz.ntmps76
  go_wp2_with fail
  refine (rcheck_ok _ na A n ca xs (((HA.out.box _).box _).box _) HN.out).mono ?_
  rintro e w1 ⟨rfl, hb1⟩
  have PA := Lib.hid ((((Pr.new w _ rfl (.bool na) (.slice A n ca) 24).alloc (.cells #[.bool nb, .slice B m cb] 24)).alloc (.cells #[.bool false, .slice none 0 0, .bool false, .slice none 0 0] 29)).via hb1)
  have PB := Lib.hid (((Pr.new (w.alloc (.cells #[.bool na, .slice A n ca] 24)) (w.heap.size + 1) (by simp) (.bool nb) (.slice B m cb) 24).alloc (.cells #[.bool false, .slice none 0 0, .bool false, .slice none 0 0] 29)).via hb1)
  have QR := Lib.hid ((Qd.new ((w.alloc (.cells #[.bool na, .slice A n ca] 24)).alloc (.cells #[.bool nb, .slice B m cb] 24)) (w.heap.size + 1 + 1) (by simp) (.bool false) (.slice none 0 0) (.bool false) (.slice none 0 0) 29).via hb1)
  have LA := Lib.hid ((((HA.out.box _).box _).box _).via hb1)
  have LB := Lib.hid ((((HB.out.box _).box _).box _).via hb1)
  have B1 := Lib.hid (bbox (bbox (bbox hb1)))
  clear hb1 HA HB
  have ⟨b0, b1, _, _, bl⟩ := PB.out
  go_wp2_with fail
  refine (rcheck_ok _ nb B m cb ys LB.out HD.out).mono ?_
  rintro e w2 ⟨rfl, hb2⟩
  have PA2 := Lib.hid (PA.out.via hb2)
  have PB2 := Lib.hid (PB.out.via hb2)
  have QR2 := Lib.hid (QR.out.via hb2)
  have LA2 := Lib.hid (LA.out.via hb2)
  have LB2 := Lib.hid (LB.out.via hb2)
  have B2 := Lib.hid (btr B1.out hb2)
  clear hb2 PA PB QR LA LB B1 b0 b1 bl
  have QR := QR2
  have B1 := B2
  clear QR2 B2
  have ⟨a0, a1, _, _, al⟩ := PA2.out
  have ⟨b0, b1, _, _, bl⟩ := PB2.out
  go_wp2_with fail
  refine (HH.out _ LA2.out LB2.out).mono ?_
  rintro e w3 ⟨A3, n3, c3, B3, m3, d3, rfl, hL3, hM3, h3⟩
  obtain ⟨np, hnp⟩ : ∃ b, decide (p < 0) = b := ⟨_, rfl⟩
  obtain ⟨nq, hnq⟩ : ∃ b, decide (q < 0) = b := ⟨_, rfl⟩
  rw [hnp, hnq]
  have HNp := Lib.hid hnp
  have HNq := Lib.hid hnq
  have Q3 := Lib.hid (QR.out.via h3)
  have L3 := Lib.hid hL3
  have M3 := Lib.hid hM3
  have BB := Lib.hid (btr B1.out h3)
  have ⟨q0, q1, q2, q3, f0, f1, f2, f3, ql⟩ := Q3.out
  clear hL3 hM3 h3 hnp hnq a0 a1 al b0 b1 bl
  go_wp2
  exact post_f Tryz.results76 rfl rfl (Q3.out.set (.bool np) (.slice A3 n3 c3) (.bool nq) (.slice B3 m3 d3)) ⟨A3, n3, c3, B3, m3, d3, by rw [HNp.out, HNq.out]; rfl, L3.out.put4 Q3.out _ _ _ _, M3.out.put4 Q3.out _ _ _ _, below_put4 BB.out (by omega) _ _ _ _⟩

end Go.Proofs.YtoigmcggkanncaaGreatDoor

/- Package frac: product, known. -/
namespace Go.Proofs.YtoigmcggkanncaaGreatDoor
open Go.RowKit

/-- A call returns the number z. -/
def RVz (w : World) (z : Int) (e : Ending) (w' : World) : Prop := ∃ A n c, e = .returned (.agg #[.bool (decide (z < 0)), .slice A n c]) ∧ Lm w' w'.heap.size A n c (digs z.natAbs) ∧ Below w.heap.size w w'

set_option maxRecDepth 100000 in
set_option maxHeartbeats 1000000 in
theorem prod_n (w : World) (A B : Option Addr) (n m ca cb k : Nat) (x y : Int) (hA : Lm w w.heap.size A n ca (digs x.natAbs)) (hB : Lm w w.heap.size B m cb (digs y.natAbs)) (hx : Sz k x) (hy : Sz k y) (hk : k ≤ 2000) {na nb : Bool} (ha : decide (x < 0) = na) (hb : decide (y < 0) = nb) :
    Calls Tryz.prog 80 #[.agg #[.bool na, .slice A n ca], .agg #[.bool nb, .slice B m cb]] w (RVz w (x * y)) := by
  have HA := Lib.hid hA
  have HB := Lib.hid hB
  have HX := Lib.hid hx
  have HY := Lib.hid hy
  have HNa := Lib.hid ha
  have HNb := Lib.hid hb
  clear hA hB hx hy ha hb
  go_enter Tryz.func80, Tryz.ntmps80
  go_wp2_with fail
  refine (mul_n _ A B n m ca cb k x y (((HA.out.box _).box _).box _) (((HB.out.box _).box _).box _) HX.out HY.out hk HNa.out HNb.out).mono ?_
  rintro e w1 ⟨A1, n1, c1, rfl, hL1, hb1⟩
  have P := Lib.hid ((Pr.new ((w.alloc (.cells #[.bool na, .slice A n ca] 24)).alloc (.cells #[.bool nb, .slice B m cb] 24)) (w.heap.size + 1 + 1) (by simp) (.bool false) (.slice none 0 0) 24).via hb1)
  have L1 := Lib.hid hL1
  have B1 := Lib.hid (bbox (bbox (bbox hb1)))
  clear hL1 hb1
  obtain ⟨nz, hnz⟩ : ∃ b, decide (x * y < 0) = b := ⟨_, rfl⟩
  rw [hnz]
  have HNz := Lib.hid hnz
  clear hnz
  go_wp2_with fail
  refine (must_ok _ _ _ _ _).mono ?_
  rintro e w2 ⟨rfl, hb2⟩
  have P2 := P.out.via hb2
  have L2 := Lib.hid (L1.out.via hb2)
  have B2 := Lib.hid (btr B1.out hb2)
  have ⟨p0, p1, f0, f1, pl⟩ := P2
  clear hb2
  go_wp2
  exact post_w1 Tryz.results80 rfl rfl (P2.set _ _).c0 (P2.set _ _).c1 ⟨A1, n1, c1, by rw [HNz.out], L2.out.setP P2 _ _, below_set2 B2.out (by omega) _ _⟩

/-- Boxes of ratios lie in four cells like those of fractions. -/
theorem res_r1 {fn : Func} {r : Nat} (hr : fn.results = #[.cell r 69]) {tmps : Array Value} {w : World} {g : Nat} {x0 x1 x2 x3 : Value} (ht : tmps.getD r undef = .pointer (some ⟨g, 0, none⟩))
    (d : Qd w g x0 x1 x2 x3) : (results fn tmps).run Tryz.prog w = .ok (.agg #[x0, x1, x2, x3]) w := by
  have h0 := d.c0; have h1 := d.c1; have h2 := d.c2; have h3 := d.c3
  rw [Array.getD_eq_getD_getElem?] at ht
  simp [results, hr, go_sem, ht, h0, h1, h2, h3]
theorem post_r1 {fn : Func} {r : Nat} (hr : fn.results = #[.cell r 69]) {R : Ending → World → Prop} {a : Act} {w : World} {g : Nat} {x0 x1 x2 x3 : Value} (ht : a.tmps.getD r undef = .pointer (some ⟨g, 0, none⟩))
    (hd : a.defers = []) (d : Qd w g x0 x1 x2 x3) (h : R (.returned (.agg #[x0, x1, x2, x3])) w) : bodyPost Tryz.prog fn R .ret a w :=
  bodyPost_ret (res_r1 hr ht d) hd h
set_option maxRecDepth 100000 in
set_option maxHeartbeats 1000000 in
theorem known_ok (w : World) (nn dn : Bool) (A B : Option Addr) (n m ca cb : Nat) (xs ys : List Nat) (hA : Lm w w.heap.size A n ca xs) (hB : Lm w w.heap.size B m cb ys) (hv : fchk nn xs dn ys = 0) :
    Calls Tryz.prog 79 #[fv nn A n ca dn B m cb] w fun e w' => e = .returned (fv nn A n ca dn B m cb) ∧ Below w.heap.size w w' := by
  have HA := Lib.hid hA
  have HB := Lib.hid hB
  have HV := Lib.hid hv
  clear hA hB hv
  go_enter Tryz.func79, Tryz.ntmps79
  go_wp2_with fail
  refine (fcheck_any _ nn dn A B n m ca cb xs ys ((HA.out.box _).box _) ((HB.out.box _).box _)).mono ?_
  rintro e w1 ⟨rfl, hb1⟩
  rw [HV.out]
  have Q := Lib.hid (((Qd.new w _ rfl (.bool nn) (.slice A n ca) (.bool dn) (.slice B m cb) 29).alloc (.cells #[.bool false, .slice none 0 0, .bool false, .slice none 0 0] 69)).via hb1)
  have R := Lib.hid ((Qd.new (w.alloc (.cells #[.bool nn, .slice A n ca, .bool dn, .slice B m cb] 29)) (w.heap.size + 1) (by simp) (.bool false) (.slice none 0 0) (.bool false) (.slice none 0 0) 69).via hb1)
  have B1 := Lib.hid (bbox (bbox hb1))
  clear hb1
  go_wp2_with fail
  refine (pass_ok _).mono ?_
  rintro e w2 ⟨rfl, rfl⟩
  have ⟨q0, q1, q2, q3, _, _, _, _, ql⟩ := Q.out
  have ⟨r0, r1, r2, r3, f0, f1, f2, f3, rl⟩ := R.out
  go_wp2
  exact post_r1 Tryz.results79 rfl rfl (R.out.set (.bool nn) (.slice A n ca) (.bool dn) (.slice B m cb)) ⟨rfl, below_put4 B1.out (by omega) _ _ _ _⟩
end Go.Proofs.YtoigmcggkanncaaGreatDoor

/- Mathematics of fractions: which divisors a sum of reduced fractions has. No program is named here. -/
namespace Go.Proofs.YtoigmcggkanncaaGreatDoor
theorem cop_of (t : Int) (an bn : Int) (p' q' p : Nat) (ht : t = an * q' + bn * p') (hpq : Nat.gcd p' q' = 1) (hpp : p' ∣ p) (ha : Nat.gcd an.natAbs p = 1) : Nat.Coprime t.natAbs p' := by
  refine Nat.eq_one_of_dvd_one ?_
  have h1 := Nat.gcd_dvd_left t.natAbs p'
  have h2 := Nat.gcd_dvd_right t.natAbs p'
  generalize Nat.gcd t.natAbs p' = d at *
  have i1 : (d : Int) ∣ t := Int.ofNat_dvd_left.2 h1
  have i2 : (d : Int) ∣ (p' : Int) := Int.natCast_dvd_natCast.2 h2
  have i3 : (d : Int) ∣ an * q' := by
    have e : an * q' = t - bn * p' := by omega
    rw [e]
    exact Int.dvd_sub i1 (Int.dvd_mul_of_dvd_right i2)
  have h3 : d ∣ an.natAbs * q' := by
    have := Int.ofNat_dvd_left.1 i3
    rwa [Int.natAbs_mul, Int.natAbs_natCast] at this
  have c : Nat.Coprime d q' := Nat.Coprime.coprime_dvd_left h2 hpq
  have h4 : d ∣ an.natAbs := c.dvd_of_dvd_mul_right h3
  have h5 : d ∣ Nat.gcd an.natAbs p := Nat.dvd_gcd h4 (Nat.dvd_trans h2 hpp)
  rwa [ha] at h5
theorem frac_common (an bn : Int) (p q s : Nat) (hp : 0 < p) (ha : Nat.gcd an.natAbs p = 1) (hb : Nat.gcd bn.natAbs q = 1) (hs : Nat.gcd p q = s) :
    ∃ t : Int, an * q + bn * p = t * s ∧ 0 < s ∧ Nat.gcd (an * q + bn * p).natAbs (p * q) = s * Nat.gcd t.natAbs s := by
  have hs0 : 0 < s := by rw [← hs]; exact Nat.gcd_pos_of_pos_left _ hp
  obtain ⟨p', hp'⟩ : s ∣ p := hs ▸ Nat.gcd_dvd_left p q
  obtain ⟨q', hq'⟩ : s ∣ q := hs ▸ Nat.gcd_dvd_right p q
  have hpq : Nat.gcd p' q' = 1 := by
    have h : s * Nat.gcd p' q' = s * 1 := by rw [← Nat.gcd_mul_left, ← hp', ← hq', hs, Nat.mul_one]
    exact Nat.eq_of_mul_eq_mul_left hs0 h
  refine ⟨an * q' + bn * p', ?_, hs0, ?_⟩
  · rw [hp', hq', Int.natCast_mul, Int.natCast_mul]; grind
  · have c1 := cop_of (an * q' + bn * p') an bn p' q' p rfl hpq ⟨s, by rw [Nat.mul_comm]; exact hp'⟩ ha
    have c2 := cop_of (an * q' + bn * p') bn an q' p' q (by omega) (by rw [Nat.gcd_comm]; exact hpq) ⟨s, by rw [Nat.mul_comm]; exact hq'⟩ hb
    have e : (an * q + bn * p).natAbs = s * (an * q' + bn * p').natAbs := by
      have : an * q + bn * p = s * (an * q' + bn * p') := by rw [hp', hq', Int.natCast_mul, Int.natCast_mul]; grind
      rw [this, Int.natAbs_mul, Int.natAbs_natCast]
    have e2 : p * q = s * (s * (p' * q')) := by
      have h : s * p' * (s * q') = s * (s * (p' * q')) := by grind
      rw [← hp', ← hq'] at h
      exact h
    rw [e, e2, Nat.gcd_mul_left]
    congr 1
    have c := Nat.Coprime.mul_right c1 c2
    exact Nat.Coprime.gcd_mul_right_cancel_right s c.symm
end Go.Proofs.YtoigmcggkanncaaGreatDoor

/- Two copies laid in new boxes, in whatever order. -/
namespace Go.Proofs.YtoigmcggkanncaaGreatDoor
open Go.RowKit

/-- Two slots point to copies of both numbers. -/
def TwinsAt (w2 : World) (na : Bool) (n : Nat) (xs : List Nat) (nb : Bool) (m : Nat) (ys : List Nat) (s5 s6 : Value) (wc : World) : Prop :=
  ∃ gx gy A' c' A'' c'', s5 = .pointer (some ⟨gx, 0, none⟩) ∧ s6 = .pointer (some ⟨gy, 0, none⟩) ∧ Pr wc gx (.bool na) (.slice A' n c') ∧ Pr wc gy (.bool nb) (.slice A'' m c'') ∧ Lm wc wc.heap.size A' n c' xs ∧ Lm wc wc.heap.size A'' m c'' ys ∧ Below w2.heap.size w2 wc

section
variable {w2 w4 : World} {na nb : Bool} {n m : Nat} {xs ys : List Nat} {A3 A4 : Option Addr} {c3 c4 : Nat} {t : TypeId}
end
theorem b_one_d {w w' : World} {o : Obj} (h : Below (w.alloc o).drew.heap.size (w.alloc o).drew w') : Below w.heap.size w w' :=
  ((Below.refl w.heap.size w).alloc (Nat.le_refl _) o).drew.trans (h.mono (((Below.refl w.heap.size w).alloc (Nat.le_refl _) o).drew.size))
end Go.Proofs.YtoigmcggkanncaaGreatDoor

