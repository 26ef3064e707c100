/- Lemmas, part 6. -/
import Derived.Deep.RegionHeld3
import Derived.Deep.DeepCutAuto
import Derived.Test.YtioccpbohhhkpaaGreatFR5
/- The reference's DivMod. -/
namespace Go.Proofs.YtioccpbohhhkpaaGreat
open Go.RowKit

set_option maxRecDepth 100000 in
set_option maxHeartbeats 2000000 in
theorem rdivmod_bad (w : World) (na nb : Bool) (A B : Option Addr) (n m ca cb : Nat) (xs ys : List Nat) (hA : Lm w w.heap.size A n ca xs) (hB : Lm w w.heap.size B m cb ys) (hv : chkB na xs nb ys = 8) :
    Calls Tryz.prog 73 #[.agg #[.bool na, .slice A n ca], .agg #[.bool nb, .slice B m cb]] w (RWW w false [] false [] 8) := by
  have HA := Lib.hid hA
  have HB := Lib.hid hB
  have HV := Lib.hid hv
  clear hv
  go_enter Tryz.func73, Tryz.ntmps73
  go_wp2_with fail
  refine (rboth_any _ _ _ _ _ _ _ _ _ _ _ ((((HA.out.box _).box _).box _).box _) ((((HB.out.box _).box _).box _).box _) 8 HV.out).mono ?_
  rintro e w1 ⟨rfl, hb1⟩
  have ⟨PA, PB, PQ, PR⟩ := boxes4 hb1
  have LA1 := Lib.hid (((((HA.out.box _).box _).box _).box _).via hb1)
  have LB1 := Lib.hid (((((HB.out.box _).box _).box _).box _).via hb1)
  have HB1 := Lib.hid (bbox (bbox (bbox (bbox hb1))))
  have ⟨a0, a1, _, _, _⟩ := PA
  have ⟨b0, b1, _, _, _⟩ := PB
  clear hb1
  go_wp2_with fail
  refine (rboth_any _ _ _ _ _ _ _ _ _ _ _ LA1.out LB1.out 8 HV.out).mono ?_
  rintro e w2 ⟨rfl, hb2⟩
  have PQ2 := PQ.via hb2
  have PR2 := PR.via hb2
  have HB2 := Lib.hid (HB1.out.trans (hb2.mono HB1.out.size))
  clear PQ PR hb2
  have ⟨q0, q1, qf0, qf1, ql⟩ := PQ2
  have ⟨r0, r1, rf0, rf1, rl⟩ := PR2
  go_wp2
  refine post_ww Tryz.results73 rfl rfl rfl ((PQ2.set _ _).far (by omega) _ _) ((PR2.far (by omega) _ _).set _ _) ⟨none, 0, 0, none, 0, 0, rfl, Lm.nil _ _, Lm.nil _ _, below_set2 (below_set2 HB2.out (by omega) _ _) (by omega) _ _⟩

set_option maxRecDepth 100000 in
set_option maxHeartbeats 2000000 in
theorem rdivmod_zero (w : World) (na nb : Bool) (A B : Option Addr) (n ca cb : Nat) (xs : List Nat) (hA : Lm w w.heap.size A n ca xs) (hB : Lm w w.heap.size B 0 cb []) (hv : chkB na xs nb [] = 0) :
    Calls Tryz.prog 73 #[.agg #[.bool na, .slice A n ca], .agg #[.bool nb, .slice B 0 cb]] w (RWW w false [] false [] 18) := by
  have HA := Lib.hid hA
  have HB := Lib.hid hB
  have HV := Lib.hid hv
  clear hv
  go_enter Tryz.func73, Tryz.ntmps73
  go_wp2_with fail
  refine (rboth_any _ _ _ _ _ _ _ _ _ _ _ ((((HA.out.box _).box _).box _).box _) ((((HB.out.box _).box _).box _).box _) 0 HV.out).mono ?_
  rintro e w1 ⟨rfl, hb1⟩
  have ⟨_, PB, PQ, PR⟩ := boxes4 hb1
  have HB1 := Lib.hid (bbox (bbox (bbox (bbox hb1))))
  have ⟨b0, b1, _, _, _⟩ := PB
  have ⟨q0, q1, qf0, qf1, ql⟩ := PQ
  have ⟨r0, r1, rf0, rf1, rl⟩ := PR
  clear hb1
  go_wp2
  refine post_ww Tryz.results73 rfl rfl rfl ((PQ.set _ _).far (by omega) _ _) ((PR.far (by omega) _ _).set _ _) ⟨none, 0, 0, none, 0, 0, rfl, Lm.nil _ _, Lm.nil _ _, below_set2 (below_set2 HB1.out (by omega) _ _) (by omega) _ _⟩

set_option maxRecDepth 100000 in
set_option maxHeartbeats 2000000 in
theorem rdivmod_same (w : World) (na nb : Bool) (A B : Option Addr) (n m ca cb a b : Nat) (hA : Lm w w.heap.size A n ca (digs a)) (hB : Lm w w.heap.size B m cb (digs b)) (hv : chkB na (digs a) nb (digs b) = 0) (hb : 0 < b) (hs : na = nb) (z : Bool) (hz : decide (0 < a % b) = z) :
    Calls Tryz.prog 73 #[.agg #[.bool na, .slice A n ca], .agg #[.bool nb, .slice B m cb]] w (RWW w (mkN false (a / b)) (digs (a / b)) (mkN nb (a % b)) (digs (a % b)) 0) := by
  have h41 := (chk_ok.1 (chkB_ok.1 hv).1).1
  have h42 := (chk_ok.1 (chkB_ok.1 hv).2).1
  have hml := Nat.mod_lt a hb
  have hq0 : (digs (a / b)).length ≤ 4096 := Nat.le_trans (digs_mono (Nat.div_le_self a b)) h41
  have hr0 : (digs (a % b)).length ≤ 4096 := Nat.le_trans (digs_mono (Nat.le_of_lt hml)) h42
  have HLq : Hid (mkL (a / b) = digs (a / b)) := by show _ = _; unfold mkL; rw [if_pos hq0]
  have HLr : Hid (mkL (a % b) = digs (a % b)) := by show _ = _; unfold mkL; rw [if_pos hr0]
  have HEq : Hid (mkE (a / b) = 0) := by show _ = _; unfold mkE; rw [if_pos hq0]
  have HEr : Hid (mkE (a % b) = 0) := by show _ = _; unfold mkE; rw [if_pos hr0]
  rw [hA.len] at h41
  rw [hB.len] at h42
  have hm0 : 0 < m := by rw [← hB.len, digs_pos]; exact hb
  have hm1 : ((m : Int) == 0) = false := by simp; omega
  have hcB := hB.cap
  have hxB := hB.max
  have HA := Lib.hid hA
  have HB := Lib.hid hB
  have HV := Lib.hid hv
  have HVq : Hid (val (digs (a / b)) = a / b) := digs_val _
  have HVr : Hid (val (digs (a % b)) = a % b) := digs_val _
  have hrl : decide (0 < (digs (a % b)).length) = decide (0 < a % b) := decide_eq_decide.2 digs_pos
  rw [hz] at hrl
  clear hz
  clear hv hA hB hml
  subst hs
  cases na <;> cases z
  · go_enter Tryz.func73, Tryz.ntmps73
    go_wp2_with fail
    refine (rboth_any _ _ _ _ _ _ _ _ _ _ _ ((((HA.out.box _).box _).box _).box _) ((((HB.out.box _).box _).box _).box _) 0 HV.out).mono ?_
    rintro e w1 ⟨rfl, hb1⟩
    have ⟨PA, PB, PQ, PR⟩ := boxes4 hb1
    have LA1 := Lib.hid (((((HA.out.box _).box _).box _).box _).via hb1)
    have LB1 := Lib.hid (((((HB.out.box _).box _).box _).box _).via hb1)
    have HB1 := Lib.hid (bbox (bbox (bbox (bbox hb1))))
    have ⟨a0, a1, _, _, _⟩ := PA
    have ⟨b0, b1, _, _, _⟩ := PB
    clear hb1
    go_wp2_with fail
    refine (rover_any w1 A B n m ca cb a b LA1.out LB1.out hb (by omega)).mono ?_
    rintro e w2 ⟨Q, cq, R, cr, rfl, hQ, hR, hb2⟩
    have PA2 := PA.via hb2
    have PB2 := PB.via hb2
    have PQ2 := PQ.via hb2
    have PR2 := PR.via hb2
    have HB2 := Lib.hid (HB1.out.trans (hb2.mono HB1.out.size))
    have HQ := Lib.hid hQ
    have HR := Lib.hid hR
    have LB2 := Lib.hid (LB1.out.via hb2)
    clear PA PB PQ PR LA1 LB1 HB1 a0 a1 b0 b1 hb2 hQ hR
    have ⟨a0, a1, _, _, _⟩ := PA2
    have ⟨b0, b1, _, _, _⟩ := PB2
    go_wp2_with fail
    refine (rmade_any w2 _ _ _ _ _ (a / b) HQ.out HVq.out (by omega)).mono ?_
    rintro e w3 ⟨A3, n3, c3, rfl, hL3, hb3⟩
    rw [HLq.out] at hL3
    rw [HEq.out]
    have PA4 := (PA2.via hb3).alloc (.cells #[.bool (mkN false (a / b)), .slice A3 n3 c3] 24)
    have PB4 := (PB2.via hb3).alloc (.cells #[.bool (mkN false (a / b)), .slice A3 n3 c3] 24)
    have PQ4 := (PQ2.via hb3).alloc (.cells #[.bool (mkN false (a / b)), .slice A3 n3 c3] 24)
    have PR4 := (PR2.via hb3).alloc (.cells #[.bool (mkN false (a / b)), .slice A3 n3 c3] 24)
    have HB4 := Lib.hid ((HB2.out.trans (hb3.mono HB2.out.size)).alloc (HB2.out.trans (hb3.mono HB2.out.size)).size (.cells #[.bool (mkN false (a / b)), .slice A3 n3 c3] 24))
    have HR4 := Lib.hid ((HR.out.via hb3).box (.cells #[.bool (mkN false (a / b)), .slice A3 n3 c3] 24))
    have LB4 := Lib.hid ((LB2.out.via hb3).box (.cells #[.bool (mkN false (a / b)), .slice A3 n3 c3] 24))
    have HL4 := Lib.hid (hL3.box (.cells #[.bool (mkN false (a / b)), .slice A3 n3 c3] 24))
    have PX4 := Pr.new w3 w3.heap.size rfl (.bool (mkN false (a / b))) (.slice A3 n3 c3) 24
    have hlt3 : w.heap.size + 1 + 1 + 1 < w3.heap.size := (PR2.via hb3).lt
    clear PA2 PB2 PQ2 PR2 HQ HR HB2 LB2 hb3 hL3 a0 a1 b0 b1
    have ⟨a0, a1, _, _, _⟩ := PA4
    have ⟨b0, b1, _, _, _⟩ := PB4
    go_wp2_with fail
    generalize w3.alloc (.cells #[.bool (mkN false (a / b)), .slice A3 n3 c3] 24) = w4 at *
    generalize w3.heap.size = g3 at *
    refine (rmade_any w4 _ _ _ _ _ (a % b) HR4.out HVr.out (by omega)).mono ?_
    rintro e w5 ⟨A5, n5, c5, rfl, hL5, hb5⟩
    rw [HLr.out] at hL5
    rw [HEr.out]
    have PA6 := (PA4.via hb5).alloc (.cells #[.bool (mkN false (a % b)), .slice A5 n5 c5] 24)
    have PB6 := (PB4.via hb5).alloc (.cells #[.bool (mkN false (a % b)), .slice A5 n5 c5] 24)
    have PQ6 := (PQ4.via hb5).alloc (.cells #[.bool (mkN false (a % b)), .slice A5 n5 c5] 24)
    have PR6 := (PR4.via hb5).alloc (.cells #[.bool (mkN false (a % b)), .slice A5 n5 c5] 24)
    have PX6 := (PX4.via hb5).alloc (.cells #[.bool (mkN false (a % b)), .slice A5 n5 c5] 24)
    have HB6 := Lib.hid ((HB4.out.trans (hb5.mono HB4.out.size)).alloc (HB4.out.trans (hb5.mono HB4.out.size)).size (.cells #[.bool (mkN false (a % b)), .slice A5 n5 c5] 24))
    have LB6 := Lib.hid ((LB4.out.via hb5).box (.cells #[.bool (mkN false (a % b)), .slice A5 n5 c5] 24))
    have HL6 := Lib.hid ((HL4.out.via hb5).box (.cells #[.bool (mkN false (a % b)), .slice A5 n5 c5] 24))
    have HM6 := Lib.hid (hL5.box (.cells #[.bool (mkN false (a % b)), .slice A5 n5 c5] 24))
    have PY6 := Pr.new w5 w5.heap.size rfl (.bool (mkN false (a % b))) (.slice A5 n5 c5) 24
    have hlt5 : g3 < w5.heap.size := (PX4.via hb5).lt
    clear PA4 PB4 PQ4 PR4 PX4 HB4 HR4 LB4 HL4 hb5 hL5 a0 a1 b0 b1
    have ⟨a0, a1, _, _, _⟩ := PA6
    have ⟨b0, b1, _, _, _⟩ := PB6
    go_wp2_with fail
    generalize w5.alloc (.cells #[.bool (mkN false (a % b)), .slice A5 n5 c5] 24) = w6 at *
    generalize w5.heap.size = g5 at *
    have ⟨q0, q1, qf0, qf1, ql⟩ := PQ6
    have ⟨r0, r1, rf0, rf1, rl⟩ := PR6
    have ⟨x0, x1, xf0, xf1, xl⟩ := PX6
    have ⟨y0, y1, yf0, yf1, yl⟩ := PY6
    go_region
    all_goals
      go_wp2
      refine post_ww Tryz.results73 rfl rfl rfl ((PQ6.set _ _).far (by omega) _ _).drew ((PR6.far (by omega) _ _).set _ _).drew ⟨A3, n3, c3, A5, n5, c5, rfl, ?_, ?_, ?_⟩
      · exact ((HL6.out.setP PQ6 _ _).setP (PR6.far (by omega) _ _) _ _).drew
      · exact ((HM6.out.setP PQ6 _ _).setP (PR6.far (by omega) _ _) _ _).drew
      · exact (below_set2 (below_set2 HB6.out (by omega) _ _) (by omega) _ _).drew
  · go_enter Tryz.func73, Tryz.ntmps73
    go_wp2_with fail
    refine (rboth_any _ _ _ _ _ _ _ _ _ _ _ ((((HA.out.box _).box _).box _).box _) ((((HB.out.box _).box _).box _).box _) 0 HV.out).mono ?_
    rintro e w1 ⟨rfl, hb1⟩
    have ⟨PA, PB, PQ, PR⟩ := boxes4 hb1
    have LA1 := Lib.hid (((((HA.out.box _).box _).box _).box _).via hb1)
    have LB1 := Lib.hid (((((HB.out.box _).box _).box _).box _).via hb1)
    have HB1 := Lib.hid (bbox (bbox (bbox (bbox hb1))))
    have ⟨a0, a1, _, _, _⟩ := PA
    have ⟨b0, b1, _, _, _⟩ := PB
    clear hb1
    go_wp2_with fail
    refine (rover_any w1 A B n m ca cb a b LA1.out LB1.out hb (by omega)).mono ?_
    rintro e w2 ⟨Q, cq, R, cr, rfl, hQ, hR, hb2⟩
    have PA2 := PA.via hb2
    have PB2 := PB.via hb2
    have PQ2 := PQ.via hb2
    have PR2 := PR.via hb2
    have HB2 := Lib.hid (HB1.out.trans (hb2.mono HB1.out.size))
    have HQ := Lib.hid hQ
    have HR := Lib.hid hR
    have LB2 := Lib.hid (LB1.out.via hb2)
    clear PA PB PQ PR LA1 LB1 HB1 a0 a1 b0 b1 hb2 hQ hR
    have ⟨a0, a1, _, _, _⟩ := PA2
    have ⟨b0, b1, _, _, _⟩ := PB2
    go_wp2_with fail
    refine (rmade_any w2 _ _ _ _ _ (a / b) HQ.out HVq.out (by omega)).mono ?_
    rintro e w3 ⟨A3, n3, c3, rfl, hL3, hb3⟩
    rw [HLq.out] at hL3
    rw [HEq.out]
    have PA4 := (PA2.via hb3).alloc (.cells #[.bool (mkN false (a / b)), .slice A3 n3 c3] 24)
    have PB4 := (PB2.via hb3).alloc (.cells #[.bool (mkN false (a / b)), .slice A3 n3 c3] 24)
    have PQ4 := (PQ2.via hb3).alloc (.cells #[.bool (mkN false (a / b)), .slice A3 n3 c3] 24)
    have PR4 := (PR2.via hb3).alloc (.cells #[.bool (mkN false (a / b)), .slice A3 n3 c3] 24)
    have HB4 := Lib.hid ((HB2.out.trans (hb3.mono HB2.out.size)).alloc (HB2.out.trans (hb3.mono HB2.out.size)).size (.cells #[.bool (mkN false (a / b)), .slice A3 n3 c3] 24))
    have HR4 := Lib.hid ((HR.out.via hb3).box (.cells #[.bool (mkN false (a / b)), .slice A3 n3 c3] 24))
    have LB4 := Lib.hid ((LB2.out.via hb3).box (.cells #[.bool (mkN false (a / b)), .slice A3 n3 c3] 24))
    have HL4 := Lib.hid (hL3.box (.cells #[.bool (mkN false (a / b)), .slice A3 n3 c3] 24))
    have PX4 := Pr.new w3 w3.heap.size rfl (.bool (mkN false (a / b))) (.slice A3 n3 c3) 24
    have hlt3 : w.heap.size + 1 + 1 + 1 < w3.heap.size := (PR2.via hb3).lt
    clear PA2 PB2 PQ2 PR2 HQ HR HB2 LB2 hb3 hL3 a0 a1 b0 b1
    have ⟨a0, a1, _, _, _⟩ := PA4
    have ⟨b0, b1, _, _, _⟩ := PB4
    go_wp2_with fail
    generalize w3.alloc (.cells #[.bool (mkN false (a / b)), .slice A3 n3 c3] 24) = w4 at *
    generalize w3.heap.size = g3 at *
    refine (rmade_any w4 _ _ _ _ _ (a % b) HR4.out HVr.out (by omega)).mono ?_
    rintro e w5 ⟨A5, n5, c5, rfl, hL5, hb5⟩
    rw [HLr.out] at hL5
    rw [HEr.out]
    have PA6 := (PA4.via hb5).alloc (.cells #[.bool (mkN false (a % b)), .slice A5 n5 c5] 24)
    have PB6 := (PB4.via hb5).alloc (.cells #[.bool (mkN false (a % b)), .slice A5 n5 c5] 24)
    have PQ6 := (PQ4.via hb5).alloc (.cells #[.bool (mkN false (a % b)), .slice A5 n5 c5] 24)
    have PR6 := (PR4.via hb5).alloc (.cells #[.bool (mkN false (a % b)), .slice A5 n5 c5] 24)
    have PX6 := (PX4.via hb5).alloc (.cells #[.bool (mkN false (a % b)), .slice A5 n5 c5] 24)
    have HB6 := Lib.hid ((HB4.out.trans (hb5.mono HB4.out.size)).alloc (HB4.out.trans (hb5.mono HB4.out.size)).size (.cells #[.bool (mkN false (a % b)), .slice A5 n5 c5] 24))
    have LB6 := Lib.hid ((LB4.out.via hb5).box (.cells #[.bool (mkN false (a % b)), .slice A5 n5 c5] 24))
    have HL6 := Lib.hid ((HL4.out.via hb5).box (.cells #[.bool (mkN false (a % b)), .slice A5 n5 c5] 24))
    have HM6 := Lib.hid (hL5.box (.cells #[.bool (mkN false (a % b)), .slice A5 n5 c5] 24))
    have PY6 := Pr.new w5 w5.heap.size rfl (.bool (mkN false (a % b))) (.slice A5 n5 c5) 24
    have hlt5 : g3 < w5.heap.size := (PX4.via hb5).lt
    clear PA4 PB4 PQ4 PR4 PX4 HB4 HR4 LB4 HL4 hb5 hL5 a0 a1 b0 b1
    have ⟨a0, a1, _, _, _⟩ := PA6
    have ⟨b0, b1, _, _, _⟩ := PB6
    go_wp2_with fail
    generalize w5.alloc (.cells #[.bool (mkN false (a % b)), .slice A5 n5 c5] 24) = w6 at *
    generalize w5.heap.size = g5 at *
    have ⟨q0, q1, qf0, qf1, ql⟩ := PQ6
    have ⟨r0, r1, rf0, rf1, rl⟩ := PR6
    have ⟨x0, x1, xf0, xf1, xl⟩ := PX6
    have ⟨y0, y1, yf0, yf1, yl⟩ := PY6
    go_region
    all_goals
      go_wp2
      refine post_ww Tryz.results73 rfl rfl rfl ((PQ6.set _ _).far (by omega) _ _).drew ((PR6.far (by omega) _ _).set _ _).drew ⟨A3, n3, c3, A5, n5, c5, rfl, ?_, ?_, ?_⟩
      · exact ((HL6.out.setP PQ6 _ _).setP (PR6.far (by omega) _ _) _ _).drew
      · exact ((HM6.out.setP PQ6 _ _).setP (PR6.far (by omega) _ _) _ _).drew
      · exact (below_set2 (below_set2 HB6.out (by omega) _ _) (by omega) _ _).drew
  · go_enter Tryz.func73, Tryz.ntmps73
    go_wp2_with fail
    refine (rboth_any _ _ _ _ _ _ _ _ _ _ _ ((((HA.out.box _).box _).box _).box _) ((((HB.out.box _).box _).box _).box _) 0 HV.out).mono ?_
    rintro e w1 ⟨rfl, hb1⟩
    have ⟨PA, PB, PQ, PR⟩ := boxes4 hb1
    have LA1 := Lib.hid (((((HA.out.box _).box _).box _).box _).via hb1)
    have LB1 := Lib.hid (((((HB.out.box _).box _).box _).box _).via hb1)
    have HB1 := Lib.hid (bbox (bbox (bbox (bbox hb1))))
    have ⟨a0, a1, _, _, _⟩ := PA
    have ⟨b0, b1, _, _, _⟩ := PB
    clear hb1
    go_wp2_with fail
    refine (rover_any w1 A B n m ca cb a b LA1.out LB1.out hb (by omega)).mono ?_
    rintro e w2 ⟨Q, cq, R, cr, rfl, hQ, hR, hb2⟩
    have PA2 := PA.via hb2
    have PB2 := PB.via hb2
    have PQ2 := PQ.via hb2
    have PR2 := PR.via hb2
    have HB2 := Lib.hid (HB1.out.trans (hb2.mono HB1.out.size))
    have HQ := Lib.hid hQ
    have HR := Lib.hid hR
    have LB2 := Lib.hid (LB1.out.via hb2)
    clear PA PB PQ PR LA1 LB1 HB1 a0 a1 b0 b1 hb2 hQ hR
    have ⟨a0, a1, _, _, _⟩ := PA2
    have ⟨b0, b1, _, _, _⟩ := PB2
    go_wp2_with fail
    refine (rmade_any w2 _ _ _ _ _ (a / b) HQ.out HVq.out (by omega)).mono ?_
    rintro e w3 ⟨A3, n3, c3, rfl, hL3, hb3⟩
    rw [HLq.out] at hL3
    rw [HEq.out]
    have PA4 := (PA2.via hb3).alloc (.cells #[.bool (mkN false (a / b)), .slice A3 n3 c3] 24)
    have PB4 := (PB2.via hb3).alloc (.cells #[.bool (mkN false (a / b)), .slice A3 n3 c3] 24)
    have PQ4 := (PQ2.via hb3).alloc (.cells #[.bool (mkN false (a / b)), .slice A3 n3 c3] 24)
    have PR4 := (PR2.via hb3).alloc (.cells #[.bool (mkN false (a / b)), .slice A3 n3 c3] 24)
    have HB4 := Lib.hid ((HB2.out.trans (hb3.mono HB2.out.size)).alloc (HB2.out.trans (hb3.mono HB2.out.size)).size (.cells #[.bool (mkN false (a / b)), .slice A3 n3 c3] 24))
    have HR4 := Lib.hid ((HR.out.via hb3).box (.cells #[.bool (mkN false (a / b)), .slice A3 n3 c3] 24))
    have LB4 := Lib.hid ((LB2.out.via hb3).box (.cells #[.bool (mkN false (a / b)), .slice A3 n3 c3] 24))
    have HL4 := Lib.hid (hL3.box (.cells #[.bool (mkN false (a / b)), .slice A3 n3 c3] 24))
    have PX4 := Pr.new w3 w3.heap.size rfl (.bool (mkN false (a / b))) (.slice A3 n3 c3) 24
    have hlt3 : w.heap.size + 1 + 1 + 1 < w3.heap.size := (PR2.via hb3).lt
    clear PA2 PB2 PQ2 PR2 HQ HR HB2 LB2 hb3 hL3 a0 a1 b0 b1
    have ⟨a0, a1, _, _, _⟩ := PA4
    have ⟨b0, b1, _, _, _⟩ := PB4
    go_wp2_with fail
    generalize w3.alloc (.cells #[.bool (mkN false (a / b)), .slice A3 n3 c3] 24) = w4 at *
    generalize w3.heap.size = g3 at *
    refine (rmade_any w4 _ _ _ _ _ (a % b) HR4.out HVr.out (by omega)).mono ?_
    rintro e w5 ⟨A5, n5, c5, rfl, hL5, hb5⟩
    rw [HLr.out] at hL5
    rw [HEr.out]
    have PA6 := (PA4.via hb5).alloc (.cells #[.bool (mkN true (a % b)), .slice A5 n5 c5] 24)
    have PB6 := (PB4.via hb5).alloc (.cells #[.bool (mkN true (a % b)), .slice A5 n5 c5] 24)
    have PQ6 := (PQ4.via hb5).alloc (.cells #[.bool (mkN true (a % b)), .slice A5 n5 c5] 24)
    have PR6 := (PR4.via hb5).alloc (.cells #[.bool (mkN true (a % b)), .slice A5 n5 c5] 24)
    have PX6 := (PX4.via hb5).alloc (.cells #[.bool (mkN true (a % b)), .slice A5 n5 c5] 24)
    have HB6 := Lib.hid ((HB4.out.trans (hb5.mono HB4.out.size)).alloc (HB4.out.trans (hb5.mono HB4.out.size)).size (.cells #[.bool (mkN true (a % b)), .slice A5 n5 c5] 24))
    have LB6 := Lib.hid ((LB4.out.via hb5).box (.cells #[.bool (mkN true (a % b)), .slice A5 n5 c5] 24))
    have HL6 := Lib.hid ((HL4.out.via hb5).box (.cells #[.bool (mkN true (a % b)), .slice A5 n5 c5] 24))
    have HM6 := Lib.hid (hL5.box (.cells #[.bool (mkN true (a % b)), .slice A5 n5 c5] 24))
    have PY6 := Pr.new w5 w5.heap.size rfl (.bool (mkN true (a % b))) (.slice A5 n5 c5) 24
    have hlt5 : g3 < w5.heap.size := (PX4.via hb5).lt
    clear PA4 PB4 PQ4 PR4 PX4 HB4 HR4 LB4 HL4 hb5 hL5 a0 a1 b0 b1
    have ⟨a0, a1, _, _, _⟩ := PA6
    have ⟨b0, b1, _, _, _⟩ := PB6
    go_wp2_with fail
    generalize w5.alloc (.cells #[.bool (mkN true (a % b)), .slice A5 n5 c5] 24) = w6 at *
    generalize w5.heap.size = g5 at *
    have ⟨q0, q1, qf0, qf1, ql⟩ := PQ6
    have ⟨r0, r1, rf0, rf1, rl⟩ := PR6
    have ⟨x0, x1, xf0, xf1, xl⟩ := PX6
    have ⟨y0, y1, yf0, yf1, yl⟩ := PY6
    go_region
    all_goals
      go_wp2
      refine post_ww Tryz.results73 rfl rfl rfl ((PQ6.set _ _).far (by omega) _ _).drew ((PR6.far (by omega) _ _).set _ _).drew ⟨A3, n3, c3, A5, n5, c5, rfl, ?_, ?_, ?_⟩
      · exact ((HL6.out.setP PQ6 _ _).setP (PR6.far (by omega) _ _) _ _).drew
      · exact ((HM6.out.setP PQ6 _ _).setP (PR6.far (by omega) _ _) _ _).drew
      · exact (below_set2 (below_set2 HB6.out (by omega) _ _) (by omega) _ _).drew
  · go_enter Tryz.func73, Tryz.ntmps73
    go_wp2_with fail
    refine (rboth_any _ _ _ _ _ _ _ _ _ _ _ ((((HA.out.box _).box _).box _).box _) ((((HB.out.box _).box _).box _).box _) 0 HV.out).mono ?_
    rintro e w1 ⟨rfl, hb1⟩
    have ⟨PA, PB, PQ, PR⟩ := boxes4 hb1
    have LA1 := Lib.hid (((((HA.out.box _).box _).box _).box _).via hb1)
    have LB1 := Lib.hid (((((HB.out.box _).box _).box _).box _).via hb1)
    have HB1 := Lib.hid (bbox (bbox (bbox (bbox hb1))))
    have ⟨a0, a1, _, _, _⟩ := PA
    have ⟨b0, b1, _, _, _⟩ := PB
    clear hb1
    go_wp2_with fail
    refine (rover_any w1 A B n m ca cb a b LA1.out LB1.out hb (by omega)).mono ?_
    rintro e w2 ⟨Q, cq, R, cr, rfl, hQ, hR, hb2⟩
    have PA2 := PA.via hb2
    have PB2 := PB.via hb2
    have PQ2 := PQ.via hb2
    have PR2 := PR.via hb2
    have HB2 := Lib.hid (HB1.out.trans (hb2.mono HB1.out.size))
    have HQ := Lib.hid hQ
    have HR := Lib.hid hR
    have LB2 := Lib.hid (LB1.out.via hb2)
    clear PA PB PQ PR LA1 LB1 HB1 a0 a1 b0 b1 hb2 hQ hR
    have ⟨a0, a1, _, _, _⟩ := PA2
    have ⟨b0, b1, _, _, _⟩ := PB2
    go_wp2_with fail
    refine (rmade_any w2 _ _ _ _ _ (a / b) HQ.out HVq.out (by omega)).mono ?_
    rintro e w3 ⟨A3, n3, c3, rfl, hL3, hb3⟩
    rw [HLq.out] at hL3
    rw [HEq.out]
    have PA4 := (PA2.via hb3).alloc (.cells #[.bool (mkN false (a / b)), .slice A3 n3 c3] 24)
    have PB4 := (PB2.via hb3).alloc (.cells #[.bool (mkN false (a / b)), .slice A3 n3 c3] 24)
    have PQ4 := (PQ2.via hb3).alloc (.cells #[.bool (mkN false (a / b)), .slice A3 n3 c3] 24)
    have PR4 := (PR2.via hb3).alloc (.cells #[.bool (mkN false (a / b)), .slice A3 n3 c3] 24)
    have HB4 := Lib.hid ((HB2.out.trans (hb3.mono HB2.out.size)).alloc (HB2.out.trans (hb3.mono HB2.out.size)).size (.cells #[.bool (mkN false (a / b)), .slice A3 n3 c3] 24))
    have HR4 := Lib.hid ((HR.out.via hb3).box (.cells #[.bool (mkN false (a / b)), .slice A3 n3 c3] 24))
    have LB4 := Lib.hid ((LB2.out.via hb3).box (.cells #[.bool (mkN false (a / b)), .slice A3 n3 c3] 24))
    have HL4 := Lib.hid (hL3.box (.cells #[.bool (mkN false (a / b)), .slice A3 n3 c3] 24))
    have PX4 := Pr.new w3 w3.heap.size rfl (.bool (mkN false (a / b))) (.slice A3 n3 c3) 24
    have hlt3 : w.heap.size + 1 + 1 + 1 < w3.heap.size := (PR2.via hb3).lt
    clear PA2 PB2 PQ2 PR2 HQ HR HB2 LB2 hb3 hL3 a0 a1 b0 b1
    have ⟨a0, a1, _, _, _⟩ := PA4
    have ⟨b0, b1, _, _, _⟩ := PB4
    go_wp2_with fail
    generalize w3.alloc (.cells #[.bool (mkN false (a / b)), .slice A3 n3 c3] 24) = w4 at *
    generalize w3.heap.size = g3 at *
    refine (rmade_any w4 _ _ _ _ _ (a % b) HR4.out HVr.out (by omega)).mono ?_
    rintro e w5 ⟨A5, n5, c5, rfl, hL5, hb5⟩
    rw [HLr.out] at hL5
    rw [HEr.out]
    have PA6 := (PA4.via hb5).alloc (.cells #[.bool (mkN true (a % b)), .slice A5 n5 c5] 24)
    have PB6 := (PB4.via hb5).alloc (.cells #[.bool (mkN true (a % b)), .slice A5 n5 c5] 24)
    have PQ6 := (PQ4.via hb5).alloc (.cells #[.bool (mkN true (a % b)), .slice A5 n5 c5] 24)
    have PR6 := (PR4.via hb5).alloc (.cells #[.bool (mkN true (a % b)), .slice A5 n5 c5] 24)
    have PX6 := (PX4.via hb5).alloc (.cells #[.bool (mkN true (a % b)), .slice A5 n5 c5] 24)
    have HB6 := Lib.hid ((HB4.out.trans (hb5.mono HB4.out.size)).alloc (HB4.out.trans (hb5.mono HB4.out.size)).size (.cells #[.bool (mkN true (a % b)), .slice A5 n5 c5] 24))
    have LB6 := Lib.hid ((LB4.out.via hb5).box (.cells #[.bool (mkN true (a % b)), .slice A5 n5 c5] 24))
    have HL6 := Lib.hid ((HL4.out.via hb5).box (.cells #[.bool (mkN true (a % b)), .slice A5 n5 c5] 24))
    have HM6 := Lib.hid (hL5.box (.cells #[.bool (mkN true (a % b)), .slice A5 n5 c5] 24))
    have PY6 := Pr.new w5 w5.heap.size rfl (.bool (mkN true (a % b))) (.slice A5 n5 c5) 24
    have hlt5 : g3 < w5.heap.size := (PX4.via hb5).lt
    clear PA4 PB4 PQ4 PR4 PX4 HB4 HR4 LB4 HL4 hb5 hL5 a0 a1 b0 b1
    have ⟨a0, a1, _, _, _⟩ := PA6
    have ⟨b0, b1, _, _, _⟩ := PB6
    go_wp2_with fail
    generalize w5.alloc (.cells #[.bool (mkN true (a % b)), .slice A5 n5 c5] 24) = w6 at *
    generalize w5.heap.size = g5 at *
    have ⟨q0, q1, qf0, qf1, ql⟩ := PQ6
    have ⟨r0, r1, rf0, rf1, rl⟩ := PR6
    have ⟨x0, x1, xf0, xf1, xl⟩ := PX6
    have ⟨y0, y1, yf0, yf1, yl⟩ := PY6
    go_region
    all_goals
      go_wp2
      refine post_ww Tryz.results73 rfl rfl rfl ((PQ6.set _ _).far (by omega) _ _).drew ((PR6.far (by omega) _ _).set _ _).drew ⟨A3, n3, c3, A5, n5, c5, rfl, ?_, ?_, ?_⟩
      · exact ((HL6.out.setP PQ6 _ _).setP (PR6.far (by omega) _ _) _ _).drew
      · exact ((HM6.out.setP PQ6 _ _).setP (PR6.far (by omega) _ _) _ _).drew
      · exact (below_set2 (below_set2 HB6.out (by omega) _ _) (by omega) _ _).drew
set_option maxRecDepth 100000 in
set_option maxHeartbeats 2000000 in
theorem rdivmod_exact (w : World) (na nb : Bool) (A B : Option Addr) (n m ca cb a b : Nat) (hA : Lm w w.heap.size A n ca (digs a)) (hB : Lm w w.heap.size B m cb (digs b)) (hv : chkB na (digs a) nb (digs b) = 0) (hb : 0 < b) (hs : na = true ∧ nb = false ∨ na = false ∧ nb = true) (h0 : a % b = 0) :
    Calls Tryz.prog 73 #[.agg #[.bool na, .slice A n ca], .agg #[.bool nb, .slice B m cb]] w (RWW w (mkN true (a / b)) (digs (a / b)) (mkN na (a % b)) (digs (a % b)) 0) := by
  have h41 := (chk_ok.1 (chkB_ok.1 hv).1).1
  have h42 := (chk_ok.1 (chkB_ok.1 hv).2).1
  have hml := Nat.mod_lt a hb
  have hq0 : (digs (a / b)).length ≤ 4096 := Nat.le_trans (digs_mono (Nat.div_le_self a b)) h41
  have hr0 : (digs (a % b)).length ≤ 4096 := Nat.le_trans (digs_mono (Nat.le_of_lt hml)) h42
  have HLq : Hid (mkL (a / b) = digs (a / b)) := by show _ = _; unfold mkL; rw [if_pos hq0]
  have HLr : Hid (mkL (a % b) = digs (a % b)) := by show _ = _; unfold mkL; rw [if_pos hr0]
  have HEq : Hid (mkE (a / b) = 0) := by show _ = _; unfold mkE; rw [if_pos hq0]
  have HEr : Hid (mkE (a % b) = 0) := by show _ = _; unfold mkE; rw [if_pos hr0]
  rw [hA.len] at h41
  rw [hB.len] at h42
  have hm0 : 0 < m := by rw [← hB.len, digs_pos]; exact hb
  have hm1 : ((m : Int) == 0) = false := by simp; omega
  have hcB := hB.cap
  have hxB := hB.max
  have HA := Lib.hid hA
  have HB := Lib.hid hB
  have HV := Lib.hid hv
  have HVq : Hid (val (digs (a / b)) = a / b) := digs_val _
  have HVr : Hid (val (digs (a % b)) = a % b) := digs_val _
  have hrl : decide (0 < (digs (a % b)).length) = decide (0 < a % b) := decide_eq_decide.2 digs_pos
  have hrz : decide (0 < (digs (a % b)).length) = false := by rw [hrl]; simp; omega
  have H0 := Lib.hid h0
  clear hrl h0
  clear hv hA hB hml
  rcases hs with ⟨rfl, rfl⟩ | ⟨rfl, rfl⟩
  · go_enter Tryz.func73, Tryz.ntmps73
    go_wp2_with fail
    refine (rboth_any _ _ _ _ _ _ _ _ _ _ _ ((((HA.out.box _).box _).box _).box _) ((((HB.out.box _).box _).box _).box _) 0 HV.out).mono ?_
    rintro e w1 ⟨rfl, hb1⟩
    have ⟨PA, PB, PQ, PR⟩ := boxes4 hb1
    have LA1 := Lib.hid (((((HA.out.box _).box _).box _).box _).via hb1)
    have LB1 := Lib.hid (((((HB.out.box _).box _).box _).box _).via hb1)
    have HB1 := Lib.hid (bbox (bbox (bbox (bbox hb1))))
    have ⟨a0, a1, _, _, _⟩ := PA
    have ⟨b0, b1, _, _, _⟩ := PB
    clear hb1
    go_wp2_with fail
    refine (rover_any w1 A B n m ca cb a b LA1.out LB1.out hb (by omega)).mono ?_
    rintro e w2 ⟨Q, cq, R, cr, rfl, hQ, hR, hb2⟩
    have PA2 := PA.via hb2
    have PB2 := PB.via hb2
    have PQ2 := PQ.via hb2
    have PR2 := PR.via hb2
    have HB2 := Lib.hid (HB1.out.trans (hb2.mono HB1.out.size))
    have HQ := Lib.hid hQ
    have HR := Lib.hid hR
    have LB2 := Lib.hid (LB1.out.via hb2)
    clear PA PB PQ PR LA1 LB1 HB1 a0 a1 b0 b1 hb2 hQ hR
    have ⟨a0, a1, _, _, _⟩ := PA2
    have ⟨b0, b1, _, _, _⟩ := PB2
    go_wp2_with fail
    refine (rmade_any w2 _ _ _ _ _ (a / b) HQ.out HVq.out (by omega)).mono ?_
    rintro e w3 ⟨A3, n3, c3, rfl, hL3, hb3⟩
    rw [HLq.out] at hL3
    rw [HEq.out]
    have PA4 := (PA2.via hb3).alloc (.cells #[.bool (mkN true (a / b)), .slice A3 n3 c3] 24)
    have PB4 := (PB2.via hb3).alloc (.cells #[.bool (mkN true (a / b)), .slice A3 n3 c3] 24)
    have PQ4 := (PQ2.via hb3).alloc (.cells #[.bool (mkN true (a / b)), .slice A3 n3 c3] 24)
    have PR4 := (PR2.via hb3).alloc (.cells #[.bool (mkN true (a / b)), .slice A3 n3 c3] 24)
    have HB4 := Lib.hid ((HB2.out.trans (hb3.mono HB2.out.size)).alloc (HB2.out.trans (hb3.mono HB2.out.size)).size (.cells #[.bool (mkN true (a / b)), .slice A3 n3 c3] 24))
    have HR4 := Lib.hid ((HR.out.via hb3).box (.cells #[.bool (mkN true (a / b)), .slice A3 n3 c3] 24))
    have LB4 := Lib.hid ((LB2.out.via hb3).box (.cells #[.bool (mkN true (a / b)), .slice A3 n3 c3] 24))
    have HL4 := Lib.hid (hL3.box (.cells #[.bool (mkN true (a / b)), .slice A3 n3 c3] 24))
    have PX4 := Pr.new w3 w3.heap.size rfl (.bool (mkN true (a / b))) (.slice A3 n3 c3) 24
    have hlt3 : w.heap.size + 1 + 1 + 1 < w3.heap.size := (PR2.via hb3).lt
    clear PA2 PB2 PQ2 PR2 HQ HR HB2 LB2 hb3 hL3 a0 a1 b0 b1
    have ⟨a0, a1, _, _, _⟩ := PA4
    have ⟨b0, b1, _, _, _⟩ := PB4
    go_wp2_with fail
    generalize w3.alloc (.cells #[.bool (mkN true (a / b)), .slice A3 n3 c3] 24) = w4 at *
    generalize w3.heap.size = g3 at *
    refine (rmade_any w4 _ _ _ _ _ (a % b) HR4.out HVr.out (by omega)).mono ?_
    rintro e w5 ⟨A5, n5, c5, rfl, hL5, hb5⟩
    rw [HLr.out] at hL5
    rw [HEr.out]
    have PA6 := (PA4.via hb5).alloc (.cells #[.bool (mkN true (a % b)), .slice A5 n5 c5] 24)
    have PB6 := (PB4.via hb5).alloc (.cells #[.bool (mkN true (a % b)), .slice A5 n5 c5] 24)
    have PQ6 := (PQ4.via hb5).alloc (.cells #[.bool (mkN true (a % b)), .slice A5 n5 c5] 24)
    have PR6 := (PR4.via hb5).alloc (.cells #[.bool (mkN true (a % b)), .slice A5 n5 c5] 24)
    have PX6 := (PX4.via hb5).alloc (.cells #[.bool (mkN true (a % b)), .slice A5 n5 c5] 24)
    have HB6 := Lib.hid ((HB4.out.trans (hb5.mono HB4.out.size)).alloc (HB4.out.trans (hb5.mono HB4.out.size)).size (.cells #[.bool (mkN true (a % b)), .slice A5 n5 c5] 24))
    have LB6 := Lib.hid ((LB4.out.via hb5).box (.cells #[.bool (mkN true (a % b)), .slice A5 n5 c5] 24))
    have HL6 := Lib.hid ((HL4.out.via hb5).box (.cells #[.bool (mkN true (a % b)), .slice A5 n5 c5] 24))
    have HM6 := Lib.hid (hL5.box (.cells #[.bool (mkN true (a % b)), .slice A5 n5 c5] 24))
    have PY6 := Pr.new w5 w5.heap.size rfl (.bool (mkN true (a % b))) (.slice A5 n5 c5) 24
    have hlt5 : g3 < w5.heap.size := (PX4.via hb5).lt
    clear PA4 PB4 PQ4 PR4 PX4 HB4 HR4 LB4 HL4 hb5 hL5 a0 a1 b0 b1
    have ⟨a0, a1, _, _, _⟩ := PA6
    have ⟨b0, b1, _, _, _⟩ := PB6
    go_wp2_with fail
    generalize w5.alloc (.cells #[.bool (mkN true (a % b)), .slice A5 n5 c5] 24) = w6 at *
    generalize w5.heap.size = g5 at *
    have ⟨q0, q1, qf0, qf1, ql⟩ := PQ6
    have ⟨r0, r1, rf0, rf1, rl⟩ := PR6
    have ⟨x0, x1, xf0, xf1, xl⟩ := PX6
    have ⟨y0, y1, yf0, yf1, yl⟩ := PY6
    go_region
    all_goals
      go_wp2
      refine post_ww Tryz.results73 rfl rfl rfl ((PQ6.set _ _).far (by omega) _ _).drew ((PR6.far (by omega) _ _).set _ _).drew ⟨A3, n3, c3, A5, n5, c5, rfl, ?_, ?_, ?_⟩
      · exact ((HL6.out.setP PQ6 _ _).setP (PR6.far (by omega) _ _) _ _).drew
      · exact ((HM6.out.setP PQ6 _ _).setP (PR6.far (by omega) _ _) _ _).drew
      · exact (below_set2 (below_set2 HB6.out (by omega) _ _) (by omega) _ _).drew
  · go_enter Tryz.func73, Tryz.ntmps73
    go_wp2_with fail
    refine (rboth_any _ _ _ _ _ _ _ _ _ _ _ ((((HA.out.box _).box _).box _).box _) ((((HB.out.box _).box _).box _).box _) 0 HV.out).mono ?_
    rintro e w1 ⟨rfl, hb1⟩
    have ⟨PA, PB, PQ, PR⟩ := boxes4 hb1
    have LA1 := Lib.hid (((((HA.out.box _).box _).box _).box _).via hb1)
    have LB1 := Lib.hid (((((HB.out.box _).box _).box _).box _).via hb1)
    have HB1 := Lib.hid (bbox (bbox (bbox (bbox hb1))))
    have ⟨a0, a1, _, _, _⟩ := PA
    have ⟨b0, b1, _, _, _⟩ := PB
    clear hb1
    go_wp2_with fail
    refine (rover_any w1 A B n m ca cb a b LA1.out LB1.out hb (by omega)).mono ?_
    rintro e w2 ⟨Q, cq, R, cr, rfl, hQ, hR, hb2⟩
    have PA2 := PA.via hb2
    have PB2 := PB.via hb2
    have PQ2 := PQ.via hb2
    have PR2 := PR.via hb2
    have HB2 := Lib.hid (HB1.out.trans (hb2.mono HB1.out.size))
    have HQ := Lib.hid hQ
    have HR := Lib.hid hR
    have LB2 := Lib.hid (LB1.out.via hb2)
    clear PA PB PQ PR LA1 LB1 HB1 a0 a1 b0 b1 hb2 hQ hR
    have ⟨a0, a1, _, _, _⟩ := PA2
    have ⟨b0, b1, _, _, _⟩ := PB2
    go_wp2_with fail
    refine (rmade_any w2 _ _ _ _ _ (a / b) HQ.out HVq.out (by omega)).mono ?_
    rintro e w3 ⟨A3, n3, c3, rfl, hL3, hb3⟩
    rw [HLq.out] at hL3
    rw [HEq.out]
    have PA4 := (PA2.via hb3).alloc (.cells #[.bool (mkN true (a / b)), .slice A3 n3 c3] 24)
    have PB4 := (PB2.via hb3).alloc (.cells #[.bool (mkN true (a / b)), .slice A3 n3 c3] 24)
    have PQ4 := (PQ2.via hb3).alloc (.cells #[.bool (mkN true (a / b)), .slice A3 n3 c3] 24)
    have PR4 := (PR2.via hb3).alloc (.cells #[.bool (mkN true (a / b)), .slice A3 n3 c3] 24)
    have HB4 := Lib.hid ((HB2.out.trans (hb3.mono HB2.out.size)).alloc (HB2.out.trans (hb3.mono HB2.out.size)).size (.cells #[.bool (mkN true (a / b)), .slice A3 n3 c3] 24))
    have HR4 := Lib.hid ((HR.out.via hb3).box (.cells #[.bool (mkN true (a / b)), .slice A3 n3 c3] 24))
    have LB4 := Lib.hid ((LB2.out.via hb3).box (.cells #[.bool (mkN true (a / b)), .slice A3 n3 c3] 24))
    have HL4 := Lib.hid (hL3.box (.cells #[.bool (mkN true (a / b)), .slice A3 n3 c3] 24))
    have PX4 := Pr.new w3 w3.heap.size rfl (.bool (mkN true (a / b))) (.slice A3 n3 c3) 24
    have hlt3 : w.heap.size + 1 + 1 + 1 < w3.heap.size := (PR2.via hb3).lt
    clear PA2 PB2 PQ2 PR2 HQ HR HB2 LB2 hb3 hL3 a0 a1 b0 b1
    have ⟨a0, a1, _, _, _⟩ := PA4
    have ⟨b0, b1, _, _, _⟩ := PB4
    go_wp2_with fail
    generalize w3.alloc (.cells #[.bool (mkN true (a / b)), .slice A3 n3 c3] 24) = w4 at *
    generalize w3.heap.size = g3 at *
    refine (rmade_any w4 _ _ _ _ _ (a % b) HR4.out HVr.out (by omega)).mono ?_
    rintro e w5 ⟨A5, n5, c5, rfl, hL5, hb5⟩
    rw [HLr.out] at hL5
    rw [HEr.out]
    have PA6 := (PA4.via hb5).alloc (.cells #[.bool (mkN false (a % b)), .slice A5 n5 c5] 24)
    have PB6 := (PB4.via hb5).alloc (.cells #[.bool (mkN false (a % b)), .slice A5 n5 c5] 24)
    have PQ6 := (PQ4.via hb5).alloc (.cells #[.bool (mkN false (a % b)), .slice A5 n5 c5] 24)
    have PR6 := (PR4.via hb5).alloc (.cells #[.bool (mkN false (a % b)), .slice A5 n5 c5] 24)
    have PX6 := (PX4.via hb5).alloc (.cells #[.bool (mkN false (a % b)), .slice A5 n5 c5] 24)
    have HB6 := Lib.hid ((HB4.out.trans (hb5.mono HB4.out.size)).alloc (HB4.out.trans (hb5.mono HB4.out.size)).size (.cells #[.bool (mkN false (a % b)), .slice A5 n5 c5] 24))
    have LB6 := Lib.hid ((LB4.out.via hb5).box (.cells #[.bool (mkN false (a % b)), .slice A5 n5 c5] 24))
    have HL6 := Lib.hid ((HL4.out.via hb5).box (.cells #[.bool (mkN false (a % b)), .slice A5 n5 c5] 24))
    have HM6 := Lib.hid (hL5.box (.cells #[.bool (mkN false (a % b)), .slice A5 n5 c5] 24))
    have PY6 := Pr.new w5 w5.heap.size rfl (.bool (mkN false (a % b))) (.slice A5 n5 c5) 24
    have hlt5 : g3 < w5.heap.size := (PX4.via hb5).lt
    clear PA4 PB4 PQ4 PR4 PX4 HB4 HR4 LB4 HL4 hb5 hL5 a0 a1 b0 b1
    have ⟨a0, a1, _, _, _⟩ := PA6
    have ⟨b0, b1, _, _, _⟩ := PB6
    go_wp2_with fail
    generalize w5.alloc (.cells #[.bool (mkN false (a % b)), .slice A5 n5 c5] 24) = w6 at *
    generalize w5.heap.size = g5 at *
    have ⟨q0, q1, qf0, qf1, ql⟩ := PQ6
    have ⟨r0, r1, rf0, rf1, rl⟩ := PR6
    have ⟨x0, x1, xf0, xf1, xl⟩ := PX6
    have ⟨y0, y1, yf0, yf1, yl⟩ := PY6
    go_region
    all_goals
      go_wp2
      refine post_ww Tryz.results73 rfl rfl rfl ((PQ6.set _ _).far (by omega) _ _).drew ((PR6.far (by omega) _ _).set _ _).drew ⟨A3, n3, c3, A5, n5, c5, rfl, ?_, ?_, ?_⟩
      · exact ((HL6.out.setP PQ6 _ _).setP (PR6.far (by omega) _ _) _ _).drew
      · exact ((HM6.out.setP PQ6 _ _).setP (PR6.far (by omega) _ _) _ _).drew
      · exact (below_set2 (below_set2 HB6.out (by omega) _ _) (by omega) _ _).drew
end Go.Proofs.YtioccpbohhhkpaaGreat

/- The reference's DivMod, rounded down. -/
namespace Go.Proofs.YtioccpbohhhkpaaGreat
open Go.RowKit

theorem rfrom_m1 (w : World) : Calls Tryz.prog 54 #[.int .i64 (-1)] w fun e w' => ∃ A n c, e = .returned (.agg #[.bool true, .slice A n c]) ∧ Lm w' w'.heap.size A n c (digs 1) ∧ Below w.heap.size w w' :=
  (rfrom_any w (-1) (by omega) (by omega)).mono fun _ _ ⟨A, n, c, he, hL, hb⟩ => ⟨A, n, c, he, hL, hb⟩
theorem toI_mkN {v : Nat} (h : (digs v).length ≤ 4096) (neg : Bool) : toI (mkN neg v) v = toI neg v := by
  unfold mkN toI
  rw [decide_eq_true h, Bool.true_and]
  by_cases h0 : v = 0
  · subst h0; cases neg <;> rfl
  · rw [decide_eq_true h0, Bool.and_true]
theorem mkL_digs {v : Nat} (h : (digs v).length ≤ 4096) : mkL v = digs v := by unfold mkL; rw [if_pos h]
theorem mkE_zero {v : Nat} (h : (digs v).length ≤ 4096) : mkE v = 0 := by unfold mkE; rw [if_pos h]
theorem down_le {a b : Nat} (hb : 0 < b) (h0 : 0 < a % b) : a / b + 1 ≤ a := by
  have h := Nat.div_add_mod a b
  have hb2 : 2 ≤ b := by have := Nat.mod_lt a hb; omega
  have h2 : 2 * (a / b) ≤ b * (a / b) := Nat.mul_le_mul_right _ hb2
  generalize a / b = z at *
  omega

set_option maxRecDepth 100000 in
set_option maxHeartbeats 2000000 in
theorem rdivmod_down (w : World) (na nb : Bool) (A B : Option Addr) (n m ca cb a b : Nat) (hA : Lm w w.heap.size A n ca (digs a)) (hB : Lm w w.heap.size B m cb (digs b)) (hv : chkB na (digs a) nb (digs b) = 0) (hb : 0 < b) (hs : na = true ∧ nb = false ∨ na = false ∧ nb = true) (h0 : 0 < a % b) :
    Calls Tryz.prog 73 #[.agg #[.bool na, .slice A n ca], .agg #[.bool nb, .slice B m cb]] w (RWW w (mkN true (a / b + 1)) (digs (a / b + 1)) (mkN nb (b - a % b)) (digs (b - a % b)) 0) := by
  have h41 := (chk_ok.1 (chkB_ok.1 hv).1).1
  have h42 := (chk_ok.1 (chkB_ok.1 hv).2).1
  have hml := Nat.mod_lt a hb
  have hq0 : (digs (a / b)).length ≤ 4096 := Nat.le_trans (digs_mono (Nat.div_le_self a b)) h41
  have hr0 : (digs (a % b)).length ≤ 4096 := Nat.le_trans (digs_mono (Nat.le_of_lt hml)) h42
  have HLq : Hid (mkL (a / b) = digs (a / b)) := by show _ = _; unfold mkL; rw [if_pos hq0]
  have HLr : Hid (mkL (a % b) = digs (a % b)) := by show _ = _; unfold mkL; rw [if_pos hr0]
  have HEq : Hid (mkE (a / b) = 0) := by show _ = _; unfold mkE; rw [if_pos hq0]
  have HEr : Hid (mkE (a % b) = 0) := by show _ = _; unfold mkE; rw [if_pos hr0]
  have hq1 : (digs (a / b + 1)).length ≤ 4096 := Nat.le_trans (digs_mono (down_le hb h0)) h41
  have hr1 : (digs (b - a % b)).length ≤ 4096 := Nat.le_trans (digs_mono (Nat.sub_le _ _)) h42
  have HS1 : Hid (∀ (W : World) (A' A'' : Option Addr) (n' c' n'' c'' : Nat), Lm W W.heap.size A' n' c' (digs (a / b)) → Lm W W.heap.size A'' n'' c'' (digs 1) → Calls Tryz.prog 72 #[.agg #[.bool (mkN true (a / b)), .slice A' n' c'], .agg #[.bool true, .slice A'' n'' c'']] W (RW W (mkN true (a / b + 1)) (digs (a / b + 1)) 0)) := by
    intro W A' A'' n' c' n'' c'' h1 h2
    have h3 := rsum_any W (mkN true (a / b)) true A' A'' n' n'' c' c'' (a / b) 1 h1 h2 (by rw [← h1.len]; omega) (by rw [← h2.len]; have : (digs 1).length ≤ 1 := digs_len.2 (by omega); omega)
    rw [← rz_of W true (a / b + 1) (by rw [toI_mkN hq0]; unfold toI; simp; omega), mkL_digs hq1, mkE_zero hq1] at h3
    exact h3
  have HS2 : Hid (∀ (W : World) (A' : Option Addr) (n' c' : Nat), Lm W W.heap.size A' n' c' (digs (a % b)) → Lm W W.heap.size B m cb (digs b) → Calls Tryz.prog 72 #[.agg #[.bool (mkN na (a % b)), .slice A' n' c'], .agg #[.bool nb, .slice B m cb]] W (RW W (mkN nb (b - a % b)) (digs (b - a % b)) 0)) := by
    intro W A' n' c' h1 h2
    have h3 := rsum_any W (mkN na (a % b)) nb A' B n' m c' cb (a % b) b h1 h2 (by rw [← h1.len]; omega) (by rw [← h2.len]; omega)
    rw [← rz_of W nb (b - a % b) (by rw [toI_mkN hr0]; rcases hs with ⟨e1, e2⟩ | ⟨e1, e2⟩ <;> subst e1 <;> subst e2 <;> simp only [toI, Bool.false_eq_true, if_true, if_false] <;> omega), mkL_digs hr1, mkE_zero hr1] at h3
    exact h3
  rw [hA.len] at h41
  rw [hB.len] at h42
  have hm0 : 0 < m := by rw [← hB.len, digs_pos]; exact hb
  have hm1 : ((m : Int) == 0) = false := by simp; omega
  have hcB := hB.cap
  have hxB := hB.max
  have HA := Lib.hid hA
  have HB := Lib.hid hB
  have HV := Lib.hid hv
  have HVq : Hid (val (digs (a / b)) = a / b) := digs_val _
  have HVr : Hid (val (digs (a % b)) = a % b) := digs_val _
  have hrl : decide (0 < (digs (a % b)).length) = decide (0 < a % b) := decide_eq_decide.2 digs_pos
  have hrz : decide (0 < (digs (a % b)).length) = true := by rw [hrl]; simpa using h0
  clear hrl
  clear hv hA hB hml
  rcases hs with ⟨rfl, rfl⟩ | ⟨rfl, rfl⟩
  · go_enter Tryz.func73, Tryz.ntmps73
    go_wp2_with fail
    refine (rboth_any _ _ _ _ _ _ _ _ _ _ _ ((((HA.out.box _).box _).box _).box _) ((((HB.out.box _).box _).box _).box _) 0 HV.out).mono ?_
    rintro e w1 ⟨rfl, hb1⟩
    have ⟨PA, PB, PQ, PR⟩ := boxes4 hb1
    have LA1 := Lib.hid (((((HA.out.box _).box _).box _).box _).via hb1)
    have LB1 := Lib.hid (((((HB.out.box _).box _).box _).box _).via hb1)
    have HB1 := Lib.hid (bbox (bbox (bbox (bbox hb1))))
    have ⟨a0, a1, _, _, _⟩ := PA
    have ⟨b0, b1, _, _, _⟩ := PB
    clear hb1
    go_wp2_with fail
    refine (rover_any w1 A B n m ca cb a b LA1.out LB1.out hb (by omega)).mono ?_
    rintro e w2 ⟨Q, cq, R, cr, rfl, hQ, hR, hb2⟩
    have PA2 := PA.via hb2
    have PB2 := PB.via hb2
    have PQ2 := PQ.via hb2
    have PR2 := PR.via hb2
    have HB2 := Lib.hid (HB1.out.trans (hb2.mono HB1.out.size))
    have HQ := Lib.hid hQ
    have HR := Lib.hid hR
    have LB2 := Lib.hid (LB1.out.via hb2)
    clear PA PB PQ PR LA1 LB1 HB1 a0 a1 b0 b1 hb2 hQ hR
    have ⟨a0, a1, _, _, _⟩ := PA2
    have ⟨b0, b1, _, _, _⟩ := PB2
    go_wp2_with fail
    refine (rmade_any w2 _ _ _ _ _ (a / b) HQ.out HVq.out (by omega)).mono ?_
    rintro e w3 ⟨A3, n3, c3, rfl, hL3, hb3⟩
    rw [HLq.out] at hL3
    rw [HEq.out]
    have PA4 := (PA2.via hb3).alloc (.cells #[.bool (mkN true (a / b)), .slice A3 n3 c3] 24)
    have PB4 := (PB2.via hb3).alloc (.cells #[.bool (mkN true (a / b)), .slice A3 n3 c3] 24)
    have PQ4 := (PQ2.via hb3).alloc (.cells #[.bool (mkN true (a / b)), .slice A3 n3 c3] 24)
    have PR4 := (PR2.via hb3).alloc (.cells #[.bool (mkN true (a / b)), .slice A3 n3 c3] 24)
    have HB4 := Lib.hid ((HB2.out.trans (hb3.mono HB2.out.size)).alloc (HB2.out.trans (hb3.mono HB2.out.size)).size (.cells #[.bool (mkN true (a / b)), .slice A3 n3 c3] 24))
    have HR4 := Lib.hid ((HR.out.via hb3).box (.cells #[.bool (mkN true (a / b)), .slice A3 n3 c3] 24))
    have LB4 := Lib.hid ((LB2.out.via hb3).box (.cells #[.bool (mkN true (a / b)), .slice A3 n3 c3] 24))
    have HL4 := Lib.hid (hL3.box (.cells #[.bool (mkN true (a / b)), .slice A3 n3 c3] 24))
    have PX4 := Pr.new w3 w3.heap.size rfl (.bool (mkN true (a / b))) (.slice A3 n3 c3) 24
    have hlt3 : w.heap.size + 1 + 1 + 1 < w3.heap.size := (PR2.via hb3).lt
    clear PA2 PB2 PQ2 PR2 HQ HR HB2 LB2 hb3 hL3 a0 a1 b0 b1
    have ⟨a0, a1, _, _, _⟩ := PA4
    have ⟨b0, b1, _, _, _⟩ := PB4
    go_wp2_with fail
    generalize w3.alloc (.cells #[.bool (mkN true (a / b)), .slice A3 n3 c3] 24) = w4 at *
    generalize w3.heap.size = g3 at *
    refine (rmade_any w4 _ _ _ _ _ (a % b) HR4.out HVr.out (by omega)).mono ?_
    rintro e w5 ⟨A5, n5, c5, rfl, hL5, hb5⟩
    rw [HLr.out] at hL5
    rw [HEr.out]
    have PA6 := (PA4.via hb5).alloc (.cells #[.bool (mkN true (a % b)), .slice A5 n5 c5] 24)
    have PB6 := (PB4.via hb5).alloc (.cells #[.bool (mkN true (a % b)), .slice A5 n5 c5] 24)
    have PQ6 := (PQ4.via hb5).alloc (.cells #[.bool (mkN true (a % b)), .slice A5 n5 c5] 24)
    have PR6 := (PR4.via hb5).alloc (.cells #[.bool (mkN true (a % b)), .slice A5 n5 c5] 24)
    have PX6 := (PX4.via hb5).alloc (.cells #[.bool (mkN true (a % b)), .slice A5 n5 c5] 24)
    have HB6 := Lib.hid ((HB4.out.trans (hb5.mono HB4.out.size)).alloc (HB4.out.trans (hb5.mono HB4.out.size)).size (.cells #[.bool (mkN true (a % b)), .slice A5 n5 c5] 24))
    have LB6 := Lib.hid ((LB4.out.via hb5).box (.cells #[.bool (mkN true (a % b)), .slice A5 n5 c5] 24))
    have HL6 := Lib.hid ((HL4.out.via hb5).box (.cells #[.bool (mkN true (a % b)), .slice A5 n5 c5] 24))
    have HM6 := Lib.hid (hL5.box (.cells #[.bool (mkN true (a % b)), .slice A5 n5 c5] 24))
    have PY6 := Pr.new w5 w5.heap.size rfl (.bool (mkN true (a % b))) (.slice A5 n5 c5) 24
    have hlt5 : g3 < w5.heap.size := (PX4.via hb5).lt
    clear PA4 PB4 PQ4 PR4 PX4 HB4 HR4 LB4 HL4 hb5 hL5 a0 a1 b0 b1
    have ⟨a0, a1, _, _, _⟩ := PA6
    have ⟨b0, b1, _, _, _⟩ := PB6
    go_wp2_with fail
    generalize w5.alloc (.cells #[.bool (mkN true (a % b)), .slice A5 n5 c5] 24) = w6 at *
    generalize w5.heap.size = g5 at *
    have ⟨q0, q1, qf0, qf1, ql⟩ := PQ6
    have ⟨r0, r1, rf0, rf1, rl⟩ := PR6
    have ⟨x0, x1, xf0, xf1, xl⟩ := PX6
    have ⟨y0, y1, yf0, yf1, yl⟩ := PY6
    go_region_with
      (first
       | (go_at_call 54; refine (rfrom_m1 _).mono ?_; rintro e ws ⟨As, ns, cs, rfl, hLs, hbs⟩; have Bs := (Below.refl w6.heap.size w6).drew.trans hbs; have PXs := PX6.via Bs; have ⟨xs0, xs1, xsf0, xsf1, xsl⟩ := PXs)
       | (go_at_call 72; refine (HS1.out ws A3 As n3 c3 ns cs (HL6.out.via Bs) hLs).mono ?_; rintro e wt ⟨At, nt, ct, rfl, hLt, hbt⟩; have PXt := PXs.via hbt; have ⟨xt0, xt1, xtf0, xtf1, xtl⟩ := PXt))
    all_goals
      have Bt := Bs.trans (hbt.mono Bs.size)
      have PA7 := (PA6.via Bt).far (h := g3) (by omega) (.bool (mkN true (a / b + 1))) (.slice At nt ct)
      have PB7 := (PB6.via Bt).far (h := g3) (by omega) (.bool (mkN true (a / b + 1))) (.slice At nt ct)
      have PQ7 := (PQ6.via Bt).far (h := g3) (by omega) (.bool (mkN true (a / b + 1))) (.slice At nt ct)
      have PR7 := (PR6.via Bt).far (h := g3) (by omega) (.bool (mkN true (a / b + 1))) (.slice At nt ct)
      have PY7 := (PY6.via Bt).far (h := g3) (by omega) (.bool (mkN true (a / b + 1))) (.slice At nt ct)
      have PX7 := PXt.set (.bool (mkN true (a / b + 1))) (.slice At nt ct)
      have HL7 := Lib.hid (hLt.setP PXt (.bool (mkN true (a / b + 1))) (.slice At nt ct))
      have HM7 := Lib.hid ((HM6.out.via Bt).setP PXt (.bool (mkN true (a / b + 1))) (.slice At nt ct))
      have LB7 := Lib.hid ((LB6.out.via Bt).setP PXt (.bool (mkN true (a / b + 1))) (.slice At nt ct))
      have HB7 := Lib.hid (below_set2 (HB6.out.trans (Bt.mono HB6.out.size)) (g := g3) (by omega) (.bool (mkN true (a / b + 1))) (.slice At nt ct))
      have ⟨y70, y71, _, _, _⟩ := PY7
      have ⟨b70, b71, _, _, _⟩ := PB7
      go_wp2_with fail
      generalize (wt.setCell ⟨g3, 0, none⟩ (.bool (mkN true (a / b + 1)))).setCell ⟨g3, 1, none⟩ (.slice At nt ct) = w7 at *
      refine (HS2.out w7 A5 n5 c5 HM7.out LB7.out).mono ?_
      rintro e w8 ⟨A8, n8, c8, rfl, hL8, hb8⟩
      have PY8 := PY7.via hb8
      have ⟨y80, y81, yf80, yf81, _⟩ := PY8
      have PQ9 := (PQ7.via hb8).far (h := g5) (by omega) (.bool (mkN false (b - a % b))) (.slice A8 n8 c8)
      have PR9 := (PR7.via hb8).far (h := g5) (by omega) (.bool (mkN false (b - a % b))) (.slice A8 n8 c8)
      have PX9 := (PX7.via hb8).far (h := g5) (by omega) (.bool (mkN false (b - a % b))) (.slice A8 n8 c8)
      have PY9 := PY8.set (.bool (mkN false (b - a % b))) (.slice A8 n8 c8)
      have HM9 := Lib.hid (hL8.setP PY8 (.bool (mkN false (b - a % b))) (.slice A8 n8 c8))
      have HL9 := Lib.hid ((HL7.out.via hb8).setP PY8 (.bool (mkN false (b - a % b))) (.slice A8 n8 c8))
      have HB9 := Lib.hid (below_set2 (HB7.out.trans (hb8.mono HB7.out.size)) (g := g5) (by omega) (.bool (mkN false (b - a % b))) (.slice A8 n8 c8))
      go_wp2_with fail
      generalize (w8.setCell ⟨g5, 0, none⟩ (.bool (mkN false (b - a % b)))).setCell ⟨g5, 1, none⟩ (.slice A8 n8 c8) = w9 at *
      have ⟨q90, q91, qf90, qf91, ql9⟩ := PQ9
      have ⟨r90, r91, rf90, rf91, rl9⟩ := PR9
      have ⟨x90, x91, xf90, xf91, xl9⟩ := PX9
      have ⟨y90, y91, yf90, yf91, yl9⟩ := PY9
      go_region
      all_goals
        go_wp2
        refine post_ww Tryz.results73 rfl rfl rfl ((PQ9.set _ _).far (by omega) _ _).drew ((PR9.far (by omega) _ _).set _ _).drew ⟨At, nt, ct, A8, n8, c8, rfl, ?_, ?_, ?_⟩
        · exact ((HL9.out.setP PQ9 _ _).setP (PR9.far (by omega) _ _) _ _).drew
        · exact ((HM9.out.setP PQ9 _ _).setP (PR9.far (by omega) _ _) _ _).drew
        · exact (below_set2 (below_set2 HB9.out (by omega) _ _) (by omega) _ _).drew
  · go_enter Tryz.func73, Tryz.ntmps73
    go_wp2_with fail
    refine (rboth_any _ _ _ _ _ _ _ _ _ _ _ ((((HA.out.box _).box _).box _).box _) ((((HB.out.box _).box _).box _).box _) 0 HV.out).mono ?_
    rintro e w1 ⟨rfl, hb1⟩
    have ⟨PA, PB, PQ, PR⟩ := boxes4 hb1
    have LA1 := Lib.hid (((((HA.out.box _).box _).box _).box _).via hb1)
    have LB1 := Lib.hid (((((HB.out.box _).box _).box _).box _).via hb1)
    have HB1 := Lib.hid (bbox (bbox (bbox (bbox hb1))))
    have ⟨a0, a1, _, _, _⟩ := PA
    have ⟨b0, b1, _, _, _⟩ := PB
    clear hb1
    go_wp2_with fail
    refine (rover_any w1 A B n m ca cb a b LA1.out LB1.out hb (by omega)).mono ?_
    rintro e w2 ⟨Q, cq, R, cr, rfl, hQ, hR, hb2⟩
    have PA2 := PA.via hb2
    have PB2 := PB.via hb2
    have PQ2 := PQ.via hb2
    have PR2 := PR.via hb2
    have HB2 := Lib.hid (HB1.out.trans (hb2.mono HB1.out.size))
    have HQ := Lib.hid hQ
    have HR := Lib.hid hR
    have LB2 := Lib.hid (LB1.out.via hb2)
    clear PA PB PQ PR LA1 LB1 HB1 a0 a1 b0 b1 hb2 hQ hR
    have ⟨a0, a1, _, _, _⟩ := PA2
    have ⟨b0, b1, _, _, _⟩ := PB2
    go_wp2_with fail
    refine (rmade_any w2 _ _ _ _ _ (a / b) HQ.out HVq.out (by omega)).mono ?_
    rintro e w3 ⟨A3, n3, c3, rfl, hL3, hb3⟩
    rw [HLq.out] at hL3
    rw [HEq.out]
    have PA4 := (PA2.via hb3).alloc (.cells #[.bool (mkN true (a / b)), .slice A3 n3 c3] 24)
    have PB4 := (PB2.via hb3).alloc (.cells #[.bool (mkN true (a / b)), .slice A3 n3 c3] 24)
    have PQ4 := (PQ2.via hb3).alloc (.cells #[.bool (mkN true (a / b)), .slice A3 n3 c3] 24)
    have PR4 := (PR2.via hb3).alloc (.cells #[.bool (mkN true (a / b)), .slice A3 n3 c3] 24)
    have HB4 := Lib.hid ((HB2.out.trans (hb3.mono HB2.out.size)).alloc (HB2.out.trans (hb3.mono HB2.out.size)).size (.cells #[.bool (mkN true (a / b)), .slice A3 n3 c3] 24))
    have HR4 := Lib.hid ((HR.out.via hb3).box (.cells #[.bool (mkN true (a / b)), .slice A3 n3 c3] 24))
    have LB4 := Lib.hid ((LB2.out.via hb3).box (.cells #[.bool (mkN true (a / b)), .slice A3 n3 c3] 24))
    have HL4 := Lib.hid (hL3.box (.cells #[.bool (mkN true (a / b)), .slice A3 n3 c3] 24))
    have PX4 := Pr.new w3 w3.heap.size rfl (.bool (mkN true (a / b))) (.slice A3 n3 c3) 24
    have hlt3 : w.heap.size + 1 + 1 + 1 < w3.heap.size := (PR2.via hb3).lt
    clear PA2 PB2 PQ2 PR2 HQ HR HB2 LB2 hb3 hL3 a0 a1 b0 b1
    have ⟨a0, a1, _, _, _⟩ := PA4
    have ⟨b0, b1, _, _, _⟩ := PB4
    go_wp2_with fail
    generalize w3.alloc (.cells #[.bool (mkN true (a / b)), .slice A3 n3 c3] 24) = w4 at *
    generalize w3.heap.size = g3 at *
    refine (rmade_any w4 _ _ _ _ _ (a % b) HR4.out HVr.out (by omega)).mono ?_
    rintro e w5 ⟨A5, n5, c5, rfl, hL5, hb5⟩
    rw [HLr.out] at hL5
    rw [HEr.out]
    have PA6 := (PA4.via hb5).alloc (.cells #[.bool (mkN false (a % b)), .slice A5 n5 c5] 24)
    have PB6 := (PB4.via hb5).alloc (.cells #[.bool (mkN false (a % b)), .slice A5 n5 c5] 24)
    have PQ6 := (PQ4.via hb5).alloc (.cells #[.bool (mkN false (a % b)), .slice A5 n5 c5] 24)
    have PR6 := (PR4.via hb5).alloc (.cells #[.bool (mkN false (a % b)), .slice A5 n5 c5] 24)
    have PX6 := (PX4.via hb5).alloc (.cells #[.bool (mkN false (a % b)), .slice A5 n5 c5] 24)
    have HB6 := Lib.hid ((HB4.out.trans (hb5.mono HB4.out.size)).alloc (HB4.out.trans (hb5.mono HB4.out.size)).size (.cells #[.bool (mkN false (a % b)), .slice A5 n5 c5] 24))
    have LB6 := Lib.hid ((LB4.out.via hb5).box (.cells #[.bool (mkN false (a % b)), .slice A5 n5 c5] 24))
    have HL6 := Lib.hid ((HL4.out.via hb5).box (.cells #[.bool (mkN false (a % b)), .slice A5 n5 c5] 24))
    have HM6 := Lib.hid (hL5.box (.cells #[.bool (mkN false (a % b)), .slice A5 n5 c5] 24))
    have PY6 := Pr.new w5 w5.heap.size rfl (.bool (mkN false (a % b))) (.slice A5 n5 c5) 24
    have hlt5 : g3 < w5.heap.size := (PX4.via hb5).lt
    clear PA4 PB4 PQ4 PR4 PX4 HB4 HR4 LB4 HL4 hb5 hL5 a0 a1 b0 b1
    have ⟨a0, a1, _, _, _⟩ := PA6
    have ⟨b0, b1, _, _, _⟩ := PB6
    go_wp2_with fail
    generalize w5.alloc (.cells #[.bool (mkN false (a % b)), .slice A5 n5 c5] 24) = w6 at *
    generalize w5.heap.size = g5 at *
    have ⟨q0, q1, qf0, qf1, ql⟩ := PQ6
    have ⟨r0, r1, rf0, rf1, rl⟩ := PR6
    have ⟨x0, x1, xf0, xf1, xl⟩ := PX6
    have ⟨y0, y1, yf0, yf1, yl⟩ := PY6
    go_region_with
      (first
       | (go_at_call 54; refine (rfrom_m1 _).mono ?_; rintro e ws ⟨As, ns, cs, rfl, hLs, hbs⟩; have Bs := (Below.refl w6.heap.size w6).drew.trans hbs; have PXs := PX6.via Bs; have ⟨xs0, xs1, xsf0, xsf1, xsl⟩ := PXs)
       | (go_at_call 72; refine (HS1.out ws A3 As n3 c3 ns cs (HL6.out.via Bs) hLs).mono ?_; rintro e wt ⟨At, nt, ct, rfl, hLt, hbt⟩; have PXt := PXs.via hbt; have ⟨xt0, xt1, xtf0, xtf1, xtl⟩ := PXt))
    all_goals
      have Bt := Bs.trans (hbt.mono Bs.size)
      have PA7 := (PA6.via Bt).far (h := g3) (by omega) (.bool (mkN true (a / b + 1))) (.slice At nt ct)
      have PB7 := (PB6.via Bt).far (h := g3) (by omega) (.bool (mkN true (a / b + 1))) (.slice At nt ct)
      have PQ7 := (PQ6.via Bt).far (h := g3) (by omega) (.bool (mkN true (a / b + 1))) (.slice At nt ct)
      have PR7 := (PR6.via Bt).far (h := g3) (by omega) (.bool (mkN true (a / b + 1))) (.slice At nt ct)
      have PY7 := (PY6.via Bt).far (h := g3) (by omega) (.bool (mkN true (a / b + 1))) (.slice At nt ct)
      have PX7 := PXt.set (.bool (mkN true (a / b + 1))) (.slice At nt ct)
      have HL7 := Lib.hid (hLt.setP PXt (.bool (mkN true (a / b + 1))) (.slice At nt ct))
      have HM7 := Lib.hid ((HM6.out.via Bt).setP PXt (.bool (mkN true (a / b + 1))) (.slice At nt ct))
      have LB7 := Lib.hid ((LB6.out.via Bt).setP PXt (.bool (mkN true (a / b + 1))) (.slice At nt ct))
      have HB7 := Lib.hid (below_set2 (HB6.out.trans (Bt.mono HB6.out.size)) (g := g3) (by omega) (.bool (mkN true (a / b + 1))) (.slice At nt ct))
      have ⟨y70, y71, _, _, _⟩ := PY7
      have ⟨b70, b71, _, _, _⟩ := PB7
      go_wp2_with fail
      generalize (wt.setCell ⟨g3, 0, none⟩ (.bool (mkN true (a / b + 1)))).setCell ⟨g3, 1, none⟩ (.slice At nt ct) = w7 at *
      refine (HS2.out w7 A5 n5 c5 HM7.out LB7.out).mono ?_
      rintro e w8 ⟨A8, n8, c8, rfl, hL8, hb8⟩
      have PY8 := PY7.via hb8
      have ⟨y80, y81, yf80, yf81, _⟩ := PY8
      have PQ9 := (PQ7.via hb8).far (h := g5) (by omega) (.bool (mkN true (b - a % b))) (.slice A8 n8 c8)
      have PR9 := (PR7.via hb8).far (h := g5) (by omega) (.bool (mkN true (b - a % b))) (.slice A8 n8 c8)
      have PX9 := (PX7.via hb8).far (h := g5) (by omega) (.bool (mkN true (b - a % b))) (.slice A8 n8 c8)
      have PY9 := PY8.set (.bool (mkN true (b - a % b))) (.slice A8 n8 c8)
      have HM9 := Lib.hid (hL8.setP PY8 (.bool (mkN true (b - a % b))) (.slice A8 n8 c8))
      have HL9 := Lib.hid ((HL7.out.via hb8).setP PY8 (.bool (mkN true (b - a % b))) (.slice A8 n8 c8))
      have HB9 := Lib.hid (below_set2 (HB7.out.trans (hb8.mono HB7.out.size)) (g := g5) (by omega) (.bool (mkN true (b - a % b))) (.slice A8 n8 c8))
      go_wp2_with fail
      generalize (w8.setCell ⟨g5, 0, none⟩ (.bool (mkN true (b - a % b)))).setCell ⟨g5, 1, none⟩ (.slice A8 n8 c8) = w9 at *
      have ⟨q90, q91, qf90, qf91, ql9⟩ := PQ9
      have ⟨r90, r91, rf90, rf91, rl9⟩ := PR9
      have ⟨x90, x91, xf90, xf91, xl9⟩ := PX9
      have ⟨y90, y91, yf90, yf91, yl9⟩ := PY9
      go_region
      all_goals
        go_wp2
        refine post_ww Tryz.results73 rfl rfl rfl ((PQ9.set _ _).far (by omega) _ _).drew ((PR9.far (by omega) _ _).set _ _).drew ⟨At, nt, ct, A8, n8, c8, rfl, ?_, ?_, ?_⟩
        · exact ((HL9.out.setP PQ9 _ _).setP (PR9.far (by omega) _ _) _ _).drew
        · exact ((HM9.out.setP PQ9 _ _).setP (PR9.far (by omega) _ _) _ _).drew
        · exact (below_set2 (below_set2 HB9.out (by omega) _ _) (by omega) _ _).drew
end Go.Proofs.YtioccpbohhhkpaaGreat

/- The reference for fractions: Check, Reduced, Same, Great. -/
namespace Go.Proofs.YtioccpbohhhkpaaGreat
open Go.RowKit

theorem sign_of {x p z : Int} (h : x = p * z) (hz : z ≠ 0) : decide (p < 0) = (decide (x < 0) != decide (z < 0) && decide (p ≠ 0)) := by
  subst h
  rcases Int.lt_trichotomy p 0 with hp | hp | hp
  · rcases Int.lt_or_gt_of_ne hz with h | h
    · have := Int.mul_pos_of_neg_of_neg hp h
      rw [decide_eq_true hp, decide_eq_false (show ¬ p * z < 0 by omega), decide_eq_true h, decide_eq_true (show p ≠ 0 by omega)]; rfl
    · have := Int.mul_neg_of_neg_of_pos hp h
      rw [decide_eq_true hp, decide_eq_true this, decide_eq_false (show ¬ z < 0 by omega), decide_eq_true (show p ≠ 0 by omega)]; rfl
  · subst hp; simp
  · rcases Int.lt_or_gt_of_ne hz with h | h
    · have := Int.mul_neg_of_pos_of_neg hp h
      rw [decide_eq_false (show ¬ p < 0 by omega), decide_eq_true this, decide_eq_true h]; rfl
    · have := Int.mul_pos hp h
      rw [decide_eq_false (show ¬ p < 0 by omega), decide_eq_false (show ¬ p * z < 0 by omega), decide_eq_false (show ¬ z < 0 by omega)]; rfl
/-- The reference's DivMod where the second number divides the first one. -/
theorem rdiv_x (w : World) (A B : Option Addr) (n m ca cb k : Nat) (x z p : Int) (hA : Lm w w.heap.size A n ca (digs x.natAbs)) (hB : Lm w w.heap.size B m cb (digs z.natAbs)) (hx : Sz k x) (hz : Sz k z) (hk : k ≤ 2000) (hz0 : z ≠ 0) (hp : x = p * z)
    {na nb : Bool} (ha : decide (x < 0) = na) (hb : decide (z < 0) = nb) :
    Calls Tryz.prog 73 #[.agg #[.bool na, .slice A n ca], .agg #[.bool nb, .slice B m cb]] w fun e w' => ∃ A n c g A' n' c', e = .returned (.tuple #[.agg #[.bool (decide (p < 0)), .slice A n c], .agg #[.bool g, .slice A' n' c'], .int .i64 0]) ∧ Lm w' w'.heap.size A n c (digs p.natAbs) ∧ Below w.heap.size w w' := by
  have hv := chkB_z hx (show k ≤ 4096 by omega) hz (show k ≤ 4096 by omega)
  have hs := sign_of hp hz0
  rw [ha, hb] at hv hs
  have hbp : 0 < z.natAbs := by omega
  have e1 : x.natAbs = p.natAbs * z.natAbs := by rw [hp, Int.natAbs_mul]
  have e2 : x.natAbs / z.natAbs = p.natAbs := by rw [e1]; exact Nat.mul_div_cancel _ hbp
  have e3 : x.natAbs % z.natAbs = 0 := by rw [e1]; exact Nat.mul_mod_left _ _
  have hpl : (digs p.natAbs).length ≤ 4096 := by
    rw [← e2]
    exact Nat.le_trans (digs_mono (Nat.div_le_self _ _)) (Nat.le_trans hx.len (by omega))
  have hdz : decide (p.natAbs ≠ 0) = decide (p ≠ 0) := by rw [decide_eq_decide]; omega
  by_cases hsame : na = nb
  · have h := rdivmod_same w na nb A B n m ca cb _ _ hA hB hv hbp hsame (decide (0 < x.natAbs % z.natAbs)) rfl
    refine h.mono fun e w' hr => ?_
    obtain ⟨A1, n1, c1, A2, n2, c2, he, h1, _, hbl⟩ := hr
    rw [e2] at he h1
    have e4 : mkN false p.natAbs = decide (p < 0) := by rw [hs, hsame]; unfold mkN; simp
    rw [e4] at he
    exact ⟨A1, n1, c1, _, A2, n2, c2, he, h1, hbl⟩
  · have hs2 : na = true ∧ nb = false ∨ na = false ∧ nb = true := by cases na <;> cases nb <;> simp_all
    have h := rdivmod_exact w na nb A B n m ca cb _ _ hA hB hv hbp hs2 e3
    refine h.mono fun e w' hr => ?_
    obtain ⟨A1, n1, c1, A2, n2, c2, he, h1, _, hbl⟩ := hr
    rw [e2] at he h1
    have e4 : mkN true p.natAbs = decide (p < 0) := by
      rw [hs]
      unfold mkN
      rw [decide_eq_true hpl, hdz]
      rcases hs2 with ⟨h1, h2⟩ | ⟨h1, h2⟩ <;> rw [h1, h2] <;> simp
    rw [e4] at he
    exact ⟨A1, n1, c1, _, A2, n2, c2, he, h1, hbl⟩

set_option maxRecDepth 100000 in
set_option maxHeartbeats 400000 in
theorem fgreat_any (w : World) (nn dn : Bool) (A B : Option Addr) (n m ca cb : Nat) (h1 : n ≤ ca) (h2 : ca ≤ 9223372036854775807) (h3 : m ≤ cb) (h4 : cb ≤ 9223372036854775807) :
    Calls Tryz.prog 4 #[fv nn A n ca dn B m cb] w fun e w' => e = .returned (.bool (decide (130 < n) || decide (130 < m))) ∧ Below w.heap.size w w' := by
  go_enter Tryz.func4, Tryz.ntmps4
  go_wp2
  all_goals
    go_ret
    first
      | exact ⟨ret_bool (a := decide ((130 : Int) < (n : Int)) || decide ((130 : Int) < (m : Int))) (by congr 1 <;> (rw [decide_eq_decide]; omega)), by go_grown⟩
      | exact ⟨ret_bool (a := true) (by simp; omega), by go_grown⟩
set_option maxRecDepth 100000 in
set_option maxHeartbeats 1000000 in
theorem fsame_self (w : World) (nn dn : Bool) (A B A' B' : Option Addr) (n m n' m' ca cb ca' cb' : Nat) (xs ys : List Nat) (hA : Lm w w.heap.size A n ca xs) (hB : Lm w w.heap.size B m cb ys) (hA' : Lm w w.heap.size A' n' ca' xs) (hB' : Lm w w.heap.size B' m' cb' ys) :
    Calls Tryz.prog 18 #[fv nn A n ca dn B m cb, fv nn A' n' ca' dn B' m' cb'] w fun e w' => e = .returned (.bool true) ∧ Below w.heap.size w w' := by
  have HA := Lib.hid hA
  have HB := Lib.hid hB
  have HA' := Lib.hid hA'
  have HB' := Lib.hid hB'
  clear hA hB hA' hB'
  go_enter Tryz.func18, Tryz.ntmps18
  go_wp2_with fail
  refine (rsame_self _ _ _ _ _ _ _ _ _ ((HA.out.box _).box _) ((HA'.out.box _).box _)).mono ?_
  rintro e w1 ⟨rfl, hb1⟩
  have Q1 := ((Qd.new w _ rfl (.bool nn) (.slice A n ca) (.bool dn) (.slice B m cb) 26).alloc _).via hb1
  have Q2 := (Qd.new (w.alloc (.cells #[.bool nn, .slice A n ca, .bool dn, .slice B m cb] 26)) (w.heap.size + 1) (by simp) (.bool nn) (.slice A' n' ca') (.bool dn) (.slice B' m' cb') 26).via hb1
  have LB := Lib.hid (((HB.out.box _).box _).via hb1)
  have LB' := Lib.hid (((HB'.out.box _).box _).via hb1)
  have B1 := Lib.hid (bbox (bbox hb1))
  have ⟨_, _, q2, q3, _, _, _, _, ql⟩ := Q1
  have ⟨_, _, s2, s3, _, _, _, _, sl⟩ := Q2
  clear hb1 Q1 Q2 HA HB HA' HB'
  go_wp2_with fail
  refine (rsame_self _ _ _ _ _ _ _ _ _ LB.out LB'.out).mono ?_
  rintro e w2 ⟨rfl, hb2⟩
  go_wp2
  go_ret
  exact ⟨rfl, btr B1.out hb2⟩
set_option maxRecDepth 100000 in
set_option maxHeartbeats 1000000 in
theorem rfcheck_nbad (w : World) (nn dn : Bool) (A B : Option Addr) (n m ca cb : Nat) (xs ys : List Nat) (hA : Lm w w.heap.size A n ca xs) (hB : Lm w w.heap.size B m cb ys) (hn : chk nn xs = 8) :
    Calls Tryz.prog 30 #[fv nn A n ca dn B m cb] w fun e w' => e = .returned (.int .i64 8) ∧ Below w.heap.size w w' := by
  have HA := Lib.hid hA
  have HB := Lib.hid hB
  have HN := Lib.hid hn
  clear hn
  clear hA hB
  go_enter Tryz.func30, Tryz.ntmps30
  go_wp2_with fail
  refine (rcheck_bad _ nn A n ca xs (HA.out.box _) HN.out).mono ?_
  rintro e w1 ⟨rfl, hb1⟩
  have Q1 := (Qd.new w _ rfl (.bool nn) (.slice A n ca) (.bool dn) (.slice B m cb) 26).via hb1
  have LA := Lib.hid ((HA.out.box _).via hb1)
  have LB := Lib.hid ((HB.out.box _).via hb1)
  have B1 := Lib.hid (bbox hb1)
  have HQ := Lib.hid Q1
  have ⟨q0, q1, q2, q3, _, _, _, _, ql⟩ := Q1
  clear hb1 Q1 HA HB
  go_wp2
  go_ret
  exact ⟨rfl, B1.out⟩
set_option maxRecDepth 100000 in
set_option maxHeartbeats 1000000 in
theorem rfcheck_dbad (w : World) (nn dn : Bool) (A B : Option Addr) (n m ca cb : Nat) (xs ys : List Nat) (hA : Lm w w.heap.size A n ca xs) (hB : Lm w w.heap.size B m cb ys) (hn : chk nn xs = 0) (hd : chk dn ys = 8) :
    Calls Tryz.prog 30 #[fv nn A n ca dn B m cb] w fun e w' => e = .returned (.int .i64 8) ∧ Below w.heap.size w w' := by
  have HA := Lib.hid hA
  have HB := Lib.hid hB
  have HN := Lib.hid hn
  have HD := Lib.hid hd
  clear hn hd
  clear hA hB
  go_enter Tryz.func30, Tryz.ntmps30
  go_wp2_with fail
  refine (rcheck_ok _ nn A n ca xs (HA.out.box _) HN.out).mono ?_
  rintro e w1 ⟨rfl, hb1⟩
  have Q1 := (Qd.new w _ rfl (.bool nn) (.slice A n ca) (.bool dn) (.slice B m cb) 26).via hb1
  have LA := Lib.hid ((HA.out.box _).via hb1)
  have LB := Lib.hid ((HB.out.box _).via hb1)
  have B1 := Lib.hid (bbox hb1)
  have HQ := Lib.hid Q1
  have ⟨q0, q1, q2, q3, _, _, _, _, ql⟩ := Q1
  clear hb1 Q1 HA HB
  go_wp2_with fail
  refine (rcheck_bad _ dn B m cb ys LB.out HD.out).mono ?_
  rintro e w2 ⟨rfl, hb2⟩
  have B2 := Lib.hid (btr B1.out hb2)
  clear hb2
  go_wp2
  go_ret
  exact ⟨rfl, B2.out⟩
set_option maxRecDepth 100000 in
set_option maxHeartbeats 1000000 in
theorem rfcheck_neg (w : World) (nn dn : Bool) (A B : Option Addr) (n m ca cb : Nat) (xs ys : List Nat) (hA : Lm w w.heap.size A n ca xs) (hB : Lm w w.heap.size B m cb ys) (hn : chk nn xs = 0) (hd : chk dn ys = 0) (ht : dn = true) :
    Calls Tryz.prog 30 #[fv nn A n ca dn B m cb] w fun e w' => e = .returned (.int .i64 8) ∧ Below w.heap.size w w' := by
  have HA := Lib.hid hA
  have HB := Lib.hid hB
  subst ht
  have HN := Lib.hid hn
  have HD := Lib.hid hd
  clear hn hd
  clear hA hB
  go_enter Tryz.func30, Tryz.ntmps30
  go_wp2_with fail
  refine (rcheck_ok _ nn A n ca xs (HA.out.box _) HN.out).mono ?_
  rintro e w1 ⟨rfl, hb1⟩
  have Q1 := (Qd.new w _ rfl (.bool nn) (.slice A n ca) (.bool true) (.slice B m cb) 26).via hb1
  have LA := Lib.hid ((HA.out.box _).via hb1)
  have LB := Lib.hid ((HB.out.box _).via hb1)
  have B1 := Lib.hid (bbox hb1)
  have HQ := Lib.hid Q1
  have ⟨q0, q1, q2, q3, _, _, _, _, ql⟩ := Q1
  clear hb1 Q1 HA HB
  go_wp2_with fail
  refine (rcheck_ok _ true B m cb ys LB.out HD.out).mono ?_
  rintro e w2 ⟨rfl, hb2⟩
  have B2 := Lib.hid (btr B1.out hb2)
  have Q2 := HQ.out.via hb2
  have LA2 := Lib.hid (LA.out.via hb2)
  have LB2 := Lib.hid (LB.out.via hb2)
  have HQ2 := Lib.hid Q2
  clear hb2 q0 q1 q2 q3 ql LA LB HQ
  have ⟨q0, q1, q2, q3, _, _, _, _, ql⟩ := Q2
  clear Q2
  go_wp2
  go_ret
  exact ⟨rfl, B2.out⟩
set_option maxRecDepth 100000 in
set_option maxHeartbeats 1000000 in
theorem rfcheck_zero (w : World) (nn dn : Bool) (A B : Option Addr) (n m ca cb : Nat) (xs ys : List Nat) (hA : Lm w w.heap.size A n ca xs) (hB : Lm w w.heap.size B m cb ys) (hn : chk nn xs = 0) (hd : chk dn ys = 0) (ht : dn = false) (hz : ys = []) :
    Calls Tryz.prog 30 #[fv nn A n ca dn B m cb] w fun e w' => e = .returned (.int .i64 8) ∧ Below w.heap.size w w' := by
  have HA := Lib.hid hA
  have HB := Lib.hid hB
  subst ht hz
  obtain rfl : m = 0 := HB.out.len.symm
  have HN := Lib.hid hn
  have HD := Lib.hid hd
  clear hn hd
  clear hA hB
  go_enter Tryz.func30, Tryz.ntmps30
  go_wp2_with fail
  refine (rcheck_ok _ nn A n ca xs (HA.out.box _) HN.out).mono ?_
  rintro e w1 ⟨rfl, hb1⟩
  have Q1 := (Qd.new w _ rfl (.bool nn) (.slice A n ca) (.bool false) (.slice B 0 cb) 26).via hb1
  have LA := Lib.hid ((HA.out.box _).via hb1)
  have LB := Lib.hid ((HB.out.box _).via hb1)
  have B1 := Lib.hid (bbox hb1)
  have HQ := Lib.hid Q1
  have ⟨q0, q1, q2, q3, _, _, _, _, ql⟩ := Q1
  clear hb1 Q1 HA HB
  go_wp2_with fail
  refine (rcheck_ok _ false B 0 cb [] LB.out HD.out).mono ?_
  rintro e w2 ⟨rfl, hb2⟩
  have B2 := Lib.hid (btr B1.out hb2)
  have Q2 := HQ.out.via hb2
  have LA2 := Lib.hid (LA.out.via hb2)
  have LB2 := Lib.hid (LB.out.via hb2)
  have HQ2 := Lib.hid Q2
  clear hb2 q0 q1 q2 q3 ql LA LB HQ
  have ⟨q0, q1, q2, q3, _, _, _, _, ql⟩ := Q2
  clear Q2
  go_wp2
  go_ret
  exact ⟨rfl, B2.out⟩
set_option maxRecDepth 100000 in
set_option maxHeartbeats 1000000 in
theorem rfcheck_gcd (w : World) (nn dn : Bool) (A B : Option Addr) (n m ca cb : Nat) (xs ys : List Nat) (hA : Lm w w.heap.size A n ca xs) (hB : Lm w w.heap.size B m cb ys) (hn : chk nn xs = 0) (hd : chk dn ys = 0) (ht : dn = false) (hz : ys ≠ []) (g : Nat) (hgg : Nat.gcd (val xs) (val ys) = g) (r : Int) (hr : r = if g = 1 then 0 else 8) :
    Calls Tryz.prog 30 #[fv nn A n ca dn B m cb] w fun e w' => e = .returned (.int .i64 r) ∧ Below w.heap.size w w' := by
  have HA := Lib.hid hA
  have HB := Lib.hid hB
  subst ht
  have hm0 : 0 < m := by
    rcases Nat.eq_zero_or_pos m with h | h
    · exact absurd (List.eq_nil_of_length_eq_zero (by rw [HB.out.len]; exact h)) hz
    · exact h
  have hmz : ((m : Int) == 0) = false := by simp; omega
  have hcc := HB.out.cap
  have hcx := HB.out.max
  have HG0 := Lib.hid hgg
  have HR := Lib.hid hr
  have HV : Hid (chkB nn (digs (val xs)) false (digs (val ys)) = 0) := by
    show _ = _
    rw [← chk_digs hn HA.out.good, ← chk_digs hd HB.out.good]
    exact chkB_ok.2 ⟨hn, hd⟩
  have HDA := Lib.hid (chk_digs hn HA.out.good)
  have HDB := Lib.hid (chk_digs hd HB.out.good)
  have HGL : Hid ((digs g).length ≤ 4096) := by
    show _ ≤ _
    rw [← hgg]
    have h1 := (chk_ok.1 hd).1
    rw [chk_digs hd HB.out.good] at h1
    exact Nat.le_trans (digs_mono (Nat.gcd_le_right _ (val_pos (chk_ok.1 hd).2.1 hz))) h1
  clear hr hz hgg
  have HN := Lib.hid hn
  have HD := Lib.hid hd
  clear hn hd
  clear hA hB
  go_enter Tryz.func30, Tryz.ntmps30
  go_wp2_with fail
  refine (rcheck_ok _ nn A n ca xs (HA.out.box _) HN.out).mono ?_
  rintro e w1 ⟨rfl, hb1⟩
  have Q1 := (Qd.new w _ rfl (.bool nn) (.slice A n ca) (.bool false) (.slice B m cb) 26).via hb1
  have LA := Lib.hid ((HA.out.box _).via hb1)
  have LB := Lib.hid ((HB.out.box _).via hb1)
  have B1 := Lib.hid (bbox hb1)
  have HQ := Lib.hid Q1
  have ⟨q0, q1, q2, q3, _, _, _, _, ql⟩ := Q1
  clear hb1 Q1 HA HB
  go_wp2_with fail
  refine (rcheck_ok _ false B m cb ys LB.out HD.out).mono ?_
  rintro e w2 ⟨rfl, hb2⟩
  have B2 := Lib.hid (btr B1.out hb2)
  have Q2 := HQ.out.via hb2
  have LA2 := Lib.hid (LA.out.via hb2)
  have LB2 := Lib.hid (LB.out.via hb2)
  have HQ2 := Lib.hid Q2
  clear hb2 q0 q1 q2 q3 ql LA LB HQ
  have ⟨q0, q1, q2, q3, _, _, _, _, ql⟩ := Q2
  clear Q2
  have hA2 : Lm w2 w2.heap.size A n ca (digs (val xs)) := by rw [← HDA.out]; exact LA2.out
  have hB2 : Lm w2 w2.heap.size B m cb (digs (val ys)) := by rw [← HDB.out]; exact LB2.out
  have KA := Lib.hid hA2
  have KB := Lib.hid hB2
  clear hA2 hB2
  go_wp2_with fail
  have hcall := rgcd_ok w2 nn false A B n m ca cb _ _ KA.out KB.out HV.out
  rw [HG0.out] at hcall
  refine hcall.mono ?_
  clear hcall
  rintro e w3 ⟨A3, n3, c3, rfl, hL3, hb3⟩
  have e1 : mkN false g = false := by unfold mkN; simp
  have e2 : mkL g = digs g := by unfold mkL; rw [if_pos HGL.out]
  have e3 : mkE g = 0 := by unfold mkE; rw [if_pos HGL.out]
  rw [e1, e3]
  rw [e2] at hL3
  have L3 := Lib.hid (hL3.box (.cells #[.bool false, .slice A3 n3 c3] 24))
  have P3 := Lib.hid (Pr.new w3 _ rfl (.bool false) (.slice A3 n3 c3) 24)
  have B3 := Lib.hid ((btr B2.out hb3).alloc (btr B2.out hb3).size (.cells #[.bool false, .slice A3 n3 c3] 24))
  have HSB : Hid (sameB false (digs g) false (digs 1) = decide (g = 1)) := by
    show _ = _
    by_cases h : g = 1
    · rw [h, sameB_self]; rfl
    · rw [decide_eq_false h]
      unfold sameB
      have h2 : cmpL (digs g) (digs 1) ≠ 0 := fun e => h (by have := (cmpL_eq (digs_good _) (digs_good _)).1 e; rw [← digs_val g, this]; rfl)
      simp [h2]
  clear hL3 hb3 e1 e2 e3 q0 q1 q2 q3 ql KA KB LA2 LB2 HQ2 B1 B2
  have hd1 : decide ((1 : Int) < 0) = false := rfl
  go_wp2_with fail
  generalize w3.alloc (.cells #[.bool false, .slice A3 n3 c3] 24) = W3 at *
  generalize w3.heap.size = g3 at *
  have ⟨p0, p1, _, _, pl⟩ := P3.out
  have hrf := fun w => rfrom_any w 1 (by omega) (by omega)
  rw [hd1] at hrf
  have HRF := Lib.hid hrf
  clear hrf hd1
  go_region_held3 (fun w' => w'.cell? ⟨g3, 0, none⟩ = some (.bool false) ∧ w'.cell? ⟨g3, 1, none⟩ = some (.slice A3 n3 c3))
    (first
     | exact ⟨p0, p1⟩
     | exact ⟨(P3.out.via Bb).c0, (P3.out.via Bb).c1⟩
     | exact ⟨(P3.out.via Ba).c0, (P3.out.via Ba).c1⟩
     | exact ⟨P3.out.drew.c0, P3.out.drew.c1⟩)
    (first
     | (go_at_call 54; refine (HRF.out _).mono ?_; rintro e wa ⟨Aa, na', ca', rfl, hLa, hba⟩; have Ba : Below W3.heap.size W3 wa := (by first | exact hba | exact (Below.refl _ _).drew.trans hba); have L3a := L3.out.via Ba)
     | (go_at_call 36; refine (rsame_any _ false false A3 Aa n3 na' c3 ca' (digs g) (digs 1) L3a hLa).mono ?_; rintro e wb ⟨rfl, hbb⟩; have Bb := btr Ba hbb)
     | fail)
  all_goals
    rw [HSB.out]
    have BE := Lib.hid (btr B3.out Bb)
    have hR := HR.out
    by_cases hg : g = 1
    · rw [if_pos hg] at hR
      rw [decide_eq_true hg]
      subst hR
      clear hg
      go_wp2
      go_ret
      exact ⟨rfl, BE.out⟩
    · rw [if_neg hg] at hR
      rw [decide_eq_false hg]
      subst hR
      clear hg
      go_wp2
      go_ret
      exact ⟨rfl, BE.out⟩
theorem rfcheck_any (w : World) (nn dn : Bool) (A B : Option Addr) (n m ca cb : Nat) (xs ys : List Nat) (hA : Lm w w.heap.size A n ca xs) (hB : Lm w w.heap.size B m cb ys) :
    Calls Tryz.prog 30 #[fv nn A n ca dn B m cb] w fun e w' => e = .returned (.int .i64 (fchk nn xs dn ys)) ∧ Below w.heap.size w w' := by
  rcases chk_cases nn xs with hn | hn
  · rcases chk_cases dn ys with hd | hd
    · cases hdn : dn
      · subst hdn
        by_cases hz : ys = []
        · have e : fchk nn xs false ys = 8 := by unfold fchk; rw [if_neg (fun h => h.2.2.2.1 hz)]
          rw [e]
          exact rfcheck_zero w nn false A B n m ca cb xs ys hA hB hn hd rfl hz
        · refine rfcheck_gcd w nn false A B n m ca cb xs ys hA hB hn hd rfl hz _ rfl _ ?_
          unfold fchk
          by_cases hg : Nat.gcd (val xs) (val ys) = 1
          · rw [if_pos ⟨hn, hd, rfl, hz, hg⟩, if_pos hg]
          · rw [if_neg (fun h => hg h.2.2.2.2), if_neg hg]
      · subst hdn
        have e : fchk nn xs true ys = 8 := by unfold fchk; rw [if_neg (fun h => by cases h.2.2.1)]
        rw [e]
        exact rfcheck_neg w nn true A B n m ca cb xs ys hA hB hn hd rfl
    · have e : fchk nn xs dn ys = 8 := by unfold fchk; rw [if_neg (fun h => by have := h.2.1; omega)]
      rw [e]
      exact rfcheck_dbad w nn dn A B n m ca cb xs ys hA hB hn hd
  · have e : fchk nn xs dn ys = 8 := by unfold fchk; rw [if_neg (fun h => by have := h.1; omega)]
    rw [e]
    exact rfcheck_nbad w nn dn A B n m ca cb xs ys hA hB hn
end Go.Proofs.YtioccpbohhhkpaaGreat

/- The reference for fractions: Reduced. -/
namespace Go.Proofs.YtioccpbohhhkpaaGreat
open Go.RowKit

section
variable (w : World) (A B : Option Addr) (n m ca cb k : Nat) (x y : Int) (hA : Lm w w.heap.size A n ca (digs x.natAbs)) (hB : Lm w w.heap.size B m cb (digs y.natAbs)) (hx : Sz k x) (hy : Sz k y) (hk : k ≤ 2000) {na nb : Bool} (ha : decide (x < 0) = na) (hb : decide (y < 0) = nb)
include hA hx hk ha
theorem rneg_n2 : Calls Tryz.prog 31 #[.agg #[.bool na, .slice A n ca]] w (RN w (-x)) := by
  have hc := chk_z hx (show k ≤ 4096 by omega)
  rw [ha] at hc
  have h := rneg_ok w na A n ca _ hA hc
  refine h.mono fun e w' hr => ?_
  have hl : (digs x.natAbs).length ≤ 4096 := Nat.le_trans hx.len (by omega)
  have hr2 := rw_rn hl hr
  have e1 : toI (!na) x.natAbs = -x := by
    subst ha
    unfold toI
    by_cases h : x < 0
    · rw [decide_eq_true h]; simp; omega
    · rw [decide_eq_false h]; simp; omega
  rw [e1] at hr2
  exact hr2
include hB hy hb
theorem rgcd_n2 : Calls Tryz.prog 53 #[.agg #[.bool na, .slice A n ca], .agg #[.bool nb, .slice B m cb]] w fun e w' => ∃ A' n' c', e = .returned (.tuple #[.agg #[.bool false, .slice A' n' c'], .int .i64 0]) ∧ Lm w' w'.heap.size A' n' c' (digs (Nat.gcd x.natAbs y.natAbs)) ∧ Below w.heap.size w w' := by
  subst ha hb
  have hxl : (digs x.natAbs).length ≤ 4096 := Nat.le_trans hx.len (by omega)
  have hyl : (digs y.natAbs).length ≤ 4096 := Nat.le_trans hy.len (by omega)
  have h := rgcd_ok w _ _ A B n m ca cb _ _ hA hB (chkB_z hx (by omega) hy (by omega))
  have hgl : (digs (Nat.gcd x.natAbs y.natAbs)).length ≤ 4096 := by
    rcases Nat.eq_zero_or_pos x.natAbs with h0 | h0
    · rw [h0, Nat.gcd_zero_left]; exact hyl
    · exact Nat.le_trans (digs_mono (Nat.gcd_le_left _ h0)) hxl
  refine h.mono fun e w' hr => ?_
  obtain ⟨A', n', c', he, hL, hb⟩ := rw_rn (neg := false) hgl hr
  have e1 : decide (toI false (Nat.gcd x.natAbs y.natAbs) < 0) = false := by unfold toI; simp
  rw [e1] at he
  have e2 : (toI false (Nat.gcd x.natAbs y.natAbs)).natAbs = Nat.gcd x.natAbs y.natAbs := toI_abs _ _
  rw [e2] at hL
  exact ⟨A', n', c', he, hL, hb⟩
end

set_option maxRecDepth 100000 in
set_option maxHeartbeats 2000000 in
theorem rreduced_pos (w : World) (A B : Option Addr) (n m ca cb k : Nat) (x y : Int) (hA : Lm w w.heap.size A n ca (digs x.natAbs)) (hB : Lm w w.heap.size B m cb (digs y.natAbs)) (hx : Sz k x) (hy : Sz k y) (hk : k ≤ 2000) {na nb : Bool} (ha : decide (x < 0) = na) (hb : decide (y < 0) = nb) (hs : 0 < y) :
    Calls Tryz.prog 44 #[.agg #[.bool na, .slice A n ca], .agg #[.bool nb, .slice B m cb]] w (RFr w (x / dvr x y) (y / dvr x y)) := by
  have HA := Lib.hid hA
  have HB := Lib.hid hB
  have HX := Lib.hid hx
  have HY := Lib.hid hy
  have HC := Lib.hid hs
  obtain rfl : nb = false := by rw [← hb]; exact decide_eq_false (by omega)
  have HNa := Lib.hid ha
  have HNb := Lib.hid hb
  clear hA hB hx hy ha hb hs
  go_enter Tryz.func44, Tryz.ntmps44
  go_wp2_with fail
  refine (rgcd_n2 _ A B n m ca cb k x y (((HA.out.box _).box _).box _) (((HB.out.box _).box _).box _) HX.out HY.out hk HNa.out HNb.out).mono ?_
  rintro e w1 ⟨A1, n1, c1, rfl, hL1, hb1⟩
  have PA := Lib.hid (((((Pr.new w _ rfl (.bool na) (.slice A n ca) 24).alloc (.cells #[.bool false, .slice B m cb] 24)).alloc (.cells #[.bool false, .slice none 0 0, .bool false, .slice none 0 0] 26)).via hb1).alloc (.cells #[.bool false, .slice A1 n1 c1] 24))
  have PB := Lib.hid ((((Pr.new (w.alloc (.cells #[.bool na, .slice A n ca] 24)) (w.heap.size + 1) (by simp) (.bool false) (.slice B m cb) 24).alloc (.cells #[.bool false, .slice none 0 0, .bool false, .slice none 0 0] 26)).via hb1).alloc (.cells #[.bool false, .slice A1 n1 c1] 24))
  have QR := Lib.hid (((Qd.new ((w.alloc (.cells #[.bool na, .slice A n ca] 24)).alloc (.cells #[.bool false, .slice B m cb] 24)) (w.heap.size + 1 + 1) (by simp) (.bool false) (.slice none 0 0) (.bool false) (.slice none 0 0) 26).via hb1).alloc (.cells #[.bool false, .slice A1 n1 c1] 24))
  have PG := Lib.hid (Pr.new w1 _ rfl (.bool false) (.slice A1 n1 c1) 24)
  have LA := Lib.hid (((((HA.out.box _).box _).box _).via hb1).box (.cells #[.bool false, .slice A1 n1 c1] 24))
  have LB := Lib.hid (((((HB.out.box _).box _).box _).via hb1).box (.cells #[.bool false, .slice A1 n1 c1] 24))
  have L1 := Lib.hid (hL1.box (.cells #[.bool false, .slice A1 n1 c1] 24))
  have B1 := Lib.hid ((bbox (bbox (bbox hb1))).alloc (bbox (bbox (bbox hb1))).size (.cells #[.bool false, .slice A1 n1 c1] 24))
  have ⟨x0, x1, _, _, xl⟩ := ((((Pr.new w _ rfl (.bool na) (.slice A n ca) 24).alloc (.cells #[.bool false, .slice B m cb] 24)).alloc (.cells #[.bool false, .slice none 0 0, .bool false, .slice none 0 0] 26)).via hb1)
  have hg : w.heap.size + 1 + 1 < w1.heap.size := by have := hb1.size; simp only [World.size_alloc] at this; omega
  have ⟨y0, y1, _, _, yl⟩ := (((Pr.new (w.alloc (.cells #[.bool na, .slice A n ca] 24)) (w.heap.size + 1) (by simp) (.bool false) (.slice B m cb) 24).alloc (.cells #[.bool false, .slice none 0 0, .bool false, .slice none 0 0] 26)).via hb1)
  clear hb1 hL1 HA HB
  go_wp2_with fail
  clear y0 y1 yl x0 x1 xl
  generalize w1.alloc (.cells #[.bool false, .slice A1 n1 c1] 24) = W1 at *
  generalize w1.heap.size = g at *
  have HD : Hid (decide (dvr x y < 0) = false) := by
    show _ = _
    have := HC.out
    unfold dvr
    rw [if_neg (by omega)]
    simp
  have LC : Hid (Lm W1 W1.heap.size A1 n1 c1 (digs (dvr x y).natAbs)) := by
    have := HC.out
    have e : (dvr x y).natAbs = Nat.gcd x.natAbs y.natAbs := by unfold dvr; rw [if_neg (by omega)]; rfl
    rw [e]
    exact L1.out
  have BL := Lib.hid B1.out
  clear L1 B1
  refine (rdiv_x _ A A1 n n1 ca c1 k x (dvr x y) (x / dvr x y) LA.out LC.out HX.out (sz_dvr HY.out (by have := HC.out; omega)) hk (dvr_ne (by have := HC.out; omega)) (dvr_left x y) HNa.out HD.out).mono ?_
  rintro e w3 ⟨A3, n3, c3, g3, A4, n4, c4, rfl, hL3, hb3⟩
  obtain ⟨np, hnp⟩ : ∃ b, decide (x / dvr x y < 0) = b := ⟨_, rfl⟩
  rw [hnp]
  have HNp := Lib.hid hnp
  have P7 := Lib.hid ((Pr.new w3 _ rfl (.bool np) (.slice A3 n3 c3) 24).alloc (.cells #[.bool g3, .slice A4 n4 c4] 24))
  have KB := Lib.hid (((PB.out.via hb3).alloc (.cells #[.bool np, .slice A3 n3 c3] 24)).alloc (.cells #[.bool g3, .slice A4 n4 c4] 24))
  have KG := Lib.hid (((PG.out.via hb3).alloc (.cells #[.bool np, .slice A3 n3 c3] 24)).alloc (.cells #[.bool g3, .slice A4 n4 c4] 24))
  have KR := Lib.hid (((QR.out.via hb3).alloc (.cells #[.bool np, .slice A3 n3 c3] 24)).alloc (.cells #[.bool g3, .slice A4 n4 c4] 24))
  have ML := Lib.hid (((LB.out.via hb3).box (.cells #[.bool np, .slice A3 n3 c3] 24)).box (.cells #[.bool g3, .slice A4 n4 c4] 24))
  have MC := Lib.hid (((LC.out.via hb3).box (.cells #[.bool np, .slice A3 n3 c3] 24)).box (.cells #[.bool g3, .slice A4 n4 c4] 24))
  have M3 := Lib.hid ((hL3.box (.cells #[.bool np, .slice A3 n3 c3] 24)).box (.cells #[.bool g3, .slice A4 n4 c4] 24))
  have B3 := Lib.hid (((BL.out.trans (hb3.mono BL.out.size)).alloc (BL.out.trans (hb3.mono BL.out.size)).size (.cells #[.bool np, .slice A3 n3 c3] 24)).alloc ((BL.out.trans (hb3.mono BL.out.size)).alloc (BL.out.trans (hb3.mono BL.out.size)).size (.cells #[.bool np, .slice A3 n3 c3] 24)).size (.cells #[.bool g3, .slice A4 n4 c4] 24))
  have ⟨b0, b1, _, _, bl⟩ := KB.out
  have ⟨p0, p1, _, _, pl⟩ := KG.out
  clear hnp hb3 hL3 PA PB PG QR LA LB LC BL
  go_wp2_with fail
  clear b0 b1 bl p0 p1 pl
  generalize (w3.alloc (.cells #[.bool np, .slice A3 n3 c3] 24)).alloc (.cells #[.bool g3, .slice A4 n4 c4] 24) = W3 at *
  generalize w3.heap.size = h3 at *
  refine (rdiv_x _ B A1 m n1 cb c1 k y (dvr x y) (y / dvr x y) ML.out MC.out HY.out (sz_dvr HY.out (by have := HC.out; omega)) hk (dvr_ne (by have := HC.out; omega)) (dvr_right x y) HNb.out HD.out).mono ?_
  rintro e w4 ⟨A5, n5, c5, g5, A6, n6, c6, rfl, hL5, hb5⟩
  obtain ⟨nq, hnq⟩ : ∃ b, decide (y / dvr x y < 0) = b := ⟨_, rfl⟩
  rw [hnq]
  have HNq := Lib.hid hnq
  have PQ := Lib.hid ((Pr.new w4 _ rfl (.bool nq) (.slice A5 n5 c5) 24).alloc (.cells #[.bool g5, .slice A6 n6 c6] 24))
  have P7' := Lib.hid (((P7.out.via hb5).alloc (.cells #[.bool nq, .slice A5 n5 c5] 24)).alloc (.cells #[.bool g5, .slice A6 n6 c6] 24))
  have QR := Lib.hid (((KR.out.via hb5).alloc (.cells #[.bool nq, .slice A5 n5 c5] 24)).alloc (.cells #[.bool g5, .slice A6 n6 c6] 24))
  have M5 := Lib.hid ((hL5.box (.cells #[.bool nq, .slice A5 n5 c5] 24)).box (.cells #[.bool g5, .slice A6 n6 c6] 24))
  have M7 := Lib.hid (((M3.out.via hb5).box (.cells #[.bool nq, .slice A5 n5 c5] 24)).box (.cells #[.bool g5, .slice A6 n6 c6] 24))
  have B5 := Lib.hid (((B3.out.trans (hb5.mono B3.out.size)).alloc (B3.out.trans (hb5.mono B3.out.size)).size (.cells #[.bool nq, .slice A5 n5 c5] 24)).alloc ((B3.out.trans (hb5.mono B3.out.size)).alloc (B3.out.trans (hb5.mono B3.out.size)).size (.cells #[.bool nq, .slice A5 n5 c5] 24)).size (.cells #[.bool g5, .slice A6 n6 c6] 24))
  have ⟨s0, s1, _, _, sl⟩ := P7'.out
  have ⟨u0, u1, _, _, ul⟩ := PQ.out
  have ⟨r0, r1, r2, r3, rf0, rf1, rf2, rf3, rl⟩ := QR.out
  clear hnq hb5 hL5 P7 KB KG KR ML MC M3 B3
  go_wp2
  exact post_f1 Tryz.results44 rfl rfl (QR.out.set (.bool np) (.slice A3 n3 c3) (.bool nq) (.slice A5 n5 c5)) ⟨A3, n3, c3, A5, n5, c5, by rw [HNp.out, HNq.out], M7.out.put4 QR.out _ _ _ _, M5.out.put4 QR.out _ _ _ _, below_put4 B5.out (by omega) _ _ _ _⟩
set_option maxRecDepth 100000 in
set_option maxHeartbeats 2000000 in
theorem rreduced_neg (w : World) (A B : Option Addr) (n m ca cb k : Nat) (x y : Int) (hA : Lm w w.heap.size A n ca (digs x.natAbs)) (hB : Lm w w.heap.size B m cb (digs y.natAbs)) (hx : Sz k x) (hy : Sz k y) (hk : k ≤ 2000) {na nb : Bool} (ha : decide (x < 0) = na) (hb : decide (y < 0) = nb) (hs : y < 0) :
    Calls Tryz.prog 44 #[.agg #[.bool na, .slice A n ca], .agg #[.bool nb, .slice B m cb]] w (RFr w (x / dvr x y) (y / dvr x y)) := by
  have HA := Lib.hid hA
  have HB := Lib.hid hB
  have HX := Lib.hid hx
  have HY := Lib.hid hy
  have HC := Lib.hid hs
  obtain rfl : nb = true := by rw [← hb]; exact decide_eq_true hs
  have HNa := Lib.hid ha
  have HNb := Lib.hid hb
  clear hA hB hx hy ha hb hs
  go_enter Tryz.func44, Tryz.ntmps44
  go_wp2_with fail
  refine (rgcd_n2 _ A B n m ca cb k x y (((HA.out.box _).box _).box _) (((HB.out.box _).box _).box _) HX.out HY.out hk HNa.out HNb.out).mono ?_
  rintro e w1 ⟨A1, n1, c1, rfl, hL1, hb1⟩
  have PA := Lib.hid (((((Pr.new w _ rfl (.bool na) (.slice A n ca) 24).alloc (.cells #[.bool true, .slice B m cb] 24)).alloc (.cells #[.bool false, .slice none 0 0, .bool false, .slice none 0 0] 26)).via hb1).alloc (.cells #[.bool false, .slice A1 n1 c1] 24))
  have PB := Lib.hid ((((Pr.new (w.alloc (.cells #[.bool na, .slice A n ca] 24)) (w.heap.size + 1) (by simp) (.bool true) (.slice B m cb) 24).alloc (.cells #[.bool false, .slice none 0 0, .bool false, .slice none 0 0] 26)).via hb1).alloc (.cells #[.bool false, .slice A1 n1 c1] 24))
  have QR := Lib.hid (((Qd.new ((w.alloc (.cells #[.bool na, .slice A n ca] 24)).alloc (.cells #[.bool true, .slice B m cb] 24)) (w.heap.size + 1 + 1) (by simp) (.bool false) (.slice none 0 0) (.bool false) (.slice none 0 0) 26).via hb1).alloc (.cells #[.bool false, .slice A1 n1 c1] 24))
  have PG := Lib.hid (Pr.new w1 _ rfl (.bool false) (.slice A1 n1 c1) 24)
  have LA := Lib.hid (((((HA.out.box _).box _).box _).via hb1).box (.cells #[.bool false, .slice A1 n1 c1] 24))
  have LB := Lib.hid (((((HB.out.box _).box _).box _).via hb1).box (.cells #[.bool false, .slice A1 n1 c1] 24))
  have L1 := Lib.hid (hL1.box (.cells #[.bool false, .slice A1 n1 c1] 24))
  have B1 := Lib.hid ((bbox (bbox (bbox hb1))).alloc (bbox (bbox (bbox hb1))).size (.cells #[.bool false, .slice A1 n1 c1] 24))
  have ⟨x0, x1, _, _, xl⟩ := ((((Pr.new w _ rfl (.bool na) (.slice A n ca) 24).alloc (.cells #[.bool true, .slice B m cb] 24)).alloc (.cells #[.bool false, .slice none 0 0, .bool false, .slice none 0 0] 26)).via hb1)
  have hg : w.heap.size + 1 + 1 < w1.heap.size := by have := hb1.size; simp only [World.size_alloc] at this; omega
  have ⟨y0, y1, _, _, yl⟩ := (((Pr.new (w.alloc (.cells #[.bool na, .slice A n ca] 24)) (w.heap.size + 1) (by simp) (.bool true) (.slice B m cb) 24).alloc (.cells #[.bool false, .slice none 0 0, .bool false, .slice none 0 0] 26)).via hb1)
  clear hb1 hL1 HA HB
  go_wp2_with fail
  clear y0 y1 yl x0 x1 xl
  generalize w1.alloc (.cells #[.bool false, .slice A1 n1 c1] 24) = W1 at *
  generalize w1.heap.size = g at *
  have hg0 : Sz k (Nat.gcd x.natAbs y.natAbs : Int) := sz_gcd2 HY.out (by have := HC.out; omega)
  have HG := Lib.hid hg0
  have hdg : decide ((Nat.gcd x.natAbs y.natAbs : Int) < 0) = false := by simp
  have HDG := Lib.hid hdg
  have HD : Hid (decide (-(Nat.gcd x.natAbs y.natAbs : Int) < 0) = true) := by
    show _ = _
    have := HC.out
    have h : 0 < Nat.gcd x.natAbs y.natAbs := Nat.gcd_pos_of_pos_right _ (by omega)
    simp
    omega
  have HE : Hid (dvr x y = -(Nat.gcd x.natAbs y.natAbs : Int)) := by
    show _ = _
    have := HC.out
    unfold dvr
    rw [if_pos this]
  clear hg0 hdg
  refine (rneg_n2 _ A1 n1 c1 k (Nat.gcd x.natAbs y.natAbs : Int) L1.out HG.out hk HDG.out).mono ?_
  rintro e w2 ⟨A2, n2, c2, rfl, hL2, hb2⟩
  rw [HD.out]
  rw [← HE.out] at hL2 HD
  have P6 := PG.out.via hb2
  have KA := Lib.hid ((PA.out.via hb2).far (h := g) (by omega) (.bool true) (.slice A2 n2 c2))
  have KB := Lib.hid ((PB.out.via hb2).far (h := g) (by omega) (.bool true) (.slice A2 n2 c2))
  have KR := Lib.hid ((QR.out.via hb2).far2 (h := g) (x := .bool true) (y := .slice A2 n2 c2) (by omega))
  have ML := Lib.hid ((LA.out.via hb2).setP P6 (.bool true) (.slice A2 n2 c2))
  have MB := Lib.hid ((LB.out.via hb2).setP P6 (.bool true) (.slice A2 n2 c2))
  have LC := Lib.hid (hL2.setP P6 (.bool true) (.slice A2 n2 c2))
  have KG := Lib.hid (P6.set (.bool true) (.slice A2 n2 c2))
  have BL := Lib.hid (below_set2 (B1.out.trans (hb2.mono B1.out.size)) (g := g) (by omega) (.bool true) (.slice A2 n2 c2))
  have ⟨p0, p1, pf0, pf1, pl⟩ := P6
  have ⟨a0, a1, _, _, al⟩ := PA.out.via hb2
  clear hL2 hb2 PA PB QR LA LB L1 PG B1 P6
  go_wp2_with fail
  clear p0 p1 pf0 pf1 pl a0 a1 al
  generalize (w2.setCell ⟨g, 0, none⟩ (.bool true)).setCell ⟨g, 1, none⟩ (.slice A2 n2 c2) = W2 at *
  have PA := KA
  have PB := KB
  have QR := KR
  have LA := ML
  have LB := MB
  have PG := KG
  clear KA KB KR ML MB KG
  refine (rdiv_x _ A A2 n n2 ca c2 k x (dvr x y) (x / dvr x y) LA.out LC.out HX.out (sz_dvr HY.out (by have := HC.out; omega)) hk (dvr_ne (by have := HC.out; omega)) (dvr_left x y) HNa.out HD.out).mono ?_
  rintro e w3 ⟨A3, n3, c3, g3, A4, n4, c4, rfl, hL3, hb3⟩
  obtain ⟨np, hnp⟩ : ∃ b, decide (x / dvr x y < 0) = b := ⟨_, rfl⟩
  rw [hnp]
  have HNp := Lib.hid hnp
  have P7 := Lib.hid ((Pr.new w3 _ rfl (.bool np) (.slice A3 n3 c3) 24).alloc (.cells #[.bool g3, .slice A4 n4 c4] 24))
  have KB := Lib.hid (((PB.out.via hb3).alloc (.cells #[.bool np, .slice A3 n3 c3] 24)).alloc (.cells #[.bool g3, .slice A4 n4 c4] 24))
  have KG := Lib.hid (((PG.out.via hb3).alloc (.cells #[.bool np, .slice A3 n3 c3] 24)).alloc (.cells #[.bool g3, .slice A4 n4 c4] 24))
  have KR := Lib.hid (((QR.out.via hb3).alloc (.cells #[.bool np, .slice A3 n3 c3] 24)).alloc (.cells #[.bool g3, .slice A4 n4 c4] 24))
  have ML := Lib.hid (((LB.out.via hb3).box (.cells #[.bool np, .slice A3 n3 c3] 24)).box (.cells #[.bool g3, .slice A4 n4 c4] 24))
  have MC := Lib.hid (((LC.out.via hb3).box (.cells #[.bool np, .slice A3 n3 c3] 24)).box (.cells #[.bool g3, .slice A4 n4 c4] 24))
  have M3 := Lib.hid ((hL3.box (.cells #[.bool np, .slice A3 n3 c3] 24)).box (.cells #[.bool g3, .slice A4 n4 c4] 24))
  have B3 := Lib.hid (((BL.out.trans (hb3.mono BL.out.size)).alloc (BL.out.trans (hb3.mono BL.out.size)).size (.cells #[.bool np, .slice A3 n3 c3] 24)).alloc ((BL.out.trans (hb3.mono BL.out.size)).alloc (BL.out.trans (hb3.mono BL.out.size)).size (.cells #[.bool np, .slice A3 n3 c3] 24)).size (.cells #[.bool g3, .slice A4 n4 c4] 24))
  have ⟨b0, b1, _, _, bl⟩ := KB.out
  have ⟨p0, p1, _, _, pl⟩ := KG.out
  clear hnp hb3 hL3 PA PB PG QR LA LB LC BL
  go_wp2_with fail
  clear b0 b1 bl p0 p1 pl
  generalize (w3.alloc (.cells #[.bool np, .slice A3 n3 c3] 24)).alloc (.cells #[.bool g3, .slice A4 n4 c4] 24) = W3 at *
  generalize w3.heap.size = h3 at *
  refine (rdiv_x _ B A2 m n2 cb c2 k y (dvr x y) (y / dvr x y) ML.out MC.out HY.out (sz_dvr HY.out (by have := HC.out; omega)) hk (dvr_ne (by have := HC.out; omega)) (dvr_right x y) HNb.out HD.out).mono ?_
  rintro e w4 ⟨A5, n5, c5, g5, A6, n6, c6, rfl, hL5, hb5⟩
  obtain ⟨nq, hnq⟩ : ∃ b, decide (y / dvr x y < 0) = b := ⟨_, rfl⟩
  rw [hnq]
  have HNq := Lib.hid hnq
  have PQ := Lib.hid ((Pr.new w4 _ rfl (.bool nq) (.slice A5 n5 c5) 24).alloc (.cells #[.bool g5, .slice A6 n6 c6] 24))
  have P7' := Lib.hid (((P7.out.via hb5).alloc (.cells #[.bool nq, .slice A5 n5 c5] 24)).alloc (.cells #[.bool g5, .slice A6 n6 c6] 24))
  have QR := Lib.hid (((KR.out.via hb5).alloc (.cells #[.bool nq, .slice A5 n5 c5] 24)).alloc (.cells #[.bool g5, .slice A6 n6 c6] 24))
  have M5 := Lib.hid ((hL5.box (.cells #[.bool nq, .slice A5 n5 c5] 24)).box (.cells #[.bool g5, .slice A6 n6 c6] 24))
  have M7 := Lib.hid (((M3.out.via hb5).box (.cells #[.bool nq, .slice A5 n5 c5] 24)).box (.cells #[.bool g5, .slice A6 n6 c6] 24))
  have B5 := Lib.hid (((B3.out.trans (hb5.mono B3.out.size)).alloc (B3.out.trans (hb5.mono B3.out.size)).size (.cells #[.bool nq, .slice A5 n5 c5] 24)).alloc ((B3.out.trans (hb5.mono B3.out.size)).alloc (B3.out.trans (hb5.mono B3.out.size)).size (.cells #[.bool nq, .slice A5 n5 c5] 24)).size (.cells #[.bool g5, .slice A6 n6 c6] 24))
  have ⟨s0, s1, _, _, sl⟩ := P7'.out
  have ⟨u0, u1, _, _, ul⟩ := PQ.out
  have ⟨r0, r1, r2, r3, rf0, rf1, rf2, rf3, rl⟩ := QR.out
  clear hnq hb5 hL5 P7 KB KG KR ML MC M3 B3
  go_wp2
  exact post_f1 Tryz.results44 rfl rfl (QR.out.set (.bool np) (.slice A3 n3 c3) (.bool nq) (.slice A5 n5 c5)) ⟨A3, n3, c3, A5, n5, c5, by rw [HNp.out, HNq.out], M7.out.put4 QR.out _ _ _ _, M5.out.put4 QR.out _ _ _ _, below_put4 B5.out (by omega) _ _ _ _⟩
end Go.Proofs.YtioccpbohhhkpaaGreat

/- Make and Of on both sides. -/
namespace Go.Proofs.YtioccpbohhhkpaaGreat
open Go.RowKit

/-- A call returns a fraction that reads so, and an error; what was there is kept. -/
def RG (w : World) (np : Bool) (xs : List Nat) (nq : Bool) (ys : List Nat) (err : Int) (e : Ending) (w' : World) : Prop := ∃ A n c B m c', e = .returned (.tuple #[fv np A n c nq B m c', .int .i64 err]) ∧ Lm w' w'.heap.size A n c xs ∧ Lm w' w'.heap.size B m c' ys ∧ Below w.heap.size w w'
theorem rfe_rg {w : World} {p q : Int} {e : Ending} {w' : World} (h : RFE w p q e w') : RG w (decide (p < 0)) (digs p.natAbs) (decide (q < 0)) (digs q.natAbs) 0 e w' := h
theorem rfx_rg {w : World} {x : Int} {e : Ending} {w' : World} (h : RFX w x e w') : RG w false [] false [] x e w' := ⟨none, 0, 0, none, 0, 0, h.1, Lm.nil _ _, Lm.nil _ _, h.2⟩

end Go.Proofs.YtioccpbohhhkpaaGreat

/- Package frac: product, known. -/
namespace Go.Proofs.YtioccpbohhhkpaaGreat
open Go.RowKit

/-- A call returns the number z. -/
def RVz (w : World) (z : Int) (e : Ending) (w' : World) : Prop := ∃ A n c, e = .returned (.agg #[.bool (decide (z < 0)), .slice A n c]) ∧ Lm w' w'.heap.size A n c (digs z.natAbs) ∧ Below w.heap.size w w'

set_option maxRecDepth 100000 in
set_option maxHeartbeats 1000000 in
theorem prod_n (w : World) (A B : Option Addr) (n m ca cb k : Nat) (x y : Int) (hA : Lm w w.heap.size A n ca (digs x.natAbs)) (hB : Lm w w.heap.size B m cb (digs y.natAbs)) (hx : Sz k x) (hy : Sz k y) (hk : k ≤ 2000) {na nb : Bool} (ha : decide (x < 0) = na) (hb : decide (y < 0) = nb) :
    Calls Tryz.prog 46 #[.agg #[.bool na, .slice A n ca], .agg #[.bool nb, .slice B m cb]] w (RVz w (x * y)) := by
  have HA := Lib.hid hA
  have HB := Lib.hid hB
  have HX := Lib.hid hx
  have HY := Lib.hid hy
  have HNa := Lib.hid ha
  have HNb := Lib.hid hb
  clear hA hB hx hy ha hb
  go_enter Tryz.func46, Tryz.ntmps46
  go_wp2_with fail
  refine (mul_n _ A B n m ca cb k x y (((HA.out.box _).box _).box _) (((HB.out.box _).box _).box _) HX.out HY.out hk HNa.out HNb.out).mono ?_
  rintro e w1 ⟨A1, n1, c1, rfl, hL1, hb1⟩
  have P := Lib.hid ((Pr.new ((w.alloc (.cells #[.bool na, .slice A n ca] 24)).alloc (.cells #[.bool nb, .slice B m cb] 24)) (w.heap.size + 1 + 1) (by simp) (.bool false) (.slice none 0 0) 24).via hb1)
  have L1 := Lib.hid hL1
  have B1 := Lib.hid (bbox (bbox (bbox hb1)))
  clear hL1 hb1
  obtain ⟨nz, hnz⟩ : ∃ b, decide (x * y < 0) = b := ⟨_, rfl⟩
  rw [hnz]
  have HNz := Lib.hid hnz
  clear hnz
  go_wp2_with fail
  refine (must_ok _ _ _ _ _).mono ?_
  rintro e w2 ⟨rfl, hb2⟩
  have P2 := P.out.via hb2
  have L2 := Lib.hid (L1.out.via hb2)
  have B2 := Lib.hid (btr B1.out hb2)
  have ⟨p0, p1, f0, f1, pl⟩ := P2
  clear hb2
  go_wp2
  exact post_w1 Tryz.results46 rfl rfl (P2.set _ _).c0 (P2.set _ _).c1 ⟨A1, n1, c1, by rw [HNz.out], L2.out.setP P2 _ _, below_set2 B2.out (by omega) _ _⟩

/-- Boxes of ratios lie in four cells like those of fractions. -/
theorem res_r1 {fn : Func} {r : Nat} (hr : fn.results = #[.cell r 45]) {tmps : Array Value} {w : World} {g : Nat} {x0 x1 x2 x3 : Value} (ht : tmps.getD r undef = .pointer (some ⟨g, 0, none⟩))
    (d : Qd w g x0 x1 x2 x3) : (results fn tmps).run Tryz.prog w = .ok (.agg #[x0, x1, x2, x3]) w := by
  have h0 := d.c0; have h1 := d.c1; have h2 := d.c2; have h3 := d.c3
  rw [Array.getD_eq_getD_getElem?] at ht
  simp [results, hr, go_sem, ht, h0, h1, h2, h3]
theorem post_r1 {fn : Func} {r : Nat} (hr : fn.results = #[.cell r 45]) {R : Ending → World → Prop} {a : Act} {w : World} {g : Nat} {x0 x1 x2 x3 : Value} (ht : a.tmps.getD r undef = .pointer (some ⟨g, 0, none⟩))
    (hd : a.defers = []) (d : Qd w g x0 x1 x2 x3) (h : R (.returned (.agg #[x0, x1, x2, x3])) w) : bodyPost Tryz.prog fn R .ret a w :=
  bodyPost_ret (res_r1 hr ht d) hd h
set_option maxRecDepth 100000 in
set_option maxHeartbeats 1000000 in
theorem known_ok (w : World) (nn dn : Bool) (A B : Option Addr) (n m ca cb : Nat) (xs ys : List Nat) (hA : Lm w w.heap.size A n ca xs) (hB : Lm w w.heap.size B m cb ys) (hv : fchk nn xs dn ys = 0) :
    Calls Tryz.prog 39 #[fv nn A n ca dn B m cb] w fun e w' => e = .returned (fv nn A n ca dn B m cb) ∧ Below w.heap.size w w' := by
  have HA := Lib.hid hA
  have HB := Lib.hid hB
  have HV := Lib.hid hv
  clear hA hB hv
  go_enter Tryz.func39, Tryz.ntmps39
  go_wp2_with fail
  refine (fcheck_any _ nn dn A B n m ca cb xs ys ((HA.out.box _).box _) ((HB.out.box _).box _)).mono ?_
  rintro e w1 ⟨rfl, hb1⟩
  rw [HV.out]
  have Q := Lib.hid (((Qd.new w _ rfl (.bool nn) (.slice A n ca) (.bool dn) (.slice B m cb) 26).alloc (.cells #[.bool false, .slice none 0 0, .bool false, .slice none 0 0] 45)).via hb1)
  have R := Lib.hid ((Qd.new (w.alloc (.cells #[.bool nn, .slice A n ca, .bool dn, .slice B m cb] 26)) (w.heap.size + 1) (by simp) (.bool false) (.slice none 0 0) (.bool false) (.slice none 0 0) 45).via hb1)
  have B1 := Lib.hid (bbox (bbox hb1))
  clear hb1
  go_wp2_with fail
  refine (pass_ok _).mono ?_
  rintro e w2 ⟨rfl, rfl⟩
  have ⟨q0, q1, q2, q3, _, _, _, _, ql⟩ := Q.out
  have ⟨r0, r1, r2, r3, f0, f1, f2, f3, rl⟩ := R.out
  go_wp2
  exact post_r1 Tryz.results39 rfl rfl (R.out.set (.bool nn) (.slice A n ca) (.bool dn) (.slice B m cb)) ⟨rfl, below_put4 B1.out (by omega) _ _ _ _⟩
set_option maxRecDepth 100000 in
set_option maxHeartbeats 1000000 in
theorem known_no (w : World) (nn dn : Bool) (A B : Option Addr) (n m ca cb : Nat) (xs ys : List Nat) (hA : Lm w w.heap.size A n ca xs) (hB : Lm w w.heap.size B m cb ys) (hv : fchk nn xs dn ys = 8) :
    Calls Tryz.prog 39 #[fv nn A n ca dn B m cb] w fun e w' => e = Pan 8 ∧ Below w.heap.size w w' := by
  have HA := Lib.hid hA
  have HB := Lib.hid hB
  have HV := Lib.hid hv
  clear hA hB hv
  go_enter Tryz.func39, Tryz.ntmps39
  go_wp2_with fail
  refine (fcheck_any _ nn dn A B n m ca cb xs ys ((HA.out.box _).box _) ((HB.out.box _).box _)).mono ?_
  rintro e w1 ⟨rfl, hb1⟩
  rw [HV.out]
  have B1 := Lib.hid (bbox (bbox hb1))
  clear hb1
  go_wp2_with fail
  refine (pass_no _ 8 (by decide)).mono ?_
  rintro e w2 ⟨rfl, rfl⟩
  unfold Pan
  go_wp2
  exact ⟨rfl, rfl, B1.out⟩
end Go.Proofs.YtioccpbohhhkpaaGreat

/- Mathematics of fractions: which divisors a sum of reduced fractions has. No program is named here. -/
namespace Go.Proofs.YtioccpbohhhkpaaGreat
theorem cop_of (t : Int) (an bn : Int) (p' q' p : Nat) (ht : t = an * q' + bn * p') (hpq : Nat.gcd p' q' = 1) (hpp : p' ∣ p) (ha : Nat.gcd an.natAbs p = 1) : Nat.Coprime t.natAbs p' := by
  refine Nat.eq_one_of_dvd_one ?_
  have h1 := Nat.gcd_dvd_left t.natAbs p'
  have h2 := Nat.gcd_dvd_right t.natAbs p'
  generalize Nat.gcd t.natAbs p' = d at *
  have i1 : (d : Int) ∣ t := Int.ofNat_dvd_left.2 h1
  have i2 : (d : Int) ∣ (p' : Int) := Int.natCast_dvd_natCast.2 h2
  have i3 : (d : Int) ∣ an * q' := by
    have e : an * q' = t - bn * p' := by omega
    rw [e]
    exact Int.dvd_sub i1 (Int.dvd_mul_of_dvd_right i2)
  have h3 : d ∣ an.natAbs * q' := by
    have := Int.ofNat_dvd_left.1 i3
    rwa [Int.natAbs_mul, Int.natAbs_natCast] at this
  have c : Nat.Coprime d q' := Nat.Coprime.coprime_dvd_left h2 hpq
  have h4 : d ∣ an.natAbs := c.dvd_of_dvd_mul_right h3
  have h5 : d ∣ Nat.gcd an.natAbs p := Nat.dvd_gcd h4 (Nat.dvd_trans h2 hpp)
  rwa [ha] at h5
theorem frac_common (an bn : Int) (p q s : Nat) (hp : 0 < p) (ha : Nat.gcd an.natAbs p = 1) (hb : Nat.gcd bn.natAbs q = 1) (hs : Nat.gcd p q = s) :
    ∃ t : Int, an * q + bn * p = t * s ∧ 0 < s ∧ Nat.gcd (an * q + bn * p).natAbs (p * q) = s * Nat.gcd t.natAbs s := by
  have hs0 : 0 < s := by rw [← hs]; exact Nat.gcd_pos_of_pos_left _ hp
  obtain ⟨p', hp'⟩ : s ∣ p := hs ▸ Nat.gcd_dvd_left p q
  obtain ⟨q', hq'⟩ : s ∣ q := hs ▸ Nat.gcd_dvd_right p q
  have hpq : Nat.gcd p' q' = 1 := by
    have h : s * Nat.gcd p' q' = s * 1 := by rw [← Nat.gcd_mul_left, ← hp', ← hq', hs, Nat.mul_one]
    exact Nat.eq_of_mul_eq_mul_left hs0 h
  refine ⟨an * q' + bn * p', ?_, hs0, ?_⟩
  · rw [hp', hq', Int.natCast_mul, Int.natCast_mul]; grind
  · have c1 := cop_of (an * q' + bn * p') an bn p' q' p rfl hpq ⟨s, by rw [Nat.mul_comm]; exact hp'⟩ ha
    have c2 := cop_of (an * q' + bn * p') bn an q' p' q (by omega) (by rw [Nat.gcd_comm]; exact hpq) ⟨s, by rw [Nat.mul_comm]; exact hq'⟩ hb
    have e : (an * q + bn * p).natAbs = s * (an * q' + bn * p').natAbs := by
      have : an * q + bn * p = s * (an * q' + bn * p') := by rw [hp', hq', Int.natCast_mul, Int.natCast_mul]; grind
      rw [this, Int.natAbs_mul, Int.natAbs_natCast]
    have e2 : p * q = s * (s * (p' * q')) := by
      have h : s * p' * (s * q') = s * (s * (p' * q')) := by grind
      rw [← hp', ← hq'] at h
      exact h
    rw [e, e2, Nat.gcd_mul_left]
    congr 1
    have c := Nat.Coprime.mul_right c1 c2
    exact Nat.Coprime.gcd_mul_right_cancel_right s c.symm
end Go.Proofs.YtioccpbohhhkpaaGreat

/- Two copies laid in new boxes, in whatever order. -/
namespace Go.Proofs.YtioccpbohhhkpaaGreat
open Go.RowKit

/-- Two slots point to copies of both numbers. -/
def TwinsAt (w2 : World) (na : Bool) (n : Nat) (xs : List Nat) (nb : Bool) (m : Nat) (ys : List Nat) (s5 s6 : Value) (wc : World) : Prop :=
  ∃ gx gy A' c' A'' c'', s5 = .pointer (some ⟨gx, 0, none⟩) ∧ s6 = .pointer (some ⟨gy, 0, none⟩) ∧ Pr wc gx (.bool na) (.slice A' n c') ∧ Pr wc gy (.bool nb) (.slice A'' m c'') ∧ Lm wc wc.heap.size A' n c' xs ∧ Lm wc wc.heap.size A'' m c'' ys ∧ Below w2.heap.size w2 wc

section
variable {w2 w4 : World} {na nb : Bool} {n m : Nat} {xs ys : List Nat} {A3 A4 : Option Addr} {c3 c4 : Nat} {t : TypeId}
theorem fin1 (hB : Below w2.heap.size w2 w4) (L3 : Lm w4 w4.heap.size A3 n c3 xs) (L4 : Lm w4 w4.heap.size A4 m c4 ys) :
    TwinsAt w2 na n xs nb m ys (.pointer (some ⟨w4.heap.size, 0, none⟩)) (.pointer (some ⟨w4.heap.size + 1, 0, none⟩)) ((w4.alloc (.cells #[.bool na, .slice A3 n c3] t)).alloc (.cells #[.bool nb, .slice A4 m c4] t)) :=
  ⟨_, _, A3, c3, A4, c4, rfl, rfl, (Pr.new w4 _ rfl _ _ t).alloc _, Pr.new (w4.alloc _) _ (by simp) _ _ t, (L3.box _).box _, (L4.box _).box _, (hB.alloc hB.size _).alloc (hB.alloc hB.size _).size _⟩
theorem fin2 (hB : Below w2.heap.size w2 w4) (L3 : Lm w4 w4.heap.size A3 n c3 xs) (L4 : Lm w4 w4.heap.size A4 m c4 ys) :
    TwinsAt w2 na n xs nb m ys (.pointer (some ⟨w4.heap.size + 1, 0, none⟩)) (.pointer (some ⟨w4.heap.size, 0, none⟩)) ((w4.alloc (.cells #[.bool nb, .slice A4 m c4] t)).alloc (.cells #[.bool na, .slice A3 n c3] t)) :=
  ⟨_, _, A3, c3, A4, c4, rfl, rfl, Pr.new (w4.alloc _) _ (by simp) _ _ t, (Pr.new w4 _ rfl _ _ t).alloc _, (L3.box _).box _, (L4.box _).box _, (hB.alloc hB.size _).alloc (hB.alloc hB.size _).size _⟩
theorem fin3 {g : Nat} (hB : Below w2.heap.size w2 w4) (L3 : Lm w4 w4.heap.size A3 n c3 xs) (L4 : Lm w4 w4.heap.size A4 m c4 ys) (P : Pr w4 g (.bool false) (.slice none 0 0)) (hg : w2.heap.size ≤ g) :
    TwinsAt w2 na n xs nb m ys (.pointer (some ⟨g, 0, none⟩)) (.pointer (some ⟨w4.heap.size, 0, none⟩)) (((w4.setCell ⟨g, 0, none⟩ (.bool na)).setCell ⟨g, 1, none⟩ (.slice A3 n c3)).alloc (.cells #[.bool nb, .slice A4 m c4] t)) :=
  ⟨_, _, A3, c3, A4, c4, rfl, rfl, (P.set _ _).alloc _, Pr.new _ _ (size_set2 _ _ _ _) _ _ t, (L3.setP P _ _).box _, (L4.setP P _ _).box _, (below_set2 hB hg _ _).alloc (below_set2 hB hg _ _).size _⟩
theorem fin4 {g : Nat} (hB : Below w2.heap.size w2 w4) (L3 : Lm w4 w4.heap.size A3 n c3 xs) (L4 : Lm w4 w4.heap.size A4 m c4 ys) (P : Pr w4 g (.bool false) (.slice none 0 0)) (hg : w2.heap.size ≤ g) :
    TwinsAt w2 na n xs nb m ys (.pointer (some ⟨w4.heap.size, 0, none⟩)) (.pointer (some ⟨g, 0, none⟩)) (((w4.setCell ⟨g, 0, none⟩ (.bool nb)).setCell ⟨g, 1, none⟩ (.slice A4 m c4)).alloc (.cells #[.bool na, .slice A3 n c3] t)) :=
  ⟨_, _, A3, c3, A4, c4, rfl, rfl, Pr.new _ _ (size_set2 _ _ _ _) _ _ t, (P.set _ _).alloc _, (L3.setP P _ _).box _, (L4.setP P _ _).box _, (below_set2 hB hg _ _).alloc (below_set2 hB hg _ _).size _⟩
theorem fin5 {g h : Nat} (hB : Below w2.heap.size w2 w4) (L3 : Lm w4 w4.heap.size A3 n c3 xs) (L4 : Lm w4 w4.heap.size A4 m c4 ys) (P : Pr w4 g (.bool false) (.slice none 0 0)) (Q : Pr w4 h (.bool false) (.slice none 0 0)) (hg : w2.heap.size ≤ g) (hh : w2.heap.size ≤ h) (hne : g ≠ h) :
    TwinsAt w2 na n xs nb m ys (.pointer (some ⟨g, 0, none⟩)) (.pointer (some ⟨h, 0, none⟩)) ((((w4.setCell ⟨g, 0, none⟩ (.bool na)).setCell ⟨g, 1, none⟩ (.slice A3 n c3)).setCell ⟨h, 0, none⟩ (.bool nb)).setCell ⟨h, 1, none⟩ (.slice A4 m c4)) :=
  have Q' := Q.far (h := g) (fun e => hne e.symm) (.bool na) (.slice A3 n c3)
  ⟨_, _, A3, c3, A4, c4, rfl, rfl, (P.set _ _).far hne _ _, Q'.set _ _, (L3.setP P _ _).setP Q' _ _, (L4.setP P _ _).setP Q' _ _, below_set2 (below_set2 hB hg _ _) hh _ _⟩
end
theorem b_one {w w' : World} {o : Obj} (h : Below (w.alloc o).heap.size (w.alloc o) w') : Below w.heap.size w w' := bbox h
theorem b_two {w w' : World} {o o' : Obj} (h : Below ((w.alloc o).alloc o').heap.size ((w.alloc o).alloc o') w') : Below w.heap.size w w' := bbox (bbox h)
theorem b_one_d {w w' : World} {o : Obj} (h : Below (w.alloc o).drew.heap.size (w.alloc o).drew w') : Below w.heap.size w w' :=
  ((Below.refl w.heap.size w).alloc (Nat.le_refl _) o).drew.trans (h.mono (((Below.refl w.heap.size w).alloc (Nat.le_refl _) o).drew.size))
theorem b_two_d {w w' : World} {o o' : Obj} (h : Below ((w.alloc o).alloc o').drew.heap.size ((w.alloc o).alloc o').drew w') : Below w.heap.size w w' :=
  have q := (((Below.refl w.heap.size w).alloc (Nat.le_refl _) o).alloc ((Below.refl w.heap.size w).alloc (Nat.le_refl _) o).size o').drew
  q.trans (h.mono q.size)
end Go.Proofs.YtioccpbohhhkpaaGreat

/- Package frac: ratio.add, with either combination. -/
namespace Go.Proofs.YtioccpbohhhkpaaGreat
open Go.RowKit

theorem below_alloc {a b : World} (h : Below a.heap.size a b) (o : Obj) : Below a.heap.size a (b.alloc o) := h.alloc h.size o
theorem dvr_pos {N D : Int} (hD : 0 < D) : dvr N D = (Nat.gcd N.natAbs D.natAbs : Int) := by unfold dvr; rw [if_neg (by omega)]

set_option maxRecDepth 100000 in
set_option maxHeartbeats 4000000 in
theorem add_plus (w : World) (A B C D : Option Addr) (n m r s ca cb cc cd k : Nat) (x y P Q : Int) (hA : Lm w w.heap.size A n ca (digs x.natAbs)) (hB : Lm w w.heap.size B m cb (digs P.natAbs)) (hC : Lm w w.heap.size C r cc (digs y.natAbs)) (hD : Lm w w.heap.size D s cd (digs Q.natAbs))
    (hx : Sz k x) (hP : Sz k P) (hy : Sz k y) (hQ : Sz k Q) (hk : k ≤ 300) {na nb : Bool} (ha : decide (x < 0) = na) (hb : decide (y < 0) = nb) (hP0 : 0 < P) (hQ0 : 0 < Q) (t : Int) (ht : x * Q + y * P = t * (Nat.gcd P.natAbs Q.natAbs : Int))
    (hg : Nat.gcd (x * Q + y * P).natAbs (P * Q).natAbs = Nat.gcd P.natAbs Q.natAbs * Nat.gcd t.natAbs (Nat.gcd P.natAbs Q.natAbs)) :
    Calls Tryz.prog 40 #[fv na A n ca false B m cb, fv nb C r cc false D s cd, .func (.func 41) #[] #[]] w (RFr w ((x * Q + y * P) / dvr (x * Q + y * P) (P * Q)) ((P * Q) / dvr (x * Q + y * P) (P * Q))) := by
  have SX := Lib.hid hx
  have SP := Lib.hid hP
  have SY := Lib.hid hy
  have SQ := Lib.hid hQ
  have HNa := Lib.hid ha
  have HNb := Lib.hid hb
  have HP0 := Lib.hid hP0
  have HQ0 := Lib.hid hQ0
  have DP : Hid (decide (P < 0) = false) := decide_eq_false (by omega)
  have DQ : Hid (decide (Q < 0) = false) := decide_eq_false (by omega)
  have XQ := Lib.hid (hx.mul hQ)
  have YP := Lib.hid (hy.mul hP)
  have PQ := Lib.hid (hP.mul hQ)
  have SN := Lib.hid ((hx.mul hQ).add (hy.mul hP))
  have DPQ : Hid (decide (P * Q < 0) = false) := decide_eq_false (by have := Int.mul_pos hP0 hQ0; omega)
  have HPQ : Hid (0 < P * Q) := Int.mul_pos hP0 hQ0
  have HT := Lib.hid ht
  have HGG := Lib.hid hg
  have HA := Lib.hid hA
  have HB := Lib.hid hB
  have HC := Lib.hid hC
  have HD := Lib.hid hD
  have HPn : Hid (0 < P.natAbs) := by show _ < _; omega
  clear hx hP hy hQ ha hb hP0 hQ0 ht hg hA hB hC hD
  obtain ⟨N, hN⟩ : ∃ N, x * Q + y * P = N := ⟨_, rfl⟩
  rw [hN] at HT HGG SN ⊢
  have HN := Lib.hid hN
  clear hN
  go_enter Tryz.func40, Tryz.ntmps40
  have Q3 := Lib.hid (((Qd.new w _ rfl (.bool na) (.slice A n ca) (.bool false) (.slice B m cb) 45).alloc (.cells #[.bool nb, .slice C r cc, .bool false, .slice D s cd] 45)).alloc (.cells #[.bool false, .slice none 0 0, .bool false, .slice none 0 0] 26))
  have Q4 := Lib.hid ((Qd.new (w.alloc (.cells #[.bool na, .slice A n ca, .bool false, .slice B m cb] 45)) (w.heap.size + 1) (by simp) (.bool nb) (.slice C r cc) (.bool false) (.slice D s cd) 45).alloc (.cells #[.bool false, .slice none 0 0, .bool false, .slice none 0 0] 26))
  have QR := Lib.hid (Qd.new ((w.alloc (.cells #[.bool na, .slice A n ca, .bool false, .slice B m cb] 45)).alloc (.cells #[.bool nb, .slice C r cc, .bool false, .slice D s cd] 45)) (w.heap.size + 1 + 1) (by simp) (.bool false) (.slice none 0 0) (.bool false) (.slice none 0 0) 26)
  have LA := Lib.hid (((HA.out.box (.cells #[.bool na, .slice A n ca, .bool false, .slice B m cb] 45)).box (.cells #[.bool nb, .slice C r cc, .bool false, .slice D s cd] 45)).box (.cells #[.bool false, .slice none 0 0, .bool false, .slice none 0 0] 26))
  have LB := Lib.hid (((HB.out.box (.cells #[.bool na, .slice A n ca, .bool false, .slice B m cb] 45)).box (.cells #[.bool nb, .slice C r cc, .bool false, .slice D s cd] 45)).box (.cells #[.bool false, .slice none 0 0, .bool false, .slice none 0 0] 26))
  have LC := Lib.hid (((HC.out.box (.cells #[.bool na, .slice A n ca, .bool false, .slice B m cb] 45)).box (.cells #[.bool nb, .slice C r cc, .bool false, .slice D s cd] 45)).box (.cells #[.bool false, .slice none 0 0, .bool false, .slice none 0 0] 26))
  have LD := Lib.hid (((HD.out.box (.cells #[.bool na, .slice A n ca, .bool false, .slice B m cb] 45)).box (.cells #[.bool nb, .slice C r cc, .bool false, .slice D s cd] 45)).box (.cells #[.bool false, .slice none 0 0, .bool false, .slice none 0 0] 26))
  have BW : Hid (Below w.heap.size w (((w.alloc (.cells #[.bool na, .slice A n ca, .bool false, .slice B m cb] 45)).alloc (.cells #[.bool nb, .slice C r cc, .bool false, .slice D s cd] 45)).alloc (.cells #[.bool false, .slice none 0 0, .bool false, .slice none 0 0] 26))) := below_alloc (below_alloc (below_alloc (Below.refl _ _) _) _) _
  clear HA HB HC HD
  go_wp2_with fail
  generalize ((w.alloc (.cells #[.bool na, .slice A n ca, .bool false, .slice B m cb] 45)).alloc (.cells #[.bool nb, .slice C r cc, .bool false, .slice D s cd] 45)).alloc (.cells #[.bool false, .slice none 0 0, .bool false, .slice none 0 0] 26) = W0 at *
  have hrl := QR.out.lt
  have HKS : Hid (∀ X : World, Below W0.heap.size W0 X → X.cell? ⟨w.heap.size, 0, none⟩ = some (.bool na) ∧ X.cell? ⟨w.heap.size, 1, none⟩ = some (.slice A n ca) ∧ X.cell? ⟨w.heap.size, 2, none⟩ = some (.bool false) ∧ X.cell? ⟨w.heap.size, 3, none⟩ = some (.slice B m cb) ∧ X.cell? ⟨w.heap.size + 1, 0, none⟩ = some (.bool nb) ∧ X.cell? ⟨w.heap.size + 1, 1, none⟩ = some (.slice C r cc) ∧ X.cell? ⟨w.heap.size + 1, 2, none⟩ = some (.bool false) ∧ X.cell? ⟨w.heap.size + 1, 3, none⟩ = some (.slice D s cd)) := fun X h => ⟨(Q3.out.via h).c0, (Q3.out.via h).c1, (Q3.out.via h).c2, (Q3.out.via h).c3, (Q4.out.via h).c0, (Q4.out.via h).c1, (Q4.out.via h).c2, (Q4.out.via h).c3⟩
  go_cut [7] (fun sl wx => ∃ g A3 n3 c3, sl = .pointer (some ⟨g, 0, none⟩) ∧ Pr wx g (.bool (decide (N < 0))) (.slice A3 n3 c3) ∧ Lm wx wx.heap.size A3 n3 c3 (digs N.natAbs) ∧ W0.heap.size ≤ g ∧ Below W0.heap.size W0 wx)
  case first =>
    go_region_held3 (fun w' => w'.cell? ⟨w.heap.size, 0, none⟩ = some (.bool na) ∧ w'.cell? ⟨w.heap.size, 1, none⟩ = some (.slice A n ca) ∧ w'.cell? ⟨w.heap.size, 2, none⟩ = some (.bool false) ∧ w'.cell? ⟨w.heap.size, 3, none⟩ = some (.slice B m cb) ∧ w'.cell? ⟨w.heap.size + 1, 0, none⟩ = some (.bool nb) ∧ w'.cell? ⟨w.heap.size + 1, 1, none⟩ = some (.slice C r cc) ∧ w'.cell? ⟨w.heap.size + 1, 2, none⟩ = some (.bool false) ∧ w'.cell? ⟨w.heap.size + 1, 3, none⟩ = some (.slice D s cd))
      (first | (refine HKS.out _ ?_; (repeat' (first | exact Bd | exact Bc | exact B2 | exact B1 | exact (Below.refl _ _).drew | exact Below.refl _ _ | refine below_alloc ?_ _ | refine Below.drew ?_ | refine Below.setCell ?_ ?_ _)); all_goals (first | omega | (simp; done) | (simp; omega))))
      (first
       | (go_at_call_of 46 (Value.agg #[Value.bool na, Value.slice A n ca]); refine (prod_n _ A D n s ca cd k x Q (by first | exact LA.out.via B2 | exact (LA.out.via B2).box _ | exact LA.out.drew | exact (LA.out.box _).drew | exact LA.out | exact LA.out.box _) (by first | exact LD.out.via B2 | exact (LD.out.via B2).box _ | exact LD.out.drew | exact (LD.out.box _).drew | exact LD.out | exact LD.out.box _) SX.out SQ.out (by omega) HNa.out DQ.out).mono ?_; rintro e wa ⟨A1, n1, c1, rfl, hL1, hb1⟩; have B1 : Below W0.heap.size W0 wa := (by first | exact btr B2 hb1 | exact btr B2 (bbox hb1) | exact (Below.refl _ _).drew.trans hb1 | exact b_one_d hb1 | exact hb1 | exact bbox hb1); have B1s := B1.size; (try (have F0 : Pr _ W0.heap.size (.bool false) (.slice none 0 0) := (by first | exact (Pr.new W0 _ rfl _ _ 24).via hb1 | exact (Pr.new W0 _ rfl _ _ 24).drew.via hb1))); (try (have ⟨F0a, F0b, F0c, F0d, F0e⟩ := F0)); (try (have F0 := (by first | exact F0.via hb1 | exact (F0.alloc _).via hb1))); (try (have F1 : Pr _ wb.heap.size (.bool false) (.slice none 0 0) := (by first | exact (Pr.new wb _ rfl _ _ 24).via hb1))); (try (have ⟨F0a, F0b, F0c, F0d, F0e⟩ := F0)); (try (have ⟨F1a, F1b, F1c, F1d, F1e⟩ := F1)))
       | (go_at_call_of 46 (Value.agg #[Value.bool nb, Value.slice C r cc]); refine (prod_n _ C B r m cc cb k y P (by first | exact LC.out.via B1 | exact (LC.out.via B1).box _ | exact LC.out.drew | exact (LC.out.box _).drew | exact LC.out | exact LC.out.box _) (by first | exact LB.out.via B1 | exact (LB.out.via B1).box _ | exact LB.out.drew | exact (LB.out.box _).drew | exact LB.out | exact LB.out.box _) SY.out SP.out (by omega) HNb.out DP.out).mono ?_; rintro e wb ⟨A2, n2, c2, rfl, hL2, hb2⟩; have B2 : Below W0.heap.size W0 wb := (by first | exact btr B1 hb2 | exact btr B1 (bbox hb2) | exact (Below.refl _ _).drew.trans hb2 | exact b_one_d hb2 | exact hb2 | exact bbox hb2); have B2s := B2.size; (try (have F0 : Pr _ W0.heap.size (.bool false) (.slice none 0 0) := (by first | exact (Pr.new W0 _ rfl _ _ 24).via hb2 | exact (Pr.new W0 _ rfl _ _ 24).drew.via hb2))); (try (have ⟨F0a, F0b, F0c, F0d, F0e⟩ := F0)); (try (have F0 := (by first | exact F0.via hb2 | exact (F0.alloc _).via hb2))); (try (have F1 : Pr _ wa.heap.size (.bool false) (.slice none 0 0) := (by first | exact (Pr.new wa _ rfl _ _ 24).via hb2))); (try (have ⟨F0a, F0b, F0c, F0d, F0e⟩ := F0)); (try (have ⟨F1a, F1b, F1c, F1d, F1e⟩ := F1)))
       | (go_at_call 41; refine (add_n _ A1 A2 n1 n2 c1 c2 (k + k) (x * Q) (y * P) (by first | exact hL1 | exact hL1.box _ | exact hL1.via hb2 | exact (hL1.via hb2).box _ | exact (hL1.box _).via hb2 | exact ((hL1.box _).via hb2).box _) (by first | exact hL2 | exact hL2.box _ | exact hL2.via hb1 | exact (hL2.via hb1).box _ | exact (hL2.box _).via hb1 | exact ((hL2.box _).via hb1).box _) XQ.out YP.out (by omega) rfl rfl).mono ?_; rw [HN.out]; rintro e wc ⟨A3, n3, c3, rfl, hL3, hb3⟩; have Bc : Below W0.heap.size W0 wc := (by first | exact btr B2 hb3 | exact btr B2 (bbox hb3) | exact btr B1 hb3 | exact btr B1 (bbox hb3) | exact (Below.refl _ _).drew.trans hb3 | exact b_one_d hb3 | exact hb3 | exact bbox hb3); have Bcs := Bc.size; (try (have F0 := (by first | exact F0.via hb3 | exact (F0.alloc _).via hb3))); (try (have F1 := (by first | exact F1.via hb3 | exact (F1.alloc _).via hb3))); (try (have F2 : Pr _ wb.heap.size (.bool false) (.slice none 0 0) := (by first | exact (Pr.new wb _ rfl _ _ 24).via hb3))); (try (have F2 : Pr _ wa.heap.size (.bool false) (.slice none 0 0) := (by first | exact (Pr.new wa _ rfl _ _ 24).via hb3))); (try (have ⟨F0a, F0b, F0c, F0d, F0e⟩ := F0)); (try (have ⟨F1a, F1b, F1c, F1d, F1e⟩ := F1)); (try (have ⟨F2a, F2b, F2c, F2d, F2e⟩ := F2)))
       | (go_at_call 49; refine (must_ok _ _ _ _ _).mono ?_; rintro e wd ⟨rfl, hb4⟩; have Bd : Below W0.heap.size W0 wd := (by first | exact btr Bc hb4 | exact btr Bc (bbox hb4) | exact (Below.refl _ _).drew.trans hb4 | exact b_one_d hb4 | exact hb4 | exact bbox hb4); have Bds := Bd.size; have hL4 := (by first | exact hL3.via hb4 | exact (hL3.box _).via hb4); (try (have F0 := (by first | exact F0.via hb4 | exact (F0.alloc _).via hb4))); (try (have F1 := (by first | exact F1.via hb4 | exact (F1.alloc _).via hb4))); (try (have F2 := (by first | exact F2.via hb4 | exact (F2.alloc _).via hb4))); (try (have F3 : Pr _ wc.heap.size (.bool false) (.slice none 0 0) := (by first | exact (Pr.new wc _ rfl _ _ 24).via hb4))); (try (have ⟨F0a, F0b, F0c, F0d, F0e⟩ := F0)); (try (have ⟨F1a, F1b, F1c, F1d, F1e⟩ := F1)); (try (have ⟨F2a, F2b, F2c, F2d, F2e⟩ := F2)); (try (have ⟨F3a, F3b, F3c, F3d, F3e⟩ := F3)))
       | fail)
    all_goals
      go_wp2_with fail
      go_meet
      first
        | exact ⟨_, A3, n3, c3, rfl, Pr.new _ _ rfl _ _ _, hL4.box _, Bd.size, below_alloc Bd _⟩
        | exact ⟨_, A3, n3, c3, rfl, F0.set _ _, hL4.setP F0 _ _, (by first | exact Nat.le_refl _ | exact B1s | exact B2s | exact Bcs), below_set2 Bd (by first | exact Nat.le_refl _ | exact B1s | exact B2s | exact Bcs) _ _⟩
        | exact ⟨_, A3, n3, c3, rfl, F1.set _ _, hL4.setP F1 _ _, (by first | exact Nat.le_refl _ | exact B1s | exact B2s | exact Bcs), below_set2 Bd (by first | exact Nat.le_refl _ | exact B1s | exact B2s | exact Bcs) _ _⟩
        | exact ⟨_, A3, n3, c3, rfl, F2.set _ _, hL4.setP F2 _ _, (by first | exact Nat.le_refl _ | exact B1s | exact B2s | exact Bcs), below_set2 Bd (by first | exact Nat.le_refl _ | exact B1s | exact B2s | exact Bcs) _ _⟩
        | exact ⟨_, A3, n3, c3, rfl, F3.set _ _, hL4.setP F3 _ _, (by first | exact Nat.le_refl _ | exact B1s | exact B2s | exact Bcs), below_set2 Bd (by first | exact Nat.le_refl _ | exact B1s | exact B2s | exact Bcs) _ _⟩
  case rest =>
  obtain ⟨g7, A3, n3, c3, rfl, hP7, hL3, hg7, hbx⟩ := hcut
  obtain ⟨nN, hnN⟩ : ∃ b, decide (N < 0) = b := ⟨_, rfl⟩
  rw [hnN] at hP7
  have HNN := Lib.hid hnN
  have KA := Lib.hid (Q3.out.via hbx)
  have KB := Lib.hid (Q4.out.via hbx)
  have KR := Lib.hid (QR.out.via hbx)
  have MB := Lib.hid (LB.out.via hbx)
  have MD := Lib.hid (LD.out.via hbx)
  have P7 := Lib.hid hP7
  have L7 := Lib.hid hL3
  have BB := Lib.hid (BW.out.trans (hbx.mono BW.out.size))
  clear hnN hP7 hL3 hbx HKS Q3 Q4 QR LA LB LC LD BW XQ YP
  have ⟨_, _, a2, a3, _, _, _, _, al⟩ := KA.out
  have ⟨_, _, b2, b3, _, _, _, _, bl⟩ := KB.out
  go_wp2_with fail
  refine (prod_n _ B D m s cb cd k P Q MB.out MD.out SP.out SQ.out (by omega) DP.out DQ.out).mono ?_
  rintro e w2 ⟨A8, n8, c8, rfl, hL8, hb8⟩
  rw [DPQ.out]
  clear a2 a3 al b2 b3 bl
  have ⟨_, _, a2, a3, _, _, _, _, al⟩ := KA.out.via hb8
  have ⟨_, _, b2, b3, _, _, _, _, bl⟩ := KB.out.via hb8
  have hg8 : g7 < w2.heap.size := (P7.out.via hb8).lt
  have KA' := Lib.hid ((KA.out.via hb8).alloc (.cells #[.bool false, .slice A8 n8 c8] 24))
  have KB' := Lib.hid ((KB.out.via hb8).alloc (.cells #[.bool false, .slice A8 n8 c8] 24))
  have KR' := Lib.hid ((KR.out.via hb8).alloc (.cells #[.bool false, .slice A8 n8 c8] 24))
  have MB' := Lib.hid ((MB.out.via hb8).box (.cells #[.bool false, .slice A8 n8 c8] 24))
  have MD' := Lib.hid ((MD.out.via hb8).box (.cells #[.bool false, .slice A8 n8 c8] 24))
  have P7' := Lib.hid ((P7.out.via hb8).alloc (.cells #[.bool false, .slice A8 n8 c8] 24))
  have L7' := Lib.hid ((L7.out.via hb8).box (.cells #[.bool false, .slice A8 n8 c8] 24))
  have BB' := Lib.hid ((below_alloc (btr BB.out hb8) (.cells #[.bool false, .slice A8 n8 c8] 24)))
  clear KA
  have KA := KA'
  clear KA'
  clear KB
  have KB := KB'
  clear KB'
  clear KR
  have KR := KR'
  clear KR'
  clear MB
  have MB := MB'
  clear MB'
  clear MD
  have MD := MD'
  clear MD'
  clear P7
  have P7 := P7'
  clear P7'
  clear L7
  have L7 := L7'
  clear L7'
  clear BB
  have BB := BB'
  clear BB'
  have P8 := Lib.hid (Pr.new w2 _ rfl (.bool false) (.slice A8 n8 c8) 24)
  have L8 := Lib.hid (hL8.box (.cells #[.bool false, .slice A8 n8 c8] 24))
  clear hL8 hb8
  go_wp2_with fail
  clear a2 a3 al b2 b3 bl
  generalize w2.alloc (.cells #[.bool false, .slice A8 n8 c8] 24) = W2 at *
  generalize w2.heap.size = g8 at *
  refine (gcd_n2 _ B D m s cb cd k P Q MB.out MD.out SP.out SQ.out (by omega) DP.out DQ.out).mono ?_
  rintro e w3 ⟨A9, n9, c9, rfl, hL9, hb9⟩
  have KA' := Lib.hid (KA.out.via hb9)
  have KB' := Lib.hid (KB.out.via hb9)
  have KR' := Lib.hid (KR.out.via hb9)
  have MB' := Lib.hid (MB.out.via hb9)
  have MD' := Lib.hid (MD.out.via hb9)
  have P7' := Lib.hid (P7.out.via hb9)
  have L7' := Lib.hid (L7.out.via hb9)
  have BB' := Lib.hid ((btr BB.out hb9))
  have P8' := Lib.hid (P8.out.via hb9)
  have L8' := Lib.hid (L8.out.via hb9)
  clear KA
  have KA := KA'
  clear KA'
  clear KB
  have KB := KB'
  clear KB'
  clear KR
  have KR := KR'
  clear KR'
  clear MB
  have MB := MB'
  clear MB'
  clear MD
  have MD := MD'
  clear MD'
  clear P7
  have P7 := P7'
  clear P7'
  clear L7
  have L7 := L7'
  clear L7'
  clear BB
  have BB := BB'
  clear BB'
  clear P8
  have P8 := P8'
  clear P8'
  clear L8
  have L8 := L8'
  clear L8'
  have L9 := Lib.hid (hL9)
  clear hL9 hb9
  go_wp2_with fail
  refine (must_ok _ _ _ _ _).mono ?_
  rintro e w4 ⟨rfl, hb10⟩
  have hg9 : g8 < w4.heap.size := (P8.out.via hb10).lt
  have KA' := Lib.hid ((KA.out.via hb10).alloc (.cells #[.bool false, .slice A9 n9 c9] 24))
  have KB' := Lib.hid ((KB.out.via hb10).alloc (.cells #[.bool false, .slice A9 n9 c9] 24))
  have KR' := Lib.hid ((KR.out.via hb10).alloc (.cells #[.bool false, .slice A9 n9 c9] 24))
  have MB' := Lib.hid ((MB.out.via hb10).box (.cells #[.bool false, .slice A9 n9 c9] 24))
  have MD' := Lib.hid ((MD.out.via hb10).box (.cells #[.bool false, .slice A9 n9 c9] 24))
  have P7' := Lib.hid ((P7.out.via hb10).alloc (.cells #[.bool false, .slice A9 n9 c9] 24))
  have L7' := Lib.hid ((L7.out.via hb10).box (.cells #[.bool false, .slice A9 n9 c9] 24))
  have BB' := Lib.hid ((below_alloc (btr BB.out hb10) (.cells #[.bool false, .slice A9 n9 c9] 24)))
  have P8' := Lib.hid ((P8.out.via hb10).alloc (.cells #[.bool false, .slice A9 n9 c9] 24))
  have L8' := Lib.hid ((L8.out.via hb10).box (.cells #[.bool false, .slice A9 n9 c9] 24))
  have L9' := Lib.hid ((L9.out.via hb10).box (.cells #[.bool false, .slice A9 n9 c9] 24))
  clear KA
  have KA := KA'
  clear KA'
  clear KB
  have KB := KB'
  clear KB'
  clear KR
  have KR := KR'
  clear KR'
  clear MB
  have MB := MB'
  clear MB'
  clear MD
  have MD := MD'
  clear MD'
  clear P7
  have P7 := P7'
  clear P7'
  clear L7
  have L7 := L7'
  clear L7'
  clear BB
  have BB := BB'
  clear BB'
  clear P8
  have P8 := P8'
  clear P8'
  clear L8
  have L8 := L8'
  clear L8'
  clear L9
  have L9 := L9'
  clear L9'
  have P9 := Lib.hid (Pr.new w4 _ rfl (.bool false) (.slice A9 n9 c9) 24)
  clear KA
  clear KB
  clear MB
  clear MD
  clear hb10
  have SG := Lib.hid ((sz_gcd2 (x := P) SQ.out (by have := HQ0.out; omega)).mono (show k ≤ 2000 by omega))
  generalize hG : Nat.gcd P.natAbs Q.natAbs = G at *
  have HG0 : Hid (0 < G) := by show _ < _; rw [← hG]; exact Nat.gcd_pos_of_pos_left _ HPn.out
  clear hG
  go_wp2_with fail
  generalize w4.alloc (.cells #[.bool false, .slice A9 n9 c9] 24) = W4 at *
  generalize w4.heap.size = g9 at *
  have SZN : Hid (Sz 2000 N) := SN.out.mono (by omega)
  have SZD : Hid (Sz 2000 (P * Q)) := PQ.out.mono (by omega)
  have HDV : Hid (dvr N (P * Q) = (G * Nat.gcd t.natAbs G : Nat)) := by show _ = _; rw [dvr_pos HPQ.out, HGG.out]
  by_cases hone : G = 1
  · have HD1 : Hid (dvr N (P * Q) = 1) := by show _ = _; rw [HDV.out, hone, Nat.gcd_one_right]; rfl
    subst hone
    refine (isOne_yes _ A9 n9 c9 L9.out).mono ?_
    rintro e w5 ⟨rfl, hb5⟩
    have KR' := Lib.hid (KR.out.via hb5)
    have P7' := Lib.hid (P7.out.via hb5)
    have L7' := Lib.hid (L7.out.via hb5)
    have BB' := Lib.hid ((btr BB.out hb5))
    have P8' := Lib.hid (P8.out.via hb5)
    have L8' := Lib.hid (L8.out.via hb5)
    have L9' := Lib.hid (L9.out.via hb5)
    have P9' := Lib.hid (P9.out.via hb5)
    clear KR
    have KR := KR'
    clear KR'
    clear P7
    have P7 := P7'
    clear P7'
    clear L7
    have L7 := L7'
    clear L7'
    clear BB
    have BB := BB'
    clear BB'
    clear P8
    have P8 := P8'
    clear P8'
    clear L8
    have L8 := L8'
    clear L8'
    clear L9
    have L9 := L9'
    clear L9'
    clear P9
    have P9 := P9'
    clear P9'
    clear hb5
    have ⟨p0, p1, _, _, pl⟩ := P7.out
    have ⟨q0, q1, _, _, ql⟩ := P8.out
    have ⟨r0, r1, r2, r3, f0, f1, f2, f3, rl⟩ := KR.out
    go_wp2
    exact post_f1 Tryz.results40 rfl rfl (KR.out.set (.bool nN) (.slice A3 n3 c3) (.bool false) (.slice A8 n8 c8)) ⟨A3, n3, c3, A8, n8, c8, by rw [HD1.out, Int.ediv_one, Int.ediv_one, HNN.out, DPQ.out], by rw [HD1.out, Int.ediv_one]; exact L7.out.put4 KR.out _ _ _ _, by rw [HD1.out, Int.ediv_one]; exact L8.out.put4 KR.out _ _ _ _, below_put4 BB.out (by omega) _ _ _ _⟩
  · have HN1 : Hid (false = true ∨ digs G ≠ [1]) := .inr fun e => hone (by rw [← digs_val G, e]; rfl)
    clear hone
    refine (isOne_no _ false A9 n9 c9 (digs G) L9.out HN1.out).mono ?_
    rintro e w5 ⟨rfl, hb5⟩
    have KR' := Lib.hid (KR.out.via hb5)
    have P7' := Lib.hid (P7.out.via hb5)
    have L7' := Lib.hid (L7.out.via hb5)
    have BB' := Lib.hid ((btr BB.out hb5))
    have P8' := Lib.hid (P8.out.via hb5)
    have L8' := Lib.hid (L8.out.via hb5)
    have L9' := Lib.hid (L9.out.via hb5)
    have P9' := Lib.hid (P9.out.via hb5)
    clear KR
    have KR := KR'
    clear KR'
    clear P7
    have P7 := P7'
    clear P7'
    clear L7
    have L7 := L7'
    clear L7'
    clear BB
    have BB := BB'
    clear BB'
    clear P8
    have P8 := P8'
    clear P8'
    clear L8
    have L8 := L8'
    clear L8'
    clear L9
    have L9 := L9'
    clear L9'
    clear P9
    have P9 := P9'
    clear P9'
    clear hb5
    have DG : Hid (decide ((G : Int) < 0) = false) := by show _ = _; simp
    have DG2 : Hid (decide ((Nat.gcd t.natAbs G : Int) < 0) = false) := by show _ = _; simp
    have HSG2 : Hid (Sz 2000 (Nat.gcd t.natAbs G : Int)) := by
      show Nat.gcd t.natAbs G < _
      have h1 : Nat.gcd t.natAbs G ≤ G := Nat.gcd_le_right _ HG0.out
      exact Nat.lt_of_le_of_lt h1 SG.out
    have HDV2 : Hid ((G : Int) * (Nat.gcd t.natAbs G : Int) = dvr N (P * Q)) := by show _ = _; rw [HDV.out]; simp
    have DD : Hid (decide (dvr N (P * Q) < 0) = false) := by show _ = _; rw [HDV.out]; exact decide_eq_false (by omega)
    have ⟨p0, p1, _, _, pl⟩ := P7.out
    have ⟨s0, s1, _, _, sl⟩ := P9.out
    go_wp2_with fail
    refine (quotient_x _ A3 A9 n3 n9 c3 c9 2000 N (G : Int) t L7.out L9.out SZN.out SG.out (by omega) (by have := HG0.out; omega) HT.out HNN.out DG.out).mono ?_
    rintro e w6 ⟨A10, n10, c10, g10, A11, n11, c11, rfl, hL10, hb6⟩
    obtain ⟨nt, hnt⟩ : ∃ b, decide (t < 0) = b := ⟨_, rfl⟩
    rw [hnt]
    have HNt := Lib.hid hnt
    clear hnt p0 p1 pl s0 s1 sl
    have hg10 : g9 < w6.heap.size := (P9.out.via hb6).lt
    have KR' := Lib.hid (((KR.out.via hb6).alloc (.cells #[.bool nt, .slice A10 n10 c10] 24)).alloc (.cells #[.bool g10, .slice A11 n11 c11] 24))
    have P7' := Lib.hid (((P7.out.via hb6).alloc (.cells #[.bool nt, .slice A10 n10 c10] 24)).alloc (.cells #[.bool g10, .slice A11 n11 c11] 24))
    have L7' := Lib.hid (((L7.out.via hb6).box (.cells #[.bool nt, .slice A10 n10 c10] 24)).box (.cells #[.bool g10, .slice A11 n11 c11] 24))
    have BB' := Lib.hid ((below_alloc (below_alloc (btr BB.out hb6) (.cells #[.bool nt, .slice A10 n10 c10] 24)) (.cells #[.bool g10, .slice A11 n11 c11] 24)))
    have P8' := Lib.hid (((P8.out.via hb6).alloc (.cells #[.bool nt, .slice A10 n10 c10] 24)).alloc (.cells #[.bool g10, .slice A11 n11 c11] 24))
    have L8' := Lib.hid (((L8.out.via hb6).box (.cells #[.bool nt, .slice A10 n10 c10] 24)).box (.cells #[.bool g10, .slice A11 n11 c11] 24))
    have L9' := Lib.hid (((L9.out.via hb6).box (.cells #[.bool nt, .slice A10 n10 c10] 24)).box (.cells #[.bool g10, .slice A11 n11 c11] 24))
    have P9' := Lib.hid (((P9.out.via hb6).alloc (.cells #[.bool nt, .slice A10 n10 c10] 24)).alloc (.cells #[.bool g10, .slice A11 n11 c11] 24))
    clear KR
    have KR := KR'
    clear KR'
    clear P7
    have P7 := P7'
    clear P7'
    clear L7
    have L7 := L7'
    clear L7'
    clear BB
    have BB := BB'
    clear BB'
    clear P8
    have P8 := P8'
    clear P8'
    clear L8
    have L8 := L8'
    clear L8'
    clear L9
    have L9 := L9'
    clear L9'
    clear P9
    have P9 := P9'
    clear P9'
    have P10 := Lib.hid ((Pr.new w6 _ rfl (.bool nt) (.slice A10 n10 c10) 24).alloc (.cells #[.bool g10, .slice A11 n11 c11] 24))
    have L10 := Lib.hid ((hL10.box (.cells #[.bool nt, .slice A10 n10 c10] 24)).box (.cells #[.bool g10, .slice A11 n11 c11] 24))
    clear hL10 hb6
    have ⟨s0, s1, _, _, sl⟩ := P9.out
    have ⟨u0, u1, _, _, ul⟩ := P10.out
    go_wp2_with fail
    generalize (w6.alloc (.cells #[.bool nt, .slice A10 n10 c10] 24)).alloc (.cells #[.bool g10, .slice A11 n11 c11] 24) = W6 at *
    generalize w6.heap.size = g10' at *
    have HKS : Hid (∀ X : World, Below W6.heap.size W6 X → X.cell? ⟨g9, 0, none⟩ = some (.bool false) ∧ X.cell? ⟨g9, 1, none⟩ = some (.slice A9 n9 c9) ∧ X.cell? ⟨g10', 0, none⟩ = some (.bool nt) ∧ X.cell? ⟨g10', 1, none⟩ = some (.slice A10 n10 c10)) := fun X h => ⟨(P9.out.via h).c0, (P9.out.via h).c1, (P10.out.via h).c0, (P10.out.via h).c1⟩
    have STG : Hid (Sz 2000 t) := by
      show t.natAbs < _
      refine Nat.lt_of_le_of_lt ?_ SZN.out
      rw [HT.out, Int.natAbs_mul]
      exact Nat.le_mul_of_pos_right _ (by have := HG0.out; omega)
    clear s0 s1 sl u0 u1 ul
    have ⟨s0, s1, _, _, sl⟩ := P9.out
    have ⟨u0, u1, _, _, ul⟩ := P10.out
    go_cut [12] (fun sl wx => ∃ g A3 n3 c3, sl = .pointer (some ⟨g, 0, none⟩) ∧ Pr wx g (.bool false) (.slice A3 n3 c3) ∧ Lm wx wx.heap.size A3 n3 c3 (digs (dvr N (P * Q)).natAbs) ∧ W6.heap.size ≤ g ∧ Below W6.heap.size W6 wx)
    case first =>
      go_region_held3 (fun w' => w'.cell? ⟨g9, 0, none⟩ = some (.bool false) ∧ w'.cell? ⟨g9, 1, none⟩ = some (.slice A9 n9 c9) ∧ w'.cell? ⟨g10', 0, none⟩ = some (.bool nt) ∧ w'.cell? ⟨g10', 1, none⟩ = some (.slice A10 n10 c10))
        (first | (refine HKS.out _ ?_; (repeat' (first | exact Bd | exact Bc | exact B1 | exact (Below.refl _ _).drew | exact Below.refl _ _ | refine below_alloc ?_ _ | refine Below.drew ?_ | refine Below.setCell ?_ ?_ _)); all_goals (first | omega | (simp; done) | (simp; omega))))
        (first
         | (go_at_call 66; refine (gcd_n2 _ A10 A9 n10 n9 c10 c9 2000 t (G : Int) (by first | exact L10.out.drew | exact (L10.out.box _).drew | exact L10.out | exact L10.out.box _) (by first | exact L9.out.drew | exact (L9.out.box _).drew | exact L9.out | exact L9.out.box _) STG.out SG.out (by omega) HNt.out DG.out).mono ?_; rintro e wa ⟨A1, n1, c1, rfl, hL1, hb1⟩; have B1 : Below W6.heap.size W6 wa := (by first | exact (Below.refl _ _).drew.trans hb1 | exact b_one_d hb1 | exact hb1 | exact bbox hb1); have B1s := B1.size; (try (have F0 : Pr _ W6.heap.size (.bool false) (.slice none 0 0) := (by first | exact (Pr.new W6 _ rfl _ _ 24).via hb1 | exact (Pr.new W6 _ rfl _ _ 24).drew.via hb1))); (try (have ⟨F0a, F0b, F0c, F0d, F0e⟩ := F0)))
         | (go_at_call 49; refine (must_ok _ _ _ _ _).mono ?_; rintro e wb ⟨rfl, hb2⟩; have Bc : Below W6.heap.size W6 wb := (by first | exact btr B1 hb2 | exact btr B1 (bbox hb2) | exact (Below.refl _ _).drew.trans hb2 | exact b_one_d hb2 | exact hb2 | exact bbox hb2); have Bcs := Bc.size; have hL2 := (by first | exact hL1.via hb2 | exact (hL1.box _).via hb2); (try (have F0 := (by first | exact F0.via hb2 | exact (F0.alloc _).via hb2))); (try (have F1 : Pr _ wa.heap.size (.bool false) (.slice none 0 0) := (by first | exact (Pr.new wa _ rfl _ _ 24).via hb2 | exact (Pr.new wa _ rfl _ _ 24).drew.via hb2))); (try (have ⟨F0a, F0b, F0c, F0d, F0e⟩ := F0)); (try (have ⟨F1a, F1b, F1c, F1d, F1e⟩ := F1)))
         | (go_at_call 46; refine (prod_n _ A9 A1 n9 n1 c9 c1 2000 (G : Int) (Nat.gcd t.natAbs G : Int) (by first | exact L9.out.via Bc | exact (L9.out.via Bc).box _ | exact L9.out.drew | exact (L9.out.box _).drew | exact L9.out | exact L9.out.box _) (by first | exact hL2 | exact hL2.box _) SG.out HSG2.out (by omega) DG.out DG2.out).mono ?_; rw [HDV2.out]; rintro e wc ⟨A3', n3', c3', rfl, hL3', hb3⟩; rw [DD.out]; have Bd : Below W6.heap.size W6 wc := (by first | exact btr Bc hb3 | exact btr Bc (bbox hb3) | exact (Below.refl _ _).drew.trans hb3 | exact b_one_d hb3 | exact hb3 | exact bbox hb3); have Bds := Bd.size; (try (have F0 := (by first | exact F0.via hb3 | exact (F0.alloc _).via hb3))); (try (have F1 := (by first | exact F1.via hb3 | exact (F1.alloc _).via hb3))); (try (have F2 : Pr _ wb.heap.size (.bool false) (.slice none 0 0) := (by first | exact (Pr.new wb _ rfl _ _ 24).via hb3 | exact (Pr.new wb _ rfl _ _ 24).drew.via hb3))); (try (have ⟨F0a, F0b, F0c, F0d, F0e⟩ := F0)); (try (have ⟨F1a, F1b, F1c, F1d, F1e⟩ := F1)); (try (have ⟨F2a, F2b, F2c, F2d, F2e⟩ := F2)))
         | fail)
      all_goals
        go_wp2_with fail
        go_meet
        first
          | exact ⟨_, A3', n3', c3', rfl, Pr.new _ _ rfl _ _ _, hL3'.box _, Bd.size, below_alloc Bd _⟩
          | exact ⟨_, A3', n3', c3', rfl, F0.set _ _, hL3'.setP F0 _ _, (by first | exact Nat.le_refl _ | exact B1s | exact Bcs), below_set2 Bd (by first | exact Nat.le_refl _ | exact B1s | exact Bcs) _ _⟩
          | exact ⟨_, A3', n3', c3', rfl, F1.set _ _, hL3'.setP F1 _ _, (by first | exact Nat.le_refl _ | exact B1s | exact Bcs), below_set2 Bd (by first | exact Nat.le_refl _ | exact B1s | exact Bcs) _ _⟩
          | exact ⟨_, A3', n3', c3', rfl, F2.set _ _, hL3'.setP F2 _ _, (by first | exact Nat.le_refl _ | exact B1s | exact Bcs), below_set2 Bd (by first | exact Nat.le_refl _ | exact B1s | exact Bcs) _ _⟩
    case rest =>
    obtain ⟨g12, A12, n12, c12, rfl, hP12, hL12, hg12, hbx⟩ := hcut
    have P12 := Lib.hid hP12
    have L12 := Lib.hid hL12
    clear hP12 hL12
    have KR' := Lib.hid (KR.out.via hbx)
    have P7' := Lib.hid (P7.out.via hbx)
    have L7' := Lib.hid (L7.out.via hbx)
    have BB' := Lib.hid ((btr BB.out hbx))
    have P8' := Lib.hid (P8.out.via hbx)
    have L8' := Lib.hid (L8.out.via hbx)
    have L9' := Lib.hid (L9.out.via hbx)
    have P9' := Lib.hid (P9.out.via hbx)
    have P10' := Lib.hid (P10.out.via hbx)
    have L10' := Lib.hid (L10.out.via hbx)
    clear KR
    have KR := KR'
    clear KR'
    clear P7
    have P7 := P7'
    clear P7'
    clear L7
    have L7 := L7'
    clear L7'
    clear BB
    have BB := BB'
    clear BB'
    clear P8
    have P8 := P8'
    clear P8'
    clear L8
    have L8 := L8'
    clear L8'
    clear L9
    have L9 := L9'
    clear L9'
    clear P9
    have P9 := P9'
    clear P9'
    clear P10
    have P10 := P10'
    clear P10'
    clear L10
    have L10 := L10'
    clear L10'
    clear hbx s0 s1 sl u0 u1 ul
    have ⟨p0, p1, _, _, pl⟩ := P7.out
    have ⟨q0, q1, _, _, ql⟩ := P8.out
    have ⟨x0, x1, _, _, xl⟩ := P12.out
    go_wp2_with fail
    refine (divided_x _ A3 A8 A12 n3 n8 n12 c3 c8 c12 2000 N (P * Q) (dvr N (P * Q)) (N / dvr N (P * Q)) (P * Q / dvr N (P * Q)) L7.out L8.out L12.out SZN.out SZD.out (sz_dvr SZD.out (by have := HPQ.out; omega)) (by omega) (dvr_ne (by have := HPQ.out; omega)) (dvr_left _ _) (dvr_right _ _) HNN.out DPQ.out (by rw [HDV.out]; exact decide_eq_false (by omega))).mono ?_
    rintro e w13 ⟨A13, n13, c13, B13, m13, d13, rfl, hL13, hM13, hb13⟩
    obtain ⟨np, hnp⟩ : ∃ b, decide (N / dvr N (P * Q) < 0) = b := ⟨_, rfl⟩
    obtain ⟨nq, hnq⟩ : ∃ b, decide (P * Q / dvr N (P * Q) < 0) = b := ⟨_, rfl⟩
    rw [hnp, hnq]
    have HNp := Lib.hid hnp
    have HNq := Lib.hid hnq
    have K13 := KR.out.via hb13
    have L13 := Lib.hid hL13
    have M13 := Lib.hid hM13
    have BE := Lib.hid (btr BB.out hb13)
    have ⟨r0, r1, r2, r3, f0, f1, f2, f3, rl⟩ := K13
    clear hnp hnq hL13 hM13 hb13 p0 p1 pl q0 q1 ql x0 x1 xl
    go_wp2
    exact post_f1 Tryz.results40 rfl rfl (K13.set (.bool np) (.slice A13 n13 c13) (.bool nq) (.slice B13 m13 d13)) ⟨A13, n13, c13, B13, m13, d13, by rw [HNp.out, HNq.out], L13.out.put4 K13 _ _ _ _, M13.out.put4 K13 _ _ _ _, below_put4 BE.out (by omega) _ _ _ _⟩
end Go.Proofs.YtioccpbohhhkpaaGreat

/- Package frac: the closures of join and change, where a fraction is not valid. -/
namespace Go.Proofs.YtioccpbohhhkpaaGreat
open Go.RowKit

/-- A closure's variable that holds a function. -/
structure Fb (w : World) (g : Nat) (f : FuncId) : Prop where
  c0 : w.cell? ⟨g, 0, none⟩ = some (.func (.func f) #[] #[])
  lt : g < w.heap.size
theorem Fb.via {w w' : World} {g : Nat} {f : FuncId} (h : Fb w g f) (hb : Below w.heap.size w w') : Fb w' g f := ⟨(hb.cell (p := ⟨g, 0, none⟩) h.lt).trans h.c0, Nat.lt_of_lt_of_le h.lt hb.size⟩

set_option maxRecDepth 100000 in
set_option maxHeartbeats 4000000 in
theorem joinf_bad (w : World) (g0 ga gb : Nat) (f : FuncId) (na da nb db : Bool) (A B C D : Option Addr) (n m r s ca cb cc cd : Nat) (xs ys us vs : List Nat) (hf : Fb w g0 f) (qa : Qd w ga (.bool na) (.slice A n ca) (.bool da) (.slice B m cb)) (qb : Qd w gb (.bool nb) (.slice C r cc) (.bool db) (.slice D s cd))
    (hA : Lm w w.heap.size A n ca xs) (hB : Lm w w.heap.size B m cb ys) (hC : Lm w w.heap.size C r cc us) (hD : Lm w w.heap.size D s cd vs) (hbad : fchk na xs da ys = 8 ∨ fchk nb us db vs = 8) :
    Calls Tryz.prog 38 #[.pointer (some ⟨g0, 0, none⟩), .pointer (some ⟨ga, 0, none⟩), .pointer (some ⟨gb, 0, none⟩)] w (fun e w' => e = Pan 8 ∧ Below w.heap.size w w') := by
  have HF := Lib.hid hf
  have QA := Lib.hid qa
  have QB := Lib.hid qb
  have LA := Lib.hid hA
  have LB := Lib.hid hB
  have LC := Lib.hid hC
  have LD := Lib.hid hD
  have W0B : Hid (Below w.heap.size w (w.alloc (.cells #[.bool false, .slice none 0 0, .bool false, .slice none 0 0] 26))) := below_alloc (Below.refl _ _) _
  have ⟨f0, fl⟩ := hf
  have ⟨a0, a1, a2, a3, _, _, _, _, al⟩ := qa
  have ⟨b0, b1, b2, b3, _, _, _, _, bl⟩ := qb
  have HBAD : Hid (fchk na xs da ys = 0 ∨ fchk na xs da ys = 8) := by
    show _ ∨ _
    unfold fchk
    split
    · exact .inl rfl
    · exact .inr rfl
  have HBAD2 : Hid (fchk nb us db vs = 0 ∨ fchk nb us db vs = 8) := by
    show _ ∨ _
    unfold fchk
    split
    · exact .inl rfl
    · exact .inr rfl
  have HB0 := Lib.hid hbad
  clear hA hB hC hD hbad hf qa qb
  go_enter Tryz.func38, Tryz.ntmps38
  go_wp2_with fail
  have HF := Lib.hid (HF.out.via W0B.out)
  have QA := Lib.hid (QA.out.via W0B.out)
  have QB := Lib.hid (QB.out.via W0B.out)
  have LA := Lib.hid (LA.out.via W0B.out)
  have LB := Lib.hid (LB.out.via W0B.out)
  have LC := Lib.hid (LC.out.via W0B.out)
  have LD := Lib.hid (LD.out.via W0B.out)
  generalize w.alloc (.cells #[.bool false, .slice none 0 0, .bool false, .slice none 0 0] 26) = W0 at *
  clear f0 fl a0 a1 a2 a3 al b0 b1 b2 b3 bl
  refine wp_region_held_drew (S := fun w' => w'.cell? ⟨g0, 0, none⟩ = some (.func (.func f) #[] #[]) ∧ w'.cell? ⟨ga, 0, none⟩ = some (.bool na) ∧ w'.cell? ⟨ga, 1, none⟩ = some (.slice A n ca) ∧ w'.cell? ⟨ga, 2, none⟩ = some (.bool da) ∧ w'.cell? ⟨ga, 3, none⟩ = some (.slice B m cb) ∧ w'.cell? ⟨gb, 0, none⟩ = some (.bool nb) ∧ w'.cell? ⟨gb, 1, none⟩ = some (.slice C r cc) ∧ w'.cell? ⟨gb, 2, none⟩ = some (.bool db) ∧ w'.cell? ⟨gb, 3, none⟩ = some (.slice D s cd)) (by kernel_rfl) ?_ (fun hHeld => ?_)
  · exact ⟨HF.out.c0, QA.out.c0, QA.out.c1, QA.out.c2, QA.out.c3, QB.out.c0, QB.out.c1, QB.out.c2, QB.out.c3⟩
  refine wpAnyH_take (i := 0) (v := ?_) rfl (by kernel_rfl) (by kernel_rfl) (by kernel_rfl) (fun _ _ _ h => h) (Or.inl ⟨by rfl, ?_⟩) (by assumption) ?_
  rotate_left
  · (intro w hSw; (try dsimp only at hSw); go_simp; try with_reducible rfl)
  try simp only [Act.put, List.setIfInBounds_toArray, List.set_cons_zero, List.set_cons_succ]
  refine wpAnyH_take (i := 1) (v := ?_) rfl (by kernel_rfl) (by kernel_rfl) (by kernel_rfl) (fun _ _ _ h => h) (Or.inl ⟨by rfl, ?_⟩) (by assumption) ?_
  rotate_left
  · (intro w hSw; (try dsimp only at hSw); go_simp; try with_reducible rfl)
  try simp only [Act.put, List.setIfInBounds_toArray, List.set_cons_zero, List.set_cons_succ]
  refine wpAnyH_take (i := 3) (v := ?_) rfl (by kernel_rfl) (by kernel_rfl) (by kernel_rfl) (fun _ _ _ h => h) (Or.inl ⟨by rfl, ?_⟩) (by assumption) ?_
  rotate_left
  · (intro w hSw; (try dsimp only at hSw); go_simp; try with_reducible rfl)
  try simp only [Act.put, List.setIfInBounds_toArray, List.set_cons_zero, List.set_cons_succ]
  refine wpAnyH_ready (rs := [2]) (by kernel_rfl) (by simp) ?_
  refine AllReadyH.cons rfl (fun K hK => ?_) (AllReadyH.nil)
  · go_simp
    rcases HBAD.out with hk | hk
    · have Hak := Lib.hid hk
      have Hbn : Hid (fchk nb us db vs = 8) := by
        show _ = _
        rcases HB0.out with h | h
        · omega
        · exact h
      clear hk
      refine (known_ok _ na da A B n m ca cb xs ys LA.out.drew LB.out.drew Hak.out).mono ?_
      rintro e wc ⟨rfl, hbc⟩
      have Bc : Below W0.heap.size W0 wc := (Below.refl _ _).drew.trans hbc
      go_wp2_with fail
      refine hK.out _ _ ?_ (fun hHeld => ?_)
      · exact ⟨(HF.out.via Bc).c0, (QA.out.via Bc).c0, (QA.out.via Bc).c1, (QA.out.via Bc).c2, (QA.out.via Bc).c3, (QB.out.via Bc).c0, (QB.out.via Bc).c1, (QB.out.via Bc).c2, (QB.out.via Bc).c3⟩
      clear hK K
      try simp only [Act.put, List.setIfInBounds_toArray, List.set_cons_zero, List.set_cons_succ]
      refine wpAnyH_ready (rs := [4]) (by kernel_rfl) (by simp) ?_
      refine AllReadyH.cons rfl (fun K hK => ?_) (AllReadyH.nil)
      go_simp
      refine (known_no _ nb db C D r s cc cd us vs (by first | exact LC.out.via Bc | exact LC.out.drew) (by first | exact LD.out.via Bc | exact LD.out.drew) Hbn.out).mono ?_
      rintro e wp ⟨rfl, hbp⟩
      unfold Pan
      exact ⟨rfl, rfl, (btr W0B.out (btr Bc hbp))⟩
    · have Han := Lib.hid hk
      clear hk
      refine (known_no _ na da A B n m ca cb xs ys LA.out.drew LB.out.drew Han.out).mono ?_
      rintro e wp ⟨rfl, hbp⟩
      unfold Pan
      exact ⟨rfl, rfl, (btr W0B.out ((Below.refl _ _).drew.trans hbp))⟩

set_option maxRecDepth 100000 in
set_option maxHeartbeats 4000000 in
theorem joini_bad (w : World) (g0 ga gb : Nat) (f : FuncId) (na da nb db : Bool) (A B C D : Option Addr) (n m r s ca cb cc cd : Nat) (xs ys us vs : List Nat) (hf : Fb w g0 f) (qa : Qd w ga (.bool na) (.slice A n ca) (.bool da) (.slice B m cb)) (qb : Qd w gb (.bool nb) (.slice C r cc) (.bool db) (.slice D s cd))
    (hA : Lm w w.heap.size A n ca xs) (hB : Lm w w.heap.size B m cb ys) (hC : Lm w w.heap.size C r cc us) (hD : Lm w w.heap.size D s cd vs) (hbad : fchk na xs da ys = 8 ∨ fchk nb us db vs = 8) :
    Calls Tryz.prog 57 #[.pointer (some ⟨g0, 0, none⟩), .pointer (some ⟨ga, 0, none⟩), .pointer (some ⟨gb, 0, none⟩)] w (fun e w' => e = Pan 8 ∧ Below w.heap.size w w') := by
  have HF := Lib.hid hf
  have QA := Lib.hid qa
  have QB := Lib.hid qb
  have LA := Lib.hid hA
  have LB := Lib.hid hB
  have LC := Lib.hid hC
  have LD := Lib.hid hD
  have W0B : Hid (Below w.heap.size w w) := Below.refl _ _
  have ⟨f0, fl⟩ := hf
  have ⟨a0, a1, a2, a3, _, _, _, _, al⟩ := qa
  have ⟨b0, b1, b2, b3, _, _, _, _, bl⟩ := qb
  have HBAD : Hid (fchk na xs da ys = 0 ∨ fchk na xs da ys = 8) := by
    show _ ∨ _
    unfold fchk
    split
    · exact .inl rfl
    · exact .inr rfl
  have HBAD2 : Hid (fchk nb us db vs = 0 ∨ fchk nb us db vs = 8) := by
    show _ ∨ _
    unfold fchk
    split
    · exact .inl rfl
    · exact .inr rfl
  have HB0 := Lib.hid hbad
  clear hA hB hC hD hbad hf qa qb
  go_enter Tryz.func57, Tryz.ntmps57
  go_wp2_with fail
  clear f0 fl a0 a1 a2 a3 al b0 b1 b2 b3 bl
  refine wp_region_held_drew (S := fun w' => w'.cell? ⟨g0, 0, none⟩ = some (.func (.func f) #[] #[]) ∧ w'.cell? ⟨ga, 0, none⟩ = some (.bool na) ∧ w'.cell? ⟨ga, 1, none⟩ = some (.slice A n ca) ∧ w'.cell? ⟨ga, 2, none⟩ = some (.bool da) ∧ w'.cell? ⟨ga, 3, none⟩ = some (.slice B m cb) ∧ w'.cell? ⟨gb, 0, none⟩ = some (.bool nb) ∧ w'.cell? ⟨gb, 1, none⟩ = some (.slice C r cc) ∧ w'.cell? ⟨gb, 2, none⟩ = some (.bool db) ∧ w'.cell? ⟨gb, 3, none⟩ = some (.slice D s cd)) (by kernel_rfl) ?_ (fun hHeld => ?_)
  · exact ⟨HF.out.c0, QA.out.c0, QA.out.c1, QA.out.c2, QA.out.c3, QB.out.c0, QB.out.c1, QB.out.c2, QB.out.c3⟩
  refine wpAnyH_take (i := 0) (v := ?_) rfl (by kernel_rfl) (by kernel_rfl) (by kernel_rfl) (fun _ _ _ h => h) (Or.inl ⟨by rfl, ?_⟩) (by assumption) ?_
  rotate_left
  · (intro w hSw; (try dsimp only at hSw); go_simp; try with_reducible rfl)
  try simp only [Act.put, List.setIfInBounds_toArray, List.set_cons_zero, List.set_cons_succ]
  refine wpAnyH_take (i := 1) (v := ?_) rfl (by kernel_rfl) (by kernel_rfl) (by kernel_rfl) (fun _ _ _ h => h) (Or.inl ⟨by rfl, ?_⟩) (by assumption) ?_
  rotate_left
  · (intro w hSw; (try dsimp only at hSw); go_simp; try with_reducible rfl)
  try simp only [Act.put, List.setIfInBounds_toArray, List.set_cons_zero, List.set_cons_succ]
  refine wpAnyH_take (i := 3) (v := ?_) rfl (by kernel_rfl) (by kernel_rfl) (by kernel_rfl) (fun _ _ _ h => h) (Or.inl ⟨by rfl, ?_⟩) (by assumption) ?_
  rotate_left
  · (intro w hSw; (try dsimp only at hSw); go_simp; try with_reducible rfl)
  try simp only [Act.put, List.setIfInBounds_toArray, List.set_cons_zero, List.set_cons_succ]
  refine wpAnyH_ready (rs := [2]) (by kernel_rfl) (by simp) ?_
  refine AllReadyH.cons rfl (fun K hK => ?_) (AllReadyH.nil)
  · go_simp
    rcases HBAD.out with hk | hk
    · have Hak := Lib.hid hk
      have Hbn : Hid (fchk nb us db vs = 8) := by
        show _ = _
        rcases HB0.out with h | h
        · omega
        · exact h
      clear hk
      refine (known_ok _ na da A B n m ca cb xs ys LA.out.drew LB.out.drew Hak.out).mono ?_
      rintro e wc ⟨rfl, hbc⟩
      have Bc : Below w.heap.size w wc := (Below.refl _ _).drew.trans hbc
      go_wp2_with fail
      refine hK.out _ _ ?_ (fun hHeld => ?_)
      · exact ⟨(HF.out.via Bc).c0, (QA.out.via Bc).c0, (QA.out.via Bc).c1, (QA.out.via Bc).c2, (QA.out.via Bc).c3, (QB.out.via Bc).c0, (QB.out.via Bc).c1, (QB.out.via Bc).c2, (QB.out.via Bc).c3⟩
      clear hK K
      try simp only [Act.put, List.setIfInBounds_toArray, List.set_cons_zero, List.set_cons_succ]
      refine wpAnyH_ready (rs := [4]) (by kernel_rfl) (by simp) ?_
      refine AllReadyH.cons rfl (fun K hK => ?_) (AllReadyH.nil)
      go_simp
      refine (known_no _ nb db C D r s cc cd us vs (by first | exact LC.out.via Bc | exact LC.out.drew) (by first | exact LD.out.via Bc | exact LD.out.drew) Hbn.out).mono ?_
      rintro e wp ⟨rfl, hbp⟩
      unfold Pan
      exact ⟨rfl, rfl, (btr W0B.out (btr Bc hbp))⟩
    · have Han := Lib.hid hk
      clear hk
      refine (known_no _ na da A B n m ca cb xs ys LA.out.drew LB.out.drew Han.out).mono ?_
      rintro e wp ⟨rfl, hbp⟩
      unfold Pan
      exact ⟨rfl, rfl, (btr W0B.out ((Below.refl _ _).drew.trans hbp))⟩

end Go.Proofs.YtioccpbohhhkpaaGreat

