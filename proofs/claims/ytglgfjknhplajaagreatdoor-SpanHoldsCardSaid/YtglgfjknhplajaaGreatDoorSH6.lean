/- Lemmas, part 6. -/
import Derived.Deep.RegionHeld3
import Derived.Deep.DeepCutAuto
import Derived.Deep.RegionLaw
import Derived.Laws.OwnMore
import Derived.LoopTactic
import Derived.Test.YtglgfjknhplajaaGreatDoorSH5
/- The reference's DivMod, rounded down. -/
namespace Go.Proofs.YtglgfjknhplajaaGreatDoor
open Go.RowKit

theorem rfrom_m1 (w : World) : Calls Tryz.prog 25 #[.int .i64 (-1)] w fun e w' => ∃ A n c, e = .returned (.agg #[.bool true, .slice A n c]) ∧ Lm w' w'.heap.size A n c (digs 1) ∧ Below w.heap.size w w' :=
  (rfrom_any w (-1) (by omega) (by omega)).mono fun _ _ ⟨A, n, c, he, hL, hb⟩ => ⟨A, n, c, he, hL, hb⟩
theorem toI_mkN {v : Nat} (h : (digs v).length ≤ 4096) (neg : Bool) : toI (mkN neg v) v = toI neg v := by
  unfold mkN toI
  rw [decide_eq_true h, Bool.true_and]
  by_cases h0 : v = 0
  · subst h0; cases neg <;> rfl
  · rw [decide_eq_true h0, Bool.and_true]
theorem mkL_digs {v : Nat} (h : (digs v).length ≤ 4096) : mkL v = digs v := by unfold mkL; rw [if_pos h]
theorem mkE_zero {v : Nat} (h : (digs v).length ≤ 4096) : mkE v = 0 := by unfold mkE; rw [if_pos h]
theorem down_le {a b : Nat} (hb : 0 < b) (h0 : 0 < a % b) : a / b + 1 ≤ a := by
  have h := Nat.div_add_mod a b
  have hb2 : 2 ≤ b := by have := Nat.mod_lt a hb; omega
  have h2 : 2 * (a / b) ≤ b * (a / b) := Nat.mul_le_mul_right _ hb2
  generalize a / b = z at *
  omega

set_option maxRecDepth 100000 in
set_option maxHeartbeats 2000000 in
theorem rdivmod_down (w : World) (na nb : Bool) (A B : Option Addr) (n m ca cb a b : Nat) (hA : Lm w w.heap.size A n ca (digs a)) (hB : Lm w w.heap.size B m cb (digs b)) (hv : chkB na (digs a) nb (digs b) = 0) (hb : 0 < b) (hs : na = true ∧ nb = false ∨ na = false ∧ nb = true) (h0 : 0 < a % b) :
    Calls Tryz.prog 53 #[.agg #[.bool na, .slice A n ca], .agg #[.bool nb, .slice B m cb]] w (RWW w (mkN true (a / b + 1)) (digs (a / b + 1)) (mkN nb (b - a % b)) (digs (b - a % b)) 0) := by
  have h41 := (chk_ok.1 (chkB_ok.1 hv).1).1
  have h42 := (chk_ok.1 (chkB_ok.1 hv).2).1
  have hml := Nat.mod_lt a hb
  have hq0 : (digs (a / b)).length ≤ 4096 := Nat.le_trans (digs_mono (Nat.div_le_self a b)) h41
  have hr0 : (digs (a % b)).length ≤ 4096 := Nat.le_trans (digs_mono (Nat.le_of_lt hml)) h42
  have HLq : Hid (mkL (a / b) = digs (a / b)) := by show _ = _; unfold mkL; rw [if_pos hq0]
  have HLr : Hid (mkL (a % b) = digs (a % b)) := by show _ = _; unfold mkL; rw [if_pos hr0]
  have HEq : Hid (mkE (a / b) = 0) := by show _ = _; unfold mkE; rw [if_pos hq0]
  have HEr : Hid (mkE (a % b) = 0) := by show _ = _; unfold mkE; rw [if_pos hr0]
  have hq1 : (digs (a / b + 1)).length ≤ 4096 := Nat.le_trans (digs_mono (down_le hb h0)) h41
  have hr1 : (digs (b - a % b)).length ≤ 4096 := Nat.le_trans (digs_mono (Nat.sub_le _ _)) h42
  have HS1 : Hid (∀ (W : World) (A' A'' : Option Addr) (n' c' n'' c'' : Nat), Lm W W.heap.size A' n' c' (digs (a / b)) → Lm W W.heap.size A'' n'' c'' (digs 1) → Calls Tryz.prog 83 #[.agg #[.bool (mkN true (a / b)), .slice A' n' c'], .agg #[.bool true, .slice A'' n'' c'']] W (RW W (mkN true (a / b + 1)) (digs (a / b + 1)) 0)) := by
    intro W A' A'' n' c' n'' c'' h1 h2
    have h3 := rsum_any W (mkN true (a / b)) true A' A'' n' n'' c' c'' (a / b) 1 h1 h2 (by rw [← h1.len]; omega) (by rw [← h2.len]; have : (digs 1).length ≤ 1 := digs_len.2 (by omega); omega)
    rw [← rz_of W true (a / b + 1) (by rw [toI_mkN hq0]; unfold toI; simp; omega), mkL_digs hq1, mkE_zero hq1] at h3
    exact h3
  have HS2 : Hid (∀ (W : World) (A' : Option Addr) (n' c' : Nat), Lm W W.heap.size A' n' c' (digs (a % b)) → Lm W W.heap.size B m cb (digs b) → Calls Tryz.prog 83 #[.agg #[.bool (mkN na (a % b)), .slice A' n' c'], .agg #[.bool nb, .slice B m cb]] W (RW W (mkN nb (b - a % b)) (digs (b - a % b)) 0)) := by
    intro W A' n' c' h1 h2
    have h3 := rsum_any W (mkN na (a % b)) nb A' B n' m c' cb (a % b) b h1 h2 (by rw [← h1.len]; omega) (by rw [← h2.len]; omega)
    rw [← rz_of W nb (b - a % b) (by rw [toI_mkN hr0]; rcases hs with ⟨e1, e2⟩ | ⟨e1, e2⟩ <;> subst e1 <;> subst e2 <;> simp only [toI, Bool.false_eq_true, if_true, if_false] <;> omega), mkL_digs hr1, mkE_zero hr1] at h3
    exact h3
  rw [hA.len] at h41
  rw [hB.len] at h42
  have hm0 : 0 < m := by rw [← hB.len, digs_pos]; exact hb
  have hm1 : ((m : Int) == 0) = false := by simp; omega
  have hcB := hB.cap
  have hxB := hB.max
  have HA := Lib.hid hA
  have HB := Lib.hid hB
  have HV := Lib.hid hv
  have HVq : Hid (val (digs (a / b)) = a / b) := digs_val _
  have HVr : Hid (val (digs (a % b)) = a % b) := digs_val _
  have hrl : decide (0 < (digs (a % b)).length) = decide (0 < a % b) := decide_eq_decide.2 digs_pos
  have hrz : decide (0 < (digs (a % b)).length) = true := by rw [hrl]; simpa using h0
  clear hrl
  clear hv hA hB hml
  rcases hs with ⟨rfl, rfl⟩ | ⟨rfl, rfl⟩
  · go_enter Tryz.func53, Tryz.ntmps53
    go_wp2_with fail
    refine (rboth_any _ _ _ _ _ _ _ _ _ _ _ ((((HA.out.box _).box _).box _).box _) ((((HB.out.box _).box _).box _).box _) 0 HV.out).mono ?_
    rintro e w1 ⟨rfl, hb1⟩
    have ⟨PA, PB, PQ, PR⟩ := boxes4 hb1
    have LA1 := Lib.hid (((((HA.out.box _).box _).box _).box _).via hb1)
    have LB1 := Lib.hid (((((HB.out.box _).box _).box _).box _).via hb1)
    have HB1 := Lib.hid (bbox (bbox (bbox (bbox hb1))))
    have ⟨a0, a1, _, _, _⟩ := PA
    have ⟨b0, b1, _, _, _⟩ := PB
    clear hb1
    go_wp2_with fail
    refine (rover_any w1 A B n m ca cb a b LA1.out LB1.out hb (by omega)).mono ?_
    rintro e w2 ⟨Q, cq, R, cr, rfl, hQ, hR, hb2⟩
    have PA2 := PA.via hb2
    have PB2 := PB.via hb2
    have PQ2 := PQ.via hb2
    have PR2 := PR.via hb2
    have HB2 := Lib.hid (HB1.out.trans (hb2.mono HB1.out.size))
    have HQ := Lib.hid hQ
    have HR := Lib.hid hR
    have LB2 := Lib.hid (LB1.out.via hb2)
    clear PA PB PQ PR LA1 LB1 HB1 a0 a1 b0 b1 hb2 hQ hR
    have ⟨a0, a1, _, _, _⟩ := PA2
    have ⟨b0, b1, _, _, _⟩ := PB2
    go_wp2_with fail
    refine (rmade_any w2 _ _ _ _ _ (a / b) HQ.out HVq.out (by omega)).mono ?_
    rintro e w3 ⟨A3, n3, c3, rfl, hL3, hb3⟩
    rw [HLq.out] at hL3
    rw [HEq.out]
    have PA4 := (PA2.via hb3).alloc (.cells #[.bool (mkN true (a / b)), .slice A3 n3 c3] 29)
    have PB4 := (PB2.via hb3).alloc (.cells #[.bool (mkN true (a / b)), .slice A3 n3 c3] 29)
    have PQ4 := (PQ2.via hb3).alloc (.cells #[.bool (mkN true (a / b)), .slice A3 n3 c3] 29)
    have PR4 := (PR2.via hb3).alloc (.cells #[.bool (mkN true (a / b)), .slice A3 n3 c3] 29)
    have HB4 := Lib.hid ((HB2.out.trans (hb3.mono HB2.out.size)).alloc (HB2.out.trans (hb3.mono HB2.out.size)).size (.cells #[.bool (mkN true (a / b)), .slice A3 n3 c3] 29))
    have HR4 := Lib.hid ((HR.out.via hb3).box (.cells #[.bool (mkN true (a / b)), .slice A3 n3 c3] 29))
    have LB4 := Lib.hid ((LB2.out.via hb3).box (.cells #[.bool (mkN true (a / b)), .slice A3 n3 c3] 29))
    have HL4 := Lib.hid (hL3.box (.cells #[.bool (mkN true (a / b)), .slice A3 n3 c3] 29))
    have PX4 := Pr.new w3 w3.heap.size rfl (.bool (mkN true (a / b))) (.slice A3 n3 c3) 29
    have hlt3 : w.heap.size + 1 + 1 + 1 < w3.heap.size := (PR2.via hb3).lt
    clear PA2 PB2 PQ2 PR2 HQ HR HB2 LB2 hb3 hL3 a0 a1 b0 b1
    have ⟨a0, a1, _, _, _⟩ := PA4
    have ⟨b0, b1, _, _, _⟩ := PB4
    go_wp2_with fail
    generalize w3.alloc (.cells #[.bool (mkN true (a / b)), .slice A3 n3 c3] 29) = w4 at *
    generalize w3.heap.size = g3 at *
    refine (rmade_any w4 _ _ _ _ _ (a % b) HR4.out HVr.out (by omega)).mono ?_
    rintro e w5 ⟨A5, n5, c5, rfl, hL5, hb5⟩
    rw [HLr.out] at hL5
    rw [HEr.out]
    have PA6 := (PA4.via hb5).alloc (.cells #[.bool (mkN true (a % b)), .slice A5 n5 c5] 29)
    have PB6 := (PB4.via hb5).alloc (.cells #[.bool (mkN true (a % b)), .slice A5 n5 c5] 29)
    have PQ6 := (PQ4.via hb5).alloc (.cells #[.bool (mkN true (a % b)), .slice A5 n5 c5] 29)
    have PR6 := (PR4.via hb5).alloc (.cells #[.bool (mkN true (a % b)), .slice A5 n5 c5] 29)
    have PX6 := (PX4.via hb5).alloc (.cells #[.bool (mkN true (a % b)), .slice A5 n5 c5] 29)
    have HB6 := Lib.hid ((HB4.out.trans (hb5.mono HB4.out.size)).alloc (HB4.out.trans (hb5.mono HB4.out.size)).size (.cells #[.bool (mkN true (a % b)), .slice A5 n5 c5] 29))
    have LB6 := Lib.hid ((LB4.out.via hb5).box (.cells #[.bool (mkN true (a % b)), .slice A5 n5 c5] 29))
    have HL6 := Lib.hid ((HL4.out.via hb5).box (.cells #[.bool (mkN true (a % b)), .slice A5 n5 c5] 29))
    have HM6 := Lib.hid (hL5.box (.cells #[.bool (mkN true (a % b)), .slice A5 n5 c5] 29))
    have PY6 := Pr.new w5 w5.heap.size rfl (.bool (mkN true (a % b))) (.slice A5 n5 c5) 29
    have hlt5 : g3 < w5.heap.size := (PX4.via hb5).lt
    clear PA4 PB4 PQ4 PR4 PX4 HB4 HR4 LB4 HL4 hb5 hL5 a0 a1 b0 b1
    have ⟨a0, a1, _, _, _⟩ := PA6
    have ⟨b0, b1, _, _, _⟩ := PB6
    go_wp2_with fail
    generalize w5.alloc (.cells #[.bool (mkN true (a % b)), .slice A5 n5 c5] 29) = w6 at *
    generalize w5.heap.size = g5 at *
    have ⟨q0, q1, qf0, qf1, ql⟩ := PQ6
    have ⟨r0, r1, rf0, rf1, rl⟩ := PR6
    have ⟨x0, x1, xf0, xf1, xl⟩ := PX6
    have ⟨y0, y1, yf0, yf1, yl⟩ := PY6
    go_region_with
      (first
       | (go_at_call 25; refine (rfrom_m1 _).mono ?_; rintro e ws ⟨As, ns, cs, rfl, hLs, hbs⟩; have Bs := (Below.refl w6.heap.size w6).drew.trans hbs; have PXs := PX6.via Bs; have ⟨xs0, xs1, xsf0, xsf1, xsl⟩ := PXs)
       | (go_at_call 83; refine (HS1.out ws A3 As n3 c3 ns cs (HL6.out.via Bs) hLs).mono ?_; rintro e wt ⟨At, nt, ct, rfl, hLt, hbt⟩; have PXt := PXs.via hbt; have ⟨xt0, xt1, xtf0, xtf1, xtl⟩ := PXt))
    all_goals
      have Bt := Bs.trans (hbt.mono Bs.size)
      have PA7 := (PA6.via Bt).far (h := g3) (by omega) (.bool (mkN true (a / b + 1))) (.slice At nt ct)
      have PB7 := (PB6.via Bt).far (h := g3) (by omega) (.bool (mkN true (a / b + 1))) (.slice At nt ct)
      have PQ7 := (PQ6.via Bt).far (h := g3) (by omega) (.bool (mkN true (a / b + 1))) (.slice At nt ct)
      have PR7 := (PR6.via Bt).far (h := g3) (by omega) (.bool (mkN true (a / b + 1))) (.slice At nt ct)
      have PY7 := (PY6.via Bt).far (h := g3) (by omega) (.bool (mkN true (a / b + 1))) (.slice At nt ct)
      have PX7 := PXt.set (.bool (mkN true (a / b + 1))) (.slice At nt ct)
      have HL7 := Lib.hid (hLt.setP PXt (.bool (mkN true (a / b + 1))) (.slice At nt ct))
      have HM7 := Lib.hid ((HM6.out.via Bt).setP PXt (.bool (mkN true (a / b + 1))) (.slice At nt ct))
      have LB7 := Lib.hid ((LB6.out.via Bt).setP PXt (.bool (mkN true (a / b + 1))) (.slice At nt ct))
      have HB7 := Lib.hid (below_set2 (HB6.out.trans (Bt.mono HB6.out.size)) (g := g3) (by omega) (.bool (mkN true (a / b + 1))) (.slice At nt ct))
      have ⟨y70, y71, _, _, _⟩ := PY7
      have ⟨b70, b71, _, _, _⟩ := PB7
      go_wp2_with fail
      generalize (wt.setCell ⟨g3, 0, none⟩ (.bool (mkN true (a / b + 1)))).setCell ⟨g3, 1, none⟩ (.slice At nt ct) = w7 at *
      refine (HS2.out w7 A5 n5 c5 HM7.out LB7.out).mono ?_
      rintro e w8 ⟨A8, n8, c8, rfl, hL8, hb8⟩
      have PY8 := PY7.via hb8
      have ⟨y80, y81, yf80, yf81, _⟩ := PY8
      have PQ9 := (PQ7.via hb8).far (h := g5) (by omega) (.bool (mkN false (b - a % b))) (.slice A8 n8 c8)
      have PR9 := (PR7.via hb8).far (h := g5) (by omega) (.bool (mkN false (b - a % b))) (.slice A8 n8 c8)
      have PX9 := (PX7.via hb8).far (h := g5) (by omega) (.bool (mkN false (b - a % b))) (.slice A8 n8 c8)
      have PY9 := PY8.set (.bool (mkN false (b - a % b))) (.slice A8 n8 c8)
      have HM9 := Lib.hid (hL8.setP PY8 (.bool (mkN false (b - a % b))) (.slice A8 n8 c8))
      have HL9 := Lib.hid ((HL7.out.via hb8).setP PY8 (.bool (mkN false (b - a % b))) (.slice A8 n8 c8))
      have HB9 := Lib.hid (below_set2 (HB7.out.trans (hb8.mono HB7.out.size)) (g := g5) (by omega) (.bool (mkN false (b - a % b))) (.slice A8 n8 c8))
      go_wp2_with fail
      generalize (w8.setCell ⟨g5, 0, none⟩ (.bool (mkN false (b - a % b)))).setCell ⟨g5, 1, none⟩ (.slice A8 n8 c8) = w9 at *
      have ⟨q90, q91, qf90, qf91, ql9⟩ := PQ9
      have ⟨r90, r91, rf90, rf91, rl9⟩ := PR9
      have ⟨x90, x91, xf90, xf91, xl9⟩ := PX9
      have ⟨y90, y91, yf90, yf91, yl9⟩ := PY9
      go_region
      all_goals
        go_wp2
        refine post_ww Tryz.results53 rfl rfl rfl ((PQ9.set _ _).far (by omega) _ _).drew ((PR9.far (by omega) _ _).set _ _).drew ⟨At, nt, ct, A8, n8, c8, rfl, ?_, ?_, ?_⟩
        · exact ((HL9.out.setP PQ9 _ _).setP (PR9.far (by omega) _ _) _ _).drew
        · exact ((HM9.out.setP PQ9 _ _).setP (PR9.far (by omega) _ _) _ _).drew
        · exact (below_set2 (below_set2 HB9.out (by omega) _ _) (by omega) _ _).drew
  · go_enter Tryz.func53, Tryz.ntmps53
    go_wp2_with fail
    refine (rboth_any _ _ _ _ _ _ _ _ _ _ _ ((((HA.out.box _).box _).box _).box _) ((((HB.out.box _).box _).box _).box _) 0 HV.out).mono ?_
    rintro e w1 ⟨rfl, hb1⟩
    have ⟨PA, PB, PQ, PR⟩ := boxes4 hb1
    have LA1 := Lib.hid (((((HA.out.box _).box _).box _).box _).via hb1)
    have LB1 := Lib.hid (((((HB.out.box _).box _).box _).box _).via hb1)
    have HB1 := Lib.hid (bbox (bbox (bbox (bbox hb1))))
    have ⟨a0, a1, _, _, _⟩ := PA
    have ⟨b0, b1, _, _, _⟩ := PB
    clear hb1
    go_wp2_with fail
    refine (rover_any w1 A B n m ca cb a b LA1.out LB1.out hb (by omega)).mono ?_
    rintro e w2 ⟨Q, cq, R, cr, rfl, hQ, hR, hb2⟩
    have PA2 := PA.via hb2
    have PB2 := PB.via hb2
    have PQ2 := PQ.via hb2
    have PR2 := PR.via hb2
    have HB2 := Lib.hid (HB1.out.trans (hb2.mono HB1.out.size))
    have HQ := Lib.hid hQ
    have HR := Lib.hid hR
    have LB2 := Lib.hid (LB1.out.via hb2)
    clear PA PB PQ PR LA1 LB1 HB1 a0 a1 b0 b1 hb2 hQ hR
    have ⟨a0, a1, _, _, _⟩ := PA2
    have ⟨b0, b1, _, _, _⟩ := PB2
    go_wp2_with fail
    refine (rmade_any w2 _ _ _ _ _ (a / b) HQ.out HVq.out (by omega)).mono ?_
    rintro e w3 ⟨A3, n3, c3, rfl, hL3, hb3⟩
    rw [HLq.out] at hL3
    rw [HEq.out]
    have PA4 := (PA2.via hb3).alloc (.cells #[.bool (mkN true (a / b)), .slice A3 n3 c3] 29)
    have PB4 := (PB2.via hb3).alloc (.cells #[.bool (mkN true (a / b)), .slice A3 n3 c3] 29)
    have PQ4 := (PQ2.via hb3).alloc (.cells #[.bool (mkN true (a / b)), .slice A3 n3 c3] 29)
    have PR4 := (PR2.via hb3).alloc (.cells #[.bool (mkN true (a / b)), .slice A3 n3 c3] 29)
    have HB4 := Lib.hid ((HB2.out.trans (hb3.mono HB2.out.size)).alloc (HB2.out.trans (hb3.mono HB2.out.size)).size (.cells #[.bool (mkN true (a / b)), .slice A3 n3 c3] 29))
    have HR4 := Lib.hid ((HR.out.via hb3).box (.cells #[.bool (mkN true (a / b)), .slice A3 n3 c3] 29))
    have LB4 := Lib.hid ((LB2.out.via hb3).box (.cells #[.bool (mkN true (a / b)), .slice A3 n3 c3] 29))
    have HL4 := Lib.hid (hL3.box (.cells #[.bool (mkN true (a / b)), .slice A3 n3 c3] 29))
    have PX4 := Pr.new w3 w3.heap.size rfl (.bool (mkN true (a / b))) (.slice A3 n3 c3) 29
    have hlt3 : w.heap.size + 1 + 1 + 1 < w3.heap.size := (PR2.via hb3).lt
    clear PA2 PB2 PQ2 PR2 HQ HR HB2 LB2 hb3 hL3 a0 a1 b0 b1
    have ⟨a0, a1, _, _, _⟩ := PA4
    have ⟨b0, b1, _, _, _⟩ := PB4
    go_wp2_with fail
    generalize w3.alloc (.cells #[.bool (mkN true (a / b)), .slice A3 n3 c3] 29) = w4 at *
    generalize w3.heap.size = g3 at *
    refine (rmade_any w4 _ _ _ _ _ (a % b) HR4.out HVr.out (by omega)).mono ?_
    rintro e w5 ⟨A5, n5, c5, rfl, hL5, hb5⟩
    rw [HLr.out] at hL5
    rw [HEr.out]
    have PA6 := (PA4.via hb5).alloc (.cells #[.bool (mkN false (a % b)), .slice A5 n5 c5] 29)
    have PB6 := (PB4.via hb5).alloc (.cells #[.bool (mkN false (a % b)), .slice A5 n5 c5] 29)
    have PQ6 := (PQ4.via hb5).alloc (.cells #[.bool (mkN false (a % b)), .slice A5 n5 c5] 29)
    have PR6 := (PR4.via hb5).alloc (.cells #[.bool (mkN false (a % b)), .slice A5 n5 c5] 29)
    have PX6 := (PX4.via hb5).alloc (.cells #[.bool (mkN false (a % b)), .slice A5 n5 c5] 29)
    have HB6 := Lib.hid ((HB4.out.trans (hb5.mono HB4.out.size)).alloc (HB4.out.trans (hb5.mono HB4.out.size)).size (.cells #[.bool (mkN false (a % b)), .slice A5 n5 c5] 29))
    have LB6 := Lib.hid ((LB4.out.via hb5).box (.cells #[.bool (mkN false (a % b)), .slice A5 n5 c5] 29))
    have HL6 := Lib.hid ((HL4.out.via hb5).box (.cells #[.bool (mkN false (a % b)), .slice A5 n5 c5] 29))
    have HM6 := Lib.hid (hL5.box (.cells #[.bool (mkN false (a % b)), .slice A5 n5 c5] 29))
    have PY6 := Pr.new w5 w5.heap.size rfl (.bool (mkN false (a % b))) (.slice A5 n5 c5) 29
    have hlt5 : g3 < w5.heap.size := (PX4.via hb5).lt
    clear PA4 PB4 PQ4 PR4 PX4 HB4 HR4 LB4 HL4 hb5 hL5 a0 a1 b0 b1
    have ⟨a0, a1, _, _, _⟩ := PA6
    have ⟨b0, b1, _, _, _⟩ := PB6
    go_wp2_with fail
    generalize w5.alloc (.cells #[.bool (mkN false (a % b)), .slice A5 n5 c5] 29) = w6 at *
    generalize w5.heap.size = g5 at *
    have ⟨q0, q1, qf0, qf1, ql⟩ := PQ6
    have ⟨r0, r1, rf0, rf1, rl⟩ := PR6
    have ⟨x0, x1, xf0, xf1, xl⟩ := PX6
    have ⟨y0, y1, yf0, yf1, yl⟩ := PY6
    go_region_with
      (first
       | (go_at_call 25; refine (rfrom_m1 _).mono ?_; rintro e ws ⟨As, ns, cs, rfl, hLs, hbs⟩; have Bs := (Below.refl w6.heap.size w6).drew.trans hbs; have PXs := PX6.via Bs; have ⟨xs0, xs1, xsf0, xsf1, xsl⟩ := PXs)
       | (go_at_call 83; refine (HS1.out ws A3 As n3 c3 ns cs (HL6.out.via Bs) hLs).mono ?_; rintro e wt ⟨At, nt, ct, rfl, hLt, hbt⟩; have PXt := PXs.via hbt; have ⟨xt0, xt1, xtf0, xtf1, xtl⟩ := PXt))
    all_goals
      have Bt := Bs.trans (hbt.mono Bs.size)
      have PA7 := (PA6.via Bt).far (h := g3) (by omega) (.bool (mkN true (a / b + 1))) (.slice At nt ct)
      have PB7 := (PB6.via Bt).far (h := g3) (by omega) (.bool (mkN true (a / b + 1))) (.slice At nt ct)
      have PQ7 := (PQ6.via Bt).far (h := g3) (by omega) (.bool (mkN true (a / b + 1))) (.slice At nt ct)
      have PR7 := (PR6.via Bt).far (h := g3) (by omega) (.bool (mkN true (a / b + 1))) (.slice At nt ct)
      have PY7 := (PY6.via Bt).far (h := g3) (by omega) (.bool (mkN true (a / b + 1))) (.slice At nt ct)
      have PX7 := PXt.set (.bool (mkN true (a / b + 1))) (.slice At nt ct)
      have HL7 := Lib.hid (hLt.setP PXt (.bool (mkN true (a / b + 1))) (.slice At nt ct))
      have HM7 := Lib.hid ((HM6.out.via Bt).setP PXt (.bool (mkN true (a / b + 1))) (.slice At nt ct))
      have LB7 := Lib.hid ((LB6.out.via Bt).setP PXt (.bool (mkN true (a / b + 1))) (.slice At nt ct))
      have HB7 := Lib.hid (below_set2 (HB6.out.trans (Bt.mono HB6.out.size)) (g := g3) (by omega) (.bool (mkN true (a / b + 1))) (.slice At nt ct))
      have ⟨y70, y71, _, _, _⟩ := PY7
      have ⟨b70, b71, _, _, _⟩ := PB7
      go_wp2_with fail
      generalize (wt.setCell ⟨g3, 0, none⟩ (.bool (mkN true (a / b + 1)))).setCell ⟨g3, 1, none⟩ (.slice At nt ct) = w7 at *
      refine (HS2.out w7 A5 n5 c5 HM7.out LB7.out).mono ?_
      rintro e w8 ⟨A8, n8, c8, rfl, hL8, hb8⟩
      have PY8 := PY7.via hb8
      have ⟨y80, y81, yf80, yf81, _⟩ := PY8
      have PQ9 := (PQ7.via hb8).far (h := g5) (by omega) (.bool (mkN true (b - a % b))) (.slice A8 n8 c8)
      have PR9 := (PR7.via hb8).far (h := g5) (by omega) (.bool (mkN true (b - a % b))) (.slice A8 n8 c8)
      have PX9 := (PX7.via hb8).far (h := g5) (by omega) (.bool (mkN true (b - a % b))) (.slice A8 n8 c8)
      have PY9 := PY8.set (.bool (mkN true (b - a % b))) (.slice A8 n8 c8)
      have HM9 := Lib.hid (hL8.setP PY8 (.bool (mkN true (b - a % b))) (.slice A8 n8 c8))
      have HL9 := Lib.hid ((HL7.out.via hb8).setP PY8 (.bool (mkN true (b - a % b))) (.slice A8 n8 c8))
      have HB9 := Lib.hid (below_set2 (HB7.out.trans (hb8.mono HB7.out.size)) (g := g5) (by omega) (.bool (mkN true (b - a % b))) (.slice A8 n8 c8))
      go_wp2_with fail
      generalize (w8.setCell ⟨g5, 0, none⟩ (.bool (mkN true (b - a % b)))).setCell ⟨g5, 1, none⟩ (.slice A8 n8 c8) = w9 at *
      have ⟨q90, q91, qf90, qf91, ql9⟩ := PQ9
      have ⟨r90, r91, rf90, rf91, rl9⟩ := PR9
      have ⟨x90, x91, xf90, xf91, xl9⟩ := PX9
      have ⟨y90, y91, yf90, yf91, yl9⟩ := PY9
      go_region
      all_goals
        go_wp2
        refine post_ww Tryz.results53 rfl rfl rfl ((PQ9.set _ _).far (by omega) _ _).drew ((PR9.far (by omega) _ _).set _ _).drew ⟨At, nt, ct, A8, n8, c8, rfl, ?_, ?_, ?_⟩
        · exact ((HL9.out.setP PQ9 _ _).setP (PR9.far (by omega) _ _) _ _).drew
        · exact ((HM9.out.setP PQ9 _ _).setP (PR9.far (by omega) _ _) _ _).drew
        · exact (below_set2 (below_set2 HB9.out (by omega) _ _) (by omega) _ _).drew
end Go.Proofs.YtglgfjknhplajaaGreatDoor

/- The reference for fractions: Check, Reduced, Same, Great. -/
namespace Go.Proofs.YtglgfjknhplajaaGreatDoor
open Go.RowKit

theorem sign_of {x p z : Int} (h : x = p * z) (hz : z ≠ 0) : decide (p < 0) = (decide (x < 0) != decide (z < 0) && decide (p ≠ 0)) := by
  subst h
  rcases Int.lt_trichotomy p 0 with hp | hp | hp
  · rcases Int.lt_or_gt_of_ne hz with h | h
    · have := Int.mul_pos_of_neg_of_neg hp h
      rw [decide_eq_true hp, decide_eq_false (show ¬ p * z < 0 by omega), decide_eq_true h, decide_eq_true (show p ≠ 0 by omega)]; rfl
    · have := Int.mul_neg_of_neg_of_pos hp h
      rw [decide_eq_true hp, decide_eq_true this, decide_eq_false (show ¬ z < 0 by omega), decide_eq_true (show p ≠ 0 by omega)]; rfl
  · subst hp; simp
  · rcases Int.lt_or_gt_of_ne hz with h | h
    · have := Int.mul_neg_of_pos_of_neg hp h
      rw [decide_eq_false (show ¬ p < 0 by omega), decide_eq_true this, decide_eq_true h]; rfl
    · have := Int.mul_pos hp h
      rw [decide_eq_false (show ¬ p < 0 by omega), decide_eq_false (show ¬ p * z < 0 by omega), decide_eq_false (show ¬ z < 0 by omega)]; rfl
/-- The reference's DivMod where the second number divides the first one. -/
theorem rdiv_x (w : World) (A B : Option Addr) (n m ca cb k : Nat) (x z p : Int) (hA : Lm w w.heap.size A n ca (digs x.natAbs)) (hB : Lm w w.heap.size B m cb (digs z.natAbs)) (hx : Sz k x) (hz : Sz k z) (hk : k ≤ 2000) (hz0 : z ≠ 0) (hp : x = p * z)
    {na nb : Bool} (ha : decide (x < 0) = na) (hb : decide (z < 0) = nb) :
    Calls Tryz.prog 53 #[.agg #[.bool na, .slice A n ca], .agg #[.bool nb, .slice B m cb]] w fun e w' => ∃ A n c g A' n' c', e = .returned (.tuple #[.agg #[.bool (decide (p < 0)), .slice A n c], .agg #[.bool g, .slice A' n' c'], .int .i64 0]) ∧ Lm w' w'.heap.size A n c (digs p.natAbs) ∧ Below w.heap.size w w' := by
  have hv := chkB_z hx (show k ≤ 4096 by omega) hz (show k ≤ 4096 by omega)
  have hs := sign_of hp hz0
  rw [ha, hb] at hv hs
  have hbp : 0 < z.natAbs := by omega
  have e1 : x.natAbs = p.natAbs * z.natAbs := by rw [hp, Int.natAbs_mul]
  have e2 : x.natAbs / z.natAbs = p.natAbs := by rw [e1]; exact Nat.mul_div_cancel _ hbp
  have e3 : x.natAbs % z.natAbs = 0 := by rw [e1]; exact Nat.mul_mod_left _ _
  have hpl : (digs p.natAbs).length ≤ 4096 := by
    rw [← e2]
    exact Nat.le_trans (digs_mono (Nat.div_le_self _ _)) (Nat.le_trans hx.len (by omega))
  have hdz : decide (p.natAbs ≠ 0) = decide (p ≠ 0) := by rw [decide_eq_decide]; omega
  by_cases hsame : na = nb
  · have h := rdivmod_same w na nb A B n m ca cb _ _ hA hB hv hbp hsame (decide (0 < x.natAbs % z.natAbs)) rfl
    refine h.mono fun e w' hr => ?_
    obtain ⟨A1, n1, c1, A2, n2, c2, he, h1, _, hbl⟩ := hr
    rw [e2] at he h1
    have e4 : mkN false p.natAbs = decide (p < 0) := by rw [hs, hsame]; unfold mkN; simp
    rw [e4] at he
    exact ⟨A1, n1, c1, _, A2, n2, c2, he, h1, hbl⟩
  · have hs2 : na = true ∧ nb = false ∨ na = false ∧ nb = true := by cases na <;> cases nb <;> simp_all
    have h := rdivmod_exact w na nb A B n m ca cb _ _ hA hB hv hbp hs2 e3
    refine h.mono fun e w' hr => ?_
    obtain ⟨A1, n1, c1, A2, n2, c2, he, h1, _, hbl⟩ := hr
    rw [e2] at he h1
    have e4 : mkN true p.natAbs = decide (p < 0) := by
      rw [hs]
      unfold mkN
      rw [decide_eq_true hpl, hdz]
      rcases hs2 with ⟨h1, h2⟩ | ⟨h1, h2⟩ <;> rw [h1, h2] <;> simp
    rw [e4] at he
    exact ⟨A1, n1, c1, _, A2, n2, c2, he, h1, hbl⟩

set_option maxRecDepth 100000 in
set_option maxHeartbeats 1000000 in
theorem rfcheck_nbad (w : World) (nn dn : Bool) (A B : Option Addr) (n m ca cb : Nat) (xs ys : List Nat) (hA : Lm w w.heap.size A n ca xs) (hB : Lm w w.heap.size B m cb ys) (hn : chk nn xs = 8) :
    Calls Tryz.prog 64 #[fv nn A n ca dn B m cb] w fun e w' => e = .returned (.int .i64 8) ∧ Below w.heap.size w w' := by
  have HA := Lib.hid hA
  have HB := Lib.hid hB
  have HN := Lib.hid hn
  clear hn
  clear hA hB
  go_enter Tryz.func64, Tryz.ntmps64
  go_wp2_with fail
  refine (rcheck_bad _ nn A n ca xs (HA.out.box _) HN.out).mono ?_
  rintro e w1 ⟨rfl, hb1⟩
  have Q1 := (Qd.new w _ rfl (.bool nn) (.slice A n ca) (.bool dn) (.slice B m cb) 31).via hb1
  have LA := Lib.hid ((HA.out.box _).via hb1)
  have LB := Lib.hid ((HB.out.box _).via hb1)
  have B1 := Lib.hid (bbox hb1)
  have HQ := Lib.hid Q1
  have ⟨q0, q1, q2, q3, _, _, _, _, ql⟩ := Q1
  clear hb1 Q1 HA HB
  go_wp2
  go_ret
  exact ⟨rfl, B1.out⟩
set_option maxRecDepth 100000 in
set_option maxHeartbeats 1000000 in
theorem rfcheck_dbad (w : World) (nn dn : Bool) (A B : Option Addr) (n m ca cb : Nat) (xs ys : List Nat) (hA : Lm w w.heap.size A n ca xs) (hB : Lm w w.heap.size B m cb ys) (hn : chk nn xs = 0) (hd : chk dn ys = 8) :
    Calls Tryz.prog 64 #[fv nn A n ca dn B m cb] w fun e w' => e = .returned (.int .i64 8) ∧ Below w.heap.size w w' := by
  have HA := Lib.hid hA
  have HB := Lib.hid hB
  have HN := Lib.hid hn
  have HD := Lib.hid hd
  clear hn hd
  clear hA hB
  go_enter Tryz.func64, Tryz.ntmps64
  go_wp2_with fail
  refine (rcheck_ok _ nn A n ca xs (HA.out.box _) HN.out).mono ?_
  rintro e w1 ⟨rfl, hb1⟩
  have Q1 := (Qd.new w _ rfl (.bool nn) (.slice A n ca) (.bool dn) (.slice B m cb) 31).via hb1
  have LA := Lib.hid ((HA.out.box _).via hb1)
  have LB := Lib.hid ((HB.out.box _).via hb1)
  have B1 := Lib.hid (bbox hb1)
  have HQ := Lib.hid Q1
  have ⟨q0, q1, q2, q3, _, _, _, _, ql⟩ := Q1
  clear hb1 Q1 HA HB
  go_wp2_with fail
  refine (rcheck_bad _ dn B m cb ys LB.out HD.out).mono ?_
  rintro e w2 ⟨rfl, hb2⟩
  have B2 := Lib.hid (btr B1.out hb2)
  clear hb2
  go_wp2
  go_ret
  exact ⟨rfl, B2.out⟩
set_option maxRecDepth 100000 in
set_option maxHeartbeats 1000000 in
theorem rfcheck_neg (w : World) (nn dn : Bool) (A B : Option Addr) (n m ca cb : Nat) (xs ys : List Nat) (hA : Lm w w.heap.size A n ca xs) (hB : Lm w w.heap.size B m cb ys) (hn : chk nn xs = 0) (hd : chk dn ys = 0) (ht : dn = true) :
    Calls Tryz.prog 64 #[fv nn A n ca dn B m cb] w fun e w' => e = .returned (.int .i64 8) ∧ Below w.heap.size w w' := by
  have HA := Lib.hid hA
  have HB := Lib.hid hB
  subst ht
  have HN := Lib.hid hn
  have HD := Lib.hid hd
  clear hn hd
  clear hA hB
  go_enter Tryz.func64, Tryz.ntmps64
  go_wp2_with fail
  refine (rcheck_ok _ nn A n ca xs (HA.out.box _) HN.out).mono ?_
  rintro e w1 ⟨rfl, hb1⟩
  have Q1 := (Qd.new w _ rfl (.bool nn) (.slice A n ca) (.bool true) (.slice B m cb) 31).via hb1
  have LA := Lib.hid ((HA.out.box _).via hb1)
  have LB := Lib.hid ((HB.out.box _).via hb1)
  have B1 := Lib.hid (bbox hb1)
  have HQ := Lib.hid Q1
  have ⟨q0, q1, q2, q3, _, _, _, _, ql⟩ := Q1
  clear hb1 Q1 HA HB
  go_wp2_with fail
  refine (rcheck_ok _ true B m cb ys LB.out HD.out).mono ?_
  rintro e w2 ⟨rfl, hb2⟩
  have B2 := Lib.hid (btr B1.out hb2)
  have Q2 := HQ.out.via hb2
  have LA2 := Lib.hid (LA.out.via hb2)
  have LB2 := Lib.hid (LB.out.via hb2)
  have HQ2 := Lib.hid Q2
  clear hb2 q0 q1 q2 q3 ql LA LB HQ
  have ⟨q0, q1, q2, q3, _, _, _, _, ql⟩ := Q2
  clear Q2
  go_wp2
  go_ret
  exact ⟨rfl, B2.out⟩
set_option maxRecDepth 100000 in
set_option maxHeartbeats 1000000 in
theorem rfcheck_zero (w : World) (nn dn : Bool) (A B : Option Addr) (n m ca cb : Nat) (xs ys : List Nat) (hA : Lm w w.heap.size A n ca xs) (hB : Lm w w.heap.size B m cb ys) (hn : chk nn xs = 0) (hd : chk dn ys = 0) (ht : dn = false) (hz : ys = []) :
    Calls Tryz.prog 64 #[fv nn A n ca dn B m cb] w fun e w' => e = .returned (.int .i64 8) ∧ Below w.heap.size w w' := by
  have HA := Lib.hid hA
  have HB := Lib.hid hB
  subst ht hz
  obtain rfl : m = 0 := HB.out.len.symm
  have HN := Lib.hid hn
  have HD := Lib.hid hd
  clear hn hd
  clear hA hB
  go_enter Tryz.func64, Tryz.ntmps64
  go_wp2_with fail
  refine (rcheck_ok _ nn A n ca xs (HA.out.box _) HN.out).mono ?_
  rintro e w1 ⟨rfl, hb1⟩
  have Q1 := (Qd.new w _ rfl (.bool nn) (.slice A n ca) (.bool false) (.slice B 0 cb) 31).via hb1
  have LA := Lib.hid ((HA.out.box _).via hb1)
  have LB := Lib.hid ((HB.out.box _).via hb1)
  have B1 := Lib.hid (bbox hb1)
  have HQ := Lib.hid Q1
  have ⟨q0, q1, q2, q3, _, _, _, _, ql⟩ := Q1
  clear hb1 Q1 HA HB
  go_wp2_with fail
  refine (rcheck_ok _ false B 0 cb [] LB.out HD.out).mono ?_
  rintro e w2 ⟨rfl, hb2⟩
  have B2 := Lib.hid (btr B1.out hb2)
  have Q2 := HQ.out.via hb2
  have LA2 := Lib.hid (LA.out.via hb2)
  have LB2 := Lib.hid (LB.out.via hb2)
  have HQ2 := Lib.hid Q2
  clear hb2 q0 q1 q2 q3 ql LA LB HQ
  have ⟨q0, q1, q2, q3, _, _, _, _, ql⟩ := Q2
  clear Q2
  go_wp2
  go_ret
  exact ⟨rfl, B2.out⟩
set_option maxRecDepth 100000 in
set_option maxHeartbeats 1000000 in
theorem rfcheck_gcd (w : World) (nn dn : Bool) (A B : Option Addr) (n m ca cb : Nat) (xs ys : List Nat) (hA : Lm w w.heap.size A n ca xs) (hB : Lm w w.heap.size B m cb ys) (hn : chk nn xs = 0) (hd : chk dn ys = 0) (ht : dn = false) (hz : ys ≠ []) (g : Nat) (hgg : Nat.gcd (val xs) (val ys) = g) (r : Int) (hr : r = if g = 1 then 0 else 8) :
    Calls Tryz.prog 64 #[fv nn A n ca dn B m cb] w fun e w' => e = .returned (.int .i64 r) ∧ Below w.heap.size w w' := by
  have HA := Lib.hid hA
  have HB := Lib.hid hB
  subst ht
  have hm0 : 0 < m := by
    rcases Nat.eq_zero_or_pos m with h | h
    · exact absurd (List.eq_nil_of_length_eq_zero (by rw [HB.out.len]; exact h)) hz
    · exact h
  have hmz : ((m : Int) == 0) = false := by simp; omega
  have hcc := HB.out.cap
  have hcx := HB.out.max
  have HG0 := Lib.hid hgg
  have HR := Lib.hid hr
  have HV : Hid (chkB nn (digs (val xs)) false (digs (val ys)) = 0) := by
    show _ = _
    rw [← chk_digs hn HA.out.good, ← chk_digs hd HB.out.good]
    exact chkB_ok.2 ⟨hn, hd⟩
  have HDA := Lib.hid (chk_digs hn HA.out.good)
  have HDB := Lib.hid (chk_digs hd HB.out.good)
  have HGL : Hid ((digs g).length ≤ 4096) := by
    show _ ≤ _
    rw [← hgg]
    have h1 := (chk_ok.1 hd).1
    rw [chk_digs hd HB.out.good] at h1
    exact Nat.le_trans (digs_mono (Nat.gcd_le_right _ (val_pos (chk_ok.1 hd).2.1 hz))) h1
  clear hr hz hgg
  have HN := Lib.hid hn
  have HD := Lib.hid hd
  clear hn hd
  clear hA hB
  go_enter Tryz.func64, Tryz.ntmps64
  go_wp2_with fail
  refine (rcheck_ok _ nn A n ca xs (HA.out.box _) HN.out).mono ?_
  rintro e w1 ⟨rfl, hb1⟩
  have Q1 := (Qd.new w _ rfl (.bool nn) (.slice A n ca) (.bool false) (.slice B m cb) 31).via hb1
  have LA := Lib.hid ((HA.out.box _).via hb1)
  have LB := Lib.hid ((HB.out.box _).via hb1)
  have B1 := Lib.hid (bbox hb1)
  have HQ := Lib.hid Q1
  have ⟨q0, q1, q2, q3, _, _, _, _, ql⟩ := Q1
  clear hb1 Q1 HA HB
  go_wp2_with fail
  refine (rcheck_ok _ false B m cb ys LB.out HD.out).mono ?_
  rintro e w2 ⟨rfl, hb2⟩
  have B2 := Lib.hid (btr B1.out hb2)
  have Q2 := HQ.out.via hb2
  have LA2 := Lib.hid (LA.out.via hb2)
  have LB2 := Lib.hid (LB.out.via hb2)
  have HQ2 := Lib.hid Q2
  clear hb2 q0 q1 q2 q3 ql LA LB HQ
  have ⟨q0, q1, q2, q3, _, _, _, _, ql⟩ := Q2
  clear Q2
  have hA2 : Lm w2 w2.heap.size A n ca (digs (val xs)) := by rw [← HDA.out]; exact LA2.out
  have hB2 : Lm w2 w2.heap.size B m cb (digs (val ys)) := by rw [← HDB.out]; exact LB2.out
  have KA := Lib.hid hA2
  have KB := Lib.hid hB2
  clear hA2 hB2
  go_wp2_with fail
  have hcall := rgcd_ok w2 nn false A B n m ca cb _ _ KA.out KB.out HV.out
  rw [HG0.out] at hcall
  refine hcall.mono ?_
  clear hcall
  rintro e w3 ⟨A3, n3, c3, rfl, hL3, hb3⟩
  have e1 : mkN false g = false := by unfold mkN; simp
  have e2 : mkL g = digs g := by unfold mkL; rw [if_pos HGL.out]
  have e3 : mkE g = 0 := by unfold mkE; rw [if_pos HGL.out]
  rw [e1, e3]
  rw [e2] at hL3
  have L3 := Lib.hid (hL3.box (.cells #[.bool false, .slice A3 n3 c3] 29))
  have P3 := Lib.hid (Pr.new w3 _ rfl (.bool false) (.slice A3 n3 c3) 29)
  have B3 := Lib.hid ((btr B2.out hb3).alloc (btr B2.out hb3).size (.cells #[.bool false, .slice A3 n3 c3] 29))
  have HSB : Hid (sameB false (digs g) false (digs 1) = decide (g = 1)) := by
    show _ = _
    by_cases h : g = 1
    · rw [h, sameB_self]; rfl
    · rw [decide_eq_false h]
      unfold sameB
      have h2 : cmpL (digs g) (digs 1) ≠ 0 := fun e => h (by have := (cmpL_eq (digs_good _) (digs_good _)).1 e; rw [← digs_val g, this]; rfl)
      simp [h2]
  clear hL3 hb3 e1 e2 e3 q0 q1 q2 q3 ql KA KB LA2 LB2 HQ2 B1 B2
  have hd1 : decide ((1 : Int) < 0) = false := rfl
  go_wp2_with fail
  generalize w3.alloc (.cells #[.bool false, .slice A3 n3 c3] 29) = W3 at *
  generalize w3.heap.size = g3 at *
  have ⟨p0, p1, _, _, pl⟩ := P3.out
  have hrf := fun w => rfrom_any w 1 (by omega) (by omega)
  rw [hd1] at hrf
  have HRF := Lib.hid hrf
  clear hrf hd1
  go_region_held3 (fun w' => w'.cell? ⟨g3, 0, none⟩ = some (.bool false) ∧ w'.cell? ⟨g3, 1, none⟩ = some (.slice A3 n3 c3))
    (first
     | exact ⟨p0, p1⟩
     | exact ⟨(P3.out.via Bb).c0, (P3.out.via Bb).c1⟩
     | exact ⟨(P3.out.via Ba).c0, (P3.out.via Ba).c1⟩
     | exact ⟨P3.out.drew.c0, P3.out.drew.c1⟩)
    (first
     | (go_at_call 25; refine (HRF.out _).mono ?_; rintro e wa ⟨Aa, na', ca', rfl, hLa, hba⟩; have Ba : Below W3.heap.size W3 wa := (by first | exact hba | exact (Below.refl _ _).drew.trans hba); have L3a := L3.out.via Ba)
     | (go_at_call 91; refine (rsame_any _ false false A3 Aa n3 na' c3 ca' (digs g) (digs 1) L3a hLa).mono ?_; rintro e wb ⟨rfl, hbb⟩; have Bb := btr Ba hbb)
     | fail)
  all_goals
    rw [HSB.out]
    have BE := Lib.hid (btr B3.out Bb)
    have hR := HR.out
    by_cases hg : g = 1
    · rw [if_pos hg] at hR
      rw [decide_eq_true hg]
      subst hR
      clear hg
      go_wp2
      go_ret
      exact ⟨rfl, BE.out⟩
    · rw [if_neg hg] at hR
      rw [decide_eq_false hg]
      subst hR
      clear hg
      go_wp2
      go_ret
      exact ⟨rfl, BE.out⟩
theorem rfcheck_any (w : World) (nn dn : Bool) (A B : Option Addr) (n m ca cb : Nat) (xs ys : List Nat) (hA : Lm w w.heap.size A n ca xs) (hB : Lm w w.heap.size B m cb ys) :
    Calls Tryz.prog 64 #[fv nn A n ca dn B m cb] w fun e w' => e = .returned (.int .i64 (fchk nn xs dn ys)) ∧ Below w.heap.size w w' := by
  rcases chk_cases nn xs with hn | hn
  · rcases chk_cases dn ys with hd | hd
    · cases hdn : dn
      · subst hdn
        by_cases hz : ys = []
        · have e : fchk nn xs false ys = 8 := by unfold fchk; rw [if_neg (fun h => h.2.2.2.1 hz)]
          rw [e]
          exact rfcheck_zero w nn false A B n m ca cb xs ys hA hB hn hd rfl hz
        · refine rfcheck_gcd w nn false A B n m ca cb xs ys hA hB hn hd rfl hz _ rfl _ ?_
          unfold fchk
          by_cases hg : Nat.gcd (val xs) (val ys) = 1
          · rw [if_pos ⟨hn, hd, rfl, hz, hg⟩, if_pos hg]
          · rw [if_neg (fun h => hg h.2.2.2.2), if_neg hg]
      · subst hdn
        have e : fchk nn xs true ys = 8 := by unfold fchk; rw [if_neg (fun h => by cases h.2.2.1)]
        rw [e]
        exact rfcheck_neg w nn true A B n m ca cb xs ys hA hB hn hd rfl
    · have e : fchk nn xs dn ys = 8 := by unfold fchk; rw [if_neg (fun h => by have := h.2.1; omega)]
      rw [e]
      exact rfcheck_dbad w nn dn A B n m ca cb xs ys hA hB hn hd
  · have e : fchk nn xs dn ys = 8 := by unfold fchk; rw [if_neg (fun h => by have := h.1; omega)]
    rw [e]
    exact rfcheck_nbad w nn dn A B n m ca cb xs ys hA hB hn
end Go.Proofs.YtglgfjknhplajaaGreatDoor

/- The reference for fractions: Reduced. -/
namespace Go.Proofs.YtglgfjknhplajaaGreatDoor
open Go.RowKit

section
variable (w : World) (A B : Option Addr) (n m ca cb k : Nat) (x y : Int) (hA : Lm w w.heap.size A n ca (digs x.natAbs)) (hB : Lm w w.heap.size B m cb (digs y.natAbs)) (hx : Sz k x) (hy : Sz k y) (hk : k ≤ 2000) {na nb : Bool} (ha : decide (x < 0) = na) (hb : decide (y < 0) = nb)
include hA hx hk ha
theorem rneg_n2 : Calls Tryz.prog 52 #[.agg #[.bool na, .slice A n ca]] w (RN w (-x)) := by
  have hc := chk_z hx (show k ≤ 4096 by omega)
  rw [ha] at hc
  have h := rneg_ok w na A n ca _ hA hc
  refine h.mono fun e w' hr => ?_
  have hl : (digs x.natAbs).length ≤ 4096 := Nat.le_trans hx.len (by omega)
  have hr2 := rw_rn hl hr
  have e1 : toI (!na) x.natAbs = -x := by
    subst ha
    unfold toI
    by_cases h : x < 0
    · rw [decide_eq_true h]; simp; omega
    · rw [decide_eq_false h]; simp; omega
  rw [e1] at hr2
  exact hr2
include hB hy hb
theorem rgcd_n2 : Calls Tryz.prog 51 #[.agg #[.bool na, .slice A n ca], .agg #[.bool nb, .slice B m cb]] w fun e w' => ∃ A' n' c', e = .returned (.tuple #[.agg #[.bool false, .slice A' n' c'], .int .i64 0]) ∧ Lm w' w'.heap.size A' n' c' (digs (Nat.gcd x.natAbs y.natAbs)) ∧ Below w.heap.size w w' := by
  subst ha hb
  have hxl : (digs x.natAbs).length ≤ 4096 := Nat.le_trans hx.len (by omega)
  have hyl : (digs y.natAbs).length ≤ 4096 := Nat.le_trans hy.len (by omega)
  have h := rgcd_ok w _ _ A B n m ca cb _ _ hA hB (chkB_z hx (by omega) hy (by omega))
  have hgl : (digs (Nat.gcd x.natAbs y.natAbs)).length ≤ 4096 := by
    rcases Nat.eq_zero_or_pos x.natAbs with h0 | h0
    · rw [h0, Nat.gcd_zero_left]; exact hyl
    · exact Nat.le_trans (digs_mono (Nat.gcd_le_left _ h0)) hxl
  refine h.mono fun e w' hr => ?_
  obtain ⟨A', n', c', he, hL, hb⟩ := rw_rn (neg := false) hgl hr
  have e1 : decide (toI false (Nat.gcd x.natAbs y.natAbs) < 0) = false := by unfold toI; simp
  rw [e1] at he
  have e2 : (toI false (Nat.gcd x.natAbs y.natAbs)).natAbs = Nat.gcd x.natAbs y.natAbs := toI_abs _ _
  rw [e2] at hL
  exact ⟨A', n', c', he, hL, hb⟩
end

set_option maxRecDepth 100000 in
set_option maxHeartbeats 2000000 in
theorem rreduced_pos (w : World) (A B : Option Addr) (n m ca cb k : Nat) (x y : Int) (hA : Lm w w.heap.size A n ca (digs x.natAbs)) (hB : Lm w w.heap.size B m cb (digs y.natAbs)) (hx : Sz k x) (hy : Sz k y) (hk : k ≤ 2000) {na nb : Bool} (ha : decide (x < 0) = na) (hb : decide (y < 0) = nb) (hs : 0 < y) :
    Calls Tryz.prog 24 #[.agg #[.bool na, .slice A n ca], .agg #[.bool nb, .slice B m cb]] w (RFr w (x / dvr x y) (y / dvr x y)) := by
  have HA := Lib.hid hA
  have HB := Lib.hid hB
  have HX := Lib.hid hx
  have HY := Lib.hid hy
  have HC := Lib.hid hs
  obtain rfl : nb = false := by rw [← hb]; exact decide_eq_false (by omega)
  have HNa := Lib.hid ha
  have HNb := Lib.hid hb
  clear hA hB hx hy ha hb hs
  go_enter Tryz.func24, Tryz.ntmps24
  go_wp2_with fail
  refine (rgcd_n2 _ A B n m ca cb k x y (((HA.out.box _).box _).box _) (((HB.out.box _).box _).box _) HX.out HY.out hk HNa.out HNb.out).mono ?_
  rintro e w1 ⟨A1, n1, c1, rfl, hL1, hb1⟩
  have PA := Lib.hid (((((Pr.new w _ rfl (.bool na) (.slice A n ca) 29).alloc (.cells #[.bool false, .slice B m cb] 29)).alloc (.cells #[.bool false, .slice none 0 0, .bool false, .slice none 0 0] 31)).via hb1).alloc (.cells #[.bool false, .slice A1 n1 c1] 29))
  have PB := Lib.hid ((((Pr.new (w.alloc (.cells #[.bool na, .slice A n ca] 29)) (w.heap.size + 1) (by simp) (.bool false) (.slice B m cb) 29).alloc (.cells #[.bool false, .slice none 0 0, .bool false, .slice none 0 0] 31)).via hb1).alloc (.cells #[.bool false, .slice A1 n1 c1] 29))
  have QR := Lib.hid (((Qd.new ((w.alloc (.cells #[.bool na, .slice A n ca] 29)).alloc (.cells #[.bool false, .slice B m cb] 29)) (w.heap.size + 1 + 1) (by simp) (.bool false) (.slice none 0 0) (.bool false) (.slice none 0 0) 31).via hb1).alloc (.cells #[.bool false, .slice A1 n1 c1] 29))
  have PG := Lib.hid (Pr.new w1 _ rfl (.bool false) (.slice A1 n1 c1) 29)
  have LA := Lib.hid (((((HA.out.box _).box _).box _).via hb1).box (.cells #[.bool false, .slice A1 n1 c1] 29))
  have LB := Lib.hid (((((HB.out.box _).box _).box _).via hb1).box (.cells #[.bool false, .slice A1 n1 c1] 29))
  have L1 := Lib.hid (hL1.box (.cells #[.bool false, .slice A1 n1 c1] 29))
  have B1 := Lib.hid ((bbox (bbox (bbox hb1))).alloc (bbox (bbox (bbox hb1))).size (.cells #[.bool false, .slice A1 n1 c1] 29))
  have ⟨x0, x1, _, _, xl⟩ := ((((Pr.new w _ rfl (.bool na) (.slice A n ca) 29).alloc (.cells #[.bool false, .slice B m cb] 29)).alloc (.cells #[.bool false, .slice none 0 0, .bool false, .slice none 0 0] 31)).via hb1)
  have hg : w.heap.size + 1 + 1 < w1.heap.size := by have := hb1.size; simp only [World.size_alloc] at this; omega
  have ⟨y0, y1, _, _, yl⟩ := (((Pr.new (w.alloc (.cells #[.bool na, .slice A n ca] 29)) (w.heap.size + 1) (by simp) (.bool false) (.slice B m cb) 29).alloc (.cells #[.bool false, .slice none 0 0, .bool false, .slice none 0 0] 31)).via hb1)
  clear hb1 hL1 HA HB
  go_wp2_with fail
  clear y0 y1 yl x0 x1 xl
  generalize w1.alloc (.cells #[.bool false, .slice A1 n1 c1] 29) = W1 at *
  generalize w1.heap.size = g at *
  have HD : Hid (decide (dvr x y < 0) = false) := by
    show _ = _
    have := HC.out
    unfold dvr
    rw [if_neg (by omega)]
    simp
  have LC : Hid (Lm W1 W1.heap.size A1 n1 c1 (digs (dvr x y).natAbs)) := by
    have := HC.out
    have e : (dvr x y).natAbs = Nat.gcd x.natAbs y.natAbs := by unfold dvr; rw [if_neg (by omega)]; rfl
    rw [e]
    exact L1.out
  have BL := Lib.hid B1.out
  clear L1 B1
  refine (rdiv_x _ A A1 n n1 ca c1 k x (dvr x y) (x / dvr x y) LA.out LC.out HX.out (sz_dvr HY.out (by have := HC.out; omega)) hk (dvr_ne (by have := HC.out; omega)) (dvr_left x y) HNa.out HD.out).mono ?_
  rintro e w3 ⟨A3, n3, c3, g3, A4, n4, c4, rfl, hL3, hb3⟩
  obtain ⟨np, hnp⟩ : ∃ b, decide (x / dvr x y < 0) = b := ⟨_, rfl⟩
  rw [hnp]
  have HNp := Lib.hid hnp
  have P7 := Lib.hid ((Pr.new w3 _ rfl (.bool np) (.slice A3 n3 c3) 29).alloc (.cells #[.bool g3, .slice A4 n4 c4] 29))
  have KB := Lib.hid (((PB.out.via hb3).alloc (.cells #[.bool np, .slice A3 n3 c3] 29)).alloc (.cells #[.bool g3, .slice A4 n4 c4] 29))
  have KG := Lib.hid (((PG.out.via hb3).alloc (.cells #[.bool np, .slice A3 n3 c3] 29)).alloc (.cells #[.bool g3, .slice A4 n4 c4] 29))
  have KR := Lib.hid (((QR.out.via hb3).alloc (.cells #[.bool np, .slice A3 n3 c3] 29)).alloc (.cells #[.bool g3, .slice A4 n4 c4] 29))
  have ML := Lib.hid (((LB.out.via hb3).box (.cells #[.bool np, .slice A3 n3 c3] 29)).box (.cells #[.bool g3, .slice A4 n4 c4] 29))
  have MC := Lib.hid (((LC.out.via hb3).box (.cells #[.bool np, .slice A3 n3 c3] 29)).box (.cells #[.bool g3, .slice A4 n4 c4] 29))
  have M3 := Lib.hid ((hL3.box (.cells #[.bool np, .slice A3 n3 c3] 29)).box (.cells #[.bool g3, .slice A4 n4 c4] 29))
  have B3 := Lib.hid (((BL.out.trans (hb3.mono BL.out.size)).alloc (BL.out.trans (hb3.mono BL.out.size)).size (.cells #[.bool np, .slice A3 n3 c3] 29)).alloc ((BL.out.trans (hb3.mono BL.out.size)).alloc (BL.out.trans (hb3.mono BL.out.size)).size (.cells #[.bool np, .slice A3 n3 c3] 29)).size (.cells #[.bool g3, .slice A4 n4 c4] 29))
  have ⟨b0, b1, _, _, bl⟩ := KB.out
  have ⟨p0, p1, _, _, pl⟩ := KG.out
  clear hnp hb3 hL3 PA PB PG QR LA LB LC BL
  go_wp2_with fail
  clear b0 b1 bl p0 p1 pl
  generalize (w3.alloc (.cells #[.bool np, .slice A3 n3 c3] 29)).alloc (.cells #[.bool g3, .slice A4 n4 c4] 29) = W3 at *
  generalize w3.heap.size = h3 at *
  refine (rdiv_x _ B A1 m n1 cb c1 k y (dvr x y) (y / dvr x y) ML.out MC.out HY.out (sz_dvr HY.out (by have := HC.out; omega)) hk (dvr_ne (by have := HC.out; omega)) (dvr_right x y) HNb.out HD.out).mono ?_
  rintro e w4 ⟨A5, n5, c5, g5, A6, n6, c6, rfl, hL5, hb5⟩
  obtain ⟨nq, hnq⟩ : ∃ b, decide (y / dvr x y < 0) = b := ⟨_, rfl⟩
  rw [hnq]
  have HNq := Lib.hid hnq
  have PQ := Lib.hid ((Pr.new w4 _ rfl (.bool nq) (.slice A5 n5 c5) 29).alloc (.cells #[.bool g5, .slice A6 n6 c6] 29))
  have P7' := Lib.hid (((P7.out.via hb5).alloc (.cells #[.bool nq, .slice A5 n5 c5] 29)).alloc (.cells #[.bool g5, .slice A6 n6 c6] 29))
  have QR := Lib.hid (((KR.out.via hb5).alloc (.cells #[.bool nq, .slice A5 n5 c5] 29)).alloc (.cells #[.bool g5, .slice A6 n6 c6] 29))
  have M5 := Lib.hid ((hL5.box (.cells #[.bool nq, .slice A5 n5 c5] 29)).box (.cells #[.bool g5, .slice A6 n6 c6] 29))
  have M7 := Lib.hid (((M3.out.via hb5).box (.cells #[.bool nq, .slice A5 n5 c5] 29)).box (.cells #[.bool g5, .slice A6 n6 c6] 29))
  have B5 := Lib.hid (((B3.out.trans (hb5.mono B3.out.size)).alloc (B3.out.trans (hb5.mono B3.out.size)).size (.cells #[.bool nq, .slice A5 n5 c5] 29)).alloc ((B3.out.trans (hb5.mono B3.out.size)).alloc (B3.out.trans (hb5.mono B3.out.size)).size (.cells #[.bool nq, .slice A5 n5 c5] 29)).size (.cells #[.bool g5, .slice A6 n6 c6] 29))
  have ⟨s0, s1, _, _, sl⟩ := P7'.out
  have ⟨u0, u1, _, _, ul⟩ := PQ.out
  have ⟨r0, r1, r2, r3, rf0, rf1, rf2, rf3, rl⟩ := QR.out
  clear hnq hb5 hL5 P7 KB KG KR ML MC M3 B3
  go_wp2
  exact post_f1 Tryz.results24 rfl rfl (QR.out.set (.bool np) (.slice A3 n3 c3) (.bool nq) (.slice A5 n5 c5)) ⟨A3, n3, c3, A5, n5, c5, by rw [HNp.out, HNq.out], M7.out.put4 QR.out _ _ _ _, M5.out.put4 QR.out _ _ _ _, below_put4 B5.out (by omega) _ _ _ _⟩
set_option maxRecDepth 100000 in
set_option maxHeartbeats 2000000 in
theorem rreduced_neg (w : World) (A B : Option Addr) (n m ca cb k : Nat) (x y : Int) (hA : Lm w w.heap.size A n ca (digs x.natAbs)) (hB : Lm w w.heap.size B m cb (digs y.natAbs)) (hx : Sz k x) (hy : Sz k y) (hk : k ≤ 2000) {na nb : Bool} (ha : decide (x < 0) = na) (hb : decide (y < 0) = nb) (hs : y < 0) :
    Calls Tryz.prog 24 #[.agg #[.bool na, .slice A n ca], .agg #[.bool nb, .slice B m cb]] w (RFr w (x / dvr x y) (y / dvr x y)) := by
  have HA := Lib.hid hA
  have HB := Lib.hid hB
  have HX := Lib.hid hx
  have HY := Lib.hid hy
  have HC := Lib.hid hs
  obtain rfl : nb = true := by rw [← hb]; exact decide_eq_true hs
  have HNa := Lib.hid ha
  have HNb := Lib.hid hb
  clear hA hB hx hy ha hb hs
  go_enter Tryz.func24, Tryz.ntmps24
  go_wp2_with fail
  refine (rgcd_n2 _ A B n m ca cb k x y (((HA.out.box _).box _).box _) (((HB.out.box _).box _).box _) HX.out HY.out hk HNa.out HNb.out).mono ?_
  rintro e w1 ⟨A1, n1, c1, rfl, hL1, hb1⟩
  have PA := Lib.hid (((((Pr.new w _ rfl (.bool na) (.slice A n ca) 29).alloc (.cells #[.bool true, .slice B m cb] 29)).alloc (.cells #[.bool false, .slice none 0 0, .bool false, .slice none 0 0] 31)).via hb1).alloc (.cells #[.bool false, .slice A1 n1 c1] 29))
  have PB := Lib.hid ((((Pr.new (w.alloc (.cells #[.bool na, .slice A n ca] 29)) (w.heap.size + 1) (by simp) (.bool true) (.slice B m cb) 29).alloc (.cells #[.bool false, .slice none 0 0, .bool false, .slice none 0 0] 31)).via hb1).alloc (.cells #[.bool false, .slice A1 n1 c1] 29))
  have QR := Lib.hid (((Qd.new ((w.alloc (.cells #[.bool na, .slice A n ca] 29)).alloc (.cells #[.bool true, .slice B m cb] 29)) (w.heap.size + 1 + 1) (by simp) (.bool false) (.slice none 0 0) (.bool false) (.slice none 0 0) 31).via hb1).alloc (.cells #[.bool false, .slice A1 n1 c1] 29))
  have PG := Lib.hid (Pr.new w1 _ rfl (.bool false) (.slice A1 n1 c1) 29)
  have LA := Lib.hid (((((HA.out.box _).box _).box _).via hb1).box (.cells #[.bool false, .slice A1 n1 c1] 29))
  have LB := Lib.hid (((((HB.out.box _).box _).box _).via hb1).box (.cells #[.bool false, .slice A1 n1 c1] 29))
  have L1 := Lib.hid (hL1.box (.cells #[.bool false, .slice A1 n1 c1] 29))
  have B1 := Lib.hid ((bbox (bbox (bbox hb1))).alloc (bbox (bbox (bbox hb1))).size (.cells #[.bool false, .slice A1 n1 c1] 29))
  have ⟨x0, x1, _, _, xl⟩ := ((((Pr.new w _ rfl (.bool na) (.slice A n ca) 29).alloc (.cells #[.bool true, .slice B m cb] 29)).alloc (.cells #[.bool false, .slice none 0 0, .bool false, .slice none 0 0] 31)).via hb1)
  have hg : w.heap.size + 1 + 1 < w1.heap.size := by have := hb1.size; simp only [World.size_alloc] at this; omega
  have ⟨y0, y1, _, _, yl⟩ := (((Pr.new (w.alloc (.cells #[.bool na, .slice A n ca] 29)) (w.heap.size + 1) (by simp) (.bool true) (.slice B m cb) 29).alloc (.cells #[.bool false, .slice none 0 0, .bool false, .slice none 0 0] 31)).via hb1)
  clear hb1 hL1 HA HB
  go_wp2_with fail
  clear y0 y1 yl x0 x1 xl
  generalize w1.alloc (.cells #[.bool false, .slice A1 n1 c1] 29) = W1 at *
  generalize w1.heap.size = g at *
  have hg0 : Sz k (Nat.gcd x.natAbs y.natAbs : Int) := sz_gcd2 HY.out (by have := HC.out; omega)
  have HG := Lib.hid hg0
  have hdg : decide ((Nat.gcd x.natAbs y.natAbs : Int) < 0) = false := by simp
  have HDG := Lib.hid hdg
  have HD : Hid (decide (-(Nat.gcd x.natAbs y.natAbs : Int) < 0) = true) := by
    show _ = _
    have := HC.out
    have h : 0 < Nat.gcd x.natAbs y.natAbs := Nat.gcd_pos_of_pos_right _ (by omega)
    simp
    omega
  have HE : Hid (dvr x y = -(Nat.gcd x.natAbs y.natAbs : Int)) := by
    show _ = _
    have := HC.out
    unfold dvr
    rw [if_pos this]
  clear hg0 hdg
  refine (rneg_n2 _ A1 n1 c1 k (Nat.gcd x.natAbs y.natAbs : Int) L1.out HG.out hk HDG.out).mono ?_
  rintro e w2 ⟨A2, n2, c2, rfl, hL2, hb2⟩
  rw [HD.out]
  rw [← HE.out] at hL2 HD
  have P6 := PG.out.via hb2
  have KA := Lib.hid ((PA.out.via hb2).far (h := g) (by omega) (.bool true) (.slice A2 n2 c2))
  have KB := Lib.hid ((PB.out.via hb2).far (h := g) (by omega) (.bool true) (.slice A2 n2 c2))
  have KR := Lib.hid ((QR.out.via hb2).far2 (h := g) (x := .bool true) (y := .slice A2 n2 c2) (by omega))
  have ML := Lib.hid ((LA.out.via hb2).setP P6 (.bool true) (.slice A2 n2 c2))
  have MB := Lib.hid ((LB.out.via hb2).setP P6 (.bool true) (.slice A2 n2 c2))
  have LC := Lib.hid (hL2.setP P6 (.bool true) (.slice A2 n2 c2))
  have KG := Lib.hid (P6.set (.bool true) (.slice A2 n2 c2))
  have BL := Lib.hid (below_set2 (B1.out.trans (hb2.mono B1.out.size)) (g := g) (by omega) (.bool true) (.slice A2 n2 c2))
  have ⟨p0, p1, pf0, pf1, pl⟩ := P6
  have ⟨a0, a1, _, _, al⟩ := PA.out.via hb2
  clear hL2 hb2 PA PB QR LA LB L1 PG B1 P6
  go_wp2_with fail
  clear p0 p1 pf0 pf1 pl a0 a1 al
  generalize (w2.setCell ⟨g, 0, none⟩ (.bool true)).setCell ⟨g, 1, none⟩ (.slice A2 n2 c2) = W2 at *
  have PA := KA
  have PB := KB
  have QR := KR
  have LA := ML
  have LB := MB
  have PG := KG
  clear KA KB KR ML MB KG
  refine (rdiv_x _ A A2 n n2 ca c2 k x (dvr x y) (x / dvr x y) LA.out LC.out HX.out (sz_dvr HY.out (by have := HC.out; omega)) hk (dvr_ne (by have := HC.out; omega)) (dvr_left x y) HNa.out HD.out).mono ?_
  rintro e w3 ⟨A3, n3, c3, g3, A4, n4, c4, rfl, hL3, hb3⟩
  obtain ⟨np, hnp⟩ : ∃ b, decide (x / dvr x y < 0) = b := ⟨_, rfl⟩
  rw [hnp]
  have HNp := Lib.hid hnp
  have P7 := Lib.hid ((Pr.new w3 _ rfl (.bool np) (.slice A3 n3 c3) 29).alloc (.cells #[.bool g3, .slice A4 n4 c4] 29))
  have KB := Lib.hid (((PB.out.via hb3).alloc (.cells #[.bool np, .slice A3 n3 c3] 29)).alloc (.cells #[.bool g3, .slice A4 n4 c4] 29))
  have KG := Lib.hid (((PG.out.via hb3).alloc (.cells #[.bool np, .slice A3 n3 c3] 29)).alloc (.cells #[.bool g3, .slice A4 n4 c4] 29))
  have KR := Lib.hid (((QR.out.via hb3).alloc (.cells #[.bool np, .slice A3 n3 c3] 29)).alloc (.cells #[.bool g3, .slice A4 n4 c4] 29))
  have ML := Lib.hid (((LB.out.via hb3).box (.cells #[.bool np, .slice A3 n3 c3] 29)).box (.cells #[.bool g3, .slice A4 n4 c4] 29))
  have MC := Lib.hid (((LC.out.via hb3).box (.cells #[.bool np, .slice A3 n3 c3] 29)).box (.cells #[.bool g3, .slice A4 n4 c4] 29))
  have M3 := Lib.hid ((hL3.box (.cells #[.bool np, .slice A3 n3 c3] 29)).box (.cells #[.bool g3, .slice A4 n4 c4] 29))
  have B3 := Lib.hid (((BL.out.trans (hb3.mono BL.out.size)).alloc (BL.out.trans (hb3.mono BL.out.size)).size (.cells #[.bool np, .slice A3 n3 c3] 29)).alloc ((BL.out.trans (hb3.mono BL.out.size)).alloc (BL.out.trans (hb3.mono BL.out.size)).size (.cells #[.bool np, .slice A3 n3 c3] 29)).size (.cells #[.bool g3, .slice A4 n4 c4] 29))
  have ⟨b0, b1, _, _, bl⟩ := KB.out
  have ⟨p0, p1, _, _, pl⟩ := KG.out
  clear hnp hb3 hL3 PA PB PG QR LA LB LC BL
  go_wp2_with fail
  clear b0 b1 bl p0 p1 pl
  generalize (w3.alloc (.cells #[.bool np, .slice A3 n3 c3] 29)).alloc (.cells #[.bool g3, .slice A4 n4 c4] 29) = W3 at *
  generalize w3.heap.size = h3 at *
  refine (rdiv_x _ B A2 m n2 cb c2 k y (dvr x y) (y / dvr x y) ML.out MC.out HY.out (sz_dvr HY.out (by have := HC.out; omega)) hk (dvr_ne (by have := HC.out; omega)) (dvr_right x y) HNb.out HD.out).mono ?_
  rintro e w4 ⟨A5, n5, c5, g5, A6, n6, c6, rfl, hL5, hb5⟩
  obtain ⟨nq, hnq⟩ : ∃ b, decide (y / dvr x y < 0) = b := ⟨_, rfl⟩
  rw [hnq]
  have HNq := Lib.hid hnq
  have PQ := Lib.hid ((Pr.new w4 _ rfl (.bool nq) (.slice A5 n5 c5) 29).alloc (.cells #[.bool g5, .slice A6 n6 c6] 29))
  have P7' := Lib.hid (((P7.out.via hb5).alloc (.cells #[.bool nq, .slice A5 n5 c5] 29)).alloc (.cells #[.bool g5, .slice A6 n6 c6] 29))
  have QR := Lib.hid (((KR.out.via hb5).alloc (.cells #[.bool nq, .slice A5 n5 c5] 29)).alloc (.cells #[.bool g5, .slice A6 n6 c6] 29))
  have M5 := Lib.hid ((hL5.box (.cells #[.bool nq, .slice A5 n5 c5] 29)).box (.cells #[.bool g5, .slice A6 n6 c6] 29))
  have M7 := Lib.hid (((M3.out.via hb5).box (.cells #[.bool nq, .slice A5 n5 c5] 29)).box (.cells #[.bool g5, .slice A6 n6 c6] 29))
  have B5 := Lib.hid (((B3.out.trans (hb5.mono B3.out.size)).alloc (B3.out.trans (hb5.mono B3.out.size)).size (.cells #[.bool nq, .slice A5 n5 c5] 29)).alloc ((B3.out.trans (hb5.mono B3.out.size)).alloc (B3.out.trans (hb5.mono B3.out.size)).size (.cells #[.bool nq, .slice A5 n5 c5] 29)).size (.cells #[.bool g5, .slice A6 n6 c6] 29))
  have ⟨s0, s1, _, _, sl⟩ := P7'.out
  have ⟨u0, u1, _, _, ul⟩ := PQ.out
  have ⟨r0, r1, r2, r3, rf0, rf1, rf2, rf3, rl⟩ := QR.out
  clear hnq hb5 hL5 P7 KB KG KR ML MC M3 B3
  go_wp2
  exact post_f1 Tryz.results24 rfl rfl (QR.out.set (.bool np) (.slice A3 n3 c3) (.bool nq) (.slice A5 n5 c5)) ⟨A3, n3, c3, A5, n5, c5, by rw [HNp.out, HNq.out], M7.out.put4 QR.out _ _ _ _, M5.out.put4 QR.out _ _ _ _, below_put4 B5.out (by omega) _ _ _ _⟩
end Go.Proofs.YtglgfjknhplajaaGreatDoor

/- Make and Of on both sides. -/
namespace Go.Proofs.YtglgfjknhplajaaGreatDoor
open Go.RowKit

/-- A call returns a fraction that reads so, and an error; what was there is kept. -/
def RG (w : World) (np : Bool) (xs : List Nat) (nq : Bool) (ys : List Nat) (err : Int) (e : Ending) (w' : World) : Prop := ∃ A n c B m c', e = .returned (.tuple #[fv np A n c nq B m c', .int .i64 err]) ∧ Lm w' w'.heap.size A n c xs ∧ Lm w' w'.heap.size B m c' ys ∧ Below w.heap.size w w'
theorem rfe_rg {w : World} {p q : Int} {e : Ending} {w' : World} (h : RFE w p q e w') : RG w (decide (p < 0)) (digs p.natAbs) (decide (q < 0)) (digs q.natAbs) 0 e w' := h
theorem rfx_rg {w : World} {x : Int} {e : Ending} {w' : World} (h : RFX w x e w') : RG w false [] false [] x e w' := ⟨none, 0, 0, none, 0, 0, h.1, Lm.nil _ _, Lm.nil _ _, h.2⟩

set_option maxRecDepth 100000 in
set_option maxHeartbeats 1000000 in
theorem rof_g (w : World) (a b : Int) (ha1 : -9223372036854775808 ≤ a) (ha2 : a ≤ 9223372036854775807) (hb1 : -9223372036854775808 ≤ b) (hb2 : b ≤ 9223372036854775807) (np nq : Bool) (l1 l2 : List Nat) (err : Int)
    (H : ∀ W (A B : Option Addr) (n m ca cb : Nat), Lm W W.heap.size A n ca (digs a.natAbs) → Lm W W.heap.size B m cb (digs b.natAbs) → Calls Tryz.prog 80 #[.agg #[.bool (decide (a < 0)), .slice A n ca], .agg #[.bool (decide (b < 0)), .slice B m cb]] W (RG W np l1 nq l2 err)) :
    Calls Tryz.prog 50 #[.int .i64 a, .int .i64 b] w (RG w np l1 nq l2 err) := by
  obtain ⟨na, hna⟩ : ∃ z, decide (a < 0) = z := ⟨_, rfl⟩
  obtain ⟨nb, hnb⟩ : ∃ z, decide (b < 0) = z := ⟨_, rfl⟩
  rw [hna, hnb] at H
  have HNa := Lib.hid hna
  have HNb := Lib.hid hnb
  have HH := Lib.hid H
  clear H hna hnb
  go_enter Tryz.func50, Tryz.ntmps50
  go_wp2_with fail
  refine (rfrom_any _ a ha1 ha2).mono ?_
  rintro e w1 ⟨A1, n1, c1, rfl, hL1, h1⟩
  rw [HNa.out]
  have Q := Lib.hid ((Qd.new w _ rfl (.bool false) (.slice none 0 0) (.bool false) (.slice none 0 0) 31).via h1)
  have L1 := Lib.hid hL1
  have B1 := Lib.hid (bbox h1)
  clear hL1 h1
  go_wp2_with fail
  refine (rfrom_any _ b hb1 hb2).mono ?_
  rintro e w2 ⟨A2, n2, c2, rfl, hL2, h2⟩
  rw [HNb.out]
  have Q2 := Lib.hid (Q.out.via h2)
  have L12 := Lib.hid (L1.out.via h2)
  have L2 := Lib.hid hL2
  have B2 := Lib.hid (btr B1.out h2)
  clear hL2 h2 Q L1 B1
  go_wp2_with fail
  refine (HH.out _ _ _ _ _ _ _ L12.out L2.out).mono ?_
  rintro e w3 ⟨A3, n3, c3, B3, m3, d3, rfl, hL3, hM3, h3⟩
  have Q := Lib.hid (Q2.out.via h3)
  have L3 := Lib.hid hL3
  have M3 := Lib.hid hM3
  have BB := Lib.hid (btr B2.out h3)
  have ⟨q0, q1, q2, q3, f0, f1, f2, f3, ql⟩ := Q.out
  clear hL3 hM3 h3 Q2 L12 L2 B2
  go_wp2
  exact post_f Tryz.results50 rfl rfl (Q.out.set (.bool np) (.slice A3 n3 c3) (.bool nq) (.slice B3 m3 d3)) ⟨A3, n3, c3, B3, m3, d3, rfl, L3.out.put4 Q.out _ _ _ _, M3.out.put4 Q.out _ _ _ _, below_put4 BB.out (Nat.le_refl _) _ _ _ _⟩

set_option maxRecDepth 100000 in
set_option maxHeartbeats 1000000 in
theorem rmake_nbad (w : World) (na nb : Bool) (A B : Option Addr) (n m ca cb : Nat) (xs ys : List Nat) (hA : Lm w w.heap.size A n ca xs) (hB : Lm w w.heap.size B m cb ys) (hn : chk na xs = 8) :
    Calls Tryz.prog 80 #[.agg #[.bool na, .slice A n ca], .agg #[.bool nb, .slice B m cb]] w (RG w false [] false [] 8) := by
  have HA := Lib.hid hA
  have HB := Lib.hid hB
  have HN := Lib.hid hn
  clear hn
  clear hA hB
  go_enter Tryz.func80, Tryz.ntmps80
  go_wp2_with fail
  refine (rcheck_bad _ na A n ca xs (((HA.out.box _).box _).box _) HN.out).mono ?_
  rintro e w1 ⟨rfl, hb1⟩
  have PA := Lib.hid ((((Pr.new w _ rfl (.bool na) (.slice A n ca) 29).alloc (.cells #[.bool nb, .slice B m cb] 29)).alloc (.cells #[.bool false, .slice none 0 0, .bool false, .slice none 0 0] 31)).via hb1)
  have PB := Lib.hid (((Pr.new (w.alloc (.cells #[.bool na, .slice A n ca] 29)) (w.heap.size + 1) (by simp) (.bool nb) (.slice B m cb) 29).alloc (.cells #[.bool false, .slice none 0 0, .bool false, .slice none 0 0] 31)).via hb1)
  have QR := Lib.hid ((Qd.new ((w.alloc (.cells #[.bool na, .slice A n ca] 29)).alloc (.cells #[.bool nb, .slice B m cb] 29)) (w.heap.size + 1 + 1) (by simp) (.bool false) (.slice none 0 0) (.bool false) (.slice none 0 0) 31).via hb1)
  have LA := Lib.hid ((((HA.out.box _).box _).box _).via hb1)
  have LB := Lib.hid ((((HB.out.box _).box _).box _).via hb1)
  have B1 := Lib.hid (bbox (bbox (bbox hb1)))
  clear hb1 HA HB
  have ⟨q0, q1, q2, q3, f0, f1, f2, f3, ql⟩ := QR.out
  go_wp2
  exact post_f Tryz.results80 rfl rfl (QR.out.set (.bool false) (.slice none 0 0) (.bool false) (.slice none 0 0)) ⟨none, 0, 0, none, 0, 0, rfl, Lm.nil _ _, Lm.nil _ _, below_put4 B1.out (by omega) _ _ _ _⟩

set_option maxRecDepth 100000 in
set_option maxHeartbeats 1000000 in
theorem rmake_dbad (w : World) (na nb : Bool) (A B : Option Addr) (n m ca cb : Nat) (xs ys : List Nat) (hA : Lm w w.heap.size A n ca xs) (hB : Lm w w.heap.size B m cb ys) (hn : chk na xs = 0) (hd : chk nb ys = 8) :
    Calls Tryz.prog 80 #[.agg #[.bool na, .slice A n ca], .agg #[.bool nb, .slice B m cb]] w (RG w false [] false [] 8) := by
  have HA := Lib.hid hA
  have HB := Lib.hid hB
  have HN := Lib.hid hn
  have HD := Lib.hid hd
  clear hn hd
  clear hA hB
  go_enter Tryz.func80, Tryz.ntmps80
  go_wp2_with fail
  refine (rcheck_ok _ na A n ca xs (((HA.out.box _).box _).box _) HN.out).mono ?_
  rintro e w1 ⟨rfl, hb1⟩
  have PA := Lib.hid ((((Pr.new w _ rfl (.bool na) (.slice A n ca) 29).alloc (.cells #[.bool nb, .slice B m cb] 29)).alloc (.cells #[.bool false, .slice none 0 0, .bool false, .slice none 0 0] 31)).via hb1)
  have PB := Lib.hid (((Pr.new (w.alloc (.cells #[.bool na, .slice A n ca] 29)) (w.heap.size + 1) (by simp) (.bool nb) (.slice B m cb) 29).alloc (.cells #[.bool false, .slice none 0 0, .bool false, .slice none 0 0] 31)).via hb1)
  have QR := Lib.hid ((Qd.new ((w.alloc (.cells #[.bool na, .slice A n ca] 29)).alloc (.cells #[.bool nb, .slice B m cb] 29)) (w.heap.size + 1 + 1) (by simp) (.bool false) (.slice none 0 0) (.bool false) (.slice none 0 0) 31).via hb1)
  have LA := Lib.hid ((((HA.out.box _).box _).box _).via hb1)
  have LB := Lib.hid ((((HB.out.box _).box _).box _).via hb1)
  have B1 := Lib.hid (bbox (bbox (bbox hb1)))
  clear hb1 HA HB
  have ⟨b0, b1, _, _, bl⟩ := PB.out
  go_wp2_with fail
  refine (rcheck_bad _ nb B m cb ys LB.out HD.out).mono ?_
  rintro e w2 ⟨rfl, hb2⟩
  have PA2 := Lib.hid (PA.out.via hb2)
  have PB2 := Lib.hid (PB.out.via hb2)
  have QR2 := Lib.hid (QR.out.via hb2)
  have LA2 := Lib.hid (LA.out.via hb2)
  have LB2 := Lib.hid (LB.out.via hb2)
  have B2 := Lib.hid (btr B1.out hb2)
  clear hb2 PA PB QR LA LB B1 b0 b1 bl
  have QR := QR2
  have B1 := B2
  clear QR2 B2
  have ⟨q0, q1, q2, q3, f0, f1, f2, f3, ql⟩ := QR.out
  go_wp2
  exact post_f Tryz.results80 rfl rfl (QR.out.set (.bool false) (.slice none 0 0) (.bool false) (.slice none 0 0)) ⟨none, 0, 0, none, 0, 0, rfl, Lm.nil _ _, Lm.nil _ _, below_put4 B1.out (by omega) _ _ _ _⟩

set_option maxRecDepth 100000 in
set_option maxHeartbeats 1000000 in
theorem rmake_zero (w : World) (na nb : Bool) (A B : Option Addr) (n m ca cb : Nat) (xs ys : List Nat) (hA : Lm w w.heap.size A n ca xs) (hB : Lm w w.heap.size B m cb ys) (hn : chk na xs = 0) (hd : chk nb ys = 0) (hz : ys = []) :
    Calls Tryz.prog 80 #[.agg #[.bool na, .slice A n ca], .agg #[.bool nb, .slice B m cb]] w (RG w false [] false [] 18) := by
  have HA := Lib.hid hA
  have HB := Lib.hid hB
  subst hz
  obtain rfl : m = 0 := HB.out.len.symm
  have hcc := HB.out.cap
  have hcx := HB.out.max
  have HN := Lib.hid hn
  have HD := Lib.hid hd
  clear hn hd
  clear hA hB
  go_enter Tryz.func80, Tryz.ntmps80
  go_wp2_with fail
  refine (rcheck_ok _ na A n ca xs (((HA.out.box _).box _).box _) HN.out).mono ?_
  rintro e w1 ⟨rfl, hb1⟩
  have PA := Lib.hid ((((Pr.new w _ rfl (.bool na) (.slice A n ca) 29).alloc (.cells #[.bool nb, .slice B 0 cb] 29)).alloc (.cells #[.bool false, .slice none 0 0, .bool false, .slice none 0 0] 31)).via hb1)
  have PB := Lib.hid (((Pr.new (w.alloc (.cells #[.bool na, .slice A n ca] 29)) (w.heap.size + 1) (by simp) (.bool nb) (.slice B 0 cb) 29).alloc (.cells #[.bool false, .slice none 0 0, .bool false, .slice none 0 0] 31)).via hb1)
  have QR := Lib.hid ((Qd.new ((w.alloc (.cells #[.bool na, .slice A n ca] 29)).alloc (.cells #[.bool nb, .slice B 0 cb] 29)) (w.heap.size + 1 + 1) (by simp) (.bool false) (.slice none 0 0) (.bool false) (.slice none 0 0) 31).via hb1)
  have LA := Lib.hid ((((HA.out.box _).box _).box _).via hb1)
  have LB := Lib.hid ((((HB.out.box _).box _).box _).via hb1)
  have B1 := Lib.hid (bbox (bbox (bbox hb1)))
  clear hb1 HA HB
  have ⟨b0, b1, _, _, bl⟩ := PB.out
  go_wp2_with fail
  refine (rcheck_ok _ nb B 0 cb [] LB.out HD.out).mono ?_
  rintro e w2 ⟨rfl, hb2⟩
  have PA2 := Lib.hid (PA.out.via hb2)
  have PB2 := Lib.hid (PB.out.via hb2)
  have QR2 := Lib.hid (QR.out.via hb2)
  have LA2 := Lib.hid (LA.out.via hb2)
  have LB2 := Lib.hid (LB.out.via hb2)
  have B2 := Lib.hid (btr B1.out hb2)
  clear hb2 PA PB QR LA LB B1 b0 b1 bl
  have QR := QR2
  have B1 := B2
  clear QR2 B2
  have ⟨b0, b1, _, _, bl⟩ := PB2.out
  have ⟨q0, q1, q2, q3, f0, f1, f2, f3, ql⟩ := QR.out
  go_wp2
  exact post_f Tryz.results80 rfl rfl (QR.out.set (.bool false) (.slice none 0 0) (.bool false) (.slice none 0 0)) ⟨none, 0, 0, none, 0, 0, rfl, Lm.nil _ _, Lm.nil _ _, below_put4 B1.out (by omega) _ _ _ _⟩

set_option maxRecDepth 100000 in
set_option maxHeartbeats 1000000 in
theorem rmake_ok (w : World) (na nb : Bool) (A B : Option Addr) (n m ca cb : Nat) (xs ys : List Nat) (hA : Lm w w.heap.size A n ca xs) (hB : Lm w w.heap.size B m cb ys) (hn : chk na xs = 0) (hd : chk nb ys = 0) (hz : ys ≠ []) (p q : Int) (H : ∀ W, Lm W W.heap.size A n ca xs → Lm W W.heap.size B m cb ys → Calls Tryz.prog 24 #[.agg #[.bool na, .slice A n ca], .agg #[.bool nb, .slice B m cb]] W (RFr W p q)) :
    Calls Tryz.prog 80 #[.agg #[.bool na, .slice A n ca], .agg #[.bool nb, .slice B m cb]] w (RG w (decide (p < 0)) (digs p.natAbs) (decide (q < 0)) (digs q.natAbs) 0) := by
  have HA := Lib.hid hA
  have HB := Lib.hid hB
  have hm0 : 0 < m := by
    rcases Nat.eq_zero_or_pos m with h | h
    · exact absurd (List.eq_nil_of_length_eq_zero (by rw [HB.out.len]; exact h)) hz
    · exact h
  have hmz : ((m : Int) == 0) = false := by simp; omega
  have hcc := HB.out.cap
  have hcx := HB.out.max
  have HH := Lib.hid H
  clear H hz
  have HN := Lib.hid hn
  have HD := Lib.hid hd
  clear hn hd
  clear hA hB
  go_enter Tryz.func80, Tryz.ntmps80
  go_wp2_with fail
  refine (rcheck_ok _ na A n ca xs (((HA.out.box _).box _).box _) HN.out).mono ?_
  rintro e w1 ⟨rfl, hb1⟩
  have PA := Lib.hid ((((Pr.new w _ rfl (.bool na) (.slice A n ca) 29).alloc (.cells #[.bool nb, .slice B m cb] 29)).alloc (.cells #[.bool false, .slice none 0 0, .bool false, .slice none 0 0] 31)).via hb1)
  have PB := Lib.hid (((Pr.new (w.alloc (.cells #[.bool na, .slice A n ca] 29)) (w.heap.size + 1) (by simp) (.bool nb) (.slice B m cb) 29).alloc (.cells #[.bool false, .slice none 0 0, .bool false, .slice none 0 0] 31)).via hb1)
  have QR := Lib.hid ((Qd.new ((w.alloc (.cells #[.bool na, .slice A n ca] 29)).alloc (.cells #[.bool nb, .slice B m cb] 29)) (w.heap.size + 1 + 1) (by simp) (.bool false) (.slice none 0 0) (.bool false) (.slice none 0 0) 31).via hb1)
  have LA := Lib.hid ((((HA.out.box _).box _).box _).via hb1)
  have LB := Lib.hid ((((HB.out.box _).box _).box _).via hb1)
  have B1 := Lib.hid (bbox (bbox (bbox hb1)))
  clear hb1 HA HB
  have ⟨b0, b1, _, _, bl⟩ := PB.out
  go_wp2_with fail
  refine (rcheck_ok _ nb B m cb ys LB.out HD.out).mono ?_
  rintro e w2 ⟨rfl, hb2⟩
  have PA2 := Lib.hid (PA.out.via hb2)
  have PB2 := Lib.hid (PB.out.via hb2)
  have QR2 := Lib.hid (QR.out.via hb2)
  have LA2 := Lib.hid (LA.out.via hb2)
  have LB2 := Lib.hid (LB.out.via hb2)
  have B2 := Lib.hid (btr B1.out hb2)
  clear hb2 PA PB QR LA LB B1 b0 b1 bl
  have QR := QR2
  have B1 := B2
  clear QR2 B2
  have ⟨a0, a1, _, _, al⟩ := PA2.out
  have ⟨b0, b1, _, _, bl⟩ := PB2.out
  go_wp2_with fail
  refine (HH.out _ LA2.out LB2.out).mono ?_
  rintro e w3 ⟨A3, n3, c3, B3, m3, d3, rfl, hL3, hM3, h3⟩
  obtain ⟨np, hnp⟩ : ∃ b, decide (p < 0) = b := ⟨_, rfl⟩
  obtain ⟨nq, hnq⟩ : ∃ b, decide (q < 0) = b := ⟨_, rfl⟩
  rw [hnp, hnq]
  have HNp := Lib.hid hnp
  have HNq := Lib.hid hnq
  have Q3 := Lib.hid (QR.out.via h3)
  have L3 := Lib.hid hL3
  have M3 := Lib.hid hM3
  have BB := Lib.hid (btr B1.out h3)
  have ⟨q0, q1, q2, q3, f0, f1, f2, f3, ql⟩ := Q3.out
  clear hL3 hM3 h3 hnp hnq a0 a1 al b0 b1 bl
  go_wp2
  exact post_f Tryz.results80 rfl rfl (Q3.out.set (.bool np) (.slice A3 n3 c3) (.bool nq) (.slice B3 m3 d3)) ⟨A3, n3, c3, B3, m3, d3, by rw [HNp.out, HNq.out]; rfl, L3.out.put4 Q3.out _ _ _ _, M3.out.put4 Q3.out _ _ _ _, below_put4 BB.out (by omega) _ _ _ _⟩

end Go.Proofs.YtglgfjknhplajaaGreatDoor

/- Package frac: product, known. -/
namespace Go.Proofs.YtglgfjknhplajaaGreatDoor
open Go.RowKit

/-- A call returns the number z. -/
def RVz (w : World) (z : Int) (e : Ending) (w' : World) : Prop := ∃ A n c, e = .returned (.agg #[.bool (decide (z < 0)), .slice A n c]) ∧ Lm w' w'.heap.size A n c (digs z.natAbs) ∧ Below w.heap.size w w'

end Go.Proofs.YtglgfjknhplajaaGreatDoor

/- Mathematics of fractions: which divisors a sum of reduced fractions has. No program is named here. -/
namespace Go.Proofs.YtglgfjknhplajaaGreatDoor
theorem cop_of (t : Int) (an bn : Int) (p' q' p : Nat) (ht : t = an * q' + bn * p') (hpq : Nat.gcd p' q' = 1) (hpp : p' ∣ p) (ha : Nat.gcd an.natAbs p = 1) : Nat.Coprime t.natAbs p' := by
  refine Nat.eq_one_of_dvd_one ?_
  have h1 := Nat.gcd_dvd_left t.natAbs p'
  have h2 := Nat.gcd_dvd_right t.natAbs p'
  generalize Nat.gcd t.natAbs p' = d at *
  have i1 : (d : Int) ∣ t := Int.ofNat_dvd_left.2 h1
  have i2 : (d : Int) ∣ (p' : Int) := Int.natCast_dvd_natCast.2 h2
  have i3 : (d : Int) ∣ an * q' := by
    have e : an * q' = t - bn * p' := by omega
    rw [e]
    exact Int.dvd_sub i1 (Int.dvd_mul_of_dvd_right i2)
  have h3 : d ∣ an.natAbs * q' := by
    have := Int.ofNat_dvd_left.1 i3
    rwa [Int.natAbs_mul, Int.natAbs_natCast] at this
  have c : Nat.Coprime d q' := Nat.Coprime.coprime_dvd_left h2 hpq
  have h4 : d ∣ an.natAbs := c.dvd_of_dvd_mul_right h3
  have h5 : d ∣ Nat.gcd an.natAbs p := Nat.dvd_gcd h4 (Nat.dvd_trans h2 hpp)
  rwa [ha] at h5
theorem frac_common (an bn : Int) (p q s : Nat) (hp : 0 < p) (ha : Nat.gcd an.natAbs p = 1) (hb : Nat.gcd bn.natAbs q = 1) (hs : Nat.gcd p q = s) :
    ∃ t : Int, an * q + bn * p = t * s ∧ 0 < s ∧ Nat.gcd (an * q + bn * p).natAbs (p * q) = s * Nat.gcd t.natAbs s := by
  have hs0 : 0 < s := by rw [← hs]; exact Nat.gcd_pos_of_pos_left _ hp
  obtain ⟨p', hp'⟩ : s ∣ p := hs ▸ Nat.gcd_dvd_left p q
  obtain ⟨q', hq'⟩ : s ∣ q := hs ▸ Nat.gcd_dvd_right p q
  have hpq : Nat.gcd p' q' = 1 := by
    have h : s * Nat.gcd p' q' = s * 1 := by rw [← Nat.gcd_mul_left, ← hp', ← hq', hs, Nat.mul_one]
    exact Nat.eq_of_mul_eq_mul_left hs0 h
  refine ⟨an * q' + bn * p', ?_, hs0, ?_⟩
  · rw [hp', hq', Int.natCast_mul, Int.natCast_mul]; grind
  · have c1 := cop_of (an * q' + bn * p') an bn p' q' p rfl hpq ⟨s, by rw [Nat.mul_comm]; exact hp'⟩ ha
    have c2 := cop_of (an * q' + bn * p') bn an q' p' q (by omega) (by rw [Nat.gcd_comm]; exact hpq) ⟨s, by rw [Nat.mul_comm]; exact hq'⟩ hb
    have e : (an * q + bn * p).natAbs = s * (an * q' + bn * p').natAbs := by
      have : an * q + bn * p = s * (an * q' + bn * p') := by rw [hp', hq', Int.natCast_mul, Int.natCast_mul]; grind
      rw [this, Int.natAbs_mul, Int.natAbs_natCast]
    have e2 : p * q = s * (s * (p' * q')) := by
      have h : s * p' * (s * q') = s * (s * (p' * q')) := by grind
      rw [← hp', ← hq'] at h
      exact h
    rw [e, e2, Nat.gcd_mul_left]
    congr 1
    have c := Nat.Coprime.mul_right c1 c2
    exact Nat.Coprime.gcd_mul_right_cancel_right s c.symm
end Go.Proofs.YtglgfjknhplajaaGreatDoor

/- Two copies laid in new boxes, in whatever order. -/
namespace Go.Proofs.YtglgfjknhplajaaGreatDoor
open Go.RowKit

/-- Two slots point to copies of both numbers. -/
def TwinsAt (w2 : World) (na : Bool) (n : Nat) (xs : List Nat) (nb : Bool) (m : Nat) (ys : List Nat) (s5 s6 : Value) (wc : World) : Prop :=
  ∃ gx gy A' c' A'' c'', s5 = .pointer (some ⟨gx, 0, none⟩) ∧ s6 = .pointer (some ⟨gy, 0, none⟩) ∧ Pr wc gx (.bool na) (.slice A' n c') ∧ Pr wc gy (.bool nb) (.slice A'' m c'') ∧ Lm wc wc.heap.size A' n c' xs ∧ Lm wc wc.heap.size A'' m c'' ys ∧ Below w2.heap.size w2 wc

section
variable {w2 w4 : World} {na nb : Bool} {n m : Nat} {xs ys : List Nat} {A3 A4 : Option Addr} {c3 c4 : Nat} {t : TypeId}
theorem fin1 (hB : Below w2.heap.size w2 w4) (L3 : Lm w4 w4.heap.size A3 n c3 xs) (L4 : Lm w4 w4.heap.size A4 m c4 ys) :
    TwinsAt w2 na n xs nb m ys (.pointer (some ⟨w4.heap.size, 0, none⟩)) (.pointer (some ⟨w4.heap.size + 1, 0, none⟩)) ((w4.alloc (.cells #[.bool na, .slice A3 n c3] t)).alloc (.cells #[.bool nb, .slice A4 m c4] t)) :=
  ⟨_, _, A3, c3, A4, c4, rfl, rfl, (Pr.new w4 _ rfl _ _ t).alloc _, Pr.new (w4.alloc _) _ (by simp) _ _ t, (L3.box _).box _, (L4.box _).box _, (hB.alloc hB.size _).alloc (hB.alloc hB.size _).size _⟩
theorem fin2 (hB : Below w2.heap.size w2 w4) (L3 : Lm w4 w4.heap.size A3 n c3 xs) (L4 : Lm w4 w4.heap.size A4 m c4 ys) :
    TwinsAt w2 na n xs nb m ys (.pointer (some ⟨w4.heap.size + 1, 0, none⟩)) (.pointer (some ⟨w4.heap.size, 0, none⟩)) ((w4.alloc (.cells #[.bool nb, .slice A4 m c4] t)).alloc (.cells #[.bool na, .slice A3 n c3] t)) :=
  ⟨_, _, A3, c3, A4, c4, rfl, rfl, Pr.new (w4.alloc _) _ (by simp) _ _ t, (Pr.new w4 _ rfl _ _ t).alloc _, (L3.box _).box _, (L4.box _).box _, (hB.alloc hB.size _).alloc (hB.alloc hB.size _).size _⟩
theorem fin3 {g : Nat} (hB : Below w2.heap.size w2 w4) (L3 : Lm w4 w4.heap.size A3 n c3 xs) (L4 : Lm w4 w4.heap.size A4 m c4 ys) (P : Pr w4 g (.bool false) (.slice none 0 0)) (hg : w2.heap.size ≤ g) :
    TwinsAt w2 na n xs nb m ys (.pointer (some ⟨g, 0, none⟩)) (.pointer (some ⟨w4.heap.size, 0, none⟩)) (((w4.setCell ⟨g, 0, none⟩ (.bool na)).setCell ⟨g, 1, none⟩ (.slice A3 n c3)).alloc (.cells #[.bool nb, .slice A4 m c4] t)) :=
  ⟨_, _, A3, c3, A4, c4, rfl, rfl, (P.set _ _).alloc _, Pr.new _ _ (size_set2 _ _ _ _) _ _ t, (L3.setP P _ _).box _, (L4.setP P _ _).box _, (below_set2 hB hg _ _).alloc (below_set2 hB hg _ _).size _⟩
theorem fin4 {g : Nat} (hB : Below w2.heap.size w2 w4) (L3 : Lm w4 w4.heap.size A3 n c3 xs) (L4 : Lm w4 w4.heap.size A4 m c4 ys) (P : Pr w4 g (.bool false) (.slice none 0 0)) (hg : w2.heap.size ≤ g) :
    TwinsAt w2 na n xs nb m ys (.pointer (some ⟨w4.heap.size, 0, none⟩)) (.pointer (some ⟨g, 0, none⟩)) (((w4.setCell ⟨g, 0, none⟩ (.bool nb)).setCell ⟨g, 1, none⟩ (.slice A4 m c4)).alloc (.cells #[.bool na, .slice A3 n c3] t)) :=
  ⟨_, _, A3, c3, A4, c4, rfl, rfl, Pr.new _ _ (size_set2 _ _ _ _) _ _ t, (P.set _ _).alloc _, (L3.setP P _ _).box _, (L4.setP P _ _).box _, (below_set2 hB hg _ _).alloc (below_set2 hB hg _ _).size _⟩
theorem fin5 {g h : Nat} (hB : Below w2.heap.size w2 w4) (L3 : Lm w4 w4.heap.size A3 n c3 xs) (L4 : Lm w4 w4.heap.size A4 m c4 ys) (P : Pr w4 g (.bool false) (.slice none 0 0)) (Q : Pr w4 h (.bool false) (.slice none 0 0)) (hg : w2.heap.size ≤ g) (hh : w2.heap.size ≤ h) (hne : g ≠ h) :
    TwinsAt w2 na n xs nb m ys (.pointer (some ⟨g, 0, none⟩)) (.pointer (some ⟨h, 0, none⟩)) ((((w4.setCell ⟨g, 0, none⟩ (.bool na)).setCell ⟨g, 1, none⟩ (.slice A3 n c3)).setCell ⟨h, 0, none⟩ (.bool nb)).setCell ⟨h, 1, none⟩ (.slice A4 m c4)) :=
  have Q' := Q.far (h := g) (fun e => hne e.symm) (.bool na) (.slice A3 n c3)
  ⟨_, _, A3, c3, A4, c4, rfl, rfl, (P.set _ _).far hne _ _, Q'.set _ _, (L3.setP P _ _).setP Q' _ _, (L4.setP P _ _).setP Q' _ _, below_set2 (below_set2 hB hg _ _) hh _ _⟩
end
theorem b_one {w w' : World} {o : Obj} (h : Below (w.alloc o).heap.size (w.alloc o) w') : Below w.heap.size w w' := bbox h
theorem b_two {w w' : World} {o o' : Obj} (h : Below ((w.alloc o).alloc o').heap.size ((w.alloc o).alloc o') w') : Below w.heap.size w w' := bbox (bbox h)
theorem b_one_d {w w' : World} {o : Obj} (h : Below (w.alloc o).drew.heap.size (w.alloc o).drew w') : Below w.heap.size w w' :=
  ((Below.refl w.heap.size w).alloc (Nat.le_refl _) o).drew.trans (h.mono (((Below.refl w.heap.size w).alloc (Nat.le_refl _) o).drew.size))
theorem b_two_d {w w' : World} {o o' : Obj} (h : Below ((w.alloc o).alloc o').drew.heap.size ((w.alloc o).alloc o').drew w') : Below w.heap.size w w' :=
  have q := (((Below.refl w.heap.size w).alloc (Nat.le_refl _) o).alloc ((Below.refl w.heap.size w).alloc (Nat.le_refl _) o).size o').drew
  q.trans (h.mono q.size)
end Go.Proofs.YtglgfjknhplajaaGreatDoor

/- Package frac: ratio.add, with either combination. -/
namespace Go.Proofs.YtglgfjknhplajaaGreatDoor
open Go.RowKit

theorem below_alloc {a b : World} (h : Below a.heap.size a b) (o : Obj) : Below a.heap.size a (b.alloc o) := h.alloc h.size o
theorem dvr_pos {N D : Int} (hD : 0 < D) : dvr N D = (Nat.gcd N.natAbs D.natAbs : Int) := by unfold dvr; rw [if_neg (by omega)]

end Go.Proofs.YtglgfjknhplajaaGreatDoor

/- The reference of frac: product, added. -/
namespace Go.Proofs.YtglgfjknhplajaaGreatDoor
open Go.RowKit

section
variable (w : World) (A B : Option Addr) (n m ca cb k : Nat) (x y : Int) (hA : Lm w w.heap.size A n ca (digs x.natAbs)) (hB : Lm w w.heap.size B m cb (digs y.natAbs)) (hx : Sz k x) (hy : Sz k y) (hk : k ≤ 2000)
include hA hB hx hy hk
theorem rsub_n {na nb : Bool} (ha : decide (x < 0) = na) (hb : decide (y < 0) = nb) : Calls Tryz.prog 56 #[.agg #[.bool na, .slice A n ca], .agg #[.bool nb, .slice B m cb]] w (RN w (x - y)) := by
  subst ha hb
  have h := rsub_ok w _ _ A B n m ca cb _ _ hA hB (chkB_z hx (by omega) hy (by omega))
  rw [toI_self, toI_self] at h
  exact h.mono fun e w' hr => rz_rn (hx.sub hy) (by omega) hr
end

set_option maxRecDepth 100000 in
set_option maxHeartbeats 4000000 in
theorem rprod_pos (w : World) (A B C D : Option Addr) (n m r s ca cb cc cd k : Nat) (x u P v : Int) (hA : Lm w w.heap.size A n ca (digs x.natAbs)) (hsx : Sz k x) {na : Bool} (hna : decide (x < 0) = na) (hC : Lm w w.heap.size C r cc (digs u.natAbs)) (hsu : Sz k u) {nc : Bool} (hnc : decide (u < 0) = nc) (hB : Lm w w.heap.size B m cb (digs P.natAbs)) (hsP : Sz k P) {nb : Bool} (hnb : decide (P < 0) = nb) (hD : Lm w w.heap.size D s cd (digs v.natAbs)) (hsv : Sz k v) {nd : Bool} (hnd : decide (v < 0) = nd) (hk : k ≤ 300) (hs : 0 < P * v) :
    Calls Tryz.prog 31 #[.agg #[.bool na, .slice A n ca], .agg #[.bool nc, .slice C r cc], .agg #[.bool nb, .slice B m cb], .agg #[.bool nd, .slice D s cd]] w (RFE w (x * u / dvr (x * u) (P * v)) (P * v / dvr (x * u) (P * v))) := by
  have HA := Lib.hid hA
  have Sx := Lib.hid hsx
  have Hna := Lib.hid hna
  have HC := Lib.hid hC
  have Su := Lib.hid hsu
  have Hnc := Lib.hid hnc
  have HB := Lib.hid hB
  have SP := Lib.hid hsP
  have Hnb := Lib.hid hnb
  have HD := Lib.hid hD
  have Sv := Lib.hid hsv
  have Hnd := Lib.hid hnd
  clear hA hsx hna hC hsu hnc hB hsP hnb hD hsv hnd
  have HS := Lib.hid hs
  clear hs
  go_enter Tryz.func31, Tryz.ntmps31
  have PA := Lib.hid (((((Pr.new w (w.heap.size) rfl (.bool na) (.slice A n ca) 29).alloc (.cells #[.bool nc, .slice C r cc] 29)).alloc (.cells #[.bool nb, .slice B m cb] 29)).alloc (.cells #[.bool nd, .slice D s cd] 29)).alloc (.cells #[.bool false, .slice none 0 0, .bool false, .slice none 0 0] 31))
  have PC := Lib.hid ((((Pr.new (w.alloc (.cells #[.bool na, .slice A n ca] 29)) (w.heap.size + 1) (by simp) (.bool nc) (.slice C r cc) 29).alloc (.cells #[.bool nb, .slice B m cb] 29)).alloc (.cells #[.bool nd, .slice D s cd] 29)).alloc (.cells #[.bool false, .slice none 0 0, .bool false, .slice none 0 0] 31))
  have PB := Lib.hid (((Pr.new ((w.alloc (.cells #[.bool na, .slice A n ca] 29)).alloc (.cells #[.bool nc, .slice C r cc] 29)) (w.heap.size + 1 + 1) (by simp) (.bool nb) (.slice B m cb) 29).alloc (.cells #[.bool nd, .slice D s cd] 29)).alloc (.cells #[.bool false, .slice none 0 0, .bool false, .slice none 0 0] 31))
  have PD := Lib.hid ((Pr.new (((w.alloc (.cells #[.bool na, .slice A n ca] 29)).alloc (.cells #[.bool nc, .slice C r cc] 29)).alloc (.cells #[.bool nb, .slice B m cb] 29)) (w.heap.size + 1 + 1 + 1) (by simp) (.bool nd) (.slice D s cd) 29).alloc (.cells #[.bool false, .slice none 0 0, .bool false, .slice none 0 0] 31))
  have QR := Lib.hid (Qd.new ((((w.alloc (.cells #[.bool na, .slice A n ca] 29)).alloc (.cells #[.bool nc, .slice C r cc] 29)).alloc (.cells #[.bool nb, .slice B m cb] 29)).alloc (.cells #[.bool nd, .slice D s cd] 29)) (w.heap.size + 1 + 1 + 1 + 1) (by simp) (.bool false) (.slice none 0 0) (.bool false) (.slice none 0 0) 31)
  have LA := Lib.hid (((((HA.out.box (.cells #[.bool na, .slice A n ca] 29)).box (.cells #[.bool nc, .slice C r cc] 29)).box (.cells #[.bool nb, .slice B m cb] 29)).box (.cells #[.bool nd, .slice D s cd] 29)).box (.cells #[.bool false, .slice none 0 0, .bool false, .slice none 0 0] 31))
  have LC := Lib.hid (((((HC.out.box (.cells #[.bool na, .slice A n ca] 29)).box (.cells #[.bool nc, .slice C r cc] 29)).box (.cells #[.bool nb, .slice B m cb] 29)).box (.cells #[.bool nd, .slice D s cd] 29)).box (.cells #[.bool false, .slice none 0 0, .bool false, .slice none 0 0] 31))
  have LB := Lib.hid (((((HB.out.box (.cells #[.bool na, .slice A n ca] 29)).box (.cells #[.bool nc, .slice C r cc] 29)).box (.cells #[.bool nb, .slice B m cb] 29)).box (.cells #[.bool nd, .slice D s cd] 29)).box (.cells #[.bool false, .slice none 0 0, .bool false, .slice none 0 0] 31))
  have LD := Lib.hid (((((HD.out.box (.cells #[.bool na, .slice A n ca] 29)).box (.cells #[.bool nc, .slice C r cc] 29)).box (.cells #[.bool nb, .slice B m cb] 29)).box (.cells #[.bool nd, .slice D s cd] 29)).box (.cells #[.bool false, .slice none 0 0, .bool false, .slice none 0 0] 31))
  have BW : Hid (Below w.heap.size w (((((w.alloc (.cells #[.bool na, .slice A n ca] 29)).alloc (.cells #[.bool nc, .slice C r cc] 29)).alloc (.cells #[.bool nb, .slice B m cb] 29)).alloc (.cells #[.bool nd, .slice D s cd] 29)).alloc (.cells #[.bool false, .slice none 0 0, .bool false, .slice none 0 0] 31))) := (below_alloc (below_alloc (below_alloc (below_alloc (below_alloc (Below.refl _ _) _) _) _) _) _)
  clear HA HC HB HD
  go_wp2_with fail
  generalize ((((w.alloc (.cells #[.bool na, .slice A n ca] 29)).alloc (.cells #[.bool nc, .slice C r cc] 29)).alloc (.cells #[.bool nb, .slice B m cb] 29)).alloc (.cells #[.bool nd, .slice D s cd] 29)).alloc (.cells #[.bool false, .slice none 0 0, .bool false, .slice none 0 0] 31) = W0 at *
  refine (rmul_n _ A C n r ca cc k x u LA.out LC.out Sx.out Su.out (by omega) Hna.out Hnc.out).mono ?_
  rintro e w1 ⟨A1, n1, c1, rfl, hL1, hb⟩
  clear PA
  clear PC
  clear LA
  clear LC
  replace PB := Lib.hid (PB.out.via hb)
  replace PD := Lib.hid (PD.out.via hb)
  replace QR := Lib.hid (QR.out.via hb)
  replace LB := Lib.hid (LB.out.via hb)
  replace LD := Lib.hid (LD.out.via hb)
  replace BW := Lib.hid (btr BW.out hb)
  have L1 := Lib.hid hL1
  clear hb hL1
  obtain ⟨z1, hz1⟩ : ∃ b, decide (x * u < 0) = b := ⟨_, rfl⟩
  rw [hz1]
  have Hz1 := Lib.hid hz1
  clear hz1
  have ⟨rPB0, rPB1, rPB2, rPB3, rPBl⟩ := PB.out
  have ⟨rPD0, rPD1, rPD2, rPD3, rPDl⟩ := PD.out
  go_wp2_with fail
  clear rPB0 rPB1 rPB2 rPB3 rPBl rPD0 rPD1 rPD2 rPD3 rPDl
  replace PB := Lib.hid (PB.out.alloc (.cells #[.bool z1, .slice A1 n1 c1] 29))
  replace PD := Lib.hid (PD.out.alloc (.cells #[.bool z1, .slice A1 n1 c1] 29))
  replace QR := Lib.hid (QR.out.alloc (.cells #[.bool z1, .slice A1 n1 c1] 29))
  replace LB := Lib.hid (LB.out.box (.cells #[.bool z1, .slice A1 n1 c1] 29))
  replace LD := Lib.hid (LD.out.box (.cells #[.bool z1, .slice A1 n1 c1] 29))
  replace L1 := Lib.hid (L1.out.box (.cells #[.bool z1, .slice A1 n1 c1] 29))
  have M1 := Lib.hid (Pr.new w1 _ rfl (.bool z1) (.slice A1 n1 c1) 29)
  replace BW := Lib.hid (below_alloc BW.out (.cells #[.bool z1, .slice A1 n1 c1] 29))
  generalize w1.alloc (.cells #[.bool z1, .slice A1 n1 c1] 29) = W1 at *
  generalize w1.heap.size = g1 at *
  refine (rmul_n _ B D m s cb cd k P v LB.out LD.out SP.out Sv.out (by omega) Hnb.out Hnd.out).mono ?_
  rintro e w2 ⟨A2, n2, c2, rfl, hL2, hb⟩
  clear PB
  clear PD
  clear LB
  clear LD
  replace QR := Lib.hid (QR.out.via hb)
  replace L1 := Lib.hid (L1.out.via hb)
  replace M1 := Lib.hid (M1.out.via hb)
  replace BW := Lib.hid (btr BW.out hb)
  have L2 := Lib.hid hL2
  clear hb hL2
  obtain ⟨z2, hz2⟩ : ∃ b, decide (P * v < 0) = b := ⟨_, rfl⟩
  rw [hz2]
  have Hz2 := Lib.hid hz2
  clear hz2
  have ⟨rM10, rM11, rM12, rM13, rM1l⟩ := M1.out
  go_wp2_with fail
  clear rM10 rM11 rM12 rM13 rM1l
  replace QR := Lib.hid (QR.out.alloc (.cells #[.bool z2, .slice A2 n2 c2] 29))
  replace L1 := Lib.hid (L1.out.box (.cells #[.bool z2, .slice A2 n2 c2] 29))
  replace M1 := Lib.hid (M1.out.alloc (.cells #[.bool z2, .slice A2 n2 c2] 29))
  replace L2 := Lib.hid (L2.out.box (.cells #[.bool z2, .slice A2 n2 c2] 29))
  have M2 := Lib.hid (Pr.new w2 _ rfl (.bool z2) (.slice A2 n2 c2) 29)
  replace BW := Lib.hid (below_alloc BW.out (.cells #[.bool z2, .slice A2 n2 c2] 29))
  generalize w2.alloc (.cells #[.bool z2, .slice A2 n2 c2] 29) = W2 at *
  generalize w2.heap.size = g2 at *
  refine (rreduced_pos _ A1 A2 n1 n2 c1 c2 (k + k) (x * u) (P * v) L1.out L2.out (Sx.out.mul Su.out) (SP.out.mul Sv.out) (by omega) Hz1.out Hz2.out HS.out).mono ?_
  rintro e w3 ⟨A5, n5, c5, A6, n6, c6, rfl, hL5, hL6, hb⟩
  clear M1
  clear M2
  clear L1
  clear L2
  replace QR := Lib.hid (QR.out.via hb)
  replace BW := Lib.hid (btr BW.out hb)
  have L5 := Lib.hid hL5
  have L6 := Lib.hid hL6
  clear hb hL5 hL6
  obtain ⟨z5, hz5⟩ : ∃ b, decide (x * u / dvr (x * u) (P * v) < 0) = b := ⟨_, rfl⟩
  rw [hz5]
  have Hz5 := Lib.hid hz5
  clear hz5
  obtain ⟨z6, hz6⟩ : ∃ b, decide (P * v / dvr (x * u) (P * v) < 0) = b := ⟨_, rfl⟩
  rw [hz6]
  have Hz6 := Lib.hid hz6
  clear hz6
  have ⟨rQR0, rQR1, rQR2, rQR3, rQR4, rQR5, rQR6, rQR7, rQRl⟩ := QR.out
  go_wp2
  exact post_f Tryz.results31 rfl rfl (QR.out.set (.bool z5) (.slice A5 n5 c5) (.bool z6) (.slice A6 n6 c6)) ⟨A5, n5, c5, A6, n6, c6, by rw [Hz5.out, Hz6.out]; rfl, L5.out.put4 QR.out _ _ _ _, L6.out.put4 QR.out _ _ _ _, below_put4 BW.out (by omega) _ _ _ _⟩

set_option maxRecDepth 100000 in
set_option maxHeartbeats 4000000 in
theorem rprod_neg (w : World) (A B C D : Option Addr) (n m r s ca cb cc cd k : Nat) (x u P v : Int) (hA : Lm w w.heap.size A n ca (digs x.natAbs)) (hsx : Sz k x) {na : Bool} (hna : decide (x < 0) = na) (hC : Lm w w.heap.size C r cc (digs u.natAbs)) (hsu : Sz k u) {nc : Bool} (hnc : decide (u < 0) = nc) (hB : Lm w w.heap.size B m cb (digs P.natAbs)) (hsP : Sz k P) {nb : Bool} (hnb : decide (P < 0) = nb) (hD : Lm w w.heap.size D s cd (digs v.natAbs)) (hsv : Sz k v) {nd : Bool} (hnd : decide (v < 0) = nd) (hk : k ≤ 300) (hs : P * v < 0) :
    Calls Tryz.prog 31 #[.agg #[.bool na, .slice A n ca], .agg #[.bool nc, .slice C r cc], .agg #[.bool nb, .slice B m cb], .agg #[.bool nd, .slice D s cd]] w (RFE w (x * u / dvr (x * u) (P * v)) (P * v / dvr (x * u) (P * v))) := by
  have HA := Lib.hid hA
  have Sx := Lib.hid hsx
  have Hna := Lib.hid hna
  have HC := Lib.hid hC
  have Su := Lib.hid hsu
  have Hnc := Lib.hid hnc
  have HB := Lib.hid hB
  have SP := Lib.hid hsP
  have Hnb := Lib.hid hnb
  have HD := Lib.hid hD
  have Sv := Lib.hid hsv
  have Hnd := Lib.hid hnd
  clear hA hsx hna hC hsu hnc hB hsP hnb hD hsv hnd
  have HS := Lib.hid hs
  clear hs
  go_enter Tryz.func31, Tryz.ntmps31
  have PA := Lib.hid (((((Pr.new w (w.heap.size) rfl (.bool na) (.slice A n ca) 29).alloc (.cells #[.bool nc, .slice C r cc] 29)).alloc (.cells #[.bool nb, .slice B m cb] 29)).alloc (.cells #[.bool nd, .slice D s cd] 29)).alloc (.cells #[.bool false, .slice none 0 0, .bool false, .slice none 0 0] 31))
  have PC := Lib.hid ((((Pr.new (w.alloc (.cells #[.bool na, .slice A n ca] 29)) (w.heap.size + 1) (by simp) (.bool nc) (.slice C r cc) 29).alloc (.cells #[.bool nb, .slice B m cb] 29)).alloc (.cells #[.bool nd, .slice D s cd] 29)).alloc (.cells #[.bool false, .slice none 0 0, .bool false, .slice none 0 0] 31))
  have PB := Lib.hid (((Pr.new ((w.alloc (.cells #[.bool na, .slice A n ca] 29)).alloc (.cells #[.bool nc, .slice C r cc] 29)) (w.heap.size + 1 + 1) (by simp) (.bool nb) (.slice B m cb) 29).alloc (.cells #[.bool nd, .slice D s cd] 29)).alloc (.cells #[.bool false, .slice none 0 0, .bool false, .slice none 0 0] 31))
  have PD := Lib.hid ((Pr.new (((w.alloc (.cells #[.bool na, .slice A n ca] 29)).alloc (.cells #[.bool nc, .slice C r cc] 29)).alloc (.cells #[.bool nb, .slice B m cb] 29)) (w.heap.size + 1 + 1 + 1) (by simp) (.bool nd) (.slice D s cd) 29).alloc (.cells #[.bool false, .slice none 0 0, .bool false, .slice none 0 0] 31))
  have QR := Lib.hid (Qd.new ((((w.alloc (.cells #[.bool na, .slice A n ca] 29)).alloc (.cells #[.bool nc, .slice C r cc] 29)).alloc (.cells #[.bool nb, .slice B m cb] 29)).alloc (.cells #[.bool nd, .slice D s cd] 29)) (w.heap.size + 1 + 1 + 1 + 1) (by simp) (.bool false) (.slice none 0 0) (.bool false) (.slice none 0 0) 31)
  have LA := Lib.hid (((((HA.out.box (.cells #[.bool na, .slice A n ca] 29)).box (.cells #[.bool nc, .slice C r cc] 29)).box (.cells #[.bool nb, .slice B m cb] 29)).box (.cells #[.bool nd, .slice D s cd] 29)).box (.cells #[.bool false, .slice none 0 0, .bool false, .slice none 0 0] 31))
  have LC := Lib.hid (((((HC.out.box (.cells #[.bool na, .slice A n ca] 29)).box (.cells #[.bool nc, .slice C r cc] 29)).box (.cells #[.bool nb, .slice B m cb] 29)).box (.cells #[.bool nd, .slice D s cd] 29)).box (.cells #[.bool false, .slice none 0 0, .bool false, .slice none 0 0] 31))
  have LB := Lib.hid (((((HB.out.box (.cells #[.bool na, .slice A n ca] 29)).box (.cells #[.bool nc, .slice C r cc] 29)).box (.cells #[.bool nb, .slice B m cb] 29)).box (.cells #[.bool nd, .slice D s cd] 29)).box (.cells #[.bool false, .slice none 0 0, .bool false, .slice none 0 0] 31))
  have LD := Lib.hid (((((HD.out.box (.cells #[.bool na, .slice A n ca] 29)).box (.cells #[.bool nc, .slice C r cc] 29)).box (.cells #[.bool nb, .slice B m cb] 29)).box (.cells #[.bool nd, .slice D s cd] 29)).box (.cells #[.bool false, .slice none 0 0, .bool false, .slice none 0 0] 31))
  have BW : Hid (Below w.heap.size w (((((w.alloc (.cells #[.bool na, .slice A n ca] 29)).alloc (.cells #[.bool nc, .slice C r cc] 29)).alloc (.cells #[.bool nb, .slice B m cb] 29)).alloc (.cells #[.bool nd, .slice D s cd] 29)).alloc (.cells #[.bool false, .slice none 0 0, .bool false, .slice none 0 0] 31))) := (below_alloc (below_alloc (below_alloc (below_alloc (below_alloc (Below.refl _ _) _) _) _) _) _)
  clear HA HC HB HD
  go_wp2_with fail
  generalize ((((w.alloc (.cells #[.bool na, .slice A n ca] 29)).alloc (.cells #[.bool nc, .slice C r cc] 29)).alloc (.cells #[.bool nb, .slice B m cb] 29)).alloc (.cells #[.bool nd, .slice D s cd] 29)).alloc (.cells #[.bool false, .slice none 0 0, .bool false, .slice none 0 0] 31) = W0 at *
  refine (rmul_n _ A C n r ca cc k x u LA.out LC.out Sx.out Su.out (by omega) Hna.out Hnc.out).mono ?_
  rintro e w1 ⟨A1, n1, c1, rfl, hL1, hb⟩
  clear PA
  clear PC
  clear LA
  clear LC
  replace PB := Lib.hid (PB.out.via hb)
  replace PD := Lib.hid (PD.out.via hb)
  replace QR := Lib.hid (QR.out.via hb)
  replace LB := Lib.hid (LB.out.via hb)
  replace LD := Lib.hid (LD.out.via hb)
  replace BW := Lib.hid (btr BW.out hb)
  have L1 := Lib.hid hL1
  clear hb hL1
  obtain ⟨z1, hz1⟩ : ∃ b, decide (x * u < 0) = b := ⟨_, rfl⟩
  rw [hz1]
  have Hz1 := Lib.hid hz1
  clear hz1
  have ⟨rPB0, rPB1, rPB2, rPB3, rPBl⟩ := PB.out
  have ⟨rPD0, rPD1, rPD2, rPD3, rPDl⟩ := PD.out
  go_wp2_with fail
  clear rPB0 rPB1 rPB2 rPB3 rPBl rPD0 rPD1 rPD2 rPD3 rPDl
  replace PB := Lib.hid (PB.out.alloc (.cells #[.bool z1, .slice A1 n1 c1] 29))
  replace PD := Lib.hid (PD.out.alloc (.cells #[.bool z1, .slice A1 n1 c1] 29))
  replace QR := Lib.hid (QR.out.alloc (.cells #[.bool z1, .slice A1 n1 c1] 29))
  replace LB := Lib.hid (LB.out.box (.cells #[.bool z1, .slice A1 n1 c1] 29))
  replace LD := Lib.hid (LD.out.box (.cells #[.bool z1, .slice A1 n1 c1] 29))
  replace L1 := Lib.hid (L1.out.box (.cells #[.bool z1, .slice A1 n1 c1] 29))
  have M1 := Lib.hid (Pr.new w1 _ rfl (.bool z1) (.slice A1 n1 c1) 29)
  replace BW := Lib.hid (below_alloc BW.out (.cells #[.bool z1, .slice A1 n1 c1] 29))
  generalize w1.alloc (.cells #[.bool z1, .slice A1 n1 c1] 29) = W1 at *
  generalize w1.heap.size = g1 at *
  refine (rmul_n _ B D m s cb cd k P v LB.out LD.out SP.out Sv.out (by omega) Hnb.out Hnd.out).mono ?_
  rintro e w2 ⟨A2, n2, c2, rfl, hL2, hb⟩
  clear PB
  clear PD
  clear LB
  clear LD
  replace QR := Lib.hid (QR.out.via hb)
  replace L1 := Lib.hid (L1.out.via hb)
  replace M1 := Lib.hid (M1.out.via hb)
  replace BW := Lib.hid (btr BW.out hb)
  have L2 := Lib.hid hL2
  clear hb hL2
  obtain ⟨z2, hz2⟩ : ∃ b, decide (P * v < 0) = b := ⟨_, rfl⟩
  rw [hz2]
  have Hz2 := Lib.hid hz2
  clear hz2
  have ⟨rM10, rM11, rM12, rM13, rM1l⟩ := M1.out
  go_wp2_with fail
  clear rM10 rM11 rM12 rM13 rM1l
  replace QR := Lib.hid (QR.out.alloc (.cells #[.bool z2, .slice A2 n2 c2] 29))
  replace L1 := Lib.hid (L1.out.box (.cells #[.bool z2, .slice A2 n2 c2] 29))
  replace M1 := Lib.hid (M1.out.alloc (.cells #[.bool z2, .slice A2 n2 c2] 29))
  replace L2 := Lib.hid (L2.out.box (.cells #[.bool z2, .slice A2 n2 c2] 29))
  have M2 := Lib.hid (Pr.new w2 _ rfl (.bool z2) (.slice A2 n2 c2) 29)
  replace BW := Lib.hid (below_alloc BW.out (.cells #[.bool z2, .slice A2 n2 c2] 29))
  generalize w2.alloc (.cells #[.bool z2, .slice A2 n2 c2] 29) = W2 at *
  generalize w2.heap.size = g2 at *
  refine (rreduced_neg _ A1 A2 n1 n2 c1 c2 (k + k) (x * u) (P * v) L1.out L2.out (Sx.out.mul Su.out) (SP.out.mul Sv.out) (by omega) Hz1.out Hz2.out HS.out).mono ?_
  rintro e w3 ⟨A5, n5, c5, A6, n6, c6, rfl, hL5, hL6, hb⟩
  clear M1
  clear M2
  clear L1
  clear L2
  replace QR := Lib.hid (QR.out.via hb)
  replace BW := Lib.hid (btr BW.out hb)
  have L5 := Lib.hid hL5
  have L6 := Lib.hid hL6
  clear hb hL5 hL6
  obtain ⟨z5, hz5⟩ : ∃ b, decide (x * u / dvr (x * u) (P * v) < 0) = b := ⟨_, rfl⟩
  rw [hz5]
  have Hz5 := Lib.hid hz5
  clear hz5
  obtain ⟨z6, hz6⟩ : ∃ b, decide (P * v / dvr (x * u) (P * v) < 0) = b := ⟨_, rfl⟩
  rw [hz6]
  have Hz6 := Lib.hid hz6
  clear hz6
  have ⟨rQR0, rQR1, rQR2, rQR3, rQR4, rQR5, rQR6, rQR7, rQRl⟩ := QR.out
  go_wp2
  exact post_f Tryz.results31 rfl rfl (QR.out.set (.bool z5) (.slice A5 n5 c5) (.bool z6) (.slice A6 n6 c6)) ⟨A5, n5, c5, A6, n6, c6, by rw [Hz5.out, Hz6.out]; rfl, L5.out.put4 QR.out _ _ _ _, L6.out.put4 QR.out _ _ _ _, below_put4 BW.out (by omega) _ _ _ _⟩

set_option maxRecDepth 100000 in
set_option maxHeartbeats 4000000 in
theorem radded_add (w : World) (A B C D : Option Addr) (n m r s ca cb cc cd k : Nat) (x u P v : Int) (hA : Lm w w.heap.size A n ca (digs x.natAbs)) (hsx : Sz k x) {na : Bool} (hna : decide (x < 0) = na) (hC : Lm w w.heap.size C r cc (digs u.natAbs)) (hsu : Sz k u) {nc : Bool} (hnc : decide (u < 0) = nc) (hB : Lm w w.heap.size B m cb (digs P.natAbs)) (hsP : Sz k P) {nb : Bool} (hnb : decide (P < 0) = nb) (hD : Lm w w.heap.size D s cd (digs v.natAbs)) (hsv : Sz k v) {nd : Bool} (hnd : decide (v < 0) = nd) (hk : k ≤ 300) (hP0 : 0 < P) (hv0 : 0 < v) :
    Calls Tryz.prog 28 #[fv na A n ca nb B m cb, fv nc C r cc nd D s cd, .bool false] w (RFE w ((x * v + u * P) / dvr (x * v + u * P) (P * v)) (P * v / dvr (x * v + u * P) (P * v))) := by
  have HA := Lib.hid hA
  have Sx := Lib.hid hsx
  have Hna := Lib.hid hna
  have HC := Lib.hid hC
  have Su := Lib.hid hsu
  have Hnc := Lib.hid hnc
  have HB := Lib.hid hB
  have SP := Lib.hid hsP
  have Hnb := Lib.hid hnb
  have HD := Lib.hid hD
  have Sv := Lib.hid hsv
  have Hnd := Lib.hid hnd
  clear hA hsx hna hC hsu hnc hB hsP hnb hD hsv hnd
  have HS : Hid (0 < P * v) := Int.mul_pos hP0 hv0
  clear hP0 hv0
  go_enter Tryz.func28, Tryz.ntmps28
  have QA := Lib.hid (((Qd.new w (w.heap.size) rfl (.bool na) (.slice A n ca) (.bool nb) (.slice B m cb) 31).alloc (.cells #[.bool nc, .slice C r cc, .bool nd, .slice D s cd] 31)).alloc (.cells #[.bool false, .slice none 0 0, .bool false, .slice none 0 0] 31))
  have QB := Lib.hid ((Qd.new (w.alloc (.cells #[.bool na, .slice A n ca, .bool nb, .slice B m cb] 31)) (w.heap.size + 1) (by simp) (.bool nc) (.slice C r cc) (.bool nd) (.slice D s cd) 31).alloc (.cells #[.bool false, .slice none 0 0, .bool false, .slice none 0 0] 31))
  have QR := Lib.hid (Qd.new ((w.alloc (.cells #[.bool na, .slice A n ca, .bool nb, .slice B m cb] 31)).alloc (.cells #[.bool nc, .slice C r cc, .bool nd, .slice D s cd] 31)) (w.heap.size + 1 + 1) (by simp) (.bool false) (.slice none 0 0) (.bool false) (.slice none 0 0) 31)
  have LA := Lib.hid (((HA.out.box (.cells #[.bool na, .slice A n ca, .bool nb, .slice B m cb] 31)).box (.cells #[.bool nc, .slice C r cc, .bool nd, .slice D s cd] 31)).box (.cells #[.bool false, .slice none 0 0, .bool false, .slice none 0 0] 31))
  have LC := Lib.hid (((HC.out.box (.cells #[.bool na, .slice A n ca, .bool nb, .slice B m cb] 31)).box (.cells #[.bool nc, .slice C r cc, .bool nd, .slice D s cd] 31)).box (.cells #[.bool false, .slice none 0 0, .bool false, .slice none 0 0] 31))
  have LB := Lib.hid (((HB.out.box (.cells #[.bool na, .slice A n ca, .bool nb, .slice B m cb] 31)).box (.cells #[.bool nc, .slice C r cc, .bool nd, .slice D s cd] 31)).box (.cells #[.bool false, .slice none 0 0, .bool false, .slice none 0 0] 31))
  have LD := Lib.hid (((HD.out.box (.cells #[.bool na, .slice A n ca, .bool nb, .slice B m cb] 31)).box (.cells #[.bool nc, .slice C r cc, .bool nd, .slice D s cd] 31)).box (.cells #[.bool false, .slice none 0 0, .bool false, .slice none 0 0] 31))
  have BW : Hid (Below w.heap.size w (((w.alloc (.cells #[.bool na, .slice A n ca, .bool nb, .slice B m cb] 31)).alloc (.cells #[.bool nc, .slice C r cc, .bool nd, .slice D s cd] 31)).alloc (.cells #[.bool false, .slice none 0 0, .bool false, .slice none 0 0] 31))) := (below_alloc (below_alloc (below_alloc (Below.refl _ _) _) _) _)
  clear HA HC HB HD
  go_wp2_with fail
  generalize ((w.alloc (.cells #[.bool na, .slice A n ca, .bool nb, .slice B m cb] 31)).alloc (.cells #[.bool nc, .slice C r cc, .bool nd, .slice D s cd] 31)).alloc (.cells #[.bool false, .slice none 0 0, .bool false, .slice none 0 0] 31) = W0 at *
  refine (rmul_n _ A D n s ca cd k x v LA.out LD.out Sx.out Sv.out (by omega) Hna.out Hnd.out).mono ?_
  rintro e w1 ⟨A1, n1, c1, rfl, hL1, hb⟩
  clear LA
  replace QA := Lib.hid (QA.out.via hb)
  replace QB := Lib.hid (QB.out.via hb)
  replace QR := Lib.hid (QR.out.via hb)
  replace LC := Lib.hid (LC.out.via hb)
  replace LB := Lib.hid (LB.out.via hb)
  replace LD := Lib.hid (LD.out.via hb)
  replace BW := Lib.hid (btr BW.out hb)
  have L1 := Lib.hid hL1
  clear hb hL1
  obtain ⟨z1, hz1⟩ : ∃ b, decide (x * v < 0) = b := ⟨_, rfl⟩
  rw [hz1]
  have Hz1 := Lib.hid hz1
  clear hz1
  have ⟨rQA0, rQA1, rQA2, rQA3, rQA4, rQA5, rQA6, rQA7, rQAl⟩ := QA.out
  have ⟨rQB0, rQB1, rQB2, rQB3, rQB4, rQB5, rQB6, rQB7, rQBl⟩ := QB.out
  go_wp2_with fail
  clear rQA0 rQA1 rQA2 rQA3 rQA4 rQA5 rQA6 rQA7 rQAl rQB0 rQB1 rQB2 rQB3 rQB4 rQB5 rQB6 rQB7 rQBl
  replace QA := Lib.hid (QA.out.alloc (.cells #[.bool z1, .slice A1 n1 c1] 29))
  replace QB := Lib.hid (QB.out.alloc (.cells #[.bool z1, .slice A1 n1 c1] 29))
  replace QR := Lib.hid (QR.out.alloc (.cells #[.bool z1, .slice A1 n1 c1] 29))
  replace LC := Lib.hid (LC.out.box (.cells #[.bool z1, .slice A1 n1 c1] 29))
  replace LB := Lib.hid (LB.out.box (.cells #[.bool z1, .slice A1 n1 c1] 29))
  replace LD := Lib.hid (LD.out.box (.cells #[.bool z1, .slice A1 n1 c1] 29))
  replace L1 := Lib.hid (L1.out.box (.cells #[.bool z1, .slice A1 n1 c1] 29))
  have M1 := Lib.hid (Pr.new w1 _ rfl (.bool z1) (.slice A1 n1 c1) 29)
  replace BW := Lib.hid (below_alloc BW.out (.cells #[.bool z1, .slice A1 n1 c1] 29))
  generalize w1.alloc (.cells #[.bool z1, .slice A1 n1 c1] 29) = W1 at *
  generalize w1.heap.size = g1 at *
  refine (rmul_n _ C B r m cc cb k u P LC.out LB.out Su.out SP.out (by omega) Hnc.out Hnb.out).mono ?_
  rintro e w2 ⟨A2, n2, c2, rfl, hL2, hb⟩
  clear LC
  replace QA := Lib.hid (QA.out.via hb)
  replace QB := Lib.hid (QB.out.via hb)
  replace QR := Lib.hid (QR.out.via hb)
  replace LB := Lib.hid (LB.out.via hb)
  replace LD := Lib.hid (LD.out.via hb)
  replace L1 := Lib.hid (L1.out.via hb)
  replace M1 := Lib.hid (M1.out.via hb)
  replace BW := Lib.hid (btr BW.out hb)
  have L2 := Lib.hid hL2
  clear hb hL2
  obtain ⟨z2, hz2⟩ : ∃ b, decide (u * P < 0) = b := ⟨_, rfl⟩
  rw [hz2]
  have Hz2 := Lib.hid hz2
  clear hz2
  have ⟨rQA0, rQA1, rQA2, rQA3, rQA4, rQA5, rQA6, rQA7, rQAl⟩ := QA.out
  have ⟨rQB0, rQB1, rQB2, rQB3, rQB4, rQB5, rQB6, rQB7, rQBl⟩ := QB.out
  go_wp2_with fail
  clear rQA0 rQA1 rQA2 rQA3 rQA4 rQA5 rQA6 rQA7 rQAl rQB0 rQB1 rQB2 rQB3 rQB4 rQB5 rQB6 rQB7 rQBl
  replace QA := Lib.hid (QA.out.alloc (.cells #[.bool z2, .slice A2 n2 c2] 29))
  replace QB := Lib.hid (QB.out.alloc (.cells #[.bool z2, .slice A2 n2 c2] 29))
  replace QR := Lib.hid (QR.out.alloc (.cells #[.bool z2, .slice A2 n2 c2] 29))
  replace LB := Lib.hid (LB.out.box (.cells #[.bool z2, .slice A2 n2 c2] 29))
  replace LD := Lib.hid (LD.out.box (.cells #[.bool z2, .slice A2 n2 c2] 29))
  replace L1 := Lib.hid (L1.out.box (.cells #[.bool z2, .slice A2 n2 c2] 29))
  replace M1 := Lib.hid (M1.out.alloc (.cells #[.bool z2, .slice A2 n2 c2] 29))
  replace L2 := Lib.hid (L2.out.box (.cells #[.bool z2, .slice A2 n2 c2] 29))
  have M2 := Lib.hid (Pr.new w2 _ rfl (.bool z2) (.slice A2 n2 c2) 29)
  replace BW := Lib.hid (below_alloc BW.out (.cells #[.bool z2, .slice A2 n2 c2] 29))
  generalize w2.alloc (.cells #[.bool z2, .slice A2 n2 c2] 29) = W2 at *
  generalize w2.heap.size = g2 at *
  refine (rmul_n _ B D m s cb cd k P v LB.out LD.out SP.out Sv.out (by omega) Hnb.out Hnd.out).mono ?_
  rintro e w3 ⟨A3, n3, c3, rfl, hL3, hb⟩
  clear LB
  clear LD
  clear QA
  clear QB
  replace QR := Lib.hid (QR.out.via hb)
  replace L1 := Lib.hid (L1.out.via hb)
  replace M1 := Lib.hid (M1.out.via hb)
  replace L2 := Lib.hid (L2.out.via hb)
  replace M2 := Lib.hid (M2.out.via hb)
  replace BW := Lib.hid (btr BW.out hb)
  have L3 := Lib.hid hL3
  clear hb hL3
  obtain ⟨z3, hz3⟩ : ∃ b, decide (P * v < 0) = b := ⟨_, rfl⟩
  rw [hz3]
  have Hz3 := Lib.hid hz3
  clear hz3
  have ⟨rM10, rM11, rM12, rM13, rM1l⟩ := M1.out
  have ⟨rM20, rM21, rM22, rM23, rM2l⟩ := M2.out
  go_wp2_with fail
  clear rM10 rM11 rM12 rM13 rM1l rM20 rM21 rM22 rM23 rM2l
  replace QR := Lib.hid (QR.out.alloc (.cells #[.bool z3, .slice A3 n3 c3] 29))
  replace L1 := Lib.hid (L1.out.box (.cells #[.bool z3, .slice A3 n3 c3] 29))
  replace M1 := Lib.hid (M1.out.alloc (.cells #[.bool z3, .slice A3 n3 c3] 29))
  replace L2 := Lib.hid (L2.out.box (.cells #[.bool z3, .slice A3 n3 c3] 29))
  replace M2 := Lib.hid (M2.out.alloc (.cells #[.bool z3, .slice A3 n3 c3] 29))
  replace L3 := Lib.hid (L3.out.box (.cells #[.bool z3, .slice A3 n3 c3] 29))
  have M3 := Lib.hid (Pr.new w3 _ rfl (.bool z3) (.slice A3 n3 c3) 29)
  replace BW := Lib.hid (below_alloc BW.out (.cells #[.bool z3, .slice A3 n3 c3] 29))
  generalize w3.alloc (.cells #[.bool z3, .slice A3 n3 c3] 29) = W3 at *
  generalize w3.heap.size = g3 at *
  refine (radd_n _ A1 A2 n1 n2 c1 c2 (k + k) (x * v) (u * P) L1.out L2.out (Sx.out.mul Sv.out) (Su.out.mul SP.out) (by omega) Hz1.out Hz2.out).mono ?_
  rintro e w4 ⟨A4, n4, c4, rfl, hL4, hb⟩
  clear L1
  clear L2
  clear M1
  clear M2
  replace QR := Lib.hid (QR.out.via hb)
  replace L3 := Lib.hid (L3.out.via hb)
  replace M3 := Lib.hid (M3.out.via hb)
  replace BW := Lib.hid (btr BW.out hb)
  have L4 := Lib.hid hL4
  clear hb hL4
  obtain ⟨z4, hz4⟩ : ∃ b, decide (x * v + u * P < 0) = b := ⟨_, rfl⟩
  rw [hz4]
  have Hz4 := Lib.hid hz4
  clear hz4
  have ⟨rM30, rM31, rM32, rM33, rM3l⟩ := M3.out
  go_wp2_with fail
  clear rM30 rM31 rM32 rM33 rM3l
  replace QR := Lib.hid (QR.out.alloc (.cells #[.bool z4, .slice A4 n4 c4] 29))
  replace L3 := Lib.hid (L3.out.box (.cells #[.bool z4, .slice A4 n4 c4] 29))
  replace M3 := Lib.hid (M3.out.alloc (.cells #[.bool z4, .slice A4 n4 c4] 29))
  replace L4 := Lib.hid (L4.out.box (.cells #[.bool z4, .slice A4 n4 c4] 29))
  have M4 := Lib.hid (Pr.new w4 _ rfl (.bool z4) (.slice A4 n4 c4) 29)
  replace BW := Lib.hid (below_alloc BW.out (.cells #[.bool z4, .slice A4 n4 c4] 29))
  generalize w4.alloc (.cells #[.bool z4, .slice A4 n4 c4] 29) = W4 at *
  generalize w4.heap.size = g4 at *
  refine (rreduced_pos _ A4 A3 n4 n3 c4 c3 (k + k + 1) (x * v + u * P) (P * v) L4.out L3.out ((Sx.out.mul Sv.out).add (Su.out.mul SP.out)) ((SP.out.mul Sv.out).mono (by omega)) (by omega) Hz4.out Hz3.out HS.out).mono ?_
  rintro e w5 ⟨A5, n5, c5, A6, n6, c6, rfl, hL5, hL6, hb⟩
  clear L4
  clear L3
  clear M3
  clear M4
  replace QR := Lib.hid (QR.out.via hb)
  replace BW := Lib.hid (btr BW.out hb)
  have L5 := Lib.hid hL5
  have L6 := Lib.hid hL6
  clear hb hL5 hL6
  obtain ⟨z5, hz5⟩ : ∃ b, decide ((x * v + u * P) / dvr (x * v + u * P) (P * v) < 0) = b := ⟨_, rfl⟩
  rw [hz5]
  have Hz5 := Lib.hid hz5
  clear hz5
  obtain ⟨z6, hz6⟩ : ∃ b, decide (P * v / dvr (x * v + u * P) (P * v) < 0) = b := ⟨_, rfl⟩
  rw [hz6]
  have Hz6 := Lib.hid hz6
  clear hz6
  have ⟨rQR0, rQR1, rQR2, rQR3, rQR4, rQR5, rQR6, rQR7, rQRl⟩ := QR.out
  go_wp2
  exact post_f Tryz.results28 rfl rfl (QR.out.set (.bool z5) (.slice A5 n5 c5) (.bool z6) (.slice A6 n6 c6)) ⟨A5, n5, c5, A6, n6, c6, by rw [Hz5.out, Hz6.out]; rfl, L5.out.put4 QR.out _ _ _ _, L6.out.put4 QR.out _ _ _ _, below_put4 BW.out (by omega) _ _ _ _⟩

set_option maxRecDepth 100000 in
set_option maxHeartbeats 4000000 in
theorem radded_sub (w : World) (A B C D : Option Addr) (n m r s ca cb cc cd k : Nat) (x u P v : Int) (hA : Lm w w.heap.size A n ca (digs x.natAbs)) (hsx : Sz k x) {na : Bool} (hna : decide (x < 0) = na) (hC : Lm w w.heap.size C r cc (digs u.natAbs)) (hsu : Sz k u) {nc : Bool} (hnc : decide (u < 0) = nc) (hB : Lm w w.heap.size B m cb (digs P.natAbs)) (hsP : Sz k P) {nb : Bool} (hnb : decide (P < 0) = nb) (hD : Lm w w.heap.size D s cd (digs v.natAbs)) (hsv : Sz k v) {nd : Bool} (hnd : decide (v < 0) = nd) (hk : k ≤ 300) (hP0 : 0 < P) (hv0 : 0 < v) :
    Calls Tryz.prog 28 #[fv na A n ca nb B m cb, fv nc C r cc nd D s cd, .bool true] w (RFE w ((x * v - u * P) / dvr (x * v - u * P) (P * v)) (P * v / dvr (x * v - u * P) (P * v))) := by
  have HA := Lib.hid hA
  have Sx := Lib.hid hsx
  have Hna := Lib.hid hna
  have HC := Lib.hid hC
  have Su := Lib.hid hsu
  have Hnc := Lib.hid hnc
  have HB := Lib.hid hB
  have SP := Lib.hid hsP
  have Hnb := Lib.hid hnb
  have HD := Lib.hid hD
  have Sv := Lib.hid hsv
  have Hnd := Lib.hid hnd
  clear hA hsx hna hC hsu hnc hB hsP hnb hD hsv hnd
  have HS : Hid (0 < P * v) := Int.mul_pos hP0 hv0
  clear hP0 hv0
  go_enter Tryz.func28, Tryz.ntmps28
  have QA := Lib.hid (((Qd.new w (w.heap.size) rfl (.bool na) (.slice A n ca) (.bool nb) (.slice B m cb) 31).alloc (.cells #[.bool nc, .slice C r cc, .bool nd, .slice D s cd] 31)).alloc (.cells #[.bool false, .slice none 0 0, .bool false, .slice none 0 0] 31))
  have QB := Lib.hid ((Qd.new (w.alloc (.cells #[.bool na, .slice A n ca, .bool nb, .slice B m cb] 31)) (w.heap.size + 1) (by simp) (.bool nc) (.slice C r cc) (.bool nd) (.slice D s cd) 31).alloc (.cells #[.bool false, .slice none 0 0, .bool false, .slice none 0 0] 31))
  have QR := Lib.hid (Qd.new ((w.alloc (.cells #[.bool na, .slice A n ca, .bool nb, .slice B m cb] 31)).alloc (.cells #[.bool nc, .slice C r cc, .bool nd, .slice D s cd] 31)) (w.heap.size + 1 + 1) (by simp) (.bool false) (.slice none 0 0) (.bool false) (.slice none 0 0) 31)
  have LA := Lib.hid (((HA.out.box (.cells #[.bool na, .slice A n ca, .bool nb, .slice B m cb] 31)).box (.cells #[.bool nc, .slice C r cc, .bool nd, .slice D s cd] 31)).box (.cells #[.bool false, .slice none 0 0, .bool false, .slice none 0 0] 31))
  have LC := Lib.hid (((HC.out.box (.cells #[.bool na, .slice A n ca, .bool nb, .slice B m cb] 31)).box (.cells #[.bool nc, .slice C r cc, .bool nd, .slice D s cd] 31)).box (.cells #[.bool false, .slice none 0 0, .bool false, .slice none 0 0] 31))
  have LB := Lib.hid (((HB.out.box (.cells #[.bool na, .slice A n ca, .bool nb, .slice B m cb] 31)).box (.cells #[.bool nc, .slice C r cc, .bool nd, .slice D s cd] 31)).box (.cells #[.bool false, .slice none 0 0, .bool false, .slice none 0 0] 31))
  have LD := Lib.hid (((HD.out.box (.cells #[.bool na, .slice A n ca, .bool nb, .slice B m cb] 31)).box (.cells #[.bool nc, .slice C r cc, .bool nd, .slice D s cd] 31)).box (.cells #[.bool false, .slice none 0 0, .bool false, .slice none 0 0] 31))
  have BW : Hid (Below w.heap.size w (((w.alloc (.cells #[.bool na, .slice A n ca, .bool nb, .slice B m cb] 31)).alloc (.cells #[.bool nc, .slice C r cc, .bool nd, .slice D s cd] 31)).alloc (.cells #[.bool false, .slice none 0 0, .bool false, .slice none 0 0] 31))) := (below_alloc (below_alloc (below_alloc (Below.refl _ _) _) _) _)
  clear HA HC HB HD
  go_wp2_with fail
  generalize ((w.alloc (.cells #[.bool na, .slice A n ca, .bool nb, .slice B m cb] 31)).alloc (.cells #[.bool nc, .slice C r cc, .bool nd, .slice D s cd] 31)).alloc (.cells #[.bool false, .slice none 0 0, .bool false, .slice none 0 0] 31) = W0 at *
  refine (rmul_n _ A D n s ca cd k x v LA.out LD.out Sx.out Sv.out (by omega) Hna.out Hnd.out).mono ?_
  rintro e w1 ⟨A1, n1, c1, rfl, hL1, hb⟩
  clear LA
  replace QA := Lib.hid (QA.out.via hb)
  replace QB := Lib.hid (QB.out.via hb)
  replace QR := Lib.hid (QR.out.via hb)
  replace LC := Lib.hid (LC.out.via hb)
  replace LB := Lib.hid (LB.out.via hb)
  replace LD := Lib.hid (LD.out.via hb)
  replace BW := Lib.hid (btr BW.out hb)
  have L1 := Lib.hid hL1
  clear hb hL1
  obtain ⟨z1, hz1⟩ : ∃ b, decide (x * v < 0) = b := ⟨_, rfl⟩
  rw [hz1]
  have Hz1 := Lib.hid hz1
  clear hz1
  have ⟨rQA0, rQA1, rQA2, rQA3, rQA4, rQA5, rQA6, rQA7, rQAl⟩ := QA.out
  have ⟨rQB0, rQB1, rQB2, rQB3, rQB4, rQB5, rQB6, rQB7, rQBl⟩ := QB.out
  go_wp2_with fail
  clear rQA0 rQA1 rQA2 rQA3 rQA4 rQA5 rQA6 rQA7 rQAl rQB0 rQB1 rQB2 rQB3 rQB4 rQB5 rQB6 rQB7 rQBl
  replace QA := Lib.hid (QA.out.alloc (.cells #[.bool z1, .slice A1 n1 c1] 29))
  replace QB := Lib.hid (QB.out.alloc (.cells #[.bool z1, .slice A1 n1 c1] 29))
  replace QR := Lib.hid (QR.out.alloc (.cells #[.bool z1, .slice A1 n1 c1] 29))
  replace LC := Lib.hid (LC.out.box (.cells #[.bool z1, .slice A1 n1 c1] 29))
  replace LB := Lib.hid (LB.out.box (.cells #[.bool z1, .slice A1 n1 c1] 29))
  replace LD := Lib.hid (LD.out.box (.cells #[.bool z1, .slice A1 n1 c1] 29))
  replace L1 := Lib.hid (L1.out.box (.cells #[.bool z1, .slice A1 n1 c1] 29))
  have M1 := Lib.hid (Pr.new w1 _ rfl (.bool z1) (.slice A1 n1 c1) 29)
  replace BW := Lib.hid (below_alloc BW.out (.cells #[.bool z1, .slice A1 n1 c1] 29))
  generalize w1.alloc (.cells #[.bool z1, .slice A1 n1 c1] 29) = W1 at *
  generalize w1.heap.size = g1 at *
  refine (rmul_n _ C B r m cc cb k u P LC.out LB.out Su.out SP.out (by omega) Hnc.out Hnb.out).mono ?_
  rintro e w2 ⟨A2, n2, c2, rfl, hL2, hb⟩
  clear LC
  replace QA := Lib.hid (QA.out.via hb)
  replace QB := Lib.hid (QB.out.via hb)
  replace QR := Lib.hid (QR.out.via hb)
  replace LB := Lib.hid (LB.out.via hb)
  replace LD := Lib.hid (LD.out.via hb)
  replace L1 := Lib.hid (L1.out.via hb)
  replace M1 := Lib.hid (M1.out.via hb)
  replace BW := Lib.hid (btr BW.out hb)
  have L2 := Lib.hid hL2
  clear hb hL2
  obtain ⟨z2, hz2⟩ : ∃ b, decide (u * P < 0) = b := ⟨_, rfl⟩
  rw [hz2]
  have Hz2 := Lib.hid hz2
  clear hz2
  have ⟨rQA0, rQA1, rQA2, rQA3, rQA4, rQA5, rQA6, rQA7, rQAl⟩ := QA.out
  have ⟨rQB0, rQB1, rQB2, rQB3, rQB4, rQB5, rQB6, rQB7, rQBl⟩ := QB.out
  go_wp2_with fail
  clear rQA0 rQA1 rQA2 rQA3 rQA4 rQA5 rQA6 rQA7 rQAl rQB0 rQB1 rQB2 rQB3 rQB4 rQB5 rQB6 rQB7 rQBl
  replace QA := Lib.hid (QA.out.alloc (.cells #[.bool z2, .slice A2 n2 c2] 29))
  replace QB := Lib.hid (QB.out.alloc (.cells #[.bool z2, .slice A2 n2 c2] 29))
  replace QR := Lib.hid (QR.out.alloc (.cells #[.bool z2, .slice A2 n2 c2] 29))
  replace LB := Lib.hid (LB.out.box (.cells #[.bool z2, .slice A2 n2 c2] 29))
  replace LD := Lib.hid (LD.out.box (.cells #[.bool z2, .slice A2 n2 c2] 29))
  replace L1 := Lib.hid (L1.out.box (.cells #[.bool z2, .slice A2 n2 c2] 29))
  replace M1 := Lib.hid (M1.out.alloc (.cells #[.bool z2, .slice A2 n2 c2] 29))
  replace L2 := Lib.hid (L2.out.box (.cells #[.bool z2, .slice A2 n2 c2] 29))
  have M2 := Lib.hid (Pr.new w2 _ rfl (.bool z2) (.slice A2 n2 c2) 29)
  replace BW := Lib.hid (below_alloc BW.out (.cells #[.bool z2, .slice A2 n2 c2] 29))
  generalize w2.alloc (.cells #[.bool z2, .slice A2 n2 c2] 29) = W2 at *
  generalize w2.heap.size = g2 at *
  refine (rmul_n _ B D m s cb cd k P v LB.out LD.out SP.out Sv.out (by omega) Hnb.out Hnd.out).mono ?_
  rintro e w3 ⟨A3, n3, c3, rfl, hL3, hb⟩
  clear LB
  clear LD
  clear QA
  clear QB
  replace QR := Lib.hid (QR.out.via hb)
  replace L1 := Lib.hid (L1.out.via hb)
  replace M1 := Lib.hid (M1.out.via hb)
  replace L2 := Lib.hid (L2.out.via hb)
  replace M2 := Lib.hid (M2.out.via hb)
  replace BW := Lib.hid (btr BW.out hb)
  have L3 := Lib.hid hL3
  clear hb hL3
  obtain ⟨z3, hz3⟩ : ∃ b, decide (P * v < 0) = b := ⟨_, rfl⟩
  rw [hz3]
  have Hz3 := Lib.hid hz3
  clear hz3
  have ⟨rM10, rM11, rM12, rM13, rM1l⟩ := M1.out
  have ⟨rM20, rM21, rM22, rM23, rM2l⟩ := M2.out
  go_wp2_with fail
  clear rM10 rM11 rM12 rM13 rM1l rM20 rM21 rM22 rM23 rM2l
  replace QR := Lib.hid (QR.out.alloc (.cells #[.bool z3, .slice A3 n3 c3] 29))
  replace L1 := Lib.hid (L1.out.box (.cells #[.bool z3, .slice A3 n3 c3] 29))
  replace M1 := Lib.hid (M1.out.alloc (.cells #[.bool z3, .slice A3 n3 c3] 29))
  replace L2 := Lib.hid (L2.out.box (.cells #[.bool z3, .slice A3 n3 c3] 29))
  replace M2 := Lib.hid (M2.out.alloc (.cells #[.bool z3, .slice A3 n3 c3] 29))
  replace L3 := Lib.hid (L3.out.box (.cells #[.bool z3, .slice A3 n3 c3] 29))
  have M3 := Lib.hid (Pr.new w3 _ rfl (.bool z3) (.slice A3 n3 c3) 29)
  replace BW := Lib.hid (below_alloc BW.out (.cells #[.bool z3, .slice A3 n3 c3] 29))
  generalize w3.alloc (.cells #[.bool z3, .slice A3 n3 c3] 29) = W3 at *
  generalize w3.heap.size = g3 at *
  refine (radd_n _ A1 A2 n1 n2 c1 c2 (k + k) (x * v) (u * P) L1.out L2.out (Sx.out.mul Sv.out) (Su.out.mul SP.out) (by omega) Hz1.out Hz2.out).mono ?_
  rintro e w4 ⟨A4, n4, c4, rfl, hL4, hb⟩
  replace QR := Lib.hid (QR.out.via hb)
  replace L1 := Lib.hid (L1.out.via hb)
  replace M1 := Lib.hid (M1.out.via hb)
  replace L2 := Lib.hid (L2.out.via hb)
  replace M2 := Lib.hid (M2.out.via hb)
  replace L3 := Lib.hid (L3.out.via hb)
  replace M3 := Lib.hid (M3.out.via hb)
  replace BW := Lib.hid (btr BW.out hb)
  have L4 := Lib.hid hL4
  clear hb hL4
  obtain ⟨z4, hz4⟩ : ∃ b, decide (x * v + u * P < 0) = b := ⟨_, rfl⟩
  rw [hz4]
  have Hz4 := Lib.hid hz4
  clear hz4
  have HGQ : Hid (w.heap.size + 1 + 1 < w4.heap.size) := QR.out.lt
  have hg3 : Hid (g3 < w4.heap.size) := M3.out.lt
  have ⟨rM10, rM11, rM12, rM13, rM1l⟩ := M1.out
  have ⟨rM20, rM21, rM22, rM23, rM2l⟩ := M2.out
  go_wp2_with fail
  clear rM10 rM11 rM12 rM13 rM1l rM20 rM21 rM22 rM23 rM2l
  replace QR := Lib.hid (QR.out.alloc (.cells #[.bool z4, .slice A4 n4 c4] 29))
  replace L1 := Lib.hid (L1.out.box (.cells #[.bool z4, .slice A4 n4 c4] 29))
  replace M1 := Lib.hid (M1.out.alloc (.cells #[.bool z4, .slice A4 n4 c4] 29))
  replace L2 := Lib.hid (L2.out.box (.cells #[.bool z4, .slice A4 n4 c4] 29))
  replace M2 := Lib.hid (M2.out.alloc (.cells #[.bool z4, .slice A4 n4 c4] 29))
  replace L3 := Lib.hid (L3.out.box (.cells #[.bool z4, .slice A4 n4 c4] 29))
  replace M3 := Lib.hid (M3.out.alloc (.cells #[.bool z4, .slice A4 n4 c4] 29))
  replace L4 := Lib.hid (L4.out.box (.cells #[.bool z4, .slice A4 n4 c4] 29))
  have M4 := Lib.hid (Pr.new w4 _ rfl (.bool z4) (.slice A4 n4 c4) 29)
  replace BW := Lib.hid (below_alloc BW.out (.cells #[.bool z4, .slice A4 n4 c4] 29))
  generalize w4.alloc (.cells #[.bool z4, .slice A4 n4 c4] 29) = W4 at *
  generalize w4.heap.size = g4 at *
  refine (rsub_n _ A1 A2 n1 n2 c1 c2 (k + k) (x * v) (u * P) L1.out L2.out (Sx.out.mul Sv.out) (Su.out.mul SP.out) (by omega) Hz1.out Hz2.out).mono ?_
  rintro e w5 ⟨A7, n7, c7, rfl, hL7, hb⟩
  clear L1
  clear L2
  clear M1
  clear M2
  clear L4
  replace QR := Lib.hid (QR.out.via hb)
  replace L3 := Lib.hid (L3.out.via hb)
  replace M3 := Lib.hid (M3.out.via hb)
  replace M4 := Lib.hid (M4.out.via hb)
  replace BW := Lib.hid (btr BW.out hb)
  have L7 := Lib.hid hL7
  clear hb hL7
  obtain ⟨z7, hz7⟩ : ∃ b, decide (x * v - u * P < 0) = b := ⟨_, rfl⟩
  rw [hz7]
  have Hz7 := Lib.hid hz7
  clear hz7
  have hgq : Hid (w.heap.size + 1 + 1 < g4) := HGQ.out
  have ⟨rM40, rM41, rM42, rM43, rM4l⟩ := M4.out
  have q3 := M3.out.far (h := g4) (by have := hg3.out; omega) (.bool z7) (.slice A7 n7 c7)
  have ⟨q30, q31, q32, q33, q3l⟩ := q3
  go_wp2_with fail
  clear rM40 rM41 rM42 rM43 rM4l q3 q30 q31 q32 q33 q3l
  replace L3 := Lib.hid (L3.out.setP M4.out (.bool z7) (.slice A7 n7 c7))
  replace L7 := Lib.hid (L7.out.setP M4.out (.bool z7) (.slice A7 n7 c7))
  replace QR := Lib.hid ((QR.out.far1 (h := g4) (by have := hgq.out; omega) 0 (.bool z7)).far1 (h := g4) (by have := hgq.out; omega) 1 (.slice A7 n7 c7))
  replace BW := Lib.hid (below_set2 (g := g4) BW.out (by have := hgq.out; omega) (.bool z7) (.slice A7 n7 c7))
  clear M3 M4
  generalize (w5.setCell ⟨g4, 0, none⟩ (.bool z7)).setCell ⟨g4, 1, none⟩ (.slice A7 n7 c7) = W5 at *
  refine (rreduced_pos _ A7 A3 n7 n3 c7 c3 (k + k + 1) (x * v - u * P) (P * v) L7.out L3.out ((Sx.out.mul Sv.out).sub (Su.out.mul SP.out)) ((SP.out.mul Sv.out).mono (by omega)) (by omega) Hz7.out Hz3.out HS.out).mono ?_
  rintro e w6 ⟨A5, n5, c5, A6, n6, c6, rfl, hL5, hL6, hb⟩
  clear L7
  clear L3
  replace QR := Lib.hid (QR.out.via hb)
  replace BW := Lib.hid (btr BW.out hb)
  have L5 := Lib.hid hL5
  have L6 := Lib.hid hL6
  clear hb hL5 hL6
  obtain ⟨z5, hz5⟩ : ∃ b, decide ((x * v - u * P) / dvr (x * v - u * P) (P * v) < 0) = b := ⟨_, rfl⟩
  rw [hz5]
  have Hz5 := Lib.hid hz5
  clear hz5
  obtain ⟨z6, hz6⟩ : ∃ b, decide (P * v / dvr (x * v - u * P) (P * v) < 0) = b := ⟨_, rfl⟩
  rw [hz6]
  have Hz6 := Lib.hid hz6
  clear hz6
  have ⟨rQR0, rQR1, rQR2, rQR3, rQR4, rQR5, rQR6, rQR7, rQRl⟩ := QR.out
  go_wp2
  exact post_f Tryz.results28 rfl rfl (QR.out.set (.bool z5) (.slice A5 n5 c5) (.bool z6) (.slice A6 n6 c6)) ⟨A5, n5, c5, A6, n6, c6, by rw [Hz5.out, Hz6.out]; rfl, L5.out.put4 QR.out _ _ _ _, L6.out.put4 QR.out _ _ _ _, below_put4 BW.out (by omega) _ _ _ _⟩

end Go.Proofs.YtglgfjknhplajaaGreatDoor

/- Package frac: attempt of an int. -/
namespace Go.Proofs.YtglgfjknhplajaaGreatDoor
open Go.RowKit

/-- A call returns an int and an error. -/
def RIE (w : World) (x err : Int) (e : Ending) (w' : World) : Prop := e = .returned (.tuple #[.int .i64 x, .int .i64 err]) ∧ Below w.heap.size w w'
/-- The world in which attempt[int] calls: with the box of the error. -/
def Wai (w : World) : World := w.alloc (.cells #[.int .i64 0] 34)
theorem wai_below (w : World) : Below w.heap.size w (Wai w) := (Below.refl _ _).alloc (Nat.le_refl _) _
theorem wai_c (w : World) : (Wai w).cell? ⟨w.heap.size, 0, none⟩ = some (.int .i64 0) ∧ (Wai w).frozen? ⟨w.heap.size, 0, none⟩ = false := by unfold Wai; constructor <;> go_simp
theorem wai_size (w : World) : (Wai w).heap.size = w.heap.size + 1 := by unfold Wai; simp
theorem res_ie {fn : Func} {r s : Nat} (hr : fn.results = #[.tmp s, .cell r 34]) {tmps : Array Value} {w : World} {h : Nat} {x y : Value} (ht : tmps.getD s undef = x)
    (hs : tmps.getD r undef = .pointer (some ⟨h, 0, none⟩)) (hy : w.cell? ⟨h, 0, none⟩ = some y) : (results fn tmps).run Tryz.prog w = .ok (.tuple #[x, y]) w := by
  rw [Array.getD_eq_getD_getElem?] at ht hs
  simp [results, hr, go_sem, ht, hs, hy]

end Go.Proofs.YtglgfjknhplajaaGreatDoor

/- The reference of frac: both, Add, Sub, Mul, Div, Neg, Cmp, Twin. -/
namespace Go.Proofs.YtglgfjknhplajaaGreatDoor
open Go.RowKit

set_option maxRecDepth 100000 in
set_option maxHeartbeats 4000000 in
theorem rboth_ok (w : World) (na nb nc nd : Bool) (A B C D : Option Addr) (n m r s ca cb cc cd : Nat) (xs ys us vs : List Nat) (hA : Lm w w.heap.size A n ca xs) (hB : Lm w w.heap.size B m cb ys) (hC : Lm w w.heap.size C r cc us) (hD : Lm w w.heap.size D s cd vs) (h1 : fchk na xs nb ys = 0) (h2 : fchk nc us nd vs = 0) :
    Calls Tryz.prog 42 #[fv na A n ca nb B m cb, fv nc C r cc nd D s cd] w fun e w' => e = .returned (.int .i64 0) ∧ Below w.heap.size w w' := by
  have HA := Lib.hid hA
  have HB := Lib.hid hB
  have HC := Lib.hid hC
  have HD := Lib.hid hD
  clear hA hB hC hD
  have H1 := Lib.hid h1
  clear h1
  have H2 := Lib.hid h2
  clear h2
  go_enter Tryz.func42, Tryz.ntmps42
  have QA := Lib.hid ((Qd.new w (w.heap.size) rfl (.bool na) (.slice A n ca) (.bool nb) (.slice B m cb) 31).alloc (.cells #[.bool nc, .slice C r cc, .bool nd, .slice D s cd] 31))
  have QB := Lib.hid (Qd.new (w.alloc (.cells #[.bool na, .slice A n ca, .bool nb, .slice B m cb] 31)) (w.heap.size + 1) (by simp) (.bool nc) (.slice C r cc) (.bool nd) (.slice D s cd) 31)
  have LA := Lib.hid ((HA.out.box (.cells #[.bool na, .slice A n ca, .bool nb, .slice B m cb] 31)).box (.cells #[.bool nc, .slice C r cc, .bool nd, .slice D s cd] 31))
  have LB := Lib.hid ((HB.out.box (.cells #[.bool na, .slice A n ca, .bool nb, .slice B m cb] 31)).box (.cells #[.bool nc, .slice C r cc, .bool nd, .slice D s cd] 31))
  have LC := Lib.hid ((HC.out.box (.cells #[.bool na, .slice A n ca, .bool nb, .slice B m cb] 31)).box (.cells #[.bool nc, .slice C r cc, .bool nd, .slice D s cd] 31))
  have LD := Lib.hid ((HD.out.box (.cells #[.bool na, .slice A n ca, .bool nb, .slice B m cb] 31)).box (.cells #[.bool nc, .slice C r cc, .bool nd, .slice D s cd] 31))
  have BW : Hid (Below w.heap.size w ((w.alloc (.cells #[.bool na, .slice A n ca, .bool nb, .slice B m cb] 31)).alloc (.cells #[.bool nc, .slice C r cc, .bool nd, .slice D s cd] 31))) := (below_alloc (below_alloc (Below.refl _ _) _) _)
  clear HA HB HC HD
  go_wp2_with fail
  generalize (w.alloc (.cells #[.bool na, .slice A n ca, .bool nb, .slice B m cb] 31)).alloc (.cells #[.bool nc, .slice C r cc, .bool nd, .slice D s cd] 31) = W0 at *
  refine (rfcheck_any _ na nb A B n m ca cb xs ys LA.out LB.out).mono ?_
  rintro e w1 ⟨rfl, hb⟩
  replace QA := Lib.hid (QA.out.via hb)
  replace QB := Lib.hid (QB.out.via hb)
  replace LA := Lib.hid (LA.out.via hb)
  replace LB := Lib.hid (LB.out.via hb)
  replace LC := Lib.hid (LC.out.via hb)
  replace LD := Lib.hid (LD.out.via hb)
  replace BW := Lib.hid (btr BW.out hb)
  clear hb
  rw [H1.out]
  have ⟨rQB0, rQB1, rQB2, rQB3, rQB4, rQB5, rQB6, rQB7, rQBl⟩ := QB.out
  go_wp2_with fail
  clear rQB0 rQB1 rQB2 rQB3 rQB4 rQB5 rQB6 rQB7 rQBl
  refine (rfcheck_any _ nc nd C D r s cc cd us vs LC.out LD.out).mono ?_
  rintro e w2 ⟨rfl, hb⟩
  replace QA := Lib.hid (QA.out.via hb)
  replace QB := Lib.hid (QB.out.via hb)
  replace LA := Lib.hid (LA.out.via hb)
  replace LB := Lib.hid (LB.out.via hb)
  replace LC := Lib.hid (LC.out.via hb)
  replace LD := Lib.hid (LD.out.via hb)
  replace BW := Lib.hid (btr BW.out hb)
  clear hb
  rw [H2.out]
  go_wp2
  go_ret
  exact ⟨rfl, BW.out⟩

set_option maxRecDepth 100000 in
set_option maxHeartbeats 4000000 in
theorem rboth_a (w : World) (na nb nc nd : Bool) (A B C D : Option Addr) (n m r s ca cb cc cd : Nat) (xs ys us vs : List Nat) (hA : Lm w w.heap.size A n ca xs) (hB : Lm w w.heap.size B m cb ys) (hC : Lm w w.heap.size C r cc us) (hD : Lm w w.heap.size D s cd vs) (h1 : fchk na xs nb ys = 8) :
    Calls Tryz.prog 42 #[fv na A n ca nb B m cb, fv nc C r cc nd D s cd] w fun e w' => e = .returned (.int .i64 8) ∧ Below w.heap.size w w' := by
  have HA := Lib.hid hA
  have HB := Lib.hid hB
  have HC := Lib.hid hC
  have HD := Lib.hid hD
  clear hA hB hC hD
  have H1 := Lib.hid h1
  clear h1
  go_enter Tryz.func42, Tryz.ntmps42
  have QA := Lib.hid ((Qd.new w (w.heap.size) rfl (.bool na) (.slice A n ca) (.bool nb) (.slice B m cb) 31).alloc (.cells #[.bool nc, .slice C r cc, .bool nd, .slice D s cd] 31))
  have QB := Lib.hid (Qd.new (w.alloc (.cells #[.bool na, .slice A n ca, .bool nb, .slice B m cb] 31)) (w.heap.size + 1) (by simp) (.bool nc) (.slice C r cc) (.bool nd) (.slice D s cd) 31)
  have LA := Lib.hid ((HA.out.box (.cells #[.bool na, .slice A n ca, .bool nb, .slice B m cb] 31)).box (.cells #[.bool nc, .slice C r cc, .bool nd, .slice D s cd] 31))
  have LB := Lib.hid ((HB.out.box (.cells #[.bool na, .slice A n ca, .bool nb, .slice B m cb] 31)).box (.cells #[.bool nc, .slice C r cc, .bool nd, .slice D s cd] 31))
  have LC := Lib.hid ((HC.out.box (.cells #[.bool na, .slice A n ca, .bool nb, .slice B m cb] 31)).box (.cells #[.bool nc, .slice C r cc, .bool nd, .slice D s cd] 31))
  have LD := Lib.hid ((HD.out.box (.cells #[.bool na, .slice A n ca, .bool nb, .slice B m cb] 31)).box (.cells #[.bool nc, .slice C r cc, .bool nd, .slice D s cd] 31))
  have BW : Hid (Below w.heap.size w ((w.alloc (.cells #[.bool na, .slice A n ca, .bool nb, .slice B m cb] 31)).alloc (.cells #[.bool nc, .slice C r cc, .bool nd, .slice D s cd] 31))) := (below_alloc (below_alloc (Below.refl _ _) _) _)
  clear HA HB HC HD
  go_wp2_with fail
  generalize (w.alloc (.cells #[.bool na, .slice A n ca, .bool nb, .slice B m cb] 31)).alloc (.cells #[.bool nc, .slice C r cc, .bool nd, .slice D s cd] 31) = W0 at *
  refine (rfcheck_any _ na nb A B n m ca cb xs ys LA.out LB.out).mono ?_
  rintro e w1 ⟨rfl, hb⟩
  replace QA := Lib.hid (QA.out.via hb)
  replace QB := Lib.hid (QB.out.via hb)
  replace LA := Lib.hid (LA.out.via hb)
  replace LB := Lib.hid (LB.out.via hb)
  replace LC := Lib.hid (LC.out.via hb)
  replace LD := Lib.hid (LD.out.via hb)
  replace BW := Lib.hid (btr BW.out hb)
  clear hb
  rw [H1.out]
  have ⟨rQA0, rQA1, rQA2, rQA3, rQA4, rQA5, rQA6, rQA7, rQAl⟩ := QA.out
  go_wp2_with fail
  clear rQA0 rQA1 rQA2 rQA3 rQA4 rQA5 rQA6 rQA7 rQAl
  refine (rfcheck_any _ na nb A B n m ca cb xs ys LA.out LB.out).mono ?_
  rintro e w2 ⟨rfl, hb⟩
  replace QA := Lib.hid (QA.out.via hb)
  replace QB := Lib.hid (QB.out.via hb)
  replace LA := Lib.hid (LA.out.via hb)
  replace LB := Lib.hid (LB.out.via hb)
  replace LC := Lib.hid (LC.out.via hb)
  replace LD := Lib.hid (LD.out.via hb)
  replace BW := Lib.hid (btr BW.out hb)
  clear hb
  rw [H1.out]
  go_wp2
  go_ret
  exact ⟨rfl, BW.out⟩

set_option maxRecDepth 100000 in
set_option maxHeartbeats 4000000 in
theorem rboth_b (w : World) (na nb nc nd : Bool) (A B C D : Option Addr) (n m r s ca cb cc cd : Nat) (xs ys us vs : List Nat) (hA : Lm w w.heap.size A n ca xs) (hB : Lm w w.heap.size B m cb ys) (hC : Lm w w.heap.size C r cc us) (hD : Lm w w.heap.size D s cd vs) (h1 : fchk na xs nb ys = 0) (h2 : fchk nc us nd vs = 8) :
    Calls Tryz.prog 42 #[fv na A n ca nb B m cb, fv nc C r cc nd D s cd] w fun e w' => e = .returned (.int .i64 8) ∧ Below w.heap.size w w' := by
  have HA := Lib.hid hA
  have HB := Lib.hid hB
  have HC := Lib.hid hC
  have HD := Lib.hid hD
  clear hA hB hC hD
  have H1 := Lib.hid h1
  clear h1
  have H2 := Lib.hid h2
  clear h2
  go_enter Tryz.func42, Tryz.ntmps42
  have QA := Lib.hid ((Qd.new w (w.heap.size) rfl (.bool na) (.slice A n ca) (.bool nb) (.slice B m cb) 31).alloc (.cells #[.bool nc, .slice C r cc, .bool nd, .slice D s cd] 31))
  have QB := Lib.hid (Qd.new (w.alloc (.cells #[.bool na, .slice A n ca, .bool nb, .slice B m cb] 31)) (w.heap.size + 1) (by simp) (.bool nc) (.slice C r cc) (.bool nd) (.slice D s cd) 31)
  have LA := Lib.hid ((HA.out.box (.cells #[.bool na, .slice A n ca, .bool nb, .slice B m cb] 31)).box (.cells #[.bool nc, .slice C r cc, .bool nd, .slice D s cd] 31))
  have LB := Lib.hid ((HB.out.box (.cells #[.bool na, .slice A n ca, .bool nb, .slice B m cb] 31)).box (.cells #[.bool nc, .slice C r cc, .bool nd, .slice D s cd] 31))
  have LC := Lib.hid ((HC.out.box (.cells #[.bool na, .slice A n ca, .bool nb, .slice B m cb] 31)).box (.cells #[.bool nc, .slice C r cc, .bool nd, .slice D s cd] 31))
  have LD := Lib.hid ((HD.out.box (.cells #[.bool na, .slice A n ca, .bool nb, .slice B m cb] 31)).box (.cells #[.bool nc, .slice C r cc, .bool nd, .slice D s cd] 31))
  have BW : Hid (Below w.heap.size w ((w.alloc (.cells #[.bool na, .slice A n ca, .bool nb, .slice B m cb] 31)).alloc (.cells #[.bool nc, .slice C r cc, .bool nd, .slice D s cd] 31))) := (below_alloc (below_alloc (Below.refl _ _) _) _)
  clear HA HB HC HD
  go_wp2_with fail
  generalize (w.alloc (.cells #[.bool na, .slice A n ca, .bool nb, .slice B m cb] 31)).alloc (.cells #[.bool nc, .slice C r cc, .bool nd, .slice D s cd] 31) = W0 at *
  refine (rfcheck_any _ na nb A B n m ca cb xs ys LA.out LB.out).mono ?_
  rintro e w1 ⟨rfl, hb⟩
  replace QA := Lib.hid (QA.out.via hb)
  replace QB := Lib.hid (QB.out.via hb)
  replace LA := Lib.hid (LA.out.via hb)
  replace LB := Lib.hid (LB.out.via hb)
  replace LC := Lib.hid (LC.out.via hb)
  replace LD := Lib.hid (LD.out.via hb)
  replace BW := Lib.hid (btr BW.out hb)
  clear hb
  rw [H1.out]
  have ⟨rQB0, rQB1, rQB2, rQB3, rQB4, rQB5, rQB6, rQB7, rQBl⟩ := QB.out
  go_wp2_with fail
  clear rQB0 rQB1 rQB2 rQB3 rQB4 rQB5 rQB6 rQB7 rQBl
  refine (rfcheck_any _ nc nd C D r s cc cd us vs LC.out LD.out).mono ?_
  rintro e w2 ⟨rfl, hb⟩
  replace QA := Lib.hid (QA.out.via hb)
  replace QB := Lib.hid (QB.out.via hb)
  replace LA := Lib.hid (LA.out.via hb)
  replace LB := Lib.hid (LB.out.via hb)
  replace LC := Lib.hid (LC.out.via hb)
  replace LD := Lib.hid (LD.out.via hb)
  replace BW := Lib.hid (btr BW.out hb)
  clear hb
  rw [H2.out]
  go_wp2
  go_ret
  exact ⟨rfl, BW.out⟩

theorem rboth_bad (w : World) (na nb nc nd : Bool) (A B C D : Option Addr) (n m r s ca cb cc cd : Nat) (xs ys us vs : List Nat) (hA : Lm w w.heap.size A n ca xs) (hB : Lm w w.heap.size B m cb ys) (hC : Lm w w.heap.size C r cc us) (hD : Lm w w.heap.size D s cd vs) (h : fchk na xs nb ys = 8 ∨ fchk nc us nd vs = 8) :
    Calls Tryz.prog 42 #[fv na A n ca nb B m cb, fv nc C r cc nd D s cd] w fun e w' => e = .returned (.int .i64 8) ∧ Below w.heap.size w w' := by
  have h0 : fchk na xs nb ys = 0 ∨ fchk na xs nb ys = 8 := by
    unfold fchk
    split
    · exact .inl rfl
    · exact .inr rfl
  rcases h0 with h1 | h1
  · exact rboth_b w na nb nc nd A B C D n m r s ca cb cc cd xs ys us vs hA hB hC hD h1 (by rcases h with h | h <;> omega)
  · exact rboth_a w na nb nc nd A B C D n m r s ca cb cc cd xs ys us vs hA hB hC hD h1

set_option maxRecDepth 100000 in
set_option maxHeartbeats 4000000 in
theorem rcmp_bad2 (w : World) (na nb nc nd : Bool) (A B C D : Option Addr) (n m r s ca cb cc cd : Nat) (xs ys us vs : List Nat) (hA : Lm w w.heap.size A n ca xs) (hB : Lm w w.heap.size B m cb ys) (hC : Lm w w.heap.size C r cc us) (hD : Lm w w.heap.size D s cd vs) (h1 : fchk na xs nb ys = 8 ∨ fchk nc us nd vs = 8) :
    Calls Tryz.prog 19 #[fv na A n ca nb B m cb, fv nc C r cc nd D s cd] w (RIE w 0 8) := by
  have HA := Lib.hid hA
  have HB := Lib.hid hB
  have HC := Lib.hid hC
  have HD := Lib.hid hD
  clear hA hB hC hD
  have H1 := Lib.hid h1
  clear h1
  go_enter Tryz.func19, Tryz.ntmps19
  have QA := Lib.hid ((Qd.new w (w.heap.size) rfl (.bool na) (.slice A n ca) (.bool nb) (.slice B m cb) 31).alloc (.cells #[.bool nc, .slice C r cc, .bool nd, .slice D s cd] 31))
  have QB := Lib.hid (Qd.new (w.alloc (.cells #[.bool na, .slice A n ca, .bool nb, .slice B m cb] 31)) (w.heap.size + 1) (by simp) (.bool nc) (.slice C r cc) (.bool nd) (.slice D s cd) 31)
  have LA := Lib.hid ((HA.out.box (.cells #[.bool na, .slice A n ca, .bool nb, .slice B m cb] 31)).box (.cells #[.bool nc, .slice C r cc, .bool nd, .slice D s cd] 31))
  have LB := Lib.hid ((HB.out.box (.cells #[.bool na, .slice A n ca, .bool nb, .slice B m cb] 31)).box (.cells #[.bool nc, .slice C r cc, .bool nd, .slice D s cd] 31))
  have LC := Lib.hid ((HC.out.box (.cells #[.bool na, .slice A n ca, .bool nb, .slice B m cb] 31)).box (.cells #[.bool nc, .slice C r cc, .bool nd, .slice D s cd] 31))
  have LD := Lib.hid ((HD.out.box (.cells #[.bool na, .slice A n ca, .bool nb, .slice B m cb] 31)).box (.cells #[.bool nc, .slice C r cc, .bool nd, .slice D s cd] 31))
  have BW : Hid (Below w.heap.size w ((w.alloc (.cells #[.bool na, .slice A n ca, .bool nb, .slice B m cb] 31)).alloc (.cells #[.bool nc, .slice C r cc, .bool nd, .slice D s cd] 31))) := (below_alloc (below_alloc (Below.refl _ _) _) _)
  clear HA HB HC HD
  go_wp2_with fail
  generalize (w.alloc (.cells #[.bool na, .slice A n ca, .bool nb, .slice B m cb] 31)).alloc (.cells #[.bool nc, .slice C r cc, .bool nd, .slice D s cd] 31) = W0 at *
  refine (rboth_bad _ na nb nc nd A B C D n m r s ca cb cc cd xs ys us vs LA.out LB.out LC.out LD.out H1.out).mono ?_
  rintro e w1 ⟨rfl, hb⟩
  replace QA := Lib.hid (QA.out.via hb)
  replace QB := Lib.hid (QB.out.via hb)
  replace LA := Lib.hid (LA.out.via hb)
  replace LB := Lib.hid (LB.out.via hb)
  replace LC := Lib.hid (LC.out.via hb)
  replace LD := Lib.hid (LD.out.via hb)
  replace BW := Lib.hid (btr BW.out hb)
  clear hb
  have ⟨rQA0, rQA1, rQA2, rQA3, rQA4, rQA5, rQA6, rQA7, rQAl⟩ := QA.out
  have ⟨rQB0, rQB1, rQB2, rQB3, rQB4, rQB5, rQB6, rQB7, rQBl⟩ := QB.out
  go_wp2_with fail
  clear rQA0 rQA1 rQA2 rQA3 rQA4 rQA5 rQA6 rQA7 rQAl rQB0 rQB1 rQB2 rQB3 rQB4 rQB5 rQB6 rQB7 rQBl
  refine (rboth_bad _ na nb nc nd A B C D n m r s ca cb cc cd xs ys us vs LA.out LB.out LC.out LD.out H1.out).mono ?_
  rintro e w2 ⟨rfl, hb⟩
  replace QA := Lib.hid (QA.out.via hb)
  replace QB := Lib.hid (QB.out.via hb)
  replace LA := Lib.hid (LA.out.via hb)
  replace LB := Lib.hid (LB.out.via hb)
  replace LC := Lib.hid (LC.out.via hb)
  replace LD := Lib.hid (LD.out.via hb)
  replace BW := Lib.hid (btr BW.out hb)
  clear hb
  go_wp2
  go_ret2
  exact ⟨rfl, BW.out⟩

end Go.Proofs.YtglgfjknhplajaaGreatDoor

/- The reference Twin: a copy of a number. -/
namespace Go.Proofs.YtglgfjknhplajaaGreatDoor
open Go.RowKit

/-- 'append(out, xs...)' where out is the call's own, and xs reads as limbs, inside a region that draws. -/
theorem step_append_lm {P : Program} {ops : Array Oper} {o : Oper} {a : Act} {w : World} {K : Act → World → Prop} {Q : Exit → Act → World → Prop} {E : Prop}
    (hg : o.guard = none) (s x : Operand) (t : TypeId) (hop : o.op = Op.call { callee := Callee.builtin Builtin.append, args := #[s, x], argTypes := #[t, t] })
    (base : Nat) (e : TypeId) (i : TypeInfo) (ht : P.underlying t = some (.slice e)) (hi : P.info? e = some i) (hz : i.zero = some (.int .u32 0)) (hsize : i.size = 1) (hby : i.bytes = 4)
    (v : Value) (n : Nat) (ts : List Value) (hs : a.eval s = v) (hown : w.ownsRow base e 1 v n ts)
    (B : Nat) (A : Option Addr) (m c : Nat) (xs : List Nat) (hx : a.eval x = .slice A m c) (hr : Lm w B A m c xs)
    (h63 : n + m ≤ maxLen) (hbytes : (n + m) * 4 ≤ 140737488355328) (hbase : base ≤ w.heap.size)
    (hK : ∀ v' w', w'.ownsRow base e 1 v' (n + m) (ts ++ xs.map u32c) → w.grownBy w' v.ownBlock → K (a.put o.dst v') w') :
    if Region.wanted o (yielded ops a.tmps) = true then Oper.wp P o a w K Q else E := by
  have hw : Region.wanted o (yielded ops a.tmps) = true := by simp [Region.wanted, hg]
  rw [if_pos hw]
  rcases A with _ | ad
  · have hm : m = 0 := by
      rcases Nat.eq_zero_or_pos m with h0 | h0
      · exact h0
      · obtain ⟨b, off, e, _⟩ := hr.at_ h0
        cases e
    subst hm
    obtain rfl := hr.nil_ rfl
    obtain rfl : xs = [] := List.eq_nil_of_length_eq_zero hr.len
    have hrun := run_append_owned_none (P := P) (w := w) base t o.type e i 1 ht hi v n ts hown
    unfold Oper.wp
    simp [execOp, hop, resolve, invoke, builtin, hs, hx, hrun, Result.andThen]
    exact hK v w (by simpa using hown) (World.grownBy.refl w _)
  · obtain ⟨v', w', hrun, r1, r2, _⟩ := run_append_own (P := P) w base t o.type e i (.int .u32 0) 1 4 ht hi hz hsize hby rfl (by decide) v n ts hown ad m c (xs.map u32c) (by simp [hr.len]) hr.cells (u32c_one xs) h63 hbytes hbase
    unfold Oper.wp
    simp [execOp, hop, resolve, invoke, builtin, hs, hx, hrun, Result.andThen]
    exact hK v' w' r1 r2

theorem own_empty (w : World) (k : Nat) (hk : w.heap.size = k) : ((w.alloc (.cells #[] 76)).drew).ownsRow k 76 1 (.slice (some ⟨k, 0, none⟩) 0 0) 0 [] := by
  subst hk
  have h : (w.alloc (.cells #[] 76)).ownsRow w.heap.size 76 1 (.slice (some ⟨w.heap.size, 0, none⟩) 0 0) 0 [] := World.ownsRow_made w #[] _ (Nat.le_refl _) (by simp [maxLen]) rfl
  exact h

end Go.Proofs.YtglgfjknhplajaaGreatDoor

/- The reference of frac: Cmp of valid fractions, Twin. -/
namespace Go.Proofs.YtglgfjknhplajaaGreatDoor
open Go.RowKit

set_option maxRecDepth 100000 in
set_option maxHeartbeats 4000000 in
theorem rcmp_g (w : World) (na nc : Bool) (A B C D : Option Addr) (n m r s ca cb cc cd k : Nat) (x P u v : Int) (hA : Lm w w.heap.size A n ca (digs x.natAbs)) (hsx : Sz k x) (hB : Lm w w.heap.size B m cb (digs P.natAbs)) (hsP : Sz k P) (hC : Lm w w.heap.size C r cc (digs u.natAbs)) (hsu : Sz k u) (hD : Lm w w.heap.size D s cd (digs v.natAbs)) (hsv : Sz k v) (hk : k ≤ 300) (ha : decide (x < 0) = na) (hc : decide (u < 0) = nc) (hP0 : 0 < P) (hv0 : 0 < v) (h1 : fchk na (digs x.natAbs) false (digs P.natAbs) = 0) (h2 : fchk nc (digs u.natAbs) false (digs v.natAbs) = 0) :
    Calls Tryz.prog 19 #[fv na A n ca false B m cb, fv nc C r cc false D s cd] w (RIE w (cmpZ (x * v) (u * P)) 0) := by
  have HA := Lib.hid hA
  have HB := Lib.hid hB
  have HC := Lib.hid hC
  have HD := Lib.hid hD
  clear hA hB hC hD
  have Sx := Lib.hid hsx
  have SP := Lib.hid hsP
  have Su := Lib.hid hsu
  have Sv := Lib.hid hsv
  have Hna := Lib.hid ha
  have Hnc := Lib.hid hc
  have HP : Hid (decide (P < 0) = false) := decide_eq_false (by omega)
  have Hv : Hid (decide (v < 0) = false) := decide_eq_false (by omega)
  have H1 := Lib.hid h1
  have H2 := Lib.hid h2
  clear h1 h2 ha hc hP0 hv0 hsx hsP hsu hsv
  go_enter Tryz.func19, Tryz.ntmps19
  have QA := Lib.hid ((Qd.new w (w.heap.size) rfl (.bool na) (.slice A n ca) (.bool false) (.slice B m cb) 31).alloc (.cells #[.bool nc, .slice C r cc, .bool false, .slice D s cd] 31))
  have QB := Lib.hid (Qd.new (w.alloc (.cells #[.bool na, .slice A n ca, .bool false, .slice B m cb] 31)) (w.heap.size + 1) (by simp) (.bool nc) (.slice C r cc) (.bool false) (.slice D s cd) 31)
  have LA := Lib.hid ((HA.out.box (.cells #[.bool na, .slice A n ca, .bool false, .slice B m cb] 31)).box (.cells #[.bool nc, .slice C r cc, .bool false, .slice D s cd] 31))
  have LB := Lib.hid ((HB.out.box (.cells #[.bool na, .slice A n ca, .bool false, .slice B m cb] 31)).box (.cells #[.bool nc, .slice C r cc, .bool false, .slice D s cd] 31))
  have LC := Lib.hid ((HC.out.box (.cells #[.bool na, .slice A n ca, .bool false, .slice B m cb] 31)).box (.cells #[.bool nc, .slice C r cc, .bool false, .slice D s cd] 31))
  have LD := Lib.hid ((HD.out.box (.cells #[.bool na, .slice A n ca, .bool false, .slice B m cb] 31)).box (.cells #[.bool nc, .slice C r cc, .bool false, .slice D s cd] 31))
  have BW : Hid (Below w.heap.size w ((w.alloc (.cells #[.bool na, .slice A n ca, .bool false, .slice B m cb] 31)).alloc (.cells #[.bool nc, .slice C r cc, .bool false, .slice D s cd] 31))) := (below_alloc (below_alloc (Below.refl _ _) _) _)
  clear HA HB HC HD
  go_wp2_with fail
  generalize (w.alloc (.cells #[.bool na, .slice A n ca, .bool false, .slice B m cb] 31)).alloc (.cells #[.bool nc, .slice C r cc, .bool false, .slice D s cd] 31) = W0 at *
  refine (rboth_ok _ na false nc false A B C D n m r s ca cb cc cd (digs x.natAbs) (digs P.natAbs) (digs u.natAbs) (digs v.natAbs) LA.out LB.out LC.out LD.out H1.out H2.out).mono ?_
  rintro e w1 ⟨rfl, hb⟩
  replace QA := Lib.hid (QA.out.via hb)
  replace QB := Lib.hid (QB.out.via hb)
  replace LA := Lib.hid (LA.out.via hb)
  replace LB := Lib.hid (LB.out.via hb)
  replace LC := Lib.hid (LC.out.via hb)
  replace LD := Lib.hid (LD.out.via hb)
  replace BW := Lib.hid (btr BW.out hb)
  clear hb
  have ⟨rQA0, rQA1, rQA2, rQA3, rQA4, rQA5, rQA6, rQA7, rQAl⟩ := QA.out
  have ⟨rQB0, rQB1, rQB2, rQB3, rQB4, rQB5, rQB6, rQB7, rQBl⟩ := QB.out
  go_wp2_with fail
  clear rQA0 rQA1 rQA2 rQA3 rQA4 rQA5 rQA6 rQA7 rQAl rQB0 rQB1 rQB2 rQB3 rQB4 rQB5 rQB6 rQB7 rQBl
  refine (rmul_n _ A D n s ca cd k x v LA.out LD.out Sx.out Sv.out (by omega) Hna.out Hv.out).mono ?_
  rintro e w2 ⟨A1, n1, c1, rfl, hL1, hb⟩
  clear LA
  clear LD
  replace QA := Lib.hid (QA.out.via hb)
  replace QB := Lib.hid (QB.out.via hb)
  replace LB := Lib.hid (LB.out.via hb)
  replace LC := Lib.hid (LC.out.via hb)
  replace BW := Lib.hid (btr BW.out hb)
  have L1 := Lib.hid hL1
  clear hb hL1
  obtain ⟨z1, hz1⟩ : ∃ b, decide (x * v < 0) = b := ⟨_, rfl⟩
  rw [hz1]
  have Hz1 := Lib.hid hz1
  clear hz1
  have ⟨rQA0, rQA1, rQA2, rQA3, rQA4, rQA5, rQA6, rQA7, rQAl⟩ := QA.out
  have ⟨rQB0, rQB1, rQB2, rQB3, rQB4, rQB5, rQB6, rQB7, rQBl⟩ := QB.out
  go_wp2_with fail
  clear rQA0 rQA1 rQA2 rQA3 rQA4 rQA5 rQA6 rQA7 rQAl rQB0 rQB1 rQB2 rQB3 rQB4 rQB5 rQB6 rQB7 rQBl
  replace QA := Lib.hid (QA.out.alloc (.cells #[.bool z1, .slice A1 n1 c1] 29))
  replace QB := Lib.hid (QB.out.alloc (.cells #[.bool z1, .slice A1 n1 c1] 29))
  replace LB := Lib.hid (LB.out.box (.cells #[.bool z1, .slice A1 n1 c1] 29))
  replace LC := Lib.hid (LC.out.box (.cells #[.bool z1, .slice A1 n1 c1] 29))
  replace L1 := Lib.hid (L1.out.box (.cells #[.bool z1, .slice A1 n1 c1] 29))
  have M1 := Lib.hid (Pr.new w2 _ rfl (.bool z1) (.slice A1 n1 c1) 29)
  replace BW := Lib.hid (below_alloc BW.out (.cells #[.bool z1, .slice A1 n1 c1] 29))
  generalize w2.alloc (.cells #[.bool z1, .slice A1 n1 c1] 29) = W2 at *
  generalize w2.heap.size = g2 at *
  refine (rmul_n _ C B r m cc cb k u P LC.out LB.out Su.out SP.out (by omega) Hnc.out HP.out).mono ?_
  rintro e w3 ⟨A2, n2, c2, rfl, hL2, hb⟩
  clear LC
  clear LB
  replace QA := Lib.hid (QA.out.via hb)
  replace QB := Lib.hid (QB.out.via hb)
  replace L1 := Lib.hid (L1.out.via hb)
  replace M1 := Lib.hid (M1.out.via hb)
  replace BW := Lib.hid (btr BW.out hb)
  have L2 := Lib.hid hL2
  clear hb hL2
  obtain ⟨z2, hz2⟩ : ∃ b, decide (u * P < 0) = b := ⟨_, rfl⟩
  rw [hz2]
  have Hz2 := Lib.hid hz2
  clear hz2
  have ⟨rM10, rM11, rM12, rM13, rM1l⟩ := M1.out
  go_wp2_with fail
  clear rM10 rM11 rM12 rM13 rM1l
  replace QA := Lib.hid (QA.out.alloc (.cells #[.bool z2, .slice A2 n2 c2] 29))
  replace QB := Lib.hid (QB.out.alloc (.cells #[.bool z2, .slice A2 n2 c2] 29))
  replace L1 := Lib.hid (L1.out.box (.cells #[.bool z2, .slice A2 n2 c2] 29))
  replace M1 := Lib.hid (M1.out.alloc (.cells #[.bool z2, .slice A2 n2 c2] 29))
  replace L2 := Lib.hid (L2.out.box (.cells #[.bool z2, .slice A2 n2 c2] 29))
  have M2 := Lib.hid (Pr.new w3 _ rfl (.bool z2) (.slice A2 n2 c2) 29)
  replace BW := Lib.hid (below_alloc BW.out (.cells #[.bool z2, .slice A2 n2 c2] 29))
  generalize w3.alloc (.cells #[.bool z2, .slice A2 n2 c2] 29) = W3 at *
  generalize w3.heap.size = g3 at *
  refine (rcompared_n _ A1 A2 n1 n2 c1 c2 (k + k) (x * v) (u * P) L1.out L2.out (Sx.out.mul Sv.out) (Su.out.mul SP.out) (by omega) Hz1.out Hz2.out).mono ?_
  rintro e w4 ⟨rfl, hb⟩
  replace QA := Lib.hid (QA.out.via hb)
  replace QB := Lib.hid (QB.out.via hb)
  replace L1 := Lib.hid (L1.out.via hb)
  replace M1 := Lib.hid (M1.out.via hb)
  replace L2 := Lib.hid (L2.out.via hb)
  replace M2 := Lib.hid (M2.out.via hb)
  replace BW := Lib.hid (btr BW.out hb)
  clear hb
  go_wp2
  go_ret2
  exact ⟨rfl, BW.out⟩

end Go.Proofs.YtglgfjknhplajaaGreatDoor

/- Intervals: checkAll, and join, change on both sides. -/
namespace Go.Proofs.YtglgfjknhplajaaGreatDoor
open Go.RowKit

/-- Block g holds four cells. -/
structure C4 (w : World) (g : Nat) (x0 x1 x2 x3 : Value) : Prop where
  c0 : w.cell? ⟨g, 0, none⟩ = some x0
  c1 : w.cell? ⟨g, 1, none⟩ = some x1
  c2 : w.cell? ⟨g, 2, none⟩ = some x2
  c3 : w.cell? ⟨g, 3, none⟩ = some x3
  lt : g < w.heap.size
theorem C4.new (w : World) (k : Nat) (hk : w.heap.size = k) (x0 x1 x2 x3 : Value) (t : TypeId) : C4 (w.alloc (.cells #[x0, x1, x2, x3] t)) k x0 x1 x2 x3 := by
  subst hk
  refine ⟨?_, ?_, ?_, ?_, by simp⟩ <;> go_simp
theorem C4.via {w w' : World} {g : Nat} {x0 x1 x2 x3 : Value} (p : C4 w g x0 x1 x2 x3) (hb : Below w.heap.size w w') : C4 w' g x0 x1 x2 x3 :=
  ⟨(hb.cell (p := ⟨g, 0, none⟩) p.lt).trans p.c0, (hb.cell (p := ⟨g, 1, none⟩) p.lt).trans p.c1, (hb.cell (p := ⟨g, 2, none⟩) p.lt).trans p.c2, (hb.cell (p := ⟨g, 3, none⟩) p.lt).trans p.c3, Nat.lt_of_lt_of_le p.lt hb.size⟩

set_option maxRecDepth 100000 in
set_option maxHeartbeats 1000000 in
theorem checkall_any (w : World) (g : Nat) (al ah bl bh : Int) (hC : C4 w g (.int .i64 al) (.int .i64 ah) (.int .i64 bl) (.int .i64 bh)) :
    Calls Tryz.prog 37 #[.slice (some ⟨g, 0, none⟩) 2 2] w (RN1 w (ivB2 al ah bl bh)) := by
  have HC := Lib.hid hC
  clear hC
  go_enter Tryz.func37, Tryz.ntmps37
  go_wp2
  go_loopw [8] (fun i wr => ∃ k : Nat, k ≤ 2 ∧ i = .int .i64 k ∧ (1 ≤ k → ivC al ah = 0) ∧ (2 ≤ k → ivC bl bh = 0) ∧ Below w.heap.size w wr) (fun i _ => 2 - (intOf i).toNat)
  case atStart => exact ⟨0, by omega, rfl, by omega, by omega, Below.refl _ _⟩
  case round =>
    obtain ⟨k, hk, rfl, h1, h2, hB⟩ := hrel
    have HB := Lib.hid hB
    have H1 := Lib.hid h1
    have H2 := Lib.hid h2
    have P := Lib.hid (HC.out.via hB)
    clear hB h1 h2
    rcases (show k = 0 ∨ k = 1 ∨ k = 2 by omega) with rfl | rfl | rfl
    · have ⟨a0, a1, _, _, _⟩ := P.out
      go_wp2_with fail
      refine (scheck_any _ al ah).mono ?_
      rintro e w1 ⟨rfl, hb⟩
      have B1 := Lib.hid (sbtr HB.out (bbox hb))
      clear hb a0 a1
      rcases ivC_cases al ah with ⟨h, _⟩ | ⟨h, _⟩
      · have H := Lib.hid h
        rw [h]; clear h
        go_wp2
        go_roundw
        case rel => exact ⟨1, by omega, by go_num, fun _ => H.out, by omega, B1.out⟩
        case measure => simp [intOf]
      · have H := Lib.hid h
        rw [h]; clear h
        go_wp2
        go_ret
        exact ⟨ret_int (by rw [ivB2_bad H.out]), B1.out⟩
    · have ⟨_, _, a0, a1, _⟩ := P.out
      go_wp2_with fail
      refine (scheck_any _ bl bh).mono ?_
      rintro e w1 ⟨rfl, hb⟩
      have B1 := Lib.hid (sbtr HB.out (bbox hb))
      clear hb a0 a1
      rcases ivC_cases bl bh with ⟨h, _⟩ | ⟨h, _⟩
      · have H := Lib.hid h
        rw [h]; clear h
        go_wp2
        go_roundw
        case rel => exact ⟨2, by omega, by go_num, fun _ => H1.out (by omega), fun _ => H.out, B1.out⟩
        case measure => simp [intOf]
      · have H := Lib.hid h
        rw [h]; clear h
        go_wp2
        go_ret
        exact ⟨ret_int (by rw [ivB2_ok (H1.out (by omega)), H.out]), B1.out⟩
    · go_wp2
      go_ret
      exact ⟨ret_int (by rw [ivB2_ok (H1.out (by omega)), H2.out (by omega)]), HB.out⟩

/-- What a function of two intervals returns: the first error, or what the ends make. -/
def j2 (al ah bl bh : Int) (o : Out) : Out := if ivB2 al ah bl bh = 0 then o else ⟨0, 0, ivB2 al ah bl bh⟩
def j1 (al ah : Int) (o : Out) : Out := if ivC al ah = 0 then o else ⟨0, 0, ivC al ah⟩
theorem ivB2_cases (al ah bl bh : Int) : ivB2 al ah bl bh = 0 ∧ ivC al ah = 0 ∧ ivC bl bh = 0 ∨ ivB2 al ah bl bh = 8 := by
  rcases ivC_cases al ah with ⟨h, _⟩ | ⟨h, _⟩
  · rw [ivB2_ok h]
    rcases ivC_cases bl bh with ⟨h', _⟩ | ⟨h', _⟩
    · exact .inl ⟨h', h, h'⟩
    · exact .inr h'
  · exact .inr (ivB2_bad h)
theorem ivC_le {lo hi : Int} (h : ivC lo hi = 0) : -2305843009213693952 ≤ lo ∧ lo ≤ hi ∧ hi ≤ 2305843009213693952 := by
  rcases ivC_cases lo hi with ⟨_, h1, h2, h3⟩ | ⟨h8, _⟩
  · exact ⟨h1, h2, h3⟩
  · rw [h8] at h; exact absurd h (by decide)
set_option maxRecDepth 100000 in
set_option maxHeartbeats 1000000 in
theorem join_any (w : World) (f : FuncId) (al ah bl bh lo hi : Int) (hcf : ∀ (u v : Value) (W : World), (callFunc f #[u, v]).run Tryz.prog W = .ok (.enter f #[u, v]) W)
    (H : ivC al ah = 0 → ivC bl bh = 0 → lo ≤ hi ∧ ∀ W, Calls Tryz.prog f #[iv al ah, iv bl bh] W (RV W lo hi)) :
    Calls Tryz.prog 26 #[iv al ah, iv bl bh, .func (.func f) #[] #[]] w (RO w (j2 al ah bl bh (mkI lo hi))) := by
  have HH := Lib.hid H
  have PA := Lib.hid (((Pr.new w w.heap.size rfl (.int .i64 al) (.int .i64 ah) 23).alloc (ivB bl bh)).alloc (ivB 0 0))
  have PB := Lib.hid ((Pr.new (w.alloc (ivB al ah)) (w.heap.size + 1) (by simp) (.int .i64 bl) (.int .i64 bh) 23).alloc (ivB 0 0))
  have PR := Lib.hid (Pr.new ((w.alloc (ivB al ah)).alloc (ivB bl bh)) (w.heap.size + 1 + 1) (by simp) (.int .i64 0) (.int .i64 0) 23)
  have BW : Hid (Below w.heap.size w (((w.alloc (ivB al ah)).alloc (ivB bl bh)).alloc (ivB 0 0))) := sbal (sbal (sbal (Below.refl _ _) _) _) _
  clear H
  go_enter Tryz.func26, Tryz.ntmps26
  have hs : (((w.alloc (ivB al ah)).alloc (ivB bl bh)).alloc (ivB 0 0)).heap.size = w.heap.size + 1 + 1 + 1 := by simp
  have HS := Lib.hid hs
  clear hs
  go_wp2_with fail
  generalize ((w.alloc (ivB al ah)).alloc (ivB bl bh)).alloc (ivB 0 0) = W0 at *
  refine (checkall_any _ _ al ah bl bh (C4.new W0 _ HS.out _ _ _ _ _)).mono ?_
  rintro e w1 ⟨rfl, hb⟩
  have P1 := Lib.hid (PA.out.via (bbox hb))
  have P2 := Lib.hid (PB.out.via (bbox hb))
  have P3 := Lib.hid (PR.out.via (bbox hb))
  have B1 := Lib.hid (sbtr BW.out (bbox hb))
  clear hb PA PB PR BW HS
  rcases ivB2_cases al ah bl bh with ⟨h, ha, hbb⟩ | h
  · have e : j2 al ah bl bh (mkI lo hi) = mkI lo hi := by unfold j2; rw [if_pos h]
    rw [h]
    have E := Lib.hid e
    obtain ⟨hle, hc⟩ := HH.out ha hbb
    have HC := Lib.hid hc
    have ⟨a0, a1, _, _, _⟩ := P1.out
    have ⟨b0, b1, _, _, _⟩ := P2.out
    clear h ha hbb hc e HH
    go_wp2_with fail
    refine (HC.out _).mono ?_
    rintro e w2 ⟨rfl, hb⟩
    have B2 := Lib.hid (sbtr B1.out hb)
    have P4 := Lib.hid (P3.out.via hb)
    clear hb a0 a1 b0 b1 B1
    go_wp2_with fail
    refine (smade_any _ lo hi hle).mono ?_
    rintro e w3 ⟨rfl, hb⟩
    have B3 := Lib.hid (sbtr B2.out hb)
    have P5 := Lib.hid (P4.out.via hb)
    clear hb B2 hcf
    have ⟨r0, r1, f0, f1, rl⟩ := P5.out
    go_wp2
    exact post_iv Tryz.results26 rfl rfl (P5.out.set _ _) ⟨by rw [E.out]; rfl, below_set2 B3.out (by omega) _ _⟩
  · have e : j2 al ah bl bh (mkI lo hi) = ⟨0, 0, 8⟩ := by unfold j2; rw [if_neg (by rw [h]; decide), h]
    rw [h]
    have E := Lib.hid e
    have ⟨r0, r1, f0, f1, rl⟩ := P3.out
    clear h e HH hcf
    go_wp2
    exact post_iv Tryz.results26 rfl rfl (P3.out.set _ _) ⟨by rw [E.out]; rfl, below_set2 B1.out (by omega) _ _⟩

set_option maxRecDepth 100000 in
set_option maxHeartbeats 1000000 in
theorem change_any (w : World) (f : FuncId) (al ah lo hi : Int) (hcf : ∀ (u : Value) (W : World), (callFunc f #[u]).run Tryz.prog W = .ok (.enter f #[u]) W)
    (H : ivC al ah = 0 → lo ≤ hi ∧ ∀ W, Calls Tryz.prog f #[iv al ah] W (RV W lo hi)) :
    Calls Tryz.prog 32 #[iv al ah, .func (.func f) #[] #[]] w (RO w (j1 al ah (mkI lo hi))) := by
  have HH := Lib.hid H
  have PA := Lib.hid ((Pr.new w w.heap.size rfl (.int .i64 al) (.int .i64 ah) 23).alloc (ivB 0 0))
  have PR := Lib.hid (Pr.new (w.alloc (ivB al ah)) (w.heap.size + 1) (by simp) (.int .i64 0) (.int .i64 0) 23)
  have BW : Hid (Below w.heap.size w ((w.alloc (ivB al ah)).alloc (ivB 0 0))) := sbal (sbal (Below.refl _ _) _) _
  clear H
  go_enter Tryz.func32, Tryz.ntmps32
  go_wp2_with fail
  generalize (w.alloc (ivB al ah)).alloc (ivB 0 0) = W0 at *
  refine (scheck_any _ al ah).mono ?_
  rintro e w1 ⟨rfl, hb⟩
  have P1 := Lib.hid (PA.out.via hb)
  have P3 := Lib.hid (PR.out.via hb)
  have B1 := Lib.hid (sbtr BW.out hb)
  clear hb PA PR BW
  rcases ivC_cases al ah with ⟨h, _⟩ | ⟨h, _⟩
  · have e : j1 al ah (mkI lo hi) = mkI lo hi := by unfold j1; rw [if_pos h]
    rw [h]
    have E := Lib.hid e
    obtain ⟨hle, hc⟩ := HH.out h
    have HC := Lib.hid hc
    have ⟨a0, a1, _, _, _⟩ := P1.out
    clear h hc e HH
    go_wp2_with fail
    refine (HC.out _).mono ?_
    rintro e w2 ⟨rfl, hb⟩
    have B2 := Lib.hid (sbtr B1.out hb)
    have P4 := Lib.hid (P3.out.via hb)
    clear hb a0 a1 B1
    go_wp2_with fail
    refine (smade_any _ lo hi hle).mono ?_
    rintro e w3 ⟨rfl, hb⟩
    have B3 := Lib.hid (sbtr B2.out hb)
    have P5 := Lib.hid (P4.out.via hb)
    clear hb B2 hcf
    have ⟨r0, r1, f0, f1, rl⟩ := P5.out
    go_wp2
    exact post_iv Tryz.results32 rfl rfl (P5.out.set _ _) ⟨by rw [E.out]; rfl, below_set2 B3.out (by omega) _ _⟩
  · have e : j1 al ah (mkI lo hi) = ⟨0, 0, 8⟩ := by unfold j1; rw [if_neg (by rw [h]; decide), h]
    rw [h]
    have E := Lib.hid e
    have ⟨r0, r1, f0, f1, rl⟩ := P3.out
    clear h e HH hcf
    go_wp2
    exact post_iv Tryz.results32 rfl rfl (P3.out.set _ _) ⟨by rw [E.out]; rfl, below_set2 B1.out (by omega) _ _⟩
end Go.Proofs.YtglgfjknhplajaaGreatDoor

/- Intervals: sum, negative, difference, lesser, greater, absolute, hull of two. -/
namespace Go.Proofs.YtglgfjknhplajaaGreatDoor
open Go.RowKit

theorem ret_iv {a b c d : Int} (h1 : a = c) (h2 : b = d) : Ending.returned (iv a b) = .returned (iv c d) := by rw [h1, h2]
def IvIn (lo hi : Int) : Prop := -2305843009213693952 ≤ lo ∧ lo ≤ hi ∧ hi ≤ 2305843009213693952
set_option maxRecDepth 100000 in
theorem ssum_any (w : World) (al ah bl bh : Int) (h1 : IvIn al ah) (h2 : IvIn bl bh) : Calls Tryz.prog 27 #[iv al ah, iv bl bh] w (RV w (al + bl) (ah + bh)) := by
  obtain ⟨x1, x2, x3⟩ := h1
  obtain ⟨y1, y2, y3⟩ := h2
  go_enter Tryz.func27, Tryz.ntmps27
  go_wp2
  all_goals exact post_iv1 Tryz.results27 rfl rfl (Pr.new _ _ (by simp) _ _ _) ⟨ret_iv (by omega) (by omega), by go_grown⟩
set_option maxRecDepth 100000 in
theorem negative_any (w : World) (al ah : Int) (h1 : -4611686018427387904 ≤ al) (h2 : al ≤ 4611686018427387904) (h3 : -4611686018427387904 ≤ ah) (h4 : ah ≤ 4611686018427387904) : Calls Tryz.prog 57 #[iv al ah] w (RV w (-ah) (-al)) := by
  go_enter Tryz.func57, Tryz.ntmps57
  go_wp2
  all_goals exact post_iv1 Tryz.results57 rfl rfl (Pr.new _ _ (by simp) _ _ _) ⟨ret_iv (by omega) (by omega), by go_grown⟩
set_option maxRecDepth 100000 in
theorem absolute_any (w : World) (al ah : Int) (h1 : IvIn al ah) : Calls Tryz.prog 35 #[iv al ah] w (RV w (max al (max (-ah) 0)) (max (-al) ah)) := by
  obtain ⟨x1, x2, x3⟩ := h1
  go_enter Tryz.func35, Tryz.ntmps35
  go_wp2
  all_goals exact post_iv1 Tryz.results35 rfl rfl (Pr.new _ _ (by simp) _ _ _) ⟨ret_iv (by omega) (by omega), by go_grown⟩
set_option maxRecDepth 100000 in
set_option maxHeartbeats 1000000 in
theorem sdiff_any (w : World) (al ah bl bh : Int) (h1 : IvIn al ah) (h2 : IvIn bl bh) : Calls Tryz.prog 29 #[iv al ah, iv bl bh] w (RV w (al - bh) (ah - bl)) := by
  have ⟨x1, x2, x3⟩ := h1
  have ⟨y1, y2, y3⟩ := h2
  have hh2 : IvIn (-bh) (-bl) := ⟨by omega, by omega, by omega⟩
  have PA := Lib.hid (((Pr.new w w.heap.size rfl (.int .i64 al) (.int .i64 ah) 23).alloc (ivB bl bh)).alloc (ivB 0 0))
  have PB := Lib.hid ((Pr.new (w.alloc (ivB al ah)) (w.heap.size + 1) (by simp) (.int .i64 bl) (.int .i64 bh) 23).alloc (ivB 0 0))
  have PR := Lib.hid (Pr.new ((w.alloc (ivB al ah)).alloc (ivB bl bh)) (w.heap.size + 1 + 1) (by simp) (.int .i64 0) (.int .i64 0) 23)
  have BW : Hid (Below w.heap.size w (((w.alloc (ivB al ah)).alloc (ivB bl bh)).alloc (ivB 0 0))) := sbal (sbal (sbal (Below.refl _ _) _) _) _
  go_enter Tryz.func29, Tryz.ntmps29
  go_wp2_with fail
  generalize ((w.alloc (ivB al ah)).alloc (ivB bl bh)).alloc (ivB 0 0) = W0 at *
  have HKS : Hid (∀ X : World, Below W0.heap.size W0 X → X.cell? ⟨w.heap.size, 0, none⟩ = some (.int .i64 al) ∧ X.cell? ⟨w.heap.size, 1, none⟩ = some (.int .i64 ah) ∧ X.cell? ⟨w.heap.size + 1, 0, none⟩ = some (.int .i64 bl) ∧ X.cell? ⟨w.heap.size + 1, 1, none⟩ = some (.int .i64 bh)) := fun X h => ⟨(PA.out.via h).c0, (PA.out.via h).c1, (PB.out.via h).c0, (PB.out.via h).c1⟩
  have ⟨r0, r1, f0, f1, rl⟩ := PR.out
  go_region_held3 (fun w' => w'.cell? ⟨w.heap.size, 0, none⟩ = some (.int .i64 al) ∧ w'.cell? ⟨w.heap.size, 1, none⟩ = some (.int .i64 ah) ∧ w'.cell? ⟨w.heap.size + 1, 0, none⟩ = some (.int .i64 bl) ∧ w'.cell? ⟨w.heap.size + 1, 1, none⟩ = some (.int .i64 bh))
    (first
     | exact HKS.out _ (Below.refl _ _)
     | exact HKS.out _ (Below.refl _ _).drew
     | exact HKS.out _ B2
     | exact HKS.out _ B1
     | exact ⟨((PA.out.via B2).far (by omega) _ _).c0, ((PA.out.via B2).far (by omega) _ _).c1, ((PB.out.via B2).far (by omega) _ _).c0, ((PB.out.via B2).far (by omega) _ _).c1⟩)
    (first
     | (go_at_call 27; refine (ssum_any _ al ah (-bh) (-bl) h1 hh2).mono ?_; rintro e w2 ⟨rfl, hb2⟩; have B2 : Below W0.heap.size W0 w2 := sbtr B1 hb2; have P2 := PR.out.via B2; have ⟨q0, q1, g0, g1, ql⟩ := P2)
     | (go_at_call 57; refine (negative_any _ bl bh (by omega) (by omega) (by omega) (by omega)).mono ?_; rintro e w1 ⟨rfl, hb1⟩; have B1 : Below W0.heap.size W0 w1 := (by first | exact (Below.refl _ _).drew.trans hb1 | exact hb1))
     | fail)
  all_goals
    go_wp2
    exact post_iv1 Tryz.results29 rfl rfl (P2.set _ _) ⟨ret_iv (by omega) (by omega), below_set2 (sbtr BW.out B2) (by omega) _ _⟩
end Go.Proofs.YtglgfjknhplajaaGreatDoor

