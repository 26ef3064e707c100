
/-
  For any two numbers a and b and any shift k the law WideRoots returns true: where both are valid and of at most 60 limbs, the square of Sqrt of a's absolute value is not greater than it and that of the next number is, Shift is multiplication or floored division by a power of 2, and Gcd is a common divisor that stays where a is replaced by a + b; where not, the chapter's examples hold. Conditions: the library's tables of de Bruijn and of powers of ten hold what their initialisers lay (the card ties them to the program's text); no other condition.
-/
import Derived.Laws.BitsLemmas
import Derived.Deep.RegionHeld3
import Derived.Test.YtaegadicnbmapabDoorTie
import Derived.Test.YtaegadicnbmapabDoorCards
import Derived.Test.YtaegadicnbmapabDoorGRts5
/- The reference's DivMod, rounded down. -/
namespace Go.Proofs.YtaegadicnbmapabDoor
open Go.RowKit

theorem rfrom_m1 (w : World) : Calls Tryd.prog 16 #[.int .i64 (-1)] w fun e w' => ∃ A n c, e = .returned (.agg #[.bool true, .slice A n c]) ∧ Lm w' w'.heap.size A n c (digs 1) ∧ Below w.heap.size w w' :=
  (rfrom_any w (-1) (by omega) (by omega)).mono fun _ _ ⟨A, n, c, he, hL, hb⟩ => ⟨A, n, c, he, hL, hb⟩
theorem toI_mkN {v : Nat} (h : (digs v).length ≤ 4096) (neg : Bool) : toI (mkN neg v) v = toI neg v := by
  unfold mkN toI
  rw [decide_eq_true h, Bool.true_and]
  by_cases h0 : v = 0
  · subst h0; cases neg <;> rfl
  · rw [decide_eq_true h0, Bool.and_true]
theorem mkL_digs {v : Nat} (h : (digs v).length ≤ 4096) : mkL v = digs v := by unfold mkL; rw [if_pos h]
theorem mkE_zero {v : Nat} (h : (digs v).length ≤ 4096) : mkE v = 0 := by unfold mkE; rw [if_pos h]
theorem down_le {a b : Nat} (hb : 0 < b) (h0 : 0 < a % b) : a / b + 1 ≤ a := by
  have h := Nat.div_add_mod a b
  have hb2 : 2 ≤ b := by have := Nat.mod_lt a hb; omega
  have h2 : 2 * (a / b) ≤ b * (a / b) := Nat.mul_le_mul_right _ hb2
  generalize a / b = z at *
  omega

set_option maxRecDepth 100000 in
set_option maxHeartbeats 2000000 in
theorem rdivmod_down (w : World) (na nb : Bool) (A B : Option Addr) (n m ca cb a b : Nat) (hA : Lm w w.heap.size A n ca (digs a)) (hB : Lm w w.heap.size B m cb (digs b)) (hv : chkB na (digs a) nb (digs b) = 0) (hb : 0 < b) (hs : na = true ∧ nb = false ∨ na = false ∧ nb = true) (h0 : 0 < a % b) :
    Calls Tryd.prog 23 #[.agg #[.bool na, .slice A n ca], .agg #[.bool nb, .slice B m cb]] w (RWW w (mkN true (a / b + 1)) (digs (a / b + 1)) (mkN nb (b - a % b)) (digs (b - a % b)) 0) := by
  have h41 := (chk_ok.1 (chkB_ok.1 hv).1).1
  have h42 := (chk_ok.1 (chkB_ok.1 hv).2).1
  have hml := Nat.mod_lt a hb
  have hq0 : (digs (a / b)).length ≤ 4096 := Nat.le_trans (digs_mono (Nat.div_le_self a b)) h41
  have hr0 : (digs (a % b)).length ≤ 4096 := Nat.le_trans (digs_mono (Nat.le_of_lt hml)) h42
  have HLq : Hid (mkL (a / b) = digs (a / b)) := by show _ = _; unfold mkL; rw [if_pos hq0]
  have HLr : Hid (mkL (a % b) = digs (a % b)) := by show _ = _; unfold mkL; rw [if_pos hr0]
  have HEq : Hid (mkE (a / b) = 0) := by show _ = _; unfold mkE; rw [if_pos hq0]
  have HEr : Hid (mkE (a % b) = 0) := by show _ = _; unfold mkE; rw [if_pos hr0]
  have hq1 : (digs (a / b + 1)).length ≤ 4096 := Nat.le_trans (digs_mono (down_le hb h0)) h41
  have hr1 : (digs (b - a % b)).length ≤ 4096 := Nat.le_trans (digs_mono (Nat.sub_le _ _)) h42
  have HS1 : Hid (∀ (W : World) (A' A'' : Option Addr) (n' c' n'' c'' : Nat), Lm W W.heap.size A' n' c' (digs (a / b)) → Lm W W.heap.size A'' n'' c'' (digs 1) → Calls Tryd.prog 39 #[.agg #[.bool (mkN true (a / b)), .slice A' n' c'], .agg #[.bool true, .slice A'' n'' c'']] W (RW W (mkN true (a / b + 1)) (digs (a / b + 1)) 0)) := by
    intro W A' A'' n' c' n'' c'' h1 h2
    have h3 := rsum_any W (mkN true (a / b)) true A' A'' n' n'' c' c'' (a / b) 1 h1 h2 (by rw [← h1.len]; omega) (by rw [← h2.len]; have : (digs 1).length ≤ 1 := digs_len.2 (by omega); omega)
    rw [← rz_of W true (a / b + 1) (by rw [toI_mkN hq0]; unfold toI; simp; omega), mkL_digs hq1, mkE_zero hq1] at h3
    exact h3
  have HS2 : Hid (∀ (W : World) (A' : Option Addr) (n' c' : Nat), Lm W W.heap.size A' n' c' (digs (a % b)) → Lm W W.heap.size B m cb (digs b) → Calls Tryd.prog 39 #[.agg #[.bool (mkN na (a % b)), .slice A' n' c'], .agg #[.bool nb, .slice B m cb]] W (RW W (mkN nb (b - a % b)) (digs (b - a % b)) 0)) := by
    intro W A' n' c' h1 h2
    have h3 := rsum_any W (mkN na (a % b)) nb A' B n' m c' cb (a % b) b h1 h2 (by rw [← h1.len]; omega) (by rw [← h2.len]; omega)
    rw [← rz_of W nb (b - a % b) (by rw [toI_mkN hr0]; rcases hs with ⟨e1, e2⟩ | ⟨e1, e2⟩ <;> subst e1 <;> subst e2 <;> simp only [toI, Bool.false_eq_true, if_true, if_false] <;> omega), mkL_digs hr1, mkE_zero hr1] at h3
    exact h3
  rw [hA.len] at h41
  rw [hB.len] at h42
  have hm0 : 0 < m := by rw [← hB.len, digs_pos]; exact hb
  have hm1 : ((m : Int) == 0) = false := by simp; omega
  have hcB := hB.cap
  have hxB := hB.max
  have HA := Lib.hid hA
  have HB := Lib.hid hB
  have HV := Lib.hid hv
  have HVq : Hid (val (digs (a / b)) = a / b) := digs_val _
  have HVr : Hid (val (digs (a % b)) = a % b) := digs_val _
  have hrl : decide (0 < (digs (a % b)).length) = decide (0 < a % b) := decide_eq_decide.2 digs_pos
  have hrz : decide (0 < (digs (a % b)).length) = true := by rw [hrl]; simpa using h0
  clear hrl
  clear hv hA hB hml
  rcases hs with ⟨rfl, rfl⟩ | ⟨rfl, rfl⟩
  · go_enter Tryd.func23, Tryd.ntmps23
    go_wp2_with fail
    refine (rboth_any _ _ _ _ _ _ _ _ _ _ _ ((((HA.out.box _).box _).box _).box _) ((((HB.out.box _).box _).box _).box _) 0 HV.out).mono ?_
    rintro e w1 ⟨rfl, hb1⟩
    have ⟨PA, PB, PQ, PR⟩ := boxes4 hb1
    have LA1 := Lib.hid (((((HA.out.box _).box _).box _).box _).via hb1)
    have LB1 := Lib.hid (((((HB.out.box _).box _).box _).box _).via hb1)
    have HB1 := Lib.hid (bbox (bbox (bbox (bbox hb1))))
    have ⟨a0, a1, _, _, _⟩ := PA
    have ⟨b0, b1, _, _, _⟩ := PB
    clear hb1
    go_wp2_with fail
    refine (rover_any w1 A B n m ca cb a b LA1.out LB1.out hb (by omega)).mono ?_
    rintro e w2 ⟨Q, cq, R, cr, rfl, hQ, hR, hb2⟩
    have PA2 := PA.via hb2
    have PB2 := PB.via hb2
    have PQ2 := PQ.via hb2
    have PR2 := PR.via hb2
    have HB2 := Lib.hid (HB1.out.trans (hb2.mono HB1.out.size))
    have HQ := Lib.hid hQ
    have HR := Lib.hid hR
    have LB2 := Lib.hid (LB1.out.via hb2)
    clear PA PB PQ PR LA1 LB1 HB1 a0 a1 b0 b1 hb2 hQ hR
    have ⟨a0, a1, _, _, _⟩ := PA2
    have ⟨b0, b1, _, _, _⟩ := PB2
    go_wp2_with fail
    refine (rmade_any w2 _ _ _ _ _ (a / b) HQ.out HVq.out (by omega)).mono ?_
    rintro e w3 ⟨A3, n3, c3, rfl, hL3, hb3⟩
    rw [HLq.out] at hL3
    rw [HEq.out]
    have PA4 := (PA2.via hb3).alloc (.cells #[.bool (mkN true (a / b)), .slice A3 n3 c3] 24)
    have PB4 := (PB2.via hb3).alloc (.cells #[.bool (mkN true (a / b)), .slice A3 n3 c3] 24)
    have PQ4 := (PQ2.via hb3).alloc (.cells #[.bool (mkN true (a / b)), .slice A3 n3 c3] 24)
    have PR4 := (PR2.via hb3).alloc (.cells #[.bool (mkN true (a / b)), .slice A3 n3 c3] 24)
    have HB4 := Lib.hid ((HB2.out.trans (hb3.mono HB2.out.size)).alloc (HB2.out.trans (hb3.mono HB2.out.size)).size (.cells #[.bool (mkN true (a / b)), .slice A3 n3 c3] 24))
    have HR4 := Lib.hid ((HR.out.via hb3).box (.cells #[.bool (mkN true (a / b)), .slice A3 n3 c3] 24))
    have LB4 := Lib.hid ((LB2.out.via hb3).box (.cells #[.bool (mkN true (a / b)), .slice A3 n3 c3] 24))
    have HL4 := Lib.hid (hL3.box (.cells #[.bool (mkN true (a / b)), .slice A3 n3 c3] 24))
    have PX4 := Pr.new w3 w3.heap.size rfl (.bool (mkN true (a / b))) (.slice A3 n3 c3) 24
    have hlt3 : w.heap.size + 1 + 1 + 1 < w3.heap.size := (PR2.via hb3).lt
    clear PA2 PB2 PQ2 PR2 HQ HR HB2 LB2 hb3 hL3 a0 a1 b0 b1
    have ⟨a0, a1, _, _, _⟩ := PA4
    have ⟨b0, b1, _, _, _⟩ := PB4
    go_wp2_with fail
    generalize w3.alloc (.cells #[.bool (mkN true (a / b)), .slice A3 n3 c3] 24) = w4 at *
    generalize w3.heap.size = g3 at *
    refine (rmade_any w4 _ _ _ _ _ (a % b) HR4.out HVr.out (by omega)).mono ?_
    rintro e w5 ⟨A5, n5, c5, rfl, hL5, hb5⟩
    rw [HLr.out] at hL5
    rw [HEr.out]
    have PA6 := (PA4.via hb5).alloc (.cells #[.bool (mkN true (a % b)), .slice A5 n5 c5] 24)
    have PB6 := (PB4.via hb5).alloc (.cells #[.bool (mkN true (a % b)), .slice A5 n5 c5] 24)
    have PQ6 := (PQ4.via hb5).alloc (.cells #[.bool (mkN true (a % b)), .slice A5 n5 c5] 24)
    have PR6 := (PR4.via hb5).alloc (.cells #[.bool (mkN true (a % b)), .slice A5 n5 c5] 24)
    have PX6 := (PX4.via hb5).alloc (.cells #[.bool (mkN true (a % b)), .slice A5 n5 c5] 24)
    have HB6 := Lib.hid ((HB4.out.trans (hb5.mono HB4.out.size)).alloc (HB4.out.trans (hb5.mono HB4.out.size)).size (.cells #[.bool (mkN true (a % b)), .slice A5 n5 c5] 24))
    have LB6 := Lib.hid ((LB4.out.via hb5).box (.cells #[.bool (mkN true (a % b)), .slice A5 n5 c5] 24))
    have HL6 := Lib.hid ((HL4.out.via hb5).box (.cells #[.bool (mkN true (a % b)), .slice A5 n5 c5] 24))
    have HM6 := Lib.hid (hL5.box (.cells #[.bool (mkN true (a % b)), .slice A5 n5 c5] 24))
    have PY6 := Pr.new w5 w5.heap.size rfl (.bool (mkN true (a % b))) (.slice A5 n5 c5) 24
    have hlt5 : g3 < w5.heap.size := (PX4.via hb5).lt
    clear PA4 PB4 PQ4 PR4 PX4 HB4 HR4 LB4 HL4 hb5 hL5 a0 a1 b0 b1
    have ⟨a0, a1, _, _, _⟩ := PA6
    have ⟨b0, b1, _, _, _⟩ := PB6
    go_wp2_with fail
    generalize w5.alloc (.cells #[.bool (mkN true (a % b)), .slice A5 n5 c5] 24) = w6 at *
    generalize w5.heap.size = g5 at *
    have ⟨q0, q1, qf0, qf1, ql⟩ := PQ6
    have ⟨r0, r1, rf0, rf1, rl⟩ := PR6
    have ⟨x0, x1, xf0, xf1, xl⟩ := PX6
    have ⟨y0, y1, yf0, yf1, yl⟩ := PY6
    go_region_with
      (first
       | (go_at_call 16; refine (rfrom_m1 _).mono ?_; rintro e ws ⟨As, ns, cs, rfl, hLs, hbs⟩; have Bs := (Below.refl w6.heap.size w6).drew.trans hbs; have PXs := PX6.via Bs; have ⟨xs0, xs1, xsf0, xsf1, xsl⟩ := PXs)
       | (go_at_call 39; refine (HS1.out ws A3 As n3 c3 ns cs (HL6.out.via Bs) hLs).mono ?_; rintro e wt ⟨At, nt, ct, rfl, hLt, hbt⟩; have PXt := PXs.via hbt; have ⟨xt0, xt1, xtf0, xtf1, xtl⟩ := PXt))
    all_goals
      have Bt := Bs.trans (hbt.mono Bs.size)
      have PA7 := (PA6.via Bt).far (h := g3) (by omega) (.bool (mkN true (a / b + 1))) (.slice At nt ct)
      have PB7 := (PB6.via Bt).far (h := g3) (by omega) (.bool (mkN true (a / b + 1))) (.slice At nt ct)
      have PQ7 := (PQ6.via Bt).far (h := g3) (by omega) (.bool (mkN true (a / b + 1))) (.slice At nt ct)
      have PR7 := (PR6.via Bt).far (h := g3) (by omega) (.bool (mkN true (a / b + 1))) (.slice At nt ct)
      have PY7 := (PY6.via Bt).far (h := g3) (by omega) (.bool (mkN true (a / b + 1))) (.slice At nt ct)
      have PX7 := PXt.set (.bool (mkN true (a / b + 1))) (.slice At nt ct)
      have HL7 := Lib.hid (hLt.setP PXt (.bool (mkN true (a / b + 1))) (.slice At nt ct))
      have HM7 := Lib.hid ((HM6.out.via Bt).setP PXt (.bool (mkN true (a / b + 1))) (.slice At nt ct))
      have LB7 := Lib.hid ((LB6.out.via Bt).setP PXt (.bool (mkN true (a / b + 1))) (.slice At nt ct))
      have HB7 := Lib.hid (below_set2 (HB6.out.trans (Bt.mono HB6.out.size)) (g := g3) (by omega) (.bool (mkN true (a / b + 1))) (.slice At nt ct))
      have ⟨y70, y71, _, _, _⟩ := PY7
      have ⟨b70, b71, _, _, _⟩ := PB7
      go_wp2_with fail
      generalize (wt.setCell ⟨g3, 0, none⟩ (.bool (mkN true (a / b + 1)))).setCell ⟨g3, 1, none⟩ (.slice At nt ct) = w7 at *
      refine (HS2.out w7 A5 n5 c5 HM7.out LB7.out).mono ?_
      rintro e w8 ⟨A8, n8, c8, rfl, hL8, hb8⟩
      have PY8 := PY7.via hb8
      have ⟨y80, y81, yf80, yf81, _⟩ := PY8
      have PQ9 := (PQ7.via hb8).far (h := g5) (by omega) (.bool (mkN false (b - a % b))) (.slice A8 n8 c8)
      have PR9 := (PR7.via hb8).far (h := g5) (by omega) (.bool (mkN false (b - a % b))) (.slice A8 n8 c8)
      have PX9 := (PX7.via hb8).far (h := g5) (by omega) (.bool (mkN false (b - a % b))) (.slice A8 n8 c8)
      have PY9 := PY8.set (.bool (mkN false (b - a % b))) (.slice A8 n8 c8)
      have HM9 := Lib.hid (hL8.setP PY8 (.bool (mkN false (b - a % b))) (.slice A8 n8 c8))
      have HL9 := Lib.hid ((HL7.out.via hb8).setP PY8 (.bool (mkN false (b - a % b))) (.slice A8 n8 c8))
      have HB9 := Lib.hid (below_set2 (HB7.out.trans (hb8.mono HB7.out.size)) (g := g5) (by omega) (.bool (mkN false (b - a % b))) (.slice A8 n8 c8))
      go_wp2_with fail
      generalize (w8.setCell ⟨g5, 0, none⟩ (.bool (mkN false (b - a % b)))).setCell ⟨g5, 1, none⟩ (.slice A8 n8 c8) = w9 at *
      have ⟨q90, q91, qf90, qf91, ql9⟩ := PQ9
      have ⟨r90, r91, rf90, rf91, rl9⟩ := PR9
      have ⟨x90, x91, xf90, xf91, xl9⟩ := PX9
      have ⟨y90, y91, yf90, yf91, yl9⟩ := PY9
      go_region
      all_goals
        go_wp2
        refine post_ww Tryd.results23 rfl rfl rfl ((PQ9.set _ _).far (by omega) _ _).drew ((PR9.far (by omega) _ _).set _ _).drew ⟨At, nt, ct, A8, n8, c8, rfl, ?_, ?_, ?_⟩
        · exact ((HL9.out.setP PQ9 _ _).setP (PR9.far (by omega) _ _) _ _).drew
        · exact ((HM9.out.setP PQ9 _ _).setP (PR9.far (by omega) _ _) _ _).drew
        · exact (below_set2 (below_set2 HB9.out (by omega) _ _) (by omega) _ _).drew
  · go_enter Tryd.func23, Tryd.ntmps23
    go_wp2_with fail
    refine (rboth_any _ _ _ _ _ _ _ _ _ _ _ ((((HA.out.box _).box _).box _).box _) ((((HB.out.box _).box _).box _).box _) 0 HV.out).mono ?_
    rintro e w1 ⟨rfl, hb1⟩
    have ⟨PA, PB, PQ, PR⟩ := boxes4 hb1
    have LA1 := Lib.hid (((((HA.out.box _).box _).box _).box _).via hb1)
    have LB1 := Lib.hid (((((HB.out.box _).box _).box _).box _).via hb1)
    have HB1 := Lib.hid (bbox (bbox (bbox (bbox hb1))))
    have ⟨a0, a1, _, _, _⟩ := PA
    have ⟨b0, b1, _, _, _⟩ := PB
    clear hb1
    go_wp2_with fail
    refine (rover_any w1 A B n m ca cb a b LA1.out LB1.out hb (by omega)).mono ?_
    rintro e w2 ⟨Q, cq, R, cr, rfl, hQ, hR, hb2⟩
    have PA2 := PA.via hb2
    have PB2 := PB.via hb2
    have PQ2 := PQ.via hb2
    have PR2 := PR.via hb2
    have HB2 := Lib.hid (HB1.out.trans (hb2.mono HB1.out.size))
    have HQ := Lib.hid hQ
    have HR := Lib.hid hR
    have LB2 := Lib.hid (LB1.out.via hb2)
    clear PA PB PQ PR LA1 LB1 HB1 a0 a1 b0 b1 hb2 hQ hR
    have ⟨a0, a1, _, _, _⟩ := PA2
    have ⟨b0, b1, _, _, _⟩ := PB2
    go_wp2_with fail
    refine (rmade_any w2 _ _ _ _ _ (a / b) HQ.out HVq.out (by omega)).mono ?_
    rintro e w3 ⟨A3, n3, c3, rfl, hL3, hb3⟩
    rw [HLq.out] at hL3
    rw [HEq.out]
    have PA4 := (PA2.via hb3).alloc (.cells #[.bool (mkN true (a / b)), .slice A3 n3 c3] 24)
    have PB4 := (PB2.via hb3).alloc (.cells #[.bool (mkN true (a / b)), .slice A3 n3 c3] 24)
    have PQ4 := (PQ2.via hb3).alloc (.cells #[.bool (mkN true (a / b)), .slice A3 n3 c3] 24)
    have PR4 := (PR2.via hb3).alloc (.cells #[.bool (mkN true (a / b)), .slice A3 n3 c3] 24)
    have HB4 := Lib.hid ((HB2.out.trans (hb3.mono HB2.out.size)).alloc (HB2.out.trans (hb3.mono HB2.out.size)).size (.cells #[.bool (mkN true (a / b)), .slice A3 n3 c3] 24))
    have HR4 := Lib.hid ((HR.out.via hb3).box (.cells #[.bool (mkN true (a / b)), .slice A3 n3 c3] 24))
    have LB4 := Lib.hid ((LB2.out.via hb3).box (.cells #[.bool (mkN true (a / b)), .slice A3 n3 c3] 24))
    have HL4 := Lib.hid (hL3.box (.cells #[.bool (mkN true (a / b)), .slice A3 n3 c3] 24))
    have PX4 := Pr.new w3 w3.heap.size rfl (.bool (mkN true (a / b))) (.slice A3 n3 c3) 24
    have hlt3 : w.heap.size + 1 + 1 + 1 < w3.heap.size := (PR2.via hb3).lt
    clear PA2 PB2 PQ2 PR2 HQ HR HB2 LB2 hb3 hL3 a0 a1 b0 b1
    have ⟨a0, a1, _, _, _⟩ := PA4
    have ⟨b0, b1, _, _, _⟩ := PB4
    go_wp2_with fail
    generalize w3.alloc (.cells #[.bool (mkN true (a / b)), .slice A3 n3 c3] 24) = w4 at *
    generalize w3.heap.size = g3 at *
    refine (rmade_any w4 _ _ _ _ _ (a % b) HR4.out HVr.out (by omega)).mono ?_
    rintro e w5 ⟨A5, n5, c5, rfl, hL5, hb5⟩
    rw [HLr.out] at hL5
    rw [HEr.out]
    have PA6 := (PA4.via hb5).alloc (.cells #[.bool (mkN false (a % b)), .slice A5 n5 c5] 24)
    have PB6 := (PB4.via hb5).alloc (.cells #[.bool (mkN false (a % b)), .slice A5 n5 c5] 24)
    have PQ6 := (PQ4.via hb5).alloc (.cells #[.bool (mkN false (a % b)), .slice A5 n5 c5] 24)
    have PR6 := (PR4.via hb5).alloc (.cells #[.bool (mkN false (a % b)), .slice A5 n5 c5] 24)
    have PX6 := (PX4.via hb5).alloc (.cells #[.bool (mkN false (a % b)), .slice A5 n5 c5] 24)
    have HB6 := Lib.hid ((HB4.out.trans (hb5.mono HB4.out.size)).alloc (HB4.out.trans (hb5.mono HB4.out.size)).size (.cells #[.bool (mkN false (a % b)), .slice A5 n5 c5] 24))
    have LB6 := Lib.hid ((LB4.out.via hb5).box (.cells #[.bool (mkN false (a % b)), .slice A5 n5 c5] 24))
    have HL6 := Lib.hid ((HL4.out.via hb5).box (.cells #[.bool (mkN false (a % b)), .slice A5 n5 c5] 24))
    have HM6 := Lib.hid (hL5.box (.cells #[.bool (mkN false (a % b)), .slice A5 n5 c5] 24))
    have PY6 := Pr.new w5 w5.heap.size rfl (.bool (mkN false (a % b))) (.slice A5 n5 c5) 24
    have hlt5 : g3 < w5.heap.size := (PX4.via hb5).lt
    clear PA4 PB4 PQ4 PR4 PX4 HB4 HR4 LB4 HL4 hb5 hL5 a0 a1 b0 b1
    have ⟨a0, a1, _, _, _⟩ := PA6
    have ⟨b0, b1, _, _, _⟩ := PB6
    go_wp2_with fail
    generalize w5.alloc (.cells #[.bool (mkN false (a % b)), .slice A5 n5 c5] 24) = w6 at *
    generalize w5.heap.size = g5 at *
    have ⟨q0, q1, qf0, qf1, ql⟩ := PQ6
    have ⟨r0, r1, rf0, rf1, rl⟩ := PR6
    have ⟨x0, x1, xf0, xf1, xl⟩ := PX6
    have ⟨y0, y1, yf0, yf1, yl⟩ := PY6
    go_region_with
      (first
       | (go_at_call 16; refine (rfrom_m1 _).mono ?_; rintro e ws ⟨As, ns, cs, rfl, hLs, hbs⟩; have Bs := (Below.refl w6.heap.size w6).drew.trans hbs; have PXs := PX6.via Bs; have ⟨xs0, xs1, xsf0, xsf1, xsl⟩ := PXs)
       | (go_at_call 39; refine (HS1.out ws A3 As n3 c3 ns cs (HL6.out.via Bs) hLs).mono ?_; rintro e wt ⟨At, nt, ct, rfl, hLt, hbt⟩; have PXt := PXs.via hbt; have ⟨xt0, xt1, xtf0, xtf1, xtl⟩ := PXt))
    all_goals
      have Bt := Bs.trans (hbt.mono Bs.size)
      have PA7 := (PA6.via Bt).far (h := g3) (by omega) (.bool (mkN true (a / b + 1))) (.slice At nt ct)
      have PB7 := (PB6.via Bt).far (h := g3) (by omega) (.bool (mkN true (a / b + 1))) (.slice At nt ct)
      have PQ7 := (PQ6.via Bt).far (h := g3) (by omega) (.bool (mkN true (a / b + 1))) (.slice At nt ct)
      have PR7 := (PR6.via Bt).far (h := g3) (by omega) (.bool (mkN true (a / b + 1))) (.slice At nt ct)
      have PY7 := (PY6.via Bt).far (h := g3) (by omega) (.bool (mkN true (a / b + 1))) (.slice At nt ct)
      have PX7 := PXt.set (.bool (mkN true (a / b + 1))) (.slice At nt ct)
      have HL7 := Lib.hid (hLt.setP PXt (.bool (mkN true (a / b + 1))) (.slice At nt ct))
      have HM7 := Lib.hid ((HM6.out.via Bt).setP PXt (.bool (mkN true (a / b + 1))) (.slice At nt ct))
      have LB7 := Lib.hid ((LB6.out.via Bt).setP PXt (.bool (mkN true (a / b + 1))) (.slice At nt ct))
      have HB7 := Lib.hid (below_set2 (HB6.out.trans (Bt.mono HB6.out.size)) (g := g3) (by omega) (.bool (mkN true (a / b + 1))) (.slice At nt ct))
      have ⟨y70, y71, _, _, _⟩ := PY7
      have ⟨b70, b71, _, _, _⟩ := PB7
      go_wp2_with fail
      generalize (wt.setCell ⟨g3, 0, none⟩ (.bool (mkN true (a / b + 1)))).setCell ⟨g3, 1, none⟩ (.slice At nt ct) = w7 at *
      refine (HS2.out w7 A5 n5 c5 HM7.out LB7.out).mono ?_
      rintro e w8 ⟨A8, n8, c8, rfl, hL8, hb8⟩
      have PY8 := PY7.via hb8
      have ⟨y80, y81, yf80, yf81, _⟩ := PY8
      have PQ9 := (PQ7.via hb8).far (h := g5) (by omega) (.bool (mkN true (b - a % b))) (.slice A8 n8 c8)
      have PR9 := (PR7.via hb8).far (h := g5) (by omega) (.bool (mkN true (b - a % b))) (.slice A8 n8 c8)
      have PX9 := (PX7.via hb8).far (h := g5) (by omega) (.bool (mkN true (b - a % b))) (.slice A8 n8 c8)
      have PY9 := PY8.set (.bool (mkN true (b - a % b))) (.slice A8 n8 c8)
      have HM9 := Lib.hid (hL8.setP PY8 (.bool (mkN true (b - a % b))) (.slice A8 n8 c8))
      have HL9 := Lib.hid ((HL7.out.via hb8).setP PY8 (.bool (mkN true (b - a % b))) (.slice A8 n8 c8))
      have HB9 := Lib.hid (below_set2 (HB7.out.trans (hb8.mono HB7.out.size)) (g := g5) (by omega) (.bool (mkN true (b - a % b))) (.slice A8 n8 c8))
      go_wp2_with fail
      generalize (w8.setCell ⟨g5, 0, none⟩ (.bool (mkN true (b - a % b)))).setCell ⟨g5, 1, none⟩ (.slice A8 n8 c8) = w9 at *
      have ⟨q90, q91, qf90, qf91, ql9⟩ := PQ9
      have ⟨r90, r91, rf90, rf91, rl9⟩ := PR9
      have ⟨x90, x91, xf90, xf91, xl9⟩ := PX9
      have ⟨y90, y91, yf90, yf91, yl9⟩ := PY9
      go_region
      all_goals
        go_wp2
        refine post_ww Tryd.results23 rfl rfl rfl ((PQ9.set _ _).far (by omega) _ _).drew ((PR9.far (by omega) _ _).set _ _).drew ⟨At, nt, ct, A8, n8, c8, rfl, ?_, ?_, ?_⟩
        · exact ((HL9.out.setP PQ9 _ _).setP (PR9.far (by omega) _ _) _ _).drew
        · exact ((HM9.out.setP PQ9 _ _).setP (PR9.far (by omega) _ _) _ _).drew
        · exact (below_set2 (below_set2 HB9.out (by omega) _ _) (by omega) _ _).drew
end Go.Proofs.YtaegadicnbmapabDoor

/- wide.Pow. -/
namespace Go.Proofs.YtaegadicnbmapabDoor
open Go.RowKit

theorem mul_rz (w : World) (A B : Option Addr) (n m ca cb : Nat) (x y : Int) {na nb : Bool} (hA : Lm w w.heap.size A n ca (digs x.natAbs)) (hB : Lm w w.heap.size B m cb (digs y.natAbs)) (hx : (digs x.natAbs).length ≤ 4096) (hy : (digs y.natAbs).length ≤ 4096) (ha : decide (x < 0) = na) (hb : decide (y < 0) = nb) :
    Calls Tryd.prog 20 #[.agg #[.bool na, .slice A n ca], .agg #[.bool nb, .slice B m cb]] w (RZ w (x * y)) := by
  subst ha hb
  have h := mul_ok w _ _ A B n m ca cb _ _ hA hB (chkB_z (digs_len.1 hx) (Nat.le_refl _) (digs_len.1 hy) (Nat.le_refl _))
  have e1 := rz_of w (decide (x < 0) != decide (y < 0)) (x.natAbs * y.natAbs) (z := x * y) (by rw [← toI_mul, toI_self, toI_self])
  rw [e1] at h
  exact h
/-- A number of at most 4096 limbs, or one that is too large. -/
theorem rz_cases {w : World} {z : Int} {e : Ending} {w' : World} (h : RZ w z e w') : ((digs z.natAbs).length ≤ 4096 ∧ RN w z e w') ∨ (4096 < (digs z.natAbs).length ∧ RW w false [] 16 e w') := by
  rcases Nat.lt_or_ge 4096 (digs z.natAbs).length with h1 | h1
  · right
    refine ⟨h1, ?_⟩
    unfold RZ mkN mkL mkE at h
    rw [decide_eq_false (by omega), if_neg (by omega), if_neg (by omega)] at h
    exact h
  · obtain ⟨k, hk⟩ : ∃ k, k = 4096 := ⟨_, rfl⟩
    exact .inl ⟨h1, rz_rn (k := k) (digs_len.1 (by omega)) (by omega) h⟩
theorem rz_big {w : World} {z : Int} (h1 : 4096 < (digs z.natAbs).length) : RZ w z = RW w false [] 16 := by
  unfold RZ mkN mkL mkE
  rw [decide_eq_false (by omega), if_neg (by omega), if_neg (by omega)]
  rfl
theorem rz_fit {w : World} {z : Int} (h1 : (digs z.natAbs).length ≤ 4096) : RZ w z = RW w (decide (z < 0)) (digs z.natAbs) 0 := by
  obtain ⟨k, hk⟩ : ∃ k, k = 4096 := ⟨_, rfl⟩
  have h2 := mkN_z (z := z) (k := k) (digs_len.1 (by omega)) (by omega)
  unfold RZ
  rw [h2.1, h2.2.1, h2.2.2]
theorem natAbs_pow_ (x : Int) (k : Nat) : (x ^ k).natAbs = x.natAbs ^ k := by
  induction k with
  | zero => simp
  | succ k ih => rw [Int.pow_succ, Nat.pow_succ, Int.natAbs_mul, ih]
/-- A power on the way is no longer than the last one. -/
theorem pow_way {x : Int} {a b : Nat} (h : a ≤ b) (hb : 4096 < (digs (x ^ a).natAbs).length) : 4096 < (digs (x ^ b).natAbs).length := by
  rw [natAbs_pow_] at hb ⊢
  rcases Nat.eq_zero_or_pos x.natAbs with h0 | h0
  · rw [h0] at hb
    have : (digs (0 ^ a)).length ≤ 1 := by
      refine digs_len.2 ?_
      rcases Nat.eq_zero_or_pos a with h1 | h1
      · subst h1; decide
      · rw [Nat.zero_pow h1]; decide
    omega
  · exact Nat.lt_of_lt_of_le hb (digs_mono (Nat.pow_le_pow_right h0 h))
theorem and_one (d : Nat) (h : d < 65536) : bits .and .i64 (d : Int) 1 = ((d % 2 : Nat) : Int) := by
  have e16 : (2 : Int) ^ 16 = 65536 := by decide
  have e1 : (2 : Int) ^ 1 = 2 := by decide
  have h1 := bits_mask .i64 16 (by decide) (fun n h0 h1 => by rw [e16] at h1; rw [IntKind.wrap_i64]; omega) 1 (by omega) (d : Int) (by omega) (by rw [e16]; omega)
  rw [e1] at h1
  have e2 : (2 : Int) - 1 = 1 := by decide
  rw [e2] at h1
  rw [h1]
  omega
theorem Pr.set1 {w : World} {g : Nat} {x y : Value} (p : Pr w g x y) (x' y' : Value) : Pr ((w.setCell ⟨g, 0, none⟩ x').setCell ⟨g, 1, none⟩ y') g x' y' := p.set x' y'

set_option maxRecDepth 100000 in
set_option maxHeartbeats 1000000 in
theorem pow_bad (w : World) (neg : Bool) (A : Option Addr) (n c : Nat) (xs : List Nat) (k : Int) (h : Lm w w.heap.size A n c xs) (hc : chk neg xs = 8) :
    Calls Tryd.prog 17 #[.agg #[.bool neg, .slice A n c], .int .i64 k] w (RW w false [] 8) := by
  have HH := Lib.hid h
  have HC := Lib.hid hc
  clear hc
  go_enter Tryd.func17, Tryd.ntmps17
  go_wp2_with fail
  refine (check_bad _ _ _ _ _ _ ((HH.out.box _).box _) HC.out).mono ?_
  rintro e w1 ⟨rfl, hb1⟩
  have ⟨hx0, hx1, hy0, hy1, hf0, hf1, hsz⟩ := box2 hb1
  go_wp2
  exact post_ws Tryd.results17 rfl rfl hy0 hy1 ⟨none, 0, 0, rfl, Lm.nil _ _, below_set2 (bbox (bbox hb1)) (by omega) _ _⟩

set_option maxRecDepth 100000 in
set_option maxHeartbeats 1000000 in
theorem pow_arg (w : World) (neg : Bool) (A : Option Addr) (n c : Nat) (xs : List Nat) (k : Int) (h : Lm w w.heap.size A n c xs) (hc : chk neg xs = 0) (hk : k < 0 ∨ 1000 < k) :
    Calls Tryd.prog 17 #[.agg #[.bool neg, .slice A n c], .int .i64 k] w (RW w false [] 2) := by
  have HH := Lib.hid h
  have HC := Lib.hid hc
  clear hc
  go_enter Tryd.func17, Tryd.ntmps17
  go_wp2_with fail
  refine (check_ok _ _ _ _ _ _ ((HH.out.box _).box _) HC.out).mono ?_
  rintro e w1 ⟨rfl, hb1⟩
  have ⟨hx0, hx1, hy0, hy1, hf0, hf1, hsz⟩ := box2 hb1
  rcases hk with hk | hk
  · go_wp2
    exact post_ws Tryd.results17 rfl rfl hy0 hy1 ⟨none, 0, 0, rfl, Lm.nil _ _, below_set2 (bbox (bbox hb1)) (by omega) _ _⟩
  · have hk2 : decide (k < 0) = false := by simp; omega
    go_wp2
    exact post_ws Tryd.results17 rfl rfl hy0 hy1 ⟨none, 0, 0, rfl, Lm.nil _ _, below_set2 (bbox (bbox hb1)) (by omega) _ _⟩

set_option maxRecDepth 100000 in
set_option maxHeartbeats 2000000 in
theorem pow_ok (w : World) (A : Option Addr) (n c k : Nat) (x : Int) {na : Bool} (h : Lm w w.heap.size A n c (digs x.natAbs)) (hx : (digs x.natAbs).length ≤ 4096) (hk : k ≤ 1000) (ha : decide (x < 0) = na) :
    Calls Tryd.prog 17 #[.agg #[.bool na, .slice A n c], .int .i64 (k : Int)] w (RZ w (x ^ k)) := by
  have HH := Lib.hid h
  have HX := Lib.hid hx
  have HN := Lib.hid ha
  have HC : Hid (chk na (digs x.natAbs) = 0) := by show _ = _; rw [← ha]; exact chk_z (digs_len.1 hx) (Nat.le_refl _)
  have hkd : decide ((k : Int) < 0) = false := decide_eq_false (by omega)
  have hkd2 : decide ((1000 : Int) < (k : Int)) = false := decide_eq_false (by omega)
  have hb10 : Lib.bitLen k ≤ 10 := Lib.bitLen_le k 10 (by omega) (by omega)
  have HB2 : Hid (k < 2 ^ Lib.bitLen k) := by
    show _ < _
    rcases Nat.eq_zero_or_pos k with h0 | h0
    · subst h0; exact Nat.pow_pos (by omega)
    · exact (bitLen_bounds (by omega) (by omega)).2.2
  clear h hx ha
  go_enter Tryd.func17, Tryd.ntmps17
  go_wp2_with fail
  refine (check_ok _ _ _ _ _ _ ((HH.out.box _).box _) HC.out).mono ?_
  rintro e w1 ⟨rfl, hb1⟩
  have P0 := Lib.hid (((Pr.new w _ rfl (.bool na) (.slice A n c) 24).alloc (.cells #[.bool false, .slice none 0 0] 24)).via hb1)
  have P1 := Lib.hid ((Pr.new (w.alloc (.cells #[.bool na, .slice A n c] 24)) (w.heap.size + 1) (by simp) (.bool false) (.slice none 0 0) 24).via hb1)
  have L1 := Lib.hid (((HH.out.box _).box _).via hb1)
  have B1 := Lib.hid (bbox (bbox hb1))
  clear hb1
  go_wp2_with fail
  refine (from_any _ 1 (by omega) (by omega)).mono ?_
  rintro e w2 ⟨A2, n2, c2, rfl, hL2, hb2⟩
  have P0' := Lib.hid (P0.out.via hb2)
  have P1' := Lib.hid (P1.out.via hb2)
  have L1' := Lib.hid (L1.out.via hb2)
  have B2 := Lib.hid (B1.out.trans (hb2.mono B1.out.size))
  have L2 := Lib.hid hL2
  clear hL2 hb2 P0 P1 L1 B1
  go_wp2_with fail
  refine (len_any _ _ (by omega) (by omega)).mono ?_
  rintro e w3 ⟨rfl, rfl⟩
  rw [show ((k : Int)).toNat = k from rfl]
  have P2 := Lib.hid (Pr.new w2 _ rfl (.bool false) (.slice A2 n2 c2) 24)
  have P0 := Lib.hid (P0'.out.alloc (.cells #[.bool false, .slice A2 n2 c2] 24))
  have P1 := Lib.hid (P1'.out.alloc (.cells #[.bool false, .slice A2 n2 c2] 24))
  have L1 := Lib.hid (L1'.out.box (.cells #[.bool false, .slice A2 n2 c2] 24))
  have L3 := Lib.hid (L2.out.box (.cells #[.bool false, .slice A2 n2 c2] 24))
  have B3 := Lib.hid (B2.out.alloc B2.out.size (.cells #[.bool false, .slice A2 n2 c2] 24))
  have hg7 : w.heap.size + 1 < w2.heap.size := P1'.out.lt
  clear P0' P1' L1' L2 B2
  generalize w2.alloc (.cells #[.bool false, .slice A2 n2 c2] 24) = W3 at *
  generalize w2.heap.size = g at *
  generalize Lib.bitLen k = bl at *
  go_wp2
  go_loopw [8, 9] (fun ev iv wr => ∃ (j : Nat) (er : Int) (ny : Bool) (A' : Option Addr) (n' c' : Nat), j ≤ bl ∧ iv = .int .i64 (j : Int) ∧ ev = .int .i64 er ∧ Pr wr g (.bool ny) (.slice A' n' c') ∧
      ((er = 0 ∧ Lm wr wr.heap.size A' n' c' (digs (x ^ (k / 2 ^ j)).natAbs) ∧ ny = decide (x ^ (k / 2 ^ j) < 0) ∧ (digs (x ^ (k / 2 ^ j)).natAbs).length ≤ 4096) ∨ (er = 16 ∧ ny = false ∧ Lm wr wr.heap.size A' n' c' [] ∧ 4096 < (digs (x ^ k).natAbs).length)) ∧
      Pr wr w.heap.size (.bool na) (.slice A n c) ∧ Pr wr (w.heap.size + 1) (.bool false) (.slice none 0 0) ∧ Lm wr wr.heap.size A n c (digs x.natAbs) ∧ Below w.heap.size w wr) (fun _ iv _ => (intOf iv).toNat)
  case atStart =>
    have e0 : k / 2 ^ bl = 0 := Nat.div_eq_of_lt HB2.out
    refine ⟨bl, 0, false, A2, n2, c2, Nat.le_refl _, rfl, rfl, P2.out, .inl ⟨rfl, ?_, ?_, ?_⟩, P0.out, P1.out, L1.out, B3.out⟩
    · rw [e0, Int.pow_zero]; exact L3.out
    · rw [e0, Int.pow_zero]; rfl
    · rw [e0, Int.pow_zero]; decide
  case round =>
    obtain ⟨j, er, ny, A', n', c', hj, rfl, rfl, hP, hS, hP0, hP1, hL, hB⟩ := hrel
    have HP := Lib.hid hP
    have HP0 := Lib.hid hP0
    have HP1 := Lib.hid hP1
    have HL := Lib.hid hL
    have HB := Lib.hid hB
    clear P0 P1 P2 L1 L3 B3 hP hP0 hP1 hL hB
    have ⟨p0, p1, _, _, _⟩ := HP.out
    have ⟨w0, w1, _, _, _⟩ := HP0.out
    have ⟨r0, r1, _, _, _⟩ := HP1.out
    rcases hS with ⟨rfl, hY, rfl, hyl⟩ | ⟨rfl, rfl, hY0, hbig⟩
    · have HY := Lib.hid hY
      clear hY
      rcases j with _ | j
      · rw [Nat.pow_zero, Nat.div_one] at HY hyl HP p0
        have HFit := Lib.hid (rz_fit (w := w) hyl)
        obtain ⟨ny, hny⟩ : ∃ b, decide (x ^ k < 0) = b := ⟨_, rfl⟩
        rw [hny] at HP HFit p0
        go_wp2
        exact post_ws Tryd.results17 rfl rfl r0 r1 (by rw [HFit.out]; exact ⟨A', n', c', rfl, HY.out.setP HP1.out _ _, below_set2 HB.out (by omega) _ _⟩)
      · obtain ⟨y, hy⟩ : ∃ y, x ^ (k / 2 ^ (j + 1)) = y := ⟨_, rfl⟩
        rw [hy] at HY HP hyl p0
        obtain ⟨ny, hny⟩ : ∃ b, decide (y < 0) = b := ⟨_, rfl⟩
        have HNy := Lib.hid hny
        have HYe := Lib.hid hy
        rw [hny] at HP p0
        clear hy hny
        go_wp2_with fail
        refine (mul_rz _ _ _ _ _ _ _ y y HY.out HY.out hyl hyl HNy.out HNy.out).mono ?_
        intro e w4 hr
        rcases rz_cases hr with ⟨hfit, hr2⟩ | ⟨hfit, hr2⟩
        · obtain ⟨A4, n4, c4, rfl, hL4, hb4⟩ := hr2
          have HQ := Lib.hid (HP.out.via hb4)
          have HQ0 := Lib.hid (HP0.out.via hb4)
          have HQ1 := Lib.hid (HP1.out.via hb4)
          have HM := Lib.hid (HL.out.via hb4)
          have HL4 := Lib.hid hL4
          have HB4 := Lib.hid (HB.out.trans (hb4.mono HB.out.size))
          have hj2 : k / 2 ^ j = 2 * (k / 2 ^ (j + 1)) + k / 2 ^ j % 2 := by rw [Nat.pow_succ, ← Nat.div_div_eq_div_mul]; omega
          have HYY : Hid (y * y = x ^ (2 * (k / 2 ^ (j + 1)))) := by show _ = _; rw [← HYe.out, ← Int.pow_add]; congr 1; omega
          have HJ2 := Lib.hid hj2
          clear hj2 hr hL4 hb4 p0 p1 w0 w1 r0 r1
          have ⟨p0, p1, f0, f1, _⟩ := HQ.out
          have ⟨w0, w1, _, _, _⟩ := HQ0.out
          have ⟨r0, r1, _, _, _⟩ := HQ1.out
          obtain ⟨d, hd⟩ : ∃ d, k / 2 ^ j = d := ⟨_, rfl⟩
          have hdq : (k : Int) / 2 ^ j = (d : Int) := by rw [cast_shr, hd]
          have hdk : d ≤ k := by rw [← hd]; exact Nat.div_le_self _ _
          have hj9 : j < 16 := by omega
          have HDd := Lib.hid hd
          clear hd
          have hand := and_one d (by omega)
          rcases Nat.mod_two_eq_zero_or_one d with hd2 | hd2
          · rw [hd2] at hand
            have hE : k / 2 ^ j = 2 * (k / 2 ^ (j + 1)) := by have := HJ2.out; have := HDd.out; omega
            have HE : Hid (y * y = x ^ (k / 2 ^ j)) := by show _ = _; rw [HYY.out, hE]
            have hand1 : ¬ bits .and .i64 (d : Int) 1 = 1 := by rw [hand]; decide
            clear hE hand
            have hfit' := hfit
            rw [HE.out] at hfit'
            have HF := Lib.hid hfit'
            clear hfit hfit'
            go_wp2
            go_roundw
            case rel =>
              refine ⟨j, 0, decide (y * y < 0), A4, n4, c4, by omega, rfl, rfl, HQ.out.set _ _, .inl ⟨rfl, ?_, by rw [HE.out], HF.out⟩, HQ0.out.far (by omega) _ _, HQ1.out.far (by omega) _ _, HM.out.setP HQ.out _ _, below_set2 HB4.out (by omega) _ _⟩
              rw [← HE.out]
              exact HL4.out.setP HQ.out _ _
            case measure => simp [intOf]
          · rw [hd2] at hand
            have hE : k / 2 ^ j = 2 * (k / 2 ^ (j + 1)) + 1 := by have := HJ2.out; have := HDd.out; omega
            have HE : Hid (y * y * x = x ^ (k / 2 ^ j)) := by show _ = _; rw [HYY.out, hE, Int.pow_succ]
            have hand1 : bits .and .i64 (d : Int) 1 = 1 := by rw [hand]; rfl
            clear hE hand
            obtain ⟨nyy, hnyy⟩ : ∃ b, decide (y * y < 0) = b := ⟨_, rfl⟩
            have HNyy := Lib.hid hnyy
            rw [hnyy]
            clear hnyy
            have HQ5 := Lib.hid (HQ.out.set (.bool nyy) (.slice A4 n4 c4))
            have HQ50 := Lib.hid (HQ0.out.far (h := g) (by omega) (.bool nyy) (.slice A4 n4 c4))
            have HQ51 := Lib.hid (HQ1.out.far (h := g) (by omega) (.bool nyy) (.slice A4 n4 c4))
            have HM5 := Lib.hid (HM.out.setP HQ.out (.bool nyy) (.slice A4 n4 c4))
            have HL5 := Lib.hid (HL4.out.setP HQ.out (.bool nyy) (.slice A4 n4 c4))
            have HB5 := Lib.hid (below_set2 HB4.out (g := g) (by omega) (.bool nyy) (.slice A4 n4 c4))
            have HFq := Lib.hid hfit
            clear hfit
            go_wp2_with fail
            refine (mul_rz _ _ _ _ _ _ _ (y * y) x HL5.out HM5.out HFq.out HX.out HNyy.out HN.out).mono ?_
            intro e w6 hr
            rcases rz_cases hr with ⟨hfit, hr2⟩ | ⟨hfit, hr2⟩
            · obtain ⟨A6, n6, c6, rfl, hL6, hb6⟩ := hr2
              have HQ6 := Lib.hid (HQ5.out.via hb6)
              have HQ60 := Lib.hid (HQ50.out.via hb6)
              have HQ61 := Lib.hid (HQ51.out.via hb6)
              have HM6 := Lib.hid (HM5.out.via hb6)
              have HL6 := Lib.hid hL6
              have HB6 := Lib.hid (HB5.out.trans (hb6.mono HB5.out.size))
              have HF := Lib.hid hfit
              clear hr hL6 hb6 hfit p0 p1 f0 f1 w0 w1 r0 r1
              have ⟨p0, p1, f0, f1, _⟩ := HQ6.out
              go_wp2
              go_roundw
              case rel =>
                refine ⟨j, 0, decide (y * y * x < 0), A6, n6, c6, by omega, rfl, rfl, HQ6.out.set _ _, .inl ⟨rfl, ?_, by rw [HE.out], by rw [← HE.out]; exact HF.out⟩, HQ60.out.far (by omega) _ _, HQ61.out.far (by omega) _ _, HM6.out.setP HQ6.out _ _, below_set2 HB6.out (by omega) _ _⟩
                rw [← HE.out]
                exact HL6.out.setP HQ6.out _ _
              case measure => simp [intOf]
            · obtain ⟨A6, n6, c6, rfl, hL6, hb6⟩ := hr2
              have HQ6 := Lib.hid (HQ5.out.via hb6)
              have HQ60 := Lib.hid (HQ50.out.via hb6)
              have HQ61 := Lib.hid (HQ51.out.via hb6)
              have HM6 := Lib.hid (HM5.out.via hb6)
              have HB6 := Lib.hid (HB5.out.trans (hb6.mono HB5.out.size))
              have HF : Hid (4096 < (digs (x ^ k).natAbs).length) := by
                show _ < _
                rw [HE.out] at hfit
                exact pow_way (Nat.div_le_self _ _) hfit
              have HL6 := Lib.hid hL6
              clear hr hL6 hb6 hfit p0 p1 f0 f1 w0 w1 r0 r1
              have ⟨p0, p1, f0, f1, _⟩ := HQ6.out
              go_wp2
              go_roundw
              case rel =>
                exact ⟨j, 16, false, A6, n6, c6, by omega, rfl, rfl, HQ6.out.set _ _, .inr ⟨rfl, rfl, HL6.out.setP HQ6.out _ _, HF.out⟩, HQ60.out.far (by omega) _ _, HQ61.out.far (by omega) _ _, HM6.out.setP HQ6.out _ _, below_set2 HB6.out (by omega) _ _⟩
              case measure => simp [intOf]
        · obtain ⟨A4, n4, c4, rfl, hL4, hb4⟩ := hr2
          have HQ := Lib.hid (HP.out.via hb4)
          have HQ0 := Lib.hid (HP0.out.via hb4)
          have HQ1 := Lib.hid (HP1.out.via hb4)
          have HM := Lib.hid (HL.out.via hb4)
          have HL4 := Lib.hid hL4
          have HB4 := Lib.hid (HB.out.trans (hb4.mono HB.out.size))
          have HF : Hid (4096 < (digs (x ^ k).natAbs).length) := by
            show _ < _
            have hYY : y * y = x ^ (2 * (k / 2 ^ (j + 1))) := by rw [← HYe.out, ← Int.pow_add]; congr 1; omega
            rw [hYY] at hfit
            refine pow_way ?_ hfit
            have h1 : 2 * (k / 2 ^ (j + 1)) = 2 * (k / 2 ^ j / 2) := by rw [Nat.pow_succ, ← Nat.div_div_eq_div_mul]
            have h2 : k / 2 ^ j ≤ k := Nat.div_le_self _ _
            omega
          clear hr hL4 hb4 hfit p0 p1 w0 w1 r0 r1
          have ⟨p0, p1, f0, f1, _⟩ := HQ.out
          obtain ⟨d, hd⟩ : ∃ d, k / 2 ^ j = d := ⟨_, rfl⟩
          have hdq : (k : Int) / 2 ^ j = (d : Int) := by rw [cast_shr, hd]
          have hdk : d ≤ k := by rw [← hd]; exact Nat.div_le_self _ _
          have hj9 : j < 16 := by omega
          clear hd
          have hand := and_one d (by omega)
          rcases Nat.mod_two_eq_zero_or_one d with hd2 | hd2
          · rw [hd2] at hand
            have hand1 : ¬ bits .and .i64 (d : Int) 1 = 1 := by rw [hand]; decide
            clear hand
            go_wp2
            go_roundw
            case rel =>
              exact ⟨j, 16, false, A4, n4, c4, by omega, rfl, rfl, HQ.out.set _ _, .inr ⟨rfl, rfl, HL4.out.setP HQ.out _ _, HF.out⟩, HQ0.out.far (by omega) _ _, HQ1.out.far (by omega) _ _, HM.out.setP HQ.out _ _, below_set2 HB4.out (by omega) _ _⟩
            case measure => simp [intOf]
          · rw [hd2] at hand
            have hand1 : bits .and .i64 (d : Int) 1 = 1 := by rw [hand]; rfl
            clear hand
            go_wp2
            go_roundw
            case rel =>
              exact ⟨j, 16, false, A4, n4, c4, by omega, rfl, rfl, HQ.out.set _ _, .inr ⟨rfl, rfl, HL4.out.setP HQ.out _ _, HF.out⟩, HQ0.out.far (by omega) _ _, HQ1.out.far (by omega) _ _, HM.out.setP HQ.out _ _, below_set2 HB4.out (by omega) _ _⟩
            case measure => simp [intOf]
    · have HFit := Lib.hid (rz_big (w := w) hbig)
      have HY0 := Lib.hid hY0
      clear hY0
      go_wp2
      all_goals exact post_ws Tryd.results17 rfl rfl r0 r1 (by rw [HFit.out]; exact ⟨A', n', c', rfl, HY0.out.setP HP1.out _ _, below_set2 HB.out (by omega) _ _⟩)
end Go.Proofs.YtaegadicnbmapabDoor

/- Root, power, shift, greatest common divisor and exact division, in whole numbers. -/
namespace Go.Proofs.YtaegadicnbmapabDoor
open Go.RowKit

theorem toI_scale (neg : Bool) (v m : Nat) : toI neg (v * m) = toI neg v * m := by
  unfold toI
  cases neg
  · simp
  · simp [Int.neg_mul]
theorem natAbs_two_pow (k : Nat) : ((2 : Int) ^ k).natAbs = 2 ^ k := by rw [natAbs_pow_]; rfl
theorem two_pow_cast (k : Nat) : (((2 : Nat) ^ k : Nat) : Int) = (2 : Int) ^ k := by simp
theorem two_lt8 (k : Nat) (hk : k ≤ 255) : 2 ^ k < 4294967296 ^ 8 :=
  Nat.lt_of_le_of_lt (Nat.pow_le_pow_right (by omega) hk) (by decide)
theorem sz_two (k : Nat) (hk : k ≤ 255) : Sz 8 ((2 : Int) ^ k) := by
  unfold Sz
  rw [natAbs_two_pow]
  exact two_lt8 k hk
section
variable (w : World) (A : Option Addr) (n c k : Nat) (x : Int) (hA : Lm w w.heap.size A n c (digs x.natAbs))
include hA
theorem sqrt_n (hx : Sz k x) (hk : k ≤ 2000) (h0 : 0 ≤ x) {na : Bool} (ha : decide (x < 0) = na) :
    Calls Tryd.prog 15 #[.agg #[.bool na, .slice A n c]] w fun e w' => ∃ r : Nat, IsRt x.natAbs r ∧ RN w (r : Int) e w' := by
  have hc := chk_z hx (show k ≤ 4096 by omega)
  subst ha
  rw [decide_eq_false (by omega)] at hc ⊢
  refine (sqrt_ok w A n c _ hA hc).mono fun e w' ⟨r, hr, A', n', c', he, hL, hb⟩ => ⟨r, hr, A', n', c', ?_, hL, hb⟩
  rw [decide_eq_false (show ¬ (r : Int) < 0 by omega)]
  exact he
theorem pow2_n (hx : x = 2) (hk : k ≤ 255) : Calls Tryd.prog 17 #[.agg #[.bool false, .slice A n c], .int .i64 (k : Int)] w (RN w ((2 : Int) ^ k)) := by
  subst hx
  exact (pow_ok w A n c k 2 hA (by decide) (by omega) rfl).mono fun e w' hr => rz_rn (sz_two k hk) (by omega) hr
theorem shup_n (j : Nat) (hx : Sz j x) (hj : j ≤ 2000) (hk : k ≤ 255) {na : Bool} (ha : decide (x < 0) = na) :
    Calls Tryd.prog 19 #[.agg #[.bool na, .slice A n c], .int .i64 (k : Int)] w (RN w (x * (2 : Int) ^ k)) := by
  have hc := chk_z hx (show j ≤ 4096 by omega)
  subst ha
  have h := shift_up w _ A n c _ k hA hc (by omega)
  have e1 := rz_of w (decide (x < 0)) (x.natAbs * 2 ^ k) (z := x * (2 : Int) ^ k) (by rw [toI_scale, toI_self, two_pow_cast])
  rw [e1] at h
  exact h.mono fun e w' hr => rz_rn (hx.mul (sz_two k hk)) (by omega) hr
theorem shdn_n (j : Nat) (z : Int) (hx : Sz j x) (hj : j ≤ 2000) (hz : z = -(k : Int)) (hk : k ≤ 255) (hT : TabD w) {na : Bool} (ha : decide (x < 0) = na) :
    Calls Tryd.prog 19 #[.agg #[.bool na, .slice A n c], .int .i64 z] w (RN w (x / (2 : Int) ^ k)) := by
  rcases Nat.eq_zero_or_pos k with h0 | h0
  · subst h0
    obtain rfl : z = ((0 : Nat) : Int) := by omega
    have h := shup_n w A n c 0 x hA j hx hj (by omega) ha
    rw [Int.pow_zero, Int.mul_one] at h
    rw [Int.pow_zero, Int.ediv_one]
    exact h
  have hc := chk_z hx (show j ≤ 4096 by omega)
  have hd : x.natAbs / 2 ^ k ≤ x.natAbs := Nat.div_le_self _ _
  have hxs : x.natAbs < 4294967296 ^ j := hx
  have hj1 : 4294967296 ^ (j + 1) = 4294967296 ^ j * 4294967296 := rfl
  have hP : 0 < 2 ^ k := Nat.pow_pos (by omega)
  have key : ∀ (v : Nat) (ng : Bool), toI ng v = x / (2 : Int) ^ k → v ≤ x.natAbs + 1 → ∀ e w', RW w (mkN ng v) (mkL v) (mkE v) e w' → RN w (x / (2 : Int) ^ k) e w' := by
    intro v ng e0 hv e w' hr
    rw [rz_of w ng v e0.symm] at hr
    refine rz_rn (k := j + 1) ?_ (by omega) hr
    unfold Sz
    rw [← e0, toI_abs, pow_succ_]
    have := pow_pos_ j
    omega
  by_cases hs : x < 0
  · rw [← ha, decide_eq_true hs] at *
    have hdm := Nat.div_add_mod x.natAbs (2 ^ k)
    have hml := Nat.mod_lt x.natAbs hP
    by_cases hr : x.natAbs % 2 ^ k = 0
    · refine (shift_down_even w A n c _ k z hA hc hz h0 (by omega) hT hr).mono fun e w' => key _ true ?_ (by omega) e w'
      refine ((Int.ediv_emod_unique (a := x) (b := (2 : Int) ^ k) (r := 0) (q := toI true (x.natAbs / 2 ^ k)) (by rw [← two_pow_cast]; omega)).2 ⟨?_, by omega, by rw [← two_pow_cast]; omega⟩).1.symm
      have e1 := toI_scale true (x.natAbs / 2 ^ k) (2 ^ k)
      rw [two_pow_cast] at e1
      rw [Int.mul_comm, ← e1, Nat.mul_comm]
      rw [hr] at hdm
      rw [show 2 ^ k * (x.natAbs / 2 ^ k) = x.natAbs by omega]
      unfold toI
      rw [if_pos rfl]
      omega
    · refine (shift_down_lost w A n c _ k z hA hc hz h0 (by omega) hT hr).mono fun e w' => key _ true ?_ (by omega) e w'
      refine ((Int.ediv_emod_unique (a := x) (b := (2 : Int) ^ k) (r := (2 : Int) ^ k - (x.natAbs % 2 ^ k : Nat)) (q := toI true (x.natAbs / 2 ^ k + 1)) (by rw [← two_pow_cast]; omega)).2 ⟨?_, by rw [← two_pow_cast]; omega, by rw [← two_pow_cast]; omega⟩).1.symm
      have e1 := toI_scale true (x.natAbs / 2 ^ k + 1) (2 ^ k)
      rw [two_pow_cast] at e1
      rw [Int.mul_comm, ← e1, Nat.mul_comm, Nat.mul_add, Nat.mul_one]
      rw [← two_pow_cast]
      unfold toI
      rw [if_pos rfl]
      omega
  · rw [← ha, decide_eq_false hs] at *
    refine (shift_down_pos w A n c _ k z hA hc hz h0 (by omega)).mono fun e w' => key _ false ?_ (by omega) e w'
    have e0 : x = (x.natAbs : Int) := by omega
    rw [← two_pow_cast]
    unfold toI
    rw [if_neg (by simp)]
    conv => rhs; rw [e0]
    simp
end
section
variable (w : World) (A B : Option Addr) (n m ca cb k : Nat) (x y : Int) (hA : Lm w w.heap.size A n ca (digs x.natAbs)) (hB : Lm w w.heap.size B m cb (digs y.natAbs)) (hx : Sz k x) (hy : Sz k y) (hk : k ≤ 2000)
include hA hB hx hy hk
theorem sz_gcd : Sz k (Nat.gcd x.natAbs y.natAbs : Int) := by
  have _ := hA; have _ := hB; have _ := hk
  unfold Sz at *
  rw [Int.natAbs_natCast]
  rcases Nat.eq_zero_or_pos x.natAbs with h0 | h0
  · rw [h0, Nat.gcd_zero_left]; exact hy
  · exact Nat.lt_of_le_of_lt (Nat.gcd_le_left _ h0) hx
theorem gcd_n {na nb : Bool} (ha : decide (x < 0) = na) (hb : decide (y < 0) = nb) : Calls Tryd.prog 21 #[.agg #[.bool na, .slice A n ca], .agg #[.bool nb, .slice B m cb]] w (RN w (Nat.gcd x.natAbs y.natAbs : Int)) := by
  have hz := sz_gcd w A B n m ca cb k x y hA hB hx hy hk
  subst ha hb
  have h := gcd_any w _ _ A B n m ca cb _ _ hA hB (chkB_z hx (by omega) hy (by omega)) (by rw [← hA.len]; exact Nat.le_trans hx.len (by omega)) (by rw [← hB.len]; exact Nat.le_trans hy.len (by omega))
  refine h.mono fun e w' hr => ?_
  have hr2 := rw_rn (neg := false) (Nat.le_trans hz.len (by omega)) hr
  exact hr2
/-- Exact division of the reference: the rest is 0. -/
theorem rdiv0_n {na nb : Bool} (ha : decide (x < 0) = na) (hb : decide (y < 0) = nb) (hy0 : 0 < y) (hd : y.natAbs ∣ x.natAbs) : Calls Tryd.prog 23 #[.agg #[.bool na, .slice A n ca], .agg #[.bool nb, .slice B m cb]] w
      (fun e w' => ∃ Aq nq cq Ar cr gq gr, e = .returned (.tuple #[.agg #[.bool gq, .slice Aq nq cq], .agg #[.bool gr, .slice Ar 0 cr], .int .i64 0]) ∧ Below w.heap.size w w') := by
  have hv := chkB_z hx (show k ≤ 4096 by omega) hy (show k ≤ 4096 by omega)
  rw [ha, hb] at hv
  have h0 : x.natAbs % y.natAbs = 0 := Nat.mod_eq_zero_of_dvd hd
  have hnb : nb = false := by rw [← hb]; exact decide_eq_false (by omega)
  subst hnb
  have fin : ∀ (n1 n2 : Bool) (l1 : List Nat) e w', RWW w n1 l1 n2 (digs (x.natAbs % y.natAbs)) 0 e w' → ∃ Aq nq cq Ar cr gq gr, e = .returned (.tuple #[.agg #[.bool gq, .slice Aq nq cq], .agg #[.bool gr, .slice Ar 0 cr], .int .i64 0]) ∧ Below w.heap.size w w' := by
    rintro n1 n2 l1 e w' ⟨Aq, nq, cq, Ar, nr, cr, he, _, hr, hb⟩
    rw [h0] at hr
    obtain rfl : nr = 0 := hr.len.symm
    exact ⟨Aq, nq, cq, Ar, cr, n1, n2, he, hb⟩
  cases na
  · exact (rdivmod_same w false false A B n m ca cb _ _ hA hB hv (by omega) rfl (decide (0 < x.natAbs % y.natAbs)) rfl).mono fun e w' h => fin _ _ _ e w' h
  · exact (rdivmod_exact w true false A B n m ca cb _ _ hA hB hv (by omega) (.inl ⟨rfl, rfl⟩) h0).mono fun e w' h => fin _ _ _ e w' h
end
/-- The quotient of RD2 for a positive divisor is the floor. -/
theorem rd2_floor {x y q r : Int} (e1 : x = q * y + r) (e2 : r.natAbs < y.natAbs) (e3 : r = 0 ∨ decide (r < 0) = decide (y < 0)) (hy : 0 < y) : q = x / y := by
  have hr : 0 ≤ r := by
    rcases e3 with h | h
    · omega
    · rw [decide_eq_false (show ¬ y < 0 by omega)] at h
      have := of_decide_eq_false h
      omega
  exact ((Int.ediv_emod_unique (a := x) (b := y) (r := r) (q := q) hy).2 ⟨by rw [Int.mul_comm]; omega, hr, by omega⟩).1.symm
end Go.Proofs.YtaegadicnbmapabDoor

/- The law WideDivision at any two numbers: the walk. -/
namespace Go.Proofs.YtaegadicnbmapabDoor
open Go.RowKit

theorem sameB_z {x y : Int} (h : x = y) : sameB (decide (x < 0)) (digs x.natAbs) (decide (y < 0)) (digs y.natAbs) = true := by subst h; exact sameB_self _ _
theorem rsame_n (w : World) (A B : Option Addr) (n m ca cb : Nat) (x y : Int) {na nb : Bool} (hA : Lm w w.heap.size A n ca (digs x.natAbs)) (hB : Lm w w.heap.size B m cb (digs y.natAbs)) (ha : decide (x < 0) = na) (hb : decide (y < 0) = nb) (h : x = y) :
    Calls Tryd.prog 13 #[.agg #[.bool na, .slice A n ca], .agg #[.bool nb, .slice B m cb]] w fun e w' => e = .returned (.bool true) ∧ Below w.heap.size w w' := by
  subst ha hb
  have e := rsame_any w (decide (x < 0)) (decide (y < 0)) A B n m ca cb _ _ hA hB
  rw [sameB_z h] at e
  exact e

set_option maxRecDepth 100000 in
set_option maxHeartbeats 1000000 in
theorem divn_long (w : World) (na nb : Bool) (A B : Option Addr) (n m ca cb : Nat) (xs ys : List Nat) (hA : Lm w w.heap.size A n ca xs) (hB : Lm w w.heap.size B m cb ys) (hD : TabD w) (hU : TabU w)
    (hl : ∀ W : World, Lm W W.heap.size A n ca xs → Lm W W.heap.size B m cb ys → Calls Tryd.prog 7 #[.int .i64 200, .agg #[.bool na, .slice A n ca], .agg #[.bool nb, .slice B m cb], .agg #[.bool nb, .slice B m cb]] W fun e w' => e = .returned (.bool true) ∧ Below W.heap.size W w') :
    Calls Tryd.prog 3 #[.agg #[.bool na, .slice A n ca], .agg #[.bool nb, .slice B m cb]] w fun e w' => e = .returned (.bool true) ∧ Below w.heap.size w w' := by
  have LA := Lib.hid hA
  have LB := Lib.hid hB
  have TD := Lib.hid hD
  have TU := Lib.hid hU
  have HL := Lib.hid hl
  have HB : Hid (Below w.heap.size w w) := Below.refl _ _
  clear hA hB hD hU hl
  go_enter Tryd.func3, Tryd.ntmps3
  go_wp2_with fail
  refine (alive_any _ ((TD.out.box _).box _) ((TU.out.box _).box _)).mono ?_
  rintro e w1 ⟨rfl, hb1⟩
  have QLA := Lib.hid (((LA.out.box _).box _).via hb1)
  have QLB := Lib.hid (((LB.out.box _).box _).via hb1)
  have QTD := Lib.hid (((TD.out.box _).box _).via hb1)
  have QTU := Lib.hid (((TU.out.box _).box _).via hb1)
  have QHB := Lib.hid (HB.out.trans ((bbox (bbox hb1)).mono HB.out.size))
  have ⟨N0, N1⟩ := boxes2 hb1
  have PA := Lib.hid N0
  have PB := Lib.hid N1
  clear N0 N1
  clear LA LB TD TU HB
  have LA := QLA
  clear QLA
  have LB := QLB
  clear QLB
  have TD := QTD
  clear QTD
  have TU := QTU
  clear QTU
  have HB := QHB
  clear QHB
  clear hb1
  have ⟨c0, c1, _, _, _⟩ := PA.out
  have ⟨c2, c3, _, _, _⟩ := PB.out
  go_wp2_with fail
  refine (HL.out _ LA.out LB.out).mono ?_
  rintro e w2 ⟨rfl, hb2⟩
  have QLA := Lib.hid (LA.out.via hb2)
  have QLB := Lib.hid (LB.out.via hb2)
  have QPA := Lib.hid (PA.out.via hb2)
  have QPB := Lib.hid (PB.out.via hb2)
  have QTD := Lib.hid (TD.out.via hb2)
  have QTU := Lib.hid (TU.out.via hb2)
  have QHB := Lib.hid (HB.out.trans (hb2.mono HB.out.size))
  clear LA LB PA PB TD TU HB
  have LA := QLA
  clear QLA
  have LB := QLB
  clear QLB
  have PA := QPA
  clear QPA
  have PB := QPB
  clear QPB
  have TD := QTD
  clear QTD
  have TU := QTU
  clear QTU
  have HB := QHB
  clear QHB
  clear c0 c1 c2 c3
  clear hb2
  go_wp2
  go_ret
  exact ⟨rfl, HB.out⟩

set_option maxRecDepth 100000 in
set_option maxHeartbeats 4000000 in
theorem divn_zero (w : World) (A B : Option Addr) (n m ca cb : Nat) (x y : Int) (hA : Lm w w.heap.size A n ca (digs x.natAbs)) (hB : Lm w w.heap.size B m cb (digs y.natAbs)) (hD : TabD w) (hU : TabU w)
    (hx : Sz 200 x) (hy : Sz 200 y) (hy0 : y = 0) :
    Calls Tryd.prog 3 #[.agg #[.bool (decide (x < 0)), .slice A n ca], .agg #[.bool (decide (y < 0)), .slice B m cb]] w fun e w' => e = .returned (.bool true) ∧ Below w.heap.size w w' := by
  have LA := Lib.hid hA
  have LB := Lib.hid hB
  have TD := Lib.hid hD
  have TU := Lib.hid hU
  have SX := Lib.hid hx
  have SY := Lib.hid hy
  have hn : n ≤ 200 := by rw [← hA.len]; exact hx.len
  have hm : m ≤ 200 := by rw [← hB.len]; exact hy.len
  have hac := hA.cap
  have hax := hA.max
  have hbc := hB.cap
  have hbx := hB.max
  obtain rfl : m = 0 := by rw [← hB.len, hy0]; rfl
  clear hy0
  have HB : Hid (Below w.heap.size w w) := Below.refl _ _
  clear hA hB hD hU hx hy
  obtain ⟨nx, hnx⟩ : ∃ b, decide (x < 0) = b := ⟨_, rfl⟩
  obtain ⟨ny, hny⟩ : ∃ b, decide (y < 0) = b := ⟨_, rfl⟩
  have HX := Lib.hid hnx
  have HY := Lib.hid hny
  rw [hnx, hny]
  clear hnx hny
  go_enter Tryd.func3, Tryd.ntmps3
  go_wp2_with fail
  refine (alive_any _ ((TD.out.box _).box _) ((TU.out.box _).box _)).mono ?_
  rintro e w1 ⟨rfl, hb1⟩
  have QLA := Lib.hid (((LA.out.box _).box _).via hb1)
  have QLB := Lib.hid (((LB.out.box _).box _).via hb1)
  have QTD := Lib.hid (((TD.out.box _).box _).via hb1)
  have QTU := Lib.hid (((TU.out.box _).box _).via hb1)
  have QHB := Lib.hid (HB.out.trans ((bbox (bbox hb1)).mono HB.out.size))
  have ⟨N0, N1⟩ := boxes2 hb1
  have PA := Lib.hid N0
  have PB := Lib.hid N1
  clear N0 N1
  clear LA LB TD TU HB
  have LA := QLA
  clear QLA
  have LB := QLB
  clear QLB
  have TD := QTD
  clear QTD
  have TU := QTU
  clear QTU
  have HB := QHB
  clear QHB
  clear hb1
  have ⟨c0, c1, _, _, _⟩ := PA.out
  have ⟨c2, c3, _, _, _⟩ := PB.out
  go_wp2_with fail
  refine (long_no _ _ _ _ _ _ _ n 0 0 _ _ _ _ _ _ 200 LA.out LB.out LB.out (by rw [← HX.out]; exact chk_z SX.out (by omega)) (by rw [← HY.out]; exact chk_z SY.out (by omega)) (by rw [← HY.out]; exact chk_z SY.out (by omega)) (by omega) (by omega) (by omega)).mono ?_
  rintro e w2 ⟨rfl, hb2⟩
  have QLA := Lib.hid (LA.out.via hb2)
  have QLB := Lib.hid (LB.out.via hb2)
  have QPA := Lib.hid (PA.out.via hb2)
  have QPB := Lib.hid (PB.out.via hb2)
  have QTD := Lib.hid (TD.out.via hb2)
  have QTU := Lib.hid (TU.out.via hb2)
  have QHB := Lib.hid (HB.out.trans (hb2.mono HB.out.size))
  clear LA LB PA PB TD TU HB
  have LA := QLA
  clear QLA
  have LB := QLB
  clear QLB
  have PA := QPA
  clear QPA
  have PB := QPB
  clear QPB
  have TD := QTD
  clear QTD
  have TU := QTU
  clear QTU
  have HB := QHB
  clear QHB
  clear c0 c1 c2 c3
  clear hb2
  have ⟨c0, c1, _, _, _⟩ := PA.out
  have ⟨c2, c3, _, _, _⟩ := PB.out
  go_wp2
  go_ret
  exact ⟨rfl, HB.out⟩

set_option maxRecDepth 100000 in
set_option maxHeartbeats 4000000 in
theorem divn_main (w : World) (A B : Option Addr) (n m ca cb : Nat) (x y : Int) (hA : Lm w w.heap.size A n ca (digs x.natAbs)) (hB : Lm w w.heap.size B m cb (digs y.natAbs)) (hD : TabD w) (hU : TabU w)
    (hx : Sz 200 x) (hy : Sz 200 y) (hy0 : y ≠ 0) :
    Calls Tryd.prog 3 #[.agg #[.bool (decide (x < 0)), .slice A n ca], .agg #[.bool (decide (y < 0)), .slice B m cb]] w fun e w' => e = .returned (.bool true) ∧ Below w.heap.size w w' := by
  have LA := Lib.hid hA
  have LB := Lib.hid hB
  have TD := Lib.hid hD
  have TU := Lib.hid hU
  have SX := Lib.hid hx
  have SY := Lib.hid hy
  have hn : n ≤ 200 := by rw [← hA.len]; exact hx.len
  have hm : m ≤ 200 := by rw [← hB.len]; exact hy.len
  have hac := hA.cap
  have hax := hA.max
  have hbc := hB.cap
  have hbx := hB.max
  have hm0 : 0 < m := by rw [← hB.len, digs_pos]; omega
  have hmz : ((m : Int) == 0) = false := by simp; omega
  have HB : Hid (Below w.heap.size w w) := Below.refl _ _
  clear hA hB hD hU hx hy
  obtain ⟨nx, hnx⟩ : ∃ b, decide (x < 0) = b := ⟨_, rfl⟩
  obtain ⟨ny, hny⟩ : ∃ b, decide (y < 0) = b := ⟨_, rfl⟩
  have HX := Lib.hid hnx
  have HY := Lib.hid hny
  rw [hnx, hny]
  clear hnx hny
  go_enter Tryd.func3, Tryd.ntmps3
  go_wp2_with fail
  refine (alive_any _ ((TD.out.box _).box _) ((TU.out.box _).box _)).mono ?_
  rintro e w1 ⟨rfl, hb1⟩
  have QLA := Lib.hid (((LA.out.box _).box _).via hb1)
  have QLB := Lib.hid (((LB.out.box _).box _).via hb1)
  have QTD := Lib.hid (((TD.out.box _).box _).via hb1)
  have QTU := Lib.hid (((TU.out.box _).box _).via hb1)
  have QHB := Lib.hid (HB.out.trans ((bbox (bbox hb1)).mono HB.out.size))
  have ⟨N0, N1⟩ := boxes2 hb1
  have PA := Lib.hid N0
  have PB := Lib.hid N1
  clear N0 N1
  clear LA LB TD TU HB
  have LA := QLA
  clear QLA
  have LB := QLB
  clear QLB
  have TD := QTD
  clear QTD
  have TU := QTU
  clear QTU
  have HB := QHB
  clear QHB
  clear hb1
  have ⟨c0, c1, _, _, _⟩ := PA.out
  have ⟨c2, c3, _, _, _⟩ := PB.out
  go_wp2_with fail
  refine (long_no _ _ _ _ _ _ _ n m m _ _ _ _ _ _ 200 LA.out LB.out LB.out (by rw [← HX.out]; exact chk_z SX.out (by omega)) (by rw [← HY.out]; exact chk_z SY.out (by omega)) (by rw [← HY.out]; exact chk_z SY.out (by omega)) (by omega) (by omega) (by omega)).mono ?_
  rintro e w2 ⟨rfl, hb2⟩
  have QLA := Lib.hid (LA.out.via hb2)
  have QLB := Lib.hid (LB.out.via hb2)
  have QPA := Lib.hid (PA.out.via hb2)
  have QPB := Lib.hid (PB.out.via hb2)
  have QTD := Lib.hid (TD.out.via hb2)
  have QTU := Lib.hid (TU.out.via hb2)
  have QHB := Lib.hid (HB.out.trans (hb2.mono HB.out.size))
  clear LA LB PA PB TD TU HB
  have LA := QLA
  clear QLA
  have LB := QLB
  clear QLB
  have PA := QPA
  clear QPA
  have PB := QPB
  clear QPB
  have TD := QTD
  clear QTD
  have TU := QTU
  clear QTU
  have HB := QHB
  clear QHB
  clear c0 c1 c2 c3
  clear hb2
  have ⟨c0, c1, _, _, _⟩ := PA.out
  have ⟨c2, c3, _, _, _⟩ := PB.out
  go_wp2_with fail
  refine (divmod_n _ _ _ _ _ _ _ 200 x y LA.out LB.out SX.out SY.out (by omega) hy0 HX.out HY.out).mono ?_
  rintro e w3 ⟨q, r, hq1, hq2, hq3, hq4, Aq, nq, cq, Ar, nr, cr, rfl, hLq, hLr, hb3⟩
  have QLA := Lib.hid (LA.out.via hb3)
  have QLB := Lib.hid (LB.out.via hb3)
  have QPA := Lib.hid (PA.out.via hb3)
  have QPB := Lib.hid (PB.out.via hb3)
  have QTD := Lib.hid (TD.out.via hb3)
  have QTU := Lib.hid (TU.out.via hb3)
  have QHB := Lib.hid (HB.out.trans (hb3.mono HB.out.size))
  clear LA LB PA PB TD TU HB
  have LA := QLA
  clear QLA
  have LB := QLB
  clear QLB
  have PA := QPA
  clear QPA
  have PB := QPB
  clear QPB
  have TD := QTD
  clear QTD
  have TU := QTU
  clear QTU
  have HB := QHB
  clear QHB
  have Lq := Lib.hid hLq
  have Lr := Lib.hid hLr
  have E1 := Lib.hid hq1
  have E2 := Lib.hid hq2
  have E3 := Lib.hid hq3
  have Sq : Hid (Sz 200 q) := Nat.lt_of_le_of_lt hq4 SX.out
  have Sr : Hid (Sz 200 r) := Nat.lt_trans hq2 SY.out
  clear hLq hLr hq1 hq2 hq3 hq4
  obtain ⟨gq, hgq⟩ : ∃ b, decide (q < 0) = b := ⟨_, rfl⟩
  obtain ⟨gr, hgr⟩ : ∃ b, decide (r < 0) = b := ⟨_, rfl⟩
  have Hq := Lib.hid hgq
  have Hr := Lib.hid hgr
  rw [hgq, hgr]
  clear hgq hgr
  clear c0 c1 c2 c3
  clear hb3
  go_wp2_with fail
  refine (rcheck_n _ _ _ _ 1500 (q) ((Lq.out.box _).box _) (Sq.out.mono (by omega)) (by omega) Hq.out).mono ?_
  rintro e w4 ⟨rfl, hb4⟩
  have QLA := Lib.hid (((LA.out.box _).box _).via hb4)
  have QLB := Lib.hid (((LB.out.box _).box _).via hb4)
  have QLq := Lib.hid (((Lq.out.box _).box _).via hb4)
  have QLr := Lib.hid (((Lr.out.box _).box _).via hb4)
  have QPA := Lib.hid (((PA.out.alloc _).alloc _).via hb4)
  have QPB := Lib.hid (((PB.out.alloc _).alloc _).via hb4)
  have QTD := Lib.hid (((TD.out.box _).box _).via hb4)
  have QTU := Lib.hid (((TU.out.box _).box _).via hb4)
  have QHB := Lib.hid (HB.out.trans ((bbox (bbox hb4)).mono HB.out.size))
  have ⟨N0, N1⟩ := boxes2 hb4
  have Pq := Lib.hid N0
  have Pr_ := Lib.hid N1
  clear N0 N1
  clear LA LB Lq Lr PA PB TD TU HB
  have LA := QLA
  clear QLA
  have LB := QLB
  clear QLB
  have Lq := QLq
  clear QLq
  have Lr := QLr
  clear QLr
  have PA := QPA
  clear QPA
  have PB := QPB
  clear QPB
  have TD := QTD
  clear QTD
  have TU := QTU
  clear QTU
  have HB := QHB
  clear QHB
  clear hb4
  have ⟨c0, c1, _, _, _⟩ := Pr_.out
  go_wp2_with fail
  refine (rcheck_n _ _ _ _ 1500 (r) Lr.out (Sr.out.mono (by omega)) (by omega) Hr.out).mono ?_
  rintro e w5 ⟨rfl, hb5⟩
  have QLA := Lib.hid (LA.out.via hb5)
  have QLB := Lib.hid (LB.out.via hb5)
  have QLq := Lib.hid (Lq.out.via hb5)
  have QLr := Lib.hid (Lr.out.via hb5)
  have QPA := Lib.hid (PA.out.via hb5)
  have QPB := Lib.hid (PB.out.via hb5)
  have QPq := Lib.hid (Pq.out.via hb5)
  have QPr_ := Lib.hid (Pr_.out.via hb5)
  have QTD := Lib.hid (TD.out.via hb5)
  have QTU := Lib.hid (TU.out.via hb5)
  have QHB := Lib.hid (HB.out.trans (hb5.mono HB.out.size))
  clear LA LB Lq Lr PA PB Pq Pr_ TD TU HB
  have LA := QLA
  clear QLA
  have LB := QLB
  clear QLB
  have Lq := QLq
  clear QLq
  have Lr := QLr
  clear QLr
  have PA := QPA
  clear QPA
  have PB := QPB
  clear QPB
  have Pq := QPq
  clear QPq
  have Pr_ := QPr_
  clear QPr_
  have TD := QTD
  clear QTD
  have TU := QTU
  clear QTU
  have HB := QHB
  clear QHB
  clear c0 c1
  clear hb5
  have ⟨c0, c1, _, _, _⟩ := Pq.out
  have ⟨c2, c3, _, _, _⟩ := PB.out
  go_wp2_with fail
  refine (rmul_n _ _ _ _ _ _ _ 1500 (q) (y) Lq.out LB.out (Sq.out.mono (by omega)) (SY.out.mono (by omega)) (by omega) Hq.out HY.out).mono ?_
  rintro e w6 ⟨Ap, np, cp, rfl, hp, hb6⟩
  have QLA := Lib.hid (LA.out.via hb6)
  have QLB := Lib.hid (LB.out.via hb6)
  have QLq := Lib.hid (Lq.out.via hb6)
  have QLr := Lib.hid (Lr.out.via hb6)
  have QPA := Lib.hid (PA.out.via hb6)
  have QPB := Lib.hid (PB.out.via hb6)
  have QPq := Lib.hid (Pq.out.via hb6)
  have QPr_ := Lib.hid (Pr_.out.via hb6)
  have QTD := Lib.hid (TD.out.via hb6)
  have QTU := Lib.hid (TU.out.via hb6)
  have QHB := Lib.hid (HB.out.trans (hb6.mono HB.out.size))
  clear LA LB Lq Lr PA PB Pq Pr_ TD TU HB
  have LA := QLA
  clear QLA
  have LB := QLB
  clear QLB
  have Lq := QLq
  clear QLq
  have Lr := QLr
  clear QLr
  have PA := QPA
  clear QPA
  have PB := QPB
  clear QPB
  have Pq := QPq
  clear QPq
  have Pr_ := QPr_
  clear QPr_
  have TD := QTD
  clear QTD
  have TU := QTU
  clear QTU
  have HB := QHB
  clear QHB
  have Lp := Lib.hid hp
  have sp : ∀ k, k = 200 + 200 → Sz k (q * y) := fun k h => h ▸ Sq.out.mul SY.out
  have Sp : Hid (Sz 400 (q * y)) := sp 400 rfl
  clear sp
  clear hp
  obtain ⟨gp, hgp⟩ : ∃ b, decide (q * y < 0) = b := ⟨_, rfl⟩
  have Hp := Lib.hid hgp
  rw [hgp]
  clear hgp
  clear c0 c1 c2 c3
  clear hb6
  have ⟨c0, c1, _, _, _⟩ := Pr_.out
  go_wp2_with fail
  refine (radd_n _ _ _ _ _ _ _ 1500 (q * y) (r) (Lp.out.box _) (Lr.out.box _) (Sp.out.mono (by omega)) (Sr.out.mono (by omega)) (by omega) Hp.out Hr.out).mono ?_
  rintro e w7 ⟨As, ns, cs, rfl, hs, hb7⟩
  have QLA := Lib.hid ((LA.out.box _).via hb7)
  have QLB := Lib.hid ((LB.out.box _).via hb7)
  have QLq := Lib.hid ((Lq.out.box _).via hb7)
  have QLr := Lib.hid ((Lr.out.box _).via hb7)
  have QLp := Lib.hid ((Lp.out.box _).via hb7)
  have QPA := Lib.hid ((PA.out.alloc _).via hb7)
  have QPB := Lib.hid ((PB.out.alloc _).via hb7)
  have QPq := Lib.hid ((Pq.out.alloc _).via hb7)
  have QPr_ := Lib.hid ((Pr_.out.alloc _).via hb7)
  have QTD := Lib.hid ((TD.out.box _).via hb7)
  have QTU := Lib.hid ((TU.out.box _).via hb7)
  have QHB := Lib.hid (HB.out.trans ((bbox hb7).mono HB.out.size))
  have Pp := Lib.hid ((Pr.new _ _ rfl _ _ _).via hb7)
  clear LA LB Lq Lr Lp PA PB Pq Pr_ TD TU HB
  have LA := QLA
  clear QLA
  have LB := QLB
  clear QLB
  have Lq := QLq
  clear QLq
  have Lr := QLr
  clear QLr
  have Lp := QLp
  clear QLp
  have PA := QPA
  clear QPA
  have PB := QPB
  clear QPB
  have Pq := QPq
  clear QPq
  have Pr_ := QPr_
  clear QPr_
  have TD := QTD
  clear QTD
  have TU := QTU
  clear QTU
  have HB := QHB
  clear QHB
  have Ls := Lib.hid hs
  have ss : ∀ k, k = 400 + 1 → Sz k (q * y + r) := fun k h => h ▸ Sp.out.add (Sr.out.mono (by omega))
  have Ss : Hid (Sz 401 (q * y + r)) := ss 401 rfl
  clear ss
  clear hs
  obtain ⟨gs, hgs⟩ : ∃ b, decide (q * y + r < 0) = b := ⟨_, rfl⟩
  have Hs := Lib.hid hgs
  rw [hgs]
  clear hgs
  clear c0 c1
  clear hb7
  have ⟨c0, c1, _, _, _⟩ := Pr_.out
  go_wp2_with fail
  refine (rabs_n _ _ _ _ 1500 (r) (Lr.out.box _) (Sr.out.mono (by omega)) (by omega) Hr.out).mono ?_
  rintro e w8 ⟨Au, nu, cu, rfl, hu, hb8⟩
  have QLA := Lib.hid ((LA.out.box _).via hb8)
  have QLB := Lib.hid ((LB.out.box _).via hb8)
  have QLq := Lib.hid ((Lq.out.box _).via hb8)
  have QLr := Lib.hid ((Lr.out.box _).via hb8)
  have QLp := Lib.hid ((Lp.out.box _).via hb8)
  have QLs := Lib.hid ((Ls.out.box _).via hb8)
  have QPA := Lib.hid ((PA.out.alloc _).via hb8)
  have QPB := Lib.hid ((PB.out.alloc _).via hb8)
  have QPq := Lib.hid ((Pq.out.alloc _).via hb8)
  have QPr_ := Lib.hid ((Pr_.out.alloc _).via hb8)
  have QPp := Lib.hid ((Pp.out.alloc _).via hb8)
  have QTD := Lib.hid ((TD.out.box _).via hb8)
  have QTU := Lib.hid ((TU.out.box _).via hb8)
  have QHB := Lib.hid (HB.out.trans ((bbox hb8).mono HB.out.size))
  have Ps := Lib.hid ((Pr.new _ _ rfl _ _ _).via hb8)
  clear LA LB Lq Lr Lp Ls PA PB Pq Pr_ Pp TD TU HB
  have LA := QLA
  clear QLA
  have LB := QLB
  clear QLB
  have Lq := QLq
  clear QLq
  have Lr := QLr
  clear QLr
  have Lp := QLp
  clear QLp
  have Ls := QLs
  clear QLs
  have PA := QPA
  clear QPA
  have PB := QPB
  clear QPB
  have Pq := QPq
  clear QPq
  have Pr_ := QPr_
  clear QPr_
  have Pp := QPp
  clear QPp
  have TD := QTD
  clear QTD
  have TU := QTU
  clear QTU
  have HB := QHB
  clear QHB
  have Lu := Lib.hid hu
  have Su : Hid (Sz 200 ((r.natAbs : Int))) := Sr.out.abs
  clear hu
  obtain ⟨gu, hgu⟩ : ∃ b, decide ((r.natAbs : Int) < 0) = b := ⟨_, rfl⟩
  have Hu := Lib.hid hgu
  rw [hgu]
  clear hgu
  clear c0 c1
  clear hb8
  have ⟨c0, c1, _, _, _⟩ := PB.out
  go_wp2_with fail
  refine (rabs_n _ _ _ _ 1500 (y) (LB.out.box _) (SY.out.mono (by omega)) (by omega) HY.out).mono ?_
  rintro e w9 ⟨Av, nv, cv, rfl, hv, hb9⟩
  have QLA := Lib.hid ((LA.out.box _).via hb9)
  have QLB := Lib.hid ((LB.out.box _).via hb9)
  have QLq := Lib.hid ((Lq.out.box _).via hb9)
  have QLr := Lib.hid ((Lr.out.box _).via hb9)
  have QLp := Lib.hid ((Lp.out.box _).via hb9)
  have QLs := Lib.hid ((Ls.out.box _).via hb9)
  have QLu := Lib.hid ((Lu.out.box _).via hb9)
  have QPA := Lib.hid ((PA.out.alloc _).via hb9)
  have QPB := Lib.hid ((PB.out.alloc _).via hb9)
  have QPq := Lib.hid ((Pq.out.alloc _).via hb9)
  have QPr_ := Lib.hid ((Pr_.out.alloc _).via hb9)
  have QPp := Lib.hid ((Pp.out.alloc _).via hb9)
  have QPs := Lib.hid ((Ps.out.alloc _).via hb9)
  have QTD := Lib.hid ((TD.out.box _).via hb9)
  have QTU := Lib.hid ((TU.out.box _).via hb9)
  have QHB := Lib.hid (HB.out.trans ((bbox hb9).mono HB.out.size))
  have Pu := Lib.hid ((Pr.new _ _ rfl _ _ _).via hb9)
  clear LA LB Lq Lr Lp Ls Lu PA PB Pq Pr_ Pp Ps TD TU HB
  have LA := QLA
  clear QLA
  have LB := QLB
  clear QLB
  have Lq := QLq
  clear QLq
  have Lr := QLr
  clear QLr
  have Lp := QLp
  clear QLp
  have Ls := QLs
  clear QLs
  have Lu := QLu
  clear QLu
  have PA := QPA
  clear QPA
  have PB := QPB
  clear QPB
  have Pq := QPq
  clear QPq
  have Pr_ := QPr_
  clear QPr_
  have Pp := QPp
  clear QPp
  have Ps := QPs
  clear QPs
  have TD := QTD
  clear QTD
  have TU := QTU
  clear QTU
  have HB := QHB
  clear QHB
  have Lv := Lib.hid hv
  have Sv : Hid (Sz 200 ((y.natAbs : Int))) := SY.out.abs
  clear hv
  obtain ⟨gv, hgv⟩ : ∃ b, decide ((y.natAbs : Int) < 0) = b := ⟨_, rfl⟩
  have Hv := Lib.hid hgv
  rw [hgv]
  clear hgv
  clear c0 c1
  clear hb9
  have ⟨c0, c1, _, _, _⟩ := Ps.out
  have ⟨c2, c3, _, _, _⟩ := PA.out
  go_wp2_with fail
  refine (rsame_n _ _ _ _ _ _ _ (q * y + r) (x) (Ls.out.box _) (LA.out.box _) Hs.out HX.out (E1.out.symm)).mono ?_
  rintro e w10 ⟨rfl, hb10⟩
  have QLA := Lib.hid ((LA.out.box _).via hb10)
  have QLB := Lib.hid ((LB.out.box _).via hb10)
  have QLq := Lib.hid ((Lq.out.box _).via hb10)
  have QLr := Lib.hid ((Lr.out.box _).via hb10)
  have QLp := Lib.hid ((Lp.out.box _).via hb10)
  have QLs := Lib.hid ((Ls.out.box _).via hb10)
  have QLu := Lib.hid ((Lu.out.box _).via hb10)
  have QLv := Lib.hid ((Lv.out.box _).via hb10)
  have QPA := Lib.hid ((PA.out.alloc _).via hb10)
  have QPB := Lib.hid ((PB.out.alloc _).via hb10)
  have QPq := Lib.hid ((Pq.out.alloc _).via hb10)
  have QPr_ := Lib.hid ((Pr_.out.alloc _).via hb10)
  have QPp := Lib.hid ((Pp.out.alloc _).via hb10)
  have QPs := Lib.hid ((Ps.out.alloc _).via hb10)
  have QPu := Lib.hid ((Pu.out.alloc _).via hb10)
  have QTD := Lib.hid ((TD.out.box _).via hb10)
  have QTU := Lib.hid ((TU.out.box _).via hb10)
  have QHB := Lib.hid (HB.out.trans ((bbox hb10).mono HB.out.size))
  have Pv := Lib.hid ((Pr.new _ _ rfl _ _ _).via hb10)
  clear LA LB Lq Lr Lp Ls Lu Lv PA PB Pq Pr_ Pp Ps Pu TD TU HB
  have LA := QLA
  clear QLA
  have LB := QLB
  clear QLB
  have Lq := QLq
  clear QLq
  have Lr := QLr
  clear QLr
  have Lp := QLp
  clear QLp
  have Ls := QLs
  clear QLs
  have Lu := QLu
  clear QLu
  have Lv := QLv
  clear QLv
  have PA := QPA
  clear QPA
  have PB := QPB
  clear QPB
  have Pq := QPq
  clear QPq
  have Pr_ := QPr_
  clear QPr_
  have Pp := QPp
  clear QPp
  have Ps := QPs
  clear QPs
  have Pu := QPu
  clear QPu
  have TD := QTD
  clear QTD
  have TU := QTU
  clear QTU
  have HB := QHB
  clear QHB
  clear c0 c1 c2 c3
  clear hb10
  have ⟨c0, c1, _, _, _⟩ := Pu.out
  have ⟨c2, c3, _, _, _⟩ := Pv.out
  go_wp2_with fail
  refine (rcompared_n _ _ _ _ _ _ _ 1500 _ _ Lu.out Lv.out (Su.out.mono (by omega)) (Sv.out.mono (by omega)) (by omega) Hu.out Hv.out).mono ?_
  rintro e w11 ⟨rfl, hb11⟩
  have QLA := Lib.hid (LA.out.via hb11)
  have QLB := Lib.hid (LB.out.via hb11)
  have QLq := Lib.hid (Lq.out.via hb11)
  have QLr := Lib.hid (Lr.out.via hb11)
  have QLp := Lib.hid (Lp.out.via hb11)
  have QLs := Lib.hid (Ls.out.via hb11)
  have QLu := Lib.hid (Lu.out.via hb11)
  have QLv := Lib.hid (Lv.out.via hb11)
  have QPA := Lib.hid (PA.out.via hb11)
  have QPB := Lib.hid (PB.out.via hb11)
  have QPq := Lib.hid (Pq.out.via hb11)
  have QPr_ := Lib.hid (Pr_.out.via hb11)
  have QPp := Lib.hid (Pp.out.via hb11)
  have QPs := Lib.hid (Ps.out.via hb11)
  have QPu := Lib.hid (Pu.out.via hb11)
  have QPv := Lib.hid (Pv.out.via hb11)
  have QTD := Lib.hid (TD.out.via hb11)
  have QTU := Lib.hid (TU.out.via hb11)
  have QHB := Lib.hid (HB.out.trans (hb11.mono HB.out.size))
  clear LA LB Lq Lr Lp Ls Lu Lv PA PB Pq Pr_ Pp Ps Pu Pv TD TU HB
  have LA := QLA
  clear QLA
  have LB := QLB
  clear QLB
  have Lq := QLq
  clear QLq
  have Lr := QLr
  clear QLr
  have Lp := QLp
  clear QLp
  have Ls := QLs
  clear QLs
  have Lu := QLu
  clear QLu
  have Lv := QLv
  clear QLv
  have PA := QPA
  clear QPA
  have PB := QPB
  clear QPB
  have Pq := QPq
  clear QPq
  have Pr_ := QPr_
  clear QPr_
  have Pp := QPp
  clear QPp
  have Ps := QPs
  clear QPs
  have Pu := QPu
  clear QPu
  have Pv := QPv
  clear QPv
  have TD := QTD
  clear QTD
  have TU := QTU
  clear QTU
  have HB := QHB
  clear QHB
  clear c0 c1 c2 c3
  clear hb11
  have HC : Hid (cmpZ (r.natAbs : Int) (y.natAbs : Int) = -1) := by show _ = _; have e := E2.out; unfold cmpZ; rw [if_pos (by omega)]
  rw [HC.out]
  have hrc := Lr.out.cap
  have hrx := Lr.out.max
  rcases E3.out with h0 | h0
  · obtain rfl : nr = 0 := by rw [← Lr.out.len, h0]; rfl
    clear h0
    have ⟨c0, c1, _, _, _⟩ := Pr_.out
    have ⟨c2, c3, _, _, _⟩ := PB.out
    go_wp2
    go_ret
    exact ⟨rfl, HB.out⟩
  · obtain rfl : gr = ny := by rw [← Hr.out, ← HY.out]; exact h0
    clear h0
    have ⟨c0, c1, _, _, _⟩ := Pr_.out
    have ⟨c2, c3, _, _, _⟩ := PB.out
    go_wp2
    all_goals (go_ret; exact ⟨rfl, HB.out⟩)
end Go.Proofs.YtaegadicnbmapabDoor

/- Two copies laid in new boxes, in whatever order. -/
namespace Go.Proofs.YtaegadicnbmapabDoor
open Go.RowKit

/-- Two slots point to copies of both numbers. -/
def TwinsAt (w2 : World) (na : Bool) (n : Nat) (xs : List Nat) (nb : Bool) (m : Nat) (ys : List Nat) (s5 s6 : Value) (wc : World) : Prop :=
  ∃ gx gy A' c' A'' c'', s5 = .pointer (some ⟨gx, 0, none⟩) ∧ s6 = .pointer (some ⟨gy, 0, none⟩) ∧ Pr wc gx (.bool na) (.slice A' n c') ∧ Pr wc gy (.bool nb) (.slice A'' m c'') ∧ Lm wc wc.heap.size A' n c' xs ∧ Lm wc wc.heap.size A'' m c'' ys ∧ Below w2.heap.size w2 wc

section
variable {w2 w4 : World} {na nb : Bool} {n m : Nat} {xs ys : List Nat} {A3 A4 : Option Addr} {c3 c4 : Nat} {t : TypeId}
theorem fin1 (hB : Below w2.heap.size w2 w4) (L3 : Lm w4 w4.heap.size A3 n c3 xs) (L4 : Lm w4 w4.heap.size A4 m c4 ys) :
    TwinsAt w2 na n xs nb m ys (.pointer (some ⟨w4.heap.size, 0, none⟩)) (.pointer (some ⟨w4.heap.size + 1, 0, none⟩)) ((w4.alloc (.cells #[.bool na, .slice A3 n c3] t)).alloc (.cells #[.bool nb, .slice A4 m c4] t)) :=
  ⟨_, _, A3, c3, A4, c4, rfl, rfl, (Pr.new w4 _ rfl _ _ t).alloc _, Pr.new (w4.alloc _) _ (by simp) _ _ t, (L3.box _).box _, (L4.box _).box _, (hB.alloc hB.size _).alloc (hB.alloc hB.size _).size _⟩
theorem fin2 (hB : Below w2.heap.size w2 w4) (L3 : Lm w4 w4.heap.size A3 n c3 xs) (L4 : Lm w4 w4.heap.size A4 m c4 ys) :
    TwinsAt w2 na n xs nb m ys (.pointer (some ⟨w4.heap.size + 1, 0, none⟩)) (.pointer (some ⟨w4.heap.size, 0, none⟩)) ((w4.alloc (.cells #[.bool nb, .slice A4 m c4] t)).alloc (.cells #[.bool na, .slice A3 n c3] t)) :=
  ⟨_, _, A3, c3, A4, c4, rfl, rfl, Pr.new (w4.alloc _) _ (by simp) _ _ t, (Pr.new w4 _ rfl _ _ t).alloc _, (L3.box _).box _, (L4.box _).box _, (hB.alloc hB.size _).alloc (hB.alloc hB.size _).size _⟩
theorem fin3 {g : Nat} (hB : Below w2.heap.size w2 w4) (L3 : Lm w4 w4.heap.size A3 n c3 xs) (L4 : Lm w4 w4.heap.size A4 m c4 ys) (P : Pr w4 g (.bool false) (.slice none 0 0)) (hg : w2.heap.size ≤ g) :
    TwinsAt w2 na n xs nb m ys (.pointer (some ⟨g, 0, none⟩)) (.pointer (some ⟨w4.heap.size, 0, none⟩)) (((w4.setCell ⟨g, 0, none⟩ (.bool na)).setCell ⟨g, 1, none⟩ (.slice A3 n c3)).alloc (.cells #[.bool nb, .slice A4 m c4] t)) :=
  ⟨_, _, A3, c3, A4, c4, rfl, rfl, (P.set _ _).alloc _, Pr.new _ _ (size_set2 _ _ _ _) _ _ t, (L3.setP P _ _).box _, (L4.setP P _ _).box _, (below_set2 hB hg _ _).alloc (below_set2 hB hg _ _).size _⟩
theorem fin4 {g : Nat} (hB : Below w2.heap.size w2 w4) (L3 : Lm w4 w4.heap.size A3 n c3 xs) (L4 : Lm w4 w4.heap.size A4 m c4 ys) (P : Pr w4 g (.bool false) (.slice none 0 0)) (hg : w2.heap.size ≤ g) :
    TwinsAt w2 na n xs nb m ys (.pointer (some ⟨w4.heap.size, 0, none⟩)) (.pointer (some ⟨g, 0, none⟩)) (((w4.setCell ⟨g, 0, none⟩ (.bool nb)).setCell ⟨g, 1, none⟩ (.slice A4 m c4)).alloc (.cells #[.bool na, .slice A3 n c3] t)) :=
  ⟨_, _, A3, c3, A4, c4, rfl, rfl, Pr.new _ _ (size_set2 _ _ _ _) _ _ t, (P.set _ _).alloc _, (L3.setP P _ _).box _, (L4.setP P _ _).box _, (below_set2 hB hg _ _).alloc (below_set2 hB hg _ _).size _⟩
theorem fin5 {g h : Nat} (hB : Below w2.heap.size w2 w4) (L3 : Lm w4 w4.heap.size A3 n c3 xs) (L4 : Lm w4 w4.heap.size A4 m c4 ys) (P : Pr w4 g (.bool false) (.slice none 0 0)) (Q : Pr w4 h (.bool false) (.slice none 0 0)) (hg : w2.heap.size ≤ g) (hh : w2.heap.size ≤ h) (hne : g ≠ h) :
    TwinsAt w2 na n xs nb m ys (.pointer (some ⟨g, 0, none⟩)) (.pointer (some ⟨h, 0, none⟩)) ((((w4.setCell ⟨g, 0, none⟩ (.bool na)).setCell ⟨g, 1, none⟩ (.slice A3 n c3)).setCell ⟨h, 0, none⟩ (.bool nb)).setCell ⟨h, 1, none⟩ (.slice A4 m c4)) :=
  have Q' := Q.far (h := g) (fun e => hne e.symm) (.bool na) (.slice A3 n c3)
  ⟨_, _, A3, c3, A4, c4, rfl, rfl, (P.set _ _).far hne _ _, Q'.set _ _, (L3.setP P _ _).setP Q' _ _, (L4.setP P _ _).setP Q' _ _, below_set2 (below_set2 hB hg _ _) hh _ _⟩
end
theorem b_one {w w' : World} {o : Obj} (h : Below (w.alloc o).heap.size (w.alloc o) w') : Below w.heap.size w w' := bbox h
theorem b_two {w w' : World} {o o' : Obj} (h : Below ((w.alloc o).alloc o').heap.size ((w.alloc o).alloc o') w') : Below w.heap.size w w' := bbox (bbox h)
theorem b_one_d {w w' : World} {o : Obj} (h : Below (w.alloc o).drew.heap.size (w.alloc o).drew w') : Below w.heap.size w w' :=
  ((Below.refl w.heap.size w).alloc (Nat.le_refl _) o).drew.trans (h.mono (((Below.refl w.heap.size w).alloc (Nat.le_refl _) o).drew.size))
theorem b_two_d {w w' : World} {o o' : Obj} (h : Below ((w.alloc o).alloc o').drew.heap.size ((w.alloc o).alloc o').drew w') : Below w.heap.size w w' :=
  have q := (((Below.refl w.heap.size w).alloc (Nat.le_refl _) o).alloc ((Below.refl w.heap.size w).alloc (Nat.le_refl _) o).size o').drew
  q.trans (h.mono q.size)
end Go.Proofs.YtaegadicnbmapabDoor

/- The law WideRoots at any two numbers and any shift: the walk. -/
namespace Go.Proofs.YtaegadicnbmapabDoor
open Go.RowKit

theorem gcd_shift (x y : Int) : Nat.gcd x.natAbs y.natAbs = Nat.gcd (x + y).natAbs y.natAbs := (Int.gcd_add_self_left y x).symm
theorem rt_sz {v r : Nat} (h : IsRt v r) : r ≤ v := by
  have := h.1
  rcases Nat.eq_zero_or_pos r with h0 | h0
  · omega
  · exact Nat.le_trans (Nat.le_mul_of_pos_right r h0) this
theorem cmpZ_le {x y : Int} (h : x ≤ y) : cmpZ x y ≤ 0 := by unfold cmpZ; split <;> (try split) <;> omega
theorem cmpZ_gt {x y : Int} (h : y < x) : cmpZ x y = 1 := by unfold cmpZ; rw [if_neg (by omega), if_neg (by omega)]

/-- A slot points to a box with a number. -/
def OneAt (w2 : World) (ng : Bool) (xs : List Nat) (s : Value) (wc : World) : Prop :=
  ∃ g A n c, s = .pointer (some ⟨g, 0, none⟩) ∧ Pr wc g (.bool ng) (.slice A n c) ∧ Lm wc wc.heap.size A n c xs ∧ Below w2.heap.size w2 wc
section
variable {w2 w4 : World} {ng : Bool} {n c : Nat} {xs : List Nat} {A : Option Addr} {t : TypeId}
theorem one_new (hB : Below w2.heap.size w2 w4) (L : Lm w4 w4.heap.size A n c xs) : OneAt w2 ng xs (.pointer (some ⟨w4.heap.size, 0, none⟩)) (w4.alloc (.cells #[.bool ng, .slice A n c] t)) :=
  ⟨_, A, n, c, rfl, Pr.new w4 _ rfl _ _ t, L.box _, hB.alloc hB.size _⟩
theorem one_set {g : Nat} (hB : Below w2.heap.size w2 w4) (L : Lm w4 w4.heap.size A n c xs) (P : Pr w4 g (.bool false) (.slice none 0 0)) (hg : w2.heap.size ≤ g) :
    OneAt w2 ng xs (.pointer (some ⟨g, 0, none⟩)) ((w4.setCell ⟨g, 0, none⟩ (.bool ng)).setCell ⟨g, 1, none⟩ (.slice A n c)) :=
  ⟨_, A, n, c, rfl, P.set _ _, L.setP P _ _, below_set2 hB hg _ _⟩
end
theorem SzOne {k : Nat} : Sz (k + 1) 1 := by show _ < _; exact Nat.one_lt_pow (by omega) (by omega)

set_option maxRecDepth 100000 in
set_option maxHeartbeats 1000000 in
theorem roots_long (w : World) (na nb : Bool) (A B : Option Addr) (n m ca cb : Nat) (xs ys : List Nat) (k : Int) (hA : Lm w w.heap.size A n ca xs) (hB : Lm w w.heap.size B m cb ys) (hD : TabD w) (hU : TabU w)
    (hl : ∀ W : World, Lm W W.heap.size A n ca xs → Lm W W.heap.size B m cb ys → Calls Tryd.prog 7 #[.int .i64 60, .agg #[.bool na, .slice A n ca], .agg #[.bool nb, .slice B m cb], .agg #[.bool nb, .slice B m cb]] W fun e w' => e = .returned (.bool true) ∧ Below W.heap.size W w') :
    Calls Tryd.prog 4 #[.agg #[.bool na, .slice A n ca], .agg #[.bool nb, .slice B m cb], .int .u8 k] w fun e w' => e = .returned (.bool true) ∧ Below w.heap.size w w' := by
  have LA := Lib.hid hA
  have LB := Lib.hid hB
  have TD := Lib.hid hD
  have TU := Lib.hid hU
  have HL := Lib.hid hl
  have HB : Hid (Below w.heap.size w w) := Below.refl _ _
  clear hA hB hD hU hl
  go_enter Tryd.func4, Tryd.ntmps4
  go_wp2_with fail
  refine (alive_any _ ((TD.out.box _).box _) ((TU.out.box _).box _)).mono ?_
  rintro e w1 ⟨rfl, hb1⟩
  have QLA := Lib.hid (((LA.out.box _).box _).via hb1)
  have QLB := Lib.hid (((LB.out.box _).box _).via hb1)
  have QTD := Lib.hid (((TD.out.box _).box _).via hb1)
  have QTU := Lib.hid (((TU.out.box _).box _).via hb1)
  have QHB := Lib.hid (HB.out.trans ((bbox (bbox hb1)).mono HB.out.size))
  have ⟨N0, N1⟩ := boxes2 hb1
  have PA := Lib.hid N0
  have PB := Lib.hid N1
  clear N0 N1
  clear LA LB TD TU HB
  have LA := QLA
  clear QLA
  have LB := QLB
  clear QLB
  have TD := QTD
  clear QTD
  have TU := QTU
  clear QTU
  have HB := QHB
  clear QHB
  clear hb1
  have ⟨c0, c1, _, _, _⟩ := PA.out
  have ⟨c2, c3, _, _, _⟩ := PB.out
  go_wp2_with fail
  refine (HL.out _ LA.out LB.out).mono ?_
  rintro e w2 ⟨rfl, hb2⟩
  have QLA := Lib.hid (LA.out.via hb2)
  have QLB := Lib.hid (LB.out.via hb2)
  have QPA := Lib.hid (PA.out.via hb2)
  have QPB := Lib.hid (PB.out.via hb2)
  have QTD := Lib.hid (TD.out.via hb2)
  have QTU := Lib.hid (TU.out.via hb2)
  have QHB := Lib.hid (HB.out.trans (hb2.mono HB.out.size))
  clear LA LB PA PB TD TU HB
  have LA := QLA
  clear QLA
  have LB := QLB
  clear QLB
  have PA := QPA
  clear QPA
  have PB := QPB
  clear QPB
  have TD := QTD
  clear QTD
  have TU := QTU
  clear QTU
  have HB := QHB
  clear QHB
  clear c0 c1 c2 c3
  clear hb2
  go_wp2
  go_ret
  exact ⟨rfl, HB.out⟩

theorem sz_gcd' {k : Nat} {x y : Int} (hx : Sz k x) (hy : Sz k y) : Sz k (Nat.gcd x.natAbs y.natAbs : Int) := by
  unfold Sz at *
  rw [Int.natAbs_natCast]
  rcases Nat.eq_zero_or_pos x.natAbs with h0 | h0
  · rw [h0, Nat.gcd_zero_left]; exact hy
  · exact Nat.lt_of_le_of_lt (Nat.gcd_le_left _ h0) hx
theorem sz_floor {k : Nat} {x p : Int} (hx : Sz k x) : Sz k (x / p) := by
  unfold Sz at *
  exact Nat.lt_of_le_of_lt (Int.natAbs_ediv_le_natAbs _ _) hx

set_option maxRecDepth 100000 in
set_option maxHeartbeats 4000000 in
theorem roots_main (w : World) (A B : Option Addr) (n m ca cb k : Nat) (x y : Int) (hA : Lm w w.heap.size A n ca (digs x.natAbs)) (hB : Lm w w.heap.size B m cb (digs y.natAbs)) (hD : TabD w) (hU : TabU w)
    (hx : Sz 60 x) (hy : Sz 60 y) (hk : k ≤ 255) :
    Calls Tryd.prog 4 #[.agg #[.bool (decide (x < 0)), .slice A n ca], .agg #[.bool (decide (y < 0)), .slice B m cb], .int .u8 (k : Int)] w fun e w' => e = .returned (.bool true) ∧ Below w.heap.size w w' := by
  have LA := Lib.hid hA
  have LB := Lib.hid hB
  have TD := Lib.hid hD
  have TU := Lib.hid hU
  have SX := Lib.hid hx
  have SY := Lib.hid hy
  have hn : n ≤ 60 := by rw [← hA.len]; exact hx.len
  have hm : m ≤ 60 := by rw [← hB.len]; exact hy.len
  have hac := hA.cap
  have hax := hA.max
  have hbc := hB.cap
  have hbx := hB.max
  have hk0 : (0 : Int) ≤ k := by omega
  have hk1 : (k : Int) ≤ 255 := by omega
  have HB : Hid (Below w.heap.size w w) := Below.refl _ _
  clear hA hB hD hU hx hy
  obtain ⟨nx, hnx⟩ : ∃ b, decide (x < 0) = b := ⟨_, rfl⟩
  obtain ⟨ny, hny⟩ : ∃ b, decide (y < 0) = b := ⟨_, rfl⟩
  have HX := Lib.hid hnx
  have HY := Lib.hid hny
  rw [hnx, hny]
  clear hnx hny
  go_enter Tryd.func4, Tryd.ntmps4
  go_wp2_with fail
  refine (alive_any _ ((TD.out.box _).box _) ((TU.out.box _).box _)).mono ?_
  rintro e w1 ⟨rfl, hb1⟩
  have QLA := Lib.hid (((LA.out.box _).box _).via hb1)
  have QLB := Lib.hid (((LB.out.box _).box _).via hb1)
  have QTD := Lib.hid (((TD.out.box _).box _).via hb1)
  have QTU := Lib.hid (((TU.out.box _).box _).via hb1)
  have QHB := Lib.hid (HB.out.trans ((bbox (bbox hb1)).mono HB.out.size))
  have ⟨N0, N1⟩ := boxes2 hb1
  have PA := Lib.hid N0
  have PB := Lib.hid N1
  clear N0 N1
  clear LA LB TD TU HB
  have LA := QLA
  clear QLA
  have LB := QLB
  clear QLB
  have TD := QTD
  clear QTD
  have TU := QTU
  clear QTU
  have HB := QHB
  clear QHB
  clear hb1
  have ⟨c0, c1, _, _, _⟩ := PA.out
  have ⟨c2, c3, _, _, _⟩ := PB.out
  go_wp2_with fail
  refine (long_no _ _ _ _ _ _ _ n m m _ _ _ _ _ _ 60 LA.out LB.out LB.out (by rw [← HX.out]; exact chk_z SX.out (by omega)) (by rw [← HY.out]; exact chk_z SY.out (by omega)) (by rw [← HY.out]; exact chk_z SY.out (by omega)) (by omega) (by omega) (by omega)).mono ?_
  rintro e w2 ⟨rfl, hb2⟩
  have QLA := Lib.hid (LA.out.via hb2)
  have QLB := Lib.hid (LB.out.via hb2)
  have QPA := Lib.hid (PA.out.via hb2)
  have QPB := Lib.hid (PB.out.via hb2)
  have QTD := Lib.hid (TD.out.via hb2)
  have QTU := Lib.hid (TU.out.via hb2)
  have QHB := Lib.hid (HB.out.trans (hb2.mono HB.out.size))
  clear LA LB PA PB TD TU HB
  have LA := QLA
  clear QLA
  have LB := QLB
  clear QLB
  have PA := QPA
  clear QPA
  have PB := QPB
  clear QPB
  have TD := QTD
  clear QTD
  have TU := QTU
  clear QTU
  have HB := QHB
  clear QHB
  clear c0 c1 c2 c3
  clear hb2
  have ⟨c0, c1, _, _, _⟩ := PA.out
  go_wp2_with fail
  refine (rabs_n _ _ _ _ 1500 (x) LA.out (SX.out.mono (by omega)) (by omega) HX.out).mono ?_
  rintro e w3 ⟨Au, nu, cu, rfl, hu, hb3⟩
  have QLA := Lib.hid (LA.out.via hb3)
  have QLB := Lib.hid (LB.out.via hb3)
  have QPA := Lib.hid (PA.out.via hb3)
  have QPB := Lib.hid (PB.out.via hb3)
  have QTD := Lib.hid (TD.out.via hb3)
  have QTU := Lib.hid (TU.out.via hb3)
  have QHB := Lib.hid (HB.out.trans (hb3.mono HB.out.size))
  clear LA LB PA PB TD TU HB
  have LA := QLA
  clear QLA
  have LB := QLB
  clear QLB
  have PA := QPA
  clear QPA
  have PB := QPB
  clear QPB
  have TD := QTD
  clear QTD
  have TU := QTU
  clear QTU
  have HB := QHB
  clear QHB
  have Lu := Lib.hid hu
  have Su : Hid (Sz 60 ((x.natAbs : Int))) := SX.out.abs
  clear hu
  obtain ⟨gu, hgu⟩ : ∃ b, decide ((x.natAbs : Int) < 0) = b := ⟨_, rfl⟩
  have Hu := Lib.hid hgu
  rw [hgu]
  clear hgu
  clear c0 c1
  clear hb3
  obtain rfl : gu = false := by rw [← Hu.out]; exact decide_eq_false (by omega)
  go_wp2_with fail
  refine (sqrt_n _ _ _ _ 1500 ((x.natAbs : Int)) (Lu.out.box _) (Su.out.mono (by omega)) (by omega) (by omega) Hu.out).mono ?_
  rintro e w4 ⟨r, hr, Ar, nr, cr, rfl, hLr, hb4⟩
  have QLA := Lib.hid ((LA.out.box _).via hb4)
  have QLB := Lib.hid ((LB.out.box _).via hb4)
  have QLu := Lib.hid ((Lu.out.box _).via hb4)
  have QPA := Lib.hid ((PA.out.alloc _).via hb4)
  have QPB := Lib.hid ((PB.out.alloc _).via hb4)
  have QTD := Lib.hid ((TD.out.box _).via hb4)
  have QTU := Lib.hid ((TU.out.box _).via hb4)
  have QHB := Lib.hid (HB.out.trans ((bbox hb4).mono HB.out.size))
  have Pu := Lib.hid ((Pr.new _ _ rfl _ _ _).via hb4)
  clear LA LB Lu PA PB TD TU HB
  have LA := QLA
  clear QLA
  have LB := QLB
  clear QLB
  have Lu := QLu
  clear QLu
  have PA := QPA
  clear QPA
  have PB := QPB
  clear QPB
  have TD := QTD
  clear QTD
  have TU := QTU
  clear QTU
  have HB := QHB
  clear QHB
  have Lr := Lib.hid hLr
  have Rt : Hid (IsRt x.natAbs r) := by have := hr; rwa [Int.natAbs_natCast] at this
  have Sr : Hid (Sz 60 (r : Int)) := Nat.lt_of_le_of_lt (rt_sz Rt.out) SX.out
  clear hLr hr
  have Hr : Hid (decide ((r : Int) < 0) = false) := decide_eq_false (by omega)
  rw [Hr.out]
  clear hb4
  go_wp2_with fail
  refine (rcheck_n _ _ _ _ 1500 ((r : Int)) (Lr.out.box _) (Sr.out.mono (by omega)) (by omega) Hr.out).mono ?_
  rintro e w5 ⟨rfl, hb5⟩
  have QLA := Lib.hid ((LA.out.box _).via hb5)
  have QLB := Lib.hid ((LB.out.box _).via hb5)
  have QLu := Lib.hid ((Lu.out.box _).via hb5)
  have QLr := Lib.hid ((Lr.out.box _).via hb5)
  have QPA := Lib.hid ((PA.out.alloc _).via hb5)
  have QPB := Lib.hid ((PB.out.alloc _).via hb5)
  have QPu := Lib.hid ((Pu.out.alloc _).via hb5)
  have QTD := Lib.hid ((TD.out.box _).via hb5)
  have QTU := Lib.hid ((TU.out.box _).via hb5)
  have QHB := Lib.hid (HB.out.trans ((bbox hb5).mono HB.out.size))
  have Pr_ := Lib.hid ((Pr.new _ _ rfl _ _ _).via hb5)
  clear LA LB Lu Lr PA PB Pu TD TU HB
  have LA := QLA
  clear QLA
  have LB := QLB
  clear QLB
  have Lu := QLu
  clear QLu
  have Lr := QLr
  clear QLr
  have PA := QPA
  clear QPA
  have PB := QPB
  clear QPB
  have Pu := QPu
  clear QPu
  have TD := QTD
  clear QTD
  have TU := QTU
  clear QTU
  have HB := QHB
  clear QHB
  clear hb5
  have ⟨c0, c1, _, _, _⟩ := Pr_.out
  go_wp2_with fail
  refine (rmul_n _ _ _ _ _ _ _ 1500 ((r : Int)) ((r : Int)) Lr.out Lr.out (Sr.out.mono (by omega)) (Sr.out.mono (by omega)) (by omega) Hr.out Hr.out).mono ?_
  rintro e w6 ⟨As, ns, cs, rfl, hs, hb6⟩
  have QLA := Lib.hid (LA.out.via hb6)
  have QLB := Lib.hid (LB.out.via hb6)
  have QLu := Lib.hid (Lu.out.via hb6)
  have QLr := Lib.hid (Lr.out.via hb6)
  have QPA := Lib.hid (PA.out.via hb6)
  have QPB := Lib.hid (PB.out.via hb6)
  have QPu := Lib.hid (Pu.out.via hb6)
  have QPr_ := Lib.hid (Pr_.out.via hb6)
  have QTD := Lib.hid (TD.out.via hb6)
  have QTU := Lib.hid (TU.out.via hb6)
  have QHB := Lib.hid (HB.out.trans (hb6.mono HB.out.size))
  clear LA LB Lu Lr PA PB Pu Pr_ TD TU HB
  have LA := QLA
  clear QLA
  have LB := QLB
  clear QLB
  have Lu := QLu
  clear QLu
  have Lr := QLr
  clear QLr
  have PA := QPA
  clear QPA
  have PB := QPB
  clear QPB
  have Pu := QPu
  clear QPu
  have Pr_ := QPr_
  clear QPr_
  have TD := QTD
  clear QTD
  have TU := QTU
  clear QTU
  have HB := QHB
  clear QHB
  have Ls := Lib.hid hs
  have Ss : Hid (Sz 120 ((r : Int) * r)) := Sr.out.mul Sr.out
  clear hs
  obtain ⟨gs, hgs⟩ : ∃ b, decide ((r : Int) * r < 0) = b := ⟨_, rfl⟩
  have Hs := Lib.hid hgs
  rw [hgs]
  clear hgs
  clear c0 c1
  clear hb6
  have PR6 := Lib.hid (Pr_.out.alloc (.cells #[.bool gs, .slice As ns cs] 24))
  have Ps := Lib.hid (Pr.new w6 w6.heap.size rfl (.bool gs) (.slice As ns cs) 24)
  have QLA := Lib.hid (LA.out.box (.cells #[.bool gs, .slice As ns cs] 24))
  have QLB := Lib.hid (LB.out.box (.cells #[.bool gs, .slice As ns cs] 24))
  have QLu := Lib.hid (Lu.out.box (.cells #[.bool gs, .slice As ns cs] 24))
  have QLr := Lib.hid (Lr.out.box (.cells #[.bool gs, .slice As ns cs] 24))
  have QLs := Lib.hid (Ls.out.box (.cells #[.bool gs, .slice As ns cs] 24))
  have QTD := Lib.hid (TD.out.box (.cells #[.bool gs, .slice As ns cs] 24))
  have QTU := Lib.hid (TU.out.box (.cells #[.bool gs, .slice As ns cs] 24))
  have QPA := Lib.hid (PA.out.alloc (.cells #[.bool gs, .slice As ns cs] 24))
  have QPB := Lib.hid (PB.out.alloc (.cells #[.bool gs, .slice As ns cs] 24))
  have QPu := Lib.hid (Pu.out.alloc (.cells #[.bool gs, .slice As ns cs] 24))
  have QHB := Lib.hid (HB.out.alloc HB.out.size (.cells #[.bool gs, .slice As ns cs] 24))
  clear Pr_ LA LB Lu Lr Ls TD TU PA PB Pu HB
  have LA := QLA
  clear QLA
  have LB := QLB
  clear QLB
  have Lu := QLu
  clear QLu
  have Lr := QLr
  clear QLr
  have Ls := QLs
  clear QLs
  have TD := QTD
  clear QTD
  have TU := QTU
  clear QTU
  have PA := QPA
  clear QPA
  have PB := QPB
  clear QPB
  have Pu := QPu
  clear QPu
  have HB := QHB
  clear QHB
  have Pr_ := PR6
  clear PR6
  have ⟨c0, c1, _, _, cl⟩ := Pr_.out
  go_wp2_with fail
  generalize w6.alloc (.cells #[.bool gs, .slice As ns cs] 24) = W at *
  have HKS : Hid (∀ V : World, Below W.heap.size W V → V.cell? ⟨w4.heap.size, 0, none⟩ = some (.bool false) ∧ V.cell? ⟨w4.heap.size, 1, none⟩ = some (.slice Ar nr cr)) := fun V h => ⟨(Pr_.out.below h cl).c0, (Pr_.out.below h cl).c1⟩
  go_cut [14, 15] (fun s14 s15 wx => OneAt W (decide ((r : Int) + 1 < 0)) (digs ((r : Int) + 1).natAbs) s14 wx ∧ s15 = .int .i64 0)
  case first =>
    go_region_held3 (fun w' => w'.cell? ⟨w4.heap.size, 0, none⟩ = some (.bool false) ∧ w'.cell? ⟨w4.heap.size, 1, none⟩ = some (.slice Ar nr cr))
      (first | exact ⟨c0, c1⟩ | exact ⟨d0, d1⟩ | exact ⟨e0, e1⟩ | (refine HKS.out _ ?_; (repeat' (first | exact B8 | exact B7 | exact (Below.refl _ _).drew | exact Below.refl _ _ | refine Below.drew ?_ | refine Below.setCell ?_ ?_ _ | refine Below.alloc ?_ ?_ _)); all_goals (first | omega | (simp; done) | (simp; omega))))
      (first
       | (go_at_call 16; refine (rfrom_any _ 1 (by omega) (by omega)).mono ?_; rintro e w7 ⟨Ai, ni, ci, rfl, hLi, hb7⟩; have B7 : Below W.heap.size W w7 := (by first | exact hb7 | exact (Below.refl _ _).drew.trans hb7 | exact b_one hb7 | exact b_one_d hb7); have B7s := B7.size; have PR7 := Pr_.out.via B7; have ⟨d0, d1, _, _, _⟩ := PR7; have LR7 := Lr.out.via B7; (try (have PZ := (by first | exact (Pr.new W W.heap.size rfl (.bool false) (.slice none 0 0) 24).via hb7 | exact (Pr.new W W.heap.size rfl (.bool false) (.slice none 0 0) 24).drew.via hb7 : Pr w7 W.heap.size (.bool false) (.slice none 0 0)); have ⟨z0, z1, zf0, zf1, zl⟩ := PZ)))
       | (go_at_call 11; refine (radd_n _ _ _ _ _ _ _ 1500 (r : Int) 1 (by first | exact LR7 | exact LR7.box _) (by first | exact hLi | exact hLi.box _) (Sr.out.mono (by omega)) SzOne (by omega) Hr.out rfl).mono ?_; rintro e w8 ⟨An, nn, cn, rfl, hLn, hb8⟩; have B78 : Below w7.heap.size w7 w8 := (by first | exact hb8 | exact b_one hb8); have PR8 := PR7.via B78; have ⟨e0, e1, _, _, _⟩ := PR8; have B8 := B7.trans (B78.mono B7.size); have B8s := B8.size; (try (have PY := (Pr.new w7 w7.heap.size rfl (.bool false) (.slice none 0 0) 24).via hb8; have ⟨y0, y1, yf0, yf1, yl⟩ := PY)); (try (have PW := PZ.via B78; have ⟨v0, v1, vf0, vf1, vl⟩ := PW))))
    all_goals
      go_wp2_with fail
      go_meet
      first
      | exact ⟨one_new B8 hLn, rfl⟩
      | exact ⟨one_set B8 hLn PY B7s, rfl⟩
      | exact ⟨one_set B8 hLn PW (Nat.le_refl _), rfl⟩
  case rest =>
  obtain ⟨⟨gn_, An, nn, cn, rfl, hPn, hLn, hBn⟩, rfl⟩ := hcut
  clear HKS c0 c1 cl
  have QLA := Lib.hid (LA.out.via hBn)
  have QLB := Lib.hid (LB.out.via hBn)
  have QLu := Lib.hid (Lu.out.via hBn)
  have QLr := Lib.hid (Lr.out.via hBn)
  have QLs := Lib.hid (Ls.out.via hBn)
  have QTD := Lib.hid (TD.out.via hBn)
  have QTU := Lib.hid (TU.out.via hBn)
  have QPA := Lib.hid (PA.out.via hBn)
  have QPB := Lib.hid (PB.out.via hBn)
  have QPu := Lib.hid (Pu.out.via hBn)
  have QPr_ := Lib.hid (Pr_.out.via hBn)
  have QPs := Lib.hid (Ps.out.via hBn)
  have QHB := Lib.hid (HB.out.trans (hBn.mono HB.out.size))
  clear LA LB Lu Lr Ls TD TU PA PB Pu Pr_ Ps HB
  have LA := QLA
  clear QLA
  have LB := QLB
  clear QLB
  have Lu := QLu
  clear QLu
  have Lr := QLr
  clear QLr
  have Ls := QLs
  clear QLs
  have TD := QTD
  clear QTD
  have TU := QTU
  clear QTU
  have PA := QPA
  clear QPA
  have PB := QPB
  clear QPB
  have Pu := QPu
  clear QPu
  have Pr_ := QPr_
  clear QPr_
  have Ps := QPs
  clear QPs
  have HB := QHB
  clear QHB
  have Ln := Lib.hid hLn
  have Pn := Lib.hid hPn
  have Sn : Hid (Sz 61 ((r : Int) + 1)) := Sr.out.add (SzOne (k := 59))
  clear hLn hPn hBn
  obtain ⟨gn, hgn⟩ : ∃ b, decide ((r : Int) + 1 < 0) = b := ⟨_, rfl⟩
  have Hn := Lib.hid hgn
  rw [hgn] at Pn
  clear hgn
  have ⟨c0, c1, _, _, _⟩ := Pn.out
  go_wp2_with fail
  refine (rmul_n _ _ _ _ _ _ _ 1500 ((r : Int) + 1) ((r : Int) + 1) Ln.out Ln.out (Sn.out.mono (by omega)) (Sn.out.mono (by omega)) (by omega) Hn.out Hn.out).mono ?_
  rintro e w7 ⟨At, nt, ct, rfl, ht, hb7⟩
  have QLA := Lib.hid (LA.out.via hb7)
  have QLB := Lib.hid (LB.out.via hb7)
  have QLu := Lib.hid (Lu.out.via hb7)
  have QLr := Lib.hid (Lr.out.via hb7)
  have QLs := Lib.hid (Ls.out.via hb7)
  have QLn := Lib.hid (Ln.out.via hb7)
  have QPA := Lib.hid (PA.out.via hb7)
  have QPB := Lib.hid (PB.out.via hb7)
  have QPu := Lib.hid (Pu.out.via hb7)
  have QPr_ := Lib.hid (Pr_.out.via hb7)
  have QPs := Lib.hid (Ps.out.via hb7)
  have QPn := Lib.hid (Pn.out.via hb7)
  have QTD := Lib.hid (TD.out.via hb7)
  have QTU := Lib.hid (TU.out.via hb7)
  have QHB := Lib.hid (HB.out.trans (hb7.mono HB.out.size))
  clear LA LB Lu Lr Ls Ln PA PB Pu Pr_ Ps Pn TD TU HB
  have LA := QLA
  clear QLA
  have LB := QLB
  clear QLB
  have Lu := QLu
  clear QLu
  have Lr := QLr
  clear QLr
  have Ls := QLs
  clear QLs
  have Ln := QLn
  clear QLn
  have PA := QPA
  clear QPA
  have PB := QPB
  clear QPB
  have Pu := QPu
  clear QPu
  have Pr_ := QPr_
  clear QPr_
  have Ps := QPs
  clear QPs
  have Pn := QPn
  clear QPn
  have TD := QTD
  clear QTD
  have TU := QTU
  clear QTU
  have HB := QHB
  clear QHB
  have Lt := Lib.hid ht
  have St : Hid (Sz 122 (((r : Int) + 1) * (r + 1))) := Sn.out.mul Sn.out
  clear ht
  obtain ⟨gt, hgt⟩ : ∃ b, decide (((r : Int) + 1) * (r + 1) < 0) = b := ⟨_, rfl⟩
  have Ht := Lib.hid hgt
  rw [hgt]
  clear hgt
  clear c0 c1
  clear hb7
  have ⟨c0, c1, _, _, _⟩ := Ps.out
  have ⟨c2, c3, _, _, _⟩ := Pu.out
  go_wp2_with fail
  refine (rcompared_n _ _ _ _ _ _ _ 1500 _ _ (Ls.out.box _) (Lu.out.box _) (Ss.out.mono (by omega)) (Su.out.mono (by omega)) (by omega) Hs.out Hu.out).mono ?_
  rintro e w8 ⟨rfl, hb8⟩
  have QLA := Lib.hid ((LA.out.box _).via hb8)
  have QLB := Lib.hid ((LB.out.box _).via hb8)
  have QLu := Lib.hid ((Lu.out.box _).via hb8)
  have QLr := Lib.hid ((Lr.out.box _).via hb8)
  have QLs := Lib.hid ((Ls.out.box _).via hb8)
  have QLn := Lib.hid ((Ln.out.box _).via hb8)
  have QLt := Lib.hid ((Lt.out.box _).via hb8)
  have QPA := Lib.hid ((PA.out.alloc _).via hb8)
  have QPB := Lib.hid ((PB.out.alloc _).via hb8)
  have QPu := Lib.hid ((Pu.out.alloc _).via hb8)
  have QPr_ := Lib.hid ((Pr_.out.alloc _).via hb8)
  have QPs := Lib.hid ((Ps.out.alloc _).via hb8)
  have QPn := Lib.hid ((Pn.out.alloc _).via hb8)
  have QTD := Lib.hid ((TD.out.box _).via hb8)
  have QTU := Lib.hid ((TU.out.box _).via hb8)
  have QHB := Lib.hid (HB.out.trans ((bbox hb8).mono HB.out.size))
  have Pt := Lib.hid ((Pr.new _ _ rfl _ _ _).via hb8)
  clear LA LB Lu Lr Ls Ln Lt PA PB Pu Pr_ Ps Pn TD TU HB
  have LA := QLA
  clear QLA
  have LB := QLB
  clear QLB
  have Lu := QLu
  clear QLu
  have Lr := QLr
  clear QLr
  have Ls := QLs
  clear QLs
  have Ln := QLn
  clear QLn
  have Lt := QLt
  clear QLt
  have PA := QPA
  clear QPA
  have PB := QPB
  clear QPB
  have Pu := QPu
  clear QPu
  have Pr_ := QPr_
  clear QPr_
  have Ps := QPs
  clear QPs
  have Pn := QPn
  clear QPn
  have TD := QTD
  clear QTD
  have TU := QTU
  clear QTU
  have HB := QHB
  clear QHB
  have hc1 : cmpZ ((r : Int) * r) (x.natAbs : Int) ≤ 0 := cmpZ_le (by have := Rt.out.1; exact_mod_cast this)
  generalize cmpZ ((r : Int) * r) (x.natAbs : Int) = cz at hc1
  have hc1' : decide (0 < cz) = false := decide_eq_false (by omega)
  clear c0 c1 c2 c3
  clear hb8
  have ⟨c0, c1, _, _, _⟩ := Pt.out
  have ⟨c2, c3, _, _, _⟩ := Pu.out
  go_wp2_with fail
  refine (rcompared_n _ _ _ _ _ _ _ 1500 _ _ Lt.out Lu.out (St.out.mono (by omega)) (Su.out.mono (by omega)) (by omega) Ht.out Hu.out).mono ?_
  rintro e w9 ⟨rfl, hb9⟩
  have QLA := Lib.hid (LA.out.via hb9)
  have QLB := Lib.hid (LB.out.via hb9)
  have QLu := Lib.hid (Lu.out.via hb9)
  have QLr := Lib.hid (Lr.out.via hb9)
  have QLs := Lib.hid (Ls.out.via hb9)
  have QLn := Lib.hid (Ln.out.via hb9)
  have QLt := Lib.hid (Lt.out.via hb9)
  have QPA := Lib.hid (PA.out.via hb9)
  have QPB := Lib.hid (PB.out.via hb9)
  have QPu := Lib.hid (Pu.out.via hb9)
  have QPr_ := Lib.hid (Pr_.out.via hb9)
  have QPs := Lib.hid (Ps.out.via hb9)
  have QPn := Lib.hid (Pn.out.via hb9)
  have QPt := Lib.hid (Pt.out.via hb9)
  have QTD := Lib.hid (TD.out.via hb9)
  have QTU := Lib.hid (TU.out.via hb9)
  have QHB := Lib.hid (HB.out.trans (hb9.mono HB.out.size))
  clear LA LB Lu Lr Ls Ln Lt PA PB Pu Pr_ Ps Pn Pt TD TU HB
  have LA := QLA
  clear QLA
  have LB := QLB
  clear QLB
  have Lu := QLu
  clear QLu
  have Lr := QLr
  clear QLr
  have Ls := QLs
  clear QLs
  have Ln := QLn
  clear QLn
  have Lt := QLt
  clear QLt
  have PA := QPA
  clear QPA
  have PB := QPB
  clear QPB
  have Pu := QPu
  clear QPu
  have Pr_ := QPr_
  clear QPr_
  have Ps := QPs
  clear QPs
  have Pn := QPn
  clear QPn
  have Pt := QPt
  clear QPt
  have TD := QTD
  clear QTD
  have TU := QTU
  clear QTU
  have HB := QHB
  clear QHB
  rw [cmpZ_gt (show (x.natAbs : Int) < ((r : Int) + 1) * (r + 1) by have := Rt.out.2; exact_mod_cast this)]
  clear c0 c1 c2 c3
  clear hb9
  clear Ls Lt Ln Lu Ps Pt Pn Pu Lr
  have ⟨c0, c1, _, _, _⟩ := Pr_.out
  go_wp2_with fail
  refine (from_any _ 2 (by omega) (by omega)).mono ?_
  rintro e w10 ⟨Aj, nj, cj, rfl, hLj, hb10⟩
  have QLA := Lib.hid (LA.out.via hb10)
  have QLB := Lib.hid (LB.out.via hb10)
  have QPA := Lib.hid (PA.out.via hb10)
  have QPB := Lib.hid (PB.out.via hb10)
  have QPr_ := Lib.hid (Pr_.out.via hb10)
  have QTD := Lib.hid (TD.out.via hb10)
  have QTU := Lib.hid (TU.out.via hb10)
  have QHB := Lib.hid (HB.out.trans (hb10.mono HB.out.size))
  clear LA LB PA PB Pr_ TD TU HB
  have LA := QLA
  clear QLA
  have LB := QLB
  clear QLB
  have PA := QPA
  clear QPA
  have PB := QPB
  clear QPB
  have Pr_ := QPr_
  clear QPr_
  have TD := QTD
  clear QTD
  have TU := QTU
  clear QTU
  have HB := QHB
  clear QHB
  have Lj := Lib.hid hLj
  clear hLj hc1 hc1'
  clear c0 c1
  clear hb10
  go_wp2_with fail
  refine (pow2_n _ _ _ _ k 2 Lj.out rfl (by omega)).mono ?_
  rintro e w11 ⟨Ap, np, cp, rfl, hLp, hb11⟩
  have QLA := Lib.hid (LA.out.via hb11)
  have QLB := Lib.hid (LB.out.via hb11)
  have QLj := Lib.hid (Lj.out.via hb11)
  have QPA := Lib.hid (PA.out.via hb11)
  have QPB := Lib.hid (PB.out.via hb11)
  have QPr_ := Lib.hid (Pr_.out.via hb11)
  have QTD := Lib.hid (TD.out.via hb11)
  have QTU := Lib.hid (TU.out.via hb11)
  have QHB := Lib.hid (HB.out.trans (hb11.mono HB.out.size))
  clear LA LB Lj PA PB Pr_ TD TU HB
  have LA := QLA
  clear QLA
  have LB := QLB
  clear QLB
  have Lj := QLj
  clear QLj
  have PA := QPA
  clear QPA
  have PB := QPB
  clear QPB
  have Pr_ := QPr_
  clear QPr_
  have TD := QTD
  clear QTD
  have TU := QTU
  clear QTU
  have HB := QHB
  clear QHB
  have Lp := Lib.hid hLp
  have Sp : Hid (Sz 8 ((2 : Int) ^ k)) := sz_two k hk
  have Pp0 : Hid (0 < (2 : Int) ^ k) := Int.pow_pos (by omega)
  clear hLp
  have Hp : Hid (decide ((2 : Int) ^ k < 0) = false) := decide_eq_false (by have := Pp0.out; omega)
  rw [Hp.out]
  clear hb11
  clear Lj
  clear Pr_
  have ⟨c0, c1, _, _, _⟩ := PA.out
  go_wp2_with fail
  refine (shup_n _ _ _ _ k x (LA.out.box _) 1500 (SX.out.mono (by omega)) (by omega) (by omega) HX.out).mono ?_
  rintro e w12 ⟨Au, nu, cu, rfl, hu, hb12⟩
  have QLA := Lib.hid ((LA.out.box _).via hb12)
  have QLB := Lib.hid ((LB.out.box _).via hb12)
  have QLp := Lib.hid ((Lp.out.box _).via hb12)
  have QPA := Lib.hid ((PA.out.alloc _).via hb12)
  have QPB := Lib.hid ((PB.out.alloc _).via hb12)
  have QTD := Lib.hid ((TD.out.box _).via hb12)
  have QTU := Lib.hid ((TU.out.box _).via hb12)
  have QHB := Lib.hid (HB.out.trans ((bbox hb12).mono HB.out.size))
  have Pp := Lib.hid ((Pr.new _ _ rfl _ _ _).via hb12)
  clear LA LB Lp PA PB TD TU HB
  have LA := QLA
  clear QLA
  have LB := QLB
  clear QLB
  have Lp := QLp
  clear QLp
  have PA := QPA
  clear QPA
  have PB := QPB
  clear QPB
  have TD := QTD
  clear QTD
  have TU := QTU
  clear QTU
  have HB := QHB
  clear QHB
  have Lu := Lib.hid hu
  have Su : Hid (Sz 68 (x * (2 : Int) ^ k)) := SX.out.mul Sp.out
  clear hu
  obtain ⟨gu, hgu⟩ : ∃ b, decide (x * (2 : Int) ^ k < 0) = b := ⟨_, rfl⟩
  have Hu := Lib.hid hgu
  rw [hgu]
  clear hgu
  clear c0 c1
  clear hb12
  have ⟨c0, c1, _, _, _⟩ := PA.out
  have ⟨c2, c3, _, _, _⟩ := Pp.out
  go_wp2_with fail
  refine (mul_n _ _ _ _ _ _ _ 1500 (x) ((2 : Int) ^ k) (LA.out.box _) (Lp.out.box _) (SX.out.mono (by omega)) (Sp.out.mono (by omega)) (by omega) HX.out Hp.out).mono ?_
  rintro e w13 ⟨Av, nv, cv, rfl, hv, hb13⟩
  have QLA := Lib.hid ((LA.out.box _).via hb13)
  have QLB := Lib.hid ((LB.out.box _).via hb13)
  have QLp := Lib.hid ((Lp.out.box _).via hb13)
  have QLu := Lib.hid ((Lu.out.box _).via hb13)
  have QPA := Lib.hid ((PA.out.alloc _).via hb13)
  have QPB := Lib.hid ((PB.out.alloc _).via hb13)
  have QPp := Lib.hid ((Pp.out.alloc _).via hb13)
  have QTD := Lib.hid ((TD.out.box _).via hb13)
  have QTU := Lib.hid ((TU.out.box _).via hb13)
  have QHB := Lib.hid (HB.out.trans ((bbox hb13).mono HB.out.size))
  have Pu := Lib.hid ((Pr.new _ _ rfl _ _ _).via hb13)
  clear LA LB Lp Lu PA PB Pp TD TU HB
  have LA := QLA
  clear QLA
  have LB := QLB
  clear QLB
  have Lp := QLp
  clear QLp
  have Lu := QLu
  clear QLu
  have PA := QPA
  clear QPA
  have PB := QPB
  clear QPB
  have Pp := QPp
  clear QPp
  have TD := QTD
  clear QTD
  have TU := QTU
  clear QTU
  have HB := QHB
  clear QHB
  have Lv := Lib.hid hv
  have Sv : Hid (Sz 68 (x * (2 : Int) ^ k)) := SX.out.mul Sp.out
  clear hv
  obtain ⟨gv, hgv⟩ : ∃ b, decide (x * (2 : Int) ^ k < 0) = b := ⟨_, rfl⟩
  have Hv := Lib.hid hgv
  rw [hgv]
  clear hgv
  clear c0 c1 c2 c3
  clear hb13
  have ⟨c0, c1, _, _, _⟩ := PA.out
  go_wp2_with fail
  refine (shdn_n _ _ _ _ k x (LA.out.box _) 1500 _ (SX.out.mono (by omega)) (by omega) rfl (by omega) (TD.out.box _) HX.out).mono ?_
  rintro e w14 ⟨Ad, nd, cd, rfl, hd, hb14⟩
  have QLA := Lib.hid ((LA.out.box _).via hb14)
  have QLB := Lib.hid ((LB.out.box _).via hb14)
  have QLp := Lib.hid ((Lp.out.box _).via hb14)
  have QLu := Lib.hid ((Lu.out.box _).via hb14)
  have QLv := Lib.hid ((Lv.out.box _).via hb14)
  have QPA := Lib.hid ((PA.out.alloc _).via hb14)
  have QPB := Lib.hid ((PB.out.alloc _).via hb14)
  have QPp := Lib.hid ((Pp.out.alloc _).via hb14)
  have QPu := Lib.hid ((Pu.out.alloc _).via hb14)
  have QTD := Lib.hid ((TD.out.box _).via hb14)
  have QTU := Lib.hid ((TU.out.box _).via hb14)
  have QHB := Lib.hid (HB.out.trans ((bbox hb14).mono HB.out.size))
  have Pv := Lib.hid ((Pr.new _ _ rfl _ _ _).via hb14)
  clear LA LB Lp Lu Lv PA PB Pp Pu TD TU HB
  have LA := QLA
  clear QLA
  have LB := QLB
  clear QLB
  have Lp := QLp
  clear QLp
  have Lu := QLu
  clear QLu
  have Lv := QLv
  clear QLv
  have PA := QPA
  clear QPA
  have PB := QPB
  clear QPB
  have Pp := QPp
  clear QPp
  have Pu := QPu
  clear QPu
  have TD := QTD
  clear QTD
  have TU := QTU
  clear QTU
  have HB := QHB
  clear QHB
  have Ld := Lib.hid hd
  have Sd : Hid (Sz 60 (x / (2 : Int) ^ k)) := sz_floor SX.out
  clear hd
  obtain ⟨gd, hgd⟩ : ∃ b, decide (x / (2 : Int) ^ k < 0) = b := ⟨_, rfl⟩
  have Hd := Lib.hid hgd
  rw [hgd]
  clear hgd
  clear c0 c1
  clear hb14
  have ⟨c0, c1, _, _, _⟩ := PA.out
  have ⟨c2, c3, _, _, _⟩ := Pp.out
  go_wp2_with fail
  refine (divmod_n _ _ _ _ _ _ _ 1500 x ((2 : Int) ^ k) (LA.out.box _) (Lp.out.box _) (SX.out.mono (by omega)) (Sp.out.mono (by omega)) (by omega) (by have := Pp0.out; omega) HX.out Hp.out).mono ?_
  rintro e w15 ⟨q, z, hq1, hq2, hq3, hq4, Aq, nq, cq, Az, nz, cz, rfl, hLq, hLz, hb15⟩
  have QLA := Lib.hid ((LA.out.box _).via hb15)
  have QLB := Lib.hid ((LB.out.box _).via hb15)
  have QLp := Lib.hid ((Lp.out.box _).via hb15)
  have QLu := Lib.hid ((Lu.out.box _).via hb15)
  have QLv := Lib.hid ((Lv.out.box _).via hb15)
  have QLd := Lib.hid ((Ld.out.box _).via hb15)
  have QPA := Lib.hid ((PA.out.alloc _).via hb15)
  have QPB := Lib.hid ((PB.out.alloc _).via hb15)
  have QPp := Lib.hid ((Pp.out.alloc _).via hb15)
  have QPu := Lib.hid ((Pu.out.alloc _).via hb15)
  have QPv := Lib.hid ((Pv.out.alloc _).via hb15)
  have QTD := Lib.hid ((TD.out.box _).via hb15)
  have QTU := Lib.hid ((TU.out.box _).via hb15)
  have QHB := Lib.hid (HB.out.trans ((bbox hb15).mono HB.out.size))
  have Pd := Lib.hid ((Pr.new _ _ rfl _ _ _).via hb15)
  clear LA LB Lp Lu Lv Ld PA PB Pp Pu Pv TD TU HB
  have LA := QLA
  clear QLA
  have LB := QLB
  clear QLB
  have Lp := QLp
  clear QLp
  have Lu := QLu
  clear QLu
  have Lv := QLv
  clear QLv
  have Ld := QLd
  clear QLd
  have PA := QPA
  clear QPA
  have PB := QPB
  clear QPB
  have Pp := QPp
  clear QPp
  have Pu := QPu
  clear QPu
  have Pv := QPv
  clear QPv
  have TD := QTD
  clear QTD
  have TU := QTU
  clear QTU
  have HB := QHB
  clear QHB
  have Lq := Lib.hid hLq
  have E1 : Hid (x / (2 : Int) ^ k = q) := (rd2_floor hq1 hq2 hq3 Pp0.out).symm
  have Sq : Hid (Sz 60 q) := Nat.lt_of_le_of_lt hq4 SX.out
  clear hLq hLz hq1 hq2 hq3 hq4
  obtain ⟨gq, hgq⟩ : ∃ b, decide (q < 0) = b := ⟨_, rfl⟩
  have Hq := Lib.hid hgq
  rw [hgq]
  clear hgq
  generalize decide (z < 0) = gz
  clear c0 c1 c2 c3
  clear hb15
  have ⟨c0, c1, _, _, _⟩ := Pu.out
  have ⟨c2, c3, _, _, _⟩ := Pv.out
  go_wp2_with fail
  refine (rsame_n _ _ _ _ _ _ _ (x * (2 : Int) ^ k) (x * (2 : Int) ^ k) ((Lu.out.box _).box _) ((Lv.out.box _).box _) Hu.out Hv.out (rfl)).mono ?_
  rintro e w16 ⟨rfl, hb16⟩
  have QLA := Lib.hid (((LA.out.box _).box _).via hb16)
  have QLB := Lib.hid (((LB.out.box _).box _).via hb16)
  have QLp := Lib.hid (((Lp.out.box _).box _).via hb16)
  have QLu := Lib.hid (((Lu.out.box _).box _).via hb16)
  have QLv := Lib.hid (((Lv.out.box _).box _).via hb16)
  have QLd := Lib.hid (((Ld.out.box _).box _).via hb16)
  have QLq := Lib.hid (((Lq.out.box _).box _).via hb16)
  have QPA := Lib.hid (((PA.out.alloc _).alloc _).via hb16)
  have QPB := Lib.hid (((PB.out.alloc _).alloc _).via hb16)
  have QPp := Lib.hid (((Pp.out.alloc _).alloc _).via hb16)
  have QPu := Lib.hid (((Pu.out.alloc _).alloc _).via hb16)
  have QPv := Lib.hid (((Pv.out.alloc _).alloc _).via hb16)
  have QPd := Lib.hid (((Pd.out.alloc _).alloc _).via hb16)
  have QTD := Lib.hid (((TD.out.box _).box _).via hb16)
  have QTU := Lib.hid (((TU.out.box _).box _).via hb16)
  have QHB := Lib.hid (HB.out.trans ((bbox (bbox hb16)).mono HB.out.size))
  have ⟨N0, N1⟩ := boxes2 hb16
  have Pq := Lib.hid N0
  have Pz := Lib.hid N1
  clear N0 N1
  clear LA LB Lp Lu Lv Ld Lq PA PB Pp Pu Pv Pd TD TU HB
  have LA := QLA
  clear QLA
  have LB := QLB
  clear QLB
  have Lp := QLp
  clear QLp
  have Lu := QLu
  clear QLu
  have Lv := QLv
  clear QLv
  have Ld := QLd
  clear QLd
  have Lq := QLq
  clear QLq
  have PA := QPA
  clear QPA
  have PB := QPB
  clear QPB
  have Pp := QPp
  clear QPp
  have Pu := QPu
  clear QPu
  have Pv := QPv
  clear QPv
  have Pd := QPd
  clear QPd
  have TD := QTD
  clear QTD
  have TU := QTU
  clear QTU
  have HB := QHB
  clear QHB
  clear c0 c1 c2 c3
  clear hb16
  have ⟨c0, c1, _, _, _⟩ := Pd.out
  have ⟨c2, c3, _, _, _⟩ := Pq.out
  go_wp2_with fail
  refine (rsame_n _ _ _ _ _ _ _ (x / (2 : Int) ^ k) (q) Ld.out Lq.out Hd.out Hq.out (E1.out)).mono ?_
  rintro e w17 ⟨rfl, hb17⟩
  have QLA := Lib.hid (LA.out.via hb17)
  have QLB := Lib.hid (LB.out.via hb17)
  have QLp := Lib.hid (Lp.out.via hb17)
  have QLu := Lib.hid (Lu.out.via hb17)
  have QLv := Lib.hid (Lv.out.via hb17)
  have QLd := Lib.hid (Ld.out.via hb17)
  have QLq := Lib.hid (Lq.out.via hb17)
  have QPA := Lib.hid (PA.out.via hb17)
  have QPB := Lib.hid (PB.out.via hb17)
  have QPp := Lib.hid (Pp.out.via hb17)
  have QPu := Lib.hid (Pu.out.via hb17)
  have QPv := Lib.hid (Pv.out.via hb17)
  have QPd := Lib.hid (Pd.out.via hb17)
  have QPq := Lib.hid (Pq.out.via hb17)
  have QPz := Lib.hid (Pz.out.via hb17)
  have QTD := Lib.hid (TD.out.via hb17)
  have QTU := Lib.hid (TU.out.via hb17)
  have QHB := Lib.hid (HB.out.trans (hb17.mono HB.out.size))
  clear LA LB Lp Lu Lv Ld Lq PA PB Pp Pu Pv Pd Pq Pz TD TU HB
  have LA := QLA
  clear QLA
  have LB := QLB
  clear QLB
  have Lp := QLp
  clear QLp
  have Lu := QLu
  clear QLu
  have Lv := QLv
  clear QLv
  have Ld := QLd
  clear QLd
  have Lq := QLq
  clear QLq
  have PA := QPA
  clear QPA
  have PB := QPB
  clear QPB
  have Pp := QPp
  clear QPp
  have Pu := QPu
  clear QPu
  have Pv := QPv
  clear QPv
  have Pd := QPd
  clear QPd
  have Pq := QPq
  clear QPq
  have Pz := QPz
  clear QPz
  have TD := QTD
  clear QTD
  have TU := QTU
  clear QTU
  have HB := QHB
  clear QHB
  clear c0 c1 c2 c3
  clear hb17
  clear Lp Lu Lv Ld Lq Pp Pu Pv Pd Pq Pz
  have ⟨c0, c1, _, _, _⟩ := PA.out
  have ⟨c2, c3, _, _, _⟩ := PB.out
  go_wp2_with fail
  refine (gcd_n _ _ _ _ _ _ _ 1500 (x) (y) LA.out LB.out (SX.out.mono (by omega)) (SY.out.mono (by omega)) (by omega) HX.out HY.out).mono ?_
  rintro e w18 ⟨Ac, nc, cc, rfl, hc, hb18⟩
  have QLA := Lib.hid (LA.out.via hb18)
  have QLB := Lib.hid (LB.out.via hb18)
  have QPA := Lib.hid (PA.out.via hb18)
  have QPB := Lib.hid (PB.out.via hb18)
  have QTD := Lib.hid (TD.out.via hb18)
  have QTU := Lib.hid (TU.out.via hb18)
  have QHB := Lib.hid (HB.out.trans (hb18.mono HB.out.size))
  clear LA LB PA PB TD TU HB
  have LA := QLA
  clear QLA
  have LB := QLB
  clear QLB
  have PA := QPA
  clear QPA
  have PB := QPB
  clear QPB
  have TD := QTD
  clear QTD
  have TU := QTU
  clear QTU
  have HB := QHB
  clear QHB
  have Lc := Lib.hid hc
  have Sc : Hid (Sz 60 ((Nat.gcd x.natAbs y.natAbs : Int))) := sz_gcd' SX.out SY.out
  clear hc
  obtain ⟨gc, hgc⟩ : ∃ b, decide ((Nat.gcd x.natAbs y.natAbs : Int) < 0) = b := ⟨_, rfl⟩
  have Hc := Lib.hid hgc
  rw [hgc]
  clear hgc
  clear c0 c1 c2 c3
  clear hb18
  have ⟨c0, c1, _, _, _⟩ := PA.out
  have ⟨c2, c3, _, _, _⟩ := PB.out
  go_wp2_with fail
  refine (add_n _ _ _ _ _ _ _ 1500 (x) (y) (LA.out.box _) (LB.out.box _) (SX.out.mono (by omega)) (SY.out.mono (by omega)) (by omega) HX.out HY.out).mono ?_
  rintro e w19 ⟨Ae, ne, ce, rfl, he, hb19⟩
  have QLA := Lib.hid ((LA.out.box _).via hb19)
  have QLB := Lib.hid ((LB.out.box _).via hb19)
  have QLc := Lib.hid ((Lc.out.box _).via hb19)
  have QPA := Lib.hid ((PA.out.alloc _).via hb19)
  have QPB := Lib.hid ((PB.out.alloc _).via hb19)
  have QTD := Lib.hid ((TD.out.box _).via hb19)
  have QTU := Lib.hid ((TU.out.box _).via hb19)
  have QHB := Lib.hid (HB.out.trans ((bbox hb19).mono HB.out.size))
  have Pc := Lib.hid ((Pr.new _ _ rfl _ _ _).via hb19)
  clear LA LB Lc PA PB TD TU HB
  have LA := QLA
  clear QLA
  have LB := QLB
  clear QLB
  have Lc := QLc
  clear QLc
  have PA := QPA
  clear QPA
  have PB := QPB
  clear QPB
  have TD := QTD
  clear QTD
  have TU := QTU
  clear QTU
  have HB := QHB
  clear QHB
  have Le := Lib.hid he
  have Se : Hid (Sz 61 (x + y)) := SX.out.add SY.out
  clear he
  obtain ⟨ge, hge⟩ : ∃ b, decide (x + y < 0) = b := ⟨_, rfl⟩
  have He := Lib.hid hge
  rw [hge]
  clear hge
  clear c0 c1 c2 c3
  clear hb19
  have ⟨c0, c1, _, _, _⟩ := PB.out
  go_wp2_with fail
  refine (gcd_n _ _ _ _ _ _ _ 1500 (x + y) (y) (Le.out.box _) (LB.out.box _) (Se.out.mono (by omega)) (SY.out.mono (by omega)) (by omega) He.out HY.out).mono ?_
  rintro e w20 ⟨Ao, no, co, rfl, ho, hb20⟩
  have QLA := Lib.hid ((LA.out.box _).via hb20)
  have QLB := Lib.hid ((LB.out.box _).via hb20)
  have QLc := Lib.hid ((Lc.out.box _).via hb20)
  have QLe := Lib.hid ((Le.out.box _).via hb20)
  have QPA := Lib.hid ((PA.out.alloc _).via hb20)
  have QPB := Lib.hid ((PB.out.alloc _).via hb20)
  have QPc := Lib.hid ((Pc.out.alloc _).via hb20)
  have QTD := Lib.hid ((TD.out.box _).via hb20)
  have QTU := Lib.hid ((TU.out.box _).via hb20)
  have QHB := Lib.hid (HB.out.trans ((bbox hb20).mono HB.out.size))
  have Pe := Lib.hid ((Pr.new _ _ rfl _ _ _).via hb20)
  clear LA LB Lc Le PA PB Pc TD TU HB
  have LA := QLA
  clear QLA
  have LB := QLB
  clear QLB
  have Lc := QLc
  clear QLc
  have Le := QLe
  clear QLe
  have PA := QPA
  clear QPA
  have PB := QPB
  clear QPB
  have Pc := QPc
  clear QPc
  have TD := QTD
  clear QTD
  have TU := QTU
  clear QTU
  have HB := QHB
  clear QHB
  have Lo := Lib.hid ho
  have So : Hid (Sz 61 ((Nat.gcd (x + y).natAbs y.natAbs : Int))) := sz_gcd' Se.out (SY.out.mono (by omega))
  clear ho
  obtain ⟨go, hgo⟩ : ∃ b, decide ((Nat.gcd (x + y).natAbs y.natAbs : Int) < 0) = b := ⟨_, rfl⟩
  have Ho := Lib.hid hgo
  rw [hgo]
  clear hgo
  clear c0 c1
  clear hb20
  have ⟨c0, c1, _, _, _⟩ := Pc.out
  go_wp2_with fail
  refine (rsame_n _ _ _ _ _ _ _ ((Nat.gcd x.natAbs y.natAbs : Int)) ((Nat.gcd (x + y).natAbs y.natAbs : Int)) (Lc.out.box _) (Lo.out.box _) Hc.out Ho.out (by rw [gcd_shift])).mono ?_
  rintro e w21 ⟨rfl, hb21⟩
  have QLA := Lib.hid ((LA.out.box _).via hb21)
  have QLB := Lib.hid ((LB.out.box _).via hb21)
  have QLc := Lib.hid ((Lc.out.box _).via hb21)
  have QLe := Lib.hid ((Le.out.box _).via hb21)
  have QLo := Lib.hid ((Lo.out.box _).via hb21)
  have QPA := Lib.hid ((PA.out.alloc _).via hb21)
  have QPB := Lib.hid ((PB.out.alloc _).via hb21)
  have QPc := Lib.hid ((Pc.out.alloc _).via hb21)
  have QPe := Lib.hid ((Pe.out.alloc _).via hb21)
  have QTD := Lib.hid ((TD.out.box _).via hb21)
  have QTU := Lib.hid ((TU.out.box _).via hb21)
  have QHB := Lib.hid (HB.out.trans ((bbox hb21).mono HB.out.size))
  have Po := Lib.hid ((Pr.new _ _ rfl _ _ _).via hb21)
  clear LA LB Lc Le Lo PA PB Pc Pe TD TU HB
  have LA := QLA
  clear QLA
  have LB := QLB
  clear QLB
  have Lc := QLc
  clear QLc
  have Le := QLe
  clear QLe
  have Lo := QLo
  clear QLo
  have PA := QPA
  clear QPA
  have PB := QPB
  clear QPB
  have Pc := QPc
  clear QPc
  have Pe := QPe
  clear QPe
  have TD := QTD
  clear QTD
  have TU := QTU
  clear QTU
  have HB := QHB
  clear QHB
  clear c0 c1
  clear hb21
  have ⟨c0, c1, _, _, _⟩ := Pc.out
  go_wp2_with fail
  refine (rcheck_n _ _ _ _ 1500 ((Nat.gcd x.natAbs y.natAbs : Int)) Lc.out (Sc.out.mono (by omega)) (by omega) Hc.out).mono ?_
  rintro e w22 ⟨rfl, hb22⟩
  have QLA := Lib.hid (LA.out.via hb22)
  have QLB := Lib.hid (LB.out.via hb22)
  have QLc := Lib.hid (Lc.out.via hb22)
  have QLe := Lib.hid (Le.out.via hb22)
  have QLo := Lib.hid (Lo.out.via hb22)
  have QPA := Lib.hid (PA.out.via hb22)
  have QPB := Lib.hid (PB.out.via hb22)
  have QPc := Lib.hid (Pc.out.via hb22)
  have QPe := Lib.hid (Pe.out.via hb22)
  have QPo := Lib.hid (Po.out.via hb22)
  have QTD := Lib.hid (TD.out.via hb22)
  have QTU := Lib.hid (TU.out.via hb22)
  have QHB := Lib.hid (HB.out.trans (hb22.mono HB.out.size))
  clear LA LB Lc Le Lo PA PB Pc Pe Po TD TU HB
  have LA := QLA
  clear QLA
  have LB := QLB
  clear QLB
  have Lc := QLc
  clear QLc
  have Le := QLe
  clear QLe
  have Lo := QLo
  clear QLo
  have PA := QPA
  clear QPA
  have PB := QPB
  clear QPB
  have Pc := QPc
  clear QPc
  have Pe := QPe
  clear QPe
  have Po := QPo
  clear QPo
  have TD := QTD
  clear QTD
  have TU := QTU
  clear QTU
  have HB := QHB
  clear QHB
  clear c0 c1
  clear hb22
  clear Le Lo Pe Po
  obtain rfl : gc = false := by rw [← Hc.out]; exact decide_eq_false (by omega)
  have G1 : Hid (Nat.gcd x.natAbs y.natAbs ∣ x.natAbs) := Nat.gcd_dvd_left _ _
  have G2 : Hid (Nat.gcd x.natAbs y.natAbs ∣ y.natAbs) := Nat.gcd_dvd_right _ _
  obtain ⟨q, hq⟩ : ∃ q, Nat.gcd x.natAbs y.natAbs = q := ⟨_, rfl⟩
  rw [hq] at Lc Sc Hc G1 G2
  clear hq
  have hcc := Lc.out.cap
  have hcx := Lc.out.max
  rcases Nat.eq_zero_or_pos q with h0 | h0
  · subst h0
    obtain rfl : nc = 0 := Lc.out.len.symm
    have hx0 : x.natAbs = 0 := Nat.eq_zero_of_zero_dvd G1.out
    have hy0 : y.natAbs = 0 := Nat.eq_zero_of_zero_dvd G2.out
    obtain rfl : n = 0 := by rw [← LA.out.len, hx0]; rfl
    obtain rfl : m = 0 := by rw [← LB.out.len, hy0]; rfl
    clear hx0 hy0
    have ⟨c0, c1, _, _, _⟩ := Pc.out
    have ⟨c2, c3, _, _, _⟩ := PA.out
    have ⟨c4, c5, _, _, _⟩ := PB.out
    go_wp2
    go_ret
    exact ⟨rfl, HB.out⟩
  have hnc : 0 < nc := by rw [← Lc.out.len, digs_pos]; rw [Int.natAbs_natCast]; exact h0
  have hncz : ((nc : Int) == 0) = false := by simp; omega
  have ⟨c0, c1, _, _, _⟩ := PA.out
  have ⟨c2, c3, _, _, _⟩ := Pc.out
  go_wp2_with fail
  refine (rdiv0_n _ _ _ _ _ _ _ 1500 (x) (q : Int) LA.out Lc.out (SX.out.mono (by omega)) (Sc.out.mono (by omega)) (by omega) HX.out Hc.out (by omega) (by rw [Int.natAbs_natCast]; exact G1.out)).mono ?_
  rintro e w23 ⟨Af, nf, cf, Bf, df, gf, sf, rfl, hb23⟩
  have QLA := Lib.hid (LA.out.via hb23)
  have QLB := Lib.hid (LB.out.via hb23)
  have QLc := Lib.hid (Lc.out.via hb23)
  have QPA := Lib.hid (PA.out.via hb23)
  have QPB := Lib.hid (PB.out.via hb23)
  have QPc := Lib.hid (Pc.out.via hb23)
  have QTD := Lib.hid (TD.out.via hb23)
  have QTU := Lib.hid (TU.out.via hb23)
  have QHB := Lib.hid (HB.out.trans (hb23.mono HB.out.size))
  clear LA LB Lc PA PB Pc TD TU HB
  have LA := QLA
  clear QLA
  have LB := QLB
  clear QLB
  have Lc := QLc
  clear QLc
  have PA := QPA
  clear QPA
  have PB := QPB
  clear QPB
  have Pc := QPc
  clear QPc
  have TD := QTD
  clear QTD
  have TU := QTU
  clear QTU
  have HB := QHB
  clear QHB
  clear c0 c1 c2 c3
  clear hb23
  have NB := (PB.out.alloc (.cells #[.bool gf, .slice Af nf cf] 24)).alloc (.cells #[.bool sf, .slice Bf 0 df] 24)
  have ⟨nb0, nb1, _, _, _⟩ := NB
  have hlt1 : w.heap.size < w23.heap.size := by have := PB.out.lt; omega
  have hlt2 : w.heap.size + 1 < w23.heap.size := PB.out.lt
  have hne3 : ¬ w.heap.size + 1 = w23.heap.size := by omega
  have hne4 : ¬ w23.heap.size = w.heap.size + 1 := by omega
  have hne1 : ¬ w.heap.size = w23.heap.size := by omega
  have hne2 : ¬ w23.heap.size = w.heap.size := by omega
  have ⟨c0, c1, _, _, _⟩ := PB.out
  have ⟨c2, c3, _, _, _⟩ := Pc.out
  go_wp2_with fail
  refine (rdiv0_n _ _ _ _ _ _ _ 1500 (y) (q : Int) ((LB.out.box _).box _) ((Lc.out.box _).box _) (SY.out.mono (by omega)) (Sc.out.mono (by omega)) (by omega) HY.out Hc.out (by omega) (by rw [Int.natAbs_natCast]; exact G2.out)).mono ?_
  rintro e w24 ⟨Ah, nh, ch, Bh, dh, gh, sh, rfl, hb24⟩
  have QLA := Lib.hid (((LA.out.box _).box _).via hb24)
  have QLB := Lib.hid (((LB.out.box _).box _).via hb24)
  have QLc := Lib.hid (((Lc.out.box _).box _).via hb24)
  have QPA := Lib.hid (((PA.out.alloc _).alloc _).via hb24)
  have QPB := Lib.hid (((PB.out.alloc _).alloc _).via hb24)
  have QPc := Lib.hid (((Pc.out.alloc _).alloc _).via hb24)
  have QTD := Lib.hid (((TD.out.box _).box _).via hb24)
  have QTU := Lib.hid (((TU.out.box _).box _).via hb24)
  have QHB := Lib.hid (HB.out.trans ((bbox (bbox hb24)).mono HB.out.size))
  have ⟨N0, N1⟩ := boxes2 hb24
  have Pf0 := Lib.hid N0
  have Pf := Lib.hid N1
  clear N0 N1
  clear LA LB Lc PA PB Pc TD TU HB
  have LA := QLA
  clear QLA
  have LB := QLB
  clear QLB
  have Lc := QLc
  clear QLc
  have PA := QPA
  clear QPA
  have PB := QPB
  clear QPB
  have Pc := QPc
  clear QPc
  have TD := QTD
  clear QTD
  have TU := QTU
  clear QTU
  have HB := QHB
  clear QHB
  clear c0 c1 c2 c3
  clear hb24
  have ⟨c0, c1, _, _, _⟩ := Pc.out
  have ⟨c2, c3, _, _, _⟩ := Pf.out
  have NH := Pr.new (w24.alloc (.cells #[.bool gh, .slice Ah nh ch] 24)) _ rfl (.bool sh) (.slice Bh 0 dh) 24
  have ⟨c4, c5, _, _, _⟩ := NH
  have NF := (Pf.out.alloc (.cells #[.bool gh, .slice Ah nh ch] 24)).alloc (.cells #[.bool sh, .slice Bh 0 dh] 24)
  have ⟨c6, c7, _, _, _⟩ := NF
  have hlt5 : w23.heap.size + 1 < w24.heap.size := Pf.out.lt
  have hlt6 : w23.heap.size < w24.heap.size := by omega
  have hne5 : ¬ w23.heap.size = w24.heap.size := by omega
  have hne6 : ¬ w24.heap.size = w23.heap.size := by omega
  have hne7 : ¬ w23.heap.size + 1 = w24.heap.size := by omega
  have hne8 : ¬ w24.heap.size = w23.heap.size + 1 := by omega
  go_wp2
  go_ret
  exact ⟨rfl, (HB.out.alloc HB.out.size _).alloc (HB.out.alloc HB.out.size _).size _⟩
end Go.Proofs.YtaegadicnbmapabDoor

namespace Go.Proofs.YtaegadicnbmapabDoor
open Go.ChangeShapes Go.WideShapes Go.ChangeAt Go.RowKit

theorem roots_any (w : World) (na nb : Bool) (A B : Option Addr) (n m ca cb : Nat) (xs ys : List Nat) (hA : Lm w w.heap.size A n ca xs) (hB : Lm w w.heap.size B m cb ys) (k : Int) (hk : (Lit.int .u8 k).wf = true) (hD : TabD w) (hU : TabU w) :
    Calls Tryd.prog 4 #[.agg #[.bool na, .slice A n ca], .agg #[.bool nb, .slice B m cb], .int .u8 k] w fun e w' => e = .returned (.bool true) ∧ Below w.heap.size w w' := by
  by_cases h : chk na xs = 0 ∧ chk nb ys = 0 ∧ chk nb ys = 0 ∧ (n : Int) ≤ 60 ∧ (m : Int) ≤ 60 ∧ (m : Int) ≤ 60
  · obtain ⟨k0, k1, _, g0, g1, _⟩ := h
    obtain ⟨x, rfl, rfl, hx⟩ := of_chk k0 hA.good (k := 60) (by rw [hA.len]; omega)
    obtain ⟨y, rfl, rfl, hy⟩ := of_chk k1 hB.good (k := 60) (by rw [hB.len]; omega)
    have hr : 0 ≤ k ∧ k ≤ 255 := by simpa [Lit.wf, IntKind.min, IntKind.max, IntKind.signed, IntKind.bits] using hk
    obtain ⟨j, rfl⟩ := Int.eq_ofNat_of_zero_le hr.1
    exact roots_main w A B n m ca cb j x y hA hB hD hU hx hy (by omega)
  · refine roots_long w na nb A B n m ca cb xs ys k hA hB hD hU fun W h1 h2 => ?_
    rcases long_any W na nb nb A B B n m m ca cb cb xs ys ys 60 h1 h2 h2 with ⟨a, b, c, d, e, f, _⟩ | h4
    · exact absurd ⟨a, b, c, d, e, f⟩ h
    · exact h4

set_option maxRecDepth 100000 in
theorem wideRoots_lifted (os : Os) (started : os.Started) (H : Type) (enc : TypeId × Value → H) :
    ReturnsInHanded {} Tryd.checked os 4 .any (fun w args => (Rows.wideRootsSpec.pre enc Tryd.prog Tryd.f4 [] false w args ∧ laidMetH Tryd.prog laid3 w) ∧ sizedMet enc Tryd.prog Tryd.f4 (OpenSpec.ofChange Rows.wideRootsSpec) false w args)
      (Rows.wideRootsSpec.post enc Tryd.prog Tryd.f4 false true false false) := by
  refine returnsInHanded_of_change_and (C := Tryd.checked) (X := fun w _ => laidMetH Tryd.prog laid3 w) (fun _ _ _ hh h => h.of_heap hh) own started (by kernel_rfl) Tryd.func4
    (ChangeSpec.witness_shaped (enc := enc) (C := Tryd.checked) (os := os) (X := fun w _ => laidMetH Tryd.prog laid3 w) false (World.doorLaid Tryd.prog 24 os) #[.agg #[.bool false, .slice none 0 0], .agg #[.bool false, .slice none 0 0], .int .u8 0] 8 rfl (World.shaped_of_RefB (by kernel_rfl) (by kernel_rfl)) (by kernel_rfl) (by kernel_rfl) (by kernel_rfl) (door_met os _)) ?_
  intro W base args ds gs before hval0 hW _ _ hL _
  obtain ⟨hTD, hTU⟩ := tabs_of hL
  have hval : ∀ (j : Nat) t v, Tryd.f4.params[j]? = some t → args[j]? = some v → Value.okWide Tryd.prog W .any base t v := hval0
  have hW' := hW
  obtain ⟨p, q, hA0, hV, rfl, hfz, hnd⟩ := hW
  have hA : DataW.TrodAll enc Tryd.prog W 0 (fun _ => true) true Tryd.f4.params.toList args.toList ds p := hA0
  rw [Tryd.params4] at hA hval
  obtain ⟨v0, v1, v2, d0, d1, d2, p0, p1, p2, rfl, rfl, rfl, h0, h1, h2⟩ := trodAll_three hA
  obtain ⟨rfl, rfl⟩ := trodVars_none hV
  clear hA0 hval0
  simp only [List.append_nil] at hW'
  obtain ⟨k2, rfl, rfl, rfl, wk2⟩ := open_int Tryd.underlying5 (hval 2 5 v2 rfl rfl) h2
  try (simp only [List.append_nil] at hW')
  try (simp only [List.nil_append] at hW')
  try (simp only [List.append_assoc] at hW')
  have hlt : ∀ x ∈ p0 ++ p1, x.block < W.heap.size := fun x hx => by simpa using hW'.lt x hx
  have hlt0 : ∀ x ∈ p0, x.block < W.heap.size := fun x hx => hlt x (List.mem_append_left _ hx)
  have hlt1 : ∀ x ∈ p1, x.block < W.heap.size := fun x hx => hlt x (List.mem_append_right _ hx)
  obtain ⟨na, A, n, ca, xs, rfl, hLA⟩ := open_wide (hval 0 24 v0 rfl rfl) h0 hlt0
  obtain ⟨nb, B, m, cb, ys, rfl, hLB⟩ := open_wide (hval 1 24 v1 rfl rfl) h1 hlt1
  refine (roots_any W na nb A B n m ca cb xs ys hLA hLB k2 wk2 hTD hTU).mono fun e W' ⟨he, hb⟩ => ?_
  subst he
  exact ⟨_, rfl, _, _, _, [], p0 ++ p1, [], hW', trodAll_mk1 (shut_bool Tryd.underlying4 _),
    (by have e := trodAll_mk3 (Below.trod laidOut (by kernel_rfl) (of_decide_eq_true (by kernel_rfl)) h0 hb hlt0) (Below.trod laidOut (by kernel_rfl) (of_decide_eq_true (by kernel_rfl)) h1 hb hlt1) (shut_int Tryd.underlying5 wk2); (try (simp only [List.append_nil] at e)); (try (simp only [List.nil_append] at e)); exact e), rfl, hb.frame _, fun h => by cases h⟩

theorem wideRoots_row : Rows.WideRootsSaid :=
  OpenClaim.holds_of_wide 4 Tryd.f4 rfl rfl rfl rfl rfl rfl rfl ⟨rfl, rfl, rfl, rfl, rfl⟩ rfl rfl rfl rfl rfl (by kernel_rfl) Tryd.func4 (by kernel_rfl)
    (of_decide_eq_true (by kernel_rfl)) (by unfold Func.isWrapper; first | (rw [if_pos (by decide +kernel)]; kernel_rfl) | (rw [if_neg (by decide +kernel)]; exact ⟨rfl, rfl⟩))
    (fun os started H enc _ => wideRoots_lifted os started H enc)

theorem wideRoots_holds : Rows.WideRootsCardSaid :=
  Claim7.holds_tied_plain_at .later [] [.data, .data, .data] true (Rows.wideRootsCard.stood.harness) false
    wideRoots_row (fun _ h => by cases h) (by kernel_rfl) (fun _ h => by cases h) wideRoots_row_tie rfl ⟨rfl, rfl⟩ (by kernel_rfl) rfl
    (fun f fn hf hfn => by
      obtain rfl : f = 4 := Option.some.inj ((show Tryd.prog.funcNamed "planisphere/planispherelaw01.WideRoots" = some 4 by kernel_rfl).symm.trans hf) |>.symm
      obtain rfl : fn = Tryd.f4 := (Option.some.inj (Tryd.func4.symm.trans hfn)).symm
      exact ⟨by kernel_rfl, fun j t ht => by
        rw [Tryd.params4] at ht
        have hm : t ∈ [24, 24, 5] := by simpa using Array.mem_of_getElem? ht
        have hall : ([24, 24, 5].all fun u => !Tryd.prog.wantsStandIn u) = true := by kernel_rfl
        exact (show Tryd.prog.wantsStandIn t = false by simpa using List.all_eq_true.1 hall t hm)⟩)
    (by kernel_rfl)
end Go.Proofs.YtaegadicnbmapabDoor

